import PyProof.Rows.All
import Wide.All
import OpenK.AllK
import Wide.FinOn
import Lean
import PyProof.EqAt
import PyProof.EqKinds
import PyProof.TupleCall
import PySem.Challenge.RW_momentties_k18_written_and_read

set_option Elab.async false
set_option linter.all false
set_option maxRecDepth 100000
/-! Loops while an own exception is being handled: the end of an iterator is raised with it as its context. -/
namespace L2
open PySem PySem.Spec PyProof.Rows
noncomputable abbrev excRec (C : Addr) (dx : Option Addr) (t tb : Value) : Obj := { cls := .ref C, dict := dx, data := .fields #[t, tb, .none, .none, .bool false, .none] }
noncomputable def Hd (A : Around) (h : Heap) : Prop := A.handled = none ∨ ∃ (a C : Addr) (dx : Option Addr) (t tb : Value), A.handled = some (.ref a) ∧ h.get? a = some (excRec C dx t tb)
theorem entry_unchain : entryFor table "proto.unchain" = some Builtin.«proto.unchain» := entryFor_of_tree (by kernel_rfl)
section
variable {prog : Program} {w : World} {A : Around} {E : Value → Shared → Prop} {s : Shared}
theorem Hd.keep {h h' : Heap} (q : Hd A h) (k : ∀ b C dx t tb, h.get? b = some (excRec C dx t tb) → h'.get? b = some (excRec C dx t tb)) : Hd A h' := by
  rcases q with q | ⟨a, C, dx, t, tb, q, e⟩
  · exact .inl q
  · exact .inr ⟨a, C, dx, t, tb, q, k a C dx t tb e⟩
theorem raise_hd {α : Type} {e : Addr} {oe : Obj} {vs : Array Value} {Q : α → Shared → Prop} (q : Hd A s.heap) (he : s.heap.get? e = some oe) (hc : ∃ n, oe.cls = .type n) (hd : oe.data = .fields vs) (hz : 2 < vs.size)
    (h : ∀ h', Heap.SameBut e s.heap h' → (∃ o, h'.get? e = some o ∧ o.cls = oe.cls) → E (.ref e) { s with heap := h' }) : wpAny (model prog w) A (raiseNew (.ref e) : Sem α) Q E s := by
  unfold raiseNew
  refine wpAny_bind (wpAny_handled ?_)
  rcases q with q | ⟨a, C, dx, t, tb, q, ea⟩
  · rw [q]
    exact wpAny_bind (wpAny_pure (wpAny_throw (h s.heap (Heap.SameBut.refl ..) ⟨oe, he, rfl⟩)))
  · rw [q]
    have ne : a ≠ e := fun z => by
      rw [z, he] at ea
      obtain ⟨n, hn⟩ := hc
      rw [Option.some.inj ea] at hn
      cases hn
    dsimp only
    rw [if_pos (show (Value.ref a != Value.ref e) = true by simp [ne])]
    refine wpAny_bind (wpAny_holding (wpAny_runValue (codeAny_builtin entry_unchain ?_)))
    show wpAny _ _ (field (.ref a) 2 >>= _) _ _ s
    refine wpAny_bind (wpAny_field ea rfl (x := .none) rfl ?_)
    rw [if_pos (by rfl)]
    refine wpAny_bind (wpAny_pure (wpAny_pure ?_))
    refine wpAny_bind (wpAny_setField (a := e) he hd hz ?_)
    exact wpAny_throw (h _ (Heap.SameBut.update ..) ⟨_, Heap.get?_update_self _ he (Obj.isFreed_of_fields (Obj.data_mapFields hd _)), Obj.cls_mapFields ..⟩)
theorem stop_hd {α : Type} {Q : α → Shared → Prop} (q : Hd A s.heap)
    (h : ∀ e h', (∀ b o, s.heap.get? b = some o → h'.get? b = some o) → (∃ o, h'.get? e = some o ∧ o.cls = .type "StopIteration") → E (.ref e) { s with heap := h' }) :
    wpAny (model prog w) A (newExc (.type "StopIteration") [] >>= fun x => (raiseNew x : Sem α)) Q E s := by
  refine wpAny_bind ?_
  unfold newExc newTuple
  refine wpAny_bind (wpAny_newObj_type ?_ (by size_fits))
  refine wpAny_bind (wpAny_of_eq (a := Value.none) (by first | rfl | (simp only [firstArgMember]; rfl)) ?_)
  refine wpAny_newObj_type ?_ (by size_fits)
  refine raise_hd (q.keep fun b C dx t tb e => Heap.get?_push_of_some _ (Heap.get?_push_of_some _ e)) (Heap.get?_push_size _ rfl) ⟨_, rfl⟩ rfl (by simp; omega) fun h' sb ⟨o, eo, ec⟩ => ?_
  refine h _ h' (fun b o' e => ?_) ⟨o, eo, ec⟩
  have e1 := Heap.get?_push_of_some (h := s.heap) { cls := .type "tuple", data := .seq ([] : List Value).toArray } e
  exact (sb.2 b (Nat.ne_of_lt (Heap.lt_size e1))).trans (Heap.get?_push_of_some _ e1)
theorem ends_hd {it : Addr} {s0 : Shared} {e : Addr} {h' : Heap} {Q : Option Value → Shared → Prop} (k : ∀ b o, b ≠ it → s0.heap.get? b = some o → h'.get? b = some o) (t : ∃ o, h'.get? e = some o ∧ o.cls = .type "StopIteration") (hQ : ∀ h', Heap.ExtBut it s0.heap h' → Q none { s0 with heap := h' }) :
    wpAny (model prog w) A (isInstance (.ref e) (.type "StopIteration")) (fun b s' => b = true ∧ Q none s') E { s0 with heap := h' } := by
  obtain ⟨o, e1, e2⟩ := t
  exact wpAny_isInstance (T := "StopIteration") (b := true) ⟨o, e1, e2⟩ isSubtype_stop ⟨rfl, hQ h' fun b u hb e => k b u hb e⟩
theorem list_end_hd {it l : Addr} {i : Nat} {items : Array Value} {Q : Option Value → Shared → Prop} (q : Hd A s.heap) (st : s.heap.IsListIter it l i) (hl : s.heap.IsList l items) (hx : items[i]? = none)
    (hQ : ∀ h', Heap.ExtBut it s.heap h' → Q none { s with heap := h' }) : wpAny (model prog w) A (pyNext (.ref it)) Q E s := by
  obtain ⟨u, hu, cu, du⟩ := id st
  obtain ⟨v, hv, _, nv, dv⟩ := hl
  unfold pyNext
  refine wpAny_bind (wpAny_attempt (wpAny_callSpecial?_slot (name := Str.ofString "__next__") st.typeIs slot_listiter_next (wpAny_call_entry slot_listiter_next st.typeIs entry_listiter_next ?_ (args_listiter_next _))))
  show wpAny _ _ (field (.ref it) 0 >>= _) _ _ s
  refine wpAny_bind (wpAny_field hu du (x := .ref l) rfl ?_)
  rw [if_neg (show ¬ ((Value.ref l == Value.none) = true) from Bool.false_ne_true)]
  refine wpAny_bind (wpAny_field hu du (x := .int i 0) rfl (wpAny_bind (wpAny_seqItems hv dv ?_)))
  simp only [Int.toNat_natCast, hx]
  refine wpAny_bind (wpAny_rule (wpAny_bind (wpAny_setField hu du (by simp) ?_)))
  have other : ∀ b o, b ≠ it → s.heap.get? b = some o → (s.heap.update it (Obj.mapFields (·.setIfInBounds 0 Value.none))).get? b = some o := fun b o hb e => (Heap.get?_update_other _ _ (Ne.symm hb)).trans e
  refine stop_hd (A := A.in1) (s := { s with heap := s.heap.update it (Obj.mapFields (·.setIfInBounds 0 Value.none)) }) (Hd.keep (A := A.in1) q fun b C dx t tb e => other b _ (fun z => ?_) e) fun e h' kk te => ?_
  · rw [z, hu] at e
    cases e
    cases cu
  · refine wpAny_bind (wpAny_mono (ends_hd (s0 := s) (fun b o hb z => kk b o (other b o hb z)) te hQ) (fun b s' z => ?_) fun _ _ z => z)
    obtain ⟨rfl, z⟩ := z
    exact wpAny_pure z
theorem range_end_hd {it : Addr} {x left step : Int} {Q : Option Value → Shared → Prop} (q : Hd A s.heap) (st : IsRangeIter s.heap it x left step) (hz : left ≤ 0)
    (hQ : ∀ h', Heap.ExtBut it s.heap h' → Q none { s with heap := h' }) : wpAny (model prog w) A (pyNext (.ref it)) Q E s := by
  have ty : s.TypeIs (.ref it) "range_iterator" := ⟨_, st, rfl⟩
  unfold pyNext
  refine wpAny_bind (wpAny_attempt (wpAny_callSpecial?_slot (name := Str.ofString "__next__") ty F.slot_range_iterator_next (wpAny_call_entry F.slot_range_iterator_next ty F.entry_range_iterator_next ?_ (F.args_range_iterator_next_1 _))))
  show wpAny _ _ (field (.ref it) 0 >>= _) _ _ s
  refine wpAny_bind (wpAny_field st rfl (x := rawInt x) rfl (wpAny_bind (wpAny_field st rfl (x := rawInt left) rfl (wpAny_bind (wpAny_field st rfl (x := rawInt step) rfl ?_)))))
  show wpAny _ _ (if left ≤ 0 then _ else _) _ _ s
  rw [if_pos hz]
  refine wpAny_bind (wpAny_rule ?_)
  refine wpAny_bind ?_
  refine stop_hd (A := A.in1) (s := s) q fun e h' kk te => ?_
  refine wpAny_bind (wpAny_mono (ends_hd (s0 := s) (fun b o _ z => kk b o z) te hQ) (fun b s' z => ?_) fun _ _ z => z)
  obtain ⟨rfl, z⟩ := z
  exact wpAny_pure z
theorem tup_end_hd {it t : Addr} {i : Nat} {items : Array Value} {Q : Option Value → Shared → Prop} (q : Hd A s.heap) (st : IsTupIter s.heap it t i) (hl : IsTup s.heap t items) (hx : items[i]? = none)
    (hQ : ∀ h', Heap.ExtBut it s.heap h' → Q none { s with heap := h' }) : wpAny (model prog w) A (pyNext (.ref it)) Q E s := by
  obtain ⟨u, hu, cu, du⟩ := id st
  obtain ⟨v, hv, _, nv, dv⟩ := hl
  unfold pyNext
  refine wpAny_bind (wpAny_attempt (wpAny_callSpecial?_slot (name := Str.ofString "__next__") st.typeIs slot_tupleiter_next (wpAny_call_entry slot_tupleiter_next st.typeIs entry_tupleiter_next ?_ (args_tupleiter_next _))))
  show wpAny _ _ (field (.ref it) 0 >>= _) _ _ s
  refine wpAny_bind (wpAny_field hu du (x := .ref t) rfl ?_)
  rw [if_neg (show ¬ ((Value.ref t == Value.none) = true) from Bool.false_ne_true)]
  refine wpAny_bind (wpAny_field hu du (x := .int i 0) rfl (wpAny_bind (wpAny_seqItems hv dv ?_)))
  simp only [Int.toNat_natCast, hx]
  refine wpAny_bind (wpAny_rule (wpAny_bind (wpAny_setField hu du (by simp) ?_)))
  have other : ∀ b o, b ≠ it → s.heap.get? b = some o → (s.heap.update it (Obj.mapFields (·.setIfInBounds 0 Value.none))).get? b = some o := fun b o hb e => (Heap.get?_update_other _ _ (Ne.symm hb)).trans e
  refine stop_hd (A := A.in1) (s := { s with heap := s.heap.update it (Obj.mapFields (·.setIfInBounds 0 Value.none)) }) (Hd.keep (A := A.in1) q fun b C dx tt tb e => other b _ (fun z => ?_) e) fun e h' kk te => ?_
  · rw [z, hu] at e
    cases e
    cases cu
  · refine wpAny_bind (wpAny_mono (ends_hd (s0 := s) (fun b o hb z => kk b o (other b o hb z)) te hQ) (fun b s' z => ?_) fun _ _ z => z)
    obtain ⟨rfl, z⟩ := z
    exact wpAny_pure z
theorem range_item_hd {it : Addr} {lo : Int} {i n : Nat} {Q : Option Value → Shared → Prop} (hi : i < n) (st : IsRangeIter s.heap it (lo + (i : Nat) * 1) ((n : Int) - (i : Nat)) 1)
    (hQ : ∀ (t : Tok) h' tk, IsRangeIter h' it (lo + ((i + 1 : Nat) : Int) * 1) ((n : Int) - ((i + 1 : Nat) : Int)) 1 → (∀ b o, b ∉ [it] → s.heap.get? b = some o → h'.get? b = some o) → Q (some (.int (lo + (i : Nat) * 1) t)) { s with heap := h', toks := tk }) :
    wpAny (model prog w) A (pyNext (.ref it)) Q E s := by
  refine wpAny_pyNext_range_item st (by omega) fun h' st' sb => ?_
  refine hQ _ h' _ ?_ fun b o hb e => sb.extBut b o (fun z => hb (by simp [z])) e
  have e1 : lo + ((i + 1 : Nat) : Int) * 1 = lo + (i : Int) * 1 + 1 := by omega
  have e2 : (n : Int) - ((i + 1 : Nat) : Int) = (n : Int) - (i : Int) - 1 := by omega
  rw [e1, e2]
  exact st'
end
end L2

set_option Elab.async false
set_option linter.all false
set_option maxRecDepth 100000
/-! THE HAND LAYER, for ints, bools, texts, own classes, LISTS and tuples (index, slices, in, append, pop ..), calls, loops. Paste it whole ahead of your own text; what your proof does not reach may be deleted. -/
namespace L2
open PySem PySem.Spec PyProof.Rows

noncomputable abbrev Key := Sum Int Str
noncomputable def keyIs : Key → Value → Bool
  | .inl k, v => Value.isInt k v
  | .inr x, v => Value.isStrOf x v
noncomputable def keyH (w : World) : Key → Int
  | .inl k => hashInt k
  | .inr x => hashStr w x
theorem keyIs_shape : ∀ {k : Key} {v : Value}, keyIs k v = true → (∃ i t, k = Sum.inl i ∧ v = Value.int i t) ∨ (∃ x t, k = Sum.inr x ∧ v = Value.str x t)
  | .inl i, v, h => by
    obtain ⟨t, e⟩ := Value.isInt_shape (k := i) (v := v) h
    exact .inl ⟨i, t, rfl, e⟩
  | .inr x, v, h => by
    obtain ⟨t, e⟩ := Value.isStrOf_shape (x := x) (v := v) h
    exact .inr ⟨x, t, rfl, e⟩
theorem key_ll (a b : Int) : decide ((Sum.inl a : Key) = Sum.inl b) = (a == b) := by
  by_cases e : a = b
  · subst e; simp
  · have h : ¬ (Sum.inl a : Key) = Sum.inl b := fun q => e (Sum.inl.inj q)
    rw [decide_eq_false h]
    exact (beq_eq_false_iff_ne.mpr e).symm
theorem key_rr (a b : Str) : decide ((Sum.inr a : Key) = Sum.inr b) = decide (a = b) := by
  by_cases e : a = b
  · subst e; simp
  · have h : ¬ (Sum.inr a : Key) = Sum.inr b := fun q => e (Sum.inr.inj q)
    rw [decide_eq_false h, decide_eq_false e]
theorem key_lr (a : Int) (b : Str) : decide ((Sum.inl a : Key) = Sum.inr b) = false := decide_eq_false (fun q => nomatch q)
theorem key_rl (a : Str) (b : Int) : decide ((Sum.inr a : Key) = Sum.inl b) = false := decide_eq_false (fun q => nomatch q)

noncomputable def mixKind (prog : Program) (w : World) : PySem.KeyKind prog w Key where
  is := keyIs
  hash := keyH w
  inj := fun v a b ha hb => by
    rcases keyIs_shape ha with ⟨i, t, rfl, rfl⟩ | ⟨x, t, rfl, rfl⟩
    · rcases keyIs_shape hb with ⟨j, u, rfl, e⟩ | ⟨y, u, rfl, e⟩
      · injection e with e1 _; rw [e1]
      · exact nomatch e
    · rcases keyIs_shape hb with ⟨j, u, rfl, e⟩ | ⟨y, u, rfl, e⟩
      · exact nomatch e
      · injection e with e1 _; rw [e1]
  byValue := fun k v h => by
    rcases keyIs_shape h with ⟨i, t, rfl, rfl⟩ | ⟨x, t, rfl, rfl⟩ <;> rfl
  pyHash := fun hv h => by
    rcases keyIs_shape hv with ⟨i, t, rfl, rfl⟩ | ⟨x, t, rfl, rfl⟩
    · exact wpAny_pyHash_int h
    · exact wpAny_pyHash_str h
  eqBool := fun hu hv h => by
    rcases keyIs_shape hu with ⟨i, t, rfl, rfl⟩ | ⟨x, t, rfl, rfl⟩
    · rcases keyIs_shape hv with ⟨j, u, rfl, rfl⟩ | ⟨y, u, rfl, rfl⟩
      · rw [key_ll] at h; exact wpAny_eqBool_int h
      · rw [key_lr] at h; exact SeqAt.EqAt.int_str i t y u _ _ _ _ h
    · rcases keyIs_shape hv with ⟨j, u, rfl, rfl⟩ | ⟨y, u, rfl, rfl⟩
      · rw [key_rl] at h; exact SeqAt.EqAt.str_int x t j u _ _ _ _ h
      · rw [key_rr] at h; exact wpAny_eqBool_str h
  «strs» := fun k x t v h => by
    rcases keyIs_shape h with ⟨i, u, rfl, e⟩ | ⟨y, u, rfl, e⟩
    · exact nomatch e
    · injection e with e1 _
      subst e1
      cases v <;> rfl

end L2

namespace L2
open PySem PySem.Spec PyProof.Rows

inductive V where
  | non | bl (b : Bool) | int (i : Int) | str (x : Str) | byt (b : Array UInt8) | flt (b : UInt64) | ref (a : Addr) | ty (n : String)
  deriving DecidableEq

noncomputable def RelV : V → Value → Prop
  | .non, u => u = Value.none
  | .bl b, u => u = Value.bool b
  | .int i, u => ∃ t, u = Value.int i t
  | .str x, u => ∃ t, u = Value.str x t
  | .byt b, u => ∃ t, u = Value.bytes b t
  | .flt b, u => ∃ t, u = Value.float b t
  | .ref a, u => u = Value.ref a
  | .ty n, u => u = Value.type n

noncomputable abbrev Vals : List V → List Value → Prop := Paired RelV
theorem Vals.length {xs : List V} {us : List Value} (r : Vals xs us) : xs.length = us.length := Paired.length r
theorem Vals.get : ∀ {xs : List V} {us : List Value} {i : Nat} {x : V}, Vals xs us → xs[i]? = some x → ∃ u, us[i]? = some u ∧ RelV x u
  | _, _, _, _, .nil, e => by simp at e
  | _, _, 0, _, .cons r _, e => by simp at e; subst e; exact ⟨_, rfl, r⟩
  | _, _, i + 1, x, .cons _ t, e => by
    obtain ⟨u, h1, h2⟩ := Vals.get (i := i) (x := x) t (by simpa using e)
    exact ⟨u, by simpa using h1, h2⟩
theorem Vals.set {x : V} {u : Value} (r : RelV x u) : ∀ {xs : List V} {us : List Value} (i : Nat), Vals xs us → Vals (xs.set i x) (us.set i u)
  | _, _, _, .nil => .nil
  | _, _, 0, .cons _ t => .cons r t
  | _, _, i + 1, .cons q t => .cons q (Vals.set r i t)
theorem Vals.append {xs ys : List V} {us ws : List Value} (h : Vals xs us) (s : Vals ys ws) : Vals (xs ++ ys) (us ++ ws) := by
  induction h with
  | nil => exact s
  | cons r t ih => exact .cons r ih
theorem Vals.take : ∀ {xs : List V} {us : List Value} (n : Nat), Vals xs us → Vals (xs.take n) (us.take n)
  | _, _, 0, _ => .nil
  | _, _, _ + 1, .nil => .nil
  | _, _, n + 1, .cons r t => .cons r (Vals.take n t)
theorem Vals.drop : ∀ {xs : List V} {us : List Value} (n : Nat), Vals xs us → Vals (xs.drop n) (us.drop n)
  | _, _, 0, r => r
  | _, _, _ + 1, .nil => .nil
  | _, _, n + 1, .cons _ t => Vals.drop n t

noncomputable def RelO : Option V → Option Value → Prop
  | some v, some u => RelV v u
  | none, none => True
  | _, _ => False
noncomputable def KV {κ : Type} : List (κ × V) → List (κ × Value) → Prop := Paired fun (p : κ × V) (q : κ × Value) => p.1 = q.1 ∧ RelV p.2 q.2

noncomputable def kV : Key → V
  | .inl i => .int i
  | .inr x => .str x

inductive HO where
  | lst (xs : List V)
  | tup (xs : List V)
  | dK (kvs : List (Key × V)) | dT (kvs : List (List Key × V))
  | set (S : Int → Bool) (n : Nat)
  | ins (C dx : Addr) (fs : List (Str × V))
  | own (x : Addr)
  | xd (fs : List (Str × V))
  | met (f x : Addr)
  | rng (lo hi : Int)
  | frz (o : Obj) (u : HO)
  | tbl (ps : Array Value)
  | ext (φ : Heap → Prop)

noncomputable abbrev Hp := Addr → Option HO
noncomputable def upd (H : Hp) (a : Addr) (o : HO) : Hp := fun b => if b = a then some o else H b
theorem upd_same {H : Hp} {a : Addr} {o : HO} : upd H a o a = some o := by unfold upd; rw [if_pos rfl]
theorem upd_ne {H : Hp} {a b : Addr} {o : HO} (h : b ≠ a) : upd H a o b = H b := by unfold upd; rw [if_neg h]
theorem upd_upd {H : Hp} {a : Addr} {o u : HO} : upd (upd H a o) a u = upd H a u := by
  funext b; unfold upd; split <;> rfl
theorem ne_of {H : Hp} {a b : Addr} {o u : HO} (h : H a = some o) (h' : H b = some u) (d : o ≠ u) : a ≠ b := by
  intro e; subst e; rw [h] at h'; exact d (Option.some.inj h')
theorem ne_of_none {H : Hp} {a b : Addr} {o : HO} (h : H a = some o) (h' : H b = none) : a ≠ b := by
  intro e; subst e; rw [h] at h'; cases h'

section
variable (P : Program) (w : World)
noncomputable def ObjOk (H : Hp) (h : Heap) (a : Addr) : HO → Prop
  | .lst xs => xs.length ≤ sizeLine ∧ ∃ (its : List Value) (n : Nat), Vals xs its ∧ h.get? a = some { cls := .type "list", data := .seq its.toArray n }
  | .tup xs => xs.length ≤ sizeLine ∧ ∃ its : List Value, Vals xs its ∧ IsTup h a its.toArray
  | .dK kvs => kvs.length ≤ sizeLine ∧ (a == sysModules) = false ∧ ∃ vs, KV kvs vs ∧ h.DictOf (mixKind P w) a vs
  | .dT kvs => kvs.length ≤ sizeLine ∧ (a == sysModules) = false ∧ ∃ xs : List (List Key × Addr × Value),
      Paired (fun (p : List Key × V) (q : List Key × Addr × Value) => p.1 = q.1 ∧ H q.2.1 = some (.tup (p.1.map kV)) ∧ RelV p.2 q.2.2) kvs xs ∧
      ∃ o es ep, h.get? a = some o ∧ o.ExactDict ∧ o.data = .dict es ep ∧ es.toList = xs.map (entryOfKey (tupleKind (mixKind P w))) ∧ (xs.map (·.1)).Nodup
  | .set S n => h.SetOf (intKind P w) a S n
  | .ins C dx fs => H dx = some (.own a) ∧ fs.length ≤ 1000 ∧ dx ≠ a ∧ h.get? a = some (PySem.W.instObj C dx) ∧
      ∃ mA, h.Ns1 dx mA ∧ (∀ f, RelO (fs.lookup f) (mA f)) ∧ PySem.Within mA (fs.map (·.1))
  | .own _ => ∃ o, h.get? a = some o
  | .xd fs => ∃ mA, h.Ns1 a mA ∧ ∀ f, RelO (fs.lookup f) (mA f)
  | .rng lo hi => ∃ t u v, h.get? a = some { cls := .type "range", data := .fields #[.int lo t, .int hi u, .int 1 v] }
  | .frz o u => h.get? a = some o ∧ ObjOk H h a u
  | .tbl ps => h.get? a = some { cls := .none, data := .fields ps }
  | .met f x => h.get? a = some (PySem.W.methodObj (.ref f) (.ref x))
  | .ext φ => φ h ∧ (∃ o, h.get? a = some o) ∧ ∀ h1 h2 : Heap, φ h1 → (∀ o, h1.get? a = some o → h2.get? a = some o) → φ h2
noncomputable def HOk (H : Hp) (h : Heap) : Prop := ∀ a o, H a = some o → ObjOk P w H h a o
end

section
variable {P : Program} {w : World} {H H' : Hp} {h h' : Heap} {a : Addr} {o : HO}
theorem ObjOk.lt (x : ObjOk P w H h a o) : a < h.objs.size := by
  cases o with
  | lst xs => obtain ⟨_, _, _, _, e⟩ := x; exact Heap.lt_size e
  | tup xs => obtain ⟨_, _, _, p⟩ := x; exact p.lt
  | dK kvs => obtain ⟨_, _, _, _, o, _, _, e, _⟩ := x; exact Heap.lt_size e
  | dT kvs => obtain ⟨_, _, _, _, o, _, _, e, _⟩ := x; exact Heap.lt_size e
  | set S n => obtain ⟨o, _, _, _, e, _⟩ := x; exact Heap.lt_size e
  | ins C dx fs => obtain ⟨_, _, _, e, _⟩ := x; exact Heap.lt_size e
  | own y => obtain ⟨_, e⟩ := x; exact Heap.lt_size e
  | xd fs => obtain ⟨_, ⟨_, _, _, e, _⟩, _⟩ := x; exact Heap.lt_size e
  | rng lo hi => obtain ⟨_, _, _, e⟩ := x; exact Heap.lt_size e
  | frz ob u => obtain ⟨e, _⟩ := x; exact Heap.lt_size e
  | tbl ps => exact Heap.lt_size (show h.get? a = some _ from x)
  | met f y => exact Heap.lt_size (show h.get? a = some _ from x)
  | ext φ => obtain ⟨_, ⟨_, e⟩, _⟩ := x; exact Heap.lt_size e
theorem Paired.mapP {α β : Type} {F G : α → β → Prop} {l₁ : List α} {l₂ : List β} (h : Paired F l₁ l₂) (f : ∀ a b, F a b → G a b) : Paired G l₁ l₂ := by
  induction h with
  | nil => exact .nil
  | cons r t ih => exact .cons (f _ _ r) ih
theorem ObjOk.stay (x : ObjOk P w H h a o) (k : ∀ b u, (b = a ∨ H b = some (.own a)) → h.get? b = some u → h'.get? b = some u)
    (ho : ∀ b, H b = some (.own a) → H' b = some (.own a)) (ht : ∀ b xs, H b = some (.tup xs) → H' b = some (.tup xs)) : ObjOk P w H' h' a o := by
  induction o with
  | lst xs => obtain ⟨z, its, n, r, e⟩ := x; exact ⟨z, its, n, r, k _ _ (.inl rfl) e⟩
  | tup xs => obtain ⟨z, its, r, ob, e, c⟩ := x; exact ⟨z, its, r, ob, k _ _ (.inl rfl) e, c⟩
  | dK kvs => obtain ⟨z, y, vs, r, ob, es, ep, e, c⟩ := x; exact ⟨z, y, vs, r, ob, es, ep, k _ _ (.inl rfl) e, c⟩
  | dT kvs =>
    obtain ⟨z, y, xs, r, ob, es, ep, e, c⟩ := x
    exact ⟨z, y, xs, Paired.mapP r fun p q z => ⟨z.1, ht _ _ z.2.1, z.2.2⟩, ob, es, ep, k _ _ (.inl rfl) e, c⟩
  | set S n => obtain ⟨ob, es, ep, t, e, c⟩ := x; exact ⟨ob, es, ep, t, k _ _ (.inl rfl) e, c⟩
  | ins C dx fs =>
    obtain ⟨d, z, ne, e, mA, ⟨od, es, ep, e2, c⟩, r⟩ := x
    exact ⟨ho _ d, z, ne, k _ _ (.inl rfl) e, mA, ⟨od, es, ep, k _ _ (.inr d) e2, c⟩, r⟩
  | own y => obtain ⟨ob, e⟩ := x; exact ⟨ob, k _ _ (.inl rfl) e⟩
  | xd fs => obtain ⟨mA, ⟨od, es, ep, e, c⟩, r⟩ := x; exact ⟨mA, ⟨od, es, ep, k _ _ (.inl rfl) e, c⟩, r⟩
  | rng lo hi => obtain ⟨t, u, v, e⟩ := x; exact ⟨t, u, v, k _ _ (.inl rfl) e⟩
  | frz ob u ih => obtain ⟨e, q⟩ := x; exact ⟨k _ _ (.inl rfl) e, ih q⟩
  | tbl ps =>
    have e : h.get? a = some { cls := .none, data := .fields ps } := x
    show h'.get? a = some { cls := .none, data := .fields ps }
    exact k a _ (.inl rfl) e
  | met f y =>
    have e : h.get? a = some (PySem.W.methodObj (.ref f) (.ref y)) := x
    show h'.get? a = some (PySem.W.methodObj (.ref f) (.ref y))
    exact k a _ (.inl rfl) e
  | ext φ => obtain ⟨p, ⟨o, e⟩, st⟩ := x; exact ⟨st _ _ p fun o q => k _ _ (.inl rfl) q, ⟨o, k _ _ (.inl rfl) e⟩, st⟩
theorem HOk.lt (x : HOk P w H h) (e : H a = some o) : a < h.objs.size := (x a o e).lt
theorem HOk.fresh (x : HOk P w H h) (e : h.objs.size ≤ a) : H a = none := by
  cases q : H a with
  | none => rfl
  | some u => exact absurd (Nat.lt_of_lt_of_le (x.lt q) e) (Nat.lt_irrefl _)
theorem HOk.kept (x : HOk P w H h) (k : ∀ b u, h.get? b = some u → h'.get? b = some u) : HOk P w H h' := fun a o e =>
  (x a o e).stay (fun b u _ q => k b u q) (fun _ q => q) fun _ _ q => q
theorem HOk.laid (x : HOk P w H h) (k : ∀ b u, h.get? b = some u → h'.get? b = some u) (hp : h.objs.size ≤ a) (new : ObjOk P w (upd H a o) h' a o) : HOk P w (upd H a o) h' := fun b u e => by
  have hn := x.fresh hp
  by_cases hb : b = a
  · subst hb; rw [upd_same] at e; cases e; exact new
  · rw [upd_ne hb] at e
    exact (x b u e).stay (fun c v _ q => k c v q) (fun c q => by rw [upd_ne (ne_of_none q hn)]; exact q) fun c xs q => by rw [upd_ne (ne_of_none q hn)]; exact q
end

noncomputable def Rd (H : Hp) (a : Addr) (u : HO) : Prop := H a = some u ∨ ∃ o, H a = some (.frz o u)
theorem Rd.ok {P : Program} {w : World} {H : Hp} {h : Heap} {a : Addr} {u : HO} (r : Rd H a u) (x : HOk P w H h) : ObjOk P w H h a u := by
  rcases r with r | ⟨o, r⟩
  · exact x a u r
  · obtain ⟨_, q⟩ := x a _ r
    exact q
noncomputable def Mut : Option HO → Prop
  | some (.lst _) => True
  | some (.dK _) => True
  | some (.dT _) => True
  | some (.set _ _) => True
  | some (.ins _ _ _) => True
  | some (.ext _) => True
  | _ => False
section
variable {P : Program} {w : World} {H : Hp} {h h' : Heap} {x e : Addr} {o' : HO}
theorem HOk.write (ok : HOk P w H h) (mu : Mut (H x)) (he : e = x ∨ H e = some (.own x)) (k : ∀ b u, b ≠ e → h.get? b = some u → h'.get? b = some u) (heo : ∃ u, h'.get? e = some u)
    (new : ObjOk P w (upd H x o') h' x o') : HOk P w (upd H x o') h' := fun b u q => by
  have nown : ∀ c y, H c = some (.own y) → c ≠ x := fun c y r z => by subst z; rw [r] at mu; exact mu
  have ntup : ∀ c xs, H c = some (.tup xs) → c ≠ x := fun c xs r z => by subst z; rw [r] at mu; exact mu
  by_cases hb : b = x
  · subst hb; rw [upd_same] at q; cases q; exact new
  · rw [upd_ne hb] at q
    by_cases hbe : b = e
    · have q' : H b = some (.own x) := by
        rcases he with z | z
        · exact absurd (hbe.trans z) hb
        · rw [hbe]; exact z
      rw [q] at q'; cases q'
      obtain ⟨v, hv⟩ := heo
      exact ⟨v, by rw [hbe]; exact hv⟩
    · refine (ok b u q).stay (fun c v hc r => k c v ?_ r) (fun c r => by rw [upd_ne (nown c b r)]; exact r) fun c xs r => by rw [upd_ne (ntup c xs r)]; exact r
      rcases hc with rfl | hc
      · exact hbe
      · rintro rfl
        rcases he with z | z
        · exact nown c b hc z
        · rw [hc] at z; cases z; exact hb rfl
end

/-! ### kept unless tracked; of the frames at fs (the callers') the slots may change (an exception that passes writes there); of the records at ex (iterators) nothing is said -/
structure Un (fs ex : List Addr) (H H' : Hp) (h h' : Heap) : Prop where
  keep : ∀ b o, h.get? b = some o → H b = none → b ∉ fs → b ∉ ex → h'.get? b = some o
  slot : ∀ b o, h.get? b = some o → H b = none → b ∈ fs → b ∉ ex → ∃ sl, h'.get? b = some { o with slots := sl }
  free : ∀ b o, h.get? b = some o → H b = none → b ∉ ex → H' b = none
  there : ∀ b o, h.get? b = some o → b ∉ ex → ∃ o', h'.get? b = some o'
  tups : ∀ b xs, H b = some (.tup xs) → H' b = some (.tup xs)
  frzs : ∀ b o u, H b = some (.frz o u) → H' b = some (.frz o u)
  tbls : ∀ b ps, H b = some (.tbl ps) → ∃ more, H' b = some (.tbl (ps ++ more))
section
variable {fs fs' ex ex' : List Addr} {H H1 H2 : Hp} {h h1 h2 h' : Heap} {a x e : Addr} {o : HO}
theorem Un.any (u : Un fs ex H H1 h h1) {b : Addr} {ob : Obj} (q : h.get? b = some ob) (n : H b = none) (hx : b ∉ ex) : ∃ sl, h1.get? b = some { ob with slots := sl } := by
  by_cases hb : b ∈ fs
  · exact u.slot b ob q n hb hx
  · exact ⟨ob.slots, u.keep b ob q n hb hx⟩
theorem Un.kept (k : ∀ b u, h.get? b = some u → h'.get? b = some u) : Un fs ex H H h h' :=
  ⟨fun b ob q _ _ _ => k b ob q, fun b ob q _ _ _ => ⟨ob.slots, k b ob q⟩, fun _ _ _ n _ => n, fun b ob q _ => ⟨ob, k b ob q⟩, fun _ _ q => q, fun _ _ _ q => q, fun _ ps q => ⟨#[], by rw [q]; simp⟩⟩
theorem Un.refl : Un fs ex H H h h := Un.kept fun _ _ q => q
theorem Un.laid (k : ∀ b u, h.get? b = some u → h'.get? b = some u) (hp : h.objs.size ≤ a) (hn : H a = none) : Un fs ex H (upd H a o) h h' where
  keep := fun b u q _ _ _ => k b u q
  slot := fun b u q _ _ _ => ⟨u.slots, k b u q⟩
  free := fun b u q n _ => by rw [upd_ne (Nat.ne_of_lt (Nat.lt_of_lt_of_le (Heap.lt_size q) hp))]; exact n
  there := fun b u q _ => ⟨u, k b u q⟩
  tups := fun b xs q => by rw [upd_ne (ne_of_none q hn)]; exact q
  frzs := fun b u xs q => by rw [upd_ne (ne_of_none q hn)]; exact q
  tbls := fun b ps q => ⟨#[], by rw [upd_ne (ne_of_none q hn), q]; simp⟩
theorem Un.write (mu : Mut (H x)) (he : e = x ∨ H e = some (.own x)) (k : ∀ b u, b ≠ e → h.get? b = some u → h'.get? b = some u) (heo : ∃ u, h'.get? e = some u) : Un fs ex H (upd H x o) h h' := by
  have hx : ∀ b, H b = none → b ≠ x := fun b n z => by subst z; rw [n] at mu; exact mu
  have hb : ∀ b, H b = none → b ≠ e := fun b n z => by
    subst z
    rcases he with r | r
    · exact hx b n r
    · rw [n] at r; cases r
  have hm : ∀ b u, H b = some u → ¬ Mut (some u) → b ≠ x := fun b u q nm z => by subst z; rw [q] at mu; exact nm mu
  refine ⟨fun b u q n _ _ => k b u (hb b n) q, fun b u q n _ _ => ⟨u.slots, k b u (hb b n) q⟩, fun b u q n _ => by rw [upd_ne (hx b n)]; exact n, fun b u q _ => ?_,
    fun b xs q => by rw [upd_ne (hm b _ q fun z => z)]; exact q, fun b u xs q => by rw [upd_ne (hm b _ q fun z => z)]; exact q, fun b ps q => ⟨#[], by rw [upd_ne (hm b _ q fun z => z), q]; simp⟩⟩
  by_cases hbe : b = e
  · subst hbe; exact heo
  · exact ⟨u, k b u hbe q⟩
end

/-! ### the heap without what is tracked -/
noncomputable def trk (h : Heap) (H : Hp) : List Addr := (List.range h.objs.size).filter fun a => (H a).isSome
noncomputable def hidT (h : Heap) (H : Hp) : Heap := PySem.W.hideAll h (trk h H)
theorem hidT_size (h : Heap) (H : Hp) : (hidT h H).objs.size = h.objs.size := PySem.W.hideAll_size _ _
theorem hidT_get {h : Heap} {H : Hp} {b : Addr} {o : Obj} (e : h.get? b = some o) (n : H b = none) : (hidT h H).get? b = some o :=
  PySem.W.hideAll_get _ e fun hm => by
    have q : (H b).isSome = true := (List.mem_filter.mp hm).2
    rw [n] at q; simp at q
theorem of_hidT {h : Heap} {H : Hp} {b : Addr} {o : Obj} (e : (hidT h H).get? b = some o) : h.get? b = some o ∧ H b = none := by
  have e' : h.get? b = some o := PySem.W.of_hideAll (trk h H) e
  refine ⟨e', ?_⟩
  cases q : H b with
  | none => rfl
  | some x =>
    have hm : b ∈ trk h H := List.mem_filter.mpr ⟨List.mem_range.mpr (Heap.lt_size e'), by simp [q]⟩
    have z : (hidT h H).get? b = none := PySem.W.hideAll_none (trk h H) hm
    rw [z] at e; cases e

/-! ### OpenK's ledger, filled with every new object but one -/
end L2

namespace L2
open PySem PySem.Spec PyProof.Rows

structure Mod (K : PySem.W.Frag) (mg : Str → Option Value) (base : Heap) : Prop where
  kin : K.In base
  glob : base.Ns mainGlobals mg
  blt : ∃ mb, base.Ns builtinsNs mb ∧ ∀ x : Str, x ≠ "__name__" → mb x = bootBuiltins x
  nolimit : base.NoLimit

structure Cx where
  prog : Program
  w : World
  K : PySem.W.Frag
  mg : Str → Option Value
  base : Heap
  A : Around
  N : List Str
  s₀ : Shared
  H₀ : Hp
  env : Env
  outer : List Env
  stack : List Env
  ex : List Addr
  fn : Str → Bool
  calm : Bool
  pn : List (Addr × Obj)
  xe : Value → Shared → Prop
noncomputable def frs (l : List Env) : List Addr := l.filterMap (·.frame)
noncomputable abbrev Cx.fs (X : Cx) : List Addr := frs X.outer

noncomputable def Vis (sc : Scope) (x : Str) : Prop := sc.names.lookup x = some .local ∨ sc.names.lookup x = some .cell ∨ sc.names.lookup x = some .free
noncomputable def Loc (sc : Scope) (x : Str) : Prop := sc.names.lookup x = some .local ∨ sc.names.lookup x = some .cell
noncomputable def Look (env : Env) (h : Heap) (m : Str → Option Value) (x : Str) (u : Value) : Prop :=
  (env.kindOf x = some .local ∧ m x = some u) ∨ ((env.kindOf x = some .cell ∨ env.kindOf x = some .free) ∧ ∃ c, env.cells.lookup x = some c ∧ h.IsCell c (some u))

structure Cx.Ok (X : Cx) : Prop where
  mod : Mod X.K X.mg X.base
  kind : X.env.scope.kind = .function
  glob : X.env.globals = mainGlobals
  blt : X.env.builtins = builtinsNs
  above : X.s₀.heap.objs.size ≤ X.env.locals
  inj : ∀ x y c, X.env.cells.lookup x = some c → X.env.cells.lookup y = some c → x = y
  has : ∀ x, (X.env.kindOf x = some .cell ∨ X.env.kindOf x = some .free) → ∃ c, X.env.cells.lookup x = some c
  cab : ∀ x c, X.fn x = true → X.env.cells.lookup x = some c → X.s₀.heap.objs.size ≤ c
  hd : X.calm = true → X.A.handled = none
  frames : X.A.frames = some X.stack
  stk : X.stack = X.outer ∨ (X.stack = X.env :: X.outer ∧ X.env.frame = some X.env.locals)
  exf : ∀ b ∈ X.ex, b ≠ X.env.locals ∧ ∀ x c, X.env.cells.lookup x = some c → c ≠ b
  bs : ∀ b o, X.base.get? b = some o → X.s₀.heap.get? b = some o ∧ X.H₀ b = none
  bsz : X.base.objs.size ≤ X.s₀.heap.objs.size
  noex : ∀ b o, X.base.get? b = some o → b ∉ X.ex
  exfs : ∀ b ∈ X.ex, b ∉ X.fs
  funs : X.s₀.heap.FunFrames X.base X.outer
  frf : ∀ b ∈ X.fs, X.H₀ b = none

structure Inv (X : Cx) (pins : List (Addr × Obj)) (σ : List (Option V)) (H : Hp) (s : Shared) : Prop where
  ok : X.Ok
  os : s.os = X.s₀.os
  bare : AllBare s.gens
  base : Un X.fs X.ex X.H₀ H X.s₀.heap s.heap
  loc : ∃ m, s.heap.Ns X.env.locals m ∧ ∀ (i : Nat) (x : Str) (v : V), X.N[i]? = some x → σ[i]? = some (some v) → Vis X.env.scope x → ∃ u, RelV v u ∧ Look X.env s.heap m x u
  cell : ∀ x c, X.env.cells.lookup x = some c → ∃ v, s.heap.IsCell c v
  free : H X.env.locals = none
  freeC : ∀ x c, X.env.cells.lookup x = some c → H c = none
  pin : ∀ p ∈ X.pn ++ pins, s.heap.get? p.1 = some p.2 ∧ H p.1 = none ∧ p.1 ≠ X.env.locals ∧ p.1 ∉ X.fs ∧ ∀ v, p.2.data ≠ .cell v
  hok : HOk X.prog X.w H s.heap
  len : σ.length = X.N.length

section
variable {X : Cx} {pins : List (Addr × Obj)} {σ : List (Option V)} {H H' : Hp} {s : Shared} {h' : Heap}

theorem Cx.Ok.nofr (ok : X.Ok) {b : Addr} {o : Obj} (e : X.base.get? b = some o) : b ∉ X.fs := fun hb => by
  have := (ok.funs.mem hb).1
  rw [e] at this; cases this
theorem Inv.bs (I : Inv X pins σ H s) : ∀ b o, X.base.get? b = some o → s.heap.get? b = some o ∧ H b = none := fun b o e =>
  ⟨I.base.keep b o (I.ok.bs b o e).1 (I.ok.bs b o e).2 (I.ok.nofr e) (I.ok.noex b o e), I.base.free b o (I.ok.bs b o e).1 (I.ok.bs b o e).2 (I.ok.noex b o e)⟩
theorem Inv.bk (I : Inv X pins σ H s) : ∀ b o, X.base.get? b = some o → s.heap.get? b = some o := fun b o e => (I.bs b o e).1
theorem Inv.mod (I : Inv X pins σ H s) : Mod X.K X.mg X.base := I.ok.mod
theorem Inv.kIn (I : Inv X pins σ H s) : X.K.In s.heap := I.ok.mod.kin.keeps I.bk
theorem Inv.lt (I : Inv X pins σ H s) : X.env.locals < s.heap.objs.size := let ⟨_, hn, _⟩ := I.loc; hn.lt
theorem Inv.sz (I : Inv X pins σ H s) : X.s₀.heap.objs.size ≤ s.heap.objs.size := Nat.le_trans I.ok.above (Nat.le_of_lt I.lt)
theorem Inv.nofs (I : Inv X pins σ H s) {a : Addr} (h : s.heap.objs.size ≤ a) : a ∉ X.fs := fun hb => by
  obtain ⟨_, o, ho, _⟩ := I.ok.funs.mem hb
  exact absurd (Nat.lt_of_lt_of_le (Heap.lt_size ho) (Nat.le_trans I.sz h)) (Nat.lt_irrefl _)
theorem Inv.cne (I : Inv X pins σ H s) : ∀ x c, X.env.cells.lookup x = some c → c ≠ X.env.locals := fun x c e z => by
  obtain ⟨v, o, ho, hd⟩ := I.cell x c e
  obtain ⟨m, ⟨o', es, ep, ho', hd', _⟩, _⟩ := I.loc
  rw [z, ho'] at ho; cases ho; rw [hd'] at hd; cases hd
theorem Inv.funs (I : Inv X pins σ H s) : s.heap.FunFrames X.base X.outer := by
  have all : ∀ (l : List Env), (∀ b ∈ frs l, b ∈ X.fs) → X.s₀.heap.FunFrames X.base l → s.heap.FunFrames X.base l := by
    intro l
    induction l with
    | nil => intro _ _; trivial
    | cons env r ih =>
      intro hs hl
      obtain ⟨hk, ⟨L, o, hf, hn, ho, hd⟩, hr⟩ := hl
      have hL : L ∈ X.fs := hs L (by unfold frs; rw [List.filterMap_cons, hf]; exact List.mem_cons_self)
      obtain ⟨sl, e⟩ := I.base.slot L o ho (I.ok.frf L hL) hL fun z => I.ok.exfs L z hL
      exact ⟨hk, ⟨L, _, hf, hn, e, hd⟩, ih (fun b hb => hs b (by unfold frs; rw [List.filterMap_cons, hf]; exact List.mem_cons_of_mem _ hb)) hr⟩
  exact all X.outer (fun _ hb => hb) I.ok.funs

theorem Inv.stack (I : Inv X pins σ H s) : s.heap.FunFrames X.base X.stack := by
  rcases I.ok.stk with e | ⟨e, hf⟩
  · rw [e]; exact I.funs
  · rw [e]
    obtain ⟨m, hn, _⟩ := I.loc
    refine .cons (by rw [I.ok.kind]; decide) hf hn ?_ I.funs
    exact Heap.get?_none_of_le (Nat.le_trans I.ok.bsz I.ok.above)
theorem Inv.stkSub (I : Inv X pins σ H s) : ∀ b ∈ frs X.stack, b ∈ X.env.locals :: X.fs := fun b hb => by
  rcases I.ok.stk with e | ⟨e, hf⟩
  · rw [e] at hb; exact List.mem_cons_of_mem _ hb
  · rw [e] at hb
    unfold frs at hb
    rw [List.filterMap_cons, hf] at hb
    exact hb
theorem Inv.stkFree (I : Inv X pins σ H s) : ∀ b ∈ frs X.stack, H b = none := fun b hb => by
  rcases List.mem_cons.mp (I.stkSub b hb) with e | hb
  · rw [e]; exact I.free
  · obtain ⟨_, o, ho, _⟩ := I.ok.funs.mem hb
    exact I.base.free b o ho (I.ok.frf b hb) fun z => I.ok.exfs b z hb

theorem Inv.step {g' : Array GenState} {t' : Nat} {d' : Drawn} {ch : List Addr} (I : Inv X pins σ H s)
    (hch : ∀ b ∈ ch, (b ∈ X.ex ∨ X.s₀.heap.objs.size ≤ b) ∧ b ≠ X.env.locals ∧ (∀ x c, X.env.cells.lookup x = some c → c ≠ b) ∧ ∀ p ∈ X.pn ++ pins, p.1 ≠ b)
    (keep : ∀ b o, b ≠ X.env.locals → b ∉ X.fs → b ∉ ch → s.heap.get? b = some o → H b = none → h'.get? b = some o)
    (slot : ∀ b o, b ≠ X.env.locals → b ∈ X.fs → b ∉ ch → s.heap.get? b = some o → H b = none → ∃ sl, h'.get? b = some { o with slots := sl }) (free : ∀ b o, b ∉ ch → s.heap.get? b = some o → H b = none → H' b = none)
    (there : ∀ b o, b ∉ ch → s.heap.get? b = some o → ∃ o', h'.get? b = some o')
    (tups : ∀ b xs, H b = some (.tup xs) → H' b = some (.tup xs)) (frzs : ∀ b o u, H b = some (.frz o u) → H' b = some (.frz o u)) (tbls : ∀ b ps, H b = some (.tbl ps) → ∃ more, H' b = some (.tbl (ps ++ more)))
    (ns : ∀ m, s.heap.Ns X.env.locals m → h'.Ns X.env.locals m) (hok : HOk X.prog X.w H' h') (hg : AllBare g') :
    Inv X pins σ H' { s with heap := h', gens := g', drawn := d', toks := t' } := by
  have neL : ∀ b o, X.s₀.heap.get? b = some o → b ≠ X.env.locals := fun b o e => Nat.ne_of_lt (Nat.lt_of_lt_of_le (Heap.lt_size e) I.ok.above)
  have neC : ∀ b o, X.s₀.heap.get? b = some o → b ∉ X.ex → b ∉ ch := fun b o e hx hb => by
    rcases (hch b hb).1 with z | z
    · exact hx z
    · exact absurd (Nat.lt_of_lt_of_le (Heap.lt_size e) z) (Nat.lt_irrefl _)
  have cellK : ∀ x c, X.env.cells.lookup x = some c → ∀ v, s.heap.IsCell c v → h'.IsCell c v := fun x c e v ⟨o, ho, hd⟩ => by
    have nch : c ∉ ch := fun z => (hch c z).2.2.1 x c e rfl
    by_cases hc : c ∈ X.fs
    · obtain ⟨sl, q⟩ := slot c o (I.cne x c e) hc nch ho (I.freeC x c e)
      exact ⟨_, q, hd⟩
    · exact ⟨o, keep c o (I.cne x c e) hc nch ho (I.freeC x c e), hd⟩
  refine ⟨I.ok, I.os, hg, ⟨fun b o e n hb hx => ?_, fun b o e n hb hx => ?_, fun b o e n hx => ?_, fun b o e hx => ?_, fun b xs e => tups b xs (I.base.tups b xs e), fun b o xs e => frzs b o xs (I.base.frzs b o xs e), fun b ps e => ?_⟩, ?_, fun x c e => ?_, ?_, fun x c e => ?_, fun p hp => ?_, hok, I.len⟩
  · exact keep b o (neL b o e) hb (neC b o e hx) (I.base.keep b o e n hb hx) (I.base.free b o e n hx)
  · obtain ⟨sl, e1⟩ := I.base.slot b o e n hb hx
    obtain ⟨sl', e2⟩ := slot b _ (neL b o e) hb (neC b o e hx) e1 (I.base.free b o e n hx)
    exact ⟨sl', e2⟩
  · obtain ⟨o', e1⟩ := I.base.there b o e hx
    exact free b o' (neC b o e hx) e1 (I.base.free b o e n hx)
  · obtain ⟨o', e1⟩ := I.base.there b o e hx
    exact there b o' (neC b o e hx) e1
  · obtain ⟨m1, e1⟩ := I.base.tbls b ps e
    obtain ⟨m2, e2⟩ := tbls b _ e1
    exact ⟨m1 ++ m2, by rw [e2, Array.append_assoc]⟩
  · obtain ⟨m, hn, hl⟩ := I.loc
    refine ⟨m, ns m hn, fun i x v e1 e2 e3 => ?_⟩
    obtain ⟨u, r, l⟩ := hl i x v e1 e2 e3
    refine ⟨u, r, ?_⟩
    rcases l with l | ⟨k, c, e, z⟩
    · exact .inl l
    · exact .inr ⟨k, c, e, cellK x c e _ z⟩
  · obtain ⟨v, z⟩ := I.cell x c e
    exact ⟨v, cellK x c e v z⟩
  · obtain ⟨m, ⟨o, _, _, ho, _⟩, _⟩ := I.loc
    exact free _ o (fun z => (hch _ z).2.1 rfl) ho I.free
  · obtain ⟨v, o, ho, hd⟩ := I.cell x c e
    exact free c o (fun z => (hch c z).2.2.1 x c e rfl) ho (I.freeC x c e)
  · obtain ⟨e, n, ne, nf, d⟩ := I.pin p hp
    have nch : p.1 ∉ ch := fun z => (hch p.1 z).2.2.2 p hp rfl
    exact ⟨keep p.1 p.2 ne nf nch e n, free p.1 p.2 nch e n, ne, nf, d⟩
theorem Inv.un {t' : Nat} (I : Inv X pins σ H s) (u : Un X.fs [] H H' s.heap h') (hok : HOk X.prog X.w H' h') : Inv X pins σ H' { s with heap := h', toks := t' } := by
  obtain ⟨m, ⟨o, es, ep, ho, r⟩, _⟩ := id I.loc
  obtain ⟨sl, hL⟩ := u.any ho I.free (by simp)
  exact I.step (g' := s.gens) (d' := s.drawn) (ch := []) (fun _ z => nomatch z) (fun b o _ hb _ e n => u.keep b o e n hb (by simp)) (fun b o _ hb _ e n => u.slot b o e n hb (by simp)) (fun b o _ e n => u.free b o e n (by simp)) (fun b o _ e => u.there b o e (by simp)) u.tups u.frzs u.tbls (fun m' hm => by
    obtain ⟨o', es', ep', ho', r'⟩ := hm
    rw [ho] at ho'; cases ho'
    exact ⟨_, es', ep', hL, r'⟩) hok I.bare
theorem Inv.call {g' : Array GenState} {t' : Nat} {d' : Drawn} {ch : List Addr} (I : Inv X pins σ H s) (u : Un (frs X.stack) ch H H' s.heap h') (hok : HOk X.prog X.w H' h') (hg : AllBare g')
    (hch : ∀ b ∈ ch, (b ∈ X.ex ∨ X.s₀.heap.objs.size ≤ b) ∧ b ≠ X.env.locals ∧ (∀ x c, X.env.cells.lookup x = some c → c ≠ b) ∧ ∀ p ∈ X.pn ++ pins, p.1 ≠ b) :
    Inv X pins σ H' { s with heap := h', gens := g', drawn := d', toks := t' } := by
  obtain ⟨m, ⟨o, es, ep, ho, r⟩, _⟩ := id I.loc
  obtain ⟨sl, hL⟩ := u.any ho I.free fun z => (hch _ z).2.1 rfl
  exact I.step (ch := ch) hch (fun b o hL hb hc e n => u.keep b o e n (fun z => (List.mem_cons.mp (I.stkSub b z)).elim hL hb) hc) (fun b o _ _ hc e n => u.any e n hc) (fun b o hc e n => u.free b o e n hc) (fun b o hc e => u.there b o e hc) u.tups u.frzs u.tbls (fun m' hm => by
    obtain ⟨o', es', ep', ho', r'⟩ := hm
    rw [ho] at ho'; cases ho'
    exact ⟨_, es', ep', hL, r'⟩) hok hg
theorem Inv.turned {t' : Nat} {it : Addr} (I : Inv X pins σ H s) (k : ∀ b o, b ≠ it → s.heap.get? b = some o → h'.get? b = some o) (hn : H it = none) (hL : it ≠ X.env.locals)
    (h1 : it ∈ X.ex ∨ X.s₀.heap.objs.size ≤ it) (h2 : ∀ x c, X.env.cells.lookup x = some c → c ≠ it) (h3 : ∀ p ∈ X.pn ++ pins, p.1 ≠ it) : Inv X pins σ H { s with heap := h', toks := t' } := by
  have nit : ∀ b u, H b = some u → b ≠ it := fun b u e z => by rw [z, hn] at e; cases e
  refine I.step (g' := s.gens) (d' := s.drawn) (ch := [it]) (fun b hb => ?_) (fun b o _ _ hc e _ => k b o (fun z => hc (by simp [z])) e) (fun b o _ _ hc e _ => ⟨o.slots, k b o (fun z => hc (by simp [z])) e⟩) (fun _ _ _ _ n => n)
    (fun b o hc e => ⟨o, k b o (fun z => hc (by simp [z])) e⟩) (fun _ _ e => e) (fun _ _ _ e => e) (fun b ps e => ⟨#[], by rw [e]; simp⟩) (fun m hm => ?_) (fun b u e => ?_) I.bare
  · have e : b = it := by simpa using hb
    subst e
    exact ⟨h1, hL, h2, h3⟩
  · obtain ⟨o, es, ep, ho, r⟩ := hm
    exact ⟨o, es, ep, k _ o (Ne.symm hL) ho, r⟩
  · refine (I.hok b u e).stay (fun c v hc q => k c v ?_ q) (fun _ q => q) fun _ _ q => q
    rcases hc with z | z
    · rw [z]; exact nit b u e
    · exact nit c _ z
theorem Inv.tok (I : Inv X pins σ H s) (t : Nat) : Inv X pins σ H { s with toks := t } := I.un (h' := s.heap) (t' := t) Un.refl I.hok
theorem Inv.kept {t' : Nat} (I : Inv X pins σ H s) (k : ∀ b u, s.heap.get? b = some u → h'.get? b = some u) : Inv X pins σ H { s with heap := h', toks := t' } := I.un (Un.kept k) (I.hok.kept k)
theorem Inv.laid {a : Addr} {o : HO} {t' : Nat} (I : Inv X pins σ H s) (k : ∀ b u, s.heap.get? b = some u → h'.get? b = some u) (hp : s.heap.objs.size ≤ a) (new : ObjOk X.prog X.w (upd H a o) h' a o) :
    Inv X pins σ (upd H a o) { s with heap := h', toks := t' } := I.un (Un.laid k hp (I.hok.fresh hp)) (I.hok.laid k hp new)
theorem Inv.write {x e : Addr} {o : HO} {t' : Nat} (I : Inv X pins σ H s) (mu : Mut (H x)) (he : e = x ∨ H e = some (.own x)) (k : ∀ b u, b ≠ e → s.heap.get? b = some u → h'.get? b = some u) (heo : ∃ u, h'.get? e = some u)
    (new : ObjOk X.prog X.w (upd H x o) h' x o) : Inv X pins σ (upd H x o) { s with heap := h', toks := t' } := I.un (Un.write mu he k heo) (I.hok.write mu he k heo new)
theorem Inv.pins_of {pins' : List (Addr × Obj)} (I : Inv X pins σ H s) (h : ∀ p ∈ pins', s.heap.get? p.1 = some p.2 ∧ H p.1 = none ∧ p.1 ≠ X.env.locals ∧ p.1 ∉ X.fs ∧ ∀ v, p.2.data ≠ .cell v) : Inv X pins' σ H s :=
  ⟨I.ok, I.os, I.bare, I.base, I.loc, I.cell, I.free, I.freeC, fun p hp => (List.mem_append.mp hp).elim (fun z => I.pin p (List.mem_append_left _ z)) (h p), I.hok, I.len⟩

theorem nodup_ix {N : List Str} (hN : N.Nodup) {i j : Nat} {x : Str} (a : N[i]? = some x) (b : N[j]? = some x) : i = j := by
  obtain ⟨h1, e1⟩ := List.getElem?_eq_some_iff.mp a
  obtain ⟨h2, e2⟩ := List.getElem?_eq_some_iff.mp b
  exact (List.getElem_inj hN).mp (e1.trans e2.symm)

theorem store_ok2 {M : Model} {A : Around} {E : Value → Shared → Prop} {i : Nat} {x : Str} {v : V} {u : Value} {Q : Unit → Shared → Prop} (I : Inv X pins σ H s) (hN : X.N.Nodup) (hi : X.N[i]? = some x) (hx : Loc X.env.scope x) (r : RelV v u)
    (h : ∀ s', Inv X pins (σ.set i (some v)) H s' → (∃ a, Heap.SameBut a s.heap s'.heap ∧ (a = X.env.locals ∨ X.env.cells.lookup x = some a)) → Q () s') (hf : X.fn x = true ∨ X.env.scope.names.lookup x = some .local := by first | exact .inl rfl | exact .inr rfl | assumption) : wpAny M A (storeName X.env x u) Q E s := by
  obtain ⟨m, hn, hl⟩ := id I.loc
  have hcls : (X.env.scope.kind == .class || (X.env.scope.kind == .module && X.env.locals != X.env.globals)) = false := by rw [I.ok.kind]; rfl
  have hiσ : i < σ.length := by rw [I.len]; exact (List.getElem?_eq_some_iff.mp hi).1
  have cne := I.cne
  have tracked : ∀ {a : Addr} {h' : Heap}, (∃ o, s.heap.get? a = some o ∧ H a = none) → Heap.SameBut a s.heap h' → HOk X.prog X.w H h' := fun {a h'} ha hs b ob e => by
    obtain ⟨_, _, hfree⟩ := ha
    refine (I.hok b ob e).stay (fun c w' hc q => (hs.2 c ?_).trans q) (fun _ q => q) fun _ _ q => q
    rintro rfl
    rcases hc with rfl | hc
    · rw [hfree] at e; cases e
    · rw [hfree] at hc; cases hc
  rcases hx with hk | hk
  · refine wpAny_storeName_local hk hn (fun h' hn' hs => ?_) hcls
    obtain ⟨oL, _, _, hoL, _⟩ := id hn
    refine h _ ⟨I.ok, I.os, I.bare, ⟨fun b o e n hb hx => ?_, fun b o e n hb hx => ?_, I.base.free, fun b o e hx => ?_, I.base.tups, I.base.frzs, I.base.tbls⟩, ⟨_, hn', fun j y v' e1 e2 e3 => ?_⟩, fun y c e => ?_, I.free, I.freeC, fun p hp => ?_, tracked ⟨oL, hoL, I.free⟩ hs, by simpa using I.len⟩ ⟨_, hs, .inl rfl⟩
    · exact (hs.2 b (Nat.ne_of_lt (Nat.lt_of_lt_of_le (Heap.lt_size e) I.ok.above))).trans (I.base.keep b o e n hb hx)
    · obtain ⟨sl, e1⟩ := I.base.slot b o e n hb hx
      exact ⟨sl, (hs.2 b (Nat.ne_of_lt (Nat.lt_of_lt_of_le (Heap.lt_size e) I.ok.above))).trans e1⟩
    · obtain ⟨o', e1⟩ := I.base.there b o e hx
      exact ⟨o', (hs.2 b (Nat.ne_of_lt (Nat.lt_of_lt_of_le (Heap.lt_size e) I.ok.above))).trans e1⟩
    · by_cases hj : j = i
      · subst hj
        rw [hi] at e1; cases e1
        rw [List.getElem?_set_self hiσ] at e2
        cases e2
        exact ⟨u, r, .inl ⟨hk, by simp⟩⟩
      · rw [List.getElem?_set_ne (Ne.symm hj)] at e2
        obtain ⟨u', r', q⟩ := hl j y v' e1 e2 e3
        refine ⟨u', r', ?_⟩
        rcases q with ⟨k, e⟩ | ⟨k, c, e, z⟩
        · refine .inl ⟨k, ?_⟩
          have : y ≠ x := fun e => hj (nodup_ix hN e1 (e ▸ hi))
          simp [this, e]
        · exact .inr ⟨k, c, e, z.sameBut hs (cne y c e)⟩
    · obtain ⟨w', z⟩ := I.cell y c e
      exact ⟨w', z.sameBut hs (cne y c e)⟩
    · obtain ⟨e, n, ne, nf, d⟩ := I.pin p hp
      exact ⟨(hs.2 p.1 ne).trans e, n, ne, nf, d⟩
  · have hfn : X.fn x = true := by
      rcases hf with z | z
      · exact z
      · rw [z] at hk; cases hk
    obtain ⟨c, hc⟩ := I.ok.has x (.inl hk)
    obtain ⟨w', z⟩ := I.cell x c hc
    refine wpAny_storeName_cell I.ok.kind hk hc z (fun h' hc' hs => ?_)
    obtain ⟨oc, hoc, hocd⟩ := id z
    refine h { s with heap := h' } ⟨I.ok, I.os, I.bare, ⟨fun b o e n hb hx => ?_, fun b o e n hb hx => ?_, I.base.free, fun b o e hx => ?_, I.base.tups, I.base.frzs, I.base.tbls⟩, ⟨m, hn.sameBut hs (Ne.symm (cne x c hc)), fun j y v' e1 e2 e3 => ?_⟩, fun y c' e => ?_, I.free, I.freeC, fun p hp => ?_, tracked ⟨oc, hoc, I.freeC x c hc⟩ hs, by simpa using I.len⟩ ⟨c, hs, .inr hc⟩
    · exact (hs.2 b (Nat.ne_of_lt (Nat.lt_of_lt_of_le (Heap.lt_size e) (I.ok.cab x c hfn hc)))).trans (I.base.keep b o e n hb hx)
    · obtain ⟨sl, e1⟩ := I.base.slot b o e n hb hx
      exact ⟨sl, (hs.2 b (Nat.ne_of_lt (Nat.lt_of_lt_of_le (Heap.lt_size e) (I.ok.cab x c hfn hc)))).trans e1⟩
    · obtain ⟨o', e1⟩ := I.base.there b o e hx
      exact ⟨o', (hs.2 b (Nat.ne_of_lt (Nat.lt_of_lt_of_le (Heap.lt_size e) (I.ok.cab x c hfn hc)))).trans e1⟩
    · by_cases hj : j = i
      · subst hj
        rw [hi] at e1; cases e1
        rw [List.getElem?_set_self hiσ] at e2
        cases e2
        exact ⟨u, r, .inr ⟨.inl hk, c, hc, hc'⟩⟩
      · rw [List.getElem?_set_ne (Ne.symm hj)] at e2
        obtain ⟨u', r', q⟩ := hl j y v' e1 e2 e3
        refine ⟨u', r', ?_⟩
        rcases q with q | ⟨k, c', e, z'⟩
        · exact .inl q
        · refine .inr ⟨k, c', e, z'.sameBut hs ?_⟩
          rintro rfl
          exact hj (nodup_ix hN e1 (I.ok.inj _ _ _ e hc ▸ hi))
    · by_cases hcc : c' = c
      · subst hcc; exact ⟨_, hc'⟩
      · obtain ⟨w2, z2⟩ := I.cell y c' e
        exact ⟨w2, z2.sameBut hs hcc⟩
    · obtain ⟨e, n, ne, nf, d⟩ := I.pin p hp
      refine ⟨(hs.2 p.1 ?_).trans e, n, ne, nf, d⟩
      intro q
      rw [q, hoc] at e
      have q' : oc = p.2 := Option.some.inj e
      exact d w' (by rw [← q']; exact hocd)
theorem store_ok {M : Model} {A : Around} {E : Value → Shared → Prop} {i : Nat} {x : Str} {v : V} {u : Value} {Q : Unit → Shared → Prop} (I : Inv X pins σ H s) (hN : X.N.Nodup) (hi : X.N[i]? = some x) (hx : Loc X.env.scope x) (r : RelV v u)
    (h : ∀ s', Inv X pins (σ.set i (some v)) H s' → Q () s') (hf : X.fn x = true ∨ X.env.scope.names.lookup x = some .local := by first | exact .inl rfl | exact .inr rfl | assumption) : wpAny M A (storeName X.env x u) Q E s :=
  store_ok2 I hN hi hx r (fun s' I' _ => h s' I') hf
theorem Inv.call' {s' : Shared} {ch : List Addr} (I : Inv X pins σ H s) (ho : s'.os = s.os) (u : Un (frs X.stack) ch H H' s.heap s'.heap) (hok : HOk X.prog X.w H' s'.heap) (hg : AllBare s'.gens)
    (hch : ∀ b ∈ ch, (b ∈ X.ex ∨ X.s₀.heap.objs.size ≤ b) ∧ b ≠ X.env.locals ∧ (∀ x c, X.env.cells.lookup x = some c → c ≠ b) ∧ ∀ p ∈ X.pn ++ pins, p.1 ≠ b) : Inv X pins σ H' s' := by
  obtain ⟨h', g', d', t', o'⟩ := s'
  have e : o' = s.os := ho
  subst e
  exact I.call (g' := g') (t' := t') (d' := d') u hok hg hch
end

/-! ### the judgements -/
noncomputable abbrev XK := Value → Option Addr → Hp → Prop
noncomputable abbrev St := List (Option V)
noncomputable abbrev VK := V → Hp → Prop
noncomputable abbrev TE := St → Hp → VK → Prop
noncomputable abbrev TT := St → Hp → (Bool → Hp → Prop) → Prop
noncomputable abbrev TA := St → Hp → (List V → Hp → Prop) → Prop
structure Ends where
  nx : St → Hp → Prop
  rt : VK
  bk : St → Hp → Prop := fun _ _ => False
  ct : St → Hp → Prop := fun _ _ => False
noncomputable abbrev TS := Ends → St → Hp → Prop

theorem el5 {α β : Type} {p q r : α → β → Prop} {P : Prop} (h : ∃ a b, p a b ∧ q a b ∧ r a b) (k : ∀ a b, p a b → q a b → r a b → P) : P := by
  obtain ⟨a, b, x, y, z⟩ := h
  exact k a b x y z
theorem el3 {α : Type} {p q : α → Prop} {P : Prop} (h : ∃ a, p a ∧ q a) (k : ∀ a, p a → q a → P) : P := by
  obtain ⟨a, x, y⟩ := h
  exact k a x y
noncomputable def EP (X : Cx) (pins : List (Addr × Obj)) (σ : St) (Q : VK) (u : Value) (s' : Shared) : Prop := ∃ v H', Inv X pins σ H' s' ∧ RelV v u ∧ Q v H'
noncomputable def TP (X : Cx) (pins : List (Addr × Obj)) (σ : St) (Q : Bool → Hp → Prop) (b : Bool) (s' : Shared) : Prop := ∃ H', Inv X pins σ H' s' ∧ Q b H'
noncomputable def AP (X : Cx) (pins : List (Addr × Obj)) (σ : St) (Q : List V → Hp → Prop) (us : List Value) (s' : Shared) : Prop := ∃ vs H', Inv X pins σ H' s' ∧ Vals vs us ∧ Q vs H'
noncomputable def SP (X : Cx) (pins : List (Addr × Obj)) (D : Ends) (f : Flow) (s' : Shared) : Prop :=
  match f with
  | .next => ∃ σ' H', Inv X pins σ' H' s' ∧ D.nx σ' H'
  | .brk => ∃ σ' H', Inv X pins σ' H' s' ∧ D.bk σ' H'
  | .cont => ∃ σ' H', Inv X pins σ' H' s' ∧ D.ct σ' H'
  | .ret u => ∃ v σ' H', Inv X pins σ' H' s' ∧ RelV v u ∧ D.rt v H'

noncomputable def PE (X : Cx) (e : Expr) (t : TE) : Prop :=
  ∀ (pins : List (Addr × Obj)) (s : Shared) (σ : St) (H : Hp) (Q : VK), Inv X pins σ H s → t σ H Q → wpAny (model X.prog X.w) X.A (eval e X.env) (EP X pins σ Q) X.xe s
noncomputable def PT (X : Cx) (e : Expr) (t : TT) : Prop :=
  ∀ (pins : List (Addr × Obj)) (s : Shared) (σ : St) (H : Hp) (Q : Bool → Hp → Prop), Inv X pins σ H s → t σ H Q → wpAny (model X.prog X.w) X.A (isTrue e X.env (eval e X.env)) (TP X pins σ Q) X.xe s
noncomputable def PW (X : Cx) (e : Expr) (t : TT) : Prop :=
  ∀ (whole : Sem Value) (pins : List (Addr × Obj)) (s : Shared) (σ : St) (H : Hp) (Q : Bool → Hp → Prop), Inv X pins σ H s → t σ H Q → wpAny (model X.prog X.w) X.A (isTrue e X.env whole) (TP X pins σ Q) X.xe s
theorem PW.pt {X : Cx} {e : Expr} {t : TT} (h : PW X e t) : PT X e t := h _
noncomputable def PA (X : Cx) (es : List Expr) (t : TA) : Prop :=
  ∀ (pos : Pos) (pins : List (Addr × Obj)) (s : Shared) (σ : St) (H : Hp) (Q : List V → Hp → Prop), Inv X pins σ H s → t σ H Q → wpAny (model X.prog X.w) X.A (spliced (backTo pos (starEach es X.env))) (AP X pins σ Q) X.xe s
noncomputable def PS (X : Cx) (st : Stmt) (t : TS) : Prop :=
  ∀ (pins : List (Addr × Obj)) (s : Shared) (σ : St) (H : Hp) (D : Ends), Inv X pins σ H s → t D σ H → wpAny (model X.prog X.w) X.A (exec st X.env) (SP X pins D) X.xe s
noncomputable def PSs (X : Cx) (st : List Stmt) (t : TS) : Prop :=
  ∀ (pins : List (Addr × Obj)) (s : Shared) (σ : St) (H : Hp) (D : Ends), Inv X pins σ H s → t D σ H → wpAny (model X.prog X.w) X.A (execs st X.env) (SP X pins D) X.xe s
theorem thn {α : Type} {t : Sem α} {Q Q' : α → Shared → Prop} {M : Model} {A : Around} {E : Value → Shared → Prop} {s : Shared} (h : wpAny M A t Q E s) (hQ : ∀ a s, Q a s → Q' a s) : wpAny M A t Q' E s := wpAny_mono h hQ fun _ _ x => x
end L2

namespace L2
open PySem PySem.Spec PyProof.Rows
section
variable {X : Cx}


/-! ### names and constants -/
noncomputable def tVar (i : Nat) : TE := fun σ H Q => ∃ v, σ[i]? = some (some v) ∧ Q v H
noncomputable def tC (v : V) : TE := fun _ H Q => Q v H
theorem pe_var {i : Nat} {x : Str} {pos : Pos} (hN : X.N[i]? = some x) (hv : Vis X.env.scope x) (hd : (x == ("__debug__" : Str)) = false := by decide) (hcd : (x == ("__classdict__" : Str)) = false := by decide) : PE X (.Name x pos) (tVar i) := by
  intro pins s σ H Q I h
  obtain ⟨v, e, h⟩ := h
  obtain ⟨m, hn, hl⟩ := I.loc
  obtain ⟨u, r, l⟩ := hl i x v hN e hv
  have fin : EP X pins σ Q u s := ⟨v, H, I, r, h⟩
  rcases l with ⟨hk, hm⟩ | ⟨hk, c, hc, hcell⟩
  · exact wpAny_Name (wpAny_loadName_local I.ok.kind hk hn hm fin) hd
  · rcases hk with hk | hk
    · exact wpAny_Name (wpAny_loadName_cell I.ok.kind hk hc hcell fin) hd
    · exact wpAny_Name (wpAny_loadName_free I.ok.kind hk hc hcell fin hcd) hd
theorem pe_int {i j pos} : PE X (.Constant (.int i) j pos) (tC (.int i)) := fun _ _ _ H _ I h => wpAny_Constant_int ⟨.int i, H, I.tok _, ⟨_, rfl⟩, h⟩
theorem pe_bl {b j pos} : PE X (.Constant (.bool b) j pos) (tC (.bl b)) := fun _ _ _ H _ I h => Constant_bool ⟨.bl b, H, I, rfl, h⟩
theorem pe_non {j pos} : PE X (.Constant .none j pos) (tC .non) := fun _ _ _ H _ I h => Constant_none ⟨.non, H, I, rfl, h⟩
theorem pe_str {x j pos} : PE X (.Constant (.str x) j pos) (tC (.str x)) := fun _ _ _ H _ I h => Calls.Constant_str ⟨.str x, H, I.tok _, ⟨_, rfl⟩, h⟩

noncomputable def Gl (X : Cx) (x : Str) : Prop := X.env.kindOf x = some .globalImplicit
theorem ld_glob {E : Value → Shared → Prop} {pins : List (Addr × Obj)} {s : Shared} {σ : St} {H : Hp} {x : Str} {u : Value} {pos : Pos} {Q : Value → Shared → Prop} (I : Inv X pins σ H s) (hg : Gl X x) (hm : X.mg x = some u) (h : Q u s)
    (hd : (x == ("__debug__" : Str)) = false := by decide) : wpAny (model X.prog X.w) X.A (eval (.Name x pos) X.env) Q E s :=
  Calls.Name_function_global I.ok.kind hg (Calls.loadGlobal_global (by rw [I.ok.glob]; exact I.mod.glob.keeps I.bk) hm h) hd
theorem ld_blt {E : Value → Shared → Prop} {pins : List (Addr × Obj)} {s : Shared} {σ : St} {H : Hp} {x : Str} {u : Value} {pos : Pos} {Q : Value → Shared → Prop} (I : Inv X pins σ H s) (hg : Gl X x) (hm : X.mg x = none) (hv : bootBuiltins x = some u) (h : Q u s)
    (hn : x ≠ "__name__" := by decide) (hd : (x == ("__debug__" : Str)) = false := by decide) : wpAny (model X.prog X.w) X.A (eval (.Name x pos) X.env) Q E s := by
  obtain ⟨mb, h1, h2⟩ := I.mod.blt
  exact Calls.Name_function_global I.ok.kind hg (Calls.loadGlobal_builtin (by rw [I.ok.glob]; exact I.mod.glob.keeps I.bk) hm (by rw [I.ok.blt]; exact h1.keeps I.bk) ((h2 x hn).trans hv) h) hd
theorem pe_glob {x : Str} {v : V} {u : Value} {pos : Pos} (hg : Gl X x) (hm : X.mg x = some u) (r : RelV v u) (hd : (x == ("__debug__" : Str)) = false := by decide) : PE X (.Name x pos) (tC v) :=
  fun _ _ _ H _ I h => ld_glob I hg hm ⟨v, H, I, r, h⟩ hd
theorem pe_bltn {x : Str} {v : V} {u : Value} {pos : Pos} (hg : Gl X x) (hm : X.mg x = none) (hv : bootBuiltins x = some u) (r : RelV v u) (hn : x ≠ "__name__" := by decide) (hd : (x == ("__debug__" : Str)) = false := by decide) : PE X (.Name x pos) (tC v) :=
  fun _ _ _ H _ I h => ld_blt I hg hm hv ⟨v, H, I, r, h⟩ hn hd

/-! ### arithmetic -/
variable {a b : Expr} {ta tb : TE} {pos : Pos}

/-! ### comparisons -/
noncomputable def tB (t : TE) : TT := fun σ H Q => t σ H fun x H1 => ∃ c, x = .bl c ∧ Q c H1
theorem pt_val {e : Expr} {t : TE} (h : PE X e t) (he : ∀ whole, isTrue e X.env whole = (do let v ← whole; standAt e.pos; holding [v] (truthy v)) := by intro _; rfl) : PT X e (tB t) := by
  intro pins s σ H Q I hw
  refine isTrue_plain (thn (h pins s σ H _ I hw) fun v s1 zz => ?_) (he _)
  obtain ⟨x, H1, I1, r1, q1⟩ := zz
  obtain ⟨d, rfl, q⟩ := q1
  cases r1
  exact wpAny_truthy_bool ⟨H1, I1, q⟩

/-! ### and, or, not -/
variable {tA tB' : TT} {rest : List Expr}
noncomputable def tAnd (t u : TT) : TT := fun σ H Q => t σ H fun c H1 => if c = true then u σ H1 Q else Q false H1
noncomputable def tOr (t u : TT) : TT := fun σ H Q => t σ H fun c H1 => if c = true then Q true H1 else u σ H1 Q
noncomputable def tNot (t : TT) : TT := fun σ H Q => t σ H fun c H1 => Q (!c) H1
theorem pw_and1 (ha : PT X a tA) : PW X (.BoolOp .And [a] pos) tA := by
  intro wh pins s σ H Q I h
  refine isTrue_and (thn (ha pins s σ H Q I h) fun c s1 e => ?_)
  cases c with
  | true => exact isTrue_and_nil e
  | false => exact e
theorem pw_or1 (ha : PT X a tA) : PW X (.BoolOp .Or [a] pos) tA := by
  intro wh pins s σ H Q I h
  refine isTrue_or (thn (ha pins s σ H Q I h) fun c s1 e => ?_)
  cases c with
  | false => exact isTrue_or_nil e
  | true => exact e
theorem pw_and (ha : PT X a tA) (hb : PW X (.BoolOp .And (b :: rest) pos) tB') : PW X (.BoolOp .And (a :: b :: rest) pos) (tAnd tA tB') := by
  intro wh pins s σ H Q I h
  refine isTrue_and (thn (ha pins s σ H _ I h) fun c s1 zz => ?_)
  obtain ⟨H1, I1, q1⟩ := zz
  cases c with
  | true => exact hb wh pins s1 σ H1 Q I1 q1
  | false => exact ⟨H1, I1, q1⟩
theorem pw_or (ha : PT X a tA) (hb : PW X (.BoolOp .Or (b :: rest) pos) tB') : PW X (.BoolOp .Or (a :: b :: rest) pos) (tOr tA tB') := by
  intro wh pins s σ H Q I h
  refine isTrue_or (thn (ha pins s σ H _ I h) fun c s1 zz => ?_)
  obtain ⟨H1, I1, q1⟩ := zz
  cases c with
  | true => exact ⟨H1, I1, q1⟩
  | false => exact hb wh pins s1 σ H1 Q I1 q1
theorem pt_not (ha : PT X a tA) : PT X (.UnaryOp .Not a pos) (tNot tA) := by
  intro pins s σ H Q I h
  exact isTrue_not (ha pins s σ H (fun c H1 => Q (!c) H1) I h)
noncomputable def tAndV (ta tb : TE) : TE := fun σ H Q => ta σ H fun x H1 => ∃ c, x = .bl c ∧ if c = true then tb σ H1 Q else Q (.bl false) H1
noncomputable def tOrV (ta tb : TE) : TE := fun σ H Q => ta σ H fun x H1 => ∃ c, x = .bl c ∧ if c = true then Q (.bl true) H1 else tb σ H1 Q
noncomputable def tNotV (ta : TE) : TE := fun σ H Q => ta σ H fun x H1 => ∃ c, x = .bl c ∧ Q (.bl (!c)) H1
theorem pe_one {op} {t : TE} (h : PE X a t) : PE X (.BoolOp op [a] pos) t := fun pins s σ H Q I hw => BoolOp_one (h pins s σ H Q I hw)
theorem pe_and (ha : PE X a ta) (hb : PE X (.BoolOp .And (b :: rest) pos) tb) : PE X (.BoolOp .And (a :: b :: rest) pos) (tAndV ta tb) := by
  intro pins s σ H Q I h
  refine BoolOp_and (thn (ha pins s σ H _ I h) fun v s1 zz => ?_)
  obtain ⟨x, H1, I1, r1, q1⟩ := zz
  obtain ⟨c, rfl, q1⟩ := q1
  cases r1
  refine wpAny_truthy_bool ?_
  cases c with
  | true => exact hb pins s1 σ H1 Q I1 q1
  | false => exact ⟨.bl false, H1, I1, rfl, q1⟩
theorem pe_or (ha : PE X a ta) (hb : PE X (.BoolOp .Or (b :: rest) pos) tb) : PE X (.BoolOp .Or (a :: b :: rest) pos) (tOrV ta tb) := by
  intro pins s σ H Q I h
  refine BoolOp_or (thn (ha pins s σ H _ I h) fun v s1 zz => ?_)
  obtain ⟨x, H1, I1, r1, q1⟩ := zz
  obtain ⟨c, rfl, q1⟩ := q1
  cases r1
  refine wpAny_truthy_bool ?_
  cases c with
  | false => exact hb pins s1 σ H1 Q I1 q1
  | true => exact ⟨.bl true, H1, I1, rfl, q1⟩
theorem pe_not (ha : PE X a ta) : PE X (.UnaryOp .Not a pos) (tNotV ta) := by
  intro pins s σ H Q I h
  refine UnaryOp_ (thn (ha pins s σ H _ I h) fun v s1 zz => ?_)
  obtain ⟨x, H1, I1, r1, q1⟩ := zz
  obtain ⟨c, rfl, q1⟩ := q1
  cases r1
  exact not_of (wpAny_truthy_bool ⟨.bl (!c), H1, I1, rfl, q1⟩)
noncomputable def tIf (t : TT) (ta tb : TE) : TE := fun σ H Q => t σ H fun c H1 => if c = true then ta σ H1 Q else tb σ H1 Q
theorem pe_ifExp {c : Expr} (hc : PT X c tA) (ha : PE X a ta) (hb : PE X b tb) : PE X (.IfExp c a b pos) (tIf tA ta tb) := by
  intro pins s σ H Q I h
  refine wpAny_IfExp (thn (hc pins s σ H _ I h) fun d s1 zz => ?_)
  obtain ⟨H1, I1, q1⟩ := zz
  cases d with
  | true => exact ha pins s1 σ H1 Q I1 q1
  | false => exact hb pins s1 σ H1 Q I1 q1
end
end L2

namespace L2
open PySem PySem.Spec PyProof.Rows

/-! ### a list, a tuple that is read: tracked, frozen, or an object of the module -/
noncomputable def SqL (K : PySem.W.Frag) (H : Hp) (a : Addr) (xs : List V) : Prop :=
  Rd H a (.lst xs) ∨
    ∃ (o : Obj) (its : Array Value) (n : Nat), K.lookup a = some o ∧ o.cls = .type "list" ∧ o.dict = none ∧ o.data = .seq its n ∧ its.size ≤ sizeLine ∧ Vals xs its.toList
noncomputable def SqT (K : PySem.W.Frag) (H : Hp) (a : Addr) (xs : List V) : Prop :=
  Rd H a (.tup xs) ∨
    ∃ (o : Obj) (its : Array Value) (n : Nat), K.lookup a = some o ∧ o.cls = .type "tuple" ∧ o.data = .seq its n ∧ its.size ≤ sizeLine ∧ Vals xs its.toList
noncomputable def absV : Value → Option V
  | .none => some .non
  | .bool b => some (.bl b)
  | .int i _ => some (.int i)
  | .str x _ => some (.str x)
  | .bytes b _ => some (.byt b)
  | .float b _ => some (.flt b)
  | .ref a => some (.ref a)
  | .type n => some (.ty n)
  | _ => none
theorem RelV.abs {x : V} {u : Value} (r : RelV x u) : absV u = some x := by
  cases x with
  | non => cases r; rfl
  | bl _ => cases r; rfl
  | int _ => obtain ⟨t, rfl⟩ := r; rfl
  | str _ => obtain ⟨t, rfl⟩ := r; rfl
  | byt _ => obtain ⟨t, rfl⟩ := r; rfl
  | flt _ => obtain ⟨t, rfl⟩ := r; rfl
  | ref _ => cases r; rfl
  | ty _ => cases r; rfl
theorem RelV.inj {x y : V} {u : Value} (r : RelV x u) (q : RelV y u) : x = y := Option.some.inj (r.abs.symm.trans q.abs)
theorem Vals.inj {xs ys : List V} {us : List Value} (h : Vals xs us) (h' : Vals ys us) : xs = ys := by
  induction h generalizing ys with
  | nil => cases h'; rfl
  | cons r t ih =>
    cases h' with
    | cons r' t' => rw [r.inj r', ih t']
section
variable {X : Cx} {pins : List (Addr × Obj)} {σ : St} {H : Hp} {s : Shared} {a : Addr} {xs ys : List V}
theorem SqL.of {K : PySem.W.Frag} (h : H a = some (.lst xs)) : SqL K H a xs := .inl (.inl h)
theorem SqT.of {K : PySem.W.Frag} (h : H a = some (.tup xs)) : SqT K H a xs := .inl (.inl h)
theorem Inv.list (I : Inv X pins σ H s) (h : SqL X.K H a xs) : ∃ its : List Value, Vals xs its ∧ PlainL s.heap a its.toArray ∧ xs.length ≤ sizeLine := by
  rcases h with h | ⟨o, its, n, hk, hc, hd, hs, hz, r⟩
  · obtain ⟨z, its, n, r, e⟩ := h.ok I.hok
    exact ⟨its, r, ⟨_, n, e, rfl, rfl, rfl⟩, z⟩
  · refine ⟨its.toList, r, ⟨o, n, I.kIn a o hk, hc, hd, by simpa using hs⟩, ?_⟩
    have e := r.length
    simp only [Array.length_toList] at e
    omega
theorem Inv.tuple (I : Inv X pins σ H s) (h : SqT X.K H a xs) : ∃ its : List Value, Vals xs its ∧ IsTup s.heap a its.toArray ∧ xs.length ≤ sizeLine := by
  rcases h with h | ⟨o, its, n, hk, hc, hs, hz, r⟩
  · obtain ⟨z, its, r, p⟩ := h.ok I.hok
    exact ⟨its, r, p, z⟩
  · refine ⟨its.toList, r, ⟨o, I.kIn a o hk, hc, n, by simpa using hs⟩, ?_⟩
    have e := r.length
    simp only [Array.length_toList] at e
    omega
theorem Inv.list_inj (I : Inv X pins σ H s) (h : SqL X.K H a xs) (h' : SqL X.K H a ys) : xs = ys := by
  obtain ⟨its, r, ⟨o, n, e, _, _, d⟩, _⟩ := I.list h
  obtain ⟨its', r', ⟨o', n', e', _, _, d'⟩, _⟩ := I.list h'
  rw [e] at e'; cases e'
  rw [d] at d'
  injection d' with d1 _
  have : its = its' := by simpa using congrArg Array.toList d1
  subst this
  exact r.inj r'
theorem Inv.tuple_inj (I : Inv X pins σ H s) (h : SqT X.K H a xs) (h' : SqT X.K H a ys) : xs = ys := by
  obtain ⟨its, r, ⟨o, e, _, n, d⟩, _⟩ := I.tuple h
  obtain ⟨its', r', ⟨o', e', _, n', d'⟩, _⟩ := I.tuple h'
  rw [e] at e'; cases e'
  rw [d] at d'
  injection d' with d1 _
  have : its = its' := by simpa using congrArg Array.toList d1
  subst this
  exact r.inj r'
end

/-! ### another wish about exceptions -/
noncomputable abbrev Cx.wish (X : Cx) (E : Value → Shared → Prop) : Cx := { X with xe := E }
noncomputable abbrev Cx.nox (X : Cx) : Cx := X.wish fun _ _ => False
theorem Cx.Ok.wish {X : Cx} (ok : X.Ok) (E : Value → Shared → Prop) : (X.wish E).Ok :=
  ⟨ok.mod, ok.kind, ok.glob, ok.blt, ok.above, ok.inj, ok.has, ok.cab, ok.hd, ok.frames, ok.stk, ok.exf, ok.bs, ok.bsz, ok.noex, ok.exfs, ok.funs, ok.frf⟩
theorem Cx.Ok.unwish {X : Cx} {E : Value → Shared → Prop} (ok : (X.wish E).Ok) : X.Ok :=
  ⟨ok.mod, ok.kind, ok.glob, ok.blt, ok.above, ok.inj, ok.has, ok.cab, ok.hd, ok.frames, ok.stk, ok.exf, ok.bs, ok.bsz, ok.noex, ok.exfs, ok.funs, ok.frf⟩
section
variable {X : Cx} {pins : List (Addr × Obj)} {σ : St} {H : Hp} {s : Shared} {E : Value → Shared → Prop}
theorem Inv.wish (I : Inv X pins σ H s) (E : Value → Shared → Prop) : Inv (X.wish E) pins σ H s := ⟨I.ok.wish E, I.os, I.bare, I.base, I.loc, I.cell, I.free, I.freeC, I.pin, I.hok, I.len⟩
theorem Inv.unwish (I : Inv (X.wish E) pins σ H s) : Inv X pins σ H s := ⟨I.ok.unwish, I.os, I.bare, I.base, I.loc, I.cell, I.free, I.freeC, I.pin, I.hok, I.len⟩
theorem SP.unwish {D : Ends} {f : Flow} {s' : Shared} (h : SP (X.wish E) pins D f s') : SP X pins D f s' := by
  cases f with
  | next => obtain ⟨σ', H', I, q⟩ := h; exact ⟨σ', H', I.unwish, q⟩
  | brk => obtain ⟨σ', H', I, q⟩ := h; exact ⟨σ', H', I.unwish, q⟩
  | cont => obtain ⟨σ', H', I, q⟩ := h; exact ⟨σ', H', I.unwish, q⟩
  | ret u => obtain ⟨v, σ', H', I, r, q⟩ := h; exact ⟨v, σ', H', I.unwish, r, q⟩
theorem PE.nox {e : Expr} {t : TE} (h : PE X.nox e t) : PE X e t := fun pins s σ H Q I hw =>
  wpAny_mono (h pins s σ H Q (I.wish _) hw) (fun _ _ ⟨v, H', I', r, q⟩ => ⟨v, H', I'.unwish, r, q⟩) fun _ _ z => False.elim z
theorem PSs.nox {st : List Stmt} {t : TS} (h : PSs X.nox st t) : PSs X st t := fun pins s σ H D I hw =>
  wpAny_mono (h pins s σ H D (I.wish _) hw) (fun _ _ q => q.unwish) fun _ _ z => False.elim z
end

/-! ### blocks and small statements -/
section
variable {X : Cx} {st : Stmt} {rest : List Stmt} {t u : TS} {e : Expr} {te : TE} {pos : Pos}
noncomputable def tNext : TS := fun D σ H => D.nx σ H
noncomputable def tSeq (t u : TS) : TS := fun D σ H => t { D with nx := u D } σ H
theorem pss_nil : PSs X [] tNext := fun _ _ σ H _ I h => wpAny_execs_nil ⟨σ, H, I, h⟩
theorem pss_cons (h1 : PS X st t) (h2 : PSs X rest u) : PSs X (st :: rest) (tSeq t u) := by
  intro pins s σ H D I h
  refine wpAny_execs_cons (thn (h1 pins s σ H { D with nx := u D } I h) fun f s1 q => ?_)
  cases f with
  | next =>
    obtain ⟨σ', H', I', q⟩ := q
    exact h2 pins s1 σ' H' D I' q
  | ret v => exact q
  | brk => exact q
  | cont => exact q
theorem pss_one (h1 : PS X st t) : PSs X [st] t := by
  intro pins s σ H D I h
  refine wpAny_execs_cons (thn (h1 pins s σ H D I h) fun f s1 q => ?_)
  cases f with
  | next => exact wpAny_execs_nil q
  | ret v => exact q
  | brk => exact q
  | cont => exact q
theorem Inv.quiet {pins : List (Addr × Obj)} {σ : St} {H : Hp} {s : Shared} (I : Inv X pins σ H s) : interactive X.env = false := by simp [interactive, I.ok.kind]
noncomputable def tDrop (te : TE) : TS := fun D σ H => te σ H fun _ H1 => D.nx σ H1
theorem ps_expr (he : PE X e te) (hs : swapsWith e none pos.line X.env = pure false := by rfl) : PS X (.Expr e pos) (tDrop te) := by
  intro pins s σ H D I h
  exact wpAny_Expr_any (thn (he pins s σ H _ I h) fun v s1 zz => L2.el5 zz fun x H1 I1 r1 q1 => ⟨σ, H1, I1, q1⟩) I.quiet hs
noncomputable def tRet (te : TE) : TS := fun D σ H => te σ H D.rt
theorem ps_ret (he : PE X e te) : PS X (.Return (some e) pos) (tRet te) := by
  intro pins s σ H D I h
  exact wpAny_Return_some (thn (he pins s σ H _ I h) fun v s1 zz => L2.el5 zz fun x H1 I1 r1 q1 => ⟨x, σ, H1, I1, r1, q1⟩)
noncomputable def tIfS (c : TT) (t u : TS) : TS := fun D σ H => c σ H fun b H1 => if b = true then t D σ H1 else u D σ H1
theorem ps_if {c : Expr} {a b : List Stmt} {tc : TT} (hc : PT X c tc) (ha : PSs X a t) (hb : PSs X b u) : PS X (.If c a b pos) (tIfS tc t u) := by
  intro pins s σ H D I h
  refine wpAny_If (thn (hc pins s σ H _ I h) fun d s1 zz => ?_)
  obtain ⟨H1, I1, q1⟩ := zz
  cases d with
  | true => exact ha pins s1 σ H1 D I1 q1
  | false => exact hb pins s1 σ H1 D I1 q1
noncomputable def tNever : TS := fun _ _ _ => False
theorem ps_never : PS X st tNever := fun _ _ _ _ _ _ h => h.elim
theorem pss_never {sts : List Stmt} : PSs X sts tNever := fun _ _ _ _ _ _ h => h.elim
end

/-! ### targets -/
noncomputable abbrev TG := V → St → Hp → (St → Hp → Prop) → Prop
noncomputable abbrev TGs := List V → St → Hp → (St → Hp → Prop) → Prop
noncomputable def PG (X : Cx) (target : Expr) (t : TG) : Prop :=
  ∀ (pins : List (Addr × Obj)) (s : Shared) (σ : St) (H : Hp) (v : V) (u : Value) (Q : St → Hp → Prop), Inv X pins σ H s → RelV v u → t v σ H Q →
    wpAny (model X.prog X.w) X.A (assign target X.env u) (fun _ s' => ∃ σ' H', Inv X pins σ' H' s' ∧ Q σ' H') X.xe s
noncomputable def PGs (X : Cx) (ts : List Expr) (t : TGs) : Prop :=
  ∀ (pins : List (Addr × Obj)) (s : Shared) (σ : St) (H : Hp) (vs : List V) (us : List Value) (Q : St → Hp → Prop), Inv X pins σ H s → Vals vs us → t vs σ H Q →
    wpAny (model X.prog X.w) X.A (assignInOrder ((assignEach ts X.env).map (·.2)) us) (fun _ s' => ∃ σ' H', Inv X pins σ' H' s' ∧ Q σ' H') X.xe s
noncomputable abbrev TSet := V → V → V → Hp → (Hp → Prop) → Prop
noncomputable def PSet (X : Cx) (t : TSet) : Prop :=
  ∀ (pins : List (Addr × Obj)) (s : Shared) (σ : St) (H : Hp) (o i v : V) (ov iv u : Value) (Q : Hp → Prop), Inv X pins σ H s → RelV o ov → RelV i iv → RelV v u → t o i v H Q →
    wpAny (model X.prog X.w) X.A (setItem ov iv u) (fun _ s' => ∃ H', Inv X pins σ H' s' ∧ Q H') X.xe s
noncomputable abbrev TIp := V → V → Hp → VK → Prop
noncomputable def PIp (X : Cx) (op : Operator) (t : TIp) : Prop :=
  ∀ (pins : List (Addr × Obj)) (s : Shared) (σ : St) (H : Hp) (x y : V) (v u : Value) (Q : VK), Inv X pins σ H s → RelV x v → RelV y u → t x y H Q →
    wpAny (model X.prog X.w) X.A (inplaceOp op v u) (EP X pins σ Q) X.xe s
section
variable {X : Cx} {pos : Pos}
noncomputable def gName (i : Nat) : TG := fun v σ H Q => Q (σ.set i (some v)) H
theorem pg_name {i : Nat} {x : Str} (hN : X.N.Nodup) (hi : X.N[i]? = some x) (hx : Loc X.env.scope x) (hf : X.fn x = true ∨ X.env.scope.names.lookup x = some .local := by first | exact .inl rfl | exact .inr rfl | assumption) : PG X (.Name x pos) (gName i) := by
  intro pins s σ H v u Q I r h
  exact wpAny_assign_Name (store_ok I hN hi hx r (fun s' I' => ⟨_, H, I', h⟩) hf)
noncomputable def gNil : TGs := fun vs σ H Q => vs = [] ∧ Q σ H
noncomputable def gCons (t : TG) (u : TGs) : TGs := fun vs σ H Q => ∃ v r, vs = v :: r ∧ t v σ H fun σ' H' => u r σ' H' Q
theorem pgs_nil : PGs X [] gNil := by
  intro pins s σ H vs us Q I r h
  obtain ⟨e, h⟩ := h
  subst e
  cases r
  exact assignInOrder_nil ⟨σ, H, I, h⟩
theorem pgs_cons {e : Expr} {es : List Expr} {t : TG} {u : TGs} (h1 : PG X e t) (h2 : PGs X es u)
    (hs : (assignEach (e :: es) X.env).map (·.2) = assign e X.env :: (assignEach es X.env).map (·.2) := by rfl) : PGs X (e :: es) (gCons t u) := by
  intro pins s σ H vs us Q I r h
  obtain ⟨v, vr, e1, h⟩ := h
  subst e1
  cases r with
  | cons r rr =>
    rw [hs]
    refine assignInOrder_cons (thn (h1 pins s σ H _ _ _ I r h) fun _ s1 zz => ?_)
    obtain ⟨σ1, H1, I1, q1⟩ := zz
    exact h2 pins s1 σ1 H1 _ _ Q I1 rr q1
noncomputable def gTup (K : PySem.W.Frag) (n : Nat) (t : TGs) : TG := fun v σ H Q => ∃ a xs, v = .ref a ∧ SqT K H a xs ∧ xs.length = n ∧ t xs σ H Q
theorem pg_tup {es : List Expr} {k : Nat} {t : TGs} {n : Nat} (hc : X.calm = true) (h : PGs X es t)
    (hn : (assignEach es X.env).length = n := by rfl) (hst : (assignEach es X.env).findIdx? (·.1) = none := by rfl) : PG X (.Tuple es k pos) (gTup X.K n t) := by
  intro pins s σ H v u Q I r hw
  obtain ⟨a, xs, e1, hq, hl, hw⟩ := hw
  subst e1
  cases r
  obtain ⟨its, rv, ht, hz⟩ := I.tuple hq
  refine assign_Tuple_tuple (I.ok.hd hc) ht (by simp [hn, ← hl, rv.length]) hst fun h' hx => ?_
  have I1 : Inv X pins σ H { s with heap := h' } := I.kept (t' := s.toks) fun b o e => hx b o (Nat.ne_of_lt (Heap.lt_size e)) e
  exact h pins _ σ H xs _ Q I1 (by simpa using rv) hw
noncomputable def gSub (to ti : TE) (t : TSet) : TG := fun v σ H Q => to σ H fun o H1 => ti σ H1 fun i H2 => t o i v H2 fun H3 => Q σ H3
theorem pg_sub {o i : Expr} {to ti : TE} {t : TSet} (ho : PE X o to) (hi : PE X i ti) (hs : PSet X t)
    (ha : ∀ v, assign (.Subscript o i pos) X.env v = (do
      let ov ← holding [v] (eval o X.env)
      let iv ← holding [v, ov] (eval i X.env)
      standAt pos
      holding [v, ov, iv] (setItem ov iv v)
      release [v, ov, iv] []) := by intro _; rfl) : PG X (.Subscript o i pos) (gSub to ti t) := by
  intro pins s σ H v u Q I r h
  rw [ha]
  refine wpAny_bind (wpAny_holding (thn (ho pins s σ H _ I h) fun ov s1 zz => ?_))
  obtain ⟨x, H1, I1, r1, q1⟩ := zz
  refine wpAny_bind (wpAny_holding (thn (hi pins s1 σ H1 _ I1 q1) fun iv s2 zz => ?_))
  obtain ⟨y, H2, I2, r2, q2⟩ := zz
  refine wpAny_bind (wpAny_standAt (wpAny_bind (wpAny_holding (thn (hs pins s2 σ H2 x y v ov iv u _ I2 r1 r2 r q2) fun _ s3 zz => ?_))))
  obtain ⟨H3, I3, q3⟩ := zz
  exact wpAny_release ⟨σ, H3, I3, q3⟩
noncomputable def tAsg (te : TE) (g : TG) : TS := fun D σ H => te σ H fun x H1 => g x σ H1 D.nx
theorem ps_asg {tg e : Expr} {te : TE} {g : TG} (he : PE X e te) (hg : PG X tg g) (hs : swapsWithSole [tg] e pos.line X.env = pure false := by rfl) (hw : swappedStores [tg] e X.env = pure none := by rfl)
    (h1 : (assignEach [tg] X.env).map (·.2) = [assign tg X.env] := by rfl) : PS X (.Assign [tg] e pos) (tAsg te g) := by
  intro pins s σ H D I h
  refine wpAny_Assign_stores (thn (he pins s σ H _ I h) fun v s1 zz => ?_) hs hw
  obtain ⟨x, H1, I1, r1, q1⟩ := zz
  rw [h1]
  exact thn (hg pins s1 σ H1 x v _ I1 r1 q1) fun _ s2 q => q
theorem ps_set {i : Nat} {x : Str} {e : Expr} {te : TE} {pos' : Pos} (hN : X.N.Nodup) (hi : X.N[i]? = some x) (hx : Loc X.env.scope x) (he : PE X e te) (hs : swapsWith e (some (.Name x pos')) pos.line X.env = pure false := by rfl) (hf : X.fn x = true ∨ X.env.scope.names.lookup x = some .local := by first | exact .inl rfl | exact .inr rfl | assumption) :
    PS X (.Assign [.Name x pos'] e pos) (tAsg te (gName i)) := by
  intro pins s σ H D I h
  refine wpAny_Assign_Name (thn (he pins s σ H _ I h) fun v s1 zz => ?_) hs
  obtain ⟨y, H1, I1, r1, q1⟩ := zz
  exact store_ok I1 hN hi hx r1 (fun s2 I2 => ⟨_, H1, I2, q1⟩) hf
noncomputable def tAug (i : Nat) (te : TE) (ti : TIp) : TS := fun D σ H => ∃ x, σ[i]? = some (some x) ∧ te σ H fun y H1 => ti x y H1 fun z H2 => D.nx (σ.set i (some z)) H2
theorem ps_aug {i : Nat} {x : Str} {e : Expr} {te : TE} {op : Operator} {ti : TIp} {pos' : Pos} (hN : X.N.Nodup) (hi : X.N[i]? = some x) (hx : Loc X.env.scope x) (he : PE X e te) (ho : PIp X op ti) (hf : X.fn x = true ∨ X.env.scope.names.lookup x = some .local := by first | exact .inl rfl | exact .inr rfl | assumption) :
    PS X (.AugAssign (.Name x pos') op e pos) (tAug i te ti) := by
  intro pins s σ H D I h
  obtain ⟨v, e1, h⟩ := h
  obtain ⟨m, hn, hl⟩ := I.loc
  have vis : Vis X.env.scope x := by rcases hx with k | k; exact .inl k; exact .inr (.inl k)
  obtain ⟨u, r, l⟩ := hl i x v hi e1 vis
  refine wpAny_AugAssign_Name ?_
  have go : wpAny (model X.prog X.w) X.A (eval e X.env) (fun w s₂ => wpAny (model X.prog X.w) X.A (inplaceOp op u w) (fun r s₃ => wpAny (model X.prog X.w) X.A (storeName X.env x r) (fun _ => SP X pins D .next) X.xe s₃) X.xe s₂) X.xe s := by
    refine thn (he pins s σ H _ I h) fun w s1 zz => ?_
    obtain ⟨y, H1, I1, r1, q1⟩ := zz
    refine thn (ho pins s1 σ H1 v y u w _ I1 r r1 q1) fun z s2 zz => ?_
    obtain ⟨zv, H2, I2, r2, q2⟩ := zz
    exact store_ok I2 hN hi hx r2 (fun s3 I3 => ⟨_, H2, I3, q2⟩) hf
  rcases l with ⟨hk, hm⟩ | ⟨hk, c, hc, hcell⟩
  · exact wpAny_loadName_local I.ok.kind hk hn hm go
  · rcases hk with hk | hk
    · exact wpAny_loadName_cell I.ok.kind hk hc hcell go
    · rcases hx with k | k
      · have : X.env.scope.names.lookup x = some .free := hk
        rw [k] at this; cases this
      · have : X.env.scope.names.lookup x = some .free := hk
        rw [k] at this; cases this
noncomputable def ipI (f : Int → Int → Int) : TIp := fun x y H Q => ∃ i j, x = .int i ∧ y = .int j ∧ Q (.int (f i j)) H
theorem ip_add : PIp X .Add (ipI fun i j => i + j) := by
  intro pins s σ H x y v u Q I r1 r2 h
  obtain ⟨i, j, e1, e2, q⟩ := h
  subst e1; subst e2
  obtain ⟨t, rfl⟩ := r1
  obtain ⟨t', rfl⟩ := r2
  exact iadd_int ⟨.int _, H, I.tok _, ⟨_, rfl⟩, q⟩
end

/-! ### while -/
section
variable {X : Cx} {pos : Pos}
end

/-! ### what a loop or a comprehension walks -/
structure It where
  go : Nat → Hp → Prop
  yld : Nat → Hp → V → Hp → Prop
  stop : Nat → Hp → Prop
noncomputable def FpOk (X : Cx) (pins : List (Addr × Obj)) (H : Hp) (b : Addr) : Prop :=
  H b = none ∧ b ≠ X.env.locals ∧ b ∉ X.fs ∧ (b ∈ X.ex ∨ X.s₀.heap.objs.size ≤ b) ∧ (∀ x c, X.env.cells.lookup x = some c → c ≠ b) ∧ ∀ p ∈ X.pn ++ pins, p.1 ≠ b
theorem Inv.fpOk {X : Cx} {pins : List (Addr × Obj)} {σ : St} {H H' : Hp} {s : Shared} {b : Addr} (I : Inv X pins σ H s) (hb : s.heap.objs.size ≤ b) (hn : H' b = none) : FpOk X pins H' b := by
  refine ⟨hn, Nat.ne_of_gt (Nat.lt_of_lt_of_le I.lt hb), I.nofs hb, .inr (Nat.le_trans I.sz hb), fun x c e z => ?_, fun p hp z => ?_⟩
  · obtain ⟨v, q⟩ := I.cell x c e
    exact absurd (Nat.lt_of_lt_of_le q.lt (by rw [z]; exact hb)) (Nat.lt_irrefl _)
  · exact absurd (Nat.lt_of_lt_of_le (Heap.lt_size (I.pin p hp).1) (by rw [z]; exact hb)) (Nat.lt_irrefl _)
noncomputable def HandX (X : Cx) : Prop := X.A.handled = none ∨ ∃ (a C : Addr) (dx : Option Addr) (t tb : Value) (u : HO), X.A.handled = some (.ref a) ∧ X.H₀ a = some (.frz (excRec C dx t tb) u)
noncomputable def HandI (X : Cx) : Prop := X.calm = true ∨ HandX X
theorem hd_of {X : Cx} {pins : List (Addr × Obj)} {σ : St} {H : Hp} {s : Shared} (q : HandI X) (I : Inv X pins σ H s) : Hd X.A s.heap := by
  rcases q with q | q | ⟨a, C, dx, t, tb, u, q, e⟩
  · exact .inl (I.ok.hd q)
  · exact .inl q
  · exact .inr ⟨a, C, dx, t, tb, q, (I.hok a _ (I.base.frzs a _ _ e)).1⟩
theorem HandI.in_ {X : Cx} {pins : List (Addr × Obj)} {σ : St} {H : Hp} {s : Shared} (q : HandI X) (I : Inv X pins σ H s) {Y : Cx} (h1 : Y.calm = X.calm) (h2 : Y.A.handled = X.A.handled) (h3 : ∀ a o u, H a = some (.frz o u) → Y.H₀ a = some (.frz o u)) : HandI Y := by
  rcases q with q | q | ⟨a, C, dx, t, tb, u, q, e⟩
  · exact .inl (h1.trans q)
  · exact .inr (.inl (h2.trans q))
  · exact .inr (.inr ⟨a, C, dx, t, tb, u, h2.trans q, h3 _ _ _ (I.base.frzs a _ _ e)⟩)
structure Turn (P : Program) (w : World) (K : PySem.W.Frag) (tg : Expr) (J : It) (fp : List Addr) (it : Addr) (tn : Nat → Heap → Prop) : Prop where
  mem : it ∈ fp
  obj : ∀ i h, tn i h → ∀ b ∈ fp, ∃ o, h.get? b = some o ∧ ∀ v, o.data ≠ .cell v
  keep : ∀ i h h', tn i h → (∀ b ∈ fp, ∀ o, h.get? b = some o → h'.get? b = some o) → tn i h'
  item : ∀ (X : Cx), X.prog = P → X.w = w → X.K = K → HandI X → ∀ (i : Nat) (pins : List (Addr × Obj)) (s : Shared) (σ : St) (H : Hp) (E : Value → Shared → Prop), Inv X pins σ H s → (∀ b ∈ fp, FpOk X pins H b) → tn i s.heap → J.go i H →
    wpAny (model P w) X.A (pyNext (.ref it)) (fun r s1 => ∃ u, r = some u ∧
      wpAny (model P w) X.A (letOwnedTupleGo tg (.ref it) u) (fun _ s2 => ∃ x H', Inv X pins σ H' s2 ∧ RelV x u ∧ J.yld i H x H' ∧ tn (i + 1) s2.heap ∧ ∀ b ∈ fp, H' b = none) E s1) E s
  done : ∀ (X : Cx), X.prog = P → X.w = w → X.K = K → HandI X → ∀ (i : Nat) (pins : List (Addr × Obj)) (s : Shared) (σ : St) (H : Hp) (E : Value → Shared → Prop), Inv X pins σ H s → (∀ b ∈ fp, FpOk X pins H b) → tn i s.heap → J.stop i H →
    wpAny (model P w) X.A (pyNext (.ref it)) (fun r s1 => r = none ∧ Inv X pins σ H s1) E s
  self : ∀ (A : Around) (i : Nat) (s : Shared) (Q : Value → Shared → Prop) (E : Value → Shared → Prop), tn i s.heap → Q (.ref it) s → wpAny (model P w) A (pyIter (.ref it)) Q E s
noncomputable abbrev TI := St → Hp → (It → Hp → Prop) → Prop
noncomputable def PIE (X : Cx) (pins : List (Addr × Obj)) (σ : St) (tg : Expr) (R : It → Hp → Prop) (itv : Value) (s2 : Shared) : Prop :=
  ∃ (it : Addr) (fp : List Addr) (tn : Nat → Heap → Prop) (J : It) (H' : Hp), itv = .ref it ∧ Inv X pins σ H' s2 ∧ Turn X.prog X.w X.K tg J fp it tn ∧ tn 0 s2.heap ∧ (∀ b ∈ fp, FpOk X pins H' b) ∧ R J H'
noncomputable def PI (X : Cx) (tg iter : Expr) (wi : TI) : Prop :=
  ∀ (pins : List (Addr × Obj)) (s : Shared) (σ : St) (H : Hp) (R : It → Hp → Prop), Inv X pins σ H s → wi σ H R →
    wpAny (model X.prog X.w) X.A (eval iter X.env) (fun v s1 => wpAny (model X.prog X.w) X.A (pyIter v) (PIE X pins σ tg R) X.xe s1) X.xe s

theorem go_of {M : Model} {A : Around} {E : Value → Shared → Prop} {s : Shared} {tg : Expr} {it : Addr} {u : Value} {o : Obj} {n : String} {vs : Array Value} {Q : Unit → Shared → Prop} (ho : s.heap.get? it = some o) (hc : o.cls = .type n) (hd : o.data = .fields vs)
    (hn : ["enumerate", "zip", "dict_itemiterator", "dict_reverseitemiterator", "odict_iterator", "itertools.zip_longest", "itertools.pairwise"].contains n = false) (hQ : Q () s) : wpAny M A (letOwnedTupleGo tg (.ref it) u) Q E s := by
  unfold letOwnedTupleGo
  cases tg <;> first
    | exact wpAny_pure hQ
    | (cases u <;> first
        | exact wpAny_pure hQ
        | (refine wpAny_bind (wpAny_load ho ?_)
           rw [hc, hd]
           show wpAny M A (if (["enumerate", "zip", "dict_itemiterator", "dict_reverseitemiterator", "odict_iterator", "itertools.zip_longest", "itertools.pairwise"].contains n && vs[0]? == some (rawInt _)) = true then _ else _) Q E s
           rw [if_neg (by intro h; rw [hn, Bool.false_and] at h; cases h)]
           exact wpAny_pure hQ))

noncomputable def Itl (K : PySem.W.Frag) (a : Addr) : It :=
  ⟨fun i H => ∃ xs x, SqL K H a xs ∧ xs[i]? = some x, fun i H x H' => H' = H ∧ ∀ xs, SqL K H a xs → xs[i]? = some x, fun i H => ∃ xs, SqL K H a xs ∧ xs.length ≤ i⟩
noncomputable def Itt (K : PySem.W.Frag) (a : Addr) : It :=
  ⟨fun i H => ∃ xs x, SqT K H a xs ∧ xs[i]? = some x, fun i H x H' => H' = H ∧ ∀ xs, SqT K H a xs → xs[i]? = some x, fun i H => ∃ xs, SqT K H a xs ∧ xs.length ≤ i⟩
noncomputable def Itr (lo : Int) (n : Nat) : It := ⟨fun i _ => i < n, fun i H x H' => H' = H ∧ x = .int (lo + i), fun i _ => n ≤ i⟩
theorem turn_list {P : Program} {w : World} {K : PySem.W.Frag} {tg : Expr} (a it : Addr) : Turn P w K tg (Itl K a) [it] it (fun i h => h.IsListIter it a i) where
  mem := by simp
  obj := fun i h st b hb => by
    have e : b = it := by simpa using hb
    subst e
    obtain ⟨o, e, c, d⟩ := st
    exact ⟨o, e, fun v z => by rw [d] at z; cases z⟩
  keep := fun i h h' st k => st.at fun o e => k it (by simp) o e
  item := by
    intro X hP hw hK hc i pins s σ H E I hf st hg
    subst hP hw hK
    obtain ⟨xs, x, hq, hx⟩ := hg
    obtain ⟨its, rv, p, hz⟩ := I.list hq
    obtain ⟨u, hu, ru⟩ := rv.get hx
    obtain ⟨f0, f1, f2, f3, f4, f5⟩ := hf it (by simp)
    refine wpAny_pyNext_list_item st p.isList (x := u) (by simpa using hu) fun h' st' sb => ?_
    have I1 : Inv X pins σ H { s with heap := h' } := I.turned (t' := s.toks) (fun b o hb e => (sb.2 b hb).trans e) f0 f1 f3 f4 f5
    obtain ⟨o, e, c, d⟩ := id st'
    exact ⟨u, rfl, go_of (s := { s with heap := h' }) e c d (by decide) ⟨x, H, I1, ru, ⟨rfl, fun ys hy => by rw [I.list_inj hy hq]; exact hx⟩, st', fun b hb => (hf b hb).1⟩⟩
  done := by
    intro X hP hw hK hc i pins s σ H E I hf st hg
    subst hP hw hK
    obtain ⟨xs, hq, hx⟩ := hg
    obtain ⟨its, rv, p, hz⟩ := I.list hq
    obtain ⟨f0, f1, f2, f3, f4, f5⟩ := hf it (by simp)
    have hl := rv.length
    exact list_end_hd (hd_of hc I) st p.isList (by simp; omega) fun h' eb => ⟨rfl, I.turned (t' := s.toks) (fun b o hb e => eb b o hb e) f0 f1 f3 f4 f5⟩
  self := fun _ _ _ _ _ st h => wpAny_pyIter_listiter st h
theorem turn_tuple {P : Program} {w : World} {K : PySem.W.Frag} {tg : Expr} (a it : Addr) : Turn P w K tg (Itt K a) [it] it (fun i h => h.IsTupleIter it a i) where
  mem := by simp
  obj := fun i h st b hb => by
    have e : b = it := by simpa using hb
    subst e
    obtain ⟨o, e, c, d⟩ := st
    exact ⟨o, e, fun v z => by rw [d] at z; cases z⟩
  keep := fun i h h' st k => st.at fun o e => k it (by simp) o e
  item := by
    intro X hP hw hK hc i pins s σ H E I hf st hg
    subst hP hw hK
    obtain ⟨xs, x, hq, hx⟩ := hg
    obtain ⟨its, rv, p, hz⟩ := I.tuple hq
    obtain ⟨u, hu, ru⟩ := rv.get hx
    obtain ⟨f0, f1, f2, f3, f4, f5⟩ := hf it (by simp)
    refine wpAny_pyNext_tuple_item st (show s.heap.IsTuple a its.toArray from p) (x := u) (by simpa using hu) fun h' st' sb => ?_
    have I1 : Inv X pins σ H { s with heap := h' } := I.turned (t' := s.toks) (fun b o hb e => (sb.2 b hb).trans e) f0 f1 f3 f4 f5
    obtain ⟨o, e, c, d⟩ := id st'
    exact ⟨u, rfl, go_of (s := { s with heap := h' }) e c d (by decide) ⟨x, H, I1, ru, ⟨rfl, fun ys hy => by rw [I.tuple_inj hy hq]; exact hx⟩, st', fun b hb => (hf b hb).1⟩⟩
  done := by
    intro X hP hw hK hc i pins s σ H E I hf st hg
    subst hP hw hK
    obtain ⟨xs, hq, hx⟩ := hg
    obtain ⟨its, rv, p, hz⟩ := I.tuple hq
    obtain ⟨f0, f1, f2, f3, f4, f5⟩ := hf it (by simp)
    have hl := rv.length
    exact tup_end_hd (hd_of hc I) st p (by simp; omega) fun h' eb => ⟨rfl, I.turned (t' := s.toks) (fun b o hb e => eb b o hb e) f0 f1 f3 f4 f5⟩
  self := fun _ _ _ _ _ st h => wpAny_pyIter_tupleiter st h
theorem turn_range {P : Program} {w : World} {K : PySem.W.Frag} {tg : Expr} (it : Addr) (lo : Int) (n : Nat) : Turn P w K tg (Itr lo n) [it] it (fun i h => IsRangeIter h it (lo + (i : Nat) * 1) ((n : Int) - (i : Nat)) 1) where
  mem := by simp
  obj := fun i h st b hb => by
    have e : b = it := by simpa using hb
    subst e
    exact ⟨_, st, fun v z => by
      have z' : Data.fields _ = Data.cell v := z
      cases z'⟩
  keep := fun i h h' st k => k it (by simp) _ st
  item := by
    intro X hP hw hK hc i pins s σ H E I hf st hg
    subst hP hw hK
    obtain ⟨f0, f1, f2, f3, f4, f5⟩ := hf it (by simp)
    refine range_item_hd hg st fun t h' tk st' kk => ?_
    have I1 : Inv X pins σ H { s with heap := h', toks := tk } := I.turned (fun b o hb e => kk b o (by simpa using hb) e) f0 f1 f3 f4 f5
    refine ⟨_, rfl, go_of (s := { s with heap := h', toks := tk }) (n := "range_iterator") st' rfl rfl (by decide) ⟨.int (lo + i), H, I1, ⟨t, ?_⟩, ⟨rfl, rfl⟩, st', fun b hb => (hf b hb).1⟩⟩
    rw [Int.mul_one]
  done := by
    intro X hP hw hK hc i pins s σ H E I hf st hg
    subst hP hw hK
    obtain ⟨f0, f1, f2, f3, f4, f5⟩ := hf it (by simp)
    exact range_end_hd (hd_of hc I) st (by have : n ≤ i := hg; omega) fun h' eb => ⟨rfl, I.turned (t' := s.toks) (fun b o hb e => eb b o hb e) f0 f1 f3 f4 f5⟩
  self := fun _ _ _ _ _ st h => wpAny_pyIter_rangeiter st h
end L2

namespace L2
open PySem PySem.Spec PyProof.Rows
section
variable {X : Cx} {tg : Expr}
noncomputable def iList (K : PySem.W.Frag) (tl : TE) : TI := fun σ H R => tl σ H fun x H1 => ∃ a, x = .ref a ∧ (∃ xs, SqL K H1 a xs) ∧ R (Itl K a) H1
noncomputable def iTup (K : PySem.W.Frag) (tl : TE) : TI := fun σ H R => tl σ H fun x H1 => ∃ a, x = .ref a ∧ (∃ xs, SqT K H1 a xs) ∧ R (Itt K a) H1
theorem pi_list {l : Expr} {tl : TE} (hl : PE X l tl) : PI X tg l (iList X.K tl) := by
  intro pins s σ H R I h
  refine thn (hl pins s σ H _ I h) fun v s1 zz => ?_
  obtain ⟨x, H1, I1, r1, q1⟩ := zz
  obtain ⟨a, e, ⟨xs, hq⟩, q⟩ := q1
  subst e
  cases r1
  obtain ⟨its, rv, p, hz⟩ := I1.list hq
  refine wpAny_pyIter_list p.isList ?_
  refine ⟨s1.heap.objs.size, [s1.heap.objs.size], _, _, H1, rfl, I1.kept (t' := s1.toks) fun b o e => Heap.get?_push_of_some _ e, turn_list a _, ⟨_, Heap.get?_push_size _ rfl, rfl, rfl⟩, fun b hb => ?_, q⟩
  have e : b = s1.heap.objs.size := by simpa using hb
  subst e
  exact I1.fpOk (Nat.le_refl _) (I1.hok.fresh (Nat.le_refl _))
theorem pi_tup {l : Expr} {tl : TE} (hl : PE X l tl) : PI X tg l (iTup X.K tl) := by
  intro pins s σ H R I h
  refine thn (hl pins s σ H _ I h) fun v s1 zz => ?_
  obtain ⟨x, H1, I1, r1, q1⟩ := zz
  obtain ⟨a, e, ⟨xs, hq⟩, q⟩ := q1
  subst e
  cases r1
  obtain ⟨its, rv, p, hz⟩ := I1.tuple hq
  refine wpAny_pyIter_tuple (show s1.heap.IsTuple a its.toArray from p) ?_
  refine ⟨s1.heap.objs.size, [s1.heap.objs.size], _, _, H1, rfl, I1.kept (t' := s1.toks) fun b o e => Heap.get?_push_of_some _ e, turn_tuple a _, ⟨_, Heap.get?_push_size _ rfl, rfl, rfl⟩, fun b hb => ?_, q⟩
  have e : b = s1.heap.objs.size := by simpa using hb
  subst e
  exact I1.fpOk (Nat.le_refl _) (I1.hok.fresh (Nat.le_refl _))
theorem range_it {pins : List (Addr × Obj)} {σ : St} {H : Hp} {s : Shared} {R : It → Hp → Prop} {E : Value → Shared → Prop} {lo hi : Int} {t u v : Tok} {tk : Nat} (I : Inv X pins σ H s) (h1 : -(2 ^ 62) ≤ lo) (h2 : lo < 2 ^ 62) (h3 : -(2 ^ 62) ≤ hi) (h4 : hi < 2 ^ 62)
    (q : R (Itr lo (hi - lo).toNat) H) : wpAny (model X.prog X.w) X.A (pyIter (.ref s.heap.objs.size)) (PIE X pins σ tg R) E { s with heap := s.heap.push { cls := .type "range", data := .fields #[.int lo t, .int hi u, .int 1 v] }, toks := tk } := by
  refine wpAny_pyIter_range (IsRange.new ..) (small_one h1 h2 h3 h4) ?_
  have I1 : Inv X pins σ H { s with heap := s.heap.push { cls := .type "range", data := .fields #[.int lo t, .int hi u, .int 1 v] }, toks := tk } := I.kept fun b o e => Heap.get?_push_of_some _ e
  refine ⟨(s.heap.push { cls := .type "range", data := .fields #[.int lo t, .int hi u, .int 1 v] }).objs.size, [(s.heap.push { cls := .type "range", data := .fields #[.int lo t, .int hi u, .int 1 v] }).objs.size], _, _, H, rfl,
    I1.kept (t' := tk) fun b o e => Heap.get?_push_of_some _ e, turn_range _ lo (hi - lo).toNat, ?_, fun b hb => ?_, q⟩
  · have e1 : lo + ((0 : Nat) : Int) * 1 = lo := by simp
    have e2 : (((hi - lo).toNat : Nat) : Int) - ((0 : Nat) : Int) = Builtin.Range.rangeSize lo hi 1 := by rw [rangeSize_one]; split <;> omega
    show IsRangeIter _ _ (lo + ((0 : Nat) : Int) * 1) ((((hi - lo).toNat : Nat) : Int) - ((0 : Nat) : Int)) 1
    rw [e1, e2]
    exact Heap.get?_push_size _ rfl
  · have e : b = (s.heap.push { cls := .type "range", data := .fields #[.int lo t, .int hi u, .int 1 v] }).objs.size := by simpa using hb
    subst e
    exact I1.fpOk (Nat.le_refl _) (I1.hok.fresh (Nat.le_refl _))
noncomputable def iRng1 (ta : TA) : TI := fun σ H R => ta σ H fun vs H1 => ∃ j : Int, vs = [.int j] ∧ -(2 ^ 62) ≤ j ∧ j < 2 ^ 62 ∧ R (Itr 0 j.toNat) H1
noncomputable def iRng2 (ta : TA) : TI := fun σ H R => ta σ H fun vs H1 => ∃ i j : Int, vs = [.int i, .int j] ∧ (-(2 ^ 62) ≤ i ∧ i < 2 ^ 62 ∧ -(2 ^ 62) ≤ j ∧ j < 2 ^ 62) ∧ R (Itr i (j - i).toNat) H1
theorem pi_range1 {a : Expr} {ta : TA} {p pos : Pos} (hg : Gl X "range") (hm : X.mg "range" = none) (ha : PA X [a] ta) (hs : starEach [a] X.env = [(false, eval a X.env)] := by rfl) : PI X tg (.Call (.Name "range" p) [a] [] pos) (iRng1 ta) := by
  intro pins s σ H R I h
  refine Call_ (ld_blt I hg hm boot_range (PyProof.Rows.callWith_type1 (thn (ha pos pins s σ H _ I h) fun us s1 zz => ?_) hs rfl))
  obtain ⟨vs, H1, I1, r1, q1⟩ := zz
  obtain ⟨j, e, q1, q2, q⟩ := q1
  subst e
  cases r1 with
  | cons r rr =>
    cases rr
    obtain ⟨t, rfl⟩ := r
    exact call_range_1 (range_it I1 (by omega) (by omega) q1 q2 (by simpa using q))
theorem pi_range2 {a b : Expr} {ta : TA} {p pos : Pos} (hg : Gl X "range") (hm : X.mg "range" = none) (ha : PA X [a, b] ta) (hs : starEach [a, b] X.env = [(false, eval a X.env), (false, eval b X.env)] := by rfl) (hs2 : starEach [b] X.env = [(false, eval b X.env)] := by rfl) :
    PI X tg (.Call (.Name "range" p) [a, b] [] pos) (iRng2 ta) := by
  intro pins s σ H R I h
  refine Call_ (ld_blt I hg hm boot_range (PyProof.Rows.callWith_type1 (thn (ha pos pins s σ H _ I h) fun us s1 zz => ?_) (by rw [hs, hs2]) (by rw [hs2]; rfl)))
  obtain ⟨vs, H1, I1, r1, q1⟩ := zz
  obtain ⟨i, j, e, ⟨q1, q2, q3, q4⟩, q⟩ := q1
  subst e
  cases r1 with
  | cons r rr =>
    cases rr with
    | cons r' rr =>
      cases rr
      obtain ⟨t, rfl⟩ := r
      obtain ⟨t', rfl⟩ := r'
      exact call_range_2 (range_it I1 q1 q2 q3 q4 q)

/-! ### for -/
noncomputable def tFor (wi : TI) (g : TG) (tb : TS) : TS := fun D σ H => wi σ H fun J H1 => ∃ W : Nat → Nat → St → Hp → Prop, (∃ m, W 0 m σ H1) ∧ ∀ i m σ H, W i m σ H →
  (J.stop i H ∧ D.nx σ H) ∨ (J.go i H ∧ ∃ N : St → Hp → Prop, (∀ σ' H', N σ' H' → ∃ m', m' < m ∧ W (i + 1) m' σ' H') ∧ ∀ x H', J.yld i H x H' → g x σ H' fun σ2 H2 => tb { D with nx := N, ct := N, bk := D.nx } σ2 H2)
noncomputable def pinsAt (fp : List Addr) (h : Heap) : List (Addr × Obj) := fp.filterMap fun b => (h.get? b).map fun o => (b, o)
theorem mem_pinsAt {fp : List Addr} {h : Heap} {b : Addr} {o : Obj} (hb : b ∈ fp) (e : h.get? b = some o) : (b, o) ∈ pinsAt fp h := List.mem_filterMap.mpr ⟨b, hb, by rw [e]; rfl⟩
theorem of_pinsAt {fp : List Addr} {h : Heap} {p : Addr × Obj} (hp : p ∈ pinsAt fp h) : p.1 ∈ fp ∧ h.get? p.1 = some p.2 := by
  obtain ⟨b, hb, e⟩ := List.mem_filterMap.mp hp
  cases q : h.get? b with
  | none => rw [q] at e; cases e
  | some o =>
    rw [q] at e
    have e' : (b, o) = p := Option.some.inj e
    subst e'
    exact ⟨hb, q⟩
theorem Inv.pinned {pins : List (Addr × Obj)} {σ : St} {H : Hp} {s : Shared} {fp : List Addr} (I : Inv X pins σ H s) (hf : ∀ b ∈ fp, FpOk X pins H b) (ho : ∀ b ∈ fp, ∃ o, s.heap.get? b = some o ∧ ∀ v, o.data ≠ .cell v) : Inv X (pins ++ pinsAt fp s.heap) σ H s :=
  I.pins_of fun p hp => (List.mem_append.mp hp).elim (fun z => I.pin p (List.mem_append_right _ z)) fun z => by
    obtain ⟨hb, e⟩ := of_pinsAt z
    obtain ⟨f0, f1, f2, _⟩ := hf p.1 hb
    obtain ⟨o, e', d⟩ := ho p.1 hb
    rw [e] at e'; cases e'
    exact ⟨e, f0, f1, f2, d⟩
theorem Inv.unpinned {pins pl : List (Addr × Obj)} {σ : St} {H : Hp} {s : Shared} (I : Inv X (pins ++ pl) σ H s) : Inv X pins σ H s := I.pins_of fun p hp => I.pin p (List.mem_append_right _ (List.mem_append_left _ hp))
theorem ps_forH {iter : Expr} {body : List Stmt} {wi : TI} {g : TG} {tb : TS} {pos : Pos} (hp : PassesOwn (model X.prog X.w) X.A X.env X.xe) (hc : HandI X) (hi : PI X tg iter wi) (hg : PG X tg g) (hb : PSs X body tb)
    (hs : ∀ x, foldedSetIterable iter X.env x = pure x := by intro _; rfl) : PS X (.For tg iter body [] pos) (tFor wi g tb) := by
  intro pins s σ H D I h
  refine wpAny_For (thn (hi pins s σ H _ I h) fun v s1 h1 => thn h1 fun itv s2 h2 => ?_) hs
  obtain ⟨it, fp, tn, J, H2, e, I2, T, st2, f2, W, ⟨m0, w0⟩, turn⟩ := h2
  subst e
  -- what stays true of the iterator's objects through the loop
  have stat : ∀ {H' : Hp}, (∀ b ∈ fp, H' b = none) → ∀ b ∈ fp, FpOk X pins H' b := fun hn b hb => ⟨hn b hb, (f2 b hb).2⟩
  refine codeAny_forLoop_any (fun n s' => ∃ i σ' H', Inv X pins σ' H' s' ∧ tn i s'.heap ∧ (∀ b ∈ fp, H' b = none) ∧ W i n σ' H') ?_ m0 ⟨0, σ, H2, I2, st2, fun b hb => (f2 b hb).1, w0⟩
  rintro n s3 ⟨i, σ3, H3, I3, st3, fr3, w3⟩
  rcases turn i n σ3 H3 w3 with ⟨stop, qn⟩ | ⟨go, N, hN, step⟩
  · refine wpAny_passesOwn hp (thn (T.done X rfl rfl rfl hc i pins s3 σ3 H3 X.xe I3 (stat fr3) st3 stop) fun r s4 ⟨hr, I4⟩ => ?_)
    subst hr
    exact wpAny_execs_nil ⟨σ3, H3, I4, qn⟩
  · refine wpAny_passesOwn hp (thn (T.item X rfl rfl rfl hc i pins s3 σ3 H3 X.xe I3 (stat fr3) st3 go) fun r s4 zz => L2.el3 zz fun u hr h4 => ?_)
    subst hr
    refine wpAny_passesOwn hp (thn h4 fun _ s5 zz => ?_)
    obtain ⟨x, H5, I5, r5, y5, st5, fr5⟩ := zz
    have I5' := I5.pinned (stat fr5) (T.obj _ _ st5)
    refine wpAny_passesOwn hp (thn (hg _ s5 σ3 H5 x u _ I5' r5 (step x H5 y5)) fun _ s6 zz => ?_)
    obtain ⟨σ6, H6, I6, q6⟩ := zz
    refine wpAny_passesOwn hp (thn (hb _ s6 σ6 H6 _ I6 q6) fun f s7 q7 => ?_)
    have again : ∀ {σ7 : St} {H7 : Hp}, Inv X (pins ++ pinsAt fp s5.heap) σ7 H7 s7 → N σ7 H7 → ∃ m, m < n ∧ ∃ i σ' H', Inv X pins σ' H' s7 ∧ tn i s7.heap ∧ (∀ b ∈ fp, H' b = none) ∧ W i m σ' H' := fun {σ7 H7} I7 n7 => by
      obtain ⟨m', hm, w7⟩ := hN σ7 H7 n7
      refine ⟨m', hm, i + 1, σ7, H7, I7.unpinned, T.keep _ _ _ st5 fun b hb o e => (I7.pin (b, o) (List.mem_append_right _ (List.mem_append_right _ (mem_pinsAt hb e)))).1, fun b hb => ?_, w7⟩
      obtain ⟨o, e, d⟩ := T.obj _ _ st5 b hb
      exact (I7.pin (b, o) (List.mem_append_right _ (List.mem_append_right _ (mem_pinsAt hb e)))).2.1
    cases f with
    | next => obtain ⟨σ7, H7, I7, n7⟩ := q7; exact again I7 n7
    | cont => obtain ⟨σ7, H7, I7, n7⟩ := q7; exact again I7 n7
    | brk => obtain ⟨σ7, H7, I7, q7⟩ := q7; exact ⟨σ7, H7, I7.unpinned, q7⟩
    | ret v => obtain ⟨x7, σ7, H7, I7, r7, q7⟩ := q7; exact ⟨x7, σ7, H7, I7.unpinned, r7, q7⟩
theorem ps_for {iter : Expr} {body : List Stmt} {wi : TI} {g : TG} {tb : TS} {pos : Pos} (hp : PassesOwn (model X.prog X.w) X.A X.env X.xe) (hc : X.calm = true) (hi : PI X tg iter wi) (hg : PG X tg g) (hb : PSs X body tb)
    (hs : ∀ x, foldedSetIterable iter X.env x = pure x := by intro _; rfl) : PS X (.For tg iter body [] pos) (tFor wi g tb) := ps_forH hp (.inl hc) hi hg hb hs
end

/-! ### the forms one uses -/
theorem for_list {K : PySem.W.Frag} {a : Addr} {xs : List V} {g : TG} {tb : TS} {D : Ends} {σ : St} {H : Hp} (Pv : Nat → St → Hp → Prop) (h0 : Pv 0 σ H) (hl : ∀ i σ H, i ≤ xs.length → Pv i σ H → SqL K H a xs)
    (hs : ∀ i x σ H, xs[i]? = some x → Pv i σ H → g x σ H fun σ2 H2 => tb { D with nx := Pv (i + 1), ct := Pv (i + 1), bk := D.nx } σ2 H2) (hd : ∀ σ H, Pv xs.length σ H → D.nx σ H) :
    ∃ W : Nat → Nat → St → Hp → Prop, (∃ m, W 0 m σ H) ∧ ∀ i m σ H, W i m σ H →
      ((Itl K a).stop i H ∧ D.nx σ H) ∨ ((Itl K a).go i H ∧ ∃ N : St → Hp → Prop, (∀ σ' H', N σ' H' → ∃ m', m' < m ∧ W (i + 1) m' σ' H') ∧ ∀ x H', (Itl K a).yld i H x H' → g x σ H' fun σ2 H2 => tb { D with nx := N, ct := N, bk := D.nx } σ2 H2) := by
  refine ⟨fun i m σ H => m = xs.length - i ∧ i ≤ xs.length ∧ Pv i σ H, ⟨xs.length, by simp, Nat.zero_le _, h0⟩, ?_⟩
  rintro i m σ H ⟨rfl, hi, p⟩
  have q := hl i σ H hi p
  by_cases hlt : i < xs.length
  · refine .inr ⟨⟨xs, xs[i], q, by simp [hlt]⟩, Pv (i + 1), fun σ' H' p' => ⟨xs.length - (i + 1), by omega, rfl, hlt, p'⟩, fun x H' y => ?_⟩
    obtain ⟨e, y⟩ := y
    subst e
    exact hs i x σ _ (y xs q) p
  · have e : i = xs.length := by omega
    subst e
    exact .inl ⟨⟨xs, q, Nat.le_refl _⟩, hd σ H p⟩
theorem for_range {lo : Int} {n : Nat} {g : TG} {tb : TS} {D : Ends} {σ : St} {H : Hp} (Pv : Nat → St → Hp → Prop) (h0 : Pv 0 σ H)
    (hs : ∀ i σ H, i < n → Pv i σ H → g (.int (lo + i)) σ H fun σ2 H2 => tb { D with nx := Pv (i + 1), ct := Pv (i + 1), bk := D.nx } σ2 H2) (hd : ∀ σ H, Pv n σ H → D.nx σ H) :
    ∃ W : Nat → Nat → St → Hp → Prop, (∃ m, W 0 m σ H) ∧ ∀ i m σ H, W i m σ H →
      ((Itr lo n).stop i H ∧ D.nx σ H) ∨ ((Itr lo n).go i H ∧ ∃ N : St → Hp → Prop, (∀ σ' H', N σ' H' → ∃ m', m' < m ∧ W (i + 1) m' σ' H') ∧ ∀ x H', (Itr lo n).yld i H x H' → g x σ H' fun σ2 H2 => tb { D with nx := N, ct := N, bk := D.nx } σ2 H2) := by
  refine ⟨fun i m σ H => m = n - i ∧ i ≤ n ∧ Pv i σ H, ⟨n, by simp, Nat.zero_le _, h0⟩, ?_⟩
  rintro i m σ H ⟨rfl, hi, p⟩
  by_cases hlt : i < n
  · refine .inr ⟨hlt, Pv (i + 1), fun σ' H' p' => ⟨n - (i + 1), by omega, rfl, hlt, p'⟩, fun x H' y => ?_⟩
    obtain ⟨e, y⟩ := y
    subst e y
    exact hs i σ _ hlt p
  · have e : i = n := by omega
    subst e
    exact .inl ⟨Nat.le_refl _, hd σ H p⟩
end L2

namespace L2
open PySem PySem.Spec PyProof.Rows

noncomputable abbrev R2 := V → V → Hp → VK → Prop
noncomputable def OpR (X : Cx) (f : Value → Value → Sem Value) (r : R2) : Prop :=
  ∀ (pins : List (Addr × Obj)) (s : Shared) (σ : St) (H : Hp) (x y : V) (v u : Value) (Q : VK), Inv X pins σ H s → RelV x v → RelV y u → r x y H Q →
    wpAny (model X.prog X.w) X.A (f v u) (EP X pins σ Q) X.xe s
noncomputable def UnR (X : Cx) (f : Value → Sem Value) (r : V → Hp → VK → Prop) : Prop :=
  ∀ (pins : List (Addr × Obj)) (s : Shared) (σ : St) (H : Hp) (x : V) (v : Value) (Q : VK), Inv X pins σ H s → RelV x v → r x H Q →
    wpAny (model X.prog X.w) X.A (f v) (EP X pins σ Q) X.xe s
noncomputable def CallR (X : Cx) (f : Value) (r : List V → Hp → VK → Prop) : Prop :=
  ∀ (pins : List (Addr × Obj)) (s : Shared) (σ : St) (H : Hp) (xs : List V) (us : List Value) (Q : VK), Inv X pins σ H s → Vals xs us → r xs H Q →
    wpAny (model X.prog X.w) X.A (call f us) (EP X pins σ Q) X.xe s

noncomputable def tOp (r : R2) (ta tb : TE) : TE := fun σ H Q => ta σ H fun x H1 => tb σ H1 fun y H2 => r x y H2 Q
noncomputable def tUn (r : V → Hp → VK → Prop) (ta : TE) : TE := fun σ H Q => ta σ H fun x H1 => r x H1 Q
noncomputable def rI (C : Int → Int → Prop) (g : Int → Int → V) : R2 := fun x y H Q => ∃ i j, x = .int i ∧ y = .int j ∧ C i j ∧ Q (g i j) H
noncomputable def rI0 (g : Int → Int → V) : R2 := fun x y H Q => ∃ i j, x = .int i ∧ y = .int j ∧ Q (g i j) H
noncomputable def rU (g : Int → V) : V → Hp → VK → Prop := fun x H Q => ∃ i, x = .int i ∧ Q (g i) H

section
variable {X : Cx} {a b c : Expr} {ta tb tc : TE} {pos : Pos}

theorem binT (ha : PE X a ta) (hb : PE X b tb) {pins : List (Addr × Obj)} {s : Shared} {σ : St} {H : Hp} {R : V → V → Hp → Prop} (I : Inv X pins σ H s)
    (h : ta σ H fun x H1 => tb σ H1 fun y H2 => R x y H2) {Q : Value → Shared → Prop} {f : Value → Value → Sem Value}
    (hf : ∀ v u s2 x y H2, Inv X pins σ H2 s2 → RelV x v → RelV y u → R x y H2 → wpAny (model X.prog X.w) X.A (f v u) Q X.xe s2) :
    wpAny (model X.prog X.w) X.A (eval a X.env) (fun v s₁ => wpAny (model X.prog X.w) X.A (eval b X.env) (fun u s₂ => wpAny (model X.prog X.w) X.A (f v u) Q X.xe s₂) X.xe s₁) X.xe s := by
  refine thn (ha pins s σ H _ I h) fun v s1 zz => ?_
  obtain ⟨x, H1, I1, r1, q1⟩ := zz
  refine thn (hb pins s1 σ H1 _ I1 q1) fun u s2 zz => ?_
  obtain ⟨y, H2, I2, r2, q2⟩ := zz
  exact hf v u s2 x y H2 I2 r1 r2 q2

theorem pe_op {op : Operator} {r : R2} (ho : OpR X (binaryOp op) r) (ha : PE X a ta) (hb : PE X b tb) : PE X (.BinOp a op b pos) (tOp r ta tb) := by
  intro pins s σ H Q I h
  exact wpAny_BinOp (binT ha hb I h fun v u s2 x y H2 I2 rx ry q => ho pins s2 σ H2 x y v u Q I2 rx ry q)
theorem pe_un {op : UnaryOp} {r : V → Hp → VK → Prop} (ho : UnR X (unaryOp op) r) (ha : PE X a ta) : PE X (.UnaryOp op a pos) (tUn r ta) := by
  intro pins s σ H Q I h
  exact UnaryOp_ (thn (ha pins s σ H _ I h) fun v s1 zz => L2.el5 zz fun x H1 I1 r1 q1 => ho pins s1 σ H1 x v Q I1 r1 q1)

/-! ### ints -/
theorem opI {f : Value → Value → Sem Value} {C : Int → Int → Prop} {g : Int → Int → Int}
    (rule : ∀ (i j : Int) (t u : Tok) (s : Shared) (Q : Value → Shared → Prop) (E : Value → Shared → Prop), C i j → Q (.int (g i j) s.toks) { s with toks := s.toks + 1 } → wpAny (model X.prog X.w) X.A (f (.int i t) (.int j u)) Q E s) :
    OpR X f (rI C fun i j => .int (g i j)) := by
  intro pins s σ H x y v u Q I rx ry h
  obtain ⟨i, j, rfl, rfl, hc, q⟩ := h
  obtain ⟨t, rfl⟩ := rx
  obtain ⟨t', rfl⟩ := ry
  exact rule i j t t' s _ _ hc ⟨.int (g i j), H, I.tok _, ⟨_, rfl⟩, q⟩
theorem opI0 {f : Value → Value → Sem Value} {g : Int → Int → Int}
    (rule : ∀ (i j : Int) (t u : Tok) (s : Shared) (Q : Value → Shared → Prop) (E : Value → Shared → Prop), Q (.int (g i j) s.toks) { s with toks := s.toks + 1 } → wpAny (model X.prog X.w) X.A (f (.int i t) (.int j u)) Q E s) :
    OpR X f (rI0 fun i j => .int (g i j)) := by
  intro pins s σ H x y v u Q I rx ry h
  obtain ⟨i, j, rfl, rfl, q⟩ := h
  obtain ⟨t, rfl⟩ := rx
  obtain ⟨t', rfl⟩ := ry
  exact rule i j t t' s _ _ ⟨.int (g i j), H, I.tok _, ⟨_, rfl⟩, q⟩
theorem opB0 {f : Value → Value → Sem Value} {g : Int → Int → Bool}
    (rule : ∀ (i j : Int) (t u : Tok) (s : Shared) (Q : Value → Shared → Prop) (E : Value → Shared → Prop), Q (.bool (g i j)) s → wpAny (model X.prog X.w) X.A (f (.int i t) (.int j u)) Q E s) :
    OpR X f (rI0 fun i j => .bl (g i j)) := by
  intro pins s σ H x y v u Q I rx ry h
  obtain ⟨i, j, rfl, rfl, q⟩ := h
  obtain ⟨t, rfl⟩ := rx
  obtain ⟨t', rfl⟩ := ry
  exact rule i j t t' s _ _ ⟨.bl (g i j), H, I, rfl, q⟩

noncomputable def CMul (i j : Int) : Prop := (-(2 ^ 64) < i ∧ i < 2 ^ 64) ∨ (-(2 ^ 64) < j ∧ j < 2 ^ 64)
theorem CMul.ok {i j : Int} (h : CMul i j) : IntMulOk i j := by
  rcases h with ⟨h1, h2⟩ | ⟨h1, h2⟩
  · exact .of_left (intBits_le_64 h1 h2)
  · exact .of_right (intBits_le_64 h1 h2)

theorem op_add : OpR X (binaryOp .Add) (rI0 fun i j => .int (i + j)) := opI0 fun _ _ _ _ _ _ _ q => add_int q
theorem op_sub : OpR X (binaryOp .Sub) (rI0 fun i j => .int (i - j)) := opI0 fun _ _ _ _ _ _ _ q => sub_int q
theorem op_mul : OpR X (binaryOp .Mult) (rI CMul fun i j => .int (i * j)) := opI fun _ _ _ _ _ _ _ hc q => mul_int q hc.ok
theorem op_mod : OpR X (binaryOp .Mod) (rI (fun _ j => 0 < j) fun i j => .int (i % j)) := opI fun i j _ _ _ _ _ hc q => by
  have h1 : (0 : Int) < j := hc
  exact mod_int' (by omega) (by rw [Int.fmod_eq_emod_of_nonneg i (by omega)]; exact q)


theorem unI {f : Value → Sem Value} {g : Int → Int}
    (rule : ∀ (i : Int) (t : Tok) (s : Shared) (Q : Value → Shared → Prop) (E : Value → Shared → Prop), Q (.int (g i) s.toks) { s with toks := s.toks + 1 } → wpAny (model X.prog X.w) X.A (f (.int i t)) Q E s) :
    UnR X f (rU fun i => .int (g i)) := by
  intro pins s σ H x v Q I rx h
  obtain ⟨i, rfl, q⟩ := h
  obtain ⟨t, rfl⟩ := rx
  exact rule i t s _ _ ⟨.int (g i), H, I.tok _, ⟨_, rfl⟩, q⟩
theorem un_neg : UnR X (unaryOp .USub) (rU fun i => .int (-i)) := unI fun _ _ _ _ _ q => neg_int q

/-! ### bools among ints: n += (a < b) -/
end

/-! ### comparisons -/
noncomputable def scal : V → V → Bool
  | .non, .non => true | .non, .int _ => true | .int _, .non => true | .non, .bl _ => true | .bl _, .non => true | .non, .str _ => true | .str _, .non => true
  | .int _, .int _ => true | .bl _, .bl _ => true | .str _, .str _ => true | .byt _, .byt _ => true
  | .int _, .str _ => true | .str _, .int _ => true | .bl _, .str _ => true | .str _, .bl _ => true
  | _, _ => false
noncomputable def rEq : R2 := fun x y H Q => scal x y = true ∧ Q (.bl (decide (x = y))) H
noncomputable def rNe : R2 := fun x y H Q => scal x y = true ∧ Q (.bl (!decide (x = y))) H

theorem dec_int {i j : Int} : decide (V.int i = V.int j) = (i == j) := by
  rw [Bool.eq_iff_iff]
  simp
theorem dec_bl {i j : Bool} : decide (V.bl i = V.bl j) = (i == j) := by
  rw [Bool.eq_iff_iff]
  simp
theorem dec_str {i j : Str} : decide (V.str i = V.str j) = (i == j) := by
  rw [Bool.eq_iff_iff]
  simp
theorem dec_byt {i j : Array UInt8} : decide (V.byt i = V.byt j) = (i.toList == j.toList) := by
  rw [Bool.eq_iff_iff]
  cases i
  cases j
  simp

section
variable {X : Cx} {a b c : Expr} {ta tb tc : TE} {pos : Pos}
theorem fin_bl {pins : List (Addr × Obj)} {σ : St} {H : Hp} {s : Shared} {Q : VK} {k k' : Bool} (I : Inv X pins σ H s) (q : Q (.bl k) H) (e : k = k') : EP X pins σ Q (.bool k') s := by
  subst e
  exact ⟨.bl k, H, I, rfl, q⟩
theorem op_eq : OpR X (compareOp .Eq) rEq := by
  intro pins s σ H x y v u Q I rx ry h
  obtain ⟨hs, q⟩ := h
  cases x with
  | non =>
    cases rx
    cases y with
    | non => cases ry; exact PySem.EqNone.eq_none_none (fin_bl I q (by simp))
    | bl j => cases ry; exact PySem.EqNone.eq_none_bool (fin_bl I q (by simp))
    | int j => obtain ⟨t', rfl⟩ := ry; exact PySem.EqNone.eq_none_int (fin_bl I q (by simp))
    | str j => obtain ⟨t', rfl⟩ := ry; exact PySem.EqNone.eq_none_str (fin_bl I q (by simp))
    | _ => exact absurd (show false = true from hs) Bool.false_ne_true
  | bl i =>
    cases rx
    cases y with
    | non => cases ry; exact PySem.EqNone.eq_bool_none (fin_bl I q (by simp))
    | bl j => cases ry; exact eq_bool (fin_bl I q dec_bl)
    | str j => obtain ⟨t', rfl⟩ := ry; exact PySem.EqMixed.eq_bool_str (fin_bl I q (by simp))
    | _ => exact absurd (show false = true from hs) Bool.false_ne_true
  | int i =>
    obtain ⟨t, rfl⟩ := rx
    cases y with
    | non => cases ry; exact PySem.EqNone.eq_int_none (fin_bl I q (by simp))
    | int j => obtain ⟨t', rfl⟩ := ry; exact eq_int (fin_bl I q dec_int)
    | str j => obtain ⟨t', rfl⟩ := ry; exact PySem.EqMixed.eq_int_str (fin_bl I q (by simp))
    | _ => exact absurd (show false = true from hs) Bool.false_ne_true
  | str i =>
    obtain ⟨t, rfl⟩ := rx
    cases y with
    | non => cases ry; exact PySem.EqNone.eq_str_none (fin_bl I q (by simp))
    | bl j => cases ry; exact PySem.EqMixed.eq_str_bool (fin_bl I q (by simp))
    | int j => obtain ⟨t', rfl⟩ := ry; exact PySem.EqMixed.eq_str_int (fin_bl I q (by simp))
    | str j => obtain ⟨t', rfl⟩ := ry; exact eq_str (fin_bl I q dec_str)
    | _ => exact absurd (show false = true from hs) Bool.false_ne_true
  | byt i =>
    obtain ⟨t, rfl⟩ := rx
    cases y with
    | byt j => obtain ⟨t', rfl⟩ := ry; exact PySem.W.eq_bytes (fin_bl I q dec_byt)
    | _ => exact absurd (show false = true from hs) Bool.false_ne_true
  | _ => cases y <;> exact absurd (show false = true from hs) Bool.false_ne_true
theorem op_ne : OpR X (compareOp .NotEq) rNe := by
  intro pins s σ H x y v u Q I rx ry h
  obtain ⟨hs, q⟩ := h
  cases x with
  | non =>
    cases rx
    cases y with
    | non => cases ry; exact PySem.EqNone.ne_none_none (fin_bl I q (by simp))
    | bl j => cases ry; exact PySem.EqNone.ne_none_bool (fin_bl I q (by simp))
    | int j => obtain ⟨t', rfl⟩ := ry; exact PySem.EqNone.ne_none_int (fin_bl I q (by simp))
    | str j => obtain ⟨t', rfl⟩ := ry; exact PySem.EqNone.ne_none_str (fin_bl I q (by simp))
    | _ => exact absurd (show false = true from hs) Bool.false_ne_true
  | bl i =>
    cases rx
    cases y with
    | non => cases ry; exact PySem.EqNone.ne_bool_none (fin_bl I q (by simp))
    | bl j => cases ry; exact ne_bool (fin_bl I q (congrArg not dec_bl))
    | str j => obtain ⟨t', rfl⟩ := ry; exact PySem.EqMixed.ne_bool_str (fin_bl I q (by simp))
    | _ => exact absurd (show false = true from hs) Bool.false_ne_true
  | int i =>
    obtain ⟨t, rfl⟩ := rx
    cases y with
    | non => cases ry; exact PySem.EqNone.ne_int_none (fin_bl I q (by simp))
    | int j => obtain ⟨t', rfl⟩ := ry; exact ne_int (fin_bl I q (congrArg not dec_int))
    | str j => obtain ⟨t', rfl⟩ := ry; exact PySem.EqMixed.ne_int_str (fin_bl I q (by simp))
    | _ => exact absurd (show false = true from hs) Bool.false_ne_true
  | str i =>
    obtain ⟨t, rfl⟩ := rx
    cases y with
    | non => cases ry; exact PySem.EqNone.ne_str_none (fin_bl I q (by simp))
    | bl j => cases ry; exact PySem.EqMixed.ne_str_bool (fin_bl I q (by simp))
    | int j => obtain ⟨t', rfl⟩ := ry; exact PySem.EqMixed.ne_str_int (fin_bl I q (by simp))
    | str j => obtain ⟨t', rfl⟩ := ry; exact ne_str (fin_bl I q (congrArg not dec_str))
    | _ => exact absurd (show false = true from hs) Bool.false_ne_true
  | byt i =>
    obtain ⟨t, rfl⟩ := rx
    cases y with
    | byt j => obtain ⟨t', rfl⟩ := ry; exact PySem.W.ne_bytes (fin_bl I q (congrArg not dec_byt))
    | _ => exact absurd (show false = true from hs) Bool.false_ne_true
  | _ => cases y <;> exact absurd (show false = true from hs) Bool.false_ne_true

theorem op_lt : OpR X (compareOp .Lt) (rI0 fun i j => .bl (decide (i < j))) := opB0 fun _ _ _ _ _ _ _ q => lt_int q
theorem op_le : OpR X (compareOp .LtE) (rI0 fun i j => .bl (decide (i ≤ j))) := opB0 fun _ _ _ _ _ _ _ q => le_int q
theorem op_gt : OpR X (compareOp .Gt) (rI0 fun i j => .bl (decide (j < i))) := opB0 fun _ _ _ _ _ _ _ q => gt_int q
theorem op_in_str : OpR X (compareOp .In) (fun x y H Q => ∃ i j, x = .str i ∧ y = .str j ∧ Q (.bl (!(Builtin.Str.occurrences j i 0 j.length 1).isEmpty)) H) := by
  intro pins s σ H x y v u Q I rx ry h
  obtain ⟨i, j, rfl, rfl, q⟩ := h
  obtain ⟨t, rfl⟩ := rx
  obtain ⟨t', rfl⟩ := ry
  exact in_str (fin_bl I q rfl)

theorem op_isN : OpR X (compareOp .Is) (fun x y H Q => y = .non ∧ Q (.bl (decide (x = .non))) H) := by
  intro pins s σ H x y v u Q I rx ry h
  obtain ⟨rfl, q⟩ := h
  cases ry
  refine is_none_gen (fin_bl I q ?_)
  cases x <;> first
    | (cases rx; rfl)
    | (obtain ⟨t, rfl⟩ := rx; rfl)



theorem nomark (b : Expr) {op : CmpOp} (h : op ≠ .In := by decide) (h2 : op ≠ .NotIn := by decide) : behindInMarks op b = false := by
  have e1 : (op == CmpOp.In) = false := by cases op <;> first | rfl | exact absurd rfl h
  have e2 : (op == CmpOp.NotIn) = false := by cases op <;> first | rfl | exact absurd rfl h2
  cases b <;> simp [behindInMarks, e1, e2]
theorem pe_cmpR {op : CmpOp} {r : R2} (ho : OpR X (compareOp op) r) (ha : PE X a ta) (hb : PE X b tb) (hm : behindInMarks op b = false) : PE X (.Compare a [op] [b] pos) (tOp r ta tb) := by
  intro pins s σ H Q I h
  exact wpAny_Compare1 (binT ha hb I h fun v u s2 x y H2 I2 rx ry q => ho pins s2 σ H2 x y v u Q I2 rx ry q) hm
noncomputable def tTest (t : TE) : TT := fun σ H Q => t σ H fun x H' => ∃ k, x = .bl k ∧ Q k H'
theorem pt_cmpR {op : CmpOp} {r : R2} (ho : OpR X (compareOp op) r) (ha : PE X a ta) (hb : PE X b tb) (hm : behindInMarks op b = false) : PT X (.Compare a [op] [b] pos) (tTest (tOp r ta tb)) := by
  intro pins s σ H Q I h
  refine wpAny_isTrue_Compare1 (thn (ha pins s σ H _ I h) fun v s1 zz => L2.el5 zz fun x H1 I1 r1 q1 => thn (hb pins s1 σ H1 _ I1 q1) fun u s2 zz => L2.el5 zz fun y H2 I2 r2 q2 =>
    thn (ho pins s2 σ H2 x y v u _ I2 r1 r2 q2) fun c s3 zz => ?_) hm
  obtain ⟨z, H3, I3, r3, k, e, q3⟩ := zz
  subst e
  cases r3
  exact wpAny_truthy_bool ⟨H3, I3, q3⟩
noncomputable def tChain (r r' : R2) (ta tb tc : TE) : TE := fun σ H Q => ta σ H fun x H1 => tb σ H1 fun y H2 => r x y H2 fun z H3 => ∃ k, z = .bl k ∧
  (if k = true then tc σ H3 fun w' H4 => r' y w' H4 Q else Q (.bl false) H3)
theorem pe_chain {op op' : CmpOp} {r r' : R2} (ho : OpR X (compareOp op) r) (ho' : OpR X (compareOp op') r') (ha : PE X a ta) (hb : PE X b tb) (hc : PE X c tc)
    (hm : lastMarks [op, op'] [b, c] = false := by with_unfolding_all rfl) : PE X (.Compare a [op, op'] [b, c] pos) (tChain r r' ta tb tc) := by
  intro pins s σ H Q I h
  refine Compare_chain (thn (ha pins s σ H _ I h) fun v s1 zz => L2.el5 zz fun x H1 I1 r1 q1 => chain_link (thn (hb pins s1 σ H1 _ I1 q1) fun u s2 zz => L2.el5 zz fun y H2 I2 r2 q2 =>
    thn (ho pins s2 σ H2 x y v u _ I2 r1 r2 q2) fun d s3 zz => ?_)) hm
  obtain ⟨z, H3, I3, r3, k, e, q3⟩ := zz
  subst e
  cases r3
  refine wpAny_truthy_bool ?_
  cases k with
  | false => exact ite_ff ⟨.bl false, H3, I3, rfl, q3⟩
  | true => exact ite_tt (chain_last (thn (hc pins s3 σ H3 _ I3 q3) fun w' s4 zz => L2.el5 zz fun z' H4 I4 r4 q4 => ho' pins s4 σ H4 y z' u w' Q I4 r2 r4 q4))
theorem pt_chain {op op' : CmpOp} {r r' : R2} (ho : OpR X (compareOp op) r) (ho' : OpR X (compareOp op') r') (ha : PE X a ta) (hb : PE X b tb) (hc : PE X c tc)
    (hm : lastMarks [op, op'] [b, c] = false := by with_unfolding_all rfl) : PT X (.Compare a [op, op'] [b, c] pos) (tTest (tChain r r' ta tb tc)) := by
  intro pins s σ H Q I h
  refine isTrue_chain (thn (ha pins s σ H _ I h) fun v s1 zz => L2.el5 zz fun x H1 I1 r1 q1 => test_link (thn (hb pins s1 σ H1 _ I1 q1) fun u s2 zz => L2.el5 zz fun y H2 I2 r2 q2 =>
    thn (ho pins s2 σ H2 x y v u _ I2 r1 r2 q2) fun d s3 zz => ?_)) hm
  obtain ⟨z, H3, I3, r3, k, e, q3⟩ := zz
  subst e
  cases r3
  refine wpAny_truthy_bool ?_
  cases k with
  | false =>
    obtain ⟨k', e', q'⟩ := q3
    cases e'
    exact ite_ff ⟨H3, I3, q'⟩
  | true =>
    refine ite_tt (test_last (thn (hc pins s3 σ H3 _ I3 q3) fun w' s4 zz => L2.el5 zz fun z' H4 I4 r4 q4 => thn (ho' pins s4 σ H4 y z' u w' _ I4 r2 r4 q4) fun d' s5 zz => ?_))
    obtain ⟨z2, H5, I5, r5, k2, e2, q5⟩ := zz
    subst e2
    cases r5
    exact wpAny_truthy_bool ⟨H5, I5, q5⟩

/-! ### truth -/
theorem line63 : (sizeLine : Nat) < 2 ^ 63 := by rw [sizeLine_eq]; decide

/-! ### strs and bytes -/
theorem op_add_str : OpR X (binaryOp .Add) (fun x y H Q => ∃ i j, x = .str i ∧ y = .str j ∧ i.length + j.length ≤ sizeLine ∧ Q (.str (i ++ j)) H) := by
  intro pins s σ H x y v u Q I rx ry h
  obtain ⟨i, j, rfl, rfl, hz, q⟩ := h
  obtain ⟨t, rfl⟩ := rx
  obtain ⟨t', rfl⟩ := ry
  exact add_str (fun t' tk => ⟨.str (i ++ j), H, I.tok _, ⟨_, rfl⟩, q⟩) hz


/-! ### scalar builtins, by CallR -/
theorem vals1 {x : V} {us : List Value} (r : Vals [x] us) : ∃ u, us = [u] ∧ RelV x u := by
  cases r with
  | cons r1 r2 => cases r2; exact ⟨_, rfl, r1⟩
theorem vals2 {x y : V} {us : List Value} (r : Vals [x, y] us) : ∃ u w', us = [u, w'] ∧ RelV x u ∧ RelV y w' := by
  cases r with
  | cons r1 r2 =>
    cases r2 with
    | cons r3 r4 => cases r4; exact ⟨_, _, rfl, r1, r3⟩
theorem call_max2 (hc : X.calm = true) : CallR X (.builtin "max") (fun xs H Q => ∃ i j, xs = [.int i, .int j] ∧ Q (.int (if j > i then j else i)) H) := by
  intro pins s σ H xs us Q I r h
  obtain ⟨i, j, rfl, q⟩ := h
  obtain ⟨u, w', rfl, ⟨t, rfl⟩, ⟨t', rfl⟩⟩ := vals2 r
  refine max_two_ints (I.ok.hd hc) fun h' tk k => ⟨_, H, I.kept k, ?_, q⟩
  by_cases hj : j > i
  · rw [if_pos hj, if_pos hj]; exact ⟨_, rfl⟩
  · rw [if_neg hj, if_neg hj]; exact ⟨_, rfl⟩
theorem call_min2 (hc : X.calm = true) : CallR X (.builtin "min") (fun xs H Q => ∃ i j, xs = [.int i, .int j] ∧ Q (.int (if j < i then j else i)) H) := by
  intro pins s σ H xs us Q I r h
  obtain ⟨i, j, rfl, q⟩ := h
  obtain ⟨u, w', rfl, ⟨t, rfl⟩, ⟨t', rfl⟩⟩ := vals2 r
  refine min_two_ints (I.ok.hd hc) fun h' tk k => ⟨_, H, I.kept k, ?_, q⟩
  by_cases hj : j < i
  · rw [if_pos hj, if_pos hj]; exact ⟨_, rfl⟩
  · rw [if_neg hj, if_neg hj]; exact ⟨_, rfl⟩
theorem call_str_int : CallR X (.type "str") (fun xs H Q => ∃ i, xs = [.int i] ∧ i.natAbs.log2 < 1920 ∧ Q (.str (toString i)) H) := by
  intro pins s σ H xs us Q I r h
  obtain ⟨i, rfl, hz, q⟩ := h
  obtain ⟨u, rfl, t, rfl⟩ := vals1 r
  exact PySem.P.str_of_int hz ⟨.str _, H, I.tok _, ⟨_, rfl⟩, q⟩
end
end L2

namespace L2
open PySem PySem.Spec PyProof.Rows

/-! ### an instance, its attributes a map -/
structure ObjM (h : Heap) (x dx C : Addr) (mA : Str → Option Value) : Prop where
  obj : h.get? x = some (PySem.W.instObj C dx)
  ns : h.Ns1 dx mA
  ne : dx ≠ x

theorem lookIn_ns {h : Heap} {dx : Addr} {mA : Str → Option Value} (n : h.Ns1 dx mA) : ∃ od, h.get? dx = some od ∧ ∀ name, PySem.W.lookIn name od = some (mA name) := by
  obtain ⟨o, es, ep, ho, hd, hk, _, hm⟩ := n
  refine ⟨o, ho, fun name => ?_⟩
  have e := hm name
  unfold nsFind findBy at e
  rw [← Array.find?_toList] at e
  unfold PySem.W.lookIn
  rw [hd]
  dsimp only
  split
  · rename_i y q
    rw [q] at e
    exact congrArg some e
  · rename_i q
    rw [q] at e
    have a : es.toList.any (·.refKey) = false := by
      rw [List.any_eq_false]
      intro y hy
      obtain ⟨z, t, hkey⟩ := hk y (Array.mem_toList_iff.mp hy)
      simp [DictEntry.refKey, hkey]
    have a' : ¬ es.toList.any (·.refKey) = true := by rw [a]; exact Bool.false_ne_true
    rw [if_neg a']
    exact congrArg some e

theorem ObjM.look {h : Heap} {x dx C : Addr} {mA : Str → Option Value} (I : ObjM h x dx C mA) : ∃ od, PySem.W.InstAt h x (PySem.W.instObj C dx) C (some od) ∧ ∀ name, PySem.W.lookIn name od = some (mA name) :=
  let ⟨od, ho, hl⟩ := lookIn_ns I.ns
  ⟨od, ⟨I.obj, rfl, rfl, ho⟩, hl⟩

section
variable {prog : Program} {w : World} {A : Around} {E : Value → Shared → Prop} {s : Shared} {K : PySem.W.Frag} {x dx C f : Addr} {mA : Str → Option Value} {name : Str} {v : Value}

theorem get_map {expr : Bool} {Q : Value → Shared → Prop} (X : K.In s.heap) (I : ObjM s.heap x dx C mA) (hg : PySem.W.plainGet K C name = true) (hh : PySem.W.hasDictIn K C = true)
    (ha : PySem.W.findIn K (.ref C) name = some none) (hv : mA name = some v) (hv' : PySem.W.handedIn v = true) (h : Q v { s with toks := s.toks + 1 }) :
    wpAny (model prog w) A (getAttr (.ref x) name expr) Q E s := by
  obtain ⟨od, J, hl⟩ := I.look
  exact PySem.W.get_value X J (PySem.W.plainGet_of hg).1 (PySem.W.findObj_own hh ha rfl (by rw [hl, hv])) hv' h


theorem get_meth {pl : Sem Bool} {Q : Value × List Value → Shared → Prop} (X : K.In s.heap) (I : ObjM s.heap x dx C mA) (hg : PySem.W.plainGet K C name = true)
    (hf : PySem.W.findIn K (.ref C) name = some (some (.ref f))) (ht : PySem.W.isFn K (.ref f) = true) (hv : mA name = none) (h : Q (.ref f, [.ref x]) s) :
    wpAny (model prog w) A (getMethod (.ref x) name pl) Q E s := by
  obtain ⟨od, J, hl⟩ := I.look
  exact PySem.W.method_fn X J (PySem.W.plainGet_of hg).1 (PySem.W.plainGet_of hg).2 hf (beq_iff_eq.mp ht) (by show (PySem.W.lookIn name od).map (·.isSome) = some false; rw [hl, hv]; rfl) h

theorem set_map {ns : List Str} {Q : Unit → Shared → Prop} (X : K.In s.heap) (I : ObjM s.heap x dx C mA)
    (hs : PySem.W.findIn K (.ref C) "__setattr__" = some (some (.builtin "object.__setattr__"))) (hp : PySem.W.plainOver K C = true) (ht : PySem.W.takerIn K C name = some none) (hh : PySem.W.hasDictIn K C = true)
    (hw : PySem.Within mA ns) (hsz : ns.length ≤ sizeLine)
    (h : ∀ h', ObjM h' x dx C (fun y => if y = name then some v else mA y) → Heap.SameBut dx s.heap h' → Q () { s with heap := h', toks := s.toks + 2 }) :
    wpAny (model prog w) A (setAttr (.ref x) name v) Q E s := by
  obtain ⟨od, J, hl⟩ := I.look
  refine PySem.W.set_plain X J hs (PySem.W.osa_open (s := { s with toks := s.toks + 1 }) (r := none) X J hp ht fun b => ?_)
  obtain ⟨cd, hc, hd'⟩ := PySem.W.any_some hh
  have hx : s.heap.get? x = some ⟨.ref C, some dx, .plain, #[]⟩ := I.obj
  refine wpAny_bind (wpAny_pure (wpAny_bind (wpAny_bind (wpAny_loadPart hx (wpAny_bind (PySem.W.Looks.here (s := { s with toks := s.toks + 1 }) (PySem.W.looks_clsIn X hc) ?_))))))
  rw [hd']
  refine wpAny_pure (a := some dx) (wpAny_bind (wpAny_pure (wpAny_bind ?_)))
  refine wpAny_nsSet1 (s := { s with toks := s.toks + 1 }) I.ns fun h' hn2 hs2 => ?_
  obtain ⟨oD, esD, epD, hoD, hdD, hcD⟩ := hn2.count (PySem.Within.cons name v hw)
  refine wpAny_bind (wpAny_lookBehind hoD (by rw [hdD]; exact pastItsLine_dict (Nat.le_trans hcD (by rw [List.length_cons]; omega))) ?_)
  exact wpAny_pure (h _ ⟨(hs2.2 _ (Ne.symm I.ne)).trans I.obj, hn2, I.ne⟩ hs2)

theorem make_map {R : Result → Shared → Prop} {vs : List Value} {kw : List (Str × Value)} (X : K.In s.heap) (hm : PySem.W.makesIn K C = true)
    (hi : PySem.W.findIn K (.ref C) "__init__" = some (some (.ref f))) (hf : PySem.W.typeIn K (.ref f) = some (.type "function"))
    (h : codeAny (model prog w) (A.under (.builtin "type.__call__" ⟨.ref C :: vs, kw⟩)) (.call (.ref f) ⟨.ref (s.heap.objs.size + 1) :: vs, kw⟩) (PySem.W.InitBack (s.heap.objs.size + 1) R)
      { s with heap := (s.heap.push PySem.W.emptyDict).push (PySem.W.instObj C s.heap.objs.size) }) :
    codeAny (model prog w) A (.call (.ref C) ⟨vs, kw⟩) R s := by
  obtain ⟨hh, g, d, t, os⟩ := s
  exact PySem.W.make_core (PySem.W.makes_of X hm) (PySem.W.looks_findIn X hi) (fun self => PySem.W.bind_fn X self hf) (.inl rfl) h
end

/-! ### the attributes as a list of pairs -/
noncomputable def putF (f : Str) (v : V) : List (Str × V) → List (Str × V)
  | [] => [(f, v)]
  | (g, x) :: r => if g = f then (g, v) :: r else (g, x) :: putF f v r
theorem lookup_putF (f g : Str) (v : V) : ∀ fs : List (Str × V), (putF f v fs).lookup g = if g = f then some v else fs.lookup g
  | [] => by
    show List.lookup g [(f, v)] = _
    by_cases h : g = f
    · have hb : (g == f) = true := beq_iff_eq.mpr h
      simp only [List.lookup, hb, if_pos h]
    · have hb : (g == f) = false := beq_eq_false_iff_ne.mpr h
      simp only [List.lookup, hb, if_neg h]
  | (k, x) :: r => by
    have ih := lookup_putF f g v r
    rw [show putF f v ((k, x) :: r) = (if k = f then (k, v) :: r else (k, x) :: putF f v r) from rfl]
    by_cases hk : k = f
    · rw [if_pos hk]
      by_cases h : g = k
      · have hb : (g == k) = true := beq_iff_eq.mpr h
        simp only [List.lookup, hb, if_pos (h.trans hk)]
      · have hb : (g == k) = false := beq_eq_false_iff_ne.mpr h
        simp only [List.lookup, hb, if_neg (fun e : g = f => h (e.trans hk.symm))]
    · rw [if_neg hk]
      by_cases h : g = k
      · have hb : (g == k) = true := beq_iff_eq.mpr h
        simp only [List.lookup, hb, if_neg (fun e : g = f => hk (h.symm.trans e))]
      · have hb : (g == k) = false := beq_eq_false_iff_ne.mpr h
        simp only [List.lookup, hb]
        exact ih
theorem keys_putF (f : Str) (v : V) : ∀ fs : List (Str × V), f ∈ (putF f v fs).map (·.1) ∧ ∀ g, g ∈ fs.map (·.1) → g ∈ (putF f v fs).map (·.1)
  | [] => ⟨by simp [putF], fun g h => by simp at h⟩
  | (k, x) :: r => by
    obtain ⟨i1, i2⟩ := keys_putF f v r
    rw [show putF f v ((k, x) :: r) = (if k = f then (k, v) :: r else (k, x) :: putF f v r) from rfl]
    by_cases hk : k = f
    · rw [if_pos hk]
      subst hk
      exact ⟨by simp, fun g h => by simpa using h⟩
    · rw [if_neg hk]
      refine ⟨?_, fun g h => ?_⟩
      · rw [List.map_cons]
        exact List.mem_cons_of_mem _ i1
      · rw [List.map_cons] at h ⊢
        rcases List.mem_cons.mp h with e | e
        · exact List.mem_cons.mpr (.inl e)
        · exact List.mem_cons_of_mem _ (i2 g e)
theorem length_putF (f : Str) (v : V) : ∀ fs : List (Str × V), (putF f v fs).length ≤ fs.length + 1
  | [] => by simp [putF]
  | (k, x) :: r => by
    have ih := length_putF f v r
    rw [show putF f v ((k, x) :: r) = (if k = f then (k, v) :: r else (k, x) :: putF f v r) from rfl]
    by_cases hk : k = f
    · rw [if_pos hk, List.length_cons, List.length_cons]; omega
    · rw [if_neg hk, List.length_cons, List.length_cons]; omega

theorem RelO.some_of {v : V} {o : Option Value} (r : RelO (some v) o) : ∃ u, o = some u ∧ RelV v u := by
  cases o with
  | none => exact (show False from r).elim
  | some u => exact ⟨u, rfl, r⟩
theorem RelO.none_of {o : Option Value} (r : RelO none o) : o = none := by
  cases o with
  | none => rfl
  | some u => exact (show False from r).elim
theorem handed_of {v : V} {u : Value} (r : RelV v u) : PySem.W.handedIn u = true := by
  cases v with
  | non => cases (show u = Value.none from r); rfl
  | bl b => cases (show u = Value.bool b from r); rfl
  | int i => obtain ⟨t, e⟩ := (show ∃ t, u = Value.int i t from r); cases e; rfl
  | str x => obtain ⟨t, e⟩ := (show ∃ t, u = Value.str x t from r); cases e; rfl
  | byt b => obtain ⟨t, e⟩ := (show ∃ t, u = Value.bytes b t from r); cases e; rfl
  | flt b => obtain ⟨t, e⟩ := (show ∃ t, u = Value.float b t from r); cases e; rfl
  | ref a => cases (show u = Value.ref a from r); rfl
  | ty n => cases (show u = Value.type n from r); rfl

section
variable {P : Program} {w : World} {H H' : Hp} {h h' : Heap} {a C dx : Addr} {fs fs' : List (Str × V)}
theorem ins_get (hok : HOk P w H h) (e : H a = some (.ins C dx fs)) : ∃ mA, ObjM h a dx C mA ∧ (∀ f, RelO (fs.lookup f) (mA f)) ∧ PySem.Within mA (fs.map (·.1)) ∧ fs.length ≤ 1000 ∧ H dx = some (.own a) := by
  obtain ⟨d, z, ne, ob, mA, n, r, q⟩ := (show ObjOk P w H h a (.ins C dx fs) from hok a _ e)
  exact ⟨mA, ⟨ob, n, ne⟩, r, q, z, d⟩
end

/-! ### what of the text a class must have -/
structure Cls (K : PySem.W.Frag) (C : Addr) : Prop where
  pg : PySem.W.plainGet K C Str.empty = true
  hd : PySem.W.hasDictIn K C = true
  po : PySem.W.plainOver K C = true
  sa : PySem.W.findIn K (.ref C) "__setattr__" = some (some (.builtin "object.__setattr__"))
theorem Cls.get {K : PySem.W.Frag} {C : Addr} (c : Cls K C) (f : Str) : PySem.W.plainGet K C f = true := c.pg
noncomputable def NoAttr (K : PySem.W.Frag) (C : Addr) (f : Str) : Prop := PySem.W.findIn K (.ref C) f = some none
theorem NoAttr.taker {K : PySem.W.Frag} {C : Addr} {f : Str} (n : NoAttr K C f) : PySem.W.takerIn K C f = some none := by
  unfold PySem.W.takerIn
  rw [show PySem.W.findIn K (.ref C) f = some none from n]
  rfl
structure Meth (K : PySem.W.Frag) (C : Addr) (m : Str) (f : Addr) : Prop where
  at_ : PySem.W.findIn K (.ref C) m = some (some (.ref f))
  fn : PySem.W.isFn K (.ref f) = true
  kp : PySem.W.keepIn K (.ref f) = true

section
variable {X : Cx} {pins : List (Addr × Obj)} {σ : St} {H : Hp} {s : Shared} {a C dx : Addr} {fs : List (Str × V)} {f : Str} {v : V} {A : Around} {E : Value → Shared → Prop}

theorem getattr_ok {b : Bool} {Q : Value → Shared → Prop} (I : Inv X pins σ H s) (e : H a = some (.ins C dx fs)) (c : Cls X.K C) (n : NoAttr X.K C f) (l : fs.lookup f = some v)
    (h : ∀ u s', Inv X pins σ H s' → RelV v u → Q u s') : wpAny (model X.prog X.w) A (getAttr (.ref a) f b) Q E s := by
  obtain ⟨mA, O, r, _, _, _⟩ := ins_get I.hok e
  obtain ⟨u, hu, ru⟩ := RelO.some_of (v := v) (o := mA f) (by rw [← l]; exact r f)
  exact get_map I.kIn O (c.get f) c.hd n hu (handed_of ru) (h u _ (I.tok _) ru)


theorem getmeth_ok {m : Str} {g : Addr} {pl : Sem Bool} {Q : Value × List Value → Shared → Prop} (I : Inv X pins σ H s) (e : H a = some (.ins C dx fs)) (c : Cls X.K C) (k : Meth X.K C m g) (l : fs.lookup m = none)
    (h : Q (.ref g, [.ref a]) s) : wpAny (model X.prog X.w) A (getMethod (.ref a) m pl) Q E s := by
  obtain ⟨mA, O, r, _, _, _⟩ := ins_get I.hok e
  have hn : mA m = none := RelO.none_of (by rw [← l]; exact r m)
  exact get_meth I.kIn O (c.get m) k.at_ k.fn hn h

theorem setattr_ok {y : V} {u : Value} {Q : Unit → Shared → Prop} (I : Inv X pins σ H s) (e : H a = some (.ins C dx fs)) (c : Cls X.K C) (n : NoAttr X.K C f) (hl : fs.length < 1000) (ry : RelV y u)
    (h : ∀ s', Inv X pins σ (upd H a (.ins C dx (putF f y fs))) s' → Q () s') : wpAny (model X.prog X.w) A (setAttr (.ref a) f u) Q E s := by
  obtain ⟨mA, O, r, wi, _, ho⟩ := ins_get I.hok e
  have hz : (fs.map (·.1)).length ≤ sizeLine := by rw [List.length_map, sizeLine_eq]; omega
  refine set_map I.kIn O c.sa c.po n.taker c.hd wi hz fun h' O' sb => h _ ?_
  have hd : ∃ o, h'.get? dx = some o := let ⟨o, _, _, e', _⟩ := O'.ns; ⟨o, e'⟩
  refine I.write (x := a) (e := dx) (by rw [e]; exact True.intro) (.inr ho) (fun b q hb z => (sb.2 b hb).trans z) hd ?_
  refine ⟨by rw [upd_ne O.ne]; exact ho, ?_, O.ne, O'.obj, _, O'.ns, fun g => ?_, fun g hg => ?_⟩
  · have := length_putF f y fs; omega
  · show RelO ((putF f y fs).lookup g) (if g = f then some u else mA g)
    rw [lookup_putF]
    by_cases q : g = f
    · rw [if_pos q, if_pos q]; exact ry
    · rw [if_neg q, if_neg q]; exact r g
  · by_cases q : g = f
    · rw [q]; exact (keys_putF f y fs).1
    · refine (keys_putF f y fs).2 g (wi g fun z => hg ?_)
      show (if g = f then some u else mA g) = none
      rw [if_neg q]; exact z

theorem Inv.made (I : Inv X pins σ H s) : Inv X pins σ (upd (upd H s.heap.objs.size (.own (s.heap.objs.size + 1))) (s.heap.objs.size + 1) (.ins C s.heap.objs.size []))
    { s with heap := (s.heap.push PySem.W.emptyDict).push (PySem.W.instObj C s.heap.objs.size) } := by
  have e1 : (s.heap.push PySem.W.emptyDict).get? s.heap.objs.size = some PySem.W.emptyDict := Heap.get?_push_size s.heap rfl
  have e2 : ((s.heap.push PySem.W.emptyDict).push (PySem.W.instObj C s.heap.objs.size)).get? (s.heap.objs.size + 1) = some (PySem.W.instObj C s.heap.objs.size) := by
    have := Heap.get?_push_size (s.heap.push PySem.W.emptyDict) (o := PySem.W.instObj C s.heap.objs.size) rfl
    rwa [Heap.size_push] at this
  have e3 : (s.heap.push PySem.W.emptyDict).Ns s.heap.objs.size (fun _ => none) := ⟨PySem.W.emptyDict, #[], _, e1, rfl, (fun e he => absurd he (by simp)), fun _ => rfl⟩
  have I1 := I.laid (a := s.heap.objs.size) (o := .own (s.heap.objs.size + 1)) (h' := s.heap.push PySem.W.emptyDict) (t' := s.toks) (fun b u q => Heap.get?_push_of_some _ q) (Nat.le_refl _) ⟨_, e1⟩
  refine I1.laid (a := s.heap.objs.size + 1) (o := .ins C s.heap.objs.size []) (t' := s.toks) (fun b u q => Heap.get?_push_of_some _ q) (Nat.le_of_eq (Heap.size_push _ _)) ?_
  have ne : s.heap.objs.size ≠ s.heap.objs.size + 1 := Nat.ne_of_lt (Nat.lt_succ_self _)
  refine ⟨by rw [upd_ne ne, upd_same], Nat.zero_le _, ne, e2, fun _ => none, (Heap.Ns1.of_empty e3).at fun o q => Heap.get?_push_of_some _ q, fun _ => True.intro, fun y hy => absurd rfl hy⟩

theorem attr_of {prog : Program} {w : World} {env : Env} {e : Expr} {f : Str} {pos : Pos} {s : Shared} {Q : Value → Shared → Prop} (hb : attributeBase e f env (eval e env) = eval e env)
    (h : wpAny (model prog w) A (eval e env) (fun o s₁ => wpAny (model prog w) A (getAttr o f true) Q E s₁) E s) : wpAny (model prog w) A (eval (.Attribute e f pos) env) Q E s :=
  Attribute_any_ h (by rw [arm_eval_Attribute, hb])
end

/-! ### readings and rules -/
noncomputable def tFld (K : PySem.W.Frag) (ta : TE) (f : Str) : TE := fun σ H Q => ta σ H fun x H1 => ∃ a C dx fs v, x = .ref a ∧ H1 a = some (.ins C dx fs) ∧ Cls K C ∧ NoAttr K C f ∧ fs.lookup f = some v ∧ Q v H1
noncomputable def sFld (K : PySem.W.Frag) (ta tv : TE) (f : Str) : TS := fun D σ H => tv σ H fun y H1 => ta σ H1 fun x H2 => ∃ a C dx fs, x = .ref a ∧ H2 a = some (.ins C dx fs) ∧ Cls K C ∧ NoAttr K C f ∧ fs.length < 1000 ∧
  D.nx σ (upd H2 a (.ins C dx (putF f y fs)))

section
variable {X : Cx} {o e value : Expr} {f : Str} {pos pos' tpos : Pos} {ta tv : TE}
theorem pe_fld (he : PE X e ta) (hb : attributeBase e f X.env (eval e X.env) = eval e X.env) : PE X (.Attribute e f pos) (tFld X.K ta f) := by
  intro pins s σ H Q I h
  refine attr_of hb (thn (he pins s σ H _ I h) fun u s1 zz => ?_)
  obtain ⟨x, H1, I1, rx, a, C, dx, fs, v, ex, ea, c, n, l, q⟩ := zz
  subst ex
  obtain rfl : u = Value.ref a := rx
  exact getattr_ok I1 ea c n l fun u' s2 I2 ru => ⟨v, H1, I2, ru, q⟩
theorem ps_fld (ha : PE X o ta) (hv : PE X value tv) (hs : swapsWith value (some (.Attribute o f pos')) pos.line X.env = pure false) : PS X (.Assign [.Attribute o f pos'] value pos) (sFld X.K ta tv f) := by
  intro pins s σ H D I h
  refine plainObj_wpAny_Assign_Attribute (thn (hv pins s σ H _ I h) fun u s1 zz => L2.el5 zz fun y H1 I1 ry q => thn (ha pins s1 σ H1 _ I1 q) fun ov s2 zz => ?_) hs
  obtain ⟨x, H2, I2, rx, a, C, dx, fs, ex, ea, c, n, l, q2⟩ := zz
  subst ex
  obtain rfl : ov = Value.ref a := rx
  exact setattr_ok I2 ea c n l ry fun s3 I3 => ⟨σ, _, I3, q2⟩

end

/-! ### isinstance -/
section
variable {X : Cx} {pins : List (Addr × Obj)} {σ : St} {H : Hp} {s : Shared} {A : Around} {E : Value → Shared → Prop} {Q : Value → Shared → Prop} {c : Value} {b : Bool}
inductive TyOf (K : PySem.W.Frag) (H : Hp) : V → Value → Prop where
  | non : TyOf K H .non (.type "NoneType")
  | bl (x : Bool) : TyOf K H (.bl x) (.type "bool")
  | int (i : Int) : TyOf K H (.int i) (.type "int")
  | str (x : Str) : TyOf K H (.str x) (.type "str")
  | flt (x : UInt64) : TyOf K H (.flt x) (.type "float")
  | lst {a : Addr} {xs : List V} (e : H a = some (.lst xs)) : TyOf K H (.ref a) (.type "list")
  | frz {a : Addr} {o : Obj} {xs : List V} (e : H a = some (.frz o (.lst xs))) : TyOf K H (.ref a) (.type "list")
  | tup {a : Addr} {xs : List V} (e : H a = some (.tup xs)) : TyOf K H (.ref a) (.type "tuple")
  | dK {a : Addr} {kvs : List (Key × V)} (e : H a = some (.dK kvs)) : TyOf K H (.ref a) (.type "dict")
  | dT {a : Addr} {kvs : List (List Key × V)} (e : H a = some (.dT kvs)) : TyOf K H (.ref a) (.type "dict")
  | ins {a C dx : Addr} {fs : List (Str × V)} (e : H a = some (.ins C dx fs)) (cl : Cls K C) (ha : PySem.W.findIn K (.ref C) "__class__" = some (some (.builtin "object.__class__")))
      (hn : PySem.W.specialIn K (.builtin "object.__class__") "__get__" = some (some (.builtin "getset_descriptor.__get__"))) (htk : PySem.W.takesIn K (.builtin "object.__class__") = some true)
      (hm : PySem.W.mroIn K C (.type "object") = some true) : TyOf K H (.ref a) (.ref C)
theorem isinst_ok {x : V} {u t : Value} (I : Inv X pins σ H s) (rx : RelV x u) (ty : TyOf X.K H x t) (e : PySem.W.kitOne X.K t c = some b) (h : ∀ tk, Q (.bool b) { s with toks := tk }) :
    wpAny (model X.prog X.w) A (call (.builtin "isinstance") [u, c]) Q E s := by
  cases ty with
  | non => cases (show u = Value.none from rx); exact PySem.W.kia_one PySem.W.kitx_none I.kIn True.intro e (fun z => nomatch z) h
  | bl y => cases (show u = Value.bool y from rx); exact PySem.W.kia_one PySem.W.kitx_bool I.kIn True.intro e (fun z => nomatch z) h
  | int i => obtain ⟨t, q⟩ := (show ∃ t, u = Value.int i t from rx); cases q; exact PySem.W.kia_one PySem.W.kitx_int I.kIn True.intro e (fun z => nomatch z) h
  | str y => obtain ⟨t, q⟩ := (show ∃ t, u = Value.str y t from rx); cases q; exact PySem.W.kia_one PySem.W.kitx_str I.kIn True.intro e (fun z => nomatch z) h
  | flt y => obtain ⟨t, q⟩ := (show ∃ t, u = Value.float y t from rx); cases q; exact PySem.W.kia_one PySem.W.kitx_float I.kIn True.intro e (fun z => nomatch z) h
  | @lst a xs ea =>
    cases (show u = Value.ref a from rx)
    obtain ⟨_, _, n, _, h1⟩ := (show ObjOk X.prog X.w H s.heap a (.lst xs) from I.hok a _ ea)
    exact PySem.W.kia_one PySem.W.kitx_list I.kIn ⟨_, h1, rfl⟩ e (fun z => nomatch z) h
  | @frz a ob xs ea =>
    cases (show u = Value.ref a from rx)
    obtain ⟨_, _, _, n, _, h1⟩ := (show ObjOk X.prog X.w H s.heap a (.frz ob (.lst xs)) from I.hok a _ ea)
    exact PySem.W.kia_one PySem.W.kitx_list I.kIn ⟨_, h1, rfl⟩ e (fun z => nomatch z) h
  | @tup a xs ea =>
    cases (show u = Value.ref a from rx)
    obtain ⟨_, _, _, p⟩ := (show ObjOk X.prog X.w H s.heap a (.tup xs) from I.hok a _ ea)
    obtain ⟨o, h1, h2, _⟩ := p
    exact PySem.W.kia_one PySem.W.kitx_tuple I.kIn ⟨o, h1, h2⟩ e (fun z => nomatch z) h
  | @dK a kvs ea =>
    cases (show u = Value.ref a from rx)
    obtain ⟨_, _, vs, _, p⟩ := (show ObjOk X.prog X.w H s.heap a (.dK kvs) from I.hok a _ ea)
    obtain ⟨o, es, ep, h1, h2, _⟩ := p
    exact PySem.W.kia_one PySem.W.kitx_dict I.kIn ⟨o, h1, h2.1⟩ e (fun z => nomatch z) h
  | @dT a kvs ea =>
    cases (show u = Value.ref a from rx)
    obtain ⟨_, _, xs, _, o, es, ep, h1, h2, _⟩ := (show ObjOk X.prog X.w H s.heap a (.dT kvs) from I.hok a _ ea)
    exact PySem.W.kia_one PySem.W.kitx_dict I.kIn ⟨o, h1, h2.1⟩ e (fun z => nomatch z) h
  | @ins a C dx fs ea cl ha hn htk hm =>
    cases (show u = Value.ref a from rx)
    obtain ⟨mA, O, _⟩ := ins_get I.hok ea
    obtain ⟨od, J, _⟩ := O.look
    exact PySem.W.kia_one (PySem.W.kitx_own (cl.get _) cl.hd ha hn htk hm) I.kIn J e (fun z => nomatch z) h
end
end L2

namespace L2
open PySem PySem.Spec PyProof.Rows

/-! ### room -/
structure Room (k : Nat) (A : Around) : Prop where
  hd : A.handled = none
  dp : A.depth + 3 * k + 5 < recursionLimit
  un : A.units + 16 * k + 200 < cLine
theorem Room.mono {j k : Nat} {A : Around} (r : Room k A) (h : j ≤ k) : Room j A := ⟨r.hd, by have := r.dp; omega, by have := r.un; omega⟩
theorem Room.deeper {k : Nat} {A : Around} (r : Room (k + 1) A) (env : Env) : Room k (A.deeper env) :=
  ⟨r.hd, by have := r.dp; show A.depth + 1 + 3 * k + 5 < _; omega, by have := r.un; show A.units + 3 + 16 * k + 200 < _; omega⟩
theorem make_depth {A : Around} {C : Addr} {us : List Value} {kw : List (Str × Value)} : (A.under (.builtin "type.__call__" ⟨.ref C :: us, kw⟩)).depth = A.depth + 1 := by
  first | rfl | simp [Around.under, Code.weight, Code.isCreation, Code.isGuard, Code.isCaller, Code.frames, Code.isFrame, guardIds]
theorem make_units {A : Around} {C : Addr} {us : List Value} {kw : List (Str × Value)} : (A.under (.builtin "type.__call__" ⟨.ref C :: us, kw⟩)).units = A.units + 1 := by
  first | rfl | simp [Around.under, Code.cUnits, Code.frames, Code.isFrame]
theorem Room.make {k : Nat} {A : Around} (r : Room (k + 1) A) (C : Addr) (us : List Value) (kw : List (Str × Value)) : Room k (A.under (.builtin "type.__call__" ⟨.ref C :: us, kw⟩)) :=
  ⟨r.hd, by have := r.dp; rw [make_depth]; omega, by have := r.un; rw [make_units]; omega⟩
theorem Room.depth {k : Nat} {A : Around} (r : Room k A) : A.depth < recursionLimit := by have := r.dp; omega
theorem Room.units {k : Nat} {A : Around} (r : Room k A) : A.units + 64 < cLine := by have := r.un; omega

/-! ### argument lists and displays -/
noncomputable def tNil : TA := fun _ H Q => Q [] H
noncomputable def tCons (ta : TE) (tr : TA) : TA := fun σ H Q => ta σ H fun x H1 => tr σ H1 fun xs H2 => Q (x :: xs) H2
section
variable {X : Cx} {e : Expr} {es : List Expr} {te : TE} {t : TA} {pos : Pos}
theorem pa_nil : PA X [] tNil := fun _ _ _ _ H Q I h => Calls.spliced_nil ⟨[], H, I, .nil, h⟩
theorem pa_cons (ha : PE X e te) (hr : PA X es t) (hs : starEach (e :: es) X.env = (false, eval e X.env) :: starEach es X.env := by rfl) : PA X (e :: es) (tCons te t) := by
  intro pos pins s σ H Q I h
  rw [hs]
  show wpAny _ _ (spliced ((false, eval e X.env) :: backTo pos (starEach es X.env))) _ _ s
  refine Calls.spliced_cons (thn (ha pins s σ H _ I h) fun u s1 zz => ?_)
  obtain ⟨x, H1, I1, r1, q1⟩ := zz
  exact thn (hr pos pins s1 σ H1 _ I1 q1) fun us s2 zz => L2.el5 zz fun xs H2 I2 r2 q2 => ⟨x :: xs, H2, I2, .cons r1 r2, q2⟩

noncomputable def tTup (t : TA) : TE := fun σ H Q => t σ H fun xs H1 => xs.length ≤ sizeLine ∧ ∀ p, H1 p = none → Q (.ref p) (upd H1 p (.tup xs))
noncomputable def tLst (t : TA) : TE := fun σ H Q => t σ H fun xs H1 => xs.length ≤ sizeLine ∧ ∀ p, H1 p = none → Q (.ref p) (upd H1 p (.lst xs))
theorem pe_tup {x1} (h : PA X es t) : PE X (.Tuple es x1 pos) (tTup t) := by
  intro pins s σ H Q I hq
  refine wpAny_Tuple_spliced (thn (h pos pins s σ H _ I hq) fun us s1 zz => ?_)
  obtain ⟨xs, H1, I1, r, z, q⟩ := zz
  refine ⟨by rw [← r.length]; exact z, ?_⟩
  have hf : H1 s1.heap.objs.size = none := I1.hok.fresh (Nat.le_refl _)
  refine ⟨.ref s1.heap.objs.size, upd H1 s1.heap.objs.size (.tup xs), I1.laid (t' := s1.toks) (fun b u e => Heap.get?_push_of_some _ e) (Nat.le_refl _) ?_, rfl, q _ hf⟩
  exact ⟨z, us, r, ⟨_, Heap.get?_push_size _ rfl, rfl, _, rfl⟩⟩
theorem pe_lst (h : PA X es t) : PE X (.List es pos) (tLst t) := by
  intro pins s σ H Q I hq
  refine wpAny_List_spliced (thn (h pos pins s σ H _ I hq) fun us s1 zz => ?_)
  obtain ⟨xs, H1, I1, r, z, q⟩ := zz
  refine ⟨by rw [← r.length]; exact z, ?_⟩
  have hf : H1 s1.heap.objs.size = none := I1.hok.fresh (Nat.le_refl _)
  refine ⟨.ref s1.heap.objs.size, upd H1 s1.heap.objs.size (.lst xs), I1.laid (t' := s1.toks) (fun b u e => Heap.get?_push_of_some _ e) (Nat.le_refl _) ?_, rfl, q _ hf⟩
  exact ⟨z, us, 0, r, Heap.get?_push_size _ rfl⟩
end

/-! ### what a def promises -/
noncomputable abbrev Sp := List V → Hp → VK → XK → Prop
noncomputable abbrev CXT := List Env → Hp → Shared → XK → Value → Shared → Prop

structure Env0 (P : Program) (w : World) (K : PySem.W.Frag) (mg : Str → Option Value) (base : Heap) (A : Around) (outer : List Env) (s : Shared) (H : Hp) : Prop where
  frames : A.frames = some outer
  mod : Mod K mg base
  bs : ∀ b o, base.get? b = some o → s.heap.get? b = some o ∧ H b = none
  bsz : base.objs.size ≤ s.heap.objs.size
  funs : s.heap.FunFrames base outer
  frf : ∀ b ∈ frs outer, H b = none
  hok : HOk P w H s.heap
  bare : AllBare s.gens
noncomputable def CE (outer : List Env) (P : Program) (w : World) (H : Hp) (s : Shared) (Q : VK) (u : Value) (s' : Shared) : Prop :=
  ∃ v H', s'.os = s.os ∧ AllBare s'.gens ∧ Un (frs outer) [] H H' s.heap s'.heap ∧ HOk P w H' s'.heap ∧ RelV v u ∧ Q v H'
noncomputable def CR (CX : CXT) (outer : List Env) (P : Program) (w : World) (H : Hp) (s : Shared) (Q : VK) (E : XK) (r : Result) (s' : Shared) : Prop :=
  match r with
  | .ok (.ret u) => CE outer P w H s Q u s'
  | .ok _ => False
  | .error e => CX outer H s E e s'
structure FnOk (P : Program) (w : World) (K : PySem.W.Frag) (mg : Str → Option Value) (base : Heap) (CX : CXT) (k : Nat) (f : Addr) (fd : FuncData) (ps : List Str) (sp : Sp) : Prop where
  len : ∀ vs H Q E, sp vs H Q E → vs.length = ps.length
  run : ∀ (A : Around) (outer : List Env) (s : Shared) (H : Hp) (args : Args) (us : List Value) (vs : List V) (Q : VK) (E : XK), Room k A → Env0 P w K mg base A outer s H → BindsTo s fd args (ps.zip us) → Vals vs us → sp vs H Q E →
    codeAny (model P w) A (.call (.ref f) args) (CR CX outer P w H s Q E) s
theorem FnOk.mono {P : Program} {w : World} {K : PySem.W.Frag} {mg : Str → Option Value} {base : Heap} {CX : CXT} {j k : Nat} {f : Addr} {fd : FuncData} {ps : List Str} {sp : Sp} (F : FnOk P w K mg base CX j f fd ps sp) (h : j ≤ k) :
    FnOk P w K mg base CX k f fd ps sp := ⟨F.len, fun A outer s H args us vs Q E hr => F.run A outer s H args us vs Q E (hr.mono h)⟩

theorem Env0.make {P : Program} {w : World} {K : PySem.W.Frag} {mg : Str → Option Value} {base : Heap} {A : Around} {outer : List Env} {s : Shared} {H : Hp} (e : Env0 P w K mg base A outer s H) (C : Addr) (us : List Value) (kw : List (Str × Value)) :
    Env0 P w K mg base (A.under (.builtin "type.__call__" ⟨.ref C :: us, kw⟩)) outer s H := ⟨by first | exact e.frames | (simpa [Around.under, Code.envs, Code.isFrame, pushEnvs] using e.frames), e.mod, e.bs, e.bsz, e.funs, e.frf, e.hok, e.bare⟩

section
variable {X : Cx} {pins : List (Addr × Obj)} {σ : St} {H : Hp} {s s' : Shared}
theorem Inv.env0 (I : Inv X pins σ H s) : Env0 X.prog X.w X.K X.mg X.base X.A X.stack s H :=
  ⟨I.ok.frames, I.ok.mod, I.bs, Nat.le_trans I.ok.bsz I.sz, I.stack, I.stkFree, I.hok, I.bare⟩
theorem Inv.after {Q : VK} {u : Value} (I : Inv X pins σ H s) (h : CE X.stack X.prog X.w H s Q u s') : EP X pins σ Q u s' := by
  obtain ⟨v, H', os, bare, un, hok, r, q⟩ := h
  obtain ⟨hh, g, d, t, os'⟩ := s'
  obtain rfl : os' = s.os := os
  exact ⟨v, H', I.call (h' := hh) (g' := g) (d' := d) (t' := t) (ch := []) un hok bare (fun b z => absurd z (by simp)), r, q⟩
end

/-! ### calls -/
noncomputable def tCall (sp : Sp) (dvs : List V) (E : XK) (t : TA) : TE := fun σ H Q => t σ H fun vs H1 => sp (vs ++ dvs) H1 Q E
noncomputable def tMeth (C : Addr) (m : Str) (sp : Sp) (dvs : List V) (E : XK) (ta : TE) (t : TA) : TE := fun σ H Q => ta σ H fun x H1 => ∃ a dx fs, x = .ref a ∧ H1 a = some (.ins C dx fs) ∧ fs.lookup m = none ∧
  t σ H1 fun vs H2 => sp (x :: (vs ++ dvs)) H2 Q E
noncomputable def tMake (C : Addr) (sp : Sp) (dvs : List V) (E : XK) (t : TA) : TE := fun σ H Q => t σ H fun vs H1 => ∀ x dx, H1 x = none → H1 dx = none → dx ≠ x →
  sp (.ref x :: (vs ++ dvs)) (upd (upd H1 dx (.own x)) x (.ins C dx [])) (fun v H2 => v = .non ∧ Q (.ref x) H2) E

noncomputable def Binds (K : PySem.W.Frag) (fd : FuncData) (ps : List Str) (ds : List Value) : Prop :=
  ∀ (s : Shared) (us : List Value), K.In s.heap → (us ++ ds).length = ps.length → BindsTo s fd ⟨us, []⟩ (ps.zip (us ++ ds))
theorem Binds.all {K : PySem.W.Frag} {fd : FuncData} {ps : List Str} (h : ∀ us : List Value, us.length = ps.length → bindArgs fd ⟨us, []⟩ = pure (ps.zip us)) : Binds K fd ps [] := fun s us _ hl => by
  rw [List.append_nil] at hl ⊢
  exact .of_eq (h us hl)

noncomputable def Passes (CX : CXT) (X : Cx) (E : XK) : Prop := ∀ (pins : List (Addr × Obj)) (σ : St) (H : Hp) (s : Shared) (e : Value) (s' : Shared), Inv X pins σ H s → CX X.stack H s E e s' → X.xe e s'

section
variable {X : Cx} {CX : CXT} {k : Nat} {f C : Addr} {fd : FuncData} {ps : List Str} {sp : Sp} {dvs : List V} {ds : List Value} {E : XK} {x m : Str} {p pos apos : Pos} {e o : Expr} {es : List Expr} {ta : TE} {t : TA}

theorem run_fn {pins : List (Addr × Obj)} {σ : St} {H : Hp} {s : Shared} {Q : VK} {us : List Value} {vs : List V} (F : FnOk X.prog X.w X.K X.mg X.base CX k f fd ps sp) (hr : Room k X.A) (hb : Binds X.K fd ps ds) (hd : Vals dvs ds) (hx : Passes CX X E)
    (I : Inv X pins σ H s) (r : Vals vs us) (h : sp (vs ++ dvs) H Q E) : wpAny (model X.prog X.w) X.A (call (.ref f) us) (EP X pins σ Q) X.xe s := by
  have r2 : Vals (vs ++ dvs) (us ++ ds) := r.append hd
  have hl : (us ++ ds).length = ps.length := by rw [← r2.length]; exact F.len _ _ _ _ h
  refine wpAny_call (codeAny_mono (F.run X.A X.stack s H ⟨us, []⟩ (us ++ ds) (vs ++ dvs) Q E hr I.env0 (hb s us I.kIn hl) r2 h) fun r s' hq => ?_)
  cases r with
  | error e => exact hx pins σ H s e s' I hq
  | ok fl =>
    cases fl with
    | ret u => exact I.after hq
    | next => exact False.elim hq
    | brk => exact False.elim hq
    | cont => exact False.elim hq

theorem pe_call (F : FnOk X.prog X.w X.K X.mg X.base CX k f fd ps sp) (hr : Room k X.A) (hg : Gl X x) (hm : X.mg x = some (.ref f)) (hk : PySem.W.keepIn X.K (.ref f) = true) (hb : Binds X.K fd ps ds) (hd : Vals dvs ds) (hx : Passes CX X E)
    (ha : PA X (e :: es) t) (hdb : (x == ("__debug__" : Str)) = false := by decide) (he : starEach (e :: es) X.env = (false, eval e X.env) :: starEach es X.env := by rfl) (hpl : (backTo pos (starEach es X.env)).any (·.1) = false := by rfl) :
    PE X (.Call (.Name x p) (e :: es) [] pos) (tCall sp dvs E t) := by
  intro pins s σ H Q I h
  refine wpAny_Call_Name_kw (ld_glob I hg hm ?_ hdb)
  refine PySem.W.callWith_K (h₀ := X.base) I.ok.mod.kin hk (thn (ha pos pins s σ H _ I h) fun us s1 zz => L2.el5 zz fun vs H1 I1 r q => ⟨I1.kIn, ?_⟩) he hpl
  exact run_fn F hr hb hd hx I1 r q

theorem pe_meth0 {pl : Sem Bool} (he : PE X o ta) (c : Cls X.K C) (hm : Meth X.K C m f) (F : FnOk X.prog X.w X.K X.mg X.base CX k f fd ps sp) (hr : Room k X.A) (hb : Binds X.K fd ps ds) (hd : Vals dvs ds) (hx : Passes CX X E)
    (ht : eval (.Call (.Attribute o m apos) [] [] pos) X.env = (do
      let ov ← eval o X.env
      standAt apos.atName
      let (f, first) ← holding [ov] (getMethod ov m pl)
      callWith pos f first (backTo pos (starEach [] X.env)) (backToKw pos (keywordEach [] X.env))) := by rfl) :
    PE X (.Call (.Attribute o m apos) [] [] pos) (tMeth C m sp dvs E ta tNil) := by
  intro pins s σ H Q I h
  refine PySem.W.methodCall_KW (pl := pl) (thn (he pins s σ H _ I h) fun u s1 zz => ?_) ht
  obtain ⟨x, H1, I1, rx, a, dx, fs, ex, ea, l, q⟩ := zz
  subst ex
  obtain rfl : u = Value.ref a := rx
  refine getmeth_ok I1 ea c hm l ?_
  exact PySem.W.callWith_K0 (first := [.ref a]) I1.kIn hm.kp (run_fn (us := [.ref a]) (vs := [.ref a]) F hr hb hd hx I1 (.cons rfl .nil) q)

structure Mk (K : PySem.W.Frag) (C f : Addr) : Prop where
  makes : PySem.W.makesIn K C = true
  init : PySem.W.findIn K (.ref C) "__init__" = some (some (.ref f))
  fn : PySem.W.isFn K (.ref f) = true
  kp : PySem.W.keepIn K (.ref C) = true

theorem run_make {pins : List (Addr × Obj)} {σ : St} {H : Hp} {s : Shared} {Q : VK} {us : List Value} {vs : List V} (M : Mk X.K C f) (F : FnOk X.prog X.w X.K X.mg X.base CX k f fd ps sp) (hr : Room (k + 1) X.A) (hb : Binds X.K fd ps ds) (hd : Vals dvs ds)
    (hx : Passes CX X E) (I : Inv X pins σ H s) (r : Vals vs us)
    (h : ∀ x dx, H x = none → H dx = none → dx ≠ x → sp (.ref x :: (vs ++ dvs)) (upd (upd H dx (.own x)) x (.ins C dx [])) (fun v H2 => v = .non ∧ Q (.ref x) H2) E) :
    wpAny (model X.prog X.w) X.A (call (.ref C) us) (EP X pins σ Q) X.xe s := by
  have hq := h (s.heap.objs.size + 1) s.heap.objs.size (I.hok.fresh (Nat.le_succ _)) (I.hok.fresh (Nat.le_refl _)) (Nat.ne_of_lt (Nat.lt_succ_self _))
  have I2 := Inv.made (C := C) I
  have r2 : Vals (V.ref (s.heap.objs.size + 1) :: (vs ++ dvs)) (Value.ref (s.heap.objs.size + 1) :: (us ++ ds)) := .cons rfl (r.append hd)
  have hl : (Value.ref (s.heap.objs.size + 1) :: us ++ ds).length = ps.length := by
    have e := r2.length
    rw [F.len _ _ _ _ hq] at e
    exact e.symm
  refine wpAny_call (make_map (f := f) I.kIn M.makes M.init (beq_iff_eq.mp M.fn) (codeAny_mono (F.run _ X.stack _ _ ⟨Value.ref (s.heap.objs.size + 1) :: us, []⟩ (Value.ref (s.heap.objs.size + 1) :: (us ++ ds)) _ _ E (hr.make C us [])
    (I2.env0.make C us []) (hb _ (Value.ref (s.heap.objs.size + 1) :: us) I2.kIn hl) r2 hq) fun r s' hq' => ?_))
  cases r with
  | error e => exact hx pins σ _ _ e s' I2 hq'
  | ok fl =>
    cases fl with
    | ret u =>
      obtain ⟨v, H', I3, rv, ev, q3⟩ := I2.after hq'
      subst ev
      exact ⟨rv, ⟨V.ref (s.heap.objs.size + 1), H', I3, rfl, q3⟩⟩
    | next => exact False.elim hq'
    | brk => exact False.elim hq'
    | cont => exact False.elim hq'
theorem pe_make (M : Mk X.K C f) (F : FnOk X.prog X.w X.K X.mg X.base CX k f fd ps sp) (hr : Room (k + 1) X.A) (hg : Gl X x) (hm : X.mg x = some (.ref C)) (hb : Binds X.K fd ps ds) (hd : Vals dvs ds) (hx : Passes CX X E)
    (ha : PA X (e :: es) t) (hdb : (x == ("__debug__" : Str)) = false := by decide) (he : starEach (e :: es) X.env = (false, eval e X.env) :: starEach es X.env := by rfl) (hpl : (backTo pos (starEach es X.env)).any (·.1) = false := by rfl) :
    PE X (.Call (.Name x p) (e :: es) [] pos) (tMake C sp dvs E t) := by
  intro pins s σ H Q I h
  refine wpAny_Call_Name_kw (ld_glob I hg hm ?_ hdb)
  refine PySem.W.callWith_K (h₀ := X.base) I.ok.mod.kin M.kp (thn (ha pos pins s σ H _ I h) fun us s1 zz => L2.el5 zz fun vs H1 I1 r q => ⟨I1.kIn, ?_⟩) he hpl
  exact run_make M F hr hb hd hx I1 r q
end

/-! ### keywords -/
section
variable {X : Cx} {CX : CXT} {k : Nat} {f C : Addr} {fd : FuncData} {ps ks : List Str} {sp : Sp} {E : XK} {x m : Str} {p pos apos kpos : Pos} {e o : Expr} {es : List Expr} {kws : List Keyword} {te ta : TE} {t tk : TA} {nm : Option Str}

variable {g : List Value → List Value → List Value} {gV : List V → List V → List V}
end

/-! ### a def's body keeps its promise -/
structure FnScope (N P : List Str) (sc : Scope) : Prop where
  kind : sc.kind = .function
  co : sc.isCoroutine = false
  gen : sc.isGenerator = false
  nd : N.Nodup
  pre : N.take P.length = P
  par : ∀ x ∈ P, sc.names.lookup x = some .local ∨ sc.names.lookup x = some .cell
  nofree : ∀ y ∈ sc.names, y.2 ≠ .free

theorem bindL_out {kindOf : Str → Option NameKind} {x : Str} : ∀ {binds : List (Str × Value)} {m : Str → Option Value}, (∀ v, (x, v) ∉ binds) → bindL kindOf binds m x = m x
  | [], _, _ => rfl
  | (n, v) :: r, m, h => by
    unfold bindL
    rw [bindL_out fun w hw => h w (List.mem_cons_of_mem _ hw)]
    split
    · have : x ≠ n := by rintro rfl; exact h v List.mem_cons_self
      simp [this]
    · rfl
theorem bindC_out {kindOf : Str → Option NameKind} {x : Str} : ∀ {binds : List (Str × Value)} {m : Str → Option Value}, (∀ v, (x, v) ∉ binds) → bindC kindOf binds m x = m x
  | [], _, _ => rfl
  | (n, v) :: r, m, h => by
    unfold bindC
    rw [bindC_out fun w hw => h w (List.mem_cons_of_mem _ hw)]
    split
    · rfl
    · have : x ≠ n := by rintro rfl; exact h v List.mem_cons_self
      simp [this]
theorem bindL_get {kindOf : Str → Option NameKind} {x : Str} {v : Value} : ∀ {P : List Str} {vs : List Value} {i : Nat} {m : Str → Option Value}, P.Nodup → P[i]? = some x → vs[i]? = some v → kindOf x = some .local →
    bindL kindOf (P.zip vs) m x = some v
  | [], _, _, _, _, h, _, _ => by simp at h
  | _ :: _, [], _, _, _, _, h, _ => by simp at h
  | p :: P, w :: vs, 0, m, nd, h1, h2, hk => by
    simp at h1 h2; subst h1; subst h2
    show bindL kindOf ((p, w) :: P.zip vs) m p = _
    unfold bindL
    rw [bindL_out fun v hv => (List.nodup_cons.mp nd).1 (List.of_mem_zip hv).1, if_pos hk]
    simp
  | p :: P, w :: vs, i + 1, m, nd, h1, h2, hk => by
    show bindL kindOf ((p, w) :: P.zip vs) m x = _
    unfold bindL
    exact bindL_get (i := i) (List.nodup_cons.mp nd).2 (by simpa using h1) (by simpa using h2) hk
theorem bindC_get {kindOf : Str → Option NameKind} {x : Str} {v : Value} : ∀ {P : List Str} {vs : List Value} {i : Nat} {m : Str → Option Value}, P.Nodup → P[i]? = some x → vs[i]? = some v → kindOf x ≠ some .local →
    bindC kindOf (P.zip vs) m x = some v
  | [], _, _, _, _, h, _, _ => by simp at h
  | _ :: _, [], _, _, _, _, h, _ => by simp at h
  | p :: P, w :: vs, 0, m, nd, h1, h2, hk => by
    simp at h1 h2; subst h1; subst h2
    show bindC kindOf ((p, w) :: P.zip vs) m p = _
    unfold bindC
    rw [bindC_out fun v hv => (List.nodup_cons.mp nd).1 (List.of_mem_zip hv).1, if_neg hk]
    simp
  | p :: P, w :: vs, i + 1, m, nd, h1, h2, hk => by
    show bindC kindOf ((p, w) :: P.zip vs) m x = _
    unfold bindC
    exact bindC_get (i := i) (List.nodup_cons.mp nd).2 (by simpa using h1) (by simpa using h2) hk

noncomputable def start (N : List Str) (vs : List V) : St := vs.map some ++ List.replicate (N.length - vs.length) none

noncomputable def cxOf (CX : CXT) (P : Program) (w : World) (K : PySem.W.Frag) (mg : Str → Option Value) (base : Heap) (N : List Str) (qual : Str) (scope : Scope) (f : Addr) (cd : Value) (A : Around) (outer : List Env) (s : Shared) (H : Hp) (E : XK) : Cx where
  prog := P
  w := w
  K := K
  mg := mg
  base := base
  A := A.deeper (envOfC qual scope s.heap.objs.size f cd)
  N := N
  s₀ := s
  H₀ := H
  env := envOfC qual scope s.heap.objs.size f cd
  outer := outer
  stack := envOfC qual scope s.heap.objs.size f cd :: outer
  ex := []
  calm := true
  fn := fun _ => true
  pn := []
  xe := fun e s' => wpAny (model P w) (A.deeper (envOfC qual scope s.heap.objs.size f cd)) (leaving (envOfC qual scope s.heap.objs.size f cd) e) (fun _ s'' => CX outer H s E e s'') (fun e' s'' => CX outer H s E e' s'') s'

theorem cell_has {sc : Scope} {n : Nat} {x : Str} (h : sc.names.lookup x = some .cell) : ∃ c, (cellsFrom n sc.names []).lookup x = some c := by
  have q := PySem.W.cellsFrom_some sc.names n [] (.inl h)
  exact Option.isSome_iff_exists.mp q

theorem inv_start {CX : CXT} {P : Program} {w : World} {K : PySem.W.Frag} {mg : Str → Option Value} {base : Heap} {N ps : List Str} {qual : Str} {scope : Scope} {f : Addr} {cd : Value} {A : Around} {outer : List Env} {s s1 : Shared} {H : Hp} {E : XK} {us : List Value} {vs : List V}
    (S : FnScope N ps scope) (hd : A.handled = none) (e0 : Env0 P w K mg base A outer s H) (hl : vs.length = ps.length) (r : Vals vs us)
    (x : InCallC s s.heap.objs.size (bindL (envOfC qual scope s.heap.objs.size f cd).kindOf (ps.zip us) fun _ => none) (cellsFrom (s.heap.objs.size + 1) scope.names []) (bindC (envOfC qual scope s.heap.objs.size f cd).kindOf (ps.zip us) fun _ => none) s1) :
    Inv (cxOf CX P w K mg base N qual scope f cd A outer s H E) [] (start N vs) H s1 := by
  have hpl : ps.length ≤ N.length := by have := congrArg List.length S.pre; rw [List.length_take] at this; omega
  obtain ⟨h1, tk, rfl, hk⟩ := x.done
  have noA : ∀ b : Addr, b ∉ (cxOf CX P w K mg base N qual scope f cd A outer s H E).ex := fun b z => absurd (show b ∈ ([] : List Addr) from z) (by simp)
  refine ⟨⟨e0.mod, S.kind, rfl, rfl, Nat.le_refl _, fun y z c h1 h2 => ?_, fun y hy => ?_, fun y c _ h => ?_, fun _ => hd, Around.frames_deeper e0.frames, .inr ⟨rfl, rfl⟩, fun b z => absurd z (noA b), e0.bs, e0.bsz, fun b _ _ => noA b, fun b z => absurd z (noA b), e0.funs, e0.frf⟩,
    rfl, e0.bare, Un.kept hk, ⟨_, x.toInCall.ns, fun i y v h1 h2 h3 => ?_⟩, fun y c h => ⟨_, x.cell y c h⟩, e0.hok.fresh (Nat.le_refl _), fun y c h => ?_, fun p hp => absurd (show p ∈ ([] : List (Addr × Obj)) from hp) (by simp), e0.hok.kept hk, ?_⟩
  · exact name_of_addr x.apart (PySem.mem_of_lookup h1) (PySem.mem_of_lookup h2)
  · have hy : scope.names.lookup y = some .cell ∨ scope.names.lookup y = some .free := hy
    rcases hy with hy | hy
    · exact cell_has hy
    · exact absurd rfl (S.nofree _ (PySem.mem_of_lookup hy))
  · exact Nat.le_of_lt (x.above y c (PySem.mem_of_lookup h))
  · have hi : i < vs.length := by
      unfold start at h2
      by_cases hi : i < vs.length
      · exact hi
      · rw [List.getElem?_append_right (by simpa using hi)] at h2
        rw [List.getElem?_replicate] at h2
        split at h2 <;> cases h2
    have ha : vs[i]? = some v := by
      unfold start at h2
      rw [List.getElem?_append_left (by simpa using hi), List.getElem?_map] at h2
      cases e : vs[i]? with
      | none => rw [e] at h2; cases h2
      | some a => rw [e] at h2; cases h2; rfl
    obtain ⟨u, hu, rv⟩ := r.get ha
    have hp : ps[i]? = some y := by
      rw [← S.pre, List.getElem?_take_of_lt (by omega)]; exact h1
    have ndP : ps.Nodup := by rw [← S.pre]; exact S.nd.sublist (List.take_sublist _ _)
    refine ⟨u, rv, ?_⟩
    rcases S.par y (List.mem_of_getElem? hp) with k | k
    · exact .inl ⟨k, bindL_get ndP hp hu k⟩
    · obtain ⟨c, e⟩ := cell_has (n := s.heap.objs.size + 1) k
      refine .inr ⟨.inl k, c, e, ?_⟩
      have q := x.cell y c e
      rw [bindC_get ndP hp hu (by show scope.names.lookup y ≠ _; rw [k]; decide)] at q
      exact q
  · exact e0.hok.fresh (Nat.le_of_lt (x.above y c (PySem.mem_of_lookup h)))
  · unfold start
    show _ = N.length
    rw [List.length_append, List.length_map, List.length_replicate]
    omega

theorem fn_of {CX : CXT} {P : Program} {w : World} {K : PySem.W.Frag} {mg : Str → Option Value} {base : Heap} {k : Nat} {f : Addr} {name qual : Str} {params : Arguments} {body : List Stmt} {scope : Scope} {dV kV doc pm cdv ct oc : Value} {an od : Option Addr}
    {osl : Array (Option Value)} {N ps : List Str} {sp : Sp} (lk : K.lookup f = some ⟨oc, od, .func (PySem.W.fnOf name qual params body scope dV kV doc pm an cdv ct), osl⟩) (hcd : PySem.W.codeIn K cdv qual = true) (S : FnScope N ps scope)
    (len : ∀ vs H Q E, sp vs H Q E → vs.length = ps.length)
    (hbody : ∀ (A : Around) (outer : List Env) (s : Shared) (H : Hp) (vs : List V) (Q : VK) (E : XK), Room k (A.deeper (envOfC qual scope s.heap.objs.size f cdv)) → sp vs H Q E →
      ∃ t, PSs (cxOf CX P w K mg base N qual scope f cdv A outer s H E) body t ∧ t { nx := fun _ H' => Q .non H', rt := Q } (start N vs) H) :
    FnOk P w K mg base CX (k + 1) f (PySem.W.fnOf name qual params body scope dV kV doc pm an cdv ct) ps sp := by
  refine ⟨len, fun A outer s H args us vs Q E hr e0 hb r hsp => ?_⟩
  have hl := len _ _ _ _ hsp
  have KX : K.In s.heap := e0.mod.kin.keeps fun b o e => (e0.bs b o e).1
  have lim : s.heap.NoLimit := e0.mod.nolimit.keeps fun b o e => (e0.bs b o e).1
  have hkind : ∀ y ∈ ps.zip us, scope.names.lookup y.1 = some .local ∨ (scope.names.lookup y.1 = some .cell ∧ ((cellsFrom (s.heap.objs.size + 1) scope.names []).lookup y.1).isSome = true) := fun ⟨n, v⟩ hy => by
    rcases S.par n (List.of_mem_zip hy).1 with q | q
    · exact .inl q
    · exact .inr ⟨q, PySem.W.cellsFrom_some _ _ _ (.inl q)⟩
  refine codeAny_call_function hr.depth (KX _ _ lk) rfl S.co S.gen rfl (PySem.W.codeRec_of KX hcd) (hb _ _ _ _ ?_)
  refine wpAny_newFunctionEnv_cells S.kind hkind fun env he s1 x => ?_
  subst he
  refine ⟨lim.keeps x.toInCall.keep, codeAny_func ?_⟩
  obtain ⟨t, ht, hq⟩ := hbody A outer s H vs Q E (hr.deeper _) hsp
  have I : Inv (cxOf CX P w K mg base N qual scope f cdv A outer s H E) [] (start N vs) H s1 := inv_start S hr.hd e0 hl r x
  refine wpAny_mono (ht [] s1 (start N vs) H _ I hq) (fun fl s' hs => ?_) fun e s' hs => hs
  have fin : ∀ {σ' : St} {H' : Hp} {v : V} {u : Value}, Inv (cxOf CX P w K mg base N qual scope f cdv A outer s H E) [] σ' H' s' → RelV v u → Q v H' → CE outer P w H s Q u s' :=
    fun {σ' H' v u} J rv q => ⟨v, H', J.os, J.bare, J.base, J.hok, rv, q⟩
  cases fl with
  | ret u =>
    obtain ⟨v, σ', H', J, rv, q⟩ := hs
    exact fin J rv q
  | next =>
    obtain ⟨σ', H', J, q⟩ := hs
    exact fin (v := V.non) (u := Value.none) J rfl q
  | brk =>
    obtain ⟨_, _, _, q⟩ := hs
    exact False.elim q
  | cont =>
    obtain ⟨_, _, _, q⟩ := hs
    exact False.elim q
end L2

namespace L2
open PySem PySem.Spec PyProof.Rows
section
variable {X : Cx} {x : Str} {p pos : Pos} {e : Expr} {es : List Expr} {t : TA} {id T : String} {r : List V → Hp → VK → Prop}

noncomputable def tCB (r : List V → Hp → VK → Prop) (t : TA) : TE := fun σ H Q => t σ H fun vs H1 => r vs H1 Q
theorem pe_callB (hc : CallR X (.builtin id) r) (hg : Gl X x) (hm : X.mg x = none) (hv : bootBuiltins x = some (.builtin id)) (ha : PA X (e :: es) t) (hn : x ≠ "__name__" := by decide) (hdb : (x == ("__debug__" : Str)) = false := by decide)
    (he : starEach (e :: es) X.env = (false, eval e X.env) :: starEach es X.env := by rfl) (hpl : (backTo pos (starEach es X.env)).any (·.1) = false := by rfl) : PE X (.Call (.Name x p) (e :: es) [] pos) (tCB r t) := by
  intro pins s σ H Q I h
  refine wpAny_Call_Name_kw (ld_blt I hg hm hv ?_ hn hdb)
  exact PyProof.Rows.callWith_builtin1 (thn (ha pos pins s σ H _ I h) fun us s1 zz => L2.el5 zz fun vs H1 I1 r1 q1 => hc pins s1 σ H1 vs us Q I1 r1 q1) he hpl
theorem pe_callTy (hc : CallR X (.type T) r) (hg : Gl X x) (hm : X.mg x = none) (hv : bootBuiltins x = some (.type T)) (ha : PA X (e :: es) t) (hn : x ≠ "__name__" := by decide) (hdb : (x == ("__debug__" : Str)) = false := by decide)
    (he : starEach (e :: es) X.env = (false, eval e X.env) :: starEach es X.env := by rfl) (hpl : (backTo pos (starEach es X.env)).any (·.1) = false := by rfl) : PE X (.Call (.Name x p) (e :: es) [] pos) (tCB r t) := by
  intro pins s σ H Q I h
  refine wpAny_Call_Name_kw (ld_blt I hg hm hv ?_ hn hdb)
  exact PyProof.Rows.callWith_type1 (thn (ha pos pins s σ H _ I h) fun us s1 zz => L2.el5 zz fun vs H1 I1 r1 q1 => hc pins s1 σ H1 vs us Q I1 r1 q1) he hpl
end
end L2

namespace HT
open PySem PyProof.Rows



section
open PySem.SeqAt
open PySem.AutoSeq1 (wpAny_loadPart')
open PySem.MeetsSeq PySem.MeetsSeq2 PySem.MeetsSeq3

end

section
variable {prog : Program} {w : World} {A : Around} {E : Value → Shared → Prop} {s : Shared}



/-! ### t[a:b], not the whole -/
noncomputable def sIx (n d : Nat) : Option Int → Nat
  | none => d
  | some v => if v < 0 then (v + (n : Int)).toNat else min v.toNat n
theorem sIx_none (n d : Nat) : sIx n d none = d := rfl
theorem sIx_nat (n d k : Nat) : sIx n d (some (k : Int)) = min k n := by
  show (if (k : Int) < 0 then ((k : Int) + (n : Int)).toNat else min (k : Int).toNat n) = min k n
  rw [if_neg (by omega), Int.toNat_natCast]

end
end HT

namespace L2
open PySem PySem.Spec PyProof.Rows

/-! ### the parts of a slice -/
noncomputable abbrev TO := St → Hp → (Option Int → Hp → Prop) → Prop
noncomputable def PO (X : Cx) (e : Option Expr) (t : TO) : Prop :=
  ∀ (pins : List (Addr × Obj)) (s : Shared) (σ : St) (H : Hp) (Q : Option Int → Hp → Prop), Inv X pins σ H s → t σ H Q →
    wpAny (model X.prog X.w) X.A (evalPart e X.env) (fun u s' => ∃ o H', Inv X pins σ H' s' ∧ IsPart u o ∧ Q o H') X.xe s
noncomputable def tNoPart : TO := fun _ H Q => Q none H
noncomputable def tPart (t : TE) : TO := fun σ H Q => t σ H fun x H1 => ∃ i, x = .int i ∧ Q (some i) H1


section
variable {X : Cx} {e : Expr} {te : TE} {lo hi : Option Expr} {tl th : TO} {pos p2 : Pos}

theorem po_none : PO X none tNoPart := by
  intro pins s σ H Q I h
  rw [evalPart_none]
  exact wpAny_pure ⟨none, H, I, .none, h⟩
theorem po_some (h : PE X e te) : PO X (some e) (tPart te) := by
  intro pins s σ H Q I hw
  rw [evalPart_some]
  refine thn (h pins s σ H _ I hw) fun u s1 zz => ?_
  obtain ⟨x, H1, I1, r1, q1⟩ := zz
  obtain ⟨i, rfl, q⟩ := q1
  obtain ⟨t, rfl⟩ := r1
  exact ⟨some i, H1, I1, .int i t, q⟩

noncomputable def SlR (X : Cx) (r : V → Option Int → Option Int → Hp → VK → Prop) : Prop :=
  ∀ (pins : List (Addr × Obj)) (s : Shared) (σ : St) (H : Hp) (x : V) (v vl vu : Value) (lo hi : Option Int) (sl : Addr) (Q : VK), Inv X pins σ H s → RelV x v → s.heap.IsSliceOf sl vl vu .none → IsPart vl lo → IsPart vu hi → r x lo hi H Q →
    ∃ T id, typeLookup (.type T) "__getitem__" = pure (some (.builtin id)) ∧ s.TypeIs v T ∧ wpAny (model X.prog X.w) X.A (getItem v (.ref sl)) (EP X pins σ Q) X.xe s
noncomputable def tSl (r : V → Option Int → Option Int → Hp → VK → Prop) (te : TE) (tl th : TO) : TE := fun σ H Q => te σ H fun x H1 => tl σ H1 fun l H2 => th σ H2 fun u H3 => r x l u H3 Q
theorem pe_slice {r : V → Option Int → Option Int → Hp → VK → Prop} (hr : SlR X r) (he : PE X e te) (hl : PO X lo tl) (hu : PO X hi th) : PE X (.Subscript e (.Slice lo hi none p2) pos) (tSl r te tl th) := by
  intro pins s σ H Q I h
  refine Subscript_ (thn (he pins s σ H _ I h) fun v s1 zz => ?_)
  obtain ⟨x, H1, I1, r1, q1⟩ := zz
  refine wpAny_Slice (thn (hl pins s1 σ H1 _ I1 q1) fun vl s2 zz => L2.el5 zz fun l H2 I2 pl q2 => thn (hu pins s2 σ H2 _ I2 q2) fun vu s3 zz => ?_)
  obtain ⟨u, H3, I3, pu, q3⟩ := zz
  rw [evalPart_none]
  refine wpAny_pure ?_
  have I4 : Inv X pins σ H3 { s3 with heap := s3.heap.push { cls := .type "slice", data := .fields #[vl, vu, .none] } } := I3.kept (t' := s3.toks) fun b ob q => Heap.get?_push_of_some _ q
  obtain ⟨T, id, hT, ht, hg⟩ := hr pins { s3 with heap := s3.heap.push { cls := .type "slice", data := .fields #[vl, vu, .none] } } σ H3 x v vl vu l u s3.heap.objs.size Q I4 r1 (Heap.IsSliceOf.new ..) pl pu q3
  show wpAny (model X.prog X.w) X.A (subscriptTail e (.Slice lo hi none p2) v (.ref s3.heap.objs.size)) (EP X pins σ Q) X.xe { s3 with heap := s3.heap.push { cls := .type "slice", data := .fields #[vl, vu, .none] } }
  exact tail_any (ops := [.ref s3.heap.objs.size, v]) ht hT hg (by with_unfolding_all rfl)

noncomputable def cutV (xs : List V) (lo hi : Option Int) : List V := (xs.drop (HT.sIx xs.length 0 lo)).take (HT.sIx xs.length xs.length hi - HT.sIx xs.length 0 lo)
theorem cutV_length (xs : List V) (lo hi : Option Int) : (cutV xs lo hi).length ≤ xs.length := by
  unfold cutV
  rw [List.length_take, List.length_drop]
  omega

/-! ### t < u, t + u -/
end
end L2

namespace L2
open PySem PySem.Spec PyProof.Rows

/-! ### places -/
noncomputable def ixN (n : Nat) (i : Int) : Option Nat := if 0 ≤ i then (if i < n then some i.toNat else none) else if -(n : Int) ≤ i then some (i + n).toNat else none
noncomputable def atI {α : Type} (xs : List α) (i : Int) : Option α := (ixN xs.length i).bind fun j => xs[j]?
theorem ixN_seq {n : Nat} {i : Int} {j : Nat} (h : ixN n i = some j) : seqIndex? i n = some j ∧ j < n ∧ -(n : Int) ≤ i ∧ i < n := by
  unfold ixN at h
  by_cases h0 : 0 ≤ i
  · rw [if_pos h0] at h
    by_cases h1 : i < n
    · rw [if_pos h1] at h
      have e : i.toNat = j := Option.some.inj h
      exact ⟨by rw [seqIndex_of h0 h1, e], by omega, by omega, h1⟩
    · rw [if_neg h1] at h; cases h
  · rw [if_neg h0] at h
    by_cases h1 : -(n : Int) ≤ i
    · rw [if_pos h1] at h
      have e : (i + n).toNat = j := Option.some.inj h
      exact ⟨by rw [seqIndex_neg (by omega) h1, e], by omega, h1, by omega⟩
    · rw [if_neg h1] at h; cases h
theorem atI_get {α : Type} {xs : List α} {i : Int} {v : α} (h : atI xs i = some v) : ∃ j, seqIndex? i xs.length = some j ∧ xs[j]? = some v ∧ j < xs.length ∧ -(xs.length : Int) ≤ i ∧ i < xs.length := by
  unfold atI at h
  cases e : ixN xs.length i with
  | none => rw [e] at h; cases h
  | some j =>
    rw [e] at h
    obtain ⟨h1, h2, h3, h4⟩ := ixN_seq e
    exact ⟨j, h1, h, h2, h3, h4⟩
theorem atI_nat {α : Type} {xs : List α} {j : Nat} {v : α} (h : xs[j]? = some v) : atI xs (j : Int) = some v := by
  have hj : j < xs.length := (List.getElem?_eq_some_iff.mp h).1
  have e : ixN xs.length (j : Int) = some j := by
    unfold ixN
    rw [if_pos (by omega), if_pos (by omega)]; simp
  unfold atI; rw [e]; exact h

/-! ### what may be subscripted -/
noncomputable def PlainIx (b : Expr) : Prop := ∀ o i, subscripted b false o i = operate [o, i] (getItem o i)
noncomputable def IxR (X : Cx) (r : R2) : Prop :=
  ∀ (value slice : Expr) (pins : List (Addr × Obj)) (s : Shared) (σ : St) (H : Hp) (x y : V) (v u : Value) (Q : VK), Inv X pins σ H s → RelV x v → RelV y u → r x y H Q →
    subscripted slice false v u = operate [v, u] (getItem v u) → wpAny (model X.prog X.w) X.A (subscriptTail value slice v u) (EP X pins σ Q) X.xe s
noncomputable def MtR (X : Cx) (id : String) (r : V → List V → Hp → VK → Prop) : Prop :=
  ∀ (pins : List (Addr × Obj)) (s : Shared) (σ : St) (H : Hp) (x : V) (xs : List V) (v : Value) (us : List Value) (Q : VK), Inv X pins σ H s → RelV x v → Vals xs us → r x xs H Q →
    wpAny (model X.prog X.w) X.A (call (.builtin id) (v :: us)) (EP X pins σ Q) X.xe s
section
variable {X : Cx} {a b : Expr} {ta tb : TE} {pos : Pos}
theorem IxR.or {r r' : R2} (h : IxR X r) (h' : IxR X r') : IxR X (fun x y H Q => r x y H Q ∨ r' x y H Q) := by
  intro value slice pins s σ H x y v u Q I rx ry q hs
  rcases q with q | q
  · exact h value slice pins s σ H x y v u Q I rx ry q hs
  · exact h' value slice pins s σ H x y v u Q I rx ry q hs
theorem pe_ix {r : R2} (hr : IxR X r) (ha : PE X a ta) (hb : PE X b tb) (hs : PlainIx b) : PE X (.Subscript a b pos) (tOp r ta tb) := by
  intro pins s σ H Q I h
  exact Subscript_ (binT ha hb I h fun v u s2 x y H2 I2 rx ry q => hr a b pins s2 σ H2 x y v u Q I2 rx ry q (hs _ _))

noncomputable def rIxL (K : PySem.W.Frag) : R2 := fun x y H Q => ∃ p xs i v, x = .ref p ∧ y = .int i ∧ SqL K H p xs ∧ atI xs i = some v ∧ Q v H
noncomputable def rIxT (K : PySem.W.Frag) : R2 := fun x y H Q => ∃ p xs i v, x = .ref p ∧ y = .int i ∧ SqT K H p xs ∧ atI xs i = some v ∧ Q v H
noncomputable def rIxS : R2 := fun x y H Q => ∃ z i c, x = .str z ∧ y = .int i ∧ z.length ≤ sizeLine ∧ atI z.cps.toList i = some c ∧ Q (.str ⟨#[c]⟩) H
theorem ix_list : IxR X (rIxL X.K) := by
  intro value slice pins s σ H x y v u Q I rx ry h hs
  obtain ⟨p, xs, i, z, rfl, rfl, hq, he, q⟩ := h
  cases rx
  obtain ⟨t, rfl⟩ := ry
  obtain ⟨its, r, pl, hz⟩ := I.list hq
  obtain ⟨j, h1, h2, h3, h4, h5⟩ := atI_get he
  obtain ⟨w, ew, rw'⟩ := r.get h2
  have hl := r.length
  have hn := line63
  have fin : EP X pins σ Q w s := ⟨z, H, I, rw', q⟩
  by_cases h0 : 0 ≤ i
  · have hj : i.toNat = j := by
      rw [seqIndex_of h0 h5] at h1
      exact Option.some.inj h1
    exact item_listR pl.isList h0 (by omega) (by rw [hj]; simpa using ew) fin hs
  · have hj : (i + (its.toArray.size : Int)).toNat = j := by
      rw [seqIndex_neg (by omega) h4] at h1
      rw [List.size_toArray, ← hl]
      exact Option.some.inj h1
    exact subscriptTail_builtinR (x := w) pl.isList.typeIs slot_list_getitem.lookup
      (wpAny_getItem_list_neg (Q := fun r s' => r = w ∧ EP X pins σ Q r s') pl.isList (by omega) (by rw [List.size_toArray] <;> omega) (by omega) (by rw [hj]; simpa using ew) ⟨rfl, fin⟩) hs
theorem ix_tup : IxR X (rIxT X.K) := by
  intro value slice pins s σ H x y v u Q I rx ry h hs
  obtain ⟨p, xs, i, z, rfl, rfl, hq, he, q⟩ := h
  cases rx
  obtain ⟨t, rfl⟩ := ry
  obtain ⟨its, r, pl, hz⟩ := I.tuple hq
  obtain ⟨j, h1, h2, h3, h4, h5⟩ := atI_get he
  obtain ⟨w, ew, rw'⟩ := r.get h2
  have hl := r.length
  have hn := line63
  have fin : EP X pins σ Q w s := ⟨z, H, I, rw', q⟩
  exact subscriptTail_builtinR (x := w) pl.typeIs slot_tuple_getitem.lookup
    (getItem_tuple (j := j) (Q := fun r s' => r = w ∧ EP X pins σ Q r s') pl (by omega) (by omega) (by rw [List.size_toArray, ← hl]; exact h1) (by simpa using ew) ⟨rfl, fin⟩) hs
theorem ix_str : IxR X rIxS := by
  intro value slice pins s σ H x y v u Q I rx ry h hs
  obtain ⟨z, i, c, rfl, rfl, hz, he, q⟩ := h
  obtain ⟨t, rfl⟩ := rx
  obtain ⟨t', rfl⟩ := ry
  obtain ⟨j, h1, h2, h3, h4, h5⟩ := atI_get he
  have hl : z.cps.toList.length = z.length := by simp [Str.length]
  rw [hl] at h1 h4 h5
  have hn := line63
  exact tail_any (typeIs_str s z t) slot_str_getitem.lookup (getItem_str (c := c) (by
    have e1 : decide (i < -(2 ^ 63 : Int)) = false := decide_eq_false (by omega)
    have e2 : decide (i ≥ 2 ^ 63) = false := decide_eq_false (by omega)
    rw [e1, e2, Bool.or_false]) (by rw [h1]; simpa using h2) ⟨.str ⟨#[c]⟩, H, I.tok _, ⟨_, rfl⟩, q⟩) hs
noncomputable def rIx (K : PySem.W.Frag) : R2 := fun x y H Q => rIxL K x y H Q ∨ rIxT K x y H Q ∨ rIxS x y H Q
theorem ix_seq : IxR X (rIx X.K) := ix_list.or (ix_tup.or ix_str)

/-! ### xs[i] = v, any sign -/
theorem mapSeq_set (its : List Value) (n j : Nat) (u : Value) : Obj.mapSeq (·.setIfInBounds j u) { cls := .type "list", data := .seq its.toArray n } = { cls := .type "list", data := .seq (its.set j u).toArray n } := by
  simp [Obj.mapSeq]
theorem Inv.lst {pins : List (Addr × Obj)} {σ : St} {H : Hp} {s : Shared} {p : Addr} {xs : List V} (I : Inv X pins σ H s) (h : H p = some (.lst xs)) :
    ∃ (its : List Value) (n : Nat), Vals xs its ∧ s.heap.get? p = some { cls := .type "list", data := .seq its.toArray n } ∧ xs.length ≤ sizeLine := by
  obtain ⟨z, its, n, r, e⟩ := I.hok p _ h
  exact ⟨its, n, r, e, z⟩
theorem Inv.lstUpd {pins : List (Addr × Obj)} {σ : St} {H : Hp} {s : Shared} {p : Addr} {xs ys : List V} {its its' : List Value} {n n' : Nat} {f : Obj → Obj} (I : Inv X pins σ H s) (h : H p = some (.lst xs))
    (ho : s.heap.get? p = some { cls := .type "list", data := .seq its.toArray n }) (hf : f { cls := .type "list", data := .seq its.toArray n } = { cls := .type "list", data := .seq its'.toArray n' }) (r : Vals ys its') (hz : ys.length ≤ sizeLine) (t : Nat) :
    Inv X pins σ (upd H p (.lst ys)) { s with heap := s.heap.update p f, toks := t } := by
  have e : (s.heap.update p f).get? p = some { cls := .type "list", data := .seq its'.toArray n' } := by
    rw [Heap.get?_update_self f ho (by rw [hf] <;> rfl), hf]
  refine I.write (x := p) (e := p) (by rw [h]; trivial) (.inl rfl) (fun b u hb q => (Heap.get?_update_other _ _ (Ne.symm hb)).trans q) ⟨_, e⟩ ?_
  exact ⟨hz, its', n', r, e⟩
noncomputable def rSetL : V → V → V → Hp → (Hp → Prop) → Prop := fun o i v H Q => ∃ p xs k j, o = .ref p ∧ i = .int k ∧ H p = some (.lst xs) ∧ ixN xs.length k = some j ∧ Q (upd H p (.lst (xs.set j v)))
theorem set_list : PSet X rSetL := by
  intro pins s σ H o i v ov iv u Q I ro ri rv h
  obtain ⟨p, xs, k, j, rfl, rfl, hp, hj, q⟩ := h
  cases ro
  obtain ⟨t, rfl⟩ := ri
  obtain ⟨its, n, r, ho, hz⟩ := I.lst hp
  obtain ⟨h1, h2, h3, h4⟩ := ixN_seq hj
  have hl := r.length
  have hn := line63
  have I' : Inv X pins σ (upd H p (.lst (xs.set j v))) { s with heap := s.heap.update p (Obj.mapSeq (·.setIfInBounds j u)) } :=
    I.lstUpd hp ho (mapSeq_set its n j u) (r.set rv j) (by rw [List.length_set]; exact hz) s.toks
  by_cases h0 : 0 ≤ k
  · have hk : k.toNat = j := by
      rw [seqIndex_of h0 h4] at h1
      exact Option.some.inj h1
    exact PySem.W.ki_setAt ho h0 (by omega) (by rw [List.size_toArray, ← hl]; exact h4) (by rw [hk]; exact ⟨_, I', q⟩)
  · have hk : (k + (its.toArray.size : Int)).toNat = j := by
      rw [seqIndex_neg (by omega) h3] at h1
      rw [List.size_toArray, ← hl]
      exact Option.some.inj h1
    exact PySem.W.ki_setBack ho (by omega) (by rw [List.size_toArray, ← hl]; exact h3) (by omega) (by rw [hk]; exact ⟨_, I', q⟩)

/-! ### slices -/
theorem slice_bounds (lo hi : Option Int) (n : Nat) : (sliceBounds lo hi none n).1 = ((HT.sIx n 0 lo : Nat) : Int) ∧ (sliceBounds lo hi none n).2.1 = ((HT.sIx n n hi : Nat) : Int) ∧ (sliceBounds lo hi none n).2.2 = 1 := by
  refine ⟨?_, ?_, rfl⟩
  · cases lo with
    | none => simp [sliceBounds, HT.sIx]
    | some i =>
      simp only [sliceBounds, HT.sIx, Option.getD_none, show (1 : Int) > 0 by decide, if_true]
      by_cases h : i < 0
      · simp only [h, if_true] <;> omega
      · simp only [h, if_false] <;> omega
  · cases hi with
    | none => simp [sliceBounds, HT.sIx]
    | some i =>
      simp only [sliceBounds, HT.sIx, Option.getD_none, show (1 : Int) > 0 by decide, if_true]
      by_cases h : i < 0
      · simp only [h, if_true] <;> omega
      · simp only [h, if_false] <;> omega
theorem slicePick_cut (its : List Value) (lo hi : Option Int) : slicePick its.toArray lo hi none = ((its.drop (HT.sIx its.length 0 lo)).take (HT.sIx its.length its.length hi - HT.sIx its.length 0 lo)).toArray := by
  obtain ⟨h1, h2, h3⟩ := slice_bounds lo hi its.toArray.size
  unfold slicePick
  rw [h1, h2, h3]
  simp only [sliceRange_one, pick_run, List.size_toArray] <;> rfl
noncomputable def rSlL (K : PySem.W.Frag) : V → Option Int → Option Int → Hp → VK → Prop := fun x lo hi H Q => ∃ a xs, x = .ref a ∧ SqL K H a xs ∧ ∀ p, H p = none → Q (.ref p) (upd H p (.lst (cutV xs lo hi)))
theorem sl_list : SlR X (rSlL X.K) := by
  intro pins s σ H x v vl vu lo hi sl Q I rx hs pl pu h
  obtain ⟨a, xs, rfl, hx, q⟩ := h
  cases rx
  obtain ⟨its, r, ht, hz⟩ := I.list hx
  have hlen := r.length
  refine ⟨"list", _, slot_list_getitem.lookup, ht.isList.typeIs, ?_⟩
  refine wpAny_getItem_list_slice ht.isList hs pl pu .none (by simp) ?_ (by rw [List.size_toArray] <;> omega)
  rw [slicePick_cut, ← hlen]
  refine ⟨.ref s.heap.objs.size, _, I.laid (t' := s.toks) (o := .lst (cutV xs lo hi)) (fun b ob q => Heap.get?_push_of_some _ q) (Nat.le_refl _) ?_, rfl, q _ (I.hok.fresh (Nat.le_refl _))⟩
  exact ⟨Nat.le_trans (cutV_length xs lo hi) hz, _, 0, (r.drop (HT.sIx xs.length 0 lo)).take (HT.sIx xs.length xs.length hi - HT.sIx xs.length 0 lo), Heap.get?_push_size _ rfl⟩

/-! ### in, not in: flat items -/
noncomputable def flatV : V → Bool
  | .non => true
  | .bl _ => true
  | .int _ => true
  | .str _ => true
  | _ => false
noncomputable def eqV : V → V → Bool
  | .non, .non => true
  | .bl a, .bl b => a == b
  | .bl a, .int b => (if a then 1 else 0) == b
  | .int a, .bl b => a == (if b then 1 else 0)
  | .int a, .int b => a == b
  | .str a, .str b => a == b
  | _, _ => false
theorem eqAt_V {A : Around} {s : Shared} {y x : V} {u v : Value} (ry : RelV y u) (rx : RelV x v) (fy : flatV y = true) (fx : flatV x = true) : SeqAt.EqAt A s u v (eqV y x) := by
  cases y with
  | non =>
    cases ry
    cases x with
    | non => cases rx; exact SeqAt.EqAt.same _
    | bl b => cases rx; exact SeqAt.EqAt.none_bool b
    | int b => obtain ⟨t, rfl⟩ := rx; exact SeqAt.EqAt.none_int b t
    | str b => obtain ⟨t, rfl⟩ := rx; exact SeqAt.EqAt.none_str b t
    | _ => exact absurd (show false = true from fx) Bool.false_ne_true
  | bl a =>
    cases ry
    cases x with
    | non => cases rx; exact SeqAt.EqAt.bool_none a
    | bl b => cases rx; exact SeqAt.EqAt.bool_bool a b
    | int b => obtain ⟨t, rfl⟩ := rx; exact SeqAt.EqAt.bool_int a b t
    | str b => obtain ⟨t, rfl⟩ := rx; exact SeqAt.EqAt.bool_str a b t
    | _ => exact absurd (show false = true from fx) Bool.false_ne_true
  | int a =>
    obtain ⟨t', rfl⟩ := ry
    cases x with
    | non => cases rx; exact SeqAt.EqAt.int_none a t'
    | bl b => cases rx; exact SeqAt.EqAt.int_bool a t' b
    | int b => obtain ⟨t, rfl⟩ := rx; exact SeqAt.EqAt.int_int a t' b t
    | str b => obtain ⟨t, rfl⟩ := rx; exact SeqAt.EqAt.int_str a t' b t
    | _ => exact absurd (show false = true from fx) Bool.false_ne_true
  | str a =>
    obtain ⟨t', rfl⟩ := ry
    cases x with
    | non => cases rx; exact SeqAt.EqAt.str_none a t'
    | bl b => cases rx; exact SeqAt.EqAt.str_bool a t' b
    | int b => obtain ⟨t, rfl⟩ := rx; exact SeqAt.EqAt.str_int a t' b t
    | str b => obtain ⟨t, rfl⟩ := rx; exact SeqAt.EqAt.str_str a t' b t
    | _ => exact absurd (show false = true from fx) Bool.false_ne_true
  | _ => exact absurd (show false = true from fy) Bool.false_ne_true
noncomputable def eqU (x : V) (u : Value) : Bool := match u with
  | .none => eqV .non x
  | .bool b => eqV (.bl b) x
  | .int i _ => eqV (.int i) x
  | .str z _ => eqV (.str z) x
  | _ => false
theorem eqU_of {x y : V} {u : Value} (r : RelV y u) (f : flatV y = true) : eqU x u = eqV y x := by
  cases y with
  | non => cases r; rfl
  | bl b => cases r; rfl
  | int i => obtain ⟨t, rfl⟩ := r; rfl
  | str z => obtain ⟨t, rfl⟩ := r; rfl
  | _ => exact absurd (show false = true from f) Bool.false_ne_true
theorem any_eqU {x : V} {xs : List V} {us : List Value} (h : Vals xs us) (f : xs.all flatV = true) : us.any (eqU x) = xs.any fun y => eqV y x := by
  induction h with
  | nil => rfl
  | cons r t ih =>
    rw [List.all_cons, Bool.and_eq_true] at f
    rw [List.any_cons, List.any_cons, eqU_of r f.1, ih f.2]
theorem mem_eqAt {A : Around} {s : Shared} {x : V} {v : Value} (rx : RelV x v) (fx : flatV x = true) {xs : List V} {us : List Value} (h : Vals xs us) (f : xs.all flatV = true) : ∀ u ∈ us, SeqAt.EqAt A s u v (eqU x u) := by
  induction h with
  | nil => intro u hu; cases hu
  | cons r t ih =>
    intro u' hu
    rw [List.all_cons, Bool.and_eq_true] at f
    rcases List.mem_cons.mp hu with rfl | hu
    · rw [eqU_of r f.1]; exact eqAt_V r rx f.1 fx
    · exact ih f.2 u' hu
noncomputable def inV (x : V) (xs : List V) : Bool := xs.any fun y => eqV y x
noncomputable def rIn (K : PySem.W.Frag) (neg : Bool) : R2 := fun x y H Q => ∃ p xs, y = .ref p ∧ (SqL K H p xs ∨ SqT K H p xs) ∧ flatV x = true ∧ xs.all flatV = true ∧ Q (.bl (if neg then !inV x xs else inV x xs)) H
theorem op_in_seq : OpR X (compareOp .In) (rIn X.K false) := by
  intro pins s σ H x y v u Q I rx ry h
  obtain ⟨p, xs, rfl, hq, fx, fs, q⟩ := h
  cases ry
  rcases hq with hq | hq
  · obtain ⟨its, r, pl, hz⟩ := I.list hq
    refine SeqAt.in_listAt (eqU x) pl.isList (fun w hw => mem_eqAt rx fx r fs w (by simpa using hw)) ⟨.bl _, H, I, rfl, ?_⟩
    rw [show its.toArray.any (eqU x) = its.any (eqU x) by simp, any_eqU r fs]
    exact q
  · obtain ⟨its, r, pl, hz⟩ := I.tuple hq
    refine SeqAt.in_tupleAt (eqU x) pl (fun w hw => mem_eqAt rx fx r fs w (by simpa using hw)) ⟨.bl _, H, I, rfl, ?_⟩
    rw [show its.toArray.any (eqU x) = its.any (eqU x) by simp, any_eqU r fs]
    exact q

/-! ### len, list(x), tuple(x) of any list or tuple that is read -/
theorem call_len_seq : CallR X (.builtin "len") (fun xs H Q => ∃ p ys, xs = [.ref p] ∧ (SqL X.K H p ys ∨ SqT X.K H p ys) ∧ Q (.int ys.length) H) := by
  intro pins s σ H xs us Q I r h
  obtain ⟨p, ys, rfl, hq, q⟩ := h
  obtain ⟨u, rfl, rx⟩ := vals1 r
  cases rx
  have hn := line63
  rcases hq with hq | hq
  · obtain ⟨its, r', pl, hz⟩ := I.list hq
    have hlen := r'.length
    exact Calls.call_len_list pl.isList (by simp only [List.size_toArray] <;> omega) ⟨.int ys.length, H, I.tok _, ⟨s.toks + 1, by rw [List.size_toArray, hlen]⟩, q⟩
  · obtain ⟨its, r', pl, hz⟩ := I.tuple hq
    have hlen := r'.length
    exact len_tuple pl (by simp only [List.size_toArray] <;> omega) ⟨.int ys.length, H, I.tok _, ⟨s.toks + 1, by rw [List.size_toArray, hlen]⟩, q⟩
theorem call_len_str : CallR X (.builtin "len") (fun xs H Q => ∃ z, xs = [.str z] ∧ z.length ≤ sizeLine ∧ Q (.int z.length) H) := by
  intro pins s σ H xs us Q I r h
  obtain ⟨z, rfl, hz, q⟩ := h
  obtain ⟨u, rfl, t, rfl⟩ := vals1 r
  have hn := line63
  exact len_str (by omega) ⟨.int z.length, H, I.tok _, ⟨_, rfl⟩, q⟩
theorem call_list_of : CallR X (.type "list") (fun xs H Q => ∃ p ys, xs = [.ref p] ∧ (SqL X.K H p ys ∨ SqT X.K H p ys) ∧ ∀ l, H l = none → Q (.ref l) (upd H l (.lst ys))) := by
  intro pins s σ H xs us Q I r h
  obtain ⟨p, ys, rfl, hq, q⟩ := h
  obtain ⟨u, rfl, rx⟩ := vals1 r
  cases rx
  have fin : ∀ (its : List Value), Vals ys its → ys.length ≤ sizeLine → ∀ (h' : Heap) (c' : Nat), (∀ b o', s.heap.get? b = some o' → h'.get? b = some o') →
      h'.get? s.heap.objs.size = some { cls := .type "list", dict := none, data := .seq its.toArray c', slots := #[] } → EP X pins σ Q (.ref s.heap.objs.size) { s with heap := h' } := fun its r' hz h' c' kp e =>
    ⟨.ref s.heap.objs.size, _, I.laid (t' := s.toks) kp (Nat.le_refl _) (show ObjOk X.prog X.w _ h' _ (.lst ys) from ⟨hz, its, c', r', e⟩), rfl, q _ (I.hok.fresh (Nat.le_refl _))⟩
  rcases hq with hq | hq
  · obtain ⟨its, r', pl, hz⟩ := I.list hq
    have hlen := r'.length
    obtain ⟨o, ho, hc, n, hd⟩ := pl.isList
    exact call_list_seq p (.inl rfl) ho hc hd (fun h' c' kp e => fin its r' hz h' c' kp e) (by simp only [List.size_toArray] <;> omega)
  · obtain ⟨its, r', pl, hz⟩ := I.tuple hq
    have hlen := r'.length
    obtain ⟨o, ho, hc, n, hd⟩ := pl
    exact call_list_seq p (.inr rfl) ho hc hd (fun h' c' kp e => fin its r' hz h' c' kp e) (by simp only [List.size_toArray] <;> omega)
theorem call_tuple_of : CallR X (.type "tuple") (fun xs H Q => ∃ p ys, xs = [.ref p] ∧ ((SqL X.K H p ys ∧ ∀ l, H l = none → Q (.ref l) (upd H l (.tup ys))) ∨ (SqT X.K H p ys ∧ Q (.ref p) H))) := by
  intro pins s σ H xs us Q I r h
  obtain ⟨p, ys, rfl, h⟩ := h
  obtain ⟨u, rfl, rx⟩ := vals1 r
  cases rx
  rcases h with ⟨hq, q⟩ | ⟨hq, q⟩
  · obtain ⟨its, r', pl, hz⟩ := I.list hq
    have hlen := r'.length
    refine call_tuple_list pl.isList (fun h' kp => ?_) (by simp only [List.size_toArray] <;> omega)
    have I1 : Inv X pins σ H { s with heap := h' } := I.kept (t' := s.toks) kp
    have I2 : Inv X pins σ (upd H h'.objs.size (.tup ys)) { s with heap := h'.push { cls := .type "tuple", data := .seq its.toArray } } :=
      I1.laid (t' := s.toks) (fun b o e => Heap.get?_push_of_some _ e) (Nat.le_refl _) (show ObjOk X.prog X.w _ _ _ (.tup ys) from ⟨hz, its, r', IsTup.new _ _⟩)
    exact ⟨.ref h'.objs.size, _, I2, rfl, q _ (I1.hok.fresh (Nat.le_refl _))⟩
  · obtain ⟨its, r', pl, hz⟩ := I.tuple hq
    exact call_tuple_same pl ⟨.ref p, H, I, rfl, q⟩

/-! ### the call of a builtin's method: o.m(..) -/
noncomputable def tyV (K : PySem.W.Frag) (T : String) (x : V) (H : Hp) : Prop := match x with
  | .str _ => T = "str"
  | .int _ => T = "int"
  | .ref p => (T = "list" ∧ ∃ xs, SqL K H p xs) ∨ (T = "tuple" ∧ ∃ o, K.lookup p = some o ∧ o.cls = .type "tuple" ∧ o.dict = none) ∨
      (T = "dict" ∧ ((∃ kvs, H p = some (.dK kvs)) ∨ ∃ kvs, H p = some (.dT kvs))) ∨ (T = "set" ∧ ∃ S n, H p = some (.set S n))
  | _ => False
theorem tyV_is {pins : List (Addr × Obj)} {σ : St} {H : Hp} {s : Shared} {T : String} {x : V} {v : Value} (I : Inv X pins σ H s) (r : RelV x v) (ty : tyV X.K T x H) :
    s.TypeIs v T ∧ ∀ a, v = .ref a → ∃ ob, s.heap.get? a = some ob ∧ ob.dict = none := by
  cases x with
  | str z =>
    obtain ⟨t, rfl⟩ := r
    cases (show T = "str" from ty)
    exact ⟨typeIs_str s z t, fun _ e => nomatch e⟩
  | int i =>
    obtain ⟨t, rfl⟩ := r
    cases (show T = "int" from ty)
    exact ⟨typeIs_int s i t, fun _ e => nomatch e⟩
  | ref p =>
    cases r
    rcases ty with ⟨rfl, xs, hq⟩ | ⟨rfl, o, hk, hc, hd⟩ | ⟨rfl, hk⟩ | ⟨rfl, S, n, hk⟩
    · obtain ⟨its, _, pl, _⟩ := I.list hq
      refine ⟨pl.isList.typeIs, fun a e => ?_⟩
      cases e
      obtain ⟨o, n, e, c, hd, _⟩ := pl
      exact ⟨o, e, hd⟩
    · refine ⟨⟨o, I.kIn p o hk, hc⟩, fun a e => ?_⟩
      cases e
      exact ⟨o, I.kIn _ o hk, hd⟩
    · have z : ∃ o, s.heap.get? p = some o ∧ o.ExactDict := by
        rcases hk with ⟨kvs, hk⟩ | ⟨kvs, hk⟩
        · obtain ⟨_, _, _, _, o, _, _, e, ex, _⟩ := I.hok p _ hk
          exact ⟨o, e, ex⟩
        · obtain ⟨_, _, _, _, o, _, _, e, ex, _⟩ := I.hok p _ hk
          exact ⟨o, e, ex⟩
      obtain ⟨o, e, ex⟩ := z
      refine ⟨⟨o, e, ex.1⟩, fun a e2 => ?_⟩
      cases e2
      exact ⟨o, e, ex.2.1⟩
    · obtain ⟨o, _, _, _, e, ex, _⟩ := I.hok p _ hk
      refine ⟨⟨o, e, ex.1⟩, fun a e2 => ?_⟩
      cases e2
      exact ⟨o, e, ex.2.1⟩
  | _ => exact False.elim ty
noncomputable def tBM (K : PySem.W.Frag) (T : String) (r : V → List V → Hp → VK → Prop) (to : TE) (t : TA) : TE := fun σ H Q => to σ H fun x H1 => tyV K T x H1 ∧ t σ H1 fun xs H2 => r x xs H2 Q
variable {o e : Expr} {es : List Expr} {to : TE} {t : TA} {name : Str} {apos cpos : Pos} {T id : String} {r : V → List V → Hp → VK → Prop}
theorem pe_bm (pa : PlainAttrs T) (slot : Slot T name id) (hty : typeOf (.builtin id) = pure (.type "method_descriptor")) (hm : MtR X id r) (ho : PE X o to) (ha : PA X (e :: es) t)
    (hbase : attributeBase o name X.env (eval o X.env) = eval o X.env := by rfl)
    (hfew : ((backTo cpos (starEach (e :: es) X.env)).all (fun x => !x.1) && (backToKw cpos (keywordEach [] X.env)).all (fun x => x.1.isSome)
      && decide ((e :: es).length + ([] : List Keyword).length + (if ([] : List Keyword).isEmpty then 0 else 1) < 30)) = true := by rfl)
    (hline : (apos.endLine == cpos.line) = true := by rfl) (hs : starEach (e :: es) X.env = (false, eval e X.env) :: starEach es X.env := by rfl) (hplain : (backTo cpos (starEach es X.env)).any (·.1) = false := by rfl) :
    PE X (.Call (.Attribute o name apos) (e :: es) [] cpos) (tBM X.K T r to t) := by
  intro pins s σ H Q I h
  refine wpAny_Call_method_late hbase hfew hline rfl (thn (ho pins s σ H _ I h) fun v s1 zz => ?_)
  obtain ⟨x, H1, I1, r1, ty, q1⟩ := zz
  obtain ⟨h1, h2⟩ := tyV_is I1 r1 ty
  refine ⟨T, id, pa, slot, hty, h1, h2, ?_⟩
  have hA := ha cpos pins s1 σ H1 _ I1 q1
  rw [hs] at hA ⊢
  refine Calls.callWith_builtin (by show (false || (backTo cpos (starEach es X.env)).any (·.1)) = false; rw [hplain] <;> rfl) (Calls.evalArgs_plain ?_)
  exact thn hA fun us s2 zz => L2.el5 zz fun vs H2 I2 r2 q2 => hm pins s2 σ H2 x vs v us Q I2 r1 r2 q2
/- xs.append(e), list.index on a module's tuple .. are MtR facts of 06m -/
end
end L2

namespace L2
open PySem PySem.Spec PyProof.Rows

noncomputable def MtM (X : Cx) (id : String) (r : V → List V → Hp → VK → Prop) : Prop :=
  ∀ (pins : List (Addr × Obj)) (s : Shared) (σ : St) (H : Hp) (x : V) (xs : List V) (v : Value) (us : List Value) (Q : VK), Inv X pins σ H s → RelV x v → Vals xs us → r x xs H Q →
    wpAny (model X.prog X.w) X.A (call (.builtin id) (v :: us)) (EP X pins σ Q) X.xe s

/-! ### lists of values -/
theorem Vals.one {x : V} {us : List Value} (h : Vals [x] us) : ∃ u, us = [u] ∧ RelV x u := by
  cases h with
  | cons r t =>
    cases t
    exact ⟨_, rfl, r⟩

section
variable {X : Cx} {pins : List (Addr × Obj)} {σ : St} {H : Hp} {s : Shared} {l b : Addr} {xs ys zs : List V}

/-! ### the two steps: a tracked list is rewritten, a new list is laid -/
theorem Inv.lset {its its' : List Value} {n : Nat} {f : Array Value → Array Value} {t' : Nat} (I : Inv X pins σ H s) (hH : H l = some (.lst xs))
    (e : s.heap.get? l = some { cls := .type "list", data := .seq its.toArray n }) (hf : f its.toArray = its'.toArray) (hv : Vals ys its') (hz : ys.length ≤ sizeLine) :
    Inv X pins σ (upd H l (.lst ys)) { s with heap := s.heap.update l (Obj.mapSeq f), toks := t' } := by
  have q := PySem.IsL.update e f
  rw [hf] at q
  refine I.write (x := l) (e := l) (by rw [hH]; exact trivial) (.inl rfl) (fun b' u hb hu => (Heap.get?_update_other s.heap (Obj.mapSeq f) (Ne.symm hb)).trans hu) ⟨_, q⟩ ?_
  exact ⟨hz, its', _, hv, q⟩
theorem Inv.lnew {its : List Value} {t' : Nat} (I : Inv X pins σ H s) (hv : Vals ys its) (hz : ys.length ≤ sizeLine) :
    Inv X pins σ (upd H s.heap.objs.size (.lst ys)) { s with heap := s.heap.push { cls := .type "list", data := .seq its.toArray }, toks := t' } :=
  I.laid (fun _ _ q => Heap.get?_push_of_some _ q) (Nat.le_refl _) ⟨hz, its, 0, hv, Heap.get?_push_size _ rfl⟩
theorem Inv.fresh (I : Inv X pins σ H s) : H s.heap.objs.size = none := I.hok.fresh (Nat.le_refl _)
theorem Inv.lstM (I : Inv X pins σ H s) (hH : H l = some (.lst xs)) : xs.length ≤ sizeLine ∧ ∃ (its : List Value) (n : Nat), Vals xs its ∧ xs.length = its.length ∧ s.heap.get? l = some { cls := .type "list", data := .seq its.toArray n } := by
  obtain ⟨z, its, n, r, e⟩ := I.hok l _ hH
  exact ⟨z, its, n, r, r.length, e⟩

end

section
variable {X : Cx}

/-! ### methods -/
noncomputable def rAppend : V → List V → Hp → VK → Prop := fun x vs H Q => ∃ l xs y, x = .ref l ∧ vs = [y] ∧ H l = some (.lst xs) ∧ xs.length < sizeLine ∧ Q .non (upd H l (.lst (xs ++ [y])))
theorem mt_append : MtM X "list.append" rAppend := by
  intro pins s σ H x vs v us Q I rx rv h
  obtain ⟨l, xs, y, rfl, rfl, hH, hz, q⟩ := h
  cases rx
  obtain ⟨u, rfl, ru⟩ := rv.one
  obtain ⟨z, its, n, r, hl, e⟩ := I.lstM hH
  refine call_meets F.slot_list_append ⟨_, e, rfl⟩ F.entry_list_append (F.args_list_append_2 _ _) (PySem.list_append l its.toArray n u (by rw [List.size_toArray]; omega)) ⟨e, ?_⟩
  refine ⟨.non, _, I.lset (its' := its ++ [u]) hH e (by simp) (r.append (.cons ru .nil)) ?_, rfl, q⟩
  rw [List.length_append, List.length_singleton]
  omega






/-! ### list + list, list += list, list * int -/
noncomputable def rCat : R2 := fun x y H Q => ∃ l b xs zs, x = .ref l ∧ y = .ref b ∧ H l = some (.lst xs) ∧ H b = some (.lst zs) ∧ xs.length + zs.length ≤ sizeLine ∧ ∀ p, H p = none → Q (.ref p) (upd H p (.lst (xs ++ zs)))
theorem op_cat : OpR X (binaryOp .Add) rCat := by
  intro pins s σ H x y v u Q I rx ry h
  obtain ⟨l, b, xs, zs, rfl, rfl, hH, hB, hz, q⟩ := h
  cases rx
  cases ry
  obtain ⟨z, its, n, r, hl, e⟩ := I.lstM hH
  obtain ⟨z2, its2, n2, r2, hl2, e2⟩ := I.lstM hB
  refine PySem.P.add_list e e2 ?_ (by rw [List.size_toArray, List.size_toArray]; omega)
  have ea : its.toArray ++ its2.toArray = (its ++ its2).toArray := by simp
  rw [ea]
  exact ⟨.ref _, _, I.lnew (t' := s.toks) (r.append r2) (by rw [List.length_append]; omega), rfl, q _ I.fresh⟩

/-! ### del xs[i] -/
end

/-! ### xs[a:b] = ys -/
section
variable {prog : Program} {w : World} {A : Around} {E : Value → Shared → Prop} {s : Shared}
set_option maxRecDepth 100000 in
end

section
variable {X : Cx}
end
end L2

namespace Att
open PySem PySem.W PySem.Calls PyProof.Rows

/-! ### the script -/
theorem ints_of_wellAll {P : Params} {h : Heap} : ∀ (ns : List Int) (vs : List Value), WellAll P h vs (ns.map WData.int) → IntsAre vs ns := by
  intro ns
  induction ns with
  | nil =>
    intro vs w
    rw [List.map_nil] at w
    cases w
    exact .nil
  | cons n ns ih =>
    intro vs w
    rw [List.map_cons] at w
    cases w with
    | cons a b =>
      cases a
      exact .cons _ _ (ih _ b)

theorem script_of {l : OpenLaw} {n : Nat} (hn : l.most = some n) {P : Params} {h : Heap} {args : List WData} {vals : List Value}
    (hpre : l.row.toRowW.claim.pre args = true) (hwl : WellAll P h vals args) :
    ∃ a vs ns, vals = [Value.ref a] ∧ args = [WData.list (ns.map WData.int)] ∧ h.get? a = some { cls := .type "list", data := .seq vs.toArray } ∧ IntsAre vs ns ∧ ns.length ≤ n := by
  have hsh : WShape.hasAll [] args [.list .int] = true := (pre_splitW hpre).1
  have hc : l.pre.holds [] { args := args } = true := (pre_splitW hpre).2
  obtain ⟨d, r, rfl, h1, h2⟩ := hasAllW_cons hsh
  obtain rfl := hasAllW_nil h2
  obtain ⟨xs, rfl, h3⟩ := hasW_list h1
  obtain ⟨ns, rfl⟩ := items_int h3
  have hlen : ns.length ≤ n := by
    unfold OpenLaw.pre at hc
    have h4 : (WTm.not (.lt (.lit (.int (n : Int))) (.len (.arg 0)))).holds [] { args := [.list (ns.map .int)] } = true := by
      have h4 := (holds_andW hc).1
      rw [hn] at h4
      exact h4
    have h5 := condW_of h4 (w_not (w_lt w_lit (w_len_list (w_arg rfl))))
    rw [List.length_map] at h5
    refine Nat.le_of_not_lt fun q => ?_
    have q' : (n : Int) < ((ns.length : Nat) : Int) := by omega
    first
      | (rw [decide_eq_true q'] at h5; exact absurd h5 (by decide))
      | (simp at h5; omega)
  cases hwl with
  | cons w1 w2 =>
    cases w2
    cases w1 with
    | list ho hall => exact ⟨_, _, ns, rfl, rfl, ho, ints_of_wellAll ns _ hall, hlen⟩

theorem post_true (l : OpenLaw) (args : List WData) : l.row.toRowW.claim.post args (.bool true) args = true :=
  postW_of (r := l.row.toRowW) (X := (true == true))
    (show WShape.has [] (.bool true) .bool = true by first | rfl | decide | simp [WShape.has, WShape.arms, WShape.armsAll])
    (show (WTm.eq .res (.lit (.bool true))).value [] { args := args, res := some (.bool true), after := args } = some (.bool (true == true)) from w_eq_bool (w_res rfl) w_lit) rfl

/-! ### the attachment: holds_open's last premise (the goal 'hc' behind k_head) from a wpAny of the law's body -/

theorem attach_call {l : OpenLaw} {n : Nat} {q : Program} {loose : List Str} {XP : (Str → Option Value) → Heap → Prop} {YP : World → Heap → Prop} {d : DefRec}
    (hn : l.most = some n) (hdf : d.params.defaults = [])
    (call : ∀ (w : World) (s₀ s₁ : Shared) (mg mb : Str → Option Value) (fa : Addr) (o : Obj) (pm cd doc : Value) (a : Addr) (vs : List Value) (ns : List Int),
      Ground q loose [] XP w s₀ mg mb s₁.heap → YP w s₁.heap →
      s₁.heap.get? fa = some o → o.data = .func (docDef d.name d.params d.body d.scope pm cd doc) → s₁.heap.CodeRec cd d.name → mg d.name = some (.ref fa) →
      s₁.heap.get? a = some { cls := .type "list", data := .seq vs.toArray } → IntsAre vs ns → ns.length ≤ n → s₁.gens = #[] →
      codeAny (model l.prog w) callerA (.call (.ref fa) ⟨[.ref a], []⟩) (fun r s' => r = .ok (.ret (.bool true)) ∧ OldK s₁.heap s'.heap ∧ s'.os = s₁.os ∧ AllBare s'.gens) s₁) :
    WalkO q loose XP YP l.row.toRowW d [] (fun f vs => PySem.call f vs) := by
  intro w s₀ s₁ mg mb G Y fa o pm cd doc dV kV ho hd hcd hD hmg hg args vals as hpre hlay hrd hwl hlo
  obtain rfl : dV = .none := Dflts.none hD hdf
  obtain rfl : kV = .none := Dflts.noKw hD
  obtain ⟨a, vs, ns, rfl, rfl, hobj, hints, hlen⟩ := script_of hn hpre hwl
  refine enter_call (codeAny_mono (call w s₀ s₁ mg mb fa o pm cd doc a vs ns G Y ho (fd_plain hd) hcd hmg hobj hints hlen hg) fun r s' hq => ?_)
  obtain ⟨rfl, h2, h3, h4⟩ := hq
  exact ⟨.inl ⟨.bool true, .bool true, [], rfl, fun _ => rfl, .bool true, post_true l _, fun _ => ⟨List.Pairwise.nil, fun _ hm => (nomatch hm)⟩⟩, h2, h3, h4⟩


/-! ### rules over ANY heap (no ledger) from facts about the written part K: the library's own take a ledger (News) for what they write -/
section
variable {prog : Program} {w : World} {A : Around} {E : Value → Shared → Prop} {s : Shared} {K : Frag}





/-! the whole heap as the ledger: makes every rule that writes through a ledger a rule over any heap -/

end
end Att

namespace L2
open PySem PySem.Spec PyProof.Rows

theorem vals_ints : ∀ {vs : List Value} {ns : List Int}, IntsAre vs ns → Vals (ns.map V.int) vs
  | _, _, .nil => .nil
  | _, _, .cons n t h => .cons ⟨t, rfl⟩ (vals_ints h)

noncomputable def Only (H : Hp) : Prop := ∀ b, H b = none ∨ ∃ o xs, H b = some (.frz o (.lst xs))

theorem law_call {P : Program} {w : World} {K : PySem.W.Frag} {mg mb : Str → Option Value} {CX : CXT} {k : Nat} {fa a : Addr} {fd : FuncData} {x : Str} {sp : Sp} {s₁ : Shared} {vs : List Value} {ns : List Int}
    (KX : K.In s₁.heap) (hns : s₁.heap.Ns mainGlobals mg) (hb : s₁.heap.Ns builtinsNs mb) (hbb : ∀ x : Str, x ≠ "__name__" → mb x = bootBuiltins x) (hlim : s₁.heap.NoLimit) (hg : s₁.gens = #[])
    (ha : s₁.heap.get? a = some { cls := .type "list", data := .seq vs.toArray }) (hi : IntsAre vs ns) (hl : ns.length ≤ sizeLine) (hr : Room k callerA)
    (F : ∀ base : Heap, K.In base → base.Ns mainGlobals mg → FnOk P w K mg base CX k fa fd [x] sp) (hbind : ∀ (s : Shared) (u : Value), BindsTo s fd ⟨[u], []⟩ [(x, u)])
    (hsp : ∀ H : Hp, Only H → SqL K H a (ns.map V.int) → sp [.ref a] H (fun v _ => v = .bl true) fun _ _ _ => False)
    (hCX : ∀ H e s', CX [] H s₁ (fun _ _ _ => False) e s' → False) :
    codeAny (model P w) callerA (.call (.ref fa) ⟨[.ref a], []⟩) (fun r s' => r = .ok (.ret (.bool true)) ∧ OldK s₁.heap s'.heap ∧ s'.os = s₁.os ∧ AllBare s'.gens) s₁ := by
  have rv := vals_ints hi
  have lenV := hi.length
  -- from an abstract heap in which nothing but the script may be tracked
  have core : ∀ H : Hp, Only H → SqL K H a (ns.map V.int) → HOk P w H s₁.heap → (∀ b, H b ≠ none → b = a) → (H a ≠ none → K.lookup a = none) →
      codeAny (model P w) callerA (.call (.ref fa) ⟨[.ref a], []⟩) (fun r s' => r = .ok (.ret (.bool true)) ∧ OldK s₁.heap s'.heap ∧ s'.os = s₁.os ∧ AllBare s'.gens) s₁ := by
    intro H hO hS hok hA hK
    have base_of : ∀ {b : Addr} {o : Obj}, s₁.heap.get? b = some o → H b = none → (hidT s₁.heap H).get? b = some o := fun e n => hidT_get e n
    have noA : ∀ {b : Addr} {o : Obj} {es : Array DictEntry} {ep : Nat}, s₁.heap.get? b = some o → o.data = .dict es ep → H b = none := fun {b o es ep} e d => by
      cases q : H b with
      | none => rfl
      | some u =>
        have e' : b = a := hA b (by rw [q]; simp)
        subst e'
        rw [ha] at e; cases e
        have d' : Data.seq vs.toArray _ = Data.dict es ep := d
        cases d'
    have nsK : ∀ {b : Addr} {m : Str → Option Value}, s₁.heap.Ns b m → (hidT s₁.heap H).Ns b m := fun {b m} ⟨o, es, ep, e, d, r⟩ => ⟨o, es, ep, base_of e (noA e d), d, r⟩
    have hKb : K.In (hidT s₁.heap H) := fun b o e => base_of (KX b o e) (by
      cases q : H b with
      | none => rfl
      | some u =>
        have e' : b = a := hA b (by rw [q]; simp)
        subst e'
        rw [hK (by rw [q]; simp)] at e; cases e)
    have hM : Mod K mg (hidT s₁.heap H) := ⟨hKb, nsK hns, ⟨mb, nsK hb, hbb⟩, let ⟨mc, h1, h2⟩ := hlim; ⟨mc, nsK h1, h2⟩⟩
    have e0 : Env0 P w K mg (hidT s₁.heap H) callerA [] s₁ H := ⟨rfl, hM, fun b o e => of_hidT e, Nat.le_of_eq (hidT_size _ _), trivial, fun b hb => absurd (show b ∈ ([] : List Addr) from hb) (by simp), hok, .of_eq hg⟩
    refine codeAny_mono ((F _ hKb (nsK hns)).run callerA [] s₁ H ⟨[.ref a], []⟩ [.ref a] [.ref a] _ _ hr e0 (hbind s₁ (.ref a)) (.cons rfl .nil) (hsp H hO hS)) fun r s' h => ?_
    cases r with
    | error e => exact (hCX H e s' h).elim
    | ok fl =>
      cases fl with
      | next => exact False.elim h
      | brk => exact False.elim h
      | cont => exact False.elim h
      | ret u =>
        obtain ⟨v, H', os, bare, un, hok', r', q⟩ := h
        have q' : v = .bl true := q
        subst q'
        obtain rfl : u = Value.bool true := r'
        refine ⟨rfl, OldK.of_keep fun b o e => ?_, os, bare⟩
        cases q : H b with
        | none => exact un.keep b o e q (by intro z; exact absurd (show b ∈ ([] : List Addr) from z) (by simp)) (by simp)
        | some u =>
          rcases hO b with z | ⟨ob, xs, z⟩
          · rw [q] at z; cases z
          · have z2 := un.frzs b ob _ z
            obtain ⟨e1, _⟩ := hok b _ z
            obtain ⟨e2, _⟩ := hok' b _ z2
            rw [e] at e1; cases e1
            exact e2
  cases hk : K.lookup a with
  | some o =>
    -- the script is one of the module's own objects
    have e := KX a o hk
    rw [ha] at e
    cases e
    refine core (fun _ => none) (fun _ => .inl rfl) (.inr ⟨_, vs.toArray, _, hk, rfl, rfl, rfl, by rw [List.size_toArray, lenV]; exact hl, by simpa using rv⟩) (fun b u z => by have z' : (none : Option HO) = some u := z; cases z') (fun b z => absurd rfl z) fun z => absurd rfl z
  | none =>
    refine core (fun b => if b = a then some (.frz { cls := .type "list", data := .seq vs.toArray } (.lst (ns.map V.int))) else none) (fun b => ?_) (.inl (.inr ⟨{ cls := .type "list", data := .seq vs.toArray }, if_pos rfl⟩)) (fun b u z => ?_) (fun b z => ?_) fun _ => hk
    · by_cases hb : b = a
      · exact .inr ⟨_, _, if_pos hb⟩
      · exact .inl (if_neg hb)
    · by_cases hb : b = a
      · have z' := (if_pos hb).symm.trans z
        cases z'
        subst hb
        exact ⟨ha, by rw [List.length_map]; exact hl, vs, _, rv, ha⟩
      · have z' := (if_neg hb).symm.trans z
        cases z'
    · by_cases hb : b = a
      · exact hb
      · exact absurd (if_neg hb) z
end L2

namespace L2
open PySem PySem.Spec PyProof.Rows

noncomputable abbrev KOf {K : PySem.W.Frag} {h : Heap} (_ : K.In h) : PySem.W.Frag := K

theorem walk_of {l : PySem.W.OpenLaw} {n k : Nat} {q : Program} {loose : List Str} {XP : (Str → Option Value) → Heap → Prop} {YP : World → Heap → Prop} {d : DefRec} {K : Params → PySem.W.Frag} {CX : World → CXT} {sp : World → Sp} {x : Str}
    (hn : l.most = some n) (hn2 : n ≤ sizeLine) (hdf : d.params.defaults = []) (hr : Room k callerA)
    (hY : ∀ (w : World) (h : Heap), YP w h → (K w.params).In h)
    (F : ∀ (w : World) (mg : Str → Option Value) (fa : Addr) (h : Heap), (K w.params).In h → h.Ns mainGlobals mg → mg d.name = some (.ref fa) →
      ∃ fd : FuncData, (∀ (s : Shared) (u : Value), BindsTo s fd ⟨[u], []⟩ [(x, u)]) ∧
        ∀ base : Heap, (K w.params).In base → base.Ns mainGlobals mg → FnOk l.prog w (K w.params) mg base (CX w) k fa fd [x] (sp w))
    (hsp : ∀ (w : World) (H : Hp) (a : Addr) (ns : List Int), ns.length ≤ n → Only H → SqL (K w.params) H a (ns.map V.int) → sp w [.ref a] H (fun v _ => v = .bl true) fun _ _ _ => False)
    (hCX : ∀ (w : World) (H : Hp) (s : Shared) (e : Value) (s' : Shared), CX w [] H s (fun _ _ _ => False) e s' → False) :
    PySem.W.WalkO q loose XP YP l.row.toRowW d [] (fun f vs => PySem.call f vs) := by
  refine Att.attach_call hn hdf fun w s₀ s₁ mg mb fa o pm cd doc a vs ns G Y ho hd hcd hmg hobj hints hlen hg => ?_
  have KX := hY w _ Y
  obtain ⟨fd, hb, hF⟩ := F w mg fa _ KX G.T.g hmg
  exact law_call KX G.T.g G.T.b G.T.builtins G.T.nolimit hg hobj hints (Nat.le_trans hlen hn2) hr hF hb (fun H hO hS => hsp w H a ns hlen hO hS) fun H e s' => hCX w H s₁ e s'
theorem walk_ofK {l : PySem.W.OpenLaw} {n k : Nat} {q : Program} {loose : List Str} {XP : (Str → Option Value) → Heap → Prop} {YP : World → Heap → Prop} {d : DefRec} {K : Params → PySem.W.Frag} {CX : CXT} {sp : PySem.W.Frag → Sp} {x : Str}
    (hn : l.most = some n) (hn2 : n ≤ sizeLine) (hdf : d.params.defaults = []) (hr : Room k callerA)
    (hY : ∀ (w : World) (h : Heap), YP w h → (K w.params).In h)
    (F : ∀ (w : World) (mg : Str → Option Value) (fa : Addr) (h : Heap), (K w.params).In h → h.Ns mainGlobals mg → mg d.name = some (.ref fa) →
      ∃ fd : FuncData, (∀ (s : Shared) (u : Value), BindsTo s fd ⟨[u], []⟩ [(x, u)]) ∧
        ∀ base : Heap, (K w.params).In base → base.Ns mainGlobals mg → FnOk l.prog w (K w.params) mg base CX k fa fd [x] (sp (K w.params)))
    (hsp : ∀ (K : PySem.W.Frag) (H : Hp) (a : Addr) (ns : List Int), ns.length ≤ n → Only H → SqL K H a (ns.map V.int) → sp K [.ref a] H (fun v _ => v = .bl true) fun _ _ _ => False)
    (hCX : ∀ (H : Hp) (s : Shared) (e : Value) (s' : Shared), CX [] H s (fun _ _ _ => False) e s' → False) :
    PySem.W.WalkO q loose XP YP l.row.toRowW d [] (fun f vs => PySem.call f vs) :=
  walk_of (K := K) (CX := fun _ => CX) (sp := fun w => sp (K w.params)) hn hn2 hdf hr hY F (fun w H a ns h1 h2 h3 => hsp (K w.params) H a ns h1 h2 h3) fun _ H s e s' => hCX H s e s'
end L2

/- THE LAST THEOREM (shape; LID, My.* are yours):
   My.Adr: a structure of the addresses that your layer names (classes, functions); My.Txt K t: a structure (Prop) of the equations over K;
   My.txt_mk : {K} {implicit addresses ..} (e1 : nsIn K mainGlobals "law" = some (some (.ref f))) (e2 : K.lookup f = some ⟨oc, od, .func (fnOf "law" "law" params body scope dV kV doc pm an cdv ct), sl⟩) (e3 : codeIn K cdv "law" = true) .. : ∃ t, My.Txt K t

set_option maxRecDepth 100000 in
set_option maxHeartbeats 0 in
theorem PySem.Challenge.cw_LID_holds : PySem.Challenge.rw_LID.Holds := by
  w_on; o_law; k_head; (case hw => w_witness2)
  k_fill
  refine L2.walk_of (l := PySem.Challenge.rw_LID) (n := 63) (k := 40) (x := "script") (CX := fun w => ..) (sp := fun _ => My.sp_law) rfl (by decide) rfl ⟨rfl, by decide, by decide⟩ (fun w h Y => PySem.W.kIn_of Y) ?F ?S ?C
  case F =>
    intro w mg fa h KX G hmg
    have T : ∃ t, My.Txt (L2.KOf KX) t := by
      dsimp only [L2.KOf]                          -- K must stand as «<heap const> w.params» for k_is
      refine' My.txt_mk ?e1 ?e2 ?e3 ..
      (case e1 => PySem.W.k_is)                    -- in the order: a name -> its address -> its object -> its parts
      (case e2 => PySem.W.k_is)
      ..
    obtain ⟨t, T⟩ := T
    have e0 := hmg.symm.trans (PySem.W.mg_of KX G T.law)
    cases e0                                       -- fa is the law's own address
    exact ⟨_, fun s u => .of_eq rfl, fun base kb nb => My.law_fn T kb nb⟩     -- if «.of_eq rfl» comes too early: refine' ⟨_, ?b, fun base kb nb => My.law_fn T kb nb⟩; exact fun s u => .of_eq rfl
  case S => exact fun w H a ns hl hO hS => ..
  case C => exact ..
(the tactic k_is has no namespace: write k_is) -/

/-! SHORT WORDS over the layer: a def of the text, its body, what a loop and a test want. -/
namespace L2
open PySem PySem.Spec PyProof.Rows

/-! ### the text by places -/
noncomputable def inClass (s : Stmt) (j : Nat) : Stmt := match s with
  | .ClassDef _ _ _ body _ _ _ _ _ _ _ => body.getD j (.Pass ⟨0, 0, 0, 0⟩)
  | _ => .Pass ⟨0, 0, 0, 0⟩
noncomputable def defArgs (s : Stmt) : Arguments := match s with
  | .FunctionDef _ a _ _ _ _ _ _ _ _ => a
  | _ => { posonlyargs := [], args := [], vararg := none, kwonlyargs := [], kw_defaults := [], kwarg := none, defaults := [] }
noncomputable def defBody (s : Stmt) : List Stmt := match s with
  | .FunctionDef _ _ b _ _ _ _ _ _ _ => b
  | _ => []
noncomputable def defScope (s : Stmt) : Scope := match s with
  | .FunctionDef _ _ _ _ _ _ sc _ _ _ => sc
  | _ => { kind := .function, names := [], isGenerator := false, isCoroutine := false }

/-! ### no exception leaves a def -/
noncomputable abbrev CX0 : CXT := fun _ _ _ _ _ _ => False
noncomputable abbrev E0 : XK := fun _ _ _ => False
theorem pass0 {X : Cx} : Passes CX0 X E0 := fun _ _ _ _ _ _ _ h => h.elim

/-! ### a def (or method) of the text as it stands behind the top -/
structure Fun (K : PySem.W.Frag) (x qual : Str) (st : Stmt) (f : Addr) (fd : FuncData) : Prop where
  ex : ∃ (oc : Value) (od : Option Addr) (kV doc pm : Value) (an : Option Addr) (cdv ct : Value) (osl : Array (Option Value)),
    fd = PySem.W.fnOf x qual (defArgs st) (defBody st) (defScope st) .none kV doc pm an cdv ct ∧ K.lookup f = some ⟨oc, od, .func fd, osl⟩ ∧ PySem.W.codeIn K cdv qual = true
  kp : PySem.W.keepIn K (.ref f) = true
section
variable {P : Program} {w : World} {K : PySem.W.Frag} {mg : Str → Option Value} {base : Heap}
theorem Fun.ok {x qual : Str} {st : Stmt} {f : Addr} {fd : FuncData} {N ps : List Str} {k : Nat} {sp : Sp} (F : Fun K x qual st f fd) (S : FnScope N ps (defScope st)) (len : ∀ vs H Q E, sp vs H Q E → vs.length = ps.length)
    (hbody : ∀ (cdv : Value) (A : Around) (outer : List Env) (s : Shared) (H : Hp) (vs : List V) (Q : VK) (E : XK), Room k (A.deeper (envOfC qual (defScope st) s.heap.objs.size f cdv)) → sp vs H Q E →
      ∃ t, PSs (cxOf CX0 P w K mg base N qual (defScope st) f cdv A outer s H E).nox (defBody st) t ∧ t { nx := fun _ H' => Q .non H', rt := Q } (start N vs) H) : FnOk P w K mg base CX0 (k + 1) f fd ps sp := by
  obtain ⟨oc, od, kV, doc, pm, an, cdv, ct, osl, rfl, lk, hcd⟩ := F.ex
  refine fn_of lk hcd S len fun A outer s H vs Q E hr hsp => ?_
  obtain ⟨t, h, q⟩ := hbody cdv A outer s H vs Q E hr hsp
  exact ⟨t, h.nox, q⟩
theorem Fun.binds {x qual : Str} {st : Stmt} {f : Addr} {fd : FuncData} {ps : List Str} (F : Fun K x qual st f fd)
    (h : ∀ (kV doc pm : Value) (an : Option Addr) (cdv ct : Value) (us : List Value), us.length = ps.length → bindArgs (PySem.W.fnOf x qual (defArgs st) (defBody st) (defScope st) .none kV doc pm an cdv ct) ⟨us, []⟩ = pure (ps.zip us)) : Binds K fd ps [] := by
  obtain ⟨oc, od, kV, doc, pm, an, cdv, ct, osl, rfl, lk, hcd⟩ := F.ex
  exact .all (h kV doc pm an cdv ct)
theorem fun_mk {x qual : Str} {st : Stmt} {f : Addr} {oc : Value} {od an : Option Addr} {osl : Array (Option Value)} {kV doc pm cdv ct : Value} (l : K.lookup f = some ⟨oc, od, .func (PySem.W.fnOf x qual (defArgs st) (defBody st) (defScope st) .none kV doc pm an cdv ct), osl⟩)
    (c : PySem.W.codeIn K cdv qual = true) (k : PySem.W.keepIn K (.ref f) = true) : Fun K x qual st f (PySem.W.fnOf x qual (defArgs st) (defBody st) (defScope st) .none kV doc pm an cdv ct) := ⟨⟨oc, od, kV, doc, pm, an, cdv, ct, osl, rfl, l, c⟩, k⟩
end
theorem small1000 {n : Nat} (h : n ≤ 1000) : n < sizeLine := Nat.lt_of_le_of_lt h (by decide)

/-! ### expressions in short: the name that stands in the i-th slot -/
section
variable {X : Cx}
theorem pv (i : Nat) {x : Str} {pos : Pos} (hN : X.N[i]? = some x := by rfl) (hv : Vis X.env.scope x := by first | exact Or.inl rfl | exact Or.inr (Or.inl rfl) | exact Or.inr (Or.inr rfl)) (hd : (x == ("__debug__" : Str)) = false := by decide)
    (hcd : (x == ("__classdict__" : Str)) = false := by decide) : PE X (.Name x pos) (tVar i) := pe_var hN hv hd hcd
end

/-! ### tests -/
theorem iteF {A B : Prop} (h : B) : if false = true then A else B := by
  rw [if_neg Bool.false_ne_true]
  exact h
theorem iteT {A B : Prop} (h : A) : if true = true then A else B := by
  rw [if_pos rfl]
  exact h
theorem ite2 {c A B : Prop} [Decidable c] (h1 : c → A) (h2 : ¬ c → B) : if c then A else B := by
  by_cases h : c
  · rw [if_pos h]
    exact h1 h
  · rw [if_neg h]
    exact h2 h
theorem iteNS {c A B : Prop} [Decidable c] (hc : c) (h : B) : if (!decide c) = true then A else B := by
  rw [decide_eq_true hc]
  exact iteF h

/-! ### heaps -/
noncomputable def Same (H H' : Hp) : Prop := ∀ b o, H b = some o → H' b = some o
theorem Same.refl (H : Hp) : Same H H := fun _ _ h => h
theorem Same.trans {H H1 H2 : Hp} (a : Same H H1) (b : Same H1 H2) : Same H H2 := fun c o h => b c o (a c o h)
theorem Same.free {H H' : Hp} (e : Same H H') {l : Addr} (h : H' l = Option.none) : H l = Option.none := by
  cases q : H l with
  | none => rfl
  | some o =>
    rw [e l o q] at h
    cases h

end L2

set_option Elab.async false
set_option linter.all false
set_option maxRecDepth 100000
/-! A list comprehension with one clause, over the hand layer: its block never raises. -/
namespace L2
open PySem PySem.Spec PyProof.Rows

section
variable {prog : Program} {w : World} {A : Around} {R : Result → Shared → Prop} {s : Shared}
theorem loop_comp {elt target iter : Expr} {ifs : List Expr} {scope : Scope} {pos : Pos} {it acc : Value} {env : Env} (I : Nat → Shared → Prop)
    (turn : ∀ n s, I n s → wpAny (model prog w) A (pyNext it) (fun r s₁ => match r with
      | none => R (.ok .next) s₁
      | some v => wpAny (model prog w) A (letOwnedTupleGo target it v) (fun _ s₁' => wpAny (model prog w) A (assign target env v) (fun _ s₂ =>
          wpAny (model prog w) A (forIn ifs true fun c r => if r = true then do let ok ← isTrue c env (eval c env); pure (ForInStep.yield ok) else pure (ForInStep.yield r)) (fun ok s₃ =>
            if ok = true then wpAny (model prog w) A (eval elt env) (fun x s₄ =>
              wpAny (model prog w) A (call (.builtin "list.append") [acc, x]) (fun _ s₅ => ∃ m, m < n ∧ I m s₅) (fun _ _ => False) s₄) (fun _ _ => False) s₃
            else ∃ m, m < n ∧ I m s₃) (fun _ _ => False) s₂) (fun _ _ => False) s₁') (fun _ _ => False) s₁) (fun _ _ => False) s)
    (n : Nat) (h : I n s) : codeAny (model prog w) A (.compLoop (.ListComp elt [⟨target, iter, ifs, 0⟩] scope pos) 0 it acc env) R s := by
  refine codeAny_loop rfl I (fun n s hI => ?_) n h
  show wpAny _ A ((compTurn (.ListComp elt [⟨target, iter, ifs, 0⟩] scope pos) 0 it acc env).onRaise (fun x => do noteFrame x env; theTreesLotGoes x)) _ _ s
  refine wpAny_noted ?_
  rw [compTurn_list]
  refine wpAny_bind (wpAny_standAt (wpAny_bind (wpAny_mono (turn n s hI) (fun r s₁ h₁ => ?_) fun _ _ h' => h'.elim)))
  cases r with
  | none => exact wpAny_pure h₁
  | some v =>
    refine wpAny_bind (wpAny_mono h₁ (fun _ s₁' h₁' => ?_) fun _ _ h' => h'.elim)
    refine wpAny_bind (wpAny_mono h₁' (fun _ s₂ h₂ => wpAny_bind (wpAny_mono h₂ (fun ok s₃ h₃ => ?_) fun _ _ h' => h'.elim)) fun _ _ h' => h'.elim)
    cases ok with
    | false => exact wpAny_pure ⟨rfl, h₃⟩
    | true =>
      exact wpAny_bind (wpAny_bind (wpAny_mono h₃ (fun x s₄ h₄ => wpAny_bind (wpAny_mono h₄ (fun _ s₅ h₅ => wpAny_pure (wpAny_pure ⟨rfl, h₅⟩)) fun _ _ h' => h'.elim)) fun _ _ h' => h'.elim))
end

/-! ### the cells that a block takes along -/
theorem closure_go {env : Env} {f : (Str × NameKind) → List (Str × Addr) → Sem (ForInStep (List (Str × Addr)))}
    (h1 : ∀ n k cs, k ≠ NameKind.free → f (n, k) cs = pure (.yield cs)) (h2 : ∀ n a cs, env.cells.lookup n = some a → f (n, .free) cs = pure (.yield ((n, a) :: cs))) :
    ∀ (names : List (Str × NameKind)) (acc : List (Str × Addr)), (∀ x ∈ names, x.2 = .free → ∃ c, env.cells.lookup x.1 = some c) → (∀ x c, acc.lookup x = some c → env.cells.lookup x = some c) →
      ∃ cl, forIn names acc f = pure cl ∧ (∀ x c, cl.lookup x = some c → env.cells.lookup x = some c ∧ ((∃ c', acc.lookup x = some c') ∨ (x, NameKind.free) ∈ names)) ∧
        ∀ x, ((∃ c, acc.lookup x = some c) ∨ (x, NameKind.free) ∈ names) → ∃ c, cl.lookup x = some c := by
  intro names
  induction names with
  | nil => exact fun acc _ ha => ⟨acc, rfl, fun x c e => ⟨ha x c e, .inl ⟨c, e⟩⟩, fun x hx => hx.elim (fun z => z) fun z => nomatch z⟩
  | cons y r ih =>
    intro acc hn ha
    obtain ⟨n, k⟩ := y
    have hr : ∀ x ∈ r, x.2 = .free → ∃ c, env.cells.lookup x.1 = some c := fun x hx => hn x (List.mem_cons_of_mem _ hx)
    by_cases hk : k = .free
    · subst hk
      obtain ⟨a, e⟩ := hn (n, .free) List.mem_cons_self rfl
      have e : env.cells.lookup n = some a := e
      have ha' : ∀ x c, ((n, a) :: acc).lookup x = some c → env.cells.lookup x = some c := fun x c q => by
        rw [List.lookup_cons] at q
        cases hx : x == n with
        | true => rw [hx] at q; cases q; rw [beq_iff_eq.mp hx]; exact e
        | false => rw [hx] at q; exact ha x c q
      obtain ⟨cl, e1, e2, e3⟩ := ih ((n, a) :: acc) hr ha'
      refine ⟨cl, ?_, fun x c q => ?_, fun x hx => ?_⟩
      · rw [List.forIn_cons, h2 n a acc e, pure_bind]
        exact e1
      · obtain ⟨q1, q2⟩ := e2 x c q
        refine ⟨q1, ?_⟩
        rcases q2 with ⟨c', q2⟩ | q2
        · rw [List.lookup_cons] at q2
          cases hx : x == n with
          | true => rw [beq_iff_eq.mp hx]; exact .inr List.mem_cons_self
          | false => rw [hx] at q2; exact .inl ⟨c', q2⟩
        · exact .inr (List.mem_cons_of_mem _ q2)
      · refine e3 x ?_
        rcases hx with ⟨c, hx⟩ | hx
        · refine .inl ?_
          rw [List.lookup_cons]
          cases x == n with
          | true => exact ⟨a, rfl⟩
          | false => exact ⟨c, hx⟩
        · rcases List.mem_cons.mp hx with z | z
          · cases z
            exact .inl ⟨a, by rw [List.lookup_cons, beq_self_eq_true]⟩
          · exact .inr z
    · obtain ⟨cl, e1, e2, e3⟩ := ih acc hr ha
      refine ⟨cl, ?_, fun x c q => ?_, fun x hx => ?_⟩
      · rw [List.forIn_cons, h1 n k acc hk, pure_bind]
        exact e1
      · obtain ⟨q1, q2⟩ := e2 x c q
        exact ⟨q1, q2.elim .inl fun z => .inr (List.mem_cons_of_mem _ z)⟩
      · refine e3 x ?_
        rcases hx with hx | hx
        · exact .inl hx
        · rcases List.mem_cons.mp hx with z | z
          · cases z; exact absurd rfl hk
          · exact .inr z
theorem closure_ok {scope : Scope} {env : Env} (h : ∀ x ∈ scope.names, x.2 = .free → ∃ c, env.cells.lookup x.1 = some c) :
    ∃ cl, closureFor scope env = pure cl ∧ (∀ x c, cl.lookup x = some c → env.cells.lookup x = some c ∧ (x, NameKind.free) ∈ scope.names) ∧ ∀ x, (x, NameKind.free) ∈ scope.names → ∃ c, cl.lookup x = some c := by
  obtain ⟨cl, e1, e2, e3⟩ := closure_go (env := env) (f := fun x cs => if (x.2 == NameKind.free) = true then do let a ← cellOf env x.1; pure (ForInStep.yield ((x.1, a) :: cs)) else pure (ForInStep.yield cs))
    (fun n k cs hk => by
      have : (k == NameKind.free) = false := by simpa using hk
      simp only [this, Bool.false_eq_true, if_false])
    (fun n a cs e => by
      simp only [beq_self_eq_true, if_true, cellOf, e, pure_bind])
    scope.names [] h (fun x c q => nomatch q)
  refine ⟨cl, ?_, fun x c q => ?_, fun x hx => e3 x (.inr hx)⟩
  · unfold closureFor
    first
      | (rw [show (forIn scope.names ([] : List (Str × Addr)) _ : Sem (List (Str × Addr))) = pure cl from e1]; rfl)
      | (simp only [e1, pure_bind]; done)
      | exact (congrArg (fun z => z >>= fun cs => pure cs) e1).trans (pure_bind _ _)
  · obtain ⟨q1, q2⟩ := e2 x c q
    exact ⟨q1, q2.elim (fun ⟨_, z⟩ => nomatch z) fun z => z⟩

theorem lookup_relabel_free {env : Env} : ∀ {names : List (Str × NameKind)} {x : Str}, names.lookup x = some .free →
    (names.map fun (n, k) => if (k == NameKind.free && env.scope.kind == .function && env.kindOf n == some .cell) then (n, NameKind.cell) else (n, k)).lookup x = some .cell ∨
    (names.map fun (n, k) => if (k == NameKind.free && env.scope.kind == .function && env.kindOf n == some .cell) then (n, NameKind.cell) else (n, k)).lookup x = some .free
  | [], _, h => by simp at h
  | (n, k) :: r, x, h => by
    have ih := @lookup_relabel_free env r x
    show List.lookup x ((if (k == NameKind.free && env.scope.kind == .function && env.kindOf n == some .cell) = true then (n, NameKind.cell) else (n, k)) :: _) = _ ∨
      List.lookup x ((if (k == NameKind.free && env.scope.kind == .function && env.kindOf n == some .cell) = true then (n, NameKind.cell) else (n, k)) :: _) = _
    cases hx : x == n with
    | true =>
      simp only [List.lookup_cons, hx] at h
      cases h
      by_cases hc : (NameKind.free == NameKind.free && env.scope.kind == .function && env.kindOf n == some .cell) = true
      · rw [if_pos hc]; exact .inl (by simp [List.lookup_cons, hx])
      · rw [if_neg hc]; exact .inr (by simp [List.lookup_cons, hx])
    | false =>
      simp only [List.lookup_cons, hx] at h
      by_cases hc : (k == NameKind.free && env.scope.kind == .function && env.kindOf n == some .cell) = true
      · rw [if_pos hc]; simp only [List.lookup_cons, hx]; exact ih h
      · rw [if_neg hc]; simp only [List.lookup_cons, hx]; exact ih h

/-! ### the block's context -/
noncomputable def compCx (X : Cx) (scope : Scope) (cl : List (Str × Addr)) (N : List Str) (ex : List Addr) (s : Shared) (H : Hp) : Cx where
  prog := X.prog
  w := X.w
  K := X.K
  mg := X.mg
  base := X.base
  A := X.A
  N := N
  s₀ := s
  H₀ := H
  env := compEnvC scope cl s.heap.objs.size X.env
  outer := X.stack
  stack := X.stack
  ex := ex
  fn := fun x => scope.names.lookup x == some .local
  calm := X.calm
  pn := []
  xe := fun _ _ => False
noncomputable def startC (js : List (Option Nat)) (σ : St) : St := js.map fun j => match j with
  | none => none
  | some j => (σ[j]?).join
structure CompOk (sc : Scope) (NX : List Str) (scope : Scope) (N : List Str) (js : List (Option Nat)) : Prop where
  kind : scope.kind = .function
  cell : ∀ x ∈ scope.names, x.2 ≠ .cell
  loc : ∀ x ∈ scope.names, x.2 = .local → scope.names.lookup x.1 = some .local
  free : ∀ x ∈ scope.names, x.2 = .free → scope.names.lookup x.1 = some .free ∧ (sc.names.lookup x.1 = some .cell ∨ sc.names.lookup x.1 = some .free)
  len : js.length = N.length
  at_ : ∀ p ∈ js.zip N, p.1 = none ∨ ∃ j ∈ List.range NX.length, p.1 = some j ∧ NX[j]? = some p.2 ∧ (p.2, NameKind.free) ∈ scope.names


section
variable {X : Cx} {pins : List (Addr × Obj)} {σ : St} {H : Hp} {s : Shared} {scope : Scope} {N : List Str} {js : List (Option Nat)} {cl : List (Str × Addr)} {ex : List Addr}
theorem inv_comp {h1 : Heap} {tk : Nat} (I : Inv X pins σ H s) (C : CompOk X.env.scope X.N scope N js) (c2 : ∀ x c, cl.lookup x = some c → X.env.cells.lookup x = some c ∧ (x, NameKind.free) ∈ scope.names)
    (c3 : ∀ x, (x, NameKind.free) ∈ scope.names → ∃ c, cl.lookup x = some c) (hex : ∀ b ∈ ex, FpOk X pins H b ∧ b < s.heap.objs.size)
    (hns : h1.Ns s.heap.objs.size fun _ => none) (hk : ∀ b o, s.heap.get? b = some o → h1.get? b = some o) : Inv (compCx X scope cl N ex s H) [] (startC js σ) H { s with heap := h1, toks := tk } := by
  have fr : ∀ x, (x, NameKind.free) ∈ scope.names → (relabel scope X.env).names.lookup x = some .cell ∨ (relabel scope X.env).names.lookup x = some .free := fun x hx => lookup_relabel_free (C.free _ hx rfl).1
  refine ⟨⟨I.ok.mod, C.kind, I.ok.glob, I.ok.blt, Nat.le_refl _, fun x y c e1 e2 => I.ok.inj x y c (c2 x c e1).1 (c2 y c e2).1, fun x hx => ?_, fun x c hf e => ?_, I.ok.hd, I.ok.frames, .inl rfl, fun b hb => ⟨Nat.ne_of_lt (hex b hb).2, fun x c e => (hex b hb).1.2.2.2.2.1 x c (c2 x c e).1⟩, I.bs, Nat.le_trans I.ok.bsz I.sz, fun b o e hb => ?_, fun b hb hf => ?_, I.stack, I.stkFree⟩,
    rfl, I.bare, Un.kept hk, ⟨fun _ => none, hns, fun i x v e1 e2 e3 => ?_⟩, fun x c e => ?_, I.hok.fresh (Nat.le_refl _), fun x c e => I.freeC x c (c2 x c e).1, fun p hp => absurd (show p ∈ ([] : List (Addr × Obj)) from hp) (by simp), I.hok.kept hk, ?_⟩
  · -- every cell name has its cell
    have hx : (relabel scope X.env).names.lookup x = some .cell ∨ (relabel scope X.env).names.lookup x = some .free := hx
    have hm : (x, NameKind.free) ∈ scope.names := by
      have key : ∀ k, (relabel scope X.env).names.lookup x = some k → k = .cell ∨ k = .free → (x, NameKind.free) ∈ scope.names := fun k hl hk => by
        have m := PySem.mem_of_lookup hl
        obtain ⟨⟨n, k'⟩, hm, e⟩ := List.mem_map.mp m
        dsimp only at e
        by_cases hc : (k' == NameKind.free && X.env.scope.kind == .function && X.env.kindOf n == some .cell) = true
        · rw [if_pos hc] at e
          cases e
          have : k' = .free := by
            simp only [Bool.and_eq_true, beq_iff_eq] at hc
            exact hc.1.1
          subst this
          exact hm
        · rw [if_neg hc] at e
          cases e
          rcases hk with z | z
          · exact absurd z (C.cell _ hm)
          · subst z; exact hm
      rcases hx with z | z
      · exact key _ z (.inl rfl)
      · exact key _ z (.inr rfl)
    exact c3 x hm
  · have hf : (scope.names.lookup x == some .local) = true := hf
    have e' := (C.free _ (c2 x c e).2 rfl).1
    rw [e'] at hf
    exact absurd hf (by decide)
  · obtain ⟨⟨_, _, _, hz, _, _⟩, hlt⟩ := hex b hb
    rcases hz with z | z
    · exact I.ok.noex b o e z
    · exact absurd (Nat.lt_of_lt_of_le (Nat.lt_of_lt_of_le (Heap.lt_size e) I.ok.bsz) z) (Nat.lt_irrefl _)
  · obtain ⟨⟨_, hL, hfs, _⟩, _⟩ := hex b hb
    rcases List.mem_cons.mp (I.stkSub b hf) with z | z
    · exact hL z
    · exact hfs z
  · -- the names
    unfold startC at e2
    rw [List.getElem?_map] at e2
    cases ej : js[i]? with
    | none => rw [ej] at e2; cases e2
    | some oj =>
      rw [ej] at e2
      cases oj with
      | none => cases e2
      | some j =>
        have e2' : (σ[j]?).join = some v := Option.some.inj e2
        have e2'' : σ[j]? = some (some v) := by
          cases q : σ[j]? with
          | none => rw [q] at e2'; cases e2'
          | some z => rw [q] at e2'; exact congrArg some e2'
        have e1 : N[i]? = some x := e1
        have hz : (some j, x) ∈ js.zip N := List.mem_iff_getElem?.mpr ⟨i, by rw [List.getElem?_zip_eq_some]; exact ⟨ej, e1⟩⟩
        obtain ⟨a1, a2⟩ : X.N[j]? = some x ∧ (x, NameKind.free) ∈ scope.names := by
          rcases C.at_ _ hz with q | ⟨j', _, q, a1, a2⟩
          · cases q
          · cases q
            exact ⟨a1, a2⟩
        have a1 : X.N[j]? = some x := a1
        have a2 : (x, NameKind.free) ∈ scope.names := a2
        obtain ⟨b1, b2⟩ := C.free _ a2 rfl
        have b2 : X.env.scope.names.lookup x = some .cell ∨ X.env.scope.names.lookup x = some .free := b2
        obtain ⟨m, _, hl⟩ := I.loc
        obtain ⟨u, r, l⟩ := hl j x v a1 e2'' (.inr b2)
        refine ⟨u, r, ?_⟩
        rcases l with ⟨k, _⟩ | ⟨_, c, hc, z⟩
        · have k : X.env.scope.names.lookup x = some .local := k
          rcases b2 with b2 | b2 <;> (rw [b2] at k; cases k)
        · obtain ⟨c', hc'⟩ := c3 x a2
          have := (c2 x c' hc').1
          rw [hc] at this
          cases this
          obtain ⟨o, ho, hd⟩ := z
          exact .inr ⟨fr x a2, c, hc', ⟨o, hk _ _ ho, hd⟩⟩
  · obtain ⟨v, o, ho, hd⟩ := I.cell x c (c2 x c e).1
    exact ⟨v, o, hk _ _ ho, hd⟩
  · show (startC js σ).length = N.length
    unfold startC
    rw [List.length_map]
    exact C.len
end

/-! ### the rule -/
noncomputable def PIf (X : Cx) (ifs : List Expr) (t : TT) : Prop :=
  ∀ (pins : List (Addr × Obj)) (s : Shared) (σ : St) (H : Hp) (Q : Bool → Hp → Prop), Inv X pins σ H s → t σ H Q →
    wpAny (model X.prog X.w) X.A (forIn ifs true fun c r => if r = true then do let ok ← isTrue c X.env (eval c X.env); pure (ForInStep.yield ok) else pure (ForInStep.yield r)) (TP X pins σ Q) X.xe s
noncomputable def tAll : TT := fun _ H Q => Q true H
theorem pif_none {X : Cx} : PIf X [] tAll := fun _ _ _ H _ I h => wpAny_tests_nil ⟨H, I, h⟩

noncomputable def CompRun (js : List (Option Nat)) (g : TG) (tc : TT) (te : TE) (σ : St) (Q : VK) (J : It) (H1 : Hp) (D : Addr) : Prop := ∃ W : Nat → Nat → St → Hp → Prop, (∃ m, W 0 m (startC js σ) (upd H1 D (.lst []))) ∧
  ∀ i m σ' H', W i m σ' H' → (J.stop i H' ∧ Q (.ref D) H') ∨ (J.go i H' ∧ ∃ N : St → Hp → Prop, (∀ σ2 H2, N σ2 H2 → ∃ m', m' < m ∧ W (i + 1) m' σ2 H2) ∧
    ∀ x H2, J.yld i H' x H2 → g x σ' H2 fun σ3 H3 => tc σ3 H3 fun ok H4 => if ok = true then te σ3 H4 fun y H5 => ∃ ys, H5 D = some (.lst ys) ∧ ys.length < sizeLine ∧ N σ3 (upd H5 D (.lst (ys ++ [y]))) else N σ3 H4)
noncomputable def tComp (js : List (Option Nat)) (wi : TI) (g : TG) (tc : TT) (te : TE) : TE := fun σ H Q => wi σ H fun J H1 => ∀ D, H1 D = none → CompRun js g tc te σ Q J H1 D

noncomputable def fsc (l : List (Str × NameKind)) : Scope := { kind := .function, names := l, isGenerator := false, isCoroutine := false, more := [] }
section
variable {X : Cx} {tg iter elt : Expr} {ifs : List Expr} {scope : Scope} {pos : Pos} {N : List Str} {js : List (Option Nat)} {wi : TI} {g : TG} {tc : TT} {te : TE}
theorem comp_run {cl : List (Str × Addr)} {pins : List (Addr × Obj)} {σ : St} {H : Hp} {s : Shared} {E : Value → Shared → Prop} {Q : VK} {RR : Value → Addr → Result → Shared → Prop} (hc : HandI X) (C : CompOk X.env.scope X.N scope N js)
    (c2 : ∀ x c, cl.lookup x = some c → X.env.cells.lookup x = some c ∧ (x, NameKind.free) ∈ scope.names) (c3 : ∀ x, (x, NameKind.free) ∈ scope.names → ∃ c, cl.lookup x = some c)
    (hb : ∀ cl ex s H, HandI (compCx X scope cl N ex s H) → PG (compCx X scope cl N ex s H) tg g ∧ PIf (compCx X scope cl N ex s H) ifs tc ∧ PE (compCx X scope cl N ex s H) elt te)
    {it : Addr} {fp : List Addr} {tn : Nat → Heap → Prop} {J : It} (I : Inv X pins σ H s) (T : Turn X.prog X.w X.K tg J fp it tn) (st : tn 0 s.heap) (f2 : ∀ b ∈ fp, FpOk X pins H b)
    (q : ∀ D, H D = none → CompRun js g tc te σ Q J H D)
    (hRR : ∀ D C' H' s', Q (.ref D) H' → (∃ m, s'.heap.Ns C' m) → H' C' = none → X.s₀.heap.objs.size ≤ C' → C' ≠ X.env.locals → (∀ x c, X.env.cells.lookup x = some c → c ≠ C') → (∀ p ∈ X.pn ++ pins, p.1 ≠ C') → Inv X pins σ H' s' → RR (.ref D) C' (.ok .next) s') :
    wpAny (model X.prog X.w) X.A (newList []) (fun acc s₃ => wpAny (model X.prog X.w) X.A (newFunctionEnv scope X.env.globals cl [] X.env.qual none .none (some X.env)) (fun cenv s₄ =>
      codeAny (model X.prog X.w) X.A (.compStart (.ListComp elt [⟨tg, iter, ifs, 0⟩] scope pos) 0 (.ref it) acc { cenv with scope := relabel scope X.env }) (RR acc cenv.locals) s₄) E s₃) E s := by
  have hD : H s.heap.objs.size = none := I.fresh
  have I3 : Inv X pins σ (upd H s.heap.objs.size (.lst [])) { s with heap := s.heap.push { cls := .type "list", data := .seq ([] : List Value).toArray } } := I.lnew (its := []) (ys := []) (t' := s.toks) .nil (Nat.zero_le _)
  refine wpAny_newObj_type (wpAny_newFunctionEnv C.cell (by intro y hy; simp at hy) (fun h₁ hns₁ hsb₁ => ?_) C.kind)
  dsimp only at hns₁ hsb₁ ⊢
  generalize hs3 : ({ s with heap := s.heap.push { cls := .type "list", data := .seq ([] : List Value).toArray } } : Shared) = s3 at I3
  have hh3 : s.heap.push { cls := .type "list", dict := none, data := .seq ([] : List Value).toArray } = s3.heap := by rw [← hs3]
  rw [hh3] at hns₁ hsb₁ ⊢
  have kp : ∀ b o, s3.heap.get? b = some o → h₁.get? b = some o := fun b o e => hsb₁.extBut b o (Nat.ne_of_lt (Heap.lt_size e)) (Heap.get?_push_of_some _ e)
  have hlt : ∀ b ∈ fp, b < s.heap.objs.size := fun b hb => by
    obtain ⟨o, e, _⟩ := T.obj 0 s.heap st b hb
    exact Heap.lt_size e
  have sz3 : s3.heap.objs.size = s.heap.objs.size + 1 := by rw [← hh3, Heap.size_push]
  have f3 : ∀ b ∈ fp, FpOk X pins (upd H s.heap.objs.size (.lst [])) b := fun b hb => by
    obtain ⟨h1, h2⟩ := f2 b hb
    exact ⟨by rw [upd_ne (Nat.ne_of_lt (hlt b hb))]; exact h1, h2⟩
  have IY : ∀ tk, Inv (compCx X scope cl N fp s3 (upd H s.heap.objs.size (.lst []))) [] (startC js σ) (upd H s.heap.objs.size (.lst [])) { s3 with heap := h₁, toks := tk } := fun tk =>
    inv_comp I3 C c2 c3 (fun b hb => ⟨f3 b hb, by rw [sz3]; exact Nat.lt_succ_of_lt (hlt b hb)⟩) hns₁ kp
  have st1 : tn 0 h₁ := T.keep 0 s.heap h₁ st fun b hb o e => kp b o (by rw [← hh3]; exact Heap.get?_push_of_some _ e)
  obtain ⟨W, ⟨m0, w0⟩, turn⟩ := q s.heap.objs.size hD
  have hcY : HandI (compCx X scope cl N fp s3 (upd H s.heap.objs.size (.lst []))) := hc.in_ I3 rfl rfl fun _ _ _ z => z
  have hbY := hb cl fp s3 (upd H s.heap.objs.size (.lst [])) hcY
  obtain ⟨hg, hif, he⟩ := hbY
  have stat : ∀ {H' : Hp}, (∀ b ∈ fp, H' b = none) → ∀ b ∈ fp, FpOk (compCx X scope cl N fp s3 (upd H s.heap.objs.size (.lst []))) [] H' b := fun hn b hb => by
    obtain ⟨_, hL, hfs, _, hcl, _⟩ := f2 b hb
    refine ⟨hn b hb, Nat.ne_of_lt (by show b < s3.heap.objs.size; rw [sz3]; exact Nat.lt_succ_of_lt (hlt b hb)), fun z => ?_, .inl hb, fun x c e => hcl x c (c2 x c e).1, fun p hp => absurd (show p ∈ ([] : List (Addr × Obj)) from hp) (by simp)⟩
    rcases List.mem_cons.mp (I.stkSub b z) with z | z
    · exact hL z
    · exact hfs z
  have loop : ∀ s4 : Shared, s4 = { s3 with heap := h₁, toks := s.toks + ([] : List (Str × Value)).length } →
      codeAny (model X.prog X.w) X.A (.compLoop (.ListComp elt [⟨tg, iter, ifs, 0⟩] scope pos) 0 (.ref it) (.ref s.heap.objs.size) (compEnvC scope cl s3.heap.objs.size X.env)) (RR (.ref s.heap.objs.size) s3.heap.objs.size) s4 := by
    rintro s4 rfl
    refine loop_comp (fun n s' => ∃ i σ' H', Inv (compCx X scope cl N fp s3 (upd H s.heap.objs.size (.lst []))) [] σ' H' s' ∧ tn i s'.heap ∧ (∀ b ∈ fp, H' b = none) ∧ W i n σ' H') ?_ m0
      ⟨0, _, _, IY _, st1, fun b hb => (f3 b hb).1, w0⟩
    rintro n s5 ⟨i, σ5, H5, I5, st5, fr5, w5⟩
    rcases turn i n σ5 H5 w5 with ⟨stop, qn⟩ | ⟨go, Nx, hN, step⟩
    · refine thn (T.done (compCx X scope cl N fp s3 (upd H s.heap.objs.size (.lst []))) rfl rfl rfl hcY i [] s5 σ5 H5 _ I5 (stat fr5) st5 stop) fun r s6 ⟨hr, I6⟩ => ?_
      subst hr
      obtain ⟨m, hn, _⟩ := I6.loc
      refine hRR _ _ H5 s6 qn ⟨m, hn⟩ I6.free (Nat.le_trans I3.sz (Nat.le_refl _)) (Nat.ne_of_gt I3.lt) (fun x c e z => ?_) (fun p hp z => ?_) (I3.call' I6.os I6.base I6.hok I6.bare fun b hb => ?_)
      · obtain ⟨v, o, ho, _⟩ := I3.cell x c e
        exact absurd (Heap.lt_size ho) (by rw [z]; exact Nat.lt_irrefl _)
      · exact absurd (Heap.lt_size (I3.pin p hp).1) (by rw [z]; exact Nat.lt_irrefl _)
      · obtain ⟨_, hL, _, hx, hcl, hp⟩ := f2 b hb
        exact ⟨hx, hL, hcl, hp⟩
    · refine thn (T.item (compCx X scope cl N fp s3 (upd H s.heap.objs.size (.lst []))) rfl rfl rfl hcY i [] s5 σ5 H5 _ I5 (stat fr5) st5 go) fun r s6 zz => L2.el3 zz fun u hr h6 => ?_
      subst hr
      refine thn h6 fun _ s7 zz => ?_
      obtain ⟨x, H7, I7, r7, y7, st7, fr7⟩ := zz
      have I7' := I7.pinned (stat fr7) (T.obj _ _ st7)
      refine thn (hg _ s7 σ5 H7 x u _ I7' r7 (step x H7 y7)) fun _ s8 zz => ?_
      obtain ⟨σ8, H8, I8, q8⟩ := zz
      refine thn (hif _ s8 σ8 H8 _ I8 q8) fun ok s9 zz => ?_
      obtain ⟨H9, I9, q9⟩ := zz
      have again : ∀ {s' : Shared} {σ' : St} {H' : Hp}, Inv (compCx X scope cl N fp s3 (upd H s.heap.objs.size (.lst []))) ([] ++ pinsAt fp s7.heap) σ' H' s' → Nx σ' H' →
          ∃ m, m < n ∧ ∃ i σ'' H'', Inv (compCx X scope cl N fp s3 (upd H s.heap.objs.size (.lst []))) [] σ'' H'' s' ∧ tn i s'.heap ∧ (∀ b ∈ fp, H'' b = none) ∧ W i m σ'' H'' := fun {s' σ' H'} I' n' => by
        obtain ⟨m', hm, w'⟩ := hN σ' H' n'
        refine ⟨m', hm, i + 1, σ', H', I'.unpinned, T.keep _ _ _ st7 fun b hb o e => (I'.pin (b, o) (List.mem_append_right _ (List.mem_append_right _ (mem_pinsAt hb e)))).1, fun b hb => ?_, w'⟩
        obtain ⟨o, e, d⟩ := T.obj _ _ st7 b hb
        exact (I'.pin (b, o) (List.mem_append_right _ (List.mem_append_right _ (mem_pinsAt hb e)))).2.1
      cases ok with
      | false => exact again I9 q9
      | true =>
        refine thn (he _ s9 σ8 H9 _ I9 q9) fun yv s10 zz => ?_
        obtain ⟨y, H10, I10, r10, ys, hDD, hlt', n10⟩ := zz
        refine thn (mt_append _ s10 σ8 H10 (.ref s.heap.objs.size) [y] (.ref s.heap.objs.size) [yv] (fun _ H' => Nx σ8 H') I10 rfl (.cons r10 .nil) ⟨_, ys, y, rfl, rfl, hDD, hlt', n10⟩) fun _ s11 zz => ?_
        obtain ⟨_, H11, I11, _, n11⟩ := zz
        exact again I11 n11
  have e4 : ({ s with heap := h₁, toks := s.toks + ([] : List (Str × Value)).length } : Shared) = { s3 with heap := h₁, toks := s.toks + ([] : List (Str × Value)).length } := by rw [← hs3]
  exact codeAny_compStart_list (loop _ e4) (T.self _ 0 _ _ _ st1 (loop _ e4))

theorem pe_compH (hc : HandI X) (hi : PI X tg iter wi) (C : CompOk X.env.scope X.N scope N js)
    (hb : ∀ cl ex s H, HandI (compCx X scope cl N ex s H) → PG (compCx X scope cl N ex s H) tg g ∧ PIf (compCx X scope cl N ex s H) ifs tc ∧ PE (compCx X scope cl N ex s H) elt te)
    (hs : ∀ x, foldedSetIterable iter X.env x = pure x := by intro _; rfl) : PE X (.ListComp elt [⟨tg, iter, ifs, 0⟩] scope pos) (tComp js wi g tc te) := by
  intro pins s σ H Q I h
  obtain ⟨cl, hcl, c2, c3⟩ := closure_ok (scope := scope) (env := X.env) fun x hx hf => I.ok.has x.1 (C.free x hx hf).2
  rw [eval_ListComp]
  refine wpAny_comprehension_free (use := none) rfl hs hcl C.kind C.loc (thn (hi pins s σ H _ I h) fun xv s₁ h₁ => thn h₁ fun itv s₂ h₂ => ?_)
  obtain ⟨it, fp, tn, J, H2, rfl, I2, T, st2, f2, q⟩ := h₂
  refine comp_run (RR := fun acc C' => compPost (model X.prog X.w) X.A X.xe none (EP X pins σ Q) acc C') hc C c2 c3 hb I2 T st2 f2 q ?_
  intro D C' H' s' hq hns hfr hsz hL hcl' hpin I'
  obtain ⟨m, hn⟩ := hns
  refine ⟨m, hn, fun h' sb => ⟨.ref D, H', ?_, rfl, hq⟩⟩
  exact I'.turned (t' := s'.toks) (fun b o hb e => (sb.2 b hb).trans e) hfr (Ne.symm (Ne.symm hL)) (.inr hsz) hcl' hpin

theorem pe_comp (hc : X.calm = true) (hi : PI X tg iter wi) (C : CompOk X.env.scope X.N scope N js)
    (hb : ∀ cl ex s H, PG (compCx X scope cl N ex s H) tg g ∧ PIf (compCx X scope cl N ex s H) ifs tc ∧ PE (compCx X scope cl N ex s H) elt te)
    (hs : ∀ x, foldedSetIterable iter X.env x = pure x := by intro _; rfl) : PE X (.ListComp elt [⟨tg, iter, ifs, 0⟩] scope pos) (tComp js wi g tc te) := pe_compH (.inl hc) hi C (fun cl ex s H _ => hb cl ex s H) hs
theorem ps_setCH {i : Nat} {y : Str} {py spos : Pos} (hN : X.N.Nodup) (hi' : X.N[i]? = some y) (hy : X.env.scope.names.lookup y = some .local) (hc : HandI X) (hi : PI X tg iter wi) (C : CompOk X.env.scope X.N scope N js)
    (hb : ∀ cl ex s H, HandI (compCx X scope cl N ex s H) → PG (compCx X scope cl N ex s H) tg g ∧ PIf (compCx X scope cl N ex s H) ifs tc ∧ PE (compCx X scope cl N ex s H) elt te)
    (hsw : swapsWith (.ListComp elt [⟨tg, iter, ifs, 0⟩] scope pos) (some (.Name y py)) spos.line X.env = pure true := by rfl)
    (hs : ∀ x, foldedSetIterable iter X.env x = pure x := by intro _; rfl) : PS X (.Assign [.Name y py] (.ListComp elt [⟨tg, iter, ifs, 0⟩] scope pos) spos) (tAsg (tComp js wi g tc te) (gName i)) := by
  intro pins s σ H D I h
  obtain ⟨cl, hcl, c2, c3⟩ := closure_ok (scope := scope) (env := X.env) fun x hx hf => I.ok.has x.1 (C.free x hx hf).2
  rw [exec_Assign_Name_used _ _ _ _ hsw]
  refine wpAny_bind (wpAny_standAt (wpAny_bind ?_))
  show wpAny _ X.A (do let _ ← comprehension (.ListComp elt [⟨tg, iter, ifs, 0⟩] scope pos) scope X.env _ (newList []) false (eval iter X.env) (some (assign (.Name y py) X.env))) _ _ s
  refine wpAny_bind (wpAny_mono (wpAny_comprehension_free (use := some (assign (.Name y py) X.env)) (Q := fun _ s' => SP X pins D .next s') rfl hs hcl C.kind C.loc (thn (hi pins s σ H _ I h) fun xv s₁ h₁ => thn h₁ fun itv s₂ h₂ => ?_))
    (fun _ s' hq => wpAny_pure (wpAny_pure hq)) fun _ _ e => e)
  obtain ⟨it, fp, tn, J, H2, rfl, I2, T, st2, f2, q⟩ := h₂
  refine comp_run (Q := fun x H1 => gName i x σ H1 D.nx) (RR := fun acc C' => compPost (model X.prog X.w) X.A X.xe (some (assign (.Name y py) X.env)) (fun _ s' => SP X pins D .next s') acc C') hc C c2 c3 hb I2 T st2 f2 q ?_
  intro Da C' H' s' hq hns hfr hsz hL hcl' hpin I'
  obtain ⟨m, hn⟩ := hns
  show wpAny _ X.A (assign (.Name y py) X.env (.ref Da)) _ _ _
  refine wpAny_assign_Name (store_ok2 I' hN hi' (.inl hy) (v := .ref Da) rfl (fun s2 I2 hx => ?_) (.inr hy))
  obtain ⟨a, sba, ha⟩ := hx
  have hne : C' ≠ a := by
    rcases ha with z | z
    · rw [z]; exact hL
    · exact fun e => hcl' y a z e.symm
  refine ⟨m, hn.sameBut sba hne, fun h' sb => ⟨_, H', ?_, hq⟩⟩
  exact I2.turned (t' := s2.toks) (fun b o hb e => (sb.2 b hb).trans e) hfr hL (.inr hsz) hcl' hpin
theorem ps_setC {i : Nat} {y : Str} {py spos : Pos} (hN : X.N.Nodup) (hi' : X.N[i]? = some y) (hy : X.env.scope.names.lookup y = some .local) (hc : X.calm = true) (hi : PI X tg iter wi) (C : CompOk X.env.scope X.N scope N js)
    (hb : ∀ cl ex s H, PG (compCx X scope cl N ex s H) tg g ∧ PIf (compCx X scope cl N ex s H) ifs tc ∧ PE (compCx X scope cl N ex s H) elt te)
    (hsw : swapsWith (.ListComp elt [⟨tg, iter, ifs, 0⟩] scope pos) (some (.Name y py)) spos.line X.env = pure true := by rfl)
    (hs : ∀ x, foldedSetIterable iter X.env x = pure x := by intro _; rfl) : PS X (.Assign [.Name y py] (.ListComp elt [⟨tg, iter, ifs, 0⟩] scope pos) spos) (tAsg (tComp js wi g tc te) (gName i)) := ps_setCH hN hi' hy (.inl hc) hi C (fun cl ex s H _ => hb cl ex s H) hsw hs
end

/-! ### the forms one uses -/
section
variable {g : TG} {tc : TT} {te : TE} {js : List (Option Nat)} {σ : St} {H : Hp} {Q : VK} {D : Addr}
theorem comp_range {lo : Int} {n : Nat} (Pv : Nat → St → Hp → Prop) (h0 : Pv 0 (startC js σ) (upd H D (.lst [])))
    (hs : ∀ i σ' H', i < n → Pv i σ' H' → g (.int (lo + i)) σ' H' fun σ3 H3 => tc σ3 H3 fun ok H4 => if ok = true then te σ3 H4 fun y H5 => ∃ ys, H5 D = some (.lst ys) ∧ ys.length < sizeLine ∧ Pv (i + 1) σ3 (upd H5 D (.lst (ys ++ [y]))) else Pv (i + 1) σ3 H4)
    (hd : ∀ σ' H', Pv n σ' H' → Q (.ref D) H') :
    CompRun js g tc te σ Q (Itr lo n) H D := by
  refine ⟨fun i m σ H => m = n - i ∧ i ≤ n ∧ Pv i σ H, ⟨n, by simp, Nat.zero_le _, h0⟩, ?_⟩
  rintro i m σ' H' ⟨rfl, hi, p⟩
  by_cases hlt : i < n
  · refine .inr ⟨hlt, Pv (i + 1), fun σ2 H2 p' => ⟨n - (i + 1), by omega, rfl, hlt, p'⟩, fun x H2 y => ?_⟩
    obtain ⟨e, y⟩ := y
    subst e y
    exact hs i σ' _ hlt p
  · have e : i = n := by omega
    subst e
    exact .inl ⟨Nat.le_refl _, hd σ' H' p⟩
theorem comp_list {K : PySem.W.Frag} {a : Addr} {xs : List V} (Pv : Nat → St → Hp → Prop) (h0 : Pv 0 (startC js σ) (upd H D (.lst []))) (hl : ∀ i σ' H', i ≤ xs.length → Pv i σ' H' → SqL K H' a xs)
    (hs : ∀ i x σ' H', xs[i]? = some x → Pv i σ' H' → g x σ' H' fun σ3 H3 => tc σ3 H3 fun ok H4 => if ok = true then te σ3 H4 fun y H5 => ∃ ys, H5 D = some (.lst ys) ∧ ys.length < sizeLine ∧ Pv (i + 1) σ3 (upd H5 D (.lst (ys ++ [y]))) else Pv (i + 1) σ3 H4)
    (hd : ∀ σ' H', Pv xs.length σ' H' → Q (.ref D) H') :
    CompRun js g tc te σ Q (Itl K a) H D := by
  refine ⟨fun i m σ H => m = xs.length - i ∧ i ≤ xs.length ∧ Pv i σ H, ⟨xs.length, by simp, Nat.zero_le _, h0⟩, ?_⟩
  rintro i m σ' H' ⟨rfl, hi, p⟩
  have q := hl i σ' H' hi p
  by_cases hlt : i < xs.length
  · refine .inr ⟨⟨xs, xs[i], q, by simp [hlt]⟩, Pv (i + 1), fun σ2 H2 p' => ⟨xs.length - (i + 1), by omega, rfl, hlt, p'⟩, fun x H2 y => ?_⟩
    obtain ⟨e, y⟩ := y
    subst e
    exact hs i x σ' _ (y xs q) p
  · have e : i = xs.length := by omega
    subst e
    exact .inl ⟨⟨xs, q, Nat.le_refl _⟩, hd σ' H' p⟩
end
end L2

set_option Elab.async false
set_option linter.all false
set_option maxRecDepth 100000
set_option maxHeartbeats 1000000
/-! Own exceptions below ValueError, with an __init__ of their own: made, raised, passed on, caught. -/
namespace L2
open PySem PySem.Spec PyProof.Rows

noncomputable abbrev bmV : List Value := [.type "ValueError", .type "Exception", .type "BaseException", .type "object"]
noncomputable def excE (a C : Addr) (dx : Option Addr) : HO := .ext fun h => ∃ t : Addr, h.get? a = some (excRec C dx (.ref t) .none)
noncomputable def excD (d : Addr) (fs : List (Str × V)) : HO := .ext fun h => ∃ mA, h.Ns1 d mA ∧ (∀ f, RelO (fs.lookup f) (mA f)) ∧ PySem.Within mA (fs.map (·.1))
section
variable {P : Program} {w : World} {H : Hp} {h : Heap} {a d C : Addr} {dx : Option Addr} {t : Addr} {fs : List (Str × V)}
theorem excE_ok (e : h.get? a = some (excRec C dx (.ref t) .none)) : ObjOk P w H h a (excE a C dx) := ⟨⟨t, e⟩, ⟨_, e⟩, fun _ _ ⟨t', e'⟩ k => ⟨t', k _ e'⟩⟩
theorem excE_at (ok : HOk P w H h) (e : H a = some (excE a C dx)) : ∃ t : Addr, h.get? a = some (excRec C dx (.ref t) .none) := (ok a _ e).1
theorem excD_ok {mA : Str → Option Value} (n : h.Ns1 d mA) (r : ∀ f, RelO (fs.lookup f) (mA f)) (wi : PySem.Within mA (fs.map (·.1))) : ObjOk P w H h d (excD d fs) := by
  refine ⟨⟨mA, n, r, wi⟩, ?_, fun h1 h2 ⟨m, n1, r1, w1⟩ k => ⟨m, n1.at k, r1, w1⟩⟩
  obtain ⟨o, _, _, e, _⟩ := n
  exact ⟨o, e⟩
theorem excD_at (ok : HOk P w H h) (e : H d = some (excD d fs)) : ∃ mA, h.Ns1 d mA ∧ (∀ f, RelO (fs.lookup f) (mA f)) ∧ PySem.Within mA (fs.map (·.1)) := (ok d _ e).1
theorem upd_id {o : HO} (e : H a = some o) : upd H a o = H := by
  funext b
  by_cases hb : b = a
  · rw [hb, upd_same, e]
  · rw [upd_ne hb]
end

theorem Inv.tracked_new {X : Cx} {pins : List (Addr × Obj)} {σ : St} {H : Hp} {s : Shared} {h' : Heap} {a : Addr} {o : HO} {t' : Nat} (I : Inv X pins σ H s) (kp : ∀ b u, b ≠ a → s.heap.get? b = some u → h'.get? b = some u) (hf : H a = none)
    (hs : X.s₀.heap.objs.size ≤ a) (hL : a ≠ X.env.locals) (hc : ∀ x c, X.env.cells.lookup x = some c → c ≠ a) (hp : ∀ p ∈ X.pn ++ pins, p.1 ≠ a) (new : ObjOk X.prog X.w (upd H a o) h' a o) : Inv X pins σ (upd H a o) { s with heap := h', toks := t' } := by
  have na : ∀ b u, H b = some u → b ≠ a := fun b u e => ne_of_none e hf
  refine I.step (g' := s.gens) (d' := s.drawn) (ch := [a]) (fun b hb => ?_) (fun b u _ _ hb e _ => kp b u (fun z => hb (by simp [z])) e) (fun b u _ _ hb e _ => ⟨u.slots, kp b u (fun z => hb (by simp [z])) e⟩) (fun b u hb _ n => by rw [upd_ne fun z => hb (by simp [z])]; exact n)
    (fun b u hb e => ⟨u, kp b u (fun z => hb (by simp [z])) e⟩) (fun b xs e => by rw [upd_ne (na b _ e)]; exact e) (fun b u xs e => by rw [upd_ne (na b _ e)]; exact e) (fun b ps e => ⟨#[], by rw [upd_ne (na b _ e), e]; simp⟩) (fun m hm => ?_) (fun b u e => ?_) I.bare
  · have e : b = a := by simpa using hb
    subst e
    exact ⟨.inr hs, hL, hc, hp⟩
  · obtain ⟨ob, es, ep, ho, r⟩ := hm
    exact ⟨ob, es, ep, kp _ ob (Ne.symm hL) ho, r⟩
  · by_cases hb : b = a
    · subst hb
      rw [upd_same] at e
      cases e
      exact new
    · rw [upd_ne hb] at e
      refine (I.hok b u e).stay (fun c v hc' q => kp c v ?_ q) (fun c q => by rw [upd_ne (na c _ q)]; exact q) fun c xs q => by rw [upd_ne (na c _ q)]; exact q
      rcases hc' with z | z
      · rw [z]; exact hb
      · exact na c _ z

/-! ### what of the text such a class must have -/
structure ExcC (K : PySem.W.Frag) (C M fI : Addr) : Prop where
  obj : ∃ (nm q : Str) (N : Addr) (bs : List Value) (sn : List Str) (sub : List Value) (ab : Bool) (col : Option Bool) (dd : Option Addr) (k0 k1 k2 k3 k5 : Option Value),
    K.lookup C = some (excClassObj nm q C N bs (.ref M :: bmV) true sn sub ab col dd k0 k1 k2 k3 k5 "ValueError.__new__") ∧ PySem.W.nsOkIn K N = true ∧ PySem.W.nsIn K N "__init__" = some (some (.ref fI))
  tail : PySem.W.tailIn K bmV (.ref M :: bmV) = true
  fn : PySem.W.isFn K (.ref fI) = true
  kp : PySem.W.keepIn K (.ref C) = true
  sa : PySem.W.findIn K (.ref C) "__setattr__" = some (some (.builtin "object.__setattr__"))
theorem ns_some_in {K : PySem.W.Frag} {h : Heap} {N : Addr} {m : Str → Option Value} {n : Str} {v : Value} (X : K.In h) (G : h.Ns N m) (e : PySem.W.nsIn K N n = some (some v)) : m n = some v := by
  obtain ⟨o, es, ep, ho, hd, _, hf⟩ := G
  unfold PySem.W.nsIn at e
  split at e
  · rename_i c d es' n' sl q
    have z := X _ _ q
    rw [ho] at z
    cases z
    cases hd
    split at e
    · rename_i en he
      cases e
      rw [← hf]
      unfold nsFind findBy
      rw [← Array.find?_toList, he]
      rfl
    · split at e <;> cases e
  · cases e

/-! ### made -/
section
variable {prog : Program} {w : World} {A : Around} {E : Value → Shared → Prop} {h : Heap} {g : Array GenState} {d : Drawn} {t : Nat} {os : OsState}
variable {nm q : Str} {C N : Addr} {bs bm : List Value} {hdct : Bool} {sn : List Str} {sub : List Value} {ab : Bool} {col : Option Bool} {dd : Option Addr} {k0 k1 k2 k3 k5 : Option Value}
theorem type_call_own {mN : Str → Option Value} {args : List Value} {fI : Addr} {oI : Obj} {Q : Fin → Shared → Prop} (T : OwnTail h bmV bm)
    (hC : h.get? C = some (excClassObj nm q C N bs bm hdct sn sub ab col dd k0 k1 k2 k3 k5 "ValueError.__new__")) (hn : h.Ns N mN) (hi : mN "__init__" = some (.ref fI)) (hfI : h.get? fI = some oI) (hfc : oI.cls = .type "function")
    (hq : wpAny (model prog w) A (call (.ref fI) (.ref (h.objs.size + 1) :: args)) (fun r s' => r = .none ∧ Q (.done (.ret (.ref (h.objs.size + 1)))) s') E
      ⟨(h.push { cls := .type "tuple", data := .seq args.toArray }).push (excRec C none (.ref h.objs.size) .none), g, d, t, os⟩) (hz : args.length ≤ sizeLine) :
    wpAny (model prog w) A (Builtin.«type.__call__» ⟨.ref C :: args, []⟩) Q E ⟨h, g, d, t, os⟩ := by
  have F := PySem.F.excBase_ValueError
  repeat (first | with_reducible refine wpAny_loadPart_at hC ?_ | with_reducible refine wpAny_madeBy_exc hC ?_ | wp_step)
  refine codeAny_call_builtin_code (Code.quiet_builtin _ F.quiet) (wpAny_check_new_subT F T hC ?_)
  refine codeAny_exc_new_subT F T hC ?_ hz
  show wpAny _ _ _ _ _ _
  have kp : ∀ b o, h.get? b = some o → ((h.push { cls := .type "tuple", data := .seq args.toArray }).push (excRec C none (.ref h.objs.size) .none)).get? b = some o :=
    fun b o e => Heap.get?_push_of_some _ (Heap.get?_push_of_some _ e)
  have hC1 := kp _ _ hC
  have hfI1 := kp _ _ hfI
  have hn1 : ((h.push { cls := .type "tuple", data := .seq args.toArray }).push (excRec C none (.ref h.objs.size) .none)).Ns N mN := hn.keeps kp
  have hget : ((h.push { cls := .type "tuple", data := .seq args.toArray }).push (excRec C none (.ref h.objs.size) .none)).get? (h.objs.size + 1) = some (excRec C none (.ref h.objs.size) .none) := by heap_get
  have hcC : (Value.ref C :: bm).contains (.ref C) = true := by simp
  have T1 := T.keeps kp
  unfold isInstance
  repeat (first | with_reducible refine wpAny_loadPart_at hget ?_ | (with_reducible refine wpAny_isSubtype_exc hC1 ?_; rw [hcC]) | wp_step)
  show wpAny _ _ (typeLookup (.ref C) _) _ _ _
  refine wpAny_typeLookup_tail hC1 hn1 T1 F.mroIs F.init.lookup ?_
  rw [hi]
  refine wpAny_holding (wpAny_bind ?_)
  unfold bindSpecial
  refine wpAny_bind (wpAny_typeOf (T := "function") ⟨_, hfI1, hfc⟩ ?_)
  rw [if_pos (by decide)]
  refine wpAny_pure (wpAny_bind (wpAny_mono hq (fun r s' hr => ?_) fun _ _ x => x))
  obtain ⟨rfl, hQ⟩ := hr
  wp_walk
  exact hQ
theorem call_own {mN : Str → Option Value} {args : List Value} {fI : Addr} {oI : Obj} {Q : Value → Shared → Prop} (T : OwnTail h bmV bm)
    (hC : h.get? C = some (excClassObj nm q C N bs bm hdct sn sub ab col dd k0 k1 k2 k3 k5 "ValueError.__new__")) (hn : h.Ns N mN) (hi : mN "__init__" = some (.ref fI)) (hfI : h.get? fI = some oI) (hfc : oI.cls = .type "function")
    (hq : wpAny (model prog w) (A.under (.builtin "type.__call__" ⟨.ref C :: args, []⟩)) (call (.ref fI) (.ref (h.objs.size + 1) :: args)) (fun r s' => r = .none ∧ Q (.ref (h.objs.size + 1)) s') E
      ⟨(h.push { cls := .type "tuple", data := .seq args.toArray }).push (excRec C none (.ref h.objs.size) .none), g, d, t, os⟩) (hz : args.length ≤ sizeLine) :
    wpAny (model prog w) A (call (.ref C) args) Q E ⟨h, g, d, t, os⟩ := by
  have f1 := tc_lookup
  have f2 := tc_bind (.ref C)
  have hT : (⟨h, g, d, t, os⟩ : Shared).TypeIs (.ref C) "type" := ⟨_, hC, rfl⟩
  refine wpAny_call (codeAny_of_tree ?_)
  show wpAny _ _ (callAny (.ref C) _) _ _ _
  repeat (any_goals (first | assumption | with_reducible refine wpAny_loadPart_at hC ?_ | wp_step))
  refine ⟨rfl, ?_⟩
  refine codeAny_call_builtin_at (Code.quiet_builtin _ (by decide +kernel)) entry_typeCall (wpAny_check_type_call_sub hC (type_call_own T hC hn hi hfI hfc ?_ hz))
  exact hq
end

noncomputable def tMakeE (C : Addr) (sp : Sp) (E : XK) (t : TA) : TE := fun σ H Q => t σ H fun vs H1 => vs.length ≤ sizeLine ∧ ∀ x, H1 x = none → sp (.ref x :: vs) (upd H1 x (excE x C none)) (fun v H2 => v = .non ∧ Q (.ref x) H2) E
section
variable {X : Cx} {CX : CXT} {k : Nat} {f C Mo : Addr} {fd : FuncData} {ps : List Str} {sp : Sp} {E : XK} {x : Str} {p pos : Pos} {e : Expr} {es : List Expr} {t : TA}
theorem run_makeE {pins : List (Addr × Obj)} {σ : St} {H : Hp} {s : Shared} {Q : VK} {us : List Value} {vs : List V} (M : ExcC X.K C Mo f) (F : FnOk X.prog X.w X.K X.mg X.base CX k f fd ps sp) (hr : Room (k + 1) X.A) (hb : Binds X.K fd ps [])
    (hx : Passes CX X E) (I : Inv X pins σ H s) (r : Vals vs us) (hz : vs.length ≤ sizeLine)
    (hq : ∀ x, H x = none → sp (.ref x :: vs) (upd H x (excE x C none)) (fun v H2 => v = .non ∧ Q (.ref x) H2) E) : wpAny (model X.prog X.w) X.A (call (.ref C) us) (EP X pins σ Q) X.xe s := by
  obtain ⟨nm, q, N, bs, sn, sub, ab, col, dd, k0, k1, k2, k3, k5, lk, nok, ini⟩ := M.obj
  have hK := I.kIn
  have hC := hK _ _ lk
  have T := PySem.W.tail_of_in hK M.tail
  have hns : s.heap.Ns N (s.heap.nsMap N) := .of_isNs (PySem.W.isNs_of_in hK nok)
  have hin := ns_some_in hK hns ini
  have hlf : ∃ oI, s.heap.get? f = some oI ∧ oI.cls = .type "function" := by
    have ty : PySem.W.typeIn X.K (.ref f) = some (.type "function") := beq_iff_eq.mp M.fn
    unfold PySem.W.typeIn at ty
    cases hl : X.K.lookup f with
    | none => simp [hl] at ty
    | some o => exact ⟨o, hK _ _ hl, by simpa [hl] using ty⟩
  obtain ⟨oI, hfI, hfc⟩ := hlf
  have h1 := hq (s.heap.objs.size + 1) (I.hok.fresh (Nat.le_succ _))
  have kp : ∀ b o, s.heap.get? b = some o → ((s.heap.push { cls := .type "tuple", data := .seq us.toArray }).push (excRec C none (.ref s.heap.objs.size) .none)).get? b = some o :=
    fun b o e => Heap.get?_push_of_some _ (Heap.get?_push_of_some _ e)
  have hget : ((s.heap.push { cls := .type "tuple", data := .seq us.toArray }).push (excRec C none (.ref s.heap.objs.size) .none)).get? (s.heap.objs.size + 1) = some (excRec C none (.ref s.heap.objs.size) .none) := by
    have z := Heap.get?_push_size (s.heap.push { cls := .type "tuple", data := .seq us.toArray }) (o := excRec C none (.ref s.heap.objs.size) .none) rfl
    rwa [Heap.size_push] at z
  have I2 : Inv X pins σ (upd H (s.heap.objs.size + 1) (excE (s.heap.objs.size + 1) C none)) { s with heap := (s.heap.push { cls := .type "tuple", data := .seq us.toArray }).push (excRec C none (.ref s.heap.objs.size) .none) } :=
    I.laid (t' := s.toks) kp (Nat.le_succ _) (excE_ok hget)
  have r2 : Vals (V.ref (s.heap.objs.size + 1) :: vs) (Value.ref (s.heap.objs.size + 1) :: us) := .cons rfl r
  have hl : (Value.ref (s.heap.objs.size + 1) :: us).length = ps.length := by rw [← r2.length]; exact F.len _ _ _ _ h1
  have hb2 := hb { s with heap := (s.heap.push { cls := .type "tuple", data := .seq us.toArray }).push (excRec C none (.ref s.heap.objs.size) .none) } (Value.ref (s.heap.objs.size + 1) :: us) I2.kIn (by simpa using hl)
  rw [List.append_nil] at hb2
  obtain ⟨hh, gg, dd', tt, oo⟩ := s
  refine call_own T hC hns hin hfI hfc ?_ (by rw [← r.length]; exact hz)
  refine wpAny_call (codeAny_mono (F.run _ X.stack _ _ ⟨Value.ref (hh.objs.size + 1) :: us, []⟩ (Value.ref (hh.objs.size + 1) :: us) _ _ E (hr.make C us []) (I2.env0.make C us []) hb2 r2 h1) fun r s' hq' => ?_)
  cases r with
  | error e => exact hx pins σ _ _ e s' I2 hq'
  | ok fl =>
    cases fl with
    | ret u =>
      obtain ⟨v, H', I3, rv, ev, q3⟩ := I2.after hq'
      subst ev
      exact ⟨rv, ⟨V.ref (hh.objs.size + 1), H', I3, rfl, q3⟩⟩
    | next => exact False.elim hq'
    | brk => exact False.elim hq'
    | cont => exact False.elim hq'
theorem pe_makeE (M : ExcC X.K C Mo f) (F : FnOk X.prog X.w X.K X.mg X.base CX k f fd ps sp) (hr : Room (k + 1) X.A) (hg : Gl X x) (hm : X.mg x = some (.ref C)) (hb : Binds X.K fd ps []) (hx : Passes CX X E)
    (ha : PA X (e :: es) t) (hdb : (x == ("__debug__" : Str)) = false := by decide) (he : starEach (e :: es) X.env = (false, eval e X.env) :: starEach es X.env := by rfl) (hpl : (backTo pos (starEach es X.env)).any (·.1) = false := by rfl) :
    PE X (.Call (.Name x p) (e :: es) [] pos) (tMakeE C sp E t) := by
  intro pins s σ H Q I h
  refine wpAny_Call_Name_kw (ld_glob I hg hm ?_ hdb)
  refine PySem.W.callWith_K (h₀ := X.base) I.ok.mod.kin M.kp (thn (ha pos pins s σ H _ I h) fun us s1 zz => ?_) he hpl
  obtain ⟨vs, H1, I1, r, z, q⟩ := zz
  refine ⟨I1.kIn, ?_⟩
  exact run_makeE M F hr hb hx I1 r z q
end

/-! ### Base.__init__(self, ..) -/
theorem base_init {X : Cx} {A : Around} {E : Value → Shared → Prop} {C Mo f x : Addr} {dx : Option Addr} {pins : List (Addr × Obj)} {σ : St} {H : Hp} {s : Shared} {Q : Value → Shared → Prop} {us : List Value} (I : Inv X pins σ H s) (M : ExcC X.K C Mo f)
    (hH : H x = some (excE x C dx)) (hz : us.length ≤ sizeLine) (hq : ∀ s', Inv X pins σ H s' → Q .none s') : wpAny (model X.prog X.w) A (call (.builtin "ValueError.__init__") (.ref x :: us)) Q E s := by
  obtain ⟨nm, q, N, bs, sn, sub, ab, col, dd, k0, k1, k2, k3, k5, lk, nok, ini⟩ := M.obj
  have hK := I.kIn
  have hC := hK _ _ lk
  have T := PySem.W.tail_of_in hK M.tail
  have F := PySem.F.excBase_ValueError
  obtain ⟨t, hget⟩ := excE_at I.hok hH
  have fin : ∀ (v : Addr) (tk : Nat), Inv X pins σ H { s with heap := (s.heap.push { cls := .type "tuple", data := .seq us.toArray }).update x (Obj.mapFields (·.setIfInBounds 0 (.ref v))), toks := tk } := fun v tk => by
    have e1 : (s.heap.push { cls := .type "tuple", data := .seq us.toArray }).get? x = some (excRec C dx (.ref t) .none) := Heap.get?_push_of_some _ hget
    have e2 : ((s.heap.push { cls := .type "tuple", data := .seq us.toArray }).update x (Obj.mapFields (·.setIfInBounds 0 (.ref v)))).get? x = some (excRec C dx (.ref v) .none) := Heap.get?_update_self _ e1 rfl
    have z := I.write (x := x) (e := x) (o := excE x C dx) (h' := (s.heap.push { cls := .type "tuple", data := .seq us.toArray }).update x (Obj.mapFields (·.setIfInBounds 0 (.ref v)))) (t' := tk) (by rw [hH]; exact True.intro) (.inl rfl)
      (fun b u hb e => (Heap.get?_update_other _ _ (Ne.symm hb)).trans (Heap.get?_push_of_some _ e)) ⟨_, e2⟩ (excE_ok e2)
    rwa [upd_id hH] at z
  obtain ⟨hh, gg, dd', tt, oo⟩ := s
  refine wpAny_call (codeAny_call_builtin F.init.plain F.initEntry (wpAny_check_init_subT F T hC hget rfl ?_))
  wp_walk
  exact hq _ (fin _ _)
end L2

set_option Elab.async false
set_option linter.all false
set_option maxRecDepth 100000
set_option maxHeartbeats 1000000
namespace L2
open PySem PySem.Spec PyProof.Rows Builtin Builtin.ObjectAttr

/-! ### Base.__init__(self, ..) as an expression -/
structure BaseK (K : PySem.W.Frag) (Mo : Addr) : Prop where
  ty : PySem.W.typeIn K (.ref Mo) = some (.type "type")
  ga : PySem.W.specialIn K (.ref Mo) "__getattribute__" = some (some (.builtin "type.__getattribute__"))
  gt : PySem.W.findIn K (.type "type") "__getattribute__" = some (some (.builtin "type.__getattribute__"))
  op : PySem.W.nsIn K cStatics "thirdparty.any" = some none
  fc : PySem.W.findCls K (.ref Mo) (.type "type") "__init__" = some (.val (.builtin "ValueError.__init__"))
  si : PySem.W.subIn K (.type "type") (.type "type") = some true
noncomputable def tBase (K : PySem.W.Frag) (t : TA) : TE := fun σ H Q => t σ H fun vs H1 => ∃ x rest C Mo f dx, vs = .ref x :: rest ∧ H1 x = some (excE x C dx) ∧ ExcC K C Mo f ∧ rest.length ≤ sizeLine ∧ Q .non H1
theorem pe_base {X : Cx} {pl : Sem Bool} {x : Str} {p apos pos : Pos} {e : Expr} {es : List Expr} {t : TA} {Mo : Addr} (B : BaseK X.K Mo) (hg : Gl X x) (hm : X.mg x = some (.ref Mo)) (ha : PA X (e :: es) t) (hdb : (x == ("__debug__" : Str)) = false := by decide)
    (hst : starEach (e :: es) X.env = (false, eval e X.env) :: starEach es X.env := by rfl) (hpl : (backTo pos (starEach es X.env)).any (·.1) = false := by rfl)
    (ht : eval (.Call (.Attribute (.Name x p) "__init__" apos) (e :: es) [] pos) X.env = (do
      let ov ← eval (.Name x p) X.env
      standAt apos.atName
      let (f, first) ← holding [ov] (getMethod ov "__init__" pl)
      callWith pos f first (backTo pos (starEach (e :: es) X.env)) (backToKw pos (keywordEach [] X.env))) := by rfl) :
    PE X (.Call (.Attribute (.Name x p) "__init__" apos) (e :: es) [] pos) (tBase X.K t) := by
  intro pins s σ H Q I h
  refine PySem.W.methodCall_KW (pl := pl) (ld_glob I hg hm ?_ hdb) ht
  unfold getMethod
  refine wpAny_bind ((PySem.W.looks_specialIn I.kIn B.ga).here ?_)
  dsimp only
  rw [if_pos (by decide +kernel)]
  refine wpAny_bind (PySem.W.cls_open I.kIn (PySem.W.looks_opaque I.kIn B.op) (PySem.W.looks_typeIn I.kIn B.ty) B.gt (PySem.W.looks_hook I.kIn rfl) B.si B.fc ?_)
  refine wpAny_pure ?_
  show wpAny _ _ (handedOut (.builtin "ValueError.__init__")) _ _ _
  rw [PySem.W.handedOut_of (by decide +kernel)]
  refine wpAny_pure (wpAny_pure ?_)
  refine PyProof.Rows.callWith_builtin1 (thn (ha pos pins _ σ H _ (I.tok _) h) fun us s1 zz => ?_) hst hpl
  obtain ⟨vs, H1, I1, r1, y, rest, C, Mo', f, dx, e1, hH, M, hz, q⟩ := zz
  subst e1
  cases r1 with
  | cons ra rb =>
    cases ra
    exact base_init I1 M hH (by rw [← rb.length]; exact hz) fun s2 I2 => ⟨.non, H1, I2, rfl, q⟩

/-! ### e.f = value, e an exception -/
theorem setattr_exc {X : Cx} {A : Around} {E : Value → Shared → Prop} {C Mo f0 x : Addr} {dx : Option Addr} {pins : List (Addr × Obj)} {σ : St} {H : Hp} {s : Shared} {Q : Unit → Shared → Prop} {nm : Str} {y : V} {u : Value} (I : Inv X pins σ H s) (M : ExcC X.K C Mo f0)
    (na : PySem.W.findIn X.K (.ref C) nm = some none) (hH : H x = some (excE x C none)) (ru : RelV y u)
    (hq : ∀ d s', H d = none → d ≠ x → Inv X pins σ (upd (upd H x (excE x C (some d))) d (excD d [(nm, y)])) s' → Q () s') : wpAny (model X.prog X.w) A (setAttr (.ref x) nm u) Q E s := by
  obtain ⟨cnm, q, N, bs, sn, sub, ab, col, dd, k0, k1, k2, k3, k5, lk, nok, ini⟩ := M.obj
  have hK := I.kIn
  have hC := hK _ _ lk
  have SF := PySem.F.store_object
  obtain ⟨t, hget⟩ := excE_at I.hok hH
  have LT : PySem.W.Looks (model X.prog X.w) s.heap (typeOf (.ref x)) (.ref C) := (PySem.W.Looks.ld hget).andThen .now
  have hcl : PySem.W.clsIn X.K C = some { name := cnm, bases := bs, mro := .ref C :: .ref Mo :: bmV, ns := N, qualname := q, hasDict := true, slotNames := sn, subclasses := sub, abstract := ab, collection := col, hasDel := false } := by
    unfold PySem.W.clsIn
    rw [lk]
  have LM : PySem.W.Looks (model X.prog X.w) s.heap (mroOf (.ref C)) (.ref C :: .ref Mo :: bmV) := (PySem.W.looks_clsIn hK hcl).andThen .now
  have sub' : PySem.W.Looks (model X.prog X.w) s.heap (isInstance (.ref x) (.type "object")) true := LT.andThen (PySem.W.looks_mroIn hK (by unfold PySem.W.mroIn; rw [hcl]; rfl))
  have hxs : x ≠ s.heap.objs.size := Nat.ne_of_lt (Heap.lt_size hget)
  have fin : ∀ (h' : Heap) (tk : Nat), h'.Ns1 s.heap.objs.size (fun z => if z = nm then some u else none) →
      Heap.SameBut s.heap.objs.size ((s.heap.push { cls := .type "dict", data := .dict #[] }).update x fun o => { cls := o.cls, dict := some s.heap.objs.size, data := o.data, slots := o.slots }) h' → Q () { s with heap := h', toks := tk } := fun h' tk n1 sb => by
    refine hq s.heap.objs.size _ I.fresh (Ne.symm hxs) ?_
    have e1 : (s.heap.push { cls := .type "dict", data := .dict #[] }).get? x = some (excRec C none (.ref t) .none) := Heap.get?_push_of_some _ hget
    have e2 : ((s.heap.push { cls := .type "dict", data := .dict #[] }).update x fun o => { cls := o.cls, dict := some s.heap.objs.size, data := o.data, slots := o.slots }).get? x = some (excRec C (some s.heap.objs.size) (.ref t) .none) := Heap.get?_update_self _ e1 rfl
    have I1 := I.write (x := x) (e := x) (o := excE x C (some s.heap.objs.size)) (h' := (s.heap.push { cls := .type "dict", data := .dict #[] }).update x fun o => { cls := o.cls, dict := some s.heap.objs.size, data := o.data, slots := o.slots }) (t' := s.toks)
      (by rw [hH]; exact True.intro) (.inl rfl) (fun b v hb e => (Heap.get?_update_other _ _ (Ne.symm hb)).trans (Heap.get?_push_of_some _ e)) ⟨_, e2⟩ (excE_ok e2)
    have e3 : ((s.heap.push { cls := .type "dict", data := .dict #[] }).update x fun o => { cls := o.cls, dict := some s.heap.objs.size, data := o.data, slots := o.slots }).objs.size = s.heap.objs.size + 1 := by
      rw [Heap.size_after_update, Heap.size_push]
    -- the dict was laid with the exception's change: it is tracked now
    have hf : upd H x (excE x C (some s.heap.objs.size)) s.heap.objs.size = none := by rw [upd_ne (Ne.symm hxs)]; exact I.fresh
    have hd0 : X.s₀.heap.objs.size ≤ s.heap.objs.size := I.sz
    have kp : ∀ b o, b ≠ s.heap.objs.size → ((s.heap.push { cls := .type "dict", data := .dict #[] }).update x fun o => { cls := o.cls, dict := some s.heap.objs.size, data := o.data, slots := o.slots }).get? b = some o → h'.get? b = some o := fun b o hb e => (sb.2 b hb).trans e
    have new : ObjOk X.prog X.w (upd (upd H x (excE x C (some s.heap.objs.size))) s.heap.objs.size (excD s.heap.objs.size [(nm, y)])) h' s.heap.objs.size (excD s.heap.objs.size [(nm, y)]) := by
      refine excD_ok n1 (fun z => ?_) (fun z hz => ?_)
      · show RelO (List.lookup z [(nm, y)]) (if z = nm then some u else none)
        rw [List.lookup_cons]
        by_cases e : z = nm
        · subst e
          rw [beq_self_eq_true, if_pos rfl]
          exact ru
        · rw [show (z == nm) = false from beq_eq_false_iff_ne.mpr e, if_neg e]
          exact True.intro
      · by_cases e : z = nm
        · subst e; exact List.mem_cons_self
        · exact absurd (if_neg e) hz
    exact I1.tracked_new (t' := tk) kp hf hd0 (fun z => by
      have := I.lt
      rw [z] at this
      exact Nat.lt_irrefl _ this) (fun y' c e z => by
      obtain ⟨v, o, ho, _⟩ := I.cell y' c e
      have := Heap.lt_size ho
      rw [z] at this
      exact Nat.lt_irrefl _ this) (fun p hp z => by
      have := Heap.lt_size (I.pin p hp).1
      rw [z] at this
      exact Nat.lt_irrefl _ this) new
  obtain ⟨hh, gg, dd', tt, oo⟩ := s
  unfold setAttr
  refine wpAny_bind (wpAny_mkText (wpAny_bind ?_))
  unfold callSpecial? specialOf
  refine wpAny_bind (wpAny_bind (LT.at ((PySem.W.looks_findIn hK M.sa).at (wpAny_holding (wpAny_bind ?_)))))
  rw [SF.slot.bind]
  refine wpAny_pure (wpAny_bind (wpAny_call (codeAny_call_builtin SF.slot.plain SF.entry (@PySem.W.check_slot (model X.prog X.w) _ _ ⟨hh, gg, dd', tt + 1, oo⟩ "object.__setattr__" "object" "__setattr__" (.ref x) [.str nm tt, u] [] _ SF.kind SF.split sub' (SF.args (.ref x) (.str nm tt) u) ?_))))
  show wpAny _ A.in1 (Builtin.«object.__setattr__» ⟨[.ref x, .str nm tt, u], []⟩) _ _ _
  rw [PySem.W.osa_eq, refuse_eq]
  refine wpAny_bind (wpAny_bind (LT.at (wpAny_bind (LM.at ?_))))
  rw [refuseLoop_ref, refuseLoop_ref, PySem.F.store_ValueError.passes]
  refine wpAny_pure (wpAny_bind (LT.at (wpAny_bind ((PySem.W.looks_findIn hK na).at (wpAny_bind (wpAny_pure ?_))))))
  refine wpAny_bind (wpAny_pure (wpAny_bind (wpAny_bind (wpAny_loadPart (o := excRec C none (.ref t) .none) hget (wpAny_bind ((PySem.W.looks_clsIn hK hcl).at ?_))))))
  have hx₁ : (hh.push { cls := .type "dict", data := .dict #[] }).get? x = some (excRec C none (.ref t) .none) := Heap.get?_push_of_some _ hget
  refine wpAny_bind (wpAny_alloc' ?_)
  refine wpAny_bind (wpAny_update' hx₁ ?_)
  refine wpAny_pure ?_
  have hgd : ((hh.push { cls := .type "dict", data := .dict #[] }).update x fun o => { cls := o.cls, dict := some hh.objs.size, data := o.data, slots := o.slots }).get? hh.objs.size = some { cls := .type "dict", data := .dict #[] } :=
    (Heap.get?_update_ne _ _ _ _ hxs.symm).trans (Heap.get?_push_at rfl rfl)
  have hnd : ((hh.push { cls := .type "dict", data := .dict #[] }).update x fun o => { cls := o.cls, dict := some hh.objs.size, data := o.data, slots := o.slots }).Ns hh.objs.size (fun _ => none) :=
    ⟨_, #[], _, hgd, rfl, fun e he => absurd he (by simp), fun _ => rfl⟩
  show wpAny _ _ (storeInDict hh.objs.size (.str nm tt) nm u) _ _ _
  unfold storeInDict newKeyGuard
  refine wpAny_bind (wpAny_pure (wpAny_bind (wpAny_nsSet1 (Heap.Ns1.of_empty hnd) fun h' hn' hs => ?_)))
  obtain ⟨oD, esD, epD, hoD, hdD, hcD⟩ := hn'.count (Within.cons nm u Within.nil)
  refine wpAny_bind (wpAny_lookBehind hoD (by rw [hdD]; exact pastItsLine_dict (Nat.le_trans hcD (by rw [List.length_cons, List.length_nil, sizeLine_eq]; omega))) ?_)
  wp_walk
  exact fin _ _ hn' hs

noncomputable def sFldE (K : PySem.W.Frag) (ta tv : TE) (f : Str) : TS := fun D σ H => tv σ H fun y H1 => ta σ H1 fun x H2 => ∃ a C Mo f0, x = .ref a ∧ H2 a = some (excE a C none) ∧ ExcC K C Mo f0 ∧ PySem.W.findIn K (.ref C) f = some none ∧
  ∀ d, H2 d = none → d ≠ a → D.nx σ (upd (upd H2 a (excE a C (some d))) d (excD d [(f, y)]))
theorem ps_fldE {X : Cx} {o value : Expr} {f : Str} {pos pos' : Pos} {ta tv : TE} (ha : PE X o ta) (hv : PE X value tv) (hs : swapsWith value (some (.Attribute o f pos')) pos.line X.env = pure false) : PS X (.Assign [.Attribute o f pos'] value pos) (sFldE X.K ta tv f) := by
  intro pins s σ H D I h
  refine plainObj_wpAny_Assign_Attribute (thn (hv pins s σ H _ I h) fun u s1 zz => L2.el5 zz fun y H1 I1 ry q => thn (ha pins s1 σ H1 _ I1 q) fun ov s2 zz => ?_) hs
  obtain ⟨x, H2, I2, rx, a, C, Mo, f0, ex, ea, M, na, q2⟩ := zz
  subst ex
  obtain rfl : ov = Value.ref a := rx
  exact setattr_exc (dx := none) I2 M na ea ry fun d s3 hd hda I3 => ⟨σ, _, I3, q2 d hd hda⟩
end L2

set_option Elab.async false
set_option linter.all false
set_option maxRecDepth 100000
set_option maxHeartbeats 1000000
namespace L2
open PySem PySem.Spec PyProof.Rows

/-! ### in flight -/
noncomputable def Flies (h0 h : Heap) (H : Hp) (a C : Addr) (dx : Option Addr) : Prop :=
  h0.get? a = none ∧ H a = none ∧ ∃ t tb, h.get? a = some (excRec C dx t tb) ∧
    (tb = .none ∨ ∃ T oT ts, tb = .ref T ∧ T ≠ a ∧ h0.get? T = none ∧ H T = none ∧ h.get? T = some oT ∧ oT.data = .fields ts ∧ ts[3]? = some .none)
noncomputable def NotedAt (h0 h : Heap) (H : Hp) (a C : Addr) (dx : Option Addr) (L : Addr) : Prop :=
  h0.get? a = none ∧ H a = none ∧ ∃ t T oT ts, h.get? a = some (excRec C dx t (.ref T)) ∧ T ≠ a ∧ h0.get? T = none ∧ H T = none ∧ h.get? T = some oT ∧ oT.data = .fields ts ∧ ts[3]? = some (rawInt L)
noncomputable def KeptBut (fs : List Addr) (h0 h h' : Heap) (H : Hp) : Prop :=
  (∀ b o, (H b ≠ none ∨ h0.get? b ≠ none) → b ∉ fs → h.get? b = some o → h'.get? b = some o) ∧ ∀ b o, (H b ≠ none ∨ h0.get? b ≠ none) → h.get? b = some o → ∃ sl, h'.get? b = some { o with slots := sl }
theorem KeptBut.trans {fs : List Addr} {h0 h1 h2 h3 : Heap} {H : Hp} (x : KeptBut fs h0 h1 h2 H) (y : KeptBut fs h0 h2 h3 H) : KeptBut fs h0 h1 h3 H :=
  ⟨fun b o z hb e => y.1 b o z hb (x.1 b o z hb e), fun b o z e => by
    obtain ⟨_, e1⟩ := x.2 b o z e
    obtain ⟨sl, e2⟩ := y.2 b _ z e1
    exact ⟨sl, e2⟩⟩
theorem set1 (C : Addr) (dx : Option Addr) (t tb v : Value) : Obj.mapFields (·.setIfInBounds 1 v) (excRec C dx t tb) = excRec C dx t v := by simp [Obj.mapFields]

section
variable {M : Model} {A : Around} {E : Value → Shared → Prop} {s : Shared} {base h0 : Heap} {H : Hp} {env : Env} {outer : List Env} {L a C : Addr} {dx : Option Addr}
theorem entry_exc {t tb head : Value} {hadNext : Bool} {Q : Unit → Shared → Prop} (hfr : A.frames = some (env :: outer)) (hl : s.heap.FunFrames base (env :: outer)) (hf : env.frame = some L)
    (he : s.heap.get? a = some (excRec C dx t tb)) (h0a : h0.get? a = none) (hHa : H a = none) (hth : ∀ b o, h0.get? b = some o → ∃ o', s.heap.get? b = some o') (hfresh : ∀ b, s.heap.objs.size ≤ b → H b = none)
    (hq : ∀ h', NotedAt h0 h' H a C dx L → KeptBut (frs (env :: outer)) h0 s.heap h' H → Q () { s with heap := h' }) :
    wpAny M A (do let fr ← frameOf env; let pl ← entryPlaceOf L hadNext; let b ← EntryCells.newEntry head fr .none (rawInt L) .none pl; setField (.ref a) 1 b) Q E s := by
  have hna : a ∉ frs (env :: outer) := fun hm => by
    obtain ⟨_, o, ho, hnf⟩ := hl.mem hm
    rw [he] at ho
    cases ho
    exact hnf _ rfl
  refine wpAny_bind (wpAny_frameOf_fun hfr hl hf fun h₁ hs₁ => ?_)
  refine wpAny_bind (wpAny_entryPlaceOf fun pl hpl => ?_)
  unfold EntryCells.newEntry newFields
  refine wpAny_bind (wpAny_newObj_type ?_ (hpl.sizeOk5 _ _ _ _ _))
  have he1 : h₁.get? a = some (excRec C dx t tb) := (hs₁.2.1 a hna).trans he
  have he2 := Heap.get?_push_of_some (h := h₁) { cls := .type "traceback", dict := none, data := .fields ([head, .ref L, .none, rawInt L, .none] ++ (if pl.isEmpty then List.replicate 6 Value.none else pl)).toArray } he1
  refine wpAny_setField he2 rfl (by simp) ?_
  have hTa : h₁.objs.size ≠ a := Nat.ne_of_gt (Heap.lt_size he1)
  have he3 := (Heap.get?_update_self (Obj.mapFields (·.setIfInBounds 1 (Value.ref h₁.objs.size))) he2 rfl).trans (congrArg some (set1 C dx t tb (.ref h₁.objs.size)))
  have hT3 := (Heap.get?_update_other (h₁.push { cls := .type "traceback", dict := none, data := .fields ([head, .ref L, .none, rawInt L, .none] ++ (if pl.isEmpty then List.replicate 6 Value.none else pl)).toArray })
    (Obj.mapFields (·.setIfInBounds 1 (Value.ref h₁.objs.size))) (Ne.symm hTa)).trans (Heap.get?_push_size h₁ rfl)
  have kb : ∀ b o, b ≠ a → h₁.get? b = some o → ((h₁.push { cls := .type "traceback", dict := none, data := .fields ([head, .ref L, .none, rawInt L, .none] ++ (if pl.isEmpty then List.replicate 6 Value.none else pl)).toArray }).update a (Obj.mapFields (·.setIfInBounds 1 (Value.ref h₁.objs.size)))).get? b = some o :=
    fun b o hb e => (Heap.get?_update_other _ _ (Ne.symm hb)).trans (Heap.get?_push_of_some _ e)
  have ne : ∀ b, (H b ≠ none ∨ h0.get? b ≠ none) → b ≠ a := fun b z e => by
    subst e
    exact z.elim (fun q => q hHa) fun q => q h0a
  refine hq _ ⟨h0a, hHa, t, h₁.objs.size, _, _, he3, hTa, (by
    cases q : h0.get? h₁.objs.size with
    | none => rfl
    | some o =>
      obtain ⟨o', e'⟩ := hth _ o q
      exact absurd (Heap.lt_size e') (by rw [hs₁.1]; exact Nat.lt_irrefl _)), hfresh _ (by rw [hs₁.1]; exact Nat.le_refl _), hT3, rfl, by simp⟩ ⟨fun b o z hb e => ?_, fun b o z e => ?_⟩
  · exact kb b o (ne b z) ((hs₁.2.1 b hb).trans e)
  · obtain ⟨sl, e1⟩ := hs₁.2.2 b o e
    exact ⟨sl, kb b _ (ne b z) e1⟩
theorem note_exc {Q : Unit → Shared → Prop} (hfr : A.frames = some (env :: outer)) (hl : s.heap.FunFrames base (env :: outer)) (hf : env.frame = some L) (fl : Flies h0 s.heap H a C dx) (hth : ∀ b o, h0.get? b = some o → ∃ o', s.heap.get? b = some o') (hfresh : ∀ b, s.heap.objs.size ≤ b → H b = none)
    (hq : ∀ h', NotedAt h0 h' H a C dx L → KeptBut (frs (env :: outer)) h0 s.heap h' H → Q () { s with heap := h' }) : wpAny M A (noteFrame (.ref a) env) Q E s := by
  obtain ⟨f1, f2, t, tb, he, hb⟩ := fl
  unfold noteFrame
  simp only [hf]
  rcases hb with rfl | ⟨T, oT, ts, rfl, hTa, hT0, hTH, hT, hd, h3⟩
  · refine wpAny_bind (wpAny_field he rfl (x := .none) rfl ?_)
    rw [if_neg (by decide)]
    exact entry_exc hfr hl hf he f1 f2 hth hfresh hq
  · refine wpAny_bind (wpAny_field he rfl (x := .ref T) rfl ?_)
    rw [if_pos (show (Value.ref T != Value.none) = true from by simp)]
    refine wpAny_bind (wpAny_field hT hd h3 ?_)
    rw [if_neg (show ¬ ((Value.none == rawInt L) = true) from by simp [rawInt])]
    refine wpAny_bind (wpAny_setField hT hd (Array.getElem?_eq_some_iff.mp h3).1 ?_)
    have other : ∀ b, b ≠ T → (s.heap.update T (Obj.mapFields (·.setIfInBounds 3 Value.none))).get? b = s.heap.get? b := fun b hb => Heap.get?_update_other _ _ (Ne.symm hb)
    have noT : ∀ b o, s.heap.get? b = some o → (∀ vs, o.data ≠ .fields vs) → b ≠ T := fun b o e hn q => by
      rw [q, hT] at e
      cases e
      exact hn ts hd
    have neT : ∀ b, (H b ≠ none ∨ h0.get? b ≠ none) → b ≠ T := fun b z e => by
      subst e
      exact z.elim (fun q => q hTH) fun q => q hT0
    have sze : (s.heap.update T (Obj.mapFields (·.setIfInBounds 3 Value.none))).objs.size = s.heap.objs.size := Heap.size_after_update ..
    refine entry_exc (s := { s with heap := s.heap.update T (Obj.mapFields (·.setIfInBounds 3 Value.none)) }) hfr (hl.of_keeps fun b o e hn => ⟨o, (other b (noT b o e hn)).trans e, rfl⟩) hf ((other a (Ne.symm hTa)).trans he) f1 f2
      (fun b o e => by
        obtain ⟨o', e'⟩ := hth b o e
        exact ⟨o', (other b fun z => by rw [z, hT0] at e; cases e).trans e'⟩) (fun b hb => hfresh b (by rw [sze] at hb; exact hb)) fun h' n k => hq h' n ⟨fun b o z hb e => k.1 b o z hb ((other b (neT b z)).trans e), fun b o z e => k.2 b o z ((other b (neT b z)).trans e)⟩
theorem land_exc {Q : Unit → Shared → Prop} (n : NotedAt h0 s.heap H a C dx L) (hq : ∀ h', Flies h0 h' H a C dx → KeptBut [] h0 s.heap h' H → Q () { s with heap := h' }) : wpAny M A (setFlight (.ref a) none) Q E s := by
  obtain ⟨f1, f2, t, T, oT, ts, he, hTa, hT0, hTH, hT, hd, h3⟩ := n
  have neT : ∀ b, (H b ≠ none ∨ h0.get? b ≠ none) → b ≠ T := fun b z e => by
    subst e
    exact z.elim (fun q => q hTH) fun q => q hT0
  have hs3 : 3 < ts.size := (Array.getElem?_eq_some_iff.mp h3).1
  unfold setFlight
  refine wpAny_bind (wpAny_field he rfl (x := .ref T) rfl ?_)
  rw [if_pos (show (Value.ref T != Value.none) = true from by simp)]
  refine wpAny_setField hT hd hs3 (hq _ ⟨f1, f2, t, .ref T, (Heap.get?_update_other _ _ hTa).trans he, .inr ⟨T, _, _, rfl, hTa, hT0, hTH, Heap.get?_update_self _ hT (Obj.isFreed_of_fields (Obj.data_mapFields hd _)), Obj.data_mapFields hd _, by simp [hs3]⟩⟩ ⟨fun b o z _ e => ?_, fun b o z e => ⟨o.slots, ?_⟩⟩)
  · exact (Heap.get?_update_other _ _ (Ne.symm (neT b z))).trans e
  · exact (Heap.get?_update_other _ _ (Ne.symm (neT b z))).trans e
theorem rest_exc {Q : Unit → Shared → Prop} (fl : Flies h0 s.heap H a C dx) (hq : ∀ h', Flies h0 h' H a C dx → KeptBut [] h0 s.heap h' H → Q () { s with heap := h' }) : wpAny M A (setFlight (.ref a) none) Q E s := by
  obtain ⟨f1, f2, t, tb, he, hb⟩ := id fl
  rcases hb with rfl | ⟨T, oT, ts, rfl, hTa, hT0, hTH, hT, hd, h3⟩
  · unfold setFlight
    refine wpAny_bind (wpAny_field he rfl (x := .none) rfl ?_)
    rw [if_neg (by decide)]
    exact wpAny_pure (hq s.heap fl ⟨fun _ _ _ _ e => e, fun _ o _ e => ⟨o.slots, e⟩⟩)
  · have neT : ∀ b, (H b ≠ none ∨ h0.get? b ≠ none) → b ≠ T := fun b z e => by
      subst e
      exact z.elim (fun q => q hTH) fun q => q hT0
    have hs3 : 3 < ts.size := (Array.getElem?_eq_some_iff.mp h3).1
    unfold setFlight
    refine wpAny_bind (wpAny_field he rfl (x := .ref T) rfl ?_)
    rw [if_pos (show (Value.ref T != Value.none) = true from by simp)]
    refine wpAny_setField hT hd hs3 (hq _ ⟨f1, f2, t, .ref T, (Heap.get?_update_other _ _ hTa).trans he, .inr ⟨T, _, _, rfl, hTa, hT0, hTH, Heap.get?_update_self _ hT (Obj.isFreed_of_fields (Obj.data_mapFields hd _)), Obj.data_mapFields hd _, by simp [hs3]⟩⟩ ⟨fun b o z _ e => ?_, fun b o z e => ⟨o.slots, ?_⟩⟩)
    · exact (Heap.get?_update_other _ _ (Ne.symm (neT b z))).trans e
    · exact (Heap.get?_update_other _ _ (Ne.symm (neT b z))).trans e
theorem leave_exc {Q : Unit → Shared → Prop} (hfr : A.frames = some (env :: outer)) (hl : s.heap.FunFrames base (env :: outer)) (hf : env.frame = some L) (fl : Flies h0 s.heap H a C dx) (hth : ∀ b o, h0.get? b = some o → ∃ o', s.heap.get? b = some o') (hfresh : ∀ b, s.heap.objs.size ≤ b → H b = none)
    (hq : ∀ h', Flies h0 h' H a C dx → KeptBut (frs (env :: outer)) h0 s.heap h' H → Q () { s with heap := h' }) : wpAny M A (leaving env (.ref a)) Q E s := by
  unfold leaving
  refine wpAny_bind (note_exc hfr hl hf fl hth hfresh fun h1 n1 k1 => ?_)
  exact land_exc (s := { s with heap := h1 }) n1 fun h2 f2 k2 => hq h2 f2 (k1.trans ⟨fun b o z _ e => k2.1 b o z (by simp) e, k2.2⟩)
end

/-! ### an exception behind a call -/
noncomputable def CX1 (P : Program) (w : World) : CXT := fun outer H s E e s' => ∃ (a C : Addr) (dx : Option Addr) (H' : Hp), e = .ref a ∧ s'.os = s.os ∧ AllBare s'.gens ∧ Un (frs outer) [] H H' s.heap s'.heap ∧ HOk P w H' s'.heap ∧
  Flies s.heap s'.heap H' a C dx ∧ E (.ref C) dx H'
theorem HOk.keptBut {P : Program} {w : World} {H : Hp} {h0 h h' : Heap} {fs : List Addr} (ok : HOk P w H h) (k : KeptBut fs h0 h h' H) (hf : ∀ b ∈ fs, H b = none) : HOk P w H h' := fun b u e => by
  refine (ok b u e).stay (fun c v hc q => ?_) (fun _ q => q) fun _ _ q => q
  have hn : H c ≠ none := by
    rcases hc with rfl | hc
    · rw [e]; simp
    · rw [hc]; simp
  exact k.1 c v (.inl hn) (fun z => hn (hf c z)) q
theorem Un.keptBut {fs gs ex : List Addr} {H H' : Hp} {h0 h1 h2 : Heap} (u : Un fs ex H H' h0 h1) (k : KeptBut gs h0 h1 h2 H') (hg : ∀ b o, h0.get? b = some o → b ∈ gs → b ∈ fs) : Un fs ex H H' h0 h2 := by
  refine ⟨fun b o e n hb hx => k.1 b o (.inr (by rw [e]; simp)) (fun z => hb (hg b o e z)) (u.keep b o e n hb hx), fun b o e n hb hx => ?_, u.free, fun b o e hx => ?_, u.tups, u.frzs, u.tbls⟩
  · obtain ⟨sl, q⟩ := u.slot b o e n hb hx
    obtain ⟨sl', q'⟩ := k.2 b _ (.inr (by rw [e]; simp)) q
    exact ⟨sl', q'⟩
  · obtain ⟨o', q⟩ := u.there b o e hx
    obtain ⟨sl, q'⟩ := k.2 b _ (.inr (by rw [e]; simp)) q
    exact ⟨_, q'⟩

section
variable {P : Program} {w : World} {K : PySem.W.Frag} {mg : Str → Option Value} {base : Heap} {N : List Str} {qual : Str} {scope : Scope} {f : Addr} {cd : Value} {A : Around} {outer : List Env} {s : Shared} {H : Hp} {EX : XK}
theorem xe_of {pins : List (Addr × Obj)} {σ : St} {H' : Hp} {s' : Shared} {a C : Addr} {dx : Option Addr} (I : Inv (cxOf (CX1 P w) P w K mg base N qual scope f cd A outer s H EX) pins σ H' s') (fl : Flies s.heap s'.heap H' a C dx) (hE : EX (.ref C) dx H') :
    (cxOf (CX1 P w) P w K mg base N qual scope f cd A outer s H EX).xe (.ref a) s' := by
  show wpAny (model P w) (A.deeper (envOfC qual scope s.heap.objs.size f cd)) (leaving (envOfC qual scope s.heap.objs.size f cd) (.ref a)) (fun _ s'' => CX1 P w outer H s EX (.ref a) s'') _ s'
  refine leave_exc (L := s.heap.objs.size) I.ok.frames I.stack rfl fl (fun b o e => I.base.there b o e (by intro z; exact absurd (show b ∈ ([] : List Addr) from z) (by simp))) (fun b hb => I.hok.fresh hb) fun h' f' k => ?_
  refine ⟨a, C, dx, H', rfl, I.os, I.bare, I.base.keptBut k fun b o e hb => ?_, I.hok.keptBut k I.stkFree, f', hE⟩
  unfold frs at hb
  rw [List.filterMap_cons] at hb
  rcases List.mem_cons.mp hb with z | z
  · exact absurd (Heap.lt_size e) (by rw [z]; exact Nat.lt_irrefl _)
  · exact z
theorem Flies.back {h0 h1 h : Heap} {H : Hp} {a C : Addr} {dx : Option Addr} (fl : Flies h1 h H a C dx) (k : ∀ b o, h0.get? b = some o → ∃ o', h1.get? b = some o') : Flies h0 h H a C dx := by
  have no : ∀ b, h1.get? b = none → h0.get? b = none := fun b e => by
    cases q : h0.get? b with
    | none => rfl
    | some o =>
      obtain ⟨o', e'⟩ := k b o q
      rw [e] at e'
      cases e'
  obtain ⟨f1, f2, t, tb, he, hb⟩ := fl
  refine ⟨no a f1, f2, t, tb, he, ?_⟩
  rcases hb with z | ⟨T, oT, ts, e, hTa, hT0, r⟩
  · exact .inl z
  · exact .inr ⟨T, oT, ts, e, hTa, no T hT0, r⟩
theorem pass1 {E : XK} (h : ∀ C dx H', E C dx H' → EX C dx H') : Passes (CX1 P w) (cxOf (CX1 P w) P w K mg base N qual scope f cd A outer s H EX) E := by
  intro pins σ H1 s1 e s' I hx
  obtain ⟨a, C, dx, H', rfl, os, bare, un, hok, fl, hE⟩ := hx
  have I' := I.call' (s' := s') (ch := []) os un hok bare (fun b z => absurd z (by simp))
  exact xe_of I' (fl.back fun b o e => I.base.there b o e (by intro z; exact absurd (show b ∈ ([] : List Addr) from z) (by simp))) (h _ _ _ hE)
end

/-! ### raise -/
noncomputable def forget (H : Hp) (a : Addr) : Hp := fun b => if b = a then none else H b
theorem forget_ne {H : Hp} {a b : Addr} (h : b ≠ a) : forget H a b = H b := by unfold forget; rw [if_neg h]
theorem forget_same {H : Hp} {a : Addr} : forget H a a = none := by unfold forget; rw [if_pos rfl]
theorem forget_none {H : Hp} {a b : Addr} (h : H b = none) : forget H a b = none := by
  unfold forget
  split
  · rfl
  · exact h
theorem Inv.forget {X : Cx} {pins : List (Addr × Obj)} {σ : St} {H : Hp} {s : Shared} {a C : Addr} {dx : Option Addr} (I : Inv X pins σ H s) (hH : H a = some (excE a C dx)) : Inv X pins σ (L2.forget H a) s := by
  have ne : ∀ b u, H b = some u → (∀ φ, u ≠ .ext φ) → b ≠ a := fun b u e hu z => by
    subst z
    rw [hH] at e
    exact hu _ (Option.some.inj e).symm
  refine ⟨I.ok, I.os, I.bare, ⟨I.base.keep, I.base.slot, fun b o e n hx => forget_none (I.base.free b o e n hx), I.base.there, fun b xs e => ?_, fun b o u e => ?_, fun b ps e => ?_⟩, I.loc, I.cell, forget_none I.free, fun x c e => forget_none (I.freeC x c e), fun p hp => ?_, fun b u e => ?_, I.len⟩
  · have q := I.base.tups b xs e
    rw [forget_ne (ne b _ q (fun _ z => nomatch z))]
    exact q
  · have q := I.base.frzs b o u e
    rw [forget_ne (ne b _ q (fun _ z => nomatch z))]
    exact q
  · obtain ⟨more, q⟩ := I.base.tbls b ps e
    exact ⟨more, by rw [forget_ne (ne b _ q (fun _ z => nomatch z))]; exact q⟩
  · obtain ⟨e, n, r⟩ := I.pin p hp
    exact ⟨e, forget_none n, r⟩
  · by_cases hb : b = a
    · rw [hb, forget_same] at e; cases e
    · rw [forget_ne hb] at e
      exact (I.hok b u e).stay (fun c v _ q => q) (fun c q => by rw [forget_ne (ne c _ q (fun _ z => nomatch z))]; exact q) fun c xs q => by rw [forget_ne (ne c _ q (fun _ z => nomatch z))]; exact q
noncomputable def tRaise (K : PySem.W.Frag) (H0 : Hp) (EX : XK) (te : TE) : TS := fun _ σ H => te σ H fun x H1 => ∃ a C Mo f dx, x = .ref a ∧ H1 a = some (excE a C dx) ∧ ExcC K C Mo f ∧ H0 a = none ∧ EX (.ref C) dx (forget H1 a)
theorem raise_made {M : Model} {A : Around} {E : Value → Shared → Prop} {env : Env} {s : Shared} {x : Sem Value} {Q : Flow → Shared → Prop} (hh : A.handled = none)
    (h : wpAny M A x (fun v s₁ => ∃ e C dx t nm q N bs bm hdct sn sub ab col dd k0 k1 k2 k3 k5 nid, v = .ref e ∧ bm.contains (.type "BaseException") = true ∧ s₁.heap.get? C = some (excClassObj nm q C N bs bm hdct sn sub ab col dd k0 k1 k2 k3 k5 nid) ∧
      s₁.heap.get? e = some (excRec C dx t .none) ∧ E (.ref e) s₁) E s) : wpAny M A (raiseStmt env (some x) none) Q E s := by
  unfold raiseStmt
  refine wpAny_bind (wpAny_mono h (fun v s₁ h₁ => ?_) fun _ _ x => x)
  obtain ⟨e, C, dx, t, nm, q, N, bs, bm, hdct, sn, sub, ab, col, dd, k0, k1, k2, k3, k5, nid, rfl, hbase, hC, he, hE⟩ := h₁
  have hcB : (Value.ref C :: bm).contains (.type "BaseException") = true := by rw [List.contains_cons, hbase, Bool.or_true]
  obtain ⟨hp, g, d, tk, os⟩ := s₁
  repeat (first | with_reducible refine wpAny_loadPart_at he ?_ | with_reducible refine wpAny_loadPart_at hC ?_ | (with_reducible refine wpAny_isSubtype_exc hC ?_; rw [hcB]) | wp_step)
  exact wpAny_raiseNew_none hh hE
section
variable {P : Program} {w : World} {K : PySem.W.Frag} {mg : Str → Option Value} {base : Heap} {N : List Str} {qual : Str} {scope : Scope} {f : Addr} {cd : Value} {A : Around} {outer : List Env} {s : Shared} {H : Hp} {EX : XK}
theorem ps_raise {x : Expr} {te : TE} {pos : Pos} (he : PE (cxOf (CX1 P w) P w K mg base N qual scope f cd A outer s H EX) x te) : PS (cxOf (CX1 P w) P w K mg base N qual scope f cd A outer s H EX) (.Raise (some x) none pos) (tRaise K H EX te) := by
  intro pins s1 σ H1 D I h
  rw [arm_exec_Raise]
  refine wpAny_bind (wpAny_standAt (raise_made (I.ok.hd rfl) ?_))
  refine wpAny_bind (thn (he pins s1 σ H1 _ I h) fun v s2 zz => wpAny_bind (wpAny_standAt (wpAny_pure ?_)))
  obtain ⟨y, H2, I2, ry, a, C, Mo, f', dx, e1, hH, M, h0, hE⟩ := zz
  subst e1
  cases ry
  obtain ⟨nm, q, Nn, bs, sn, sub, ab, col, dd, k0, k1, k2, k3, k5, lk, _, _⟩ := M.obj
  obtain ⟨t, hget⟩ := excE_at I2.hok hH
  refine ⟨a, C, dx, .ref t, nm, q, Nn, bs, _, _, sn, sub, ab, col, dd, k0, k1, k2, k3, k5, _, rfl, rfl, I2.kIn _ _ lk, hget, ?_⟩
  refine xe_of (I2.forget hH) ⟨?_, forget_same, .ref t, .none, hget, .inl rfl⟩ hE
  cases q0 : s.heap.get? a with
  | none => rfl
  | some o =>
    have z := I2.base.free a o q0 h0 (by intro z; exact absurd (show a ∈ ([] : List Addr) from z) (by simp))
    rw [hH] at z
    cases z
end
end L2

set_option Elab.async false
set_option linter.all false
set_option maxRecDepth 100000
set_option maxHeartbeats 1000000
namespace L2
open PySem PySem.Spec PyProof.Rows

/-! ### try .. except C: .. -/
noncomputable def TryE (X : Cx) (pins : List (Addr × Obj)) (Ex : Addr → Option Addr → St → Hp → Prop) : Value → Shared → Prop := fun e s' => ∃ a C dx σ H σ1 H1 s1, e = .ref a ∧ Inv X pins σ1 H1 s1 ∧ Inv X pins σ H s' ∧
  (∀ b o, s1.heap.get? b = some o → ∃ o', s'.heap.get? b = some o') ∧ Flies s1.heap s'.heap H a C dx ∧ Ex C dx σ H
noncomputable def tryCx (X : Cx) (pins : List (Addr × Obj)) (Ex : Addr → Option Addr → St → Hp → Prop) : Cx where
  prog := X.prog
  w := X.w
  K := X.K
  mg := X.mg
  base := X.base
  A := X.A
  N := X.N
  s₀ := X.s₀
  H₀ := X.H₀
  env := X.env
  outer := X.outer
  stack := X.stack
  ex := X.ex
  fn := X.fn
  calm := X.calm
  pn := X.pn ++ pins
  xe := TryE X pins Ex
noncomputable def exceptCx (X : Cx) (e : Value) : Cx where
  prog := X.prog
  w := X.w
  K := X.K
  mg := X.mg
  base := X.base
  A := X.A.mark (some e)
  N := X.N
  s₀ := X.s₀
  H₀ := X.H₀
  env := X.env
  outer := X.outer
  stack := X.stack
  ex := X.ex
  fn := X.fn
  calm := false
  pn := X.pn
  xe := fun _ _ => False
section
variable {X : Cx} {pins pins' : List (Addr × Obj)} {Ex : Addr → Option Addr → St → Hp → Prop} {σ : St} {H : Hp} {s : Shared} {e : Value}
theorem Inv.totry (I : Inv X pins σ H s) : Inv (tryCx X pins Ex) [] σ H s :=
  ⟨⟨I.ok.mod, I.ok.kind, I.ok.glob, I.ok.blt, I.ok.above, I.ok.inj, I.ok.has, I.ok.cab, I.ok.hd, I.ok.frames, I.ok.stk, I.ok.exf, I.ok.bs, I.ok.bsz, I.ok.noex, I.ok.exfs, I.ok.funs, I.ok.frf⟩,
    I.os, I.bare, I.base, I.loc, I.cell, I.free, I.freeC, fun p hp => I.pin p (by have z : p ∈ (X.pn ++ pins) ++ [] := hp; simpa using z), I.hok, I.len⟩
theorem Inv.untry (I : Inv (tryCx X pins Ex) pins' σ H s) : Inv X pins σ H s :=
  ⟨⟨I.ok.mod, I.ok.kind, I.ok.glob, I.ok.blt, I.ok.above, I.ok.inj, I.ok.has, I.ok.cab, I.ok.hd, I.ok.frames, I.ok.stk, I.ok.exf, I.ok.bs, I.ok.bsz, I.ok.noex, I.ok.exfs, I.ok.funs, I.ok.frf⟩,
    I.os, I.bare, I.base, I.loc, I.cell, I.free, I.freeC, fun p hp => I.pin p (List.mem_append_left _ hp), I.hok, I.len⟩
theorem Inv.toexc (I : Inv X pins σ H s) : Inv (exceptCx X e) pins σ H s :=
  ⟨⟨I.ok.mod, I.ok.kind, I.ok.glob, I.ok.blt, I.ok.above, I.ok.inj, I.ok.has, I.ok.cab, (fun z => absurd (show false = true from z) Bool.false_ne_true), I.ok.frames, I.ok.stk, I.ok.exf, I.ok.bs, I.ok.bsz, I.ok.noex, I.ok.exfs, I.ok.funs, I.ok.frf⟩,
    I.os, I.bare, I.base, I.loc, I.cell, I.free, I.freeC, I.pin, I.hok, I.len⟩
theorem Inv.unexc (hd : X.calm = true → X.A.handled = none) (I : Inv (exceptCx X e) pins σ H s) : Inv X pins σ H s :=
  ⟨⟨I.ok.mod, I.ok.kind, I.ok.glob, I.ok.blt, I.ok.above, I.ok.inj, I.ok.has, I.ok.cab, hd, I.ok.frames, I.ok.stk, I.ok.exf, I.ok.bs, I.ok.bsz, I.ok.noex, I.ok.exfs, I.ok.funs, I.ok.frf⟩,
    I.os, I.bare, I.base, I.loc, I.cell, I.free, I.freeC, I.pin, I.hok, I.len⟩
theorem SP.untry {D : Ends} {f : Flow} (h : SP (tryCx X pins Ex) [] D f s) : SP X pins D f s := by
  cases f with
  | next => obtain ⟨σ', H', I, q⟩ := h; exact ⟨σ', H', I.untry, q⟩
  | brk => obtain ⟨σ', H', I, q⟩ := h; exact ⟨σ', H', I.untry, q⟩
  | cont => obtain ⟨σ', H', I, q⟩ := h; exact ⟨σ', H', I.untry, q⟩
  | ret u => obtain ⟨v, σ', H', I, r, q⟩ := h; exact ⟨v, σ', H', I.untry, r, q⟩
theorem Inv.flown {h0 h' : Heap} (I : Inv X pins σ H s) (k : KeptBut (X.env.locals :: X.fs) h0 s.heap h' H) (h1 : ∀ b o, X.s₀.heap.get? b = some o → h0.get? b ≠ none) (hL : h0.get? X.env.locals ≠ none) (hC : ∀ x c, X.env.cells.lookup x = some c → h0.get? c ≠ none) (hP : ∀ p ∈ X.pn ++ pins, h0.get? p.1 ≠ none) :
    Inv X pins σ H { s with heap := h' } := by
  obtain ⟨m, ⟨oL, es, ep, hoL, r⟩, hl⟩ := id I.loc
  obtain ⟨sl, hL'⟩ := k.2 _ oL (.inr hL) hoL
  have cellK : ∀ x c, X.env.cells.lookup x = some c → ∀ v, s.heap.IsCell c v → h'.IsCell c v := fun x c e v ⟨o, ho, hd⟩ => by
    obtain ⟨sl, q⟩ := k.2 c o (.inr (hC x c e)) ho
    exact ⟨_, q, hd⟩
  refine ⟨I.ok, I.os, I.bare, ⟨fun b o e n hb hx => ?_, fun b o e n hb hx => ?_, I.base.free, fun b o e hx => ?_, I.base.tups, I.base.frzs, I.base.tbls⟩, ⟨m, ⟨_, es, ep, hL', r⟩, fun i x v e1 e2 e3 => ?_⟩, fun x c e => ?_, I.free, I.freeC, fun p hp => ?_, ?_, I.len⟩
  · refine k.1 b o (.inr (h1 b o e)) (fun z => ?_) (I.base.keep b o e n hb hx)
    rcases List.mem_cons.mp z with z | z
    · exact absurd (Nat.lt_of_lt_of_le (Heap.lt_size e) I.ok.above) (by rw [z]; exact Nat.lt_irrefl _)
    · exact hb z
  · obtain ⟨sl, q⟩ := I.base.slot b o e n hb hx
    obtain ⟨sl', q'⟩ := k.2 b _ (.inr (h1 b o e)) q
    exact ⟨sl', q'⟩
  · obtain ⟨o', q⟩ := I.base.there b o e hx
    obtain ⟨sl', q'⟩ := k.2 b _ (.inr (h1 b o e)) q
    exact ⟨_, q'⟩
  · obtain ⟨u, rv, l⟩ := hl i x v e1 e2 e3
    refine ⟨u, rv, ?_⟩
    rcases l with l | ⟨kd, c, e, z⟩
    · exact .inl l
    · exact .inr ⟨kd, c, e, cellK x c e _ z⟩
  · obtain ⟨v, z⟩ := I.cell x c e
    exact ⟨v, cellK x c e v z⟩
  · obtain ⟨e, n, ne, nf, d⟩ := I.pin p hp
    refine ⟨k.1 p.1 p.2 (.inr (hP p hp)) (fun z => ?_) e, n, ne, nf, d⟩
    rcases List.mem_cons.mp z with z | z
    · exact ne z
    · exact nf z
  · refine I.hok.keptBut k fun b hb => ?_
    rcases List.mem_cons.mp hb with z | z
    · rw [z]; exact I.free
    · obtain ⟨_, o, ho, _⟩ := I.ok.funs.mem z
      exact I.base.free b o ho (I.ok.frf b z) fun q => I.ok.exfs b q z
end
end L2

set_option Elab.async false
set_option linter.all false
set_option maxRecDepth 100000
set_option maxHeartbeats 1000000
namespace L2
open PySem PySem.Spec PyProof.Rows

section
variable {X : Cx} {a b c d : Expr} {ta tb tc td : TE} {pos : Pos}
/-! ### a op b op c op d -/
noncomputable def tChain3 (r r' r'' : R2) (ta tb tc td : TE) : TE := fun σ H Q => ta σ H fun x H1 => tb σ H1 fun y H2 => r x y H2 fun z H3 => ∃ k, z = .bl k ∧
  (if k = true then tc σ H3 fun x2 H4 => r' y x2 H4 fun z2 H5 => ∃ k2, z2 = .bl k2 ∧ (if k2 = true then td σ H5 fun x3 H6 => r'' x2 x3 H6 Q else Q (.bl false) H5) else Q (.bl false) H3)
theorem pt_chain3 {op op' op'' : CmpOp} {r r' r'' : R2} (ho : OpR X (compareOp op) r) (ho' : OpR X (compareOp op') r') (ho'' : OpR X (compareOp op'') r'') (ha : PE X a ta) (hb : PE X b tb) (hc : PE X c tc) (hd : PE X d td)
    (hm : lastMarks [op, op', op''] [b, c, d] = false := by with_unfolding_all rfl) : PT X (.Compare a [op, op', op''] [b, c, d] pos) (tTest (tChain3 r r' r'' ta tb tc td)) := by
  intro pins s σ H Q I h
  refine isTrue_chain (thn (ha pins s σ H _ I h) fun v s1 zz => L2.el5 zz fun x H1 I1 r1 q1 => test_link (thn (hb pins s1 σ H1 _ I1 q1) fun u s2 zz => L2.el5 zz fun y H2 I2 r2 q2 =>
    thn (ho pins s2 σ H2 x y v u _ I2 r1 r2 q2) fun z s3 zz => ?_)) hm
  obtain ⟨z', H3, I3, r3, k, e, q3⟩ := zz
  subst e
  cases r3
  refine wpAny_truthy_bool ?_
  cases k with
  | false =>
    obtain ⟨k', e', q'⟩ := q3
    cases e'
    exact ite_ff ⟨H3, I3, q'⟩
  | true =>
    refine ite_tt (test_link (thn (hc pins s3 σ H3 _ I3 q3) fun x2 s4 zz => L2.el5 zz fun y4 H4 I4 r4 q4 => thn (ho' pins s4 σ H4 y y4 u x2 _ I4 r2 r4 q4) fun z2 s5 zz => ?_))
    obtain ⟨z5, H5, I5, r5, k2, e2, q5⟩ := zz
    subst e2
    cases r5
    refine wpAny_truthy_bool ?_
    cases k2 with
    | false =>
      obtain ⟨k', e', q'⟩ := q5
      cases e'
      exact ite_ff ⟨H5, I5, q'⟩
    | true =>
      refine ite_tt (test_last (thn (hd pins s5 σ H5 _ I5 q5) fun x3 s6 zz => L2.el5 zz fun y6 H6 I6 r6 q6 => thn (ho'' pins s6 σ H6 y4 y6 x2 x3 _ I6 r4 r6 q6) fun z3 s7 zz => ?_))
      obtain ⟨z7, H7, I7, r7, k3, e3, q7⟩ := zz
      subst e3
      cases r7
      exact wpAny_truthy_bool ⟨H7, I7, q7⟩

/-! ### two lists of ints -/

/-! ### isinstance(x, T), T a built-in type -/
theorem call_isinst : CallR X (.builtin "isinstance") (fun xs H Q => ∃ x n t b, xs = [x, .ty n] ∧ TyOf X.K H x t ∧ PySem.W.kitOne X.K t (.type n) = some b ∧ Q (.bl b) H) := by
  intro pins s σ H xs us Q I r h
  obtain ⟨x, n, t, b, rfl, ty, e, q⟩ := h
  obtain ⟨u, v, rfl, r1, r2⟩ := vals2 r
  cases r2
  exact isinst_ok I r1 ty e fun tk => ⟨.bl b, H, I.tok _, rfl, q⟩

/-! ### list(range(n)) -/
end

/-! ### within a block: the readings by the enclosing body's own part -/
section
variable {Y : Cx} {K : PySem.W.Frag} {tg : Expr}
theorem pg_tupK {es : List Expr} {k : Nat} {t : TGs} {n : Nat} {pos : Pos} (hK : Y.K = K) (hc : Y.calm = true) (h : PGs Y es t) (hn : (assignEach es Y.env).length = n := by rfl) (hst : (assignEach es Y.env).findIdx? (·.1) = none := by rfl) : PG Y (.Tuple es k pos) (gTup K n t) := by
  subst hK; exact pg_tup hc h hn hst
end
end L2

set_option Elab.async false
set_option linter.all false
set_option maxRecDepth 100000
set_option maxHeartbeats 1000000
namespace L2
open PySem PySem.Spec PyProof.Rows

/-! ### try .. except C as e: .. return .. -/
noncomputable def excX (a C : Addr) (dx : Option Addr) : HO := .ext fun h => ∃ t tb, h.get? a = some (excRec C dx t tb)
noncomputable abbrev excZ (a C : Addr) (dx : Option Addr) (t tb : Value) : HO := .frz (excRec C dx t tb) (excX a C dx)
section
variable {P : Program} {w : World} {H : Hp} {h : Heap} {a C : Addr} {dx : Option Addr} {t tb : Value}
theorem excZ_ok (e : h.get? a = some (excRec C dx t tb)) : ObjOk P w H h a (excZ a C dx t tb) := ⟨e, ⟨t, tb, e⟩, ⟨_, e⟩, fun _ _ ⟨t', tb', e'⟩ k => ⟨t', tb', k _ e'⟩⟩
end
section
variable {X : Cx} {pins : List (Addr × Obj)} {σ : St} {H : Hp} {s : Shared} {a C : Addr} {dx : Option Addr} {t tb : Value}
theorem Inv.track (I : Inv X pins σ H s) (e : s.heap.get? a = some (excRec C dx t tb)) (hH : H a = none) (h0 : X.s₀.heap.get? a = none) (hL : a ≠ X.env.locals) (hc : ∀ x c, X.env.cells.lookup x = some c → c ≠ a) (hp : ∀ p ∈ X.pn ++ pins, p.1 ≠ a) : Inv X pins σ (upd H a (excZ a C dx t tb)) s := by
  have na : ∀ b u, H b = some u → b ≠ a := fun b u q => ne_of_none q hH
  refine ⟨I.ok, I.os, I.bare, ⟨I.base.keep, I.base.slot, fun b o q n hx => ?_, I.base.there, fun b xs q => ?_, fun b o u q => ?_, fun b ps q => ?_⟩, I.loc, I.cell, by rw [upd_ne (Ne.symm hL)]; exact I.free, fun x c q => by rw [upd_ne (hc x c q)]; exact I.freeC x c q, fun p hp' => ?_, fun b u q => ?_, I.len⟩
  · have : b ≠ a := fun z => by rw [z, h0] at q; cases q
    rw [upd_ne this]
    exact I.base.free b o q n hx
  · have z := I.base.tups b xs q
    rw [upd_ne (na b _ z)]
    exact z
  · have z := I.base.frzs b o u q
    rw [upd_ne (na b _ z)]
    exact z
  · obtain ⟨more, z⟩ := I.base.tbls b ps q
    exact ⟨more, by rw [upd_ne (na b _ z)]; exact z⟩
  · obtain ⟨z1, z2, z3⟩ := I.pin p hp'
    exact ⟨z1, by rw [upd_ne (hp p hp')]; exact z2, z3⟩
  · by_cases hb : b = a
    · subst hb
      rw [upd_same] at q
      cases q
      exact excZ_ok e
    · rw [upd_ne hb] at q
      exact (I.hok b u q).stay (fun c v _ z => z) (fun c z => by rw [upd_ne (na c _ z)]; exact z) fun c xs z => by rw [upd_ne (na c _ z)]; exact z
theorem Inv.blank {h' : Heap} {m : Str → Option Value} {tk : Nat} (I : Inv X pins σ H s) (hn : h'.Ns X.env.locals m) (hs : Heap.SameBut X.env.locals s.heap h') : Inv X pins (List.replicate X.N.length none) H { s with heap := h', toks := tk } := by
  have below : ∀ b o, X.s₀.heap.get? b = some o → b ≠ X.env.locals := fun b o e => Nat.ne_of_lt (Nat.lt_of_lt_of_le (Heap.lt_size e) I.ok.above)
  have cne : ∀ x c, X.env.cells.lookup x = some c → c ≠ X.env.locals := fun x c e => I.cne x c e
  refine ⟨I.ok, I.os, I.bare, ⟨fun b o e n hb hx => ?_, fun b o e n hb hx => ?_, I.base.free, fun b o e hx => ?_, I.base.tups, I.base.frzs, I.base.tbls⟩, ⟨m, hn, fun i x v _ e2 _ => ?_⟩, fun y c e => ?_, I.free, I.freeC, fun p hp => ?_, fun b u e => ?_, by simp⟩
  · exact (hs.2 b (below b o e)).trans (I.base.keep b o e n hb hx)
  · obtain ⟨sl, e1⟩ := I.base.slot b o e n hb hx
    exact ⟨sl, (hs.2 b (below b o e)).trans e1⟩
  · obtain ⟨o', e1⟩ := I.base.there b o e hx
    exact ⟨o', (hs.2 b (below b o e)).trans e1⟩
  · rw [List.getElem?_replicate] at e2
    split at e2 <;> cases e2
  · obtain ⟨w', z⟩ := I.cell y c e
    exact ⟨w', z.sameBut hs (cne y c e)⟩
  · obtain ⟨e, n, ne, nf, d⟩ := I.pin p hp
    exact ⟨(hs.2 p.1 ne).trans e, n, ne, nf, d⟩
  · refine (I.hok b u e).stay (fun c v hc q => (hs.2 c ?_).trans q) (fun _ q => q) fun _ _ q => q
    rintro rfl
    rcases hc with rfl | hc
    · rw [I.free] at e; cases e
    · rw [I.free] at hc; cases hc
end
noncomputable def tTryA (K : PySem.W.Frag) (Cn : Addr) (i : Nat) (Ex : Addr → Option Addr → St → Hp → Prop) (tb : TS) (ts : Addr → TS) : TS := fun D σ H => tb D σ H ∧
  ∀ C dx σ' H', Ex C dx σ' H' → PySem.W.exmOne K (.ref C) (.ref Cn) = some true ∧ ∀ a t tb, H' a = none → ts a { nx := fun _ _ => False, rt := D.rt } (σ'.set i (some (.ref a))) (upd H' a (excZ a C dx t tb))
theorem ps_tryA {X : Cx} {body suite : List Stmt} {b0 : Stmt} {cn n : Str} {i : Nat} {np hpos pos : Pos} {Cn : Addr} {Ex : Addr → Option Addr → St → Hp → Prop} {tb : TS} {ts : Addr → TS} (hstk : X.stack = X.env :: X.outer) (hfr : X.env.frame = some X.env.locals) (hN : X.N.Nodup) (hi : X.N[i]? = some n) (hl : X.env.scope.names.lookup n = some .local) (hg : Gl X cn) (hm : X.mg cn = some (.ref Cn))
    (hb : ∀ pins, PSs (tryCx X pins Ex) body tb) (hs : ∀ a, PSs (exceptCx X (.ref a)) (b0 :: suite) (ts a)) (hex : X.ex = [] := by rfl) (hdb : (cn == ("__debug__" : Str)) = false := by decide) :
    PS X (.Try body [.ExceptHandler (some (.Name cn np)) (some n) (b0 :: suite) hpos] [] [] pos) (tTryA X.K Cn i Ex tb ts) := by
  intro pins s σ H D I h
  obtain ⟨h1, h2⟩ := h
  refine wpAny_Try_except (wpAny_mono (hb pins [] s σ H D I.totry h1) (fun f s1 q => ?_) fun e s1 he => ?_)
  · have q' := SP.untry q
    cases f with
    | next => exact wpAny_execs_nil q'
    | ret v => exact q'
    | brk => exact q'
    | cont => exact q'
  · obtain ⟨a, C, dx, σ', H', σ1, H1, s0, rfl, I0, I1, th, fl, hx⟩ := he
    obtain ⟨hmat, hq⟩ := h2 C dx σ' H' hx
    have hfs : frs (X.env :: X.outer) = X.env.locals :: X.fs := by
      unfold Cx.fs frs
      rw [List.filterMap_cons, hfr]
    have k1 : ∀ b o, X.s₀.heap.get? b = some o → s0.heap.get? b ≠ none := fun b o e => by
      obtain ⟨o', q⟩ := I0.base.there b o e (by rw [hex]; simp)
      rw [q]; simp
    have kL : s0.heap.get? X.env.locals ≠ none := by
      obtain ⟨m, ⟨o, _, _, ho, _⟩, _⟩ := I0.loc
      rw [ho]; simp
    have kC : ∀ x c, X.env.cells.lookup x = some c → s0.heap.get? c ≠ none := fun x c e => by
      obtain ⟨v, o, ho, _⟩ := I0.cell x c e
      rw [ho]; simp
    have kP : ∀ p ∈ X.pn ++ pins, s0.heap.get? p.1 ≠ none := fun p hp => by
      rw [(I0.pin p hp).1]; simp
    have hfr1 : X.A.frames = some (X.env :: X.outer) := by rw [← hstk]; exact I.ok.frames
    refine note_exc (L := X.env.locals) hfr1 (by rw [← hstk]; exact I1.stack) hfr fl th (fun b hb => I1.hok.fresh hb) fun h2' n2 kk2 => ?_
    rw [hfs] at kk2
    have I2 := I1.flown kk2 k1 kL kC kP
    refine land_exc (s := { s1 with heap := h2' }) n2 fun h3 f3 kk3 => ?_
    have kk3' : KeptBut (X.env.locals :: X.fs) s0.heap h2' h3 H' := ⟨fun b o z _ e => kk3.1 b o z (by simp) e, kk3.2⟩
    have I3 := I2.flown kk3' k1 kL kC kP
    have I3' : Inv (exceptCx X (.ref a)) pins σ' H' { s1 with heap := h3 } := I3.toexc
    refine wpAny_handleBy_cons (codeAny_handlers_test (ld_glob I3' hg hm ?_ hdb)) (by intro z; cases z)
    obtain ⟨_, _, t, tb', hget, _⟩ := id f3
    have LT : PySem.W.Looks (model X.prog X.w) h3 (typeOf (.ref a)) (.ref C) := (PySem.W.Looks.ld hget).andThen .now
    refine (PySem.W.exm_one I3.kIn LT hmat).here (s := { s1 with heap := h3 }) ?_
    refine codeAny_handlers_suite_as ?_
    refine rest_exc (s := { s1 with heap := h3 }) f3 fun h4 f4 kk4 => ?_
    have kk4' : KeptBut (X.env.locals :: X.fs) s0.heap h3 h4 H' := ⟨fun b o z _ e => kk4.1 b o z (by simp) e, kk4.2⟩
    have I4 := I3.flown kk4' k1 kL kC kP
    obtain ⟨f4a, f4b, t4, tb4, hget4, _⟩ := id f4
    have I5 := I4.track hget4 f4b (by
      cases q : X.s₀.heap.get? a with
      | none => rfl
      | some o => exact absurd f4a (k1 a o q)) (fun z => kL (z ▸ f4a)) (fun x c e z => kC x c e (z ▸ f4a)) (fun p hp z => kP p hp (z ▸ f4a))
    have I5' : Inv (exceptCx X (.ref a)) pins σ' (upd H' a (excZ a C dx t4 tb4)) { s1 with heap := h4 } := I5.toexc
    refine store_ok (X := exceptCx X (.ref a)) (v := .ref a) (u := .ref a) I5' hN hi (.inl hl) rfl (fun s6 I6 => ?_) (.inr hl)
    refine wpAny_mono (hs a pins s6 _ _ _ I6 (hq a t4 tb4 f4b)) (fun f s7 q7 => ?_) fun _ _ z => z.elim
    have fin : ∀ {σ7 : St} {H7 : Hp}, Inv (exceptCx X (.ref a)) pins σ7 H7 s7 → (∀ s8, Inv X pins (List.replicate X.N.length none) H7 s8 → SP X pins D f s8) → wpAny (model X.prog X.w) X.A (do bindName X.env n .none; unbindBehindTheSuite X.env n hpos) (fun _ s₅ => SP X pins D f s₅) X.xe s7 := fun {σ7 H7} I7 k => by
      obtain ⟨m7, hn7, _⟩ := I7.loc
      refine wpAny_nameGoes hl hn7 (by rw [I.ok.kind]; rfl) fun h' m' hn' hs' => k _ ?_
      exact (I7.unexc I.ok.hd).blank hn' hs'
    cases f with
    | next => obtain ⟨_, _, _, z⟩ := q7; exact z.elim
    | brk => obtain ⟨_, _, _, z⟩ := q7; exact z.elim
    | cont => obtain ⟨_, _, _, z⟩ := q7; exact z.elim
    | ret v =>
      obtain ⟨y, σ7, H7, I7, r7, q7⟩ := q7
      exact fin I7 fun s8 I8 => ⟨y, _, H7, I8, r7, q7⟩
end L2

set_option Elab.async false
set_option linter.all false
set_option maxRecDepth 100000
set_option maxHeartbeats 1000000
/-! What is asked of an exception that was caught: its kind, its values. -/
namespace L2
open PySem PySem.Spec PyProof.Rows Builtin
structure ExcG (K : PySem.W.Frag) (C : Addr) : Prop where
  ga : PySem.W.findIn K (.ref C) "__getattribute__" = some (some (.builtin "BaseException.__getattribute__"))
  gt : PySem.W.findIn K (.ref C) "__getattr__" = some none
  be : PySem.W.mroIn K C (.type "BaseException") = some true
  ob : PySem.W.mroIn K C (.type "object") = some true
  hd : PySem.W.hasDictIn K C = true
  cl : PySem.W.findIn K (.ref C) "__class__" = some (some (.builtin "object.__class__"))
  gs : PySem.W.specialIn K (.builtin "object.__class__") "__get__" = some (some (.builtin "getset_descriptor.__get__"))
  tk : PySem.W.takesIn K (.builtin "object.__class__") = some true
section
variable {prog : Program} {w : World} {A : Around} {E : Value → Shared → Prop} {s : Shared} {K : PySem.W.Frag} {x C : Addr} {ox od : Obj} {name : Str}
theorem ga_kind : builtinKind "BaseException.__getattribute__" = some .slot := by decide +kernel
theorem ga_split : splitId "BaseException.__getattribute__" = some ("BaseException", "__getattribute__") := by decide +kernel
theorem hx2 : (Value.builtin "BaseException.__getattribute__" == Value.builtin "object.__getattribute__") = false := by decide +kernel
theorem exc_call {tk : Tok} {R : Result → Shared → Prop} (X : K.In s.heap) (I : PySem.W.InstAt s.heap x ox C (some od)) (G : ExcG K C)
    (h : wpAny (model prog w) A.in1 (Builtin.«object.__getattribute__» ⟨[.ref x, .str name tk], []⟩) (fun fin s' => match fin with | .done f => R (.ok f) s' | .again c' => c'.quiet = true ∧ codeAny (model prog w) A c' R s') (fun e s' => R (.error e) s') s) :
    codeAny (model prog w) A (.call (.builtin "BaseException.__getattribute__") ⟨[.ref x, .str name tk], []⟩) R s := by
  have LT : PySem.W.Looks (model prog w) s.heap (typeOf (.ref x)) (.ref C) := I.type
  have sub' : PySem.W.Looks (model prog w) s.heap (isInstance (.ref x) (.type "BaseException")) true := LT.andThen (PySem.W.looks_mroIn X G.be)
  obtain ⟨hh, g, d, t, os⟩ := s
  exact codeAny_call_builtin F.attrBase_ValueError.ga.plain F.entry_bexc_ga (@PySem.W.check_slot (model prog w) _ _ ⟨hh, g, d, t, os⟩ "BaseException.__getattribute__" "BaseException" "__getattribute__" (.ref x) [.str name tk] [] _ ga_kind ga_split sub' (F.args_bexc_ga (.ref x) (.str name tk)) h)
theorem exc_value {expr : Bool} {v : Value} {Q : Value → Shared → Prop} (X : K.In s.heap) (I : PySem.W.InstAt s.heap x ox C (some od)) (G : ExcG K C) (hf : PySem.W.findObj K C (some od) name = some (.value v)) (hh : PySem.W.handedIn v = true) (h : Q v { s with toks := s.toks + 1 }) :
    wpAny (model prog w) A (getAttr (.ref x) name expr) Q E s := by
  have L0 := I.type (M := model prog w)
  have L1 := PySem.W.looks_findIn (M := model prog w) X G.ga
  have L2 := PySem.W.looks_findIn (M := model prog w) X G.gt
  have L3 := PySem.W.looks_find (M := model prog w) X I hf
  obtain ⟨hp, g, d, t, os⟩ := s
  unfold getAttr getAttrBy
  refine wpAny_bind (wpAny_mkText (wpAny_holding (wpAny_bind (L0.at (wpAny_bind (L1.at ?_))))))
  dsimp only
  rw [hx2, Bool.and_false, if_neg Bool.false_ne_true]
  unfold getAttrByItsOwn hookBefore
  rw [if_pos (by rfl)]
  refine wpAny_bind (L2.at (wpAny_bind (wpAny_attempt (wpAny_holding ?_))))
  unfold callGetattribute
  rw [if_neg (by cases expr <;> decide)]
  unfold boundAndCalled
  rw [F.attrBase_ValueError.ga.bind]
  refine wpAny_bind (wpAny_pure (wpAny_call (exc_call (s := ⟨hp, g, d, t + 1, os⟩) X I G ?_)))
  unfold Builtin.«object.__getattribute__»
  refine wpAny_bind (wpAny_pure (wpAny_bind (wpAny_pure (wpAny_bind (L0.at (wpAny_bind (L3.at ?_)))))))
  refine wpAny_pure ?_
  show wpAny _ _ (handedOut v) _ _ _
  rw [PySem.W.handedOut_of hh]
  exact wpAny_pure h
theorem exc_class {Q : Option Value → Shared → Prop} (X : K.In s.heap) (I : PySem.W.InstAt s.heap x ox C (some od)) (G : ExcG K C) (h : Q (some (.ref C)) { s with toks := s.toks + 1 }) : wpAny (model prog w) A (getAttr? (.ref x) "__class__") Q E s := by
  have hf : PySem.W.findObj K C (some od) "__class__" = some (.bind (.builtin "getset_descriptor.__get__") (.builtin "object.__class__")) := PySem.W.findObj_data (by obtain ⟨cd, hc, _⟩ := PySem.W.any_some G.hd; rw [hc]; rfl) G.cl G.gs G.tk
  have L0 := I.type (M := model prog w)
  have L1 := PySem.W.looks_findIn (M := model prog w) X G.ga
  have L2 := PySem.W.looks_findIn (M := model prog w) X G.gt
  have L3 := PySem.W.looks_find (M := model prog w) X I hf
  obtain ⟨hp, g, d, t, os⟩ := s
  unfold getAttr? getAttrBy? getAttrBy
  refine wpAny_bind (wpAny_mkText (wpAny_bind (wpAny_attempt (wpAny_holding (wpAny_bind (L0.at (wpAny_bind (L1.at ?_))))))))
  dsimp only
  rw [hx2, Bool.and_false, if_neg Bool.false_ne_true]
  unfold getAttrByItsOwn hookBefore
  rw [if_pos (by rfl)]
  refine wpAny_bind (L2.at (wpAny_bind (wpAny_attempt (wpAny_holding ?_))))
  unfold callGetattribute
  rw [if_neg (by decide)]
  unfold boundAndCalled
  rw [F.attrBase_ValueError.ga.bind]
  refine wpAny_bind (wpAny_pure (wpAny_call (exc_call (s := ⟨hp, g, d, t + 1, os⟩) X I G ?_)))
  unfold Builtin.«object.__getattribute__»
  refine wpAny_bind (wpAny_pure (wpAny_bind (wpAny_pure (wpAny_bind (L0.at (wpAny_bind (L3.at ?_)))))))
  show wpAny _ _ (holding [.builtin "object.__class__"] (call (.builtin "getset_descriptor.__get__") [.builtin "object.__class__", .ref x, .ref C]) >>= ret) _ _ _
  refine wpAny_bind (wpAny_holding (wpAny_call (PySem.W.class_get (s := ⟨hp, g, d, t + 1, os⟩) (ox := ox) (od := some od) X I G.ob (wpAny_pure ?_))))
  show wpAny _ _ (handedOut (.ref C)) _ _ _
  rw [PySem.W.handedOut_of rfl]
  exact wpAny_pure (wpAny_pure h)
theorem kitx_exc (G : ExcG K C) : PySem.W.KitX K (.ref x) (.ref C) (fun h => PySem.W.InstAt h x ox C (some od)) where
  ty := fun _ _ _ I => I.type
  it := fun _ _ X _ => by
    obtain ⟨cdD, hcD, _⟩ := PySem.W.any_some G.hd
    unfold PySem.W.clsIn at hcD
    split at hcD
    · rename_i ho
      intro A' Q' E' s' k q
      unfold isType loadHead
      exact wpAny_bind (wpAny_loadPart (k _ _ (X _ _ ho)) (wpAny_pure q))
    · cases hcD
  ne := fun h tp dd its n sl X htp => by
    obtain ⟨cdD, hcD, _⟩ := PySem.W.any_some G.hd
    refine Bool.eq_false_iff.mpr fun q => ?_
    have e : C = tp := Value.ref.inj (beq_iff_eq.mp q)
    subst e
    unfold PySem.W.clsIn at hcD
    split at hcD
    · rename_i ho
      have z := (X _ _ ho).symm.trans htp
      cases z
    · cases hcD
  ca := fun X I k => exc_class X I G k
end

section
variable {X : Cx} {K : PySem.W.Frag} {e : Expr} {f : Str} {pos : Pos} {ta : TE}
theorem exc_inst {P : Program} {w : World} {H : Hp} {h : Heap} {a C d : Addr} {t tb : Value} {u : HO} {fs : List (Str × V)} (ok : HOk P w H h) (ea : H a = some (.frz (excRec C (some d) t tb) u)) (ed : H d = some (excD d fs)) :
    ∃ (od : Obj) (mA : Str → Option Value), PySem.W.InstAt h a (excRec C (some d) t tb) C (some od) ∧ (∀ name, PySem.W.lookIn name od = some (mA name)) ∧ ∀ f, RelO (fs.lookup f) (mA f) := by
  obtain ⟨mA, ns, r, _⟩ := excD_at ok ed
  obtain ⟨od, ho, hl⟩ := lookIn_ns ns
  exact ⟨od, mA, ⟨(ok a _ ea).1, rfl, rfl, ho⟩, hl, r⟩
theorem call_isinstE (hK : X.K = K) : CallR X (.builtin "isinstance") (fun xs H Q => ∃ a C d t tb u fs c cv b, xs = [.ref a, c] ∧ H a = some (.frz (excRec C (some d) t tb) u) ∧ H d = some (excD d fs) ∧ ExcG K C ∧ RelV c cv ∧ (∀ cv', RelV c cv' → cv' = cv) ∧ PySem.W.kitOne K (.ref C) cv = some b ∧ Q (.bl b) H) := by
  subst hK
  intro pins s σ H xs us Q I r h
  obtain ⟨a, C, d, t, tb, u, fs, c, cv, b, rfl, ea, ed, G, rc, one, ek, q⟩ := h
  obtain ⟨u1, u2, rfl, r1, r2⟩ := vals2 r
  cases r1
  rw [one _ r2]
  obtain ⟨od, mA, J, _, _⟩ := exc_inst I.hok ea ed
  exact PySem.W.kia_one (kitx_exc G) I.kIn J ek (fun z => nomatch z) fun tk => ⟨.bl b, H, I.tok _, rfl, q⟩
noncomputable def tFldX (K : PySem.W.Frag) (ta : TE) (f : Str) : TE := fun σ H Q => ta σ H fun x H1 => ∃ a C d t tb u fs v, x = .ref a ∧ H1 a = some (.frz (excRec C (some d) t tb) u) ∧ H1 d = some (excD d fs) ∧ ExcG K C ∧ PySem.W.findIn K (.ref C) f = some none ∧ fs.lookup f = some v ∧ Q v H1
theorem pe_fldX (hK : X.K = K) (he : PE X e ta) (hb : attributeBase e f X.env (eval e X.env) = eval e X.env) : PE X (.Attribute e f pos) (tFldX K ta f) := by
  subst hK
  intro pins s σ H Q I h
  refine attr_of hb (thn (he pins s σ H _ I h) fun u0 s1 zz => ?_)
  obtain ⟨x, H1, I1, rx, a, C, d, t, tb, u, fs, v, ex, ea, ed, G, na, l, q⟩ := zz
  subst ex
  obtain rfl : u0 = Value.ref a := rx
  obtain ⟨od, mA, J, hl, r⟩ := exc_inst I1.hok ea ed
  obtain ⟨vv, hv, rv⟩ := RelO.some_of (v := v) (o := mA f) (by rw [← l]; exact r f)
  exact exc_value I1.kIn J G (PySem.W.findObj_own G.hd na rfl (by rw [hl, hv])) (handed_of rv) ⟨v, H1, I1.tok _, rv, q⟩
end
end L2

set_option Elab.async false
set_option linter.all false
set_option maxRecDepth 100000
set_option maxHeartbeats 1000000
/-! Defs that may be called while an exception is being handled. -/
namespace L2
open PySem PySem.Spec PyProof.Rows
structure RoomH (k : Nat) (A : Around) : Prop where
  dp : A.depth + 3 * k + 5 < recursionLimit
  un : A.units + 16 * k + 200 < cLine
theorem RoomH.deeper {k : Nat} {A : Around} (r : RoomH (k + 1) A) (env : Env) : RoomH k (A.deeper env) := ⟨by have := r.dp; show A.depth + 1 + 3 * k + 5 < _; omega, by have := r.un; show A.units + 3 + 16 * k + 200 < _; omega⟩
theorem RoomH.units {k : Nat} {A : Around} (r : RoomH k A) : A.units + 64 < cLine := by have := r.un; omega
noncomputable def HandE (A : Around) (H : Hp) : Prop := A.handled = none ∨ ∃ (a C : Addr) (dx : Option Addr) (t tb : Value) (u : HO), A.handled = some (.ref a) ∧ H a = some (.frz (excRec C dx t tb) u)
structure FnOkH (P : Program) (w : World) (K : PySem.W.Frag) (mg : Str → Option Value) (base : Heap) (CX : CXT) (k : Nat) (f : Addr) (fd : FuncData) (ps : List Str) (sp : Sp) : Prop where
  len : ∀ vs H Q E, sp vs H Q E → vs.length = ps.length
  run : ∀ (A : Around) (outer : List Env) (s : Shared) (H : Hp) (args : Args) (us : List Value) (vs : List V) (Q : VK) (E : XK), RoomH k A → HandE A H → Env0 P w K mg base A outer s H → BindsTo s fd args (ps.zip us) → Vals vs us → sp vs H Q E →
    codeAny (model P w) A (.call (.ref f) args) (CR CX outer P w H s Q E) s

noncomputable def cxH (CX : CXT) (P : Program) (w : World) (K : PySem.W.Frag) (mg : Str → Option Value) (base : Heap) (N : List Str) (qual : Str) (scope : Scope) (f : Addr) (cd : Value) (A : Around) (outer : List Env) (s : Shared) (H : Hp) (E : XK) : Cx where
  prog := P
  w := w
  K := K
  mg := mg
  base := base
  A := A.deeper (envOfC qual scope s.heap.objs.size f cd)
  N := N
  s₀ := s
  H₀ := H
  env := envOfC qual scope s.heap.objs.size f cd
  outer := outer
  stack := envOfC qual scope s.heap.objs.size f cd :: outer
  ex := []
  calm := false
  fn := fun _ => true
  pn := []
  xe := fun e s' => wpAny (model P w) (A.deeper (envOfC qual scope s.heap.objs.size f cd)) (leaving (envOfC qual scope s.heap.objs.size f cd) e) (fun _ s'' => CX outer H s E e s'') (fun e' s'' => CX outer H s E e' s'') s'


theorem inv_startH {CX : CXT} {P : Program} {w : World} {K : PySem.W.Frag} {mg : Str → Option Value} {base : Heap} {N ps : List Str} {qual : Str} {scope : Scope} {f : Addr} {cd : Value} {A : Around} {outer : List Env} {s s1 : Shared} {H : Hp} {E : XK} {us : List Value} {vs : List V}
    (S : FnScope N ps scope) (e0 : Env0 P w K mg base A outer s H) (hl : vs.length = ps.length) (r : Vals vs us)
    (x : InCallC s s.heap.objs.size (bindL (envOfC qual scope s.heap.objs.size f cd).kindOf (ps.zip us) fun _ => none) (cellsFrom (s.heap.objs.size + 1) scope.names []) (bindC (envOfC qual scope s.heap.objs.size f cd).kindOf (ps.zip us) fun _ => none) s1) :
    Inv (cxH CX P w K mg base N qual scope f cd A outer s H E) [] (start N vs) H s1 := by
  have hpl : ps.length ≤ N.length := by have := congrArg List.length S.pre; rw [List.length_take] at this; omega
  obtain ⟨h1, tk, rfl, hk⟩ := x.done
  have noA : ∀ b : Addr, b ∉ (cxH CX P w K mg base N qual scope f cd A outer s H E).ex := fun b z => absurd (show b ∈ ([] : List Addr) from z) (by simp)
  refine ⟨⟨e0.mod, S.kind, rfl, rfl, Nat.le_refl _, fun y z c h1 h2 => ?_, fun y hy => ?_, fun y c _ h => ?_, (fun z => absurd (show false = true from z) Bool.false_ne_true), Around.frames_deeper e0.frames, .inr ⟨rfl, rfl⟩, fun b z => absurd z (noA b), e0.bs, e0.bsz, fun b _ _ => noA b, fun b z => absurd z (noA b), e0.funs, e0.frf⟩,
    rfl, e0.bare, Un.kept hk, ⟨_, x.toInCall.ns, fun i y v h1 h2 h3 => ?_⟩, fun y c h => ⟨_, x.cell y c h⟩, e0.hok.fresh (Nat.le_refl _), fun y c h => ?_, fun p hp => absurd (show p ∈ ([] : List (Addr × Obj)) from hp) (by simp), e0.hok.kept hk, ?_⟩
  · exact name_of_addr x.apart (PySem.mem_of_lookup h1) (PySem.mem_of_lookup h2)
  · have hy : scope.names.lookup y = some .cell ∨ scope.names.lookup y = some .free := hy
    rcases hy with hy | hy
    · exact cell_has hy
    · exact absurd rfl (S.nofree _ (PySem.mem_of_lookup hy))
  · exact Nat.le_of_lt (x.above y c (PySem.mem_of_lookup h))
  · have hi : i < vs.length := by
      unfold start at h2
      by_cases hi : i < vs.length
      · exact hi
      · rw [List.getElem?_append_right (by simpa using hi)] at h2
        rw [List.getElem?_replicate] at h2
        split at h2 <;> cases h2
    have ha : vs[i]? = some v := by
      unfold start at h2
      rw [List.getElem?_append_left (by simpa using hi), List.getElem?_map] at h2
      cases e : vs[i]? with
      | none => rw [e] at h2; cases h2
      | some a => rw [e] at h2; cases h2; rfl
    obtain ⟨u, hu, rv⟩ := r.get ha
    have hp : ps[i]? = some y := by
      rw [← S.pre, List.getElem?_take_of_lt (by omega)]; exact h1
    have ndP : ps.Nodup := by rw [← S.pre]; exact S.nd.sublist (List.take_sublist _ _)
    refine ⟨u, rv, ?_⟩
    rcases S.par y (List.mem_of_getElem? hp) with k | k
    · exact .inl ⟨k, bindL_get ndP hp hu k⟩
    · obtain ⟨c, e⟩ := cell_has (n := s.heap.objs.size + 1) k
      refine .inr ⟨.inl k, c, e, ?_⟩
      have q := x.cell y c e
      rw [bindC_get ndP hp hu (by show scope.names.lookup y ≠ _; rw [k]; decide)] at q
      exact q
  · exact e0.hok.fresh (Nat.le_of_lt (x.above y c (PySem.mem_of_lookup h)))
  · unfold start
    show _ = N.length
    rw [List.length_append, List.length_map, List.length_replicate]
    omega


theorem fn_ofH {CX : CXT} {P : Program} {w : World} {K : PySem.W.Frag} {mg : Str → Option Value} {base : Heap} {k : Nat} {f : Addr} {name qual : Str} {params : Arguments} {body : List Stmt} {scope : Scope} {dV kV doc pm cdv ct oc : Value} {an od : Option Addr}
    {osl : Array (Option Value)} {N ps : List Str} {sp : Sp} (lk : K.lookup f = some ⟨oc, od, .func (PySem.W.fnOf name qual params body scope dV kV doc pm an cdv ct), osl⟩) (hcd : PySem.W.codeIn K cdv qual = true) (S : FnScope N ps scope)
    (len : ∀ vs H Q E, sp vs H Q E → vs.length = ps.length)
    (hbody : ∀ (A : Around) (outer : List Env) (s : Shared) (H : Hp) (vs : List V) (Q : VK) (E : XK), RoomH k (A.deeper (envOfC qual scope s.heap.objs.size f cdv)) → HandE A H → sp vs H Q E →
      ∃ t, PSs (cxH CX P w K mg base N qual scope f cdv A outer s H E) body t ∧ t { nx := fun _ H' => Q .non H', rt := Q } (start N vs) H) :
    FnOkH P w K mg base CX (k + 1) f (PySem.W.fnOf name qual params body scope dV kV doc pm an cdv ct) ps sp := by
  refine ⟨len, fun A outer s H args us vs Q E hr hh e0 hb r hsp => ?_⟩
  have hl := len _ _ _ _ hsp
  have KX : K.In s.heap := e0.mod.kin.keeps fun b o e => (e0.bs b o e).1
  have lim : s.heap.NoLimit := e0.mod.nolimit.keeps fun b o e => (e0.bs b o e).1
  have hkind : ∀ y ∈ ps.zip us, scope.names.lookup y.1 = some .local ∨ (scope.names.lookup y.1 = some .cell ∧ ((cellsFrom (s.heap.objs.size + 1) scope.names []).lookup y.1).isSome = true) := fun ⟨n, v⟩ hy => by
    rcases S.par n (List.of_mem_zip hy).1 with q | q
    · exact .inl q
    · exact .inr ⟨q, PySem.W.cellsFrom_some _ _ _ (.inl q)⟩
  refine codeAny_call_function (show A.depth < recursionLimit from by have := hr.dp; omega) (KX _ _ lk) rfl S.co S.gen rfl (PySem.W.codeRec_of KX hcd) (hb _ _ _ _ ?_)
  refine wpAny_newFunctionEnv_cells S.kind hkind fun env he s1 x => ?_
  subst he
  refine ⟨lim.keeps x.toInCall.keep, codeAny_func ?_⟩
  obtain ⟨t, ht, hq⟩ := hbody A outer s H vs Q E (hr.deeper _) hh hsp
  have I : Inv (cxH CX P w K mg base N qual scope f cdv A outer s H E) [] (start N vs) H s1 := inv_startH S e0 hl r x
  refine wpAny_mono (ht [] s1 (start N vs) H _ I hq) (fun fl s' hs => ?_) fun e s' hs => hs
  have fin : ∀ {σ' : St} {H' : Hp} {v : V} {u : Value}, Inv (cxH CX P w K mg base N qual scope f cdv A outer s H E) [] σ' H' s' → RelV v u → Q v H' → CE outer P w H s Q u s' :=
    fun {σ' H' v u} J rv q => ⟨v, H', J.os, J.bare, J.base, J.hok, rv, q⟩
  cases fl with
  | ret u =>
    obtain ⟨v, σ', H', J, rv, q⟩ := hs
    exact fin J rv q
  | next =>
    obtain ⟨σ', H', J, q⟩ := hs
    exact fin (v := V.non) (u := Value.none) J rfl q
  | brk =>
    obtain ⟨_, _, _, q⟩ := hs
    exact False.elim q
  | cont =>
    obtain ⟨_, _, _, q⟩ := hs
    exact False.elim q

section
variable {P : Program} {w : World} {K : PySem.W.Frag} {mg : Str → Option Value} {base : Heap}
theorem Fun.okH {x qual : Str} {st : Stmt} {f : Addr} {fd : FuncData} {N ps : List Str} {k : Nat} {sp : Sp} (F : Fun K x qual st f fd) (S : FnScope N ps (defScope st)) (len : ∀ vs H Q E, sp vs H Q E → vs.length = ps.length)
    (hbody : ∀ (cdv : Value) (A : Around) (outer : List Env) (s : Shared) (H : Hp) (vs : List V) (Q : VK) (E : XK), RoomH k (A.deeper (envOfC qual (defScope st) s.heap.objs.size f cdv)) → HandX (cxH CX0 P w K mg base N qual (defScope st) f cdv A outer s H E).nox → sp vs H Q E →
      ∃ t, PSs (cxH CX0 P w K mg base N qual (defScope st) f cdv A outer s H E).nox (defBody st) t ∧ t { nx := fun _ H' => Q .non H', rt := Q } (start N vs) H) : FnOkH P w K mg base CX0 (k + 1) f fd ps sp := by
  obtain ⟨oc, od, kV, doc, pm, an, cdv, ct, osl, rfl, lk, hcd⟩ := F.ex
  refine fn_ofH lk hcd S len fun A outer s H vs Q E hr hh hsp => ?_
  obtain ⟨t, h, q⟩ := hbody cdv A outer s H vs Q E hr hh hsp
  exact ⟨t, h.nox, q⟩
end
section
variable {X : Cx} {CX : CXT} {k : Nat} {f : Addr} {fd : FuncData} {ps : List Str} {sp : Sp} {dvs : List V} {ds : List Value} {E : XK} {x : Str} {p pos : Pos} {e : Expr} {es : List Expr} {t : TA}
theorem run_fnH {pins : List (Addr × Obj)} {σ : St} {H : Hp} {s : Shared} {Q : VK} {us : List Value} {vs : List V} (F : FnOkH X.prog X.w X.K X.mg X.base CX k f fd ps sp) (hr : RoomH k X.A) (hh : HandE X.A H) (hb : Binds X.K fd ps ds) (hd : Vals dvs ds) (hx : Passes CX X E)
    (I : Inv X pins σ H s) (r : Vals vs us) (h : sp (vs ++ dvs) H Q E) : wpAny (model X.prog X.w) X.A (call (.ref f) us) (EP X pins σ Q) X.xe s := by
  have r2 : Vals (vs ++ dvs) (us ++ ds) := r.append hd
  have hl : (us ++ ds).length = ps.length := by rw [← r2.length]; exact F.len _ _ _ _ h
  refine wpAny_call (codeAny_mono (F.run X.A X.stack s H ⟨us, []⟩ (us ++ ds) (vs ++ dvs) Q E hr hh I.env0 (hb s us I.kIn hl) r2 h) fun r s' hq => ?_)
  cases r with
  | error e => exact hx pins σ H s e s' I hq
  | ok fl =>
    cases fl with
    | ret u => exact I.after hq
    | next => exact False.elim hq
    | brk => exact False.elim hq
    | cont => exact False.elim hq
noncomputable def tCallX (a : Addr) (sp : Sp) (dvs : List V) (E : XK) (t : TA) : TE := fun σ H Q => t σ H fun vs H1 => (∃ C dx tt tb u, H1 a = some (.frz (excRec C dx tt tb) u)) ∧ sp (vs ++ dvs) H1 Q E
theorem pe_callX {a : Addr} (hA : X.A.handled = some (.ref a)) (F : FnOkH X.prog X.w X.K X.mg X.base CX k f fd ps sp) (hr : RoomH k X.A) (hg : Gl X x) (hm : X.mg x = some (.ref f)) (hk : PySem.W.keepIn X.K (.ref f) = true) (hb : Binds X.K fd ps ds) (hd : Vals dvs ds) (hx : Passes CX X E)
    (ha : PA X (e :: es) t) (hdb : (x == ("__debug__" : Str)) = false := by decide) (he : starEach (e :: es) X.env = (false, eval e X.env) :: starEach es X.env := by rfl) (hpl : (backTo pos (starEach es X.env)).any (·.1) = false := by rfl) :
    PE X (.Call (.Name x p) (e :: es) [] pos) (tCallX a sp dvs E t) := by
  intro pins s σ H Q I h
  refine wpAny_Call_Name_kw (ld_glob I hg hm ?_ hdb)
  refine PySem.W.callWith_K (h₀ := X.base) I.ok.mod.kin hk (thn (ha pos pins s σ H _ I h) fun us s1 zz => ?_) he hpl
  obtain ⟨vs, H1, I1, r, ⟨C, dx, tt, tb, u, hz⟩, q⟩ := zz
  refine ⟨I1.kIn, ?_⟩
  exact run_fnH F hr (.inr ⟨a, C, dx, tt, tb, u, hA, hz⟩) hb hd hx I1 r q
end
/-! ### targets -/
end L2

set_option Elab.async false
set_option linter.all false
set_option maxRecDepth 100000
set_option maxHeartbeats 1000000
namespace L2
open PySem PySem.Spec PyProof.Rows
/-! ### two lists, two tuples of flat values -/
noncomputable def allEq (xs ys : List V) : Bool := (List.range xs.length).all fun j => eqV (xs.getD j .non) (ys.getD j .non)
theorem flat_get : ∀ {xs : List V} {j : Nat} {x : V}, xs.all flatV = true → xs[j]? = some x → flatV x = true
  | [], _, _, _, e => by simp at e
  | y :: xs, j, x, h, e => by
    rw [List.all_cons, Bool.and_eq_true] at h
    cases j with
    | zero => simp at e; subst e; exact h.1
    | succ j => exact flat_get h.2 (by simpa using e)
theorem eqAt_of {A : Around} {s : Shared} {xs ys : List V} {us vs : List Value} (r1 : Vals xs us) (r2 : Vals ys vs) (f1 : xs.all flatV = true) (f2 : ys.all flatV = true) (j : Nat) (h1 : j < us.toArray.size) (h2 : j < vs.toArray.size) :
    SeqAt.EqAt A s us.toArray[j] vs.toArray[j] (eqV (xs.getD j .non) (ys.getD j .non)) := by
  have l1 := r1.length
  have l2 := r2.length
  rw [List.size_toArray] at h1 h2
  have g1 : xs[j]? = some (xs.getD j .non) := by rw [List.getD_eq_getElem?_getD, List.getElem?_eq_getElem (by omega)]; rfl
  have g2 : ys[j]? = some (ys.getD j .non) := by rw [List.getD_eq_getElem?_getD, List.getElem?_eq_getElem (by omega)]; rfl
  obtain ⟨u, hu, ru⟩ := r1.get g1
  obtain ⟨v, hv, rv⟩ := r2.get g2
  have e1 : us.toArray[j] = u := by
    have := (List.getElem?_eq_some_iff.mp hu).2
    simpa using this
  have e2 : vs.toArray[j] = v := by
    have := (List.getElem?_eq_some_iff.mp hv).2
    simpa using this
  rw [e1, e2]
  exact eqAt_V ru rv (flat_get f1 g1) (flat_get f2 g2)
section
variable {X : Cx} {K : PySem.W.Frag}
noncomputable def rEqF (K : PySem.W.Frag) : R2 := fun x y H Q => ∃ p q xs ys, x = .ref p ∧ y = .ref q ∧ SqL K H p xs ∧ SqL K H q ys ∧ xs.all flatV = true ∧ ys.all flatV = true ∧ xs.length = ys.length ∧ Q (.bl (allEq xs ys)) H
theorem op_eqF (hK : X.K = K) (hu : X.A.units + 64 < cLine) : OpR X (compareOp .Eq) (rEqF K) := by
  subst hK
  intro pins s σ H x y v u Q I rx ry h
  obtain ⟨p, q, xs, ys, rfl, rfl, h1, h2, f1, f2, hl, hq⟩ := h
  cases rx
  cases ry
  obtain ⟨us, r1, p1, _⟩ := I.list h1
  obtain ⟨vs, r2, p2, _⟩ := I.list h2
  have l1 := r1.length
  have l2 := r2.length
  refine SeqAt.eq_listAt p1.isList p2.isList (by rw [List.size_toArray, List.size_toArray]; omega) (by omega) (eqAt_of r1 r2 f1 f2) ⟨.bl _, H, I, rfl, ?_⟩
  rw [List.size_toArray, ← l1]
  exact hq
end
end L2

set_option Elab.async false
set_option linter.all false
set_option maxRecDepth 100000
set_option maxHeartbeats 1000000
namespace L2
open PySem PySem.Spec PyProof.Rows
section
variable {X : Cx} {K : PySem.W.Frag}
noncomputable def rNeNil (K : PySem.W.Frag) : R2 := fun x y H Q => ∃ p q xs, x = .ref p ∧ y = .ref q ∧ SqL K H p xs ∧ SqL K H q [] ∧ Q (.bl (!xs.isEmpty)) H
theorem op_neNil (hK : X.K = K) (hu : X.A.units + 64 < cLine) : OpR X (compareOp .NotEq) (rNeNil K) := by
  subst hK
  intro pins s σ H x y v u Q I rx ry h
  obtain ⟨p, q, xs, rfl, rfl, h1, h2, hq⟩ := h
  cases rx
  cases ry
  obtain ⟨us, r1, p1, _⟩ := I.list h1
  obtain ⟨vs, r2, p2, _⟩ := I.list h2
  have l1 := r1.length
  have l2 := r2.length
  have v0 : vs = [] := List.length_eq_zero_iff.mp l2.symm
  subst v0
  cases xs with
  | nil =>
    have u0 : us = [] := List.length_eq_zero_iff.mp l1.symm
    subst u0
    exact SeqAt.RcNeAt.lists (e := fun _ => true) p1.isList p2.isList rfl (by omega) (fun j h1 _ => absurd h1 (Nat.not_lt_zero _)) _ _ _ _ ⟨.bl _, H, I, rfl, hq⟩
  | cons a t =>
    refine SeqAt.RcNeAt.lists_lengths p1.isList p2.isList ?_ (by omega) _ _ _ _ ⟨.bl _, H, I, rfl, hq⟩
    rw [List.size_toArray, ← l1]
    rfl
end
end L2

set_option Elab.async false
set_option linter.all false
set_option maxRecDepth 100000
set_option maxHeartbeats 1000000
namespace L2
open PySem PySem.Spec PyProof.Rows
/-! ### min of a list of ints -/
section
variable {X : Cx} {K : PySem.W.Frag}
end
end L2

set_option Elab.async false
set_option linter.all false
set_option maxRecDepth 100000
set_option maxHeartbeats 1000000
namespace L2
open PySem PySem.Spec PyProof.Rows
/-! ### calls in a try's body, the exception's way told with the names' values -/
section
variable {X : Cx} {pins0 : List (Addr × Obj)} {Ex : Addr → Option Addr → St → Hp → Prop} {k : Nat} {f : Addr} {fd : FuncData} {ps : List Str} {sp : Sp} {dvs : List V} {ds : List Value} {x : Str} {p pos : Pos} {e : Expr} {es : List Expr} {t : TA}
noncomputable def tCallT (sp : Sp) (dvs : List V) (Ex : Addr → Option Addr → St → Hp → Prop) (t : TA) : TE := fun σ H Q => t σ H fun vs H1 => sp (vs ++ dvs) H1 Q (fun C dx H' => ∃ c, C = .ref c ∧ Ex c dx σ H')
theorem pe_callT (F : FnOk X.prog X.w X.K X.mg X.base (CX1 X.prog X.w) k f fd ps sp) (hr : Room k X.A) (hg : Gl X x) (hm : X.mg x = some (.ref f)) (hk : PySem.W.keepIn X.K (.ref f) = true) (hb : Binds X.K fd ps ds) (hd : Vals dvs ds)
    (ha : PA (tryCx X pins0 Ex) (e :: es) t) (hdb : (x == ("__debug__" : Str)) = false := by decide) (he : starEach (e :: es) X.env = (false, eval e X.env) :: starEach es X.env := by rfl) (hpl : (backTo pos (starEach es X.env)).any (·.1) = false := by rfl) :
    PE (tryCx X pins0 Ex) (.Call (.Name x p) (e :: es) [] pos) (tCallT sp dvs Ex t) := by
  intro pins s σ H Q I h
  refine wpAny_Call_Name_kw (ld_glob (X := tryCx X pins0 Ex) I hg hm ?_ hdb)
  refine PySem.W.callWith_K (h₀ := X.base) I.ok.mod.kin hk (thn (ha pos pins s σ H _ I h) fun us s1 zz => L2.el5 zz fun vs H1 I1 r q => ⟨I1.kIn, ?_⟩) he hpl
  have r2 : Vals (vs ++ dvs) (us ++ ds) := r.append hd
  have hl : (us ++ ds).length = ps.length := by rw [← r2.length]; exact F.len _ _ _ _ q
  refine wpAny_call (codeAny_mono (F.run X.A X.stack s1 H1 ⟨us, []⟩ (us ++ ds) (vs ++ dvs) Q _ hr I1.env0 (hb s1 us I1.kIn hl) r2 q) fun r s' hq => ?_)
  cases r with
  | error e =>
    obtain ⟨a, C, dx, H', rfl, os, bare, un, hok, fl, c, hc, hE⟩ := hq
    cases hc
    have I' := I1.call' (s' := s') (ch := []) os un hok bare (fun b z => absurd z (by simp))
    exact ⟨a, C, dx, σ, H', σ, H1, s1, rfl, I1.untry, I'.untry, fun b o e => un.there b o e (by simp), fl, hE⟩
  | ok fl =>
    cases fl with
    | ret u => exact I1.after hq
    | next => exact False.elim hq
    | brk => exact False.elim hq
    | cont => exact False.elim hq
theorem passN {P : Program} {w : World} {X : Cx} : Passes (CX1 P w) X E0 := fun _ _ _ _ _ _ _ h => by
  obtain ⟨_, _, _, _, _, _, _, _, _, _, z⟩ := h
  exact z.elim
end
/-! ### x is not None -/
end L2

set_option Elab.async false
set_option linter.all false
set_option maxRecDepth 100000
set_option maxHeartbeats 1000000
namespace L2
open PySem PySem.Spec PyProof.Rows
theorem bls_get : ∀ {bs : List Bool} {us : List Value} {i : Nat} {v : Value}, Vals (bs.map V.bl) us → us[i]? = some v → ∃ b, bs[i]? = some b ∧ v = .bool b
  | [], _, i, v, h, e => by cases h; simp at e
  | b :: r, _, 0, v, h, e => by
    cases h with
    | cons q tl => simp at e; subst e; exact ⟨b, rfl, q⟩
  | b :: r, _, i + 1, v, h, e => by
    cases h with
    | cons q tl => simp at e; simpa using bls_get tl e
section
variable {X : Cx}
theorem call_allL (hc : X.calm = true) : CallR X (.builtin "all") (fun xs H Q => ∃ (p : Addr) (bs : List Bool), xs = [.ref p] ∧ H p = some (.lst (bs.map V.bl)) ∧ Q (.bl (bs.all id)) H) := by
  intro pins s σ H xs us Q I r h
  obtain ⟨p, bs, rfl, hp, q⟩ := h
  obtain ⟨u, rfl, ru⟩ := vals1 r
  obtain rfl : u = Value.ref p := ru
  obtain ⟨hz, its, n, rv, e⟩ := I.hok p _ hp
  have hl : s.heap.IsList p its.toArray := ⟨_, e, rfl, n, rfl⟩
  have hlt : p < s.heap.objs.size := Heap.lt_size e
  have hh := I.ok.hd hc
  have hlen : its.length = bs.length := by rw [← rv.length, List.length_map]
  refine call_all_walk (wpAny_pyIter_list hl ?_)
  refine ⟨s.heap.objs.size, [s.heap.objs.size, p], [s.heap.objs.size], its.toArray.size, _, _, fun i => (bs[i]?).getD true, rfl, Walks.list (A := X.A.in1) hh _ p (Nat.ne_of_lt hlt) its.toArray,
    ⟨⟨_, Heap.get?_push_size _ rfl, rfl, rfl⟩, hl.push _⟩, fun i v s' Q' E' hP hQ => ?_, fun h' tk hk => ?_⟩
  · obtain ⟨b, e, rfl⟩ := bls_get rv (by simpa using hP)
    simp only [e, Option.getD_some] at hQ
    exact wpAny_truthy_bool hQ
  · have e : ((List.range its.toArray.size).all fun i => (bs[i]?).getD true) = bs.all id := by
      rw [List.size_toArray, hlen]; exact PyProof.Rows.LSm.range_all bs
    rw [e]
    exact ⟨.bl (bs.all id), H, I.kept (PyProof.Rows.LSm.kept_iter hk), rfl, q⟩
end
end L2

set_option Elab.async false
set_option linter.all false
set_option maxRecDepth 100000
set_option maxHeartbeats 1000000
/-! Texts over the hand layer: going through one, split, join, startswith, slices, f-strings, int of one. -/
namespace L2
open PySem PySem.Spec PyProof.Rows
section
variable {prog : Program} {w : World} {A : Around} {E : Value → Shared → Prop} {s : Shared}
theorem ascii_end_hd {it : Addr} {x : Str} {t : Tok} {i : Nat} {Q : Option Value → Shared → Prop} (q : Hd A s.heap) (hit : s.heap.IsStrIter it "str_ascii_iterator" x t i) (hx : x.cps[i]? = none)
    (hQ : ∀ h', Heap.ExtBut it s.heap h' → Q none { s with heap := h' }) : wpAny (model prog w) A (pyNext (.ref it)) Q E s := by
  obtain ⟨o, ho, hc, hd⟩ := id hit
  unfold pyNext
  refine wpAny_bind (wpAny_attempt (wpAny_callSpecial?_slot (name := Str.ofString "__next__") hit.typeIs F.slot_str_ascii_iterator_next
    (wpAny_call_entry F.slot_str_ascii_iterator_next hit.typeIs F.entry_str_ascii_iterator_next ?_ (F.args_str_ascii_iterator_next_1 _))))
  show wpAny _ _ (field (.ref it) 0 >>= _) _ _ s
  refine wpAny_bind (wpAny_field ho hd (x := .str x t) rfl ?_)
  show wpAny _ _ (field (.ref it) 1 >>= _) _ _ s
  refine wpAny_bind (wpAny_field ho hd (x := .int i 0) rfl ?_)
  simp only [Int.toNat_natCast, hx]
  refine wpAny_bind (wpAny_rule (wpAny_bind (wpAny_setField ho hd (by simp) (wpAny_bind (wpAny_letGo ?_)))))
  have other : ∀ b o, b ≠ it → s.heap.get? b = some o → (s.heap.update it (Obj.mapFields (·.setIfInBounds 0 Value.none))).get? b = some o := fun b o hb e => (Heap.get?_update_other _ _ (Ne.symm hb)).trans e
  refine stop_hd (A := A.in1) (s := { s with heap := s.heap.update it (Obj.mapFields (·.setIfInBounds 0 Value.none)) }) (Hd.keep (A := A.in1) q fun b C dx t tb e => other b _ (fun z => ?_) e) fun e h' kk te => ?_
  · rw [z, ho] at e
    cases e
    cases hc
  · refine wpAny_bind (wpAny_mono (ends_hd (s0 := s) (fun b o hb z => kk b o (other b o hb z)) te hQ) (fun b s' z => ?_) fun _ _ z => z)
    obtain ⟨rfl, z⟩ := z
    exact wpAny_pure z
end
noncomputable def Its (z : Str) : It := ⟨fun i _ => i < z.cps.size, fun i H x H' => H' = H ∧ ∃ c, z.cps[i]? = some c ∧ x = .str ⟨#[c]⟩, fun i _ => z.cps.size ≤ i⟩
theorem turn_str {P : Program} {w : World} {K : PySem.W.Frag} {tg : Expr} (z : Str) (t : Tok) (it : Addr) : Turn P w K tg (Its z) [it] it (fun i h => h.IsStrIter it "str_ascii_iterator" z t i) where
  mem := by simp
  obj := fun i h st b hb => by
    have e : b = it := by simpa using hb
    subst e
    obtain ⟨o, e, c, d⟩ := st
    exact ⟨o, e, fun v z => by rw [d] at z; cases z⟩
  keep := fun i h h' st k => let ⟨o, ho, r⟩ := st; ⟨o, k it (by simp) o ho, r⟩
  item := by
    intro X hP hw hK hc i pins s σ H E I hf st hg
    subst hP hw hK
    have hg : i < z.cps.size := hg
    obtain ⟨f0, f1, f2, f3, f4, f5⟩ := hf it (by simp)
    refine wpAny_pyNext_ascii_item st (c := z.cps[i]) (by simp [hg]) fun h' st' sb => ?_
    have I1 : Inv X pins σ H { s with heap := h', toks := s.toks + 1 } := I.turned (t' := s.toks + 1) (fun b o hb e => (sb.2 b hb).trans e) f0 f1 f3 f4 f5
    obtain ⟨o, e, c, d⟩ := id st'
    exact ⟨_, rfl, go_of (s := { s with heap := h', toks := s.toks + 1 }) e c d (by decide) ⟨.str ⟨#[z.cps[i]]⟩, H, I1, ⟨_, rfl⟩, ⟨rfl, _, by simp [hg], rfl⟩, st', fun b hb => (hf b hb).1⟩⟩
  done := by
    intro X hP hw hK hc i pins s σ H E I hf st hg
    subst hP hw hK
    have hg : z.cps.size ≤ i := hg
    obtain ⟨f0, f1, f2, f3, f4, f5⟩ := hf it (by simp)
    exact ascii_end_hd (hd_of hc I) st (by simp [hg]) fun h' eb => ⟨rfl, I.turned (t' := s.toks) (fun b o hb e => eb b o hb e) f0 f1 f3 f4 f5⟩
  self := fun _ _ _ _ _ st h => wpAny_pyIter_striter_ascii st h
section
variable {X : Cx} {tg : Expr}
noncomputable def iStr (tl : TE) : TI := fun σ H R => tl σ H fun x H1 => ∃ z : Str, x = .str z ∧ z.cps.all (· < 128) = true ∧ R (Its z) H1
theorem pi_str {l : Expr} {tl : TE} (hl : PE X l tl) : PI X tg l (iStr tl) := by
  intro pins s σ H R I h
  refine thn (hl pins s σ H _ I h) fun v s1 zz => ?_
  obtain ⟨x, H1, I1, r1, q1⟩ := zz
  obtain ⟨z, e, ha, q⟩ := q1
  subst e
  obtain ⟨t, rfl⟩ := r1
  refine wpAny_pyIter_ascii ha ?_
  refine ⟨s1.heap.objs.size, [s1.heap.objs.size], _, _, H1, rfl, I1.kept (t' := s1.toks) fun b o e => Heap.get?_push_of_some _ e, turn_str z t _, ⟨_, Heap.get?_push_size _ rfl, rfl, rfl⟩, fun b hb => ?_, q⟩
  have e : b = s1.heap.objs.size := by simpa using hb
  subst e
  exact I1.fpOk (Nat.le_refl _) (I1.hok.fresh (Nat.le_refl _))
end
theorem comp_str {js : List (Option Nat)} {g : TG} {tc : TT} {te : TE} {σ : St} {H : Hp} {D : Addr} {Q : VK} {z : Str} (Pv : Nat → St → Hp → Prop) (h0 : Pv 0 (startC js σ) (upd H D (.lst [])))
    (hs : ∀ i c σ' H', z.cps[i]? = some c → Pv i σ' H' → g (.str ⟨#[c]⟩) σ' H' fun σ3 H3 => tc σ3 H3 fun ok H4 => if ok = true then te σ3 H4 fun y H5 => ∃ ys, H5 D = some (.lst ys) ∧ ys.length < sizeLine ∧ Pv (i + 1) σ3 (upd H5 D (.lst (ys ++ [y]))) else Pv (i + 1) σ3 H4)
    (hd : ∀ σ' H', Pv z.cps.size σ' H' → Q (.ref D) H') :
    CompRun js g tc te σ Q (Its z) H D := by
  refine ⟨fun i m σ H => m = z.cps.size - i ∧ i ≤ z.cps.size ∧ Pv i σ H, ⟨z.cps.size, by simp, Nat.zero_le _, h0⟩, ?_⟩
  rintro i m σ' H' ⟨rfl, hi, p⟩
  by_cases hlt : i < z.cps.size
  · refine .inr ⟨hlt, Pv (i + 1), fun σ2 H2 p' => ⟨z.cps.size - (i + 1), by omega, rfl, hlt, p'⟩, fun x H2 y => ?_⟩
    obtain ⟨e, c, hc, y⟩ := y
    subst e y
    exact hs i c σ' _ hc p
  · have e : i = z.cps.size := by omega
    subst e
    exact .inl ⟨Nat.le_refl _, hd σ' H' p⟩

/-! ### methods -/
theorem strs_of : ∀ {ys : List Str} {us : List Value}, Vals (ys.map V.str) us → StrsAre us ys
  | [], _, .nil => .nil
  | y :: r, _, .cons ⟨t, e⟩ h => by
    subst e
    exact .cons y t (strs_of h)
theorem vals_strs : ∀ (l : List (Str × Tok)), Vals ((l.map (·.1)).map V.str) (strValues l)
  | [] => .nil
  | (x, t) :: r => .cons ⟨t, rfl⟩ (vals_strs r)
section
variable {X : Cx}
theorem mt_join : MtM X "str.join" (fun x vs H Q => ∃ (z : Str) (p : Addr) (ys : List Str), x = .str z ∧ vs = [.ref p] ∧ H p = some (.lst (ys.map V.str)) ∧ (ys.map (·.length)).sum + ys.length * z.length ≤ 16777216 ∧ Q (.str (Txt.join z ys)) H) := by
  intro pins s σ H x vs v us Q I rx rv h
  obtain ⟨z, p, ys, rfl, rfl, hp, hok, q⟩ := h
  obtain ⟨t, rfl⟩ := rx
  obtain ⟨u, rfl, ru⟩ := rv.one
  obtain rfl : u = Value.ref p := ru
  obtain ⟨hz, its, n, r, e⟩ := I.hok p _ hp
  exact join_list ⟨_, e, rfl, n, rfl⟩ (strs_of r) hok fun t' k => ⟨.str _, H, I.tok k, ⟨t', rfl⟩, q⟩
theorem mt_starts : MtM X "str.startswith" (fun x vs H Q => ∃ z y : Str, x = .str z ∧ vs = [.str y] ∧ Q (.bl (Txt.startswith z y)) H) := by
  intro pins s σ H x vs v us Q I rx rv h
  obtain ⟨z, y, rfl, rfl, q⟩ := h
  obtain ⟨t, rfl⟩ := rx
  obtain ⟨u, rfl, ru⟩ := rv.one
  obtain ⟨t', rfl⟩ := ru
  exact SC.startswith ⟨.bl _, H, I, rfl, q⟩
theorem mt_split : MtM X "str.split" (fun x vs H Q => ∃ z y : Str, x = .str z ∧ vs = [.str y] ∧ (y.length == 0) = false ∧ z.length ≤ 1000000 ∧ ∀ l, H l = none → Q (.ref l) (upd H l (.lst ((Txt.split z y).map V.str)))) := by
  intro pins s σ H x vs v us Q I rx rv h
  obtain ⟨z, y, rfl, rfl, hy, hz, q⟩ := h
  obtain ⟨t, rfl⟩ := rx
  obtain ⟨u, rfl, ru⟩ := rv.one
  obtain ⟨t', rfl⟩ := ru
  have hsz : z.length ≤ sizeLine := by rw [sizeLine_eq]; omega
  have hsz2 : (Builtin.Str.partsBetween z (Builtin.Str.occurrences z y 0 z.length (z.length + 1)) y.length).length ≤ sizeLine := by
    rw [PySem.length_partsBetween, sizeLine_eq]
    have := StrLaws.occ_length_le z y 0 z.length (z.length + 1)
    omega
  have hlen : (Txt.split z y).length ≤ sizeLine := by
    have := (PyProof.Rows.fact_split z y).2
    rw [sizeLine_eq]
    omega
  have fin : ∀ (l : List (Str × Tok)) (tk : Nat), l.map (·.1) = Txt.split z y → EP X pins σ Q (.ref s.heap.objs.size) { s with toks := tk, heap := s.heap.push { cls := .type "list", data := .seq (strValues l).toArray } } := fun l tk e => by
    refine ⟨.ref s.heap.objs.size, _, I.laid (t' := tk) (o := .lst ((Txt.split z y).map V.str)) (fun b ob q => Heap.get?_push_of_some _ q) (Nat.le_refl _) ?_, rfl, q _ (I.hok.fresh (Nat.le_refl _))⟩
    refine ⟨by rw [List.length_map]; exact hlen, strValues l, 0, ?_, Heap.get?_push_size _ rfl⟩
    rw [← e]
    exact vals_strs l
  cases h1 : (decide (z.length < y.length) || decide (Builtin.Str.strKind z < Builtin.Str.strKind y))
  · cases hf : (Builtin.Str.occurrences z y 0 z.length (z.length + 1)).isEmpty
    · refine call_meets F.slot_str_split (typeIs_str _ _ _) F.entry_str_split (F.args_str_split_2 _ _) (meets_str_split_sep z y t t' h1 hy hf hsz hsz2) ?_
      show wants (EP X pins σ Q) X.xe _ { s with toks := _, heap := s.heap.push { cls := .type "list", data := .seq (strsFrom s.toks (Builtin.Str.partsBetween z (Builtin.Str.occurrences z y 0 z.length (z.length + 1)) y.length)).toArray } }
      rw [strsFrom_eq]
      exact fin (numbered s.toks _) _ ((numbered_texts _ _).trans ((if_neg (ne_true_of_eq_false h1)).trans (if_neg (ne_true_of_eq_false hf))).symm)
    · exact call_meets F.slot_str_split (typeIs_str _ _ _) F.entry_str_split (F.args_str_split_2 _ _) (meets_str_split_not_found z y t t' h1 hy hf)
        (fin [(z, t)] s.toks ((if_neg (ne_true_of_eq_false h1)).trans (if_pos hf)).symm)
  · exact call_meets F.slot_str_split (typeIs_str _ _ _) F.entry_str_split (F.args_str_split_2 _ _) (meets_str_split_cannot_occur z y t t' h1)
      (fin [(z, t)] s.toks (if_pos h1).symm)
theorem call_int_text : CallR X (.type "int") (fun xs H Q => ∃ (z : Str) (n : Int), xs = [.str z] ∧ PySem.intText? z = some n ∧ z.length ≤ 640 ∧ Q (.int n) H) := by
  intro pins s σ H xs us Q I r h
  obtain ⟨z, n, rfl, hn, hl, q⟩ := h
  obtain ⟨u, rfl, ru⟩ := vals1 r
  obtain ⟨t, rfl⟩ := ru
  exact PySem.W.KIN.call_text hn hl ⟨.int n, H, I.tok _, ⟨_, rfl⟩, q⟩
noncomputable def tail1 (z : Str) : Str := if ((Builtin.Str.strSliceIndices (some 1) none 1 z.length).length == z.length) = true then z else ⟨((Builtin.Str.strSliceIndices (some 1) none 1 z.length).filterMap (z.cps[·]?)).toArray⟩
noncomputable def rSlS1 : V → Option Int → Option Int → Hp → VK → Prop := fun x lo hi H Q => ∃ z : Str, x = .str z ∧ lo = some 1 ∧ hi = none ∧ (tail1 z).length ≤ sizeLine ∧ Q (.str (tail1 z)) H
theorem sl_str1 : SlR X rSlS1 := by
  intro pins s σ H x v vl vu lo hi sl Q I rx hs pl pu h
  obtain ⟨z, rfl, rfl, rfl, hz, q⟩ := h
  obtain ⟨t, rfl⟩ := rx
  cases pl with
  | int i ti =>
    cases pu with
    | none =>
      refine ⟨"str", _, F.slot_str_getitem.lookup, typeIs_str _ _ _, ?_⟩
      have hs' : s.heap.IsSlice sl (some (1, ti)) none none := hs
      refine wpAny_getItem_str_slice hs' rfl ?_
      unfold tail1 at hz q
      unfold sliceMade
      by_cases c : ((Builtin.Str.strSliceIndices (some 1) none 1 z.length).length == z.length) = true
      · rw [if_pos c] at q
        rw [if_pos (show (((none : Option (Int × Tok)).map (·.1)).getD 1 == 1 && (slicePicked z (some (1, ti)) none none).length == z.length) = true from c)]
        exact ⟨.str z, H, I, ⟨_, rfl⟩, q⟩
      · rw [if_neg c] at q hz
        rw [if_neg (show ¬ (((none : Option (Int × Tok)).map (·.1)).getD 1 == 1 && (slicePicked z (some (1, ti)) none none).length == z.length) = true from c)]
        exact ⟨hz, .str _, H, I.tok _, ⟨_, rfl⟩, q⟩
/-! ### f-strings -/
noncomputable def PF (X : Cx) (es : List Expr) (t : Str → TE) : Prop :=
  ∀ (pins : List (Addr × Obj)) (s : Shared) (σ : St) (H : Hp) (out : Str) (Q : VK), Inv X pins σ H s → t out σ H Q → wpAny (model X.prog X.w) X.A (joinParts out (evalEach es X.env)) (EP X pins σ Q) X.xe s
theorem pf_nil : PF X [] (fun out _ H Q => out.length ≤ sizeLine ∧ Q (.str out) H) := fun pins s σ H out Q I h => joinParts_nil ⟨.str out, H, I.tok _, ⟨_, rfl⟩, h.2⟩ h.1
theorem pf_cons {e : Expr} {es : List Expr} {te : TE} {t : Str → TE} (he : PE X e te) (hr : PF X es t) (hs : evalEach (e :: es) X.env = eval e X.env :: evalEach es X.env := by rfl) :
    PF X (e :: es) (fun out σ H Q => te σ H fun x H1 => ∃ y : Str, x = .str y ∧ (out ++ y).length ≤ sizeLine ∧ t (out ++ y) σ H1 Q) := by
  intro pins s σ H out Q I h
  rw [hs]
  refine joinParts_cons (thn (he pins s σ H _ I h) fun v s1 zz => ?_)
  obtain ⟨x, H1, I1, r1, q1⟩ := zz
  obtain ⟨y, rfl, hl, q⟩ := q1
  obtain ⟨t', rfl⟩ := r1
  exact ⟨hl, hr pins s1 σ H1 _ Q I1 q⟩
theorem pe_fstr {e e' : Expr} {es : List Expr} {pos : Pos} {t : Str → TE} (h : PF X (e :: e' :: es) t) : PE X (.JoinedStr (e :: e' :: es) pos) (t Str.empty) := fun pins s σ H Q I q => JoinedStr_many (h pins s σ H Str.empty Q I q)
noncomputable def tFmt (te : TE) : TE := fun σ H Q => te σ H fun x H1 => (∃ i : Int, x = .int i ∧ i.natAbs.log2 < 1920 ∧ Q (.str (toString i)) H1) ∨ ∃ z : Str, x = .str z ∧ z.length ≤ sizeLine ∧ Q (.str z) H1
theorem pe_fmt {e : Expr} {te : TE} {pos : Pos} (he : PE X e te) : PE X (.FormattedValue e (-1) none pos) (tFmt te) := by
  intro pins s σ H Q I h
  refine FormattedValue_plain (thn (he pins s σ H _ I h) fun v s1 zz => ?_)
  obtain ⟨x, H1, I1, r1, q1⟩ := zz
  rcases q1 with ⟨i, rfl, hi, q⟩ | ⟨z, rfl, hz, q⟩
  · obtain ⟨t, rfl⟩ := r1
    exact wpAny_formatField_int hi ⟨.str _, H1, I1.tok _, ⟨_, rfl⟩, q⟩
  · obtain ⟨t, rfl⟩ := r1
    exact wpAny_formatField_str ⟨.str _, H1, I1, ⟨_, rfl⟩, q⟩ ⟨.str _, H1, I1.tok _, ⟨_, rfl⟩, q⟩ hz
end
end L2

set_option Elab.async false
set_option linter.all false
namespace L2
open PySem PySem.Spec PyProof.Rows
noncomputable def tSeqA (t u : TS) : TS := fun D σ H => ∀ N : St → Hp → Prop, (∀ σ' H', u D σ' H' → N σ' H') → t { D with nx := N } σ H
theorem pss_consA {X : Cx} {st : Stmt} {rest : List Stmt} {t u : TS} (h1 : PS X st t) (h2 : PSs X rest u) : PSs X (st :: rest) (tSeqA t u) := fun pins s σ H D I h => pss_cons h1 h2 pins s σ H D I (h (u D) fun _ _ z => z)
end L2

set_option Elab.async false
set_option linter.all false
namespace L2
open PySem PySem.Spec PyProof.Rows
noncomputable def rIxL0 : R2 := fun x y H Q => ∃ p xs i v, x = .ref p ∧ y = .int i ∧ H p = some (.lst xs) ∧ atI xs i = some v ∧ Q v H
noncomputable def rIxT0 : R2 := fun x y H Q => ∃ p xs i v, x = .ref p ∧ y = .int i ∧ H p = some (.tup xs) ∧ atI xs i = some v ∧ Q v H
theorem ix_list0 {X : Cx} : IxR X rIxL0 := by
  intro value slice pins s σ H x y v u Q I rx ry zz hs
  obtain ⟨p, xs, i, v', e1, e2, h, e, q⟩ := zz
  exact ix_list value slice pins s σ H x y v u Q I rx ry ⟨p, xs, i, v', e1, e2, SqL.of h, e, q⟩ hs
theorem ix_tup0 {X : Cx} : IxR X rIxT0 := by
  intro value slice pins s σ H x y v u Q I rx ry zz hs
  obtain ⟨p, xs, i, v', e1, e2, h, e, q⟩ := zz
  exact ix_tup value slice pins s σ H x y v u Q I rx ry ⟨p, xs, i, v', e1, e2, SqT.of h, e, q⟩ hs
theorem rdT {σ : St} {H : Hp} {p : Addr} {xs : List V} {i : Int} {v : V} {Q : VK} (h : H p = some (.tup xs)) (e : atI xs i = some v) (q : Q v H) : tC (.int i) σ H fun y H2 => rIxT0 (.ref p) y H2 Q := ⟨p, xs, i, v, rfl, rfl, h, e, q⟩
theorem rdL {σ : St} {H : Hp} {p : Addr} {xs : List V} {i : Int} {v : V} {Q : VK} (h : H p = some (.lst xs)) (e : atI xs i = some v) (q : Q v H) : tC (.int i) σ H fun y H2 => rIxL0 (.ref p) y H2 Q := ⟨p, xs, i, v, rfl, rfl, h, e, q⟩
theorem rdLv {σ : St} {H : Hp} {p : Addr} {xs : List V} {j : Nat} {i : Int} {v : V} {Q : VK} (h0 : σ[j]? = some (some (.int i))) (h : H p = some (.lst xs)) (e : atI xs i = some v) (q : Q v H) : tVar j σ H fun y H2 => rIxL0 (.ref p) y H2 Q := ⟨.int i, h0, p, xs, i, v, rfl, rfl, h, e, q⟩
end L2

set_option Elab.async false
set_option linter.all false
set_option maxRecDepth 100000
set_option maxHeartbeats 1000000
/-! raise inside a loop: the exception is noted in the frame as it leaves the loop -/
namespace L2
open PySem PySem.Spec PyProof.Rows
section
variable {M : Model} {A : Around} {E : Value → Shared → Prop} {s : Shared} {h0 : Heap} {H : Hp} {env : Env} {L a C : Addr} {dx : Option Addr}
theorem note_again {Q : Unit → Shared → Prop} (hf : env.frame = some L) (n : NotedAt h0 s.heap H a C dx L) (hq : Q () s) : wpAny M A (noteFrame (.ref a) env) Q E s := by
  obtain ⟨f1, f2, t, T, oT, ts, he, hTa, hT0, hTH, hT, hd, h3⟩ := n
  unfold noteFrame
  simp only [hf]
  refine wpAny_bind (wpAny_field he rfl (x := .ref T) rfl ?_)
  rw [if_pos (show (Value.ref T != Value.none) = true from by simp)]
  refine wpAny_bind (wpAny_field hT hd h3 ?_)
  rw [if_pos (show (rawInt L == rawInt L) = true from by simp)]
  exact wpAny_pure hq
theorem back_exc {Q : Unit → Shared → Prop} (hf : env.frame = some L) (n : NotedAt h0 s.heap H a C dx L) (hq : ∀ h', NotedAt h0 h' H a C dx L → KeptBut [] h0 s.heap h' H → Q () { s with heap := h' }) :
    wpAny M A (do if (← field (.ref a) 1) == .none then unsupported "frame.own-activation:exception-without-traceback"
                  setFlight (.ref a) env.frame) Q E s := by
  obtain ⟨f1, f2, t, T, oT, ts, he, hTa, hT0, hTH, hT, hd, h3⟩ := n
  have neT : ∀ b, (H b ≠ none ∨ h0.get? b ≠ none) → b ≠ T := fun b z e => by
    subst e
    exact z.elim (fun q => q hTH) fun q => q hT0
  have hs3 : 3 < ts.size := (Array.getElem?_eq_some_iff.mp h3).1
  refine wpAny_bind (wpAny_field he rfl (x := .ref T) rfl ?_)
  rw [if_neg (show ¬ (Value.ref T == Value.none) = true from by simp)]
  unfold setFlight
  refine wpAny_bind (wpAny_field he rfl (x := .ref T) rfl ?_)
  rw [if_pos (show (Value.ref T != Value.none) = true from by simp), hf]
  refine wpAny_setField hT hd hs3 (hq _ ⟨f1, f2, t, T, _, _, (Heap.get?_update_other _ _ hTa).trans he, hTa, hT0, hTH, Heap.get?_update_self _ hT (Obj.isFreed_of_fields (Obj.data_mapFields hd _)), Obj.data_mapFields hd _, by simp [hs3]⟩ ⟨fun b o z _ e => ?_, fun b o z e => ⟨o.slots, ?_⟩⟩)
  · exact (Heap.get?_update_other _ _ (Ne.symm (neT b z))).trans e
  · exact (Heap.get?_update_other _ _ (Ne.symm (neT b z))).trans e
end
section
variable {P : Program} {w : World} {K : PySem.W.Frag} {mg : Str → Option Value} {base : Heap} {N : List Str} {qual : Str} {scope : Scope} {f : Addr} {cd : Value} {A : Around} {outer : List Env} {s : Shared} {H : Hp} {EX : XK}
noncomputable def flyXe (P : Program) (w : World) (base : Heap) (qual : Str) (scope : Scope) (f : Addr) (cd : Value) (A : Around) (outer : List Env) (s : Shared) (H : Hp) (EX : XK) (e : Value) (s' : Shared) : Prop :=
  ∃ (a C : Addr) (dx : Option Addr) (H' : Hp), e = .ref a ∧ s'.os = s.os ∧ AllBare s'.gens ∧ Un (frs outer) [] H H' s.heap s'.heap ∧ HOk P w H' s'.heap ∧ (∀ b ∈ frs (envOfC qual scope s.heap.objs.size f cd :: outer), H' b = none) ∧ EX (.ref C) dx H' ∧
    ((Flies s.heap s'.heap H' a C dx ∧ (A.deeper (envOfC qual scope s.heap.objs.size f cd)).frames = some (envOfC qual scope s.heap.objs.size f cd :: outer) ∧ s'.heap.FunFrames base (envOfC qual scope s.heap.objs.size f cd :: outer)) ∨ NotedAt s.heap s'.heap H' a C dx s.heap.objs.size)
theorem un_keptBut {s' : Shared} {h' : Heap} {H' : Hp} {gs : List Addr} (u : Un (frs outer) [] H H' s.heap s'.heap) (k : KeptBut gs s.heap s'.heap h' H') (hg : ∀ b ∈ gs, b ∈ frs (envOfC qual scope s.heap.objs.size f cd :: outer)) : Un (frs outer) [] H H' s.heap h' :=
  u.keptBut k fun b o e hb => by
    have hb := hg b hb
    unfold frs at hb
    rw [List.filterMap_cons] at hb
    rcases List.mem_cons.mp hb with z | z
    · exact absurd (Heap.lt_size e) (by rw [z]; exact Nat.lt_irrefl _)
    · exact z
theorem fly_own : PassesOwn (model P w) (A.deeper (envOfC qual scope s.heap.objs.size f cd)) (envOfC qual scope s.heap.objs.size f cd) (flyXe P w base qual scope f cd A outer s H EX) := by
  rintro e s' ⟨a, C, dx, H', rfl, os, bare, un, hok, sf, hE, hf⟩
  have back : ∀ h', NotedAt s.heap h' H' a C dx s.heap.objs.size → KeptBut (frs (envOfC qual scope s.heap.objs.size f cd :: outer)) s.heap s'.heap h' H' → cameBackBy (model P w) (A.deeper (envOfC qual scope s.heap.objs.size f cd)) (envOfC qual scope s.heap.objs.size f cd) (flyXe P w base qual scope f cd A outer s H EX) (.ref a) { s' with heap := h' } := fun h' n k => by
    refine back_exc (s := { s' with heap := h' }) (h0 := s.heap) (L := s.heap.objs.size) rfl n fun h'' n' k' => ?_
    have k2 : KeptBut (frs (envOfC qual scope s.heap.objs.size f cd :: outer)) s.heap s'.heap h'' H' := k.trans ⟨fun b o z _ e => k'.1 b o z (by simp) e, k'.2⟩
    exact ⟨a, C, dx, H', rfl, os, bare, un_keptBut un k2 (fun _ z => z), hok.keptBut k2 sf, sf, hE, .inr n'⟩
  have hth : ∀ b o, s.heap.get? b = some o → ∃ o', s'.heap.get? b = some o' := fun b o e => un.there b o e (by simp)
  rcases hf with ⟨fl, hfr, ff⟩ | n
  · exact note_exc (L := s.heap.objs.size) hfr ff rfl fl hth (fun b hb => hok.fresh hb) fun h' n k => back h' n k
  · exact note_again (L := s.heap.objs.size) rfl n (back s'.heap n ⟨fun _ _ _ _ e => e, fun _ o _ e => ⟨o.slots, e⟩⟩)
theorem fly_out {e : Value} {s' : Shared} (h : flyXe P w base qual scope f cd A outer s H EX e s') : (cxOf (CX1 P w) P w K mg base N qual scope f cd A outer s H EX).xe e s' := by
  obtain ⟨a, C, dx, H', rfl, os, bare, un, hok, sf, hE, hf⟩ := h
  show wpAny (model P w) (A.deeper (envOfC qual scope s.heap.objs.size f cd)) (leaving (envOfC qual scope s.heap.objs.size f cd) (.ref a)) (fun _ s'' => CX1 P w outer H s EX (.ref a) s'') _ s'
  have hth : ∀ b o, s.heap.get? b = some o → ∃ o', s'.heap.get? b = some o' := fun b o e => un.there b o e (by simp)
  have fin : ∀ h', Flies s.heap h' H' a C dx → KeptBut (frs (envOfC qual scope s.heap.objs.size f cd :: outer)) s.heap s'.heap h' H' → CX1 P w outer H s EX (.ref a) { s' with heap := h' } := fun h' f' k => ⟨a, C, dx, H', rfl, os, bare, un_keptBut un k (fun _ z => z), hok.keptBut k sf, f', hE⟩
  rcases hf with ⟨fl, hfr, ff⟩ | n
  · exact leave_exc (L := s.heap.objs.size) hfr ff rfl fl hth (fun b hb => hok.fresh hb) fin
  · unfold leaving
    refine wpAny_bind (note_again (L := s.heap.objs.size) rfl n ?_)
    exact land_exc n fun h' f' k => fin h' f' ⟨fun b o z _ e => k.1 b o z (by simp) e, k.2⟩
noncomputable abbrev flyCx (P : Program) (w : World) (K : PySem.W.Frag) (mg : Str → Option Value) (base : Heap) (N : List Str) (qual : Str) (scope : Scope) (f : Addr) (cd : Value) (A : Around) (outer : List Env) (s : Shared) (H : Hp) (EX : XK) : Cx := (cxOf (CX1 P w) P w K mg base N qual scope f cd A outer s H EX).wish (flyXe P w base qual scope f cd A outer s H EX)
theorem ps_fly {st : Stmt} {t : TS} (h : PS (flyCx P w K mg base N qual scope f cd A outer s H EX) st t) : PS (cxOf (CX1 P w) P w K mg base N qual scope f cd A outer s H EX) st t := fun pins s1 σ H1 D I hw =>
  wpAny_mono (h pins s1 σ H1 D (I.wish _) hw) (fun _ _ q => q.unwish) fun _ _ z => fly_out z
theorem ps_raiseF {x : Expr} {te : TE} {pos : Pos} (he : PE (flyCx P w K mg base N qual scope f cd A outer s H EX) x te) : PS (flyCx P w K mg base N qual scope f cd A outer s H EX) (.Raise (some x) none pos) (tRaise K H EX te) := by
  intro pins s1 σ H1 D I h
  rw [arm_exec_Raise]
  refine wpAny_bind (wpAny_standAt (raise_made (I.ok.hd rfl) ?_))
  refine wpAny_bind (thn (he pins s1 σ H1 _ I h) fun v s2 zz => wpAny_bind (wpAny_standAt (wpAny_pure ?_)))
  obtain ⟨y, H2, I2, ry, a, C, Mo, f', dx, e1, hH, M, h0, hE⟩ := zz
  subst e1
  cases ry
  obtain ⟨nm, q, Nn, bs, sn, sub, ab, col, dd, k0, k1, k2, k3, k5, lk, _, _⟩ := M.obj
  obtain ⟨t, hget⟩ := excE_at I2.hok hH
  refine ⟨a, C, dx, .ref t, nm, q, Nn, bs, _, _, sn, sub, ab, col, dd, k0, k1, k2, k3, k5, _, rfl, rfl, I2.kIn _ _ lk, hget, ?_⟩
  have I3 := (I2.forget hH).unwish
  refine ⟨a, C, dx, forget H2 a, rfl, I3.os, I3.bare, I3.base, I3.hok, I3.stkFree, hE, .inl ⟨⟨?_, forget_same, .ref t, .none, hget, .inl rfl⟩, I3.ok.frames, I3.stack⟩⟩
  cases q0 : s.heap.get? a with
  | none => rfl
  | some o =>
    have z := I2.base.free a o q0 h0 (by intro z; exact absurd (show a ∈ ([] : List Addr) from z) (by simp))
    rw [hH] at z
    cases z
end
end L2

set_option Elab.async false
set_option linter.all false
set_option maxRecDepth 100000
set_option maxHeartbeats 1000000
namespace L2
open PySem PySem.Spec PyProof.Rows Builtin Builtin.ObjectAttr
/-! ### e.f = value, e an exception that has fields already -/
theorem lookup_snoc {fs : List (Str × V)} {nm z : Str} {y : V} (hn : nm ∉ fs.map (·.1)) : List.lookup z (fs ++ [(nm, y)]) = if z = nm then some y else List.lookup z fs := by
  induction fs with
  | nil =>
    show List.lookup z [(nm, y)] = _
    rw [List.lookup_cons]
    by_cases e : z = nm
    · rw [if_pos e, e, beq_self_eq_true]
    · rw [if_neg e, show (z == nm) = false from beq_eq_false_iff_ne.mpr e]
  | cons p r ih =>
    obtain ⟨q, v⟩ := p
    have h1 : nm ≠ q := fun e => hn (by rw [e]; exact List.mem_cons_self)
    have h2 : nm ∉ r.map (·.1) := fun e => hn (List.mem_cons_of_mem _ e)
    rw [List.cons_append, List.lookup_cons, List.lookup_cons, ih h2]
    by_cases e : z = q
    · rw [e, beq_self_eq_true]
      show some v = if q = nm then some y else some v
      rw [if_neg (Ne.symm h1)]
    · rw [show (z == q) = false from beq_eq_false_iff_ne.mpr e]
theorem setattr_exc2 {X : Cx} {A : Around} {E : Value → Shared → Prop} {C Mo f0 x d : Addr} {fs : List (Str × V)} {pins : List (Addr × Obj)} {σ : St} {H : Hp} {s : Shared} {Q : Unit → Shared → Prop} {nm : Str} {y : V} {u : Value} (I : Inv X pins σ H s) (M : ExcC X.K C Mo f0)
    (na : PySem.W.findIn X.K (.ref C) nm = some none) (hH : H x = some (excE x C (some d))) (hD : H d = some (excD d fs)) (hn : nm ∉ fs.map (·.1)) (hl : fs.length ≤ 10) (ru : RelV y u)
    (hq : ∀ s', Inv X pins σ (upd H d (excD d (fs ++ [(nm, y)]))) s' → Q () s') : wpAny (model X.prog X.w) A (setAttr (.ref x) nm u) Q E s := by
  obtain ⟨cnm, q, N, bs, sn, sub, ab, col, dd, k0, k1, k2, k3, k5, lk, nok, ini⟩ := M.obj
  have hK := I.kIn
  have hC := hK _ _ lk
  have SF := PySem.F.store_object
  obtain ⟨t, hget⟩ := excE_at I.hok hH
  obtain ⟨mA, hns, hrel, hwi⟩ := excD_at I.hok hD
  have LT : PySem.W.Looks (model X.prog X.w) s.heap (typeOf (.ref x)) (.ref C) := (PySem.W.Looks.ld hget).andThen .now
  have hcl : PySem.W.clsIn X.K C = some { name := cnm, bases := bs, mro := .ref C :: .ref Mo :: bmV, ns := N, qualname := q, hasDict := true, slotNames := sn, subclasses := sub, abstract := ab, collection := col, hasDel := false } := by
    unfold PySem.W.clsIn
    rw [lk]
  have LM : PySem.W.Looks (model X.prog X.w) s.heap (mroOf (.ref C)) (.ref C :: .ref Mo :: bmV) := (PySem.W.looks_clsIn hK hcl).andThen .now
  have sub' : PySem.W.Looks (model X.prog X.w) s.heap (isInstance (.ref x) (.type "object")) true := LT.andThen (PySem.W.looks_mroIn hK (by unfold PySem.W.mroIn; rw [hcl]; rfl))
  have fin : ∀ (h' : Heap) (tk : Nat), h'.Ns1 d (fun z => if z = nm then some u else mA z) → Heap.SameBut d s.heap h' → Q () { s with heap := h', toks := tk } := fun h' tk n1 sb => by
    refine hq _ ?_
    have new : ObjOk X.prog X.w (upd H d (excD d (fs ++ [(nm, y)]))) h' d (excD d (fs ++ [(nm, y)])) := by
      refine excD_ok n1 (fun z => ?_) (fun z hz => ?_)
      · rw [lookup_snoc hn]
        by_cases e : z = nm
        · rw [if_pos e, if_pos e]
          exact ru
        · rw [if_neg e, if_neg e]
          exact hrel z
      · rw [List.map_append]
        by_cases e : z = nm
        · exact List.mem_append_right _ (by rw [e]; exact List.mem_cons_self)
        · rw [if_neg e] at hz
          exact List.mem_append_left _ (hwi z hz)
    have heo : ∃ v, h'.get? d = some v := by
      obtain ⟨o, _, _, e, _⟩ := n1
      exact ⟨o, e⟩
    exact I.write (x := d) (e := d) (by rw [hD]; exact True.intro) (.inl rfl) (fun b v hb e => (sb.2 b hb).trans e) heo new
  obtain ⟨hh, gg, dd', tt, oo⟩ := s
  unfold setAttr
  refine wpAny_bind (wpAny_mkText (wpAny_bind ?_))
  unfold callSpecial? specialOf
  refine wpAny_bind (wpAny_bind (LT.at ((PySem.W.looks_findIn hK M.sa).at (wpAny_holding (wpAny_bind ?_)))))
  rw [SF.slot.bind]
  refine wpAny_pure (wpAny_bind (wpAny_call (codeAny_call_builtin SF.slot.plain SF.entry (@PySem.W.check_slot (model X.prog X.w) _ _ ⟨hh, gg, dd', tt + 1, oo⟩ "object.__setattr__" "object" "__setattr__" (.ref x) [.str nm tt, u] [] _ SF.kind SF.split sub' (SF.args (.ref x) (.str nm tt) u) ?_))))
  show wpAny _ A.in1 (Builtin.«object.__setattr__» ⟨[.ref x, .str nm tt, u], []⟩) _ _ _
  rw [PySem.W.osa_eq, refuse_eq]
  refine wpAny_bind (wpAny_bind (LT.at (wpAny_bind (LM.at ?_))))
  rw [refuseLoop_ref, refuseLoop_ref, PySem.F.store_ValueError.passes]
  refine wpAny_pure (wpAny_bind (LT.at (wpAny_bind ((PySem.W.looks_findIn hK na).at (wpAny_bind (wpAny_pure ?_))))))
  refine wpAny_bind (wpAny_pure (wpAny_bind (wpAny_bind (wpAny_loadPart (o := excRec C (some d) (.ref t) .none) hget (wpAny_bind ((PySem.W.looks_clsIn hK hcl).at ?_))))))
  refine wpAny_pure ?_
  show wpAny _ _ (storeInDict d (.str nm tt) nm u) _ _ _
  unfold storeInDict newKeyGuard
  refine wpAny_bind (wpAny_pure (wpAny_bind (wpAny_nsSet1 hns fun h' hn' hs => ?_)))
  obtain ⟨oD, esD, epD, hoD, hdD, hcD⟩ := hn'.count (Within.cons nm u hwi)
  refine wpAny_bind (wpAny_lookBehind hoD (by rw [hdD]; exact pastItsLine_dict (Nat.le_trans hcD (by rw [List.length_cons, List.length_map, sizeLine_eq]; omega))) ?_)
  wp_walk
  exact fin _ _ hn' hs
noncomputable def sFldE2 (K : PySem.W.Frag) (ta tv : TE) (f : Str) : TS := fun D σ H => tv σ H fun y H1 => ta σ H1 fun x H2 => ∃ a C Mo f0 d fs, x = .ref a ∧ H2 a = some (excE a C (some d)) ∧ H2 d = some (excD d fs) ∧ ExcC K C Mo f0 ∧ PySem.W.findIn K (.ref C) f = some none ∧ f ∉ fs.map (·.1) ∧ fs.length ≤ 10 ∧
  D.nx σ (upd H2 d (excD d (fs ++ [(f, y)])))
theorem ps_fldE2 {X : Cx} {o value : Expr} {f : Str} {pos pos' : Pos} {ta tv : TE} (ha : PE X o ta) (hv : PE X value tv) (hs : swapsWith value (some (.Attribute o f pos')) pos.line X.env = pure false) : PS X (.Assign [.Attribute o f pos'] value pos) (sFldE2 X.K ta tv f) := by
  intro pins s σ H D I h
  refine plainObj_wpAny_Assign_Attribute (thn (hv pins s σ H _ I h) fun u s1 zz => L2.el5 zz fun y H1 I1 ry q => thn (ha pins s1 σ H1 _ I1 q) fun ov s2 zz => ?_) hs
  obtain ⟨x, H2, I2, rx, a, C, Mo, f0, d, fs, ex, ea, ed, M, na, hn, hl, q2⟩ := zz
  subst ex
  obtain rfl : ov = Value.ref a := rx
  exact setattr_exc2 I2 M na ea ed hn hl ry fun s3 I3 => ⟨σ, _, I3, q2⟩
end L2

set_option Elab.async false
set_option linter.all false
set_option maxRecDepth 100000
set_option maxHeartbeats 1000000
namespace L2
open PySem PySem.Spec PyProof.Rows
/-! ### C(..) in a try's body, the exception's way told with the names' values -/
section
variable {X : Cx} {pins0 : List (Addr × Obj)} {Ex : Addr → Option Addr → St → Hp → Prop} {k : Nat} {f C : Addr} {fd : FuncData} {ps : List Str} {sp : Sp} {x : Str} {p pos : Pos} {e : Expr} {es : List Expr} {t : TA}
end
end L2

/-! The mathematics of bounds: potentials, the table, functional rings. -/
namespace MA



/-! ### a function's ring -/
end MA

/-! Rounds of pushes, as the program does them. -/
namespace MB
open MA
end MB

/-! The table of the tightest spans, as the program makes it. -/
namespace MB
open MA
/-! it goes down -/
end MB

/-! A round of pushes too many shows a ring that comes to less than nought; else there are times. -/
namespace MB
open MA
end MB

/-! The law's own table, in place; both tables are one. -/
namespace MB
open MA
/-! it goes down -/
end MB

/-! The program's table and the law's. -/
namespace MB
open MA
end MB

set_option Elab.async false
set_option linter.all false
namespace W
open PySem L2
noncomputable def top (i : Nat) : Stmt := PySem.Challenge.pw_momentties_k18_written_and_read.main.body.getD i (.Pass ⟨0, 0, 0, 0⟩)
noncomputable abbrev sC_BadWeb_init : Stmt := inClass (top 3) 0
noncomputable abbrev sC_BadText_init : Stmt := inClass (top 7) 0
noncomputable abbrev sP_are_two_moments : Stmt := top 13
noncomputable abbrev sP_look_over_size : Stmt := top 14
noncomputable abbrev sP_look_over_ties : Stmt := top 15
noncomputable abbrev sP_look_over_falls : Stmt := top 16
noncomputable abbrev sC_Web_init : Stmt := inClass (top 17) 0
noncomputable abbrev sC_Web_ties : Stmt := inClass (top 17) 1
noncomputable abbrev sC_Web_falls : Stmt := inClass (top 17) 2
noncomputable abbrev sP_span_rows : Stmt := top 21
noncomputable abbrev sP_written : Stmt := top 22
noncomputable abbrev sP_is_number : Stmt := top 23
noncomputable abbrev sP_numbers_of : Stmt := top 24
noncomputable abbrev sP_read_size : Stmt := top 25
noncomputable abbrev sP_read_span : Stmt := top 26
noncomputable abbrev sP_read : Stmt := top 27
noncomputable abbrev sNext : Stmt := top 29
noncomputable abbrev sWhole : Stmt := top 30
noncomputable abbrev sL_like : Stmt := top 31
noncomputable abbrev sNamed : Stmt := top 32
noncomputable abbrev sFalls : Stmt := top 33
noncomputable abbrev sTies : Stmt := top 34
noncomputable abbrev sWeb : Stmt := top 35
noncomputable abbrev sL_is : Stmt := top 36
noncomputable abbrev sL_rows : Stmt := top 37
noncomputable abbrev sL_refused : Stmt := top 38
noncomputable abbrev sL_bad : Stmt := top 39
noncomputable abbrev sLaw : Stmt := top 40
end W

set_option Elab.async false
set_option linter.all false
set_option maxRecDepth 100000
set_option maxHeartbeats 4000000
namespace W
open PySem L2

structure Fn (K : PySem.W.Frag) (mg : Str → Option Value) (x : Str) (st : Stmt) (ps : List Str) (f : Addr) (fd : FuncData) : Prop where
  F : Fun K x x st f fd
  b : Binds K fd ps []
  g : mg x = some (.ref f)

end W
namespace L2
open PySem
/-! ### heaps -/
noncomputable def Keep (d : Addr) (H H' : Hp) : Prop := ∀ b o, H b = some o → b ≠ d → H' b = some o
theorem Keep.refl (d : Addr) (H : Hp) : Keep d H H := fun _ _ e _ => e
theorem Keep.trans {d : Addr} {H H1 H2 : Hp} (x : Keep d H H1) (y : Keep d H1 H2) : Keep d H H2 := fun b o e n => y b o (x b o e n) n
theorem same_new {H : Hp} {p : Addr} {o : HO} (h : H p = none) : Same H (upd H p o) := fun b u e => by rw [upd_ne (ne_of_none e h)]; exact e

end L2
namespace W
open PySem L2
noncomputable def ScrAt (K : PySem.W.Frag) (H : Hp) (sa : Addr) (ns : List Int) : Prop := (∃ o, H sa = some (.frz o (.lst (ns.map V.int)))) ∨
  ∃ (o : Obj) (its : Array Value) (n : Nat), K.lookup sa = some o ∧ o.cls = .type "list" ∧ o.dict = none ∧ o.data = .seq its n ∧ its.size ≤ sizeLine ∧ Vals (ns.map V.int) its.toList
theorem ScrAt.sq {K : PySem.W.Frag} {H : Hp} {sa : Addr} {ns : List Int} (h : ScrAt K H sa ns) : SqL K H sa (ns.map V.int) := by
  rcases h with ⟨o, h⟩ | h
  · exact .inl (.inr ⟨o, h⟩)
  · exact .inr h
theorem ScrAt.same {K : PySem.W.Frag} {H H1 : Hp} {sa : Addr} {ns : List Int} (h : ScrAt K H sa ns) (k : Same H H1) : ScrAt K H1 sa ns := by
  rcases h with ⟨o, h⟩ | h
  · exact .inl ⟨o, k _ _ h⟩
  · exact .inr h
theorem ScrAt.keep {K : PySem.W.Frag} {H H1 : Hp} {sa l : Addr} {ns : List Int} {xs : List V} (h : ScrAt K H sa ns) (k : Keep l H H1) (hl : H l = some (.lst xs)) : ScrAt K H1 sa ns := by
  rcases h with ⟨o, h⟩ | h
  · exact .inl ⟨o, k _ _ h (ne_of h hl (fun z => nomatch z))⟩
  · exact .inr h
structure Dice (K : PySem.W.Frag) (sa : Addr) (H : Hp) (d : Addr) : Prop where
  at_ : ∃ p : Nat, H d = some (.lst [.ref sa, .int p])
  scr : ∃ ns : List Int, ScrAt K H sa ns
theorem Dice.same {K : PySem.W.Frag} {sa d : Addr} {H H1 : Hp} (x : Dice K sa H d) (k : Same H H1) : Dice K sa H1 d := by
  obtain ⟨⟨p, h⟩, ⟨ns, r⟩⟩ := x
  exact ⟨⟨p, k _ _ h⟩, ⟨ns, r.same k⟩⟩

noncomputable def spNext (K : PySem.W.Frag) : Sp := fun vs H Q _ => ∃ d sa m, vs = [.ref d, .int m] ∧ Dice K sa H d ∧ 1 ≤ m ∧ ∀ r H', 0 ≤ r → r < m → Dice K sa H' d → Keep d H H' → Q (.int r) H'

section
variable {P : Program} {w : World} {K : PySem.W.Frag} {mg : Str → Option Value} {base : Heap}
theorem scN : FnScope ["_law_dice", "_law_many"] ["_law_dice", "_law_many"] (defScope sNext) := ⟨rfl, rfl, rfl, by decide +kernel, rfl, by decide +kernel, by decide +kernel⟩
theorem ok_next {f : Addr} {fd : FuncData} (F : Fn K mg "_law_next" sNext ["_law_dice", "_law_many"] f fd) (len : mg "len" = none) : FnOk P w K mg base CX0 1 f fd ["_law_dice", "_law_many"] (spNext K) := by
  refine F.F.ok scN (fun vs H Q E h => ?_) (fun cdv A outer s H vs Q E hr h => ?_)
  · obtain ⟨d, sa, m, rfl, _⟩ := h
    rfl
  · obtain ⟨d, sa, m, rfl, D, hm, k⟩ := h
    obtain ⟨⟨p, hd⟩, ⟨ns, hs0⟩⟩ := id D
    refine ⟨_, pss_cons (ps_asg (pe_op op_add (pe_ix ix_list0 (pv 0) pe_int (fun _ _ => rfl)) pe_int) (pg_sub (pv 0) pe_int set_list))
      (pss_cons (ps_if (pt_cmpR op_gt (pe_ix ix_list0 (pv 0) pe_int (fun _ _ => rfl)) (pe_callB call_len_seq (by rfl) len PySem.boot_len (pa_cons (pe_ix ix_list0 (pv 0) pe_int (fun _ _ => rfl)) pa_nil)) (nomark _)) (pss_one (ps_ret pe_int)) pss_nil)
      (pss_one (ps_ret (pe_op op_mod (pe_ix ix_list (pe_ix ix_list0 (pv 0) pe_int (fun _ _ => rfl)) (pe_op op_sub (pe_ix ix_list0 (pv 0) pe_int (fun _ _ => rfl)) pe_int) (fun _ _ => rfl)) (pv 1))))), ?_⟩
    -- dice[1] = dice[1] + 1
    refine ⟨_, rfl, rdL hd rfl ⟨_, _, rfl, rfl, _, rfl, _, _, _, _, rfl, rfl, hd, rfl, ?_⟩⟩
    have hd1 : upd H d (.lst ([V.ref sa, V.int p].set 1 (.int ((p : Int) + 1)))) d = some (.lst [.ref sa, .int ((p : Int) + 1)]) := upd_same
    have kp : Keep d H (upd H d (.lst ([V.ref sa, V.int p].set 1 (.int ((p : Int) + 1))))) := fun b o e n => by rw [upd_ne n]; exact e
    have hs2 := hs0.keep kp hd
    have hs1 := hs2.sq
    have D1 : Dice K sa (upd H d (.lst ([V.ref sa, V.int p].set 1 (.int ((p : Int) + 1))))) d := ⟨⟨p + 1, hd1⟩, ⟨ns, hs2⟩⟩
    -- if dice[1] > len(dice[0])
    refine ⟨_, rfl, rdL hd1 rfl ⟨_, rfl, rdL hd1 rfl ⟨_, _, rfl, .inl hs1, _, _, rfl, rfl, _, rfl, ?_⟩⟩⟩
    refine ite2 (fun _ => ?_) (fun hc => ?_)
    · exact k 0 _ (Int.le_refl _) (by omega) D1 kp
    · have hlt : p < ns.length := by
        rw [List.length_map] at hc
        simp only [decide_eq_true_eq] at hc
        omega
      have ha : atI (ns.map V.int) ((p : Int) + 1 - 1) = some (.int ns[p]) := by
        rw [show (p : Int) + 1 - 1 = ((p : Nat) : Int) by omega]
        exact atI_nat (by rw [List.getElem?_map, List.getElem?_eq_getElem hlt]; rfl)
      refine ⟨_, rfl, rdL hd1 rfl ⟨_, rfl, rdL hd1 rfl ⟨_, _, rfl, rfl, _, _, _, _, rfl, rfl, hs1, ha, _, rfl, _, _, rfl, rfl, (by show (0 : Int) < m; omega), ?_⟩⟩⟩
      exact k _ _ (Int.emod_nonneg _ (by omega)) (Int.emod_lt_of_pos _ (by omega)) D1 kp
end
end W

set_option Elab.async false
set_option linter.all false
set_option maxRecDepth 100000
set_option maxHeartbeats 4000000
namespace L2
open PySem
/-! ### ways that meet -/
noncomputable def tCut (t : TS) : TS := fun D σ H => ∃ R : St → Hp → Prop, t { D with nx := R } σ H ∧ ∀ σ' H', R σ' H' → D.nx σ' H'
theorem ps_cut {X : Cx} {st : Stmt} {t : TS} (h : PS X st t) : PS X st (tCut t) := by
  intro pins s σ H D I hw
  obtain ⟨R, h1, h2⟩ := hw
  refine thn (h pins s σ H _ I h1) fun f s1 q => ?_
  cases f with
  | next => obtain ⟨σ', H', I', r⟩ := q; exact ⟨σ', H', I', h2 σ' H' r⟩
  | brk => exact q
  | cont => exact q
  | ret v => exact q
theorem ps_nox {X : Cx} {st : Stmt} {t : TS} (h : PS X.nox st t) : PS X st t := fun pins s σ H D I hw =>
  wpAny_mono (h pins s σ H D (I.wish _) hw) (fun _ _ q => q.unwish) fun _ _ z => False.elim z
noncomputable def RowsP (H : Hp) (a : Addr) (ps : List Addr) (rows : List (List Int)) : Prop := H a = some (.lst (ps.map V.ref)) ∧ Paired (fun p r => H p = some (.tup (r.map V.int))) ps rows
noncomputable def RowsAt (H : Hp) (a : Addr) (rows : List (List Int)) : Prop := ∃ ps, RowsP H a ps rows
theorem paired_imp {α β : Type} {F G : α → β → Prop} {l : List α} {m : List β} (h : Paired F l m) (i : ∀ a b, F a b → G a b) : Paired G l m := Paired.mapP h i
theorem RowsP.same {H H' : Hp} {a : Addr} {ps : List Addr} {rows : List (List Int)} (h : RowsP H a ps rows) (k : Same H H') : RowsP H' a ps rows := ⟨k _ _ h.1, paired_imp h.2 fun _ _ e => k _ _ e⟩
theorem RowsP.keep {H H' : Hp} {a d : Addr} {ps : List Addr} {rows : List (List Int)} {xs : List V} (h : RowsP H a ps rows) (k : Keep d H H') (hd : H d = some (.lst xs)) (ne : a ≠ d) : RowsP H' a ps rows :=
  ⟨k _ _ h.1 ne, paired_imp h.2 fun _ _ e => k _ _ e (ne_of e hd (fun z => nomatch z))⟩
theorem RowsAt.same {H H' : Hp} {a : Addr} {rows : List (List Int)} (h : RowsAt H a rows) (k : Same H H') : RowsAt H' a rows := let ⟨ps, r⟩ := h; ⟨ps, r.same k⟩
theorem RowsAt.keep {H H' : Hp} {a d : Addr} {rows : List (List Int)} {xs : List V} (h : RowsAt H a rows) (k : Keep d H H') (hd : H d = some (.lst xs)) (ne : a ≠ d) : RowsAt H' a rows := let ⟨ps, r⟩ := h; ⟨ps, r.keep k hd ne⟩
theorem RowsP.len {H : Hp} {a : Addr} {ps : List Addr} {rows : List (List Int)} (h : RowsP H a ps rows) : ps.length = rows.length := h.2.length
theorem RowsP.push {H : Hp} {a p : Addr} {ps : List Addr} {rows : List (List Int)} {r : List Int} (h : RowsP H a ps rows) (hp : H p = some (.tup (r.map V.int))) : RowsP (upd H a (.lst (ps.map V.ref ++ [.ref p]))) a (ps ++ [p]) (rows ++ [r]) := by
  have na : ∀ q xs, H q = some (.tup xs) → q ≠ a := fun q xs e => ne_of e h.1 (fun z => nomatch z)
  refine ⟨by rw [upd_same, List.map_append]; rfl, Paired.snoc (paired_imp h.2 fun q r e => ?_) ?_⟩
  · rw [upd_ne (na q _ e)]; exact e
  · rw [upd_ne (na p _ hp)]; exact hp
theorem keep_upd {d l : Addr} {H0 H : Hp} {o : HO} (k : Keep d H0 H) (h : H0 l = none) : Keep d H0 (upd H l o) := fun b u e n => by
  rw [upd_ne (ne_of_none e h)]
  exact k b u e n
theorem Keep.free {d l : Addr} {H0 H : Hp} (k : Keep d H0 H) (h : H l = none) (hd : ∃ o, H d = some o) : H0 l = none := by
  cases q : H0 l with
  | none => rfl
  | some o =>
    by_cases e : l = d
    · subst e
      obtain ⟨o', e'⟩ := hd
      rw [h] at e'
      cases e'
    · rw [k l o q e] at h
      cases h
end L2
namespace W
open PySem L2
theorem Dice.there {K : PySem.W.Frag} {sa d : Addr} {H : Hp} (x : Dice K sa H d) : ∃ o, H d = some o := let ⟨p, e⟩ := x.at_; ⟨_, e⟩
theorem Dice.upd {K : PySem.W.Frag} {sa d l : Addr} {H : Hp} {o : HO} {xs : List V} (x : Dice K sa H d) (hl : H l = some (.lst xs)) (hd : l ≠ d) : Dice K sa (upd H l o) d := by
  obtain ⟨⟨p, h⟩, ⟨ns, r⟩⟩ := x
  exact ⟨⟨p, by rw [upd_ne (Ne.symm hd)]; exact h⟩, ⟨ns, r.keep (fun b u e n => by rw [upd_ne n]; exact e) hl⟩⟩
theorem Dice.new {K : PySem.W.Frag} {sa d l : Addr} {H : Hp} {o : HO} (x : Dice K sa H d) (hl : H l = none) : Dice K sa (L2.upd H l o) d := x.same (same_new hl)
noncomputable def namedF (m n t : Int) : Int := if m = 0 then 0 else 1 + (m - 1 + t) % (n - 1)
noncomputable def spNamed : Sp := fun vs H Q _ => ∃ m n t, vs = [.int m, .int n, .int t] ∧ 2 ≤ n ∧ Q (.int (namedF m n t)) H
section
variable {P : Program} {w : World} {K : PySem.W.Frag} {mg : Str → Option Value} {base : Heap}
theorem scNm : FnScope ["_law_moment", "_law_many", "_law_turn"] ["_law_moment", "_law_many", "_law_turn"] (defScope sNamed) := ⟨rfl, rfl, rfl, by decide +kernel, rfl, by decide +kernel, by decide +kernel⟩
theorem ok_named {f : Addr} {fd : FuncData} (F : Fn K mg "_law_named" sNamed ["_law_moment", "_law_many", "_law_turn"] f fd) : FnOk P w K mg base CX0 1 f fd ["_law_moment", "_law_many", "_law_turn"] spNamed := by
  refine F.F.ok scNm (fun vs H Q E h => ?_) (fun cdv A outer s H vs Q E hr h => ?_)
  · obtain ⟨m, n, t, rfl, _⟩ := h
    rfl
  · obtain ⟨m, n, t, rfl, hn, k⟩ := h
    refine ⟨_, pss_cons (ps_if (pt_cmpR op_eq (pv 0) pe_int (nomark _)) (pss_one (ps_ret pe_int)) pss_nil)
      (pss_one (ps_ret (pe_op op_add pe_int (pe_op op_mod (pe_op op_add (pe_op op_sub (pv 0) pe_int) (pv 2)) (pe_op op_sub (pv 1) pe_int))))), ?_⟩
    refine ⟨_, rfl, rfl, _, rfl, ?_⟩
    refine ite2 (fun hc => ?_) (fun hc => ?_)
    · have e : m = 0 := by simpa using hc
      have q : namedF m n t = 0 := by unfold namedF; rw [if_pos e]
      rw [q] at k
      exact k
    · have e : ¬ m = 0 := by simpa using hc
      have q : namedF m n t = 1 + (m - 1 + t) % (n - 1) := by unfold namedF; rw [if_neg e]
      rw [q] at k
      exact ⟨_, rfl, _, _, rfl, rfl, _, rfl, _, _, rfl, rfl, _, rfl, _, _, rfl, rfl, _, _, rfl, rfl, (by show (0 : Int) < n - 1; omega), _, _, rfl, rfl, k⟩
end
end W

set_option Elab.async false
set_option linter.all false
set_option maxRecDepth 100000
set_option maxHeartbeats 4000000
namespace W
open PySem L2
noncomputable def FallsRaw (n : Int) (c : Nat) (rows : List (List Int)) : Prop := ∀ (k : Nat) r, rows[k]? = some r → ∃ a l m : Int, r = [a, n - 1 - k, l, m] ∧ 0 ≤ a ∧ a < n - c ∧ 1 ≤ l ∧ l ≤ m ∧ m ≤ 60
theorem FallsRaw.snoc {n : Int} {c : Nat} {rows : List (List Int)} {a l m : Int} (h : FallsRaw n c rows) (h1 : 0 ≤ a) (h2 : a < n - c) (h3 : 1 ≤ l) (h4 : l ≤ m) (h5 : m ≤ 60) : FallsRaw n c (rows ++ [[a, n - 1 - rows.length, l, m]]) := by
  intro k r e
  by_cases hk : k < rows.length
  · rw [List.getElem?_append_left hk] at e
    exact h k r e
  · rw [List.getElem?_append_right (by omega)] at e
    have hk' : k - rows.length = 0 := by
      cases q : k - rows.length with
      | zero => rfl
      | succ z => rw [q] at e; simp at e
    rw [hk'] at e
    cases e
    have : k = rows.length := by omega
    subst this
    exact ⟨a, l, m, rfl, h1, h2, h3, h4, h5⟩
noncomputable def Few (wd : Int) (rows : List (List Int)) : Prop := wd ≠ 8 → rows.length ≤ 3 ∧ ∀ r ∈ rows, r.getD 3 0 - r.getD 2 0 < wd
noncomputable def spFalls (K : PySem.W.Frag) : Sp := fun vs H Q _ => ∃ d sa n wd, vs = [.ref d, .int n, .int wd] ∧ Dice K sa H d ∧ 2 ≤ n ∧ n ≤ 8 ∧ 1 ≤ wd ∧ wd ≤ 8 ∧
  ∀ (l : Addr) (c : Nat) rows H', (c : Int) ≤ n - 1 → rows.length = c → FallsRaw n c rows → RowsAt H' l rows → H l = none → Dice K sa H' d → Keep d H H' → Few wd rows → Q (.ref l) H'
section
variable {P : Program} {w : World} {K : PySem.W.Frag} {mg : Str → Option Value} {base : Heap}
noncomputable abbrev nF : List Str := ["_law_d", "_law_many", "_law_wide", "_law_count", "_law_falls_here", "_law_k", "_law_least", "_law_most"]
theorem scF : FnScope nF ["_law_d", "_law_many", "_law_wide"] (defScope sFalls) := ⟨rfl, rfl, rfl, by decide +kernel, rfl, by decide +kernel, by decide +kernel⟩
theorem ok_falls {f fN : Addr} {fd fdN : FuncData} (F : Fn K mg "_law_falls" sFalls ["_law_d", "_law_many", "_law_wide"] f fd) (FN : Fn K mg "_law_next" sNext ["_law_dice", "_law_many"] fN fdN)
    (GN : FnOk P w K mg base CX0 1 fN fdN ["_law_dice", "_law_many"] (spNext K)) (min : mg "min" = none) (range : mg "range" = none) : FnOk P w K mg base CX0 2 f fd ["_law_d", "_law_many", "_law_wide"] (spFalls K) := by
  refine F.F.ok scF (fun vs H Q E h => ?_) (fun cdv A outer s H vs Q E hr h => ?_)
  · obtain ⟨d, sa, n, wd, rfl, _⟩ := h
    rfl
  · obtain ⟨d, sa, n, wd, rfl, D, hn1, hn2, hw1, hw2, k⟩ := h
    refine ⟨_, pss_cons (ps_set (i := 3) scF.nd rfl (Or.inl rfl) (pe_call GN hr rfl FN.g FN.F.kp FN.b .nil pass0 (pa_cons (pv 0) (pa_cons (pe_op op_add (pe_callB (call_min2 rfl) (by rfl) min (by decide +kernel) (pa_cons pe_int (pa_cons (pe_op op_sub (pv 1) pe_int) pa_nil))) pe_int) pa_nil))))
      (pss_cons (ps_cut (ps_if (PW.pt (pw_and (pt_cmpR op_eq (pv 2) pe_int (nomark _)) (pw_and1 (pt_cmpR op_eq (pe_call GN hr rfl FN.g FN.F.kp FN.b .nil pass0 (pa_cons (pv 0) (pa_cons pe_int pa_nil))) pe_int (nomark _)))))
        (pss_one (ps_set (i := 3) scF.nd rfl (Or.inl rfl) (pe_call GN hr rfl FN.g FN.F.kp FN.b .nil pass0 (pa_cons (pv 0) (pa_cons (pv 1) pa_nil))))) pss_nil))
      (pss_cons (ps_set (i := 4) scF.nd rfl (Or.inl rfl) (pe_lst pa_nil))
      (pss_cons (ps_for PassesOwn.never rfl (pi_range1 rfl range (pa_cons (pv 3) pa_nil)) (pg_name (i := 5) scF.nd rfl (Or.inl rfl))
        (pss_cons (ps_set (i := 6) scF.nd rfl (Or.inl rfl) (pe_op op_add pe_int (pe_call GN hr rfl FN.g FN.F.kp FN.b .nil pass0 (pa_cons (pv 0) (pa_cons (pv 2) pa_nil)))))
        (pss_cons (ps_set (i := 7) scF.nd rfl (Or.inl rfl) (pe_op op_add (pv 6) (pe_call GN hr rfl FN.g FN.F.kp FN.b .nil pass0 (pa_cons (pv 0) (pa_cons (pv 2) pa_nil)))))
        (pss_cons (ps_cut (ps_if (PW.pt (pw_and (pt_cmpR op_eq (pv 2) pe_int (nomark _)) (pw_and1 (pt_cmpR op_eq (pe_call GN hr rfl FN.g FN.F.kp FN.b .nil pass0 (pa_cons (pv 0) (pa_cons pe_int pa_nil))) pe_int (nomark _)))))
          (pss_cons (ps_set (i := 6) scF.nd rfl (Or.inl rfl) (pe_op op_add pe_int (pe_call GN hr rfl FN.g FN.F.kp FN.b .nil pass0 (pa_cons (pv 0) (pa_cons pe_int pa_nil)))))
          (pss_one (ps_set (i := 7) scF.nd rfl (Or.inl rfl) (pe_op op_add (pv 6) (pe_call GN hr rfl FN.g FN.F.kp FN.b .nil pass0 (pa_cons (pv 0) (pa_cons (pe_op op_sub pe_int (pv 6)) pa_nil))))))) pss_nil))
        (pss_one (ps_expr (pe_bm PySem.F.plainAttrs_list PySem.F.slot_list_append PySem.F.type_list_append mt_append (pv 4)
          (pa_cons (pe_tup (pa_cons (pe_call GN hr rfl FN.g FN.F.kp FN.b .nil pass0 (pa_cons (pv 0) (pa_cons (pe_op op_sub (pv 1) (pv 3)) pa_nil))) (pa_cons (pe_op op_sub (pe_op op_sub (pv 1) pe_int) (pv 5)) (pa_cons (pv 6) (pa_cons (pv 7) pa_nil))))) pa_nil))))))))
      (pss_one (ps_ret (pv 4)))))), ?_⟩
    -- count
    refine ⟨_, rfl, _, rfl, _, _, rfl, rfl, _, _, rfl, _, _, rfl, rfl, d, sa, _, rfl, D, (by split <;> omega), fun c0 H1 hc0 hc1 D1 k1 => ?_⟩
    have hc2 : c0 ≤ n - 1 := by
      revert hc1
      split <;> intro hc1 <;> omega
    have hc3 : c0 ≤ 3 := by
      revert hc1
      split <;> intro hc1 <;> omega
    refine ⟨fun σ' H' => ∃ c : Nat, (c : Int) ≤ n - 1 ∧ (wd ≠ 8 → c ≤ 3) ∧ σ' = [some (.ref d), some (.int n), some (.int wd), some (.int (c : Int)), none, none, none, none] ∧ Dice K sa H' d ∧ Keep d H H', ?_, ?_⟩
    · -- a wide web may have more of them
      refine ⟨_, rfl, rfl, _, rfl, ?_⟩
      refine ite2 (fun h8 => ?_) (fun _ => ?_)
      · have h8 : wd = 8 := by simpa using h8
        refine ⟨_, rfl, d, sa, _, rfl, D1, by decide, fun r H2 _ _ D2 k2 => ⟨rfl, _, rfl, ?_⟩⟩
        refine ite2 (fun _ => ?_) (fun _ => ?_)
        · refine ⟨_, rfl, _, rfl, d, sa, _, rfl, D2, by omega, fun c H3 h0 h1 D3 k3 => ⟨c.toNat, by omega, fun z => absurd h8 z, ?_, D3, (k1.trans k2).trans k3⟩⟩
          rw [Int.toNat_of_nonneg h0]
          rfl
        · exact ⟨c0.toNat, by omega, fun z => absurd h8 z, by rw [Int.toNat_of_nonneg hc0]; rfl, D2, k1.trans k2⟩
      · refine iteF ?_
        exact ⟨c0.toNat, by omega, fun _ => by omega, by rw [Int.toNat_of_nonneg hc0]; rfl, D1, k1⟩
    · rintro σ' H2 ⟨c, hc, hcw, rfl, D2, k2⟩
      -- falls_here = []
      refine ⟨Nat.zero_le _, fun l hl => ?_⟩
      have hl0 : H l = none := k2.free hl D2.there
      have ld : l ≠ d := fun e => by
        subst e
        obtain ⟨o, q⟩ := D2.there
        rw [hl] at q
        cases q
      refine ⟨_, rfl, _, rfl, by omega, by omega, for_range (n := c) (fun i σ' H' => ∃ v1 v2 v3 ps rows, σ' = [some (.ref d), some (.int n), some (.int wd), some (.int (c : Int)), some (.ref l), v1, v2, v3] ∧ RowsP H' l ps rows ∧ rows.length = i ∧ FallsRaw n c rows ∧ Dice K sa H' d ∧ Keep d H H' ∧ (wd ≠ 8 → ∀ r ∈ rows, r.getD 3 0 - r.getD 2 0 < wd))
        ⟨none, none, none, [], [], rfl, ⟨upd_same, .nil⟩, rfl, (fun k r e => by simp at e), D2.new hl, keep_upd k2 hl0, fun _ r hr => nomatch hr⟩ ?_ ?_⟩
      · rintro i σ' H3 hi ⟨v1, v2, v3, ps, rows, rfl, R3, hlen, hF, D3, k3, few⟩
        have kl : ∀ {H4 : Hp}, Keep d H3 H4 → RowsP H4 l ps rows := fun k4 => by
          obtain ⟨p, e⟩ := D3.at_
          exact R3.keep k4 e ld
        -- least, most
        refine ⟨_, rfl, _, rfl, d, sa, _, rfl, D3, hw1, fun r1 H4 h1a h1b D4 k4 => ⟨_, _, rfl, rfl, ?_⟩⟩
        refine ⟨_, rfl, _, rfl, _, rfl, d, sa, _, rfl, D4, hw1, fun r2 H5 h2a h2b D5 k5 => ⟨_, _, rfl, rfl, ?_⟩⟩
        refine ⟨fun σ' H' => ∃ a b : Int, 1 ≤ a ∧ a ≤ b ∧ b ≤ 60 ∧ (wd ≠ 8 → b - a < wd) ∧ σ' = [some (.ref d), some (.int n), some (.int wd), some (.int (c : Int)), some (.ref l), some (.int (0 + (i : Int))), some (.int a), some (.int b)] ∧ Dice K sa H' d ∧ Keep d H3 H', ?_, ?_⟩
        · refine ⟨_, rfl, rfl, _, rfl, ?_⟩
          refine ite2 (fun h8 => ?_) (fun _ => ?_)
          · have h8 : wd = 8 := by simpa using h8
            refine ⟨_, rfl, d, sa, _, rfl, D5, by decide, fun r H6 _ _ D6 k6 => ⟨rfl, _, rfl, ?_⟩⟩
            refine ite2 (fun _ => ?_) (fun _ => ?_)
            · refine ⟨_, rfl, d, sa, _, rfl, D6, by decide, fun r3 H7 h3a h3b D7 k7 => ⟨_, _, rfl, rfl, ?_⟩⟩
              refine ⟨_, rfl, _, rfl, _, rfl, _, _, rfl, rfl, d, sa, _, rfl, D7, by omega, fun r4 H8 h4a h4b D8 k8 => ⟨_, _, rfl, rfl, ?_⟩⟩
              exact ⟨1 + r3, 1 + r3 + r4, by omega, by omega, by omega, fun z => absurd h8 z, rfl, D8, (((k4.trans k5).trans k6).trans k7).trans k8⟩
            · exact ⟨1 + r1, 1 + r1 + r2, by omega, by omega, by omega, fun z => absurd h8 z, rfl, D6, (k4.trans k5).trans k6⟩
          · refine iteF ?_
            exact ⟨1 + r1, 1 + r1 + r2, by omega, by omega, by omega, fun _ => by omega, rfl, D5, k4.trans k5⟩
        · rintro σ' H6 ⟨a, b, ha, hab, hb, hba, rfl, D6, k6⟩
          -- falls_here.append((.., .., least, most))
          have R6 := kl k6
          refine ⟨_, rfl, .inl ⟨rfl, _, SqL.of R6.1⟩, ?_⟩
          refine ⟨_, rfl, _, rfl, _, rfl, _, _, rfl, rfl, d, sa, _, rfl, D6, by omega, fun r5 H7 h5a h5b D7 k7 => ?_⟩
          have R7 := kl (k6.trans k7)
          refine ⟨_, rfl, _, _, rfl, rfl, _, rfl, _, _, rfl, rfl, _, rfl, _, rfl, by show 4 ≤ sizeLine; decide, fun p hp => ?_⟩
          have R8 := R7.same (same_new (o := .tup [.int r5, .int (n - 1 - (0 + (i : Int))), .int a, .int b]) hp)
          refine ⟨l, _, _, rfl, rfl, R8.1, ?_, ?_⟩
          · rw [List.length_map, R8.len]
            exact small1000 (by omega)
          · have e0 : (0 : Int) + (i : Int) = (rows.length : Int) := by rw [hlen]; omega
            refine ⟨_, _, _, ps ++ [p], rows ++ [[r5, n - 1 - (0 + (i : Int)), a, b]], rfl, R8.push upd_same, by rw [List.length_append, hlen]; rfl, ?_, ?_, ?_, fun z r hr => ?_⟩
            · rw [e0]
              exact hF.snoc h5a h5b ha hab hb
            · exact (D7.new hp).upd R8.1 ld
            · exact keep_upd (keep_upd ((k3.trans k6).trans k7) (((k3.trans k6).trans k7).free hp D7.there)) hl0
            · rcases List.mem_append.mp hr with y | y
              · exact few z r y
              · rw [List.mem_singleton.mp y]
                exact hba z
      · rintro σ' H3 ⟨v1, v2, v3, ps, rows, rfl, R3, hlen, hF, D3, k3, few⟩
        exact ⟨_, rfl, k l c rows H3 hc hlen hF ⟨ps, R3⟩ hl0 D3 k3 fun z => ⟨by rw [hlen]; exact hcw z, few z⟩⟩
end
end W

set_option Elab.async false
set_option linter.all false
set_option maxRecDepth 100000
set_option maxHeartbeats 4000000
namespace W
open PySem L2
theorem mod_wrap {x n : Int} (h0 : 0 ≤ x) (h1 : x < 2 * n) (hn : 0 < n) : x % n = if x < n then x else x - n := by
  by_cases h : x < n
  · rw [if_pos h, Int.emod_eq_of_lt h0 h]
  · rw [if_neg h]
    have e : x % n = (x - n) % n := by
      first
        | exact (Int.sub_emod_right x n).symm
        | (have := Int.add_emod_self (a := x - n) (b := n); rw [Int.sub_add_cancel] at this; exact this)
    rw [e, Int.emod_eq_of_lt (by omega) (by omega)]
theorem atI_int {xs : List Int} {i : Int} (h0 : 0 ≤ i) (h1 : i < xs.length) : ∃ v, v ∈ xs ∧ atI (xs.map V.int) i = some (.int v) := by
  obtain ⟨j, rfl⟩ : ∃ j : Nat, i = j := ⟨i.toNat, by omega⟩
  have hi : j < xs.length := by omega
  exact ⟨xs[j], List.getElem_mem hi, atI_nat (by rw [List.getElem?_map, List.getElem?_eq_getElem hi]; rfl)⟩
noncomputable def TieOk (n : Int) (r : List Int) : Prop := ∃ a b l m : Int, r = [a, b, l, m] ∧ 0 ≤ a ∧ a < n ∧ 0 ≤ b ∧ b < n ∧ a ≠ b ∧ -60 ≤ l ∧ l ≤ m ∧ m ≤ 60
noncomputable def spTies (K : PySem.W.Frag) : Sp := fun vs H Q _ => ∃ d sa n la wd, vs = [.ref d, .int n, .int la, .int wd] ∧ Dice K sa H d ∧ 2 ≤ n ∧ n ≤ 8 ∧ 1 ≤ la ∧ la ≤ 60 ∧ 1 ≤ wd ∧ wd ≤ 8 ∧
  ∀ (l : Addr) rows H', rows.length ≤ 12 → (∀ r ∈ rows, TieOk n r) → RowsAt H' l rows → H l = none → Dice K sa H' d → Keep d H H' → Q (.ref l) H'
section
variable {P : Program} {w : World} {K : PySem.W.Frag} {mg : Str → Option Value} {base : Heap}
noncomputable abbrev nT : List Str := ["_law_d", "_law_many", "_law_last", "_law_wide", "_law_ties_here", "_law_k", "_law_times", "_law_count", "_law_one", "_law_other", "_law_near", "_law_least"]
theorem scT : FnScope nT ["_law_d", "_law_many", "_law_last", "_law_wide"] (defScope sTies) := ⟨rfl, rfl, rfl, by decide +kernel, rfl, by decide +kernel, by decide +kernel⟩
theorem coT : CompOk (defScope sTies) nT (fsc [(".0", .local), ("_law_k", .local), ("_law_next", .globalImplicit), ("_law_d", .free), ("_law_last", .free)]) ["_law_k", "_law_d", "_law_last"] [none, some 0, some 2] :=
  ⟨rfl, by decide +kernel, by decide +kernel, by decide +kernel, rfl, by decide +kernel⟩
theorem ndT : (["_law_k", "_law_d", "_law_last"] : List Str).Nodup := by decide +kernel
theorem ok_ties {f fN : Addr} {fd fdN : FuncData} (F : Fn K mg "_law_ties" sTies ["_law_d", "_law_many", "_law_last", "_law_wide"] f fd) (FN : Fn K mg "_law_next" sNext ["_law_dice", "_law_many"] fN fdN)
    (GN : FnOk P w K mg base CX0 1 fN fdN ["_law_dice", "_law_many"] (spNext K)) (min : mg "min" = none) (max : mg "max" = none) (range : mg "range" = none) : FnOk P w K mg base CX0 2 f fd ["_law_d", "_law_many", "_law_last", "_law_wide"] (spTies K) := by
  refine F.F.ok scT (fun vs H Q E h => ?_) (fun cdv A outer s H vs Q E hr h => ?_)
  · obtain ⟨d, sa, n, la, wd, rfl, _⟩ := h
    rfl
  · obtain ⟨d, sa, n, la, wd, rfl, D, hn1, hn2, hl1, hl2, hw1, hw2, k⟩ := h
    refine ⟨_, pss_cons (ps_set (i := 4) scT.nd rfl (Or.inl rfl) (pe_lst pa_nil))
      (pss_cons (ps_set (i := 6) scT.nd rfl (Or.inl rfl) (pe_op op_cat (pe_lst (pa_cons pe_int pa_nil)) (pe_comp rfl (pi_range1 rfl range (pa_cons (pe_op op_sub (pv 1) pe_int) pa_nil)) coT
        (fun cl ex s0 H0 => ⟨pg_name (i := 0) ndT rfl (Or.inl rfl), pif_none, pe_call GN hr rfl FN.g FN.F.kp FN.b .nil pass0 (pa_cons (pv 1) (pa_cons (pe_op op_add (pv 2) pe_int) pa_nil))⟩))))
      (pss_cons (ps_set (i := 7) scT.nd rfl (Or.inl rfl) (pe_call GN hr rfl FN.g FN.F.kp FN.b .nil pass0 (pa_cons (pv 0) (pa_cons pe_int pa_nil))))
      (pss_cons (ps_cut (ps_if (PW.pt (pw_and (pt_cmpR op_eq (pv 3) pe_int (nomark _)) (pw_and1 (pt_cmpR op_eq (pe_call GN hr rfl FN.g FN.F.kp FN.b .nil pass0 (pa_cons (pv 0) (pa_cons pe_int pa_nil))) pe_int (nomark _)))))
        (pss_one (ps_set (i := 7) scT.nd rfl (Or.inl rfl) (pe_call GN hr rfl FN.g FN.F.kp FN.b .nil pass0 (pa_cons (pv 0) (pa_cons pe_int pa_nil))))) pss_nil))
      (pss_cons (ps_for PassesOwn.never rfl (pi_range1 rfl range (pa_cons (pv 7) pa_nil)) (pg_name (i := 5) scT.nd rfl (Or.inl rfl))
        (pss_cons (ps_set (i := 8) scT.nd rfl (Or.inl rfl) (pe_call GN hr rfl FN.g FN.F.kp FN.b .nil pass0 (pa_cons (pv 0) (pa_cons (pv 1) pa_nil))))
        (pss_cons (ps_set (i := 9) scT.nd rfl (Or.inl rfl) (pe_op op_mod (pe_op op_add (pe_op op_add (pv 8) pe_int) (pe_call GN hr rfl FN.g FN.F.kp FN.b .nil pass0 (pa_cons (pv 0) (pa_cons (pe_op op_sub (pv 1) pe_int) pa_nil)))) (pv 1)))
        (pss_cons (ps_set (i := 10) scT.nd rfl (Or.inl rfl) (pe_op op_sub (pe_ix ix_list0 (pv 6) (pv 9) (fun _ _ => rfl)) (pe_ix ix_list0 (pv 6) (pv 8) (fun _ _ => rfl))))
        (pss_cons (ps_cut (ps_if (pt_cmpR op_eq (pe_call GN hr rfl FN.g FN.F.kp FN.b .nil pass0 (pa_cons (pv 0) (pa_cons pe_int pa_nil))) pe_int (nomark _))
          (pss_one (ps_set (i := 10) scT.nd rfl (Or.inl rfl) (pe_op op_sub (pe_call GN hr rfl FN.g FN.F.kp FN.b .nil pass0 (pa_cons (pv 0) (pa_cons (pe_op op_add (pe_op op_mul pe_int (pv 2)) pe_int) pa_nil))) (pv 2)))) pss_nil))
        (pss_cons (ps_set (i := 11) scT.nd rfl (Or.inl rfl) (pe_callB (call_max2 rfl) (by rfl) max (by decide +kernel) (pa_cons (pe_un un_neg pe_int) (pa_cons (pe_op op_sub (pv 10) (pe_call GN hr rfl FN.g FN.F.kp FN.b .nil pass0 (pa_cons (pv 0) (pa_cons (pe_op op_add (pv 3) pe_int) pa_nil)))) pa_nil))))
        (pss_one (ps_expr (pe_bm PySem.F.plainAttrs_list PySem.F.slot_list_append PySem.F.type_list_append mt_append (pv 4)
          (pa_cons (pe_tup (pa_cons (pv 8) (pa_cons (pv 9) (pa_cons (pv 11) (pa_cons (pe_callB (call_min2 rfl) (by rfl) min (by decide +kernel) (pa_cons pe_int (pa_cons (pe_callB (call_max2 rfl) (by rfl) max (by decide +kernel)
            (pa_cons (pv 11) (pa_cons (pe_op op_add (pv 10) (pe_call GN hr rfl FN.g FN.F.kp FN.b .nil pass0 (pa_cons (pv 0) (pa_cons (pe_op op_add (pv 3) pe_int) pa_nil)))) pa_nil))) pa_nil))) pa_nil))))) pa_nil))))))))))
      (pss_one (ps_ret (pv 4))))))), ?_⟩
    -- ties_here = []
    refine ⟨Nat.zero_le _, fun l hl => ?_⟩
    have ld : l ≠ d := fun e => by
      subst e
      obtain ⟨o, q⟩ := D.there
      rw [hl] at q
      cases q
    -- times = [0] + [..]
    refine ⟨by show 1 ≤ sizeLine; decide, fun z hz => ?_⟩
    refine ⟨_, rfl, _, _, rfl, rfl, _, rfl, by omega, by omega, fun Da hDa => ?_⟩
    have zl : z ≠ l := Ne.symm (ne_of_none (upd_same (H := H) (a := l) (o := .lst [])) hz)
    have hz0 : H z = none := by rw [upd_ne zl] at hz; exact hz
    have Dal : Da ≠ l := Ne.symm (ne_of_none (show upd (upd H l (.lst [])) z (.lst [.int 0]) l = some (.lst []) by rw [upd_ne (Ne.symm zl), upd_same]) hDa)
    have Daz : Da ≠ z := Ne.symm (ne_of_none (upd_same (H := upd H l (.lst [])) (a := z) (o := .lst [.int 0])) hDa)
    have hDa0 : H Da = none := by rw [upd_ne Daz, upd_ne Dal] at hDa; exact hDa
    have nd : ∀ {a : Addr}, H a = none → a ≠ d := fun {a} e q => by
      subst q
      obtain ⟨o, q⟩ := D.there
      rw [e] at q
      cases q
    refine comp_range (n := (n - 1).toNat) (fun i σ' H' => ∃ v, ∃ ts : List Int, σ' = [v, some (.ref d), some (.int la)] ∧ ts.length = i ∧ (∀ t ∈ ts, 0 ≤ t ∧ t ≤ la) ∧ H' Da = some (.lst (ts.map V.int)) ∧ H' l = some (.lst []) ∧ H' z = some (.lst [.int 0]) ∧ Dice K sa H' d ∧ Keep d H H') ?_ ?_ ?_
    · exact ⟨none, [], rfl, rfl, (fun t ht => nomatch ht), upd_same, by rw [upd_ne (Ne.symm Dal), upd_ne (Ne.symm zl), upd_same], by rw [upd_ne (Ne.symm Daz), upd_same], ((D.new hl).new hz).new hDa, keep_upd (keep_upd (keep_upd (Keep.refl d H) hl) hz0) hDa0⟩
    · rintro i σ' H3 hi ⟨v, ts, rfl, hlen, hts, e1, e2, e3, D3, k3⟩
      refine ⟨_, rfl, _, rfl, _, _, rfl, rfl, d, sa, _, rfl, D3, by omega, fun r H4 h0 h1 D4 k4 => ?_⟩
      have f1 := k4 _ _ e1 (nd hDa0)
      refine ⟨_, f1, ?_, _, ts ++ [r], rfl, by rw [List.length_append, hlen]; rfl, fun t ht => ?_, ?_, ?_, ?_, D4.upd f1 (nd hDa0), keep_upd (k3.trans k4) hDa0⟩
      · rw [List.length_map]
        exact small1000 (by omega)
      · rcases List.mem_append.mp ht with q | q
        · exact hts t q
        · rw [List.mem_singleton.mp q]
          omega
      · rw [upd_same, List.map_append]
        rfl
      · rw [upd_ne (Ne.symm Dal)]
        exact k4 _ _ e2 ld
      · rw [upd_ne (Ne.symm Daz)]
        exact k4 _ _ e3 (nd hz0)
    · rintro σ' H3 ⟨v, ts, rfl, hlen, hts, e1, e2, e3, D3, k3⟩
      refine ⟨z, Da, _, _, rfl, rfl, e3, e1, ?_, fun tl htl => ?_⟩
      · rw [List.length_map]
        exact Nat.le_of_lt (small1000 (by simp; omega))
      have htl0 : H tl = none := k3.free htl D3.there
      have tll : tl ≠ l := Ne.symm (ne_of_none e2 htl)
      obtain ⟨tt, htt, hlt, hin⟩ : ∃ tt : List Int, [V.int 0] ++ ts.map V.int = tt.map V.int ∧ (tt.length : Int) = n ∧ ∀ t ∈ tt, 0 ≤ t ∧ t ≤ la := by
        refine ⟨0 :: ts, rfl, by rw [List.length_cons, hlen]; omega, fun t ht => ?_⟩
        rcases List.mem_cons.mp ht with q | q
        · rw [q]; omega
        · exact hts t q
      rw [htt]
      have g1 : upd H3 tl (.lst (tt.map V.int)) tl = some (.lst (tt.map V.int)) := upd_same
      have g2 : upd H3 tl (.lst (tt.map V.int)) l = some (.lst []) := by rw [upd_ne (Ne.symm tll)]; exact e2
      have D4 : Dice K sa (upd H3 tl (.lst (tt.map V.int))) d := D3.new htl
      have k4 : Keep d H (upd H3 tl (.lst (tt.map V.int))) := keep_upd k3 htl0
      -- count
      refine ⟨_, rfl, d, sa, _, rfl, D4, by decide, fun c0 H5 hc0 hc1 D5 k5 => ?_⟩
      have l5 := k5 _ _ g2 ld
      have t5 := k5 _ _ g1 (nd htl0)
      refine ⟨fun σ' H' => ∃ c : Nat, c ≤ 12 ∧ σ' = [some (.ref d), some (.int n), some (.int la), some (.int wd), some (.ref l), none, some (.ref tl), some (.int (c : Int)), none, none, none, none] ∧ Dice K sa H' d ∧ Keep d H H' ∧ H' l = some (.lst []) ∧ H' tl = some (.lst (tt.map V.int)), ?_, ?_⟩
      · refine ⟨_, rfl, rfl, _, rfl, ?_⟩
        refine ite2 (fun _ => ?_) (fun _ => ?_)
        · refine ⟨_, rfl, d, sa, _, rfl, D5, by decide, fun r H6 _ _ D6 k6 => ⟨rfl, _, rfl, ?_⟩⟩
          refine ite2 (fun _ => ?_) (fun _ => ?_)
          · refine ⟨_, rfl, d, sa, _, rfl, D6, by decide, fun c H7 h0 h1 D7 k7 => ⟨c.toNat, by omega, ?_, D7, ((k4.trans k5).trans k6).trans k7, (k6.trans k7) _ _ l5 ld, (k6.trans k7) _ _ t5 (nd htl0)⟩⟩
            rw [Int.toNat_of_nonneg h0]
            rfl
          · exact ⟨c0.toNat, by omega, by rw [Int.toNat_of_nonneg hc0]; rfl, D6, (k4.trans k5).trans k6, k6 _ _ l5 ld, k6 _ _ t5 (nd htl0)⟩
        · refine iteF ?_
          exact ⟨c0.toNat, by omega, by rw [Int.toNat_of_nonneg hc0]; rfl, D5, k4.trans k5, l5, t5⟩
      · rintro σ' H6 ⟨c, hc, rfl, D6, k6, l6, t6⟩
        refine ⟨_, rfl, _, rfl, by omega, by omega, for_range (n := c) (fun i σ' H' => ∃ v1 v2 v3 v4 v5 ps rows, σ' = [some (.ref d), some (.int n), some (.int la), some (.int wd), some (.ref l), v1, some (.ref tl), some (.int (c : Int)), v2, v3, v4, v5] ∧ RowsP H' l ps rows ∧ rows.length = i ∧ (∀ r ∈ rows, TieOk n r) ∧
          H' tl = some (.lst (tt.map V.int)) ∧ Dice K sa H' d ∧ Keep d H H') ⟨none, none, none, none, none, [], [], rfl, ⟨l6, .nil⟩, rfl, (fun r hr => nomatch hr), t6, D6, k6⟩ ?_ ?_⟩
        · rintro i σ' H7 hi ⟨v1, v2, v3, v4, v5, ps, rows, rfl, R7, hlen7, hok, t7, D7, k7⟩
          have kl : ∀ {H8 : Hp}, Keep d H7 H8 → RowsP H8 l ps rows := fun k8 => by
            obtain ⟨p, e⟩ := D7.at_
            exact R7.keep k8 e ld
          -- one, other
          refine ⟨_, rfl, _, rfl, d, sa, _, rfl, D7, by omega, fun o1 H8 h1a h1b D8 k8 => ?_⟩
          refine ⟨_, rfl, _, _, rfl, rfl, _, rfl, _, rfl, _, _, rfl, rfl, d, sa, _, rfl, D8, by omega, fun o2 H9 h2a h2b D9 k9 => ⟨_, _, rfl, rfl, _, rfl, _, _, rfl, rfl, (by show (0 : Int) < n; omega), ?_⟩⟩
          have hw := mod_wrap (x := o1 + 1 + o2) (n := n) (by omega) (by omega) (by omega)
          have ho : 0 ≤ (o1 + 1 + o2) % n ∧ (o1 + 1 + o2) % n < n ∧ o1 ≠ (o1 + 1 + o2) % n := by
            rw [hw]
            split <;> omega
          obtain ⟨ho1, ho2, ho3⟩ := ho
          have t9 := (k8.trans k9) _ _ t7 (nd htl0)
          obtain ⟨w1, hw1m, ha1⟩ := atI_int (xs := tt) ho1 (by omega)
          obtain ⟨w2, hw2m, ha2⟩ := atI_int (xs := tt) h1a (by omega)
          have b1 := hin w1 hw1m
          have b2 := hin w2 hw2m
          -- near
          refine ⟨_, rfl, rdLv rfl t9 ha1 ⟨_, rfl, rdLv rfl t9 ha2 ⟨_, _, rfl, rfl, ?_⟩⟩⟩
          refine ⟨fun σ' H' => ∃ nr : Int, -60 ≤ nr ∧ nr ≤ 60 ∧ σ' = [some (.ref d), some (.int n), some (.int la), some (.int wd), some (.ref l), some (.int (0 + (i : Int))), some (.ref tl), some (.int (c : Int)), some (.int o1), some (.int ((o1 + 1 + o2) % n)), some (.int nr), v5] ∧ Dice K sa H' d ∧ Keep d H7 H', ?_, ?_⟩
          · refine ⟨_, rfl, d, sa, _, rfl, D9, by decide, fun r H10 _ _ D10 k10 => ⟨rfl, _, rfl, ?_⟩⟩
            refine ite2 (fun _ => ?_) (fun _ => ?_)
            · refine ⟨_, rfl, _, rfl, _, _, rfl, rfl, .inl ⟨by decide, by decide⟩, _, _, rfl, rfl, d, sa, _, rfl, D10, by omega, fun r' H11 g0 g1' D11 k11 => ⟨_, rfl, _, _, rfl, rfl, r' - la, by omega, by omega, rfl, D11, ((k8.trans k9).trans k10).trans k11⟩⟩
            · exact ⟨w1 - w2, by omega, by omega, rfl, D10, (k8.trans k9).trans k10⟩
          · rintro σ' H10 ⟨nr, hnr1, hnr2, rfl, D10, k10⟩
            -- least
            refine ⟨_, rfl, _, rfl, _, rfl, _, rfl, _, _, rfl, rfl, d, sa, _, rfl, D10, by omega, fun r1 H11 h3a h3b D11 k11 => ⟨_, _, rfl, rfl, _, _, rfl, ?_⟩⟩
            have R11 := kl (k10.trans k11)
            -- ties_here.append((one, other, least, ..))
            refine ⟨_, rfl, .inl ⟨rfl, _, SqL.of R11.1⟩, ?_⟩
            refine ⟨_, rfl, _, rfl, _, rfl, _, rfl, _, rfl, _, rfl, _, rfl, _, _, rfl, rfl, d, sa, _, rfl, D11, by omega, fun r2 H12 h4a h4b D12 k12 => ⟨_, _, rfl, rfl, _, _, rfl, _, _, rfl, by show 4 ≤ sizeLine; decide, fun p hp => ?_⟩⟩
            have R12 := kl ((k10.trans k11).trans k12)
            have R13 := R12.same (same_new (o := .tup [.int o1, .int ((o1 + 1 + o2) % n), .int (if nr - r1 > -60 then nr - r1 else -60), .int (if (if nr + r2 > (if nr - r1 > -60 then nr - r1 else -60) then nr + r2 else (if nr - r1 > -60 then nr - r1 else -60)) < 60 then (if nr + r2 > (if nr - r1 > -60 then nr - r1 else -60) then nr + r2 else (if nr - r1 > -60 then nr - r1 else -60)) else 60)]) hp)
            have kA := ((k7.trans k10).trans k11).trans k12
            refine ⟨l, _, _, rfl, rfl, R13.1, ?_, ?_⟩
            · rw [List.length_map, R13.len]
              exact small1000 (by omega)
            · refine ⟨_, _, _, _, _, ps ++ [p], rows ++ [[o1, (o1 + 1 + o2) % n, (if nr - r1 > -60 then nr - r1 else -60), (if (if nr + r2 > (if nr - r1 > -60 then nr - r1 else -60) then nr + r2 else (if nr - r1 > -60 then nr - r1 else -60)) < 60 then (if nr + r2 > (if nr - r1 > -60 then nr - r1 else -60) then nr + r2 else (if nr - r1 > -60 then nr - r1 else -60)) else 60)]], rfl, R13.push upd_same, by rw [List.length_append, hlen7]; rfl, fun r hr => ?_, ?_, ?_, ?_⟩
              · rcases List.mem_append.mp hr with q | q
                · exact hok r q
                · rw [List.mem_singleton.mp q]
                  exact ⟨_, _, _, _, rfl, h1a, h1b, ho1, ho2, ho3, by split <;> omega, by repeat' split <;> omega, by split <;> omega⟩
              · rw [upd_ne tll, upd_ne (Ne.symm (ne_of_none ((((k10.trans k11).trans k12)) _ _ t7 (nd htl0)) hp).symm)]
                exact ((k10.trans k11).trans k12) _ _ t7 (nd htl0)
              · exact (D12.new hp).upd R13.1 ld
              · exact keep_upd (keep_upd kA (kA.free hp D12.there)) hl
        · rintro σ' H7 ⟨v1, v2, v3, v4, v5, ps, rows, rfl, R7, hlen7, hok, t7, D7, k7⟩
          exact ⟨_, rfl, k l rows H7 (by omega) hok ⟨ps, R7⟩ hl D7 k7⟩
end
end W

set_option Elab.async false
set_option linter.all false
set_option maxRecDepth 100000
set_option maxHeartbeats 4000000
namespace W
open PySem L2
theorem paired_get {α β : Type} {F : α → β → Prop} {l : List α} {m : List β} {i : Nat} {a : α} (h : Paired F l m) (e : l[i]? = some a) : ∃ b, m[i]? = some b ∧ F a b := by
  induction h generalizing i with
  | nil => simp at e
  | cons r t ih =>
    cases i with
    | zero => simp at e; subst e; exact ⟨_, rfl, r⟩
    | succ i =>
      obtain ⟨b, h1, h2⟩ := ih (i := i) (by simpa using e)
      exact ⟨b, by simpa using h1, h2⟩
theorem Dice.keepL {K : PySem.W.Frag} {sa d l : Addr} {H H1 : Hp} {xs : List V} (x : Dice K sa H d) (k : Keep l H H1) (hl : H l = some (.lst xs)) (hd : l ≠ d) : Dice K sa H1 d := by
  obtain ⟨⟨p, h⟩, ⟨ns, r⟩⟩ := x
  exact ⟨⟨p, k _ _ h (Ne.symm hd)⟩, ⟨ns, r.keep k hl⟩⟩
theorem keep_via {d l : Addr} {H H1 H2 : Hp} (a : Keep d H H1) (b : Keep l H1 H2) (hl : H l = none) : Keep d H H2 := fun c o e n => b c o (a c o e n) (ne_of_none e hl)
/-! ### a drawn web can be -/
theorem namedF_lt {m n t : Int} (hn : 2 ≤ n) (h0 : 0 ≤ m) : 0 ≤ namedF m n t ∧ namedF m n t < n := by
  unfold namedF
  split
  · omega
  · have h1 := Int.emod_nonneg (m - 1 + t) (show n - 1 ≠ 0 by omega)
    have h2 := Int.emod_lt_of_pos (m - 1 + t) (show 0 < n - 1 by omega)
    omega
theorem namedF_pos {m n t : Int} (hn : 2 ≤ n) (h0 : m ≠ 0) : 0 < namedF m n t := by
  unfold namedF
  rw [if_neg h0]
  have h1 := Int.emod_nonneg (m - 1 + t) (show n - 1 ≠ 0 by omega)
  omega
theorem namedF_inj {a b n t : Int} (hn : 2 ≤ n) (ha : 0 ≤ a) (ha' : a < n) (hb : 0 ≤ b) (hb' : b < n) (ht : 0 ≤ t) (ht' : t < n) (e : namedF a n t = namedF b n t) : a = b := by
  by_cases a0 : a = 0
  · by_cases b0 : b = 0
    · omega
    · have := namedF_pos (t := t) hn b0
      have z : namedF a n t = 0 := by unfold namedF; rw [if_pos a0]
      omega
  · by_cases b0 : b = 0
    · have := namedF_pos (t := t) hn a0
      have z : namedF b n t = 0 := by unfold namedF; rw [if_pos b0]
      omega
    · unfold namedF at e
      rw [if_neg a0, if_neg b0, mod_wrap (x := a - 1 + t) (n := n - 1) (by omega) (by omega) (by omega), mod_wrap (x := b - 1 + t) (n := n - 1) (by omega) (by omega) (by omega)] at e
      revert e
      split <;> split <;> intro e <;> omega
noncomputable def renR (n t : Int) : List Int → List Int
  | [a, b, l, m] => [namedF a n t, namedF b n t, l, m]
  | r => r
noncomputable def FallOk (n : Int) (r : List Int) : Prop := ∃ a b l m : Int, r = [a, b, l, m] ∧ 0 ≤ a ∧ a < n ∧ 0 < b ∧ b < n ∧ a ≠ b ∧ 1 ≤ l ∧ l ≤ m ∧ m ≤ 60
structure WebOk (n la : Int) (T F : List (List Int)) : Prop where
  n1 : 1 ≤ n
  n2 : n ≤ 8
  l1 : 1 ≤ la
  l2 : la ≤ 60
  tl : T.length ≤ 24
  fl : F.length ≤ 7
  t : ∀ r ∈ T, TieOk n r
  f : ∀ r ∈ F, FallOk n r
  one : ∀ (i j : Nat) r r', F[i]? = some r → F[j]? = some r' → r[1]? = r'[1]? → i = j
  own : ∀ r ∈ F, ∀ r' ∈ F, r[0]? ≠ r'[1]?
theorem TieOk.ren {n t : Int} {r : List Int} (hn : 2 ≤ n) (ht : 0 ≤ t) (ht' : t < n) (h : TieOk n r) : TieOk n (renR n t r) := by
  obtain ⟨a, b, l, m, rfl, h1, h2, h3, h4, h5, h6, h7, h8⟩ := h
  have ha := namedF_lt (t := t) hn h1
  have hb := namedF_lt (t := t) hn h3
  exact ⟨_, _, l, m, rfl, ha.1, ha.2, hb.1, hb.2, fun e => h5 (namedF_inj hn h1 h2 h3 h4 ht ht' e), h6, h7, h8⟩
theorem webOk_of {n la t : Int} {c : Nat} {T F : List (List Int)} (hn : 2 ≤ n) (hn2 : n ≤ 8) (hl1 : 1 ≤ la) (hl2 : la ≤ 60) (ht : 0 ≤ t) (ht' : t < n) (hT : ∀ r ∈ T, TieOk n r) (hTl : T.length ≤ 12) (hc : (c : Int) ≤ n - 1) (hlen : F.length = c) (hF : FallsRaw n c F) :
    WebOk n la (T.map (renR n t)) (F.map (renR n t)) := by
  have at_ : ∀ (i : Nat) r, (F.map (renR n t))[i]? = some r → ∃ a l m : Int, r = [namedF a n t, namedF (n - 1 - i) n t, l, m] ∧ i < c ∧ 0 ≤ a ∧ a < n - c ∧ 1 ≤ l ∧ l ≤ m ∧ m ≤ 60 := fun i r e => by
    rw [List.getElem?_map] at e
    cases q : F[i]? with
    | none => rw [q] at e; cases e
    | some r0 =>
      rw [q] at e
      have hi : i < c := by rw [← hlen]; exact (List.getElem?_eq_some_iff.mp q).1
      obtain ⟨a, l, m, rfl, r1⟩ := hF i r0 q
      cases e
      exact ⟨a, l, m, rfl, hi, r1⟩
  have mem : ∀ r, r ∈ F.map (renR n t) → ∃ i : Nat, (F.map (renR n t))[i]? = some r := fun r hr => List.mem_iff_getElem?.mp hr
  refine ⟨by omega, hn2, hl1, hl2, by rw [List.length_map]; omega, by rw [List.length_map]; omega, fun r hr => ?_, fun r hr => ?_, fun i j r r' e e' q => ?_, fun r hr r' hr' => ?_⟩
  · obtain ⟨r0, h0, rfl⟩ := List.mem_map.mp hr
    exact (hT r0 h0).ren hn ht ht'
  · obtain ⟨i, e⟩ := mem r hr
    obtain ⟨a, l, m, rfl, hi, h1, h2, h3, h4, h5⟩ := at_ i r e
    have ha := namedF_lt (t := t) hn h1
    have hb := namedF_lt (m := n - 1 - i) (t := t) hn (by omega)
    exact ⟨_, _, l, m, rfl, ha.1, ha.2, namedF_pos hn (by omega), hb.2, fun z => by
      have := namedF_inj hn h1 (by omega) (by omega) (by omega) ht ht' z
      omega, h3, h4, h5⟩
  · obtain ⟨a, l, m, rfl, hi, _⟩ := at_ i r e
    obtain ⟨a', l', m', rfl, hj, _⟩ := at_ j r' e'
    have z : namedF (n - 1 - i) n t = namedF (n - 1 - j) n t := by simpa using q
    have := namedF_inj hn (by omega) (by omega) (by omega) (by omega) ht ht' z
    omega
  · obtain ⟨i, e⟩ := mem r hr
    obtain ⟨j, e'⟩ := mem r' hr'
    obtain ⟨a, l, m, rfl, hi, h1, h2, _⟩ := at_ i r e
    obtain ⟨a', l', m', rfl, hj, _⟩ := at_ j r' e'
    intro q
    have z : namedF a n t = namedF (n - 1 - j) n t := by simpa using q
    have := namedF_inj hn h1 (by omega) (by omega) (by omega) ht ht' z
    omega
theorem Few.ren {wd n t : Int} {n0 : Int} {c : Nat} {rows : List (List Int)} (h : Few wd rows) (hF : FallsRaw n0 c rows) : Few wd (rows.map (renR n t)) := fun z => by
  obtain ⟨h1, h2⟩ := h z
  refine ⟨by rw [List.length_map]; exact h1, fun r hr => ?_⟩
  obtain ⟨r0, h0, rfl⟩ := List.mem_map.mp hr
  obtain ⟨i, e⟩ := List.mem_iff_getElem?.mp h0
  obtain ⟨a, l, m, e', _⟩ := hF i r0 e
  have := h2 r0 h0
  subst e'
  exact this
noncomputable def spWeb (K : PySem.W.Frag) : Sp := fun vs H Q _ => ∃ d sa mo la wd, vs = [.ref d, .int mo, .int la, .int wd] ∧ Dice K sa H d ∧ 2 ≤ mo ∧ mo ≤ 8 ∧ 1 ≤ la ∧ la ≤ 60 ∧ 1 ≤ wd ∧ wd ≤ 8 ∧
  ∀ (p ta fa : Addr) n l T F H', H' p = some (.tup [.int n, .int l, .ref ta, .ref fa]) → RowsAt H' ta T → RowsAt H' fa F → WebOk n l T F → 2 ≤ n → n ≤ mo → l ≤ la → Dice K sa H' d → Keep d H H' → ta ≠ d → fa ≠ d → Few wd F ∧ T.length ≤ 12 → Q (.ref p) H'
section
variable {P : Program} {w : World} {K : PySem.W.Frag} {mg : Str → Option Value} {base : Heap}
noncomputable abbrev nW : List Str := ["_law_d", "_law_most", "_law_last", "_law_wide", "_law_many", "_law_falls_here", "_law_ties_here", "_law_turn", "_law_found", "_law_rows_here"]
theorem scW : FnScope nW ["_law_d", "_law_most", "_law_last", "_law_wide"] (defScope sWeb) := ⟨rfl, rfl, rfl, by decide +kernel, rfl, by decide +kernel, by decide +kernel⟩
noncomputable abbrev nWc : List Str := ["_law_r", "_law_many", "_law_turn"]
theorem coW : CompOk (defScope sWeb) nW (fsc [(".0", .local), ("_law_r", .local), ("_law_named", .globalImplicit), ("_law_many", .free), ("_law_turn", .free)]) nWc [none, some 4, some 7] :=
  ⟨rfl, by decide +kernel, by decide +kernel, by decide +kernel, rfl, by decide +kernel⟩
theorem ndWc : nWc.Nodup := by decide +kernel
theorem ok_web {f fN fM fF fT : Addr} {fd fdN fdM fdF fdT : FuncData} (F : Fn K mg "_law_web" sWeb ["_law_d", "_law_most", "_law_last", "_law_wide"] f fd)
    (FN : Fn K mg "_law_next" sNext ["_law_dice", "_law_many"] fN fdN) (GN : FnOk P w K mg base CX0 1 fN fdN ["_law_dice", "_law_many"] (spNext K))
    (FM : Fn K mg "_law_named" sNamed ["_law_moment", "_law_many", "_law_turn"] fM fdM) (GM : FnOk P w K mg base CX0 1 fM fdM ["_law_moment", "_law_many", "_law_turn"] spNamed)
    (FF : Fn K mg "_law_falls" sFalls ["_law_d", "_law_many", "_law_wide"] fF fdF) (GF : FnOk P w K mg base CX0 2 fF fdF ["_law_d", "_law_many", "_law_wide"] (spFalls K))
    (FT : Fn K mg "_law_ties" sTies ["_law_d", "_law_many", "_law_last", "_law_wide"] fT fdT) (GT : FnOk P w K mg base CX0 2 fT fdT ["_law_d", "_law_many", "_law_last", "_law_wide"] (spTies K)) :
    FnOk P w K mg base CX0 3 f fd ["_law_d", "_law_most", "_law_last", "_law_wide"] (spWeb K) := by
  refine F.F.ok scW (fun vs H Q E h => ?_) (fun cdv A outer s H vs Q E hr h => ?_)
  · obtain ⟨d, sa, mo, la, wd, rfl, _⟩ := h
    rfl
  · obtain ⟨d, sa, mo, la, wd, rfl, D, hm1, hm2, hl1, hl2, hw1, hw2, k⟩ := h
    have hr1 : Room 1 _ := hr.mono (by decide)
    refine ⟨_, pss_cons (ps_set (i := 4) scW.nd rfl (Or.inr rfl) (pe_op op_add pe_int (pe_call GN hr1 rfl FN.g FN.F.kp FN.b .nil pass0 (pa_cons (pv 0) (pa_cons (pe_op op_sub (pv 1) pe_int) pa_nil)))))
      (pss_cons (ps_set (i := 2) scW.nd rfl (Or.inl rfl) (pe_op op_add pe_int (pe_call GN hr1 rfl FN.g FN.F.kp FN.b .nil pass0 (pa_cons (pv 0) (pa_cons (pv 2) pa_nil)))))
      (pss_cons (ps_set (i := 5) scW.nd rfl (Or.inl rfl) (pe_call GF hr rfl FF.g FF.F.kp FF.b .nil pass0 (pa_cons (pv 0) (pa_cons (pv 4) (pa_cons (pv 3) pa_nil)))))
      (pss_cons (ps_set (i := 6) scW.nd rfl (Or.inl rfl) (pe_call GT hr rfl FT.g FT.F.kp FT.b .nil pass0 (pa_cons (pv 0) (pa_cons (pv 4) (pa_cons (pv 2) (pa_cons (pv 3) pa_nil))))))
      (pss_cons (ps_set (i := 7) scW.nd rfl (Or.inr rfl) (pe_call GN hr1 rfl FN.g FN.F.kp FN.b .nil pass0 (pa_cons (pv 0) (pa_cons (pv 4) pa_nil))))
      (pss_cons (ps_set (i := 8) scW.nd rfl (Or.inl rfl) (pe_lst pa_nil))
      (pss_cons (ps_for PassesOwn.never rfl (pi_list (pe_lst (pa_cons (pv 6) (pa_cons (pv 5) pa_nil)))) (pg_name (i := 9) scW.nd rfl (Or.inl rfl))
        (pss_one (ps_expr (pe_bm PySem.F.plainAttrs_list PySem.F.slot_list_append PySem.F.type_list_append mt_append (pv 8)
          (pa_cons (pe_comp rfl (pi_list (pv 9)) coW (fun cl ex s0 H0 => ⟨pg_name (i := 0) ndWc rfl (Or.inl rfl), pif_none,
            pe_tup (pa_cons (pe_call GM hr1 rfl FM.g FM.F.kp FM.b .nil pass0 (pa_cons (pe_ix ix_tup0 (pv 0) pe_int (fun _ _ => rfl)) (pa_cons (pv 1) (pa_cons (pv 2) pa_nil))))
              (pa_cons (pe_call GM hr1 rfl FM.g FM.F.kp FM.b .nil pass0 (pa_cons (pe_ix ix_tup0 (pv 0) pe_int (fun _ _ => rfl)) (pa_cons (pv 1) (pa_cons (pv 2) pa_nil))))
              (pa_cons (pe_ix ix_tup0 (pv 0) pe_int (fun _ _ => rfl)) (pa_cons (pe_ix ix_tup0 (pv 0) pe_int (fun _ _ => rfl)) pa_nil))))⟩)) pa_nil)))))
      (pss_one (ps_ret (pe_tup (pa_cons (pv 4) (pa_cons (pv 2) (pa_cons (pe_ix ix_list0 (pv 8) pe_int (fun _ _ => rfl)) (pa_cons (pe_ix ix_list0 (pv 8) pe_int (fun _ _ => rfl)) pa_nil))))))))))))), ?_⟩
    refine ⟨_, rfl, _, rfl, _, _, rfl, rfl, d, sa, _, rfl, D, by omega, fun r1 H1 h1a h1b D1 k1 => ⟨_, _, rfl, rfl, ?_⟩⟩
    refine ⟨_, rfl, _, rfl, d, sa, _, rfl, D1, by omega, fun r2 H2 h2a h2b D2 k2 => ⟨_, _, rfl, rfl, ?_⟩⟩
    refine ⟨_, rfl, _, rfl, _, rfl, d, sa, _, _, rfl, D2, by omega, by omega, hw1, hw2, fun fl c F0 H3 hc hcl hF0 RF hfl D3 k3 few => ?_⟩
    refine ⟨_, rfl, _, rfl, _, rfl, _, rfl, d, sa, _, _, _, rfl, D3, by omega, by omega, by omega, by omega, hw1, hw2, fun tl T0 H4 hTl hT0 RT htl D4 k4 => ?_⟩
    refine ⟨_, rfl, _, rfl, d, sa, _, rfl, D4, by omega, fun t H5 hta htb D5 k5 => ?_⟩
    have fld : fl ≠ d := fun e => by
      subst e
      obtain ⟨o, q⟩ := D2.there
      rw [hfl] at q
      cases q
    have tld : tl ≠ d := fun e => by
      subst e
      obtain ⟨o, q⟩ := D3.there
      rw [htl] at q
      cases q
    have RF5 : RowsAt H5 fl F0 := by
      obtain ⟨p, e⟩ := D3.at_
      exact RF.keep (k4.trans k5) e fld
    have RT5 : RowsAt H5 tl T0 := by
      obtain ⟨p, e⟩ := D4.at_
      exact RT.keep k5 e tld
    have kA : Keep d H H5 := (((k1.trans k2).trans k3).trans k4).trans k5
    -- found = []
    refine ⟨Nat.zero_le _, fun fo hfo => ?_⟩
    have fod : fo ≠ d := fun e => by
      subst e
      obtain ⟨o, q⟩ := D5.there
      rw [hfo] at q
      cases q
    have hfo0 : H fo = none := kA.free hfo D5.there
    have RF6 := RF5.same (same_new (o := .lst []) hfo)
    have RT6 := RT5.same (same_new (o := .lst []) hfo)
    have tlfo : tl ≠ fo := by
      obtain ⟨ps, e, _⟩ := RT5
      exact ne_of_none e hfo
    have flfo : fl ≠ fo := by
      obtain ⟨ps, e, _⟩ := RF5
      exact ne_of_none e hfo
    -- for rows in [ties, falls]
    refine ⟨_, rfl, _, rfl, by show 2 ≤ sizeLine; decide, fun ll hll => ⟨ll, rfl, ⟨_, SqL.of upd_same⟩, ?_⟩⟩
    have llfo : ll ≠ fo := Ne.symm (ne_of_none (upd_same (H := H5) (a := fo) (o := .lst [])) hll)
    have hll5 : H5 ll = none := by rw [upd_ne llfo] at hll; exact hll
    have hll0 : H ll = none := kA.free hll5 D5.there
    generalize hH7 : upd (upd H5 fo (.lst [])) ll (.lst [V.ref tl, V.ref fl]) = H7
    have e7 : H7 fo = some (.lst []) := by rw [← hH7, upd_ne (Ne.symm llfo), upd_same]
    have e7l : H7 ll = some (.lst [V.ref tl, V.ref fl]) := by rw [← hH7, upd_same]
    have RF7 : RowsAt H7 fl F0 := by rw [← hH7]; exact RF6.same (same_new hll)
    have RT7 : RowsAt H7 tl T0 := by rw [← hH7]; exact RT6.same (same_new hll)
    have D7 : Dice K sa H7 d := by rw [← hH7]; exact (D5.new hfo).new hll
    have k7 : Keep d H H7 := by rw [← hH7]; exact keep_upd (keep_upd kA hfo0) hll0
    refine for_list (K := K) (a := ll) (xs := [V.ref tl, V.ref fl]) (fun i σ' H' => ∃ v ls, σ' = [some (.ref d), some (.int mo), some (.int (1 + r2)), some (.int wd), some (.int (2 + r1)), some (.ref fl), some (.ref tl), some (.int t), some (.ref fo), v] ∧
      H' fo = some (.lst (ls.map V.ref)) ∧ Paired (fun a rs => RowsAt H' a rs ∧ a ≠ fo ∧ a ≠ d) ls (([T0, F0].take i).map fun R => R.map (renR (2 + r1) t)) ∧ Keep fo H7 H') ⟨none, [], rfl, e7, .nil, Keep.refl fo H7⟩ ?_ ?_ ?_
    · rintro i σ' H8 _ ⟨v, ls, rfl, _, _, k8⟩
      exact SqL.of (k8 _ _ e7l llfo)
    · rintro i x σ' H8 hx ⟨v, ls, rfl, e8, pl8, k8⟩
      obtain ⟨a0, R0, rfl, RA, a0fo, htk, hsh, hln⟩ : ∃ a0 R0, x = .ref a0 ∧ RowsAt H8 a0 R0 ∧ a0 ≠ fo ∧ (([T0, F0].take (i + 1)).map fun R => R.map (renR (2 + r1) t)) = (([T0, F0].take i).map fun R => R.map (renR (2 + r1) t)) ++ [R0.map (renR (2 + r1) t)] ∧
          (∀ r ∈ R0, ∃ a b l m : Int, r = [a, b, l, m]) ∧ R0.length ≤ 12 := by
        match i, hx with
        | 0, hx =>
          cases hx
          exact ⟨tl, T0, rfl, RT7.keep k8 e7 tlfo, tlfo, rfl, fun r hr => by
            obtain ⟨a, b, l, m, e, _⟩ := hT0 r hr
            exact ⟨a, b, l, m, e⟩, hTl⟩
        | 1, hx =>
          cases hx
          exact ⟨fl, F0, rfl, RF7.keep k8 e7 flfo, flfo, rfl, fun r hr => by
            obtain ⟨i, e⟩ := List.mem_iff_getElem?.mp hr
            obtain ⟨a, l, m, e, _⟩ := hF0 i r e
            exact ⟨a, _, l, m, e⟩, by omega⟩
        | i + 2, hx => cases hx
      obtain ⟨ps0, RP⟩ := RA
      refine ⟨_, rfl, .inl ⟨rfl, _, SqL.of e8⟩, ?_⟩
      refine ⟨_, rfl, a0, rfl, ⟨_, SqL.of RP.1⟩, fun Da hDa => ?_⟩
      refine comp_list (xs := ps0.map V.ref) (fun j σ' H' => ∃ v ps, σ' = [v, some (.int (2 + r1)), some (.int t)] ∧ RowsP H' Da ps ((R0.take j).map (renR (2 + r1) t)) ∧ Same H8 H') ?_ ?_ ?_ ?_
      · exact ⟨none, [], rfl, ⟨upd_same, .nil⟩, same_new hDa⟩
      · rintro j σ' H9 _ ⟨v, ps, rfl, _, s9⟩
        exact SqL.of (s9 _ _ RP.1)
      · rintro j x σ' H9 hxj ⟨v, ps, rfl, R9, s9⟩
        rw [List.getElem?_map] at hxj
        cases hq : ps0[j]? with
        | none => rw [hq] at hxj; cases hxj
        | some q =>
          rw [hq] at hxj
          cases hxj
          obtain ⟨r, hr, hqt⟩ := paired_get RP.2 hq
          obtain ⟨a, b, l, m, rfl⟩ := hsh r (List.mem_of_getElem? hr)
          have hqt9 := s9 _ _ hqt
          refine ⟨_, rfl, rdT hqt9 rfl ⟨_, rfl, _, rfl, _, _, _, rfl, by omega, ?_⟩⟩
          refine ⟨_, rfl, rdT hqt9 rfl ⟨_, rfl, _, rfl, _, _, _, rfl, by omega, ?_⟩⟩
          refine ⟨_, rfl, rdT hqt9 rfl ⟨_, rfl, rdT hqt9 rfl ⟨by show 4 ≤ sizeLine; decide, fun p hp => ?_⟩⟩⟩
          have R10 := R9.same (same_new (o := .tup [.int (namedF a (2 + r1) t), .int (namedF b (2 + r1) t), .int l, .int m]) hp)
          have hDa8 : H8 Da = none := hDa
          refine ⟨_, R10.1, ?_, _, ps ++ [p], rfl, ?_, fun b o e => ?_⟩
          · rw [List.length_map, R10.len, List.length_map, List.length_take]
            exact small1000 (by omega)
          · have hj : (R0.take (j + 1)).map (renR (2 + r1) t) = (R0.take j).map (renR (2 + r1) t) ++ [[namedF a (2 + r1) t, namedF b (2 + r1) t, l, m]] := by
              rw [List.take_succ, hr, List.map_append]
              rfl
            rw [hj]
            exact R10.push upd_same
          · rw [upd_ne (ne_of_none e hDa8), upd_ne (ne_of_none (s9 _ _ e) hp)]
            exact s9 _ _ e
      · rintro σ' H9 ⟨v, ps, rfl, R9, s9⟩
        have e9 := s9 _ _ e8
        refine ⟨fo, _, .ref Da, rfl, rfl, e9, ?_, ?_⟩
        · rw [List.length_map, pl8.length, List.length_map, List.length_take]
          exact small1000 (by simp; omega)
        · have hDafo : Da ≠ fo := Ne.symm (ne_of_none e8 hDa)
          have hDad : Da ≠ d := fun e => by
            subst e
            obtain ⟨p, q⟩ := (D7.keepL k8 e7 fod).at_
            rw [hDa] at q
            cases q
          have ku : Keep fo H9 (upd H9 fo (.lst (ls.map V.ref ++ [.ref Da]))) := fun b o e n => by rw [upd_ne n]; exact e
          refine ⟨_, ls ++ [Da], rfl, by rw [upd_same, List.map_append]; rfl, ?_, fun b o e n => by rw [upd_ne n]; exact s9 _ _ (k8 b o e n)⟩
          rw [htk]
          refine Paired.snoc (paired_imp pl8 fun a rs z => ⟨(z.1.same s9).keep ku e9 z.2.1, z.2⟩) ⟨?_, hDafo, hDad⟩
          have hl : R0.take (ps0.map V.ref).length = R0 := by
            rw [List.length_map, RP.len]
            exact List.take_length
          rw [hl] at R9
          exact RowsAt.keep ⟨ps, R9⟩ ku e9 hDafo
    · rintro σ' H8 ⟨v, ls, rfl, e8, pl8, k8⟩
      have pl8 : Paired (fun a rs => RowsAt H8 a rs ∧ a ≠ fo ∧ a ≠ d) ls [T0.map (renR (2 + r1) t), F0.map (renR (2 + r1) t)] := pl8
      cases pl8 with
      | @cons lt _ ls1 _ q1 pl9 =>
        cases pl9 with
        | @cons lf _ ls2 _ q2 pl10 =>
          cases pl10
          refine ⟨_, rfl, _, rfl, _, rfl, rdL e8 rfl ⟨_, rfl, rdL e8 rfl ⟨by show 4 ≤ sizeLine; decide, fun p hp => ?_⟩⟩⟩
          have sm := same_new (o := .tup [.int (2 + r1), .int (1 + r2), .ref lt, .ref lf]) hp
          exact k p lt lf _ _ _ _ _ upd_same (q1.1.same sm) (q2.1.same sm) (webOk_of (by omega) (by omega) (by omega) (by omega) hta htb hT0 hTl hc hcl hF0) (by omega) (by omega) (by omega) ((D7.keepL k8 e7 fod).same sm) (keep_upd (keep_via k7 k8 hfo0) ((keep_via k7 k8 hfo0).free hp (D7.keepL k8 e7 fod).there)) q1.2.2 q2.2.2 ⟨few.ren hF0, by rw [List.length_map]; exact hTl⟩
end
end W

set_option Elab.async false
set_option linter.all false
set_option maxRecDepth 100000
set_option maxHeartbeats 4000000
namespace L2
open PySem PySem.Spec PyProof.Rows
section
variable {P : Program} {w : World} {K : PySem.W.Frag} {mg : Str → Option Value} {base : Heap}
theorem Fun.ok1 {x qual : Str} {st : Stmt} {f : Addr} {fd : FuncData} {N ps : List Str} {k : Nat} {sp : Sp} (F : Fun K x qual st f fd) (S : FnScope N ps (defScope st)) (len : ∀ vs H Q E, sp vs H Q E → vs.length = ps.length)
    (hbody : ∀ (cdv : Value) (A : Around) (outer : List Env) (s : Shared) (H : Hp) (vs : List V) (Q : VK) (E : XK), Room k (A.deeper (envOfC qual (defScope st) s.heap.objs.size f cdv)) → sp vs H Q E →
      ∃ t, PSs (cxOf (CX1 P w) P w K mg base N qual (defScope st) f cdv A outer s H E) (defBody st) t ∧ t { nx := fun _ H' => Q .non H', rt := Q } (start N vs) H) : FnOk P w K mg base (CX1 P w) (k + 1) f fd ps sp := by
  obtain ⟨oc, od, kV, doc, pm, an, cdv, ct, osl, rfl, lk, hcd⟩ := F.ex
  exact fn_of lk hcd S len fun A outer s H vs Q E hr hsp => hbody cdv A outer s H vs Q E hr hsp
end
theorem iteD {c A B : Prop} [Decidable c] (hc : c) (h : A) : if decide c = true then A else B := by
  rw [decide_eq_true hc]
  exact iteT h
theorem iteDN {c A B : Prop} [Decidable c] (hc : ¬ c) (h : B) : if decide c = true then A else B := by
  rw [decide_eq_false hc]
  exact iteF h
theorem bl_of {Q : VK} {H : Hp} {b b' : Bool} (k : Q (.bl b) H) (e : b = b') : Q (.bl b') H := e ▸ k
theorem inV_ints {a : Int} : ∀ {ns : List Int}, inV (.int a) (ns.map V.int) = decide (a ∈ ns)
  | [] => by simp [inV]
  | n :: r => by
    have ih := inV_ints (a := a) (ns := r)
    unfold inV at ih ⊢
    rw [List.map_cons, List.any_cons, ih]
    show ((n == a) || decide (a ∈ r)) = decide (a ∈ n :: r)
    by_cases e : n = a
    · subst e; simp
    · have : ¬ a = n := fun z => e z.symm
      simp [e, this]
theorem flat_ints : ∀ {ns : List Int}, (ns.map V.int).all flatV = true
  | [] => rfl
  | n :: r => by
    rw [List.map_cons, List.all_cons, flat_ints (ns := r)]
    rfl
theorem cut_take {α : Type} {xs : List α} {i : Nat} (h : i ≤ xs.length) : (xs.drop (HT.sIx xs.length 0 none)).take (HT.sIx xs.length xs.length (some (i : Int)) - HT.sIx xs.length 0 none) = xs.take i := by
  rw [HT.sIx_none, HT.sIx_nat, List.drop_zero, Nat.sub_zero, Nat.min_eq_left h]
end L2
namespace W
open PySem L2
structure TxtW (mg : Str → Option Value) : Prop where
  mm : ∃ t, mg "MOST_MOMENTS" = some (.int 8 t)
  ll : ∃ t, mg "LATEST_LAST" = some (.int 60 t)
  ws : ∃ t, mg "WIDEST_SPAN" = some (.int 60 t)
  lf : ∃ t, mg "LONGEST_FALL" = some (.int 60 t)
  list : mg "list" = none
noncomputable def spTwo : Sp := fun vs H Q _ => ∃ n a b, vs = [.int n, .int a, .int b] ∧ Q (.bl (decide (0 ≤ a ∧ a < n ∧ 0 ≤ b ∧ b < n ∧ a ≠ b))) H
noncomputable def spSize : Sp := fun vs H Q _ => ∃ n la, vs = [.int n, .int la] ∧ 1 ≤ n ∧ n ≤ 8 ∧ 1 ≤ la ∧ la ≤ 60 ∧ Q .non H
noncomputable def spLTies : Sp := fun vs H Q _ => ∃ n a T, vs = [.int n, .ref a] ∧ RowsAt H a T ∧ (∀ r ∈ T, TieOk n r) ∧ Q .non H
noncomputable def spLFalls : Sp := fun vs H Q _ => ∃ n a la T F, vs = [.int n, .ref a] ∧ RowsAt H a F ∧ WebOk n la T F ∧ ∀ H', Same H H' → Q .non H'
section
variable {P : Program} {w : World} {K : PySem.W.Frag} {mg : Str → Option Value} {base : Heap}
theorem sc2 : FnScope ["many", "one", "other"] ["many", "one", "other"] (defScope sP_are_two_moments) := ⟨rfl, rfl, rfl, by decide +kernel, rfl, by decide +kernel, by decide +kernel⟩
theorem ok_two {f : Addr} {fd : FuncData} (F : Fn K mg "are_two_moments" sP_are_two_moments ["many", "one", "other"] f fd) : FnOk P w K mg base CX0 1 f fd ["many", "one", "other"] spTwo := by
  refine F.F.ok sc2 (fun vs H Q E h => ?_) (fun cdv A outer s H vs Q E hr h => ?_)
  · obtain ⟨n, a, b, rfl, _⟩ := h
    rfl
  · obtain ⟨n, a, b, rfl, k⟩ := h
    refine ⟨_, pss_one (ps_ret (pe_and (pe_chain op_le op_lt pe_int (pv 1) (pv 0)) (pe_and (pe_chain op_le op_lt pe_int (pv 2) (pv 0)) (pe_one (pe_cmpR op_ne (pv 1) (pv 2) (nomark _)))))), ?_⟩
    refine ⟨_, rfl, _, _, rfl, rfl, _, rfl, ite2 (fun h1 => ⟨_, rfl, _, _, rfl, rfl, _, rfl, ite2 (fun h2 => ⟨_, rfl, _, _, rfl, rfl, _, rfl, ite2 (fun h3 => ⟨_, rfl, _, _, rfl, rfl, _, rfl, ite2 (fun h4 => ⟨_, rfl, _, rfl, rfl, ?_⟩) (fun h4 => ?_)⟩) (fun h3 => ⟨false, rfl, iteF ?_⟩)⟩) (fun h2 => ?_)⟩) (fun h1 => ⟨false, rfl, iteF ?_⟩)⟩
    all_goals simp only [decide_eq_true_eq] at *
    · refine bl_of (Q := Q) k ?_
      by_cases e : a = b
      · subst e; simp
      · simp [e]; omega
    all_goals (refine bl_of (Q := Q) k (decide_eq_false fun z => ?_); omega)
theorem scS : FnScope ["many", "last"] ["many", "last"] (defScope sP_look_over_size) := ⟨rfl, rfl, rfl, by decide +kernel, rfl, by decide +kernel, by decide +kernel⟩
theorem ok_size {f : Addr} {fd : FuncData} (F : Fn K mg "look_over_size" sP_look_over_size ["many", "last"] f fd) (T : TxtW mg) : FnOk P w K mg base CX0 1 f fd ["many", "last"] spSize := by
  obtain ⟨t1, m1⟩ := T.mm
  obtain ⟨t2, m2⟩ := T.ll
  refine F.F.ok scS (fun vs H Q E h => ?_) (fun cdv A outer s H vs Q E hr h => ?_)
  · obtain ⟨n, a, rfl, _⟩ := h
    rfl
  · obtain ⟨n, la, rfl, n1, n2, l1, l2, k⟩ := h
    refine ⟨_, pss_cons (ps_if (pt_not (pt_chain op_le op_le pe_int (pv 0) (pe_glob (v := .int 8) rfl m1 ⟨_, rfl⟩))) pss_never pss_nil) (pss_one (ps_if (pt_not (pt_chain op_le op_le pe_int (pv 1) (pe_glob (v := .int 60) rfl m2 ⟨_, rfl⟩))) pss_never pss_nil)), ?_⟩
    refine ⟨_, rfl, _, _, rfl, rfl, _, rfl, iteD n1 ⟨_, _, rfl, rfl, _, rfl, iteNS n2 ?_⟩⟩
    exact ⟨_, rfl, _, _, rfl, rfl, _, rfl, iteD l1 ⟨_, _, rfl, rfl, _, rfl, iteNS l2 k⟩⟩
noncomputable abbrev nLT : List Str := ["many", "ties", "at", "one", "other", "least", "most"]
theorem scLT : FnScope nLT ["many", "ties"] (defScope sP_look_over_ties) := ⟨rfl, rfl, rfl, by decide +kernel, rfl, by decide +kernel, by decide +kernel⟩
theorem ok_lties {f f2 : Addr} {fd fd2 : FuncData} (F : Fn K mg "look_over_ties" sP_look_over_ties ["many", "ties"] f fd) (T : TxtW mg) (F2 : Fn K mg "are_two_moments" sP_are_two_moments ["many", "one", "other"] f2 fd2)
    (G2 : FnOk P w K mg base CX0 1 f2 fd2 ["many", "one", "other"] spTwo) : FnOk P w K mg base CX0 2 f fd ["many", "ties"] spLTies := by
  obtain ⟨t1, m1⟩ := T.ws
  refine F.F.ok scLT (fun vs H Q E h => ?_) (fun cdv A outer s H vs Q E hr h => ?_)
  · obtain ⟨n, a, _, rfl, _⟩ := h
    rfl
  · obtain ⟨n, a, rows, rfl, ⟨ps, R⟩, hok, k⟩ := h
    refine ⟨_, pss_cons (ps_set (i := 2) scLT.nd rfl (Or.inl rfl) pe_int) (pss_one (ps_for PassesOwn.never rfl (pi_list (pv 1))
      (pg_tup rfl (pgs_cons (pg_name (i := 3) scLT.nd rfl (Or.inl rfl)) (pgs_cons (pg_name (i := 4) scLT.nd rfl (Or.inl rfl)) (pgs_cons (pg_name (i := 5) scLT.nd rfl (Or.inl rfl)) (pgs_cons (pg_name (i := 6) scLT.nd rfl (Or.inl rfl)) pgs_nil)))))
      (pss_cons (ps_if (pt_not (pt_val (pe_call G2 hr rfl F2.g F2.F.kp F2.b .nil pass0 (pa_cons (pv 0) (pa_cons (pv 3) (pa_cons (pv 4) pa_nil)))))) pss_never pss_nil)
      (pss_cons (ps_if (pt_not (pt_chain3 op_le op_le op_le (pe_un un_neg (pe_glob (v := .int 60) rfl m1 ⟨_, rfl⟩)) (pv 5) (pv 6) (pe_glob (v := .int 60) rfl m1 ⟨_, rfl⟩))) pss_never pss_nil)
      (pss_one (ps_aug (i := 2) scLT.nd rfl (Or.inl rfl) pe_int ip_add)))))), ?_⟩
    refine ⟨_, rfl, a, rfl, ⟨_, SqL.of R.1⟩, for_list (K := K) (a := a) (xs := ps.map V.ref) (fun i σ' H' => ∃ z v1 v2 v3 v4, σ' = [some (.int n), some (.ref a), some (.int z), v1, v2, v3, v4] ∧ H' = H) ⟨0, none, none, none, none, rfl, rfl⟩ ?_ ?_ ?_⟩
    · rintro i σ' H' _ ⟨z, v1, v2, v3, v4, rfl, rfl⟩
      exact SqL.of R.1
    · rintro i x σ' H' hx ⟨z, v1, v2, v3, v4, rfl, rfl⟩
      rw [List.getElem?_map] at hx
      cases hq : ps[i]? with
      | none => rw [hq] at hx; cases hx
      | some q =>
        rw [hq] at hx
        cases hx
        obtain ⟨r, hr', hqt⟩ := paired_get R.2 hq
        obtain ⟨a', b', l, m, rfl, h1, h2, h3, h4, h5, h6, h7, h8⟩ := hok r (List.mem_of_getElem? hr')
        refine ⟨q, _, rfl, SqT.of hqt, rfl, _, _, rfl, _, _, rfl, _, _, rfl, _, _, rfl, rfl, ?_⟩
        refine ⟨_, rfl, _, rfl, _, rfl, n, a', b', rfl, _, rfl, iteNS ⟨h1, h2, h3, h4, h5⟩ ?_⟩
        refine ⟨_, rfl, _, rfl, _, _, rfl, rfl, _, rfl, iteD (by omega) ⟨_, rfl, _, _, rfl, rfl, _, rfl, iteD h7 ⟨_, _, rfl, rfl, _, rfl, iteNS h8 ?_⟩⟩⟩
        exact ⟨_, rfl, _, _, rfl, rfl, _, _, _, _, _, rfl, rfl⟩
    · rintro σ' H' ⟨z, v1, v2, v3, v4, rfl, rfl⟩
      exact k
end
end W

set_option Elab.async false
set_option linter.all false
set_option maxRecDepth 100000
set_option maxHeartbeats 4000000
namespace L2
open PySem PySem.Spec PyProof.Rows
theorem iteB {b : Bool} {A B : Prop} (e : b = false) (h : B) : if b = true then A else B := by
  rw [e]
  exact iteF h
theorem iteBT {b : Bool} {A B : Prop} (e : b = true) (h : A) : if b = true then A else B := by
  rw [e]
  exact iteT h
theorem putF_len (f : Str) (v : V) : ∀ fs : List (Str × V), (putF f v fs).length ≤ fs.length + 1
  | [] => Nat.le_refl _
  | (g, x) :: r => by
    unfold putF
    split
    · exact Nat.le_succ _
    · exact Nat.succ_le_succ (putF_len f v r)
theorem RowsP.get {H : Hp} {a : Addr} {ps : List Addr} {rows : List (List Int)} (R : RowsP H a ps rows) {i : Nat} {x : V} (hx : (ps.map V.ref)[i]? = some x) : ∃ q r, x = .ref q ∧ ps[i]? = some q ∧ rows[i]? = some r ∧ H q = some (.tup (r.map V.int)) := by
  rw [List.getElem?_map] at hx
  cases hq : ps[i]? with
  | none => rw [hq] at hx; cases hx
  | some q =>
    rw [hq] at hx
    cases hx
    obtain ⟨r, hr', hqt⟩ := W.paired_get R.2 hq
    exact ⟨q, r, rfl, rfl, hr', hqt⟩
end L2
namespace W
open PySem L2
noncomputable def endI (r : List Int) : Int := r.getD 1 0
structure TxtC (K : PySem.W.Frag) (mg : Str → Option Value) (C : Addr) : Prop where
  cl : Cls K C
  nM : NoAttr K C "many"
  nL : NoAttr K C "last"
  nT : NoAttr K C "told_ties"
  nF : NoAttr K C "told_falls"
  mgC : mg "Web" = some (.ref C)
noncomputable def wflds (n la : Int) (ta fa : Addr) : List (Str × V) := putF "told_falls" (.ref fa) (putF "told_ties" (.ref ta) (putF "last" (.int la) (putF "many" (.int n) [])))
theorem k1 : ¬ (("many" : Str) = "told_falls") := by decide +kernel
theorem k2 : ¬ (("many" : Str) = "told_ties") := by decide +kernel
theorem k3 : ¬ (("many" : Str) = "last") := by decide +kernel
theorem k4 : ¬ (("last" : Str) = "told_falls") := by decide +kernel
theorem k5 : ¬ (("last" : Str) = "told_ties") := by decide +kernel
theorem k6 : ¬ (("told_ties" : Str) = "told_falls") := by decide +kernel
theorem w_many (n la : Int) (ta fa : Addr) : (wflds n la ta fa).lookup ("many" : Str) = some (.int n) := by
  unfold wflds
  rw [lookup_putF, if_neg k1, lookup_putF, if_neg k2, lookup_putF, if_neg k3, lookup_putF, if_pos rfl]
theorem w_last (n la : Int) (ta fa : Addr) : (wflds n la ta fa).lookup ("last" : Str) = some (.int la) := by
  unfold wflds
  rw [lookup_putF, if_neg k4, lookup_putF, if_neg k5, lookup_putF, if_pos rfl]
theorem w_ties (n la : Int) (ta fa : Addr) : (wflds n la ta fa).lookup ("told_ties" : Str) = some (.ref ta) := by
  unfold wflds
  rw [lookup_putF, if_neg k6, lookup_putF, if_pos rfl]
theorem w_falls (n la : Int) (ta fa : Addr) : (wflds n la ta fa).lookup ("told_falls" : Str) = some (.ref fa) := by
  unfold wflds
  rw [lookup_putF, if_pos rfl]
theorem w_no (n la : Int) (ta fa : Addr) {m : Str} (h1 : ¬ m = "told_falls") (h2 : ¬ m = "told_ties") (h3 : ¬ m = "last") (h4 : ¬ m = "many") : (wflds n la ta fa).lookup m = none := by
  unfold wflds
  rw [lookup_putF, if_neg h1, lookup_putF, if_neg h2, lookup_putF, if_neg h3, lookup_putF, if_neg h4]
  all_goals rfl
noncomputable def WebAt (C : Addr) (H : Hp) (p : Addr) (n la : Int) (T F : List (List Int)) : Prop := ∃ dx ta fa, H p = some (.ins C dx (wflds n la ta fa)) ∧ RowsAt H ta T ∧ RowsAt H fa F
theorem WebAt.same {C p : Addr} {H H' : Hp} {n la : Int} {T F : List (List Int)} (h : WebAt C H p n la T F) (k : Same H H') : WebAt C H' p n la T F := by
  obtain ⟨dx, ta, fa, e, r1, r2⟩ := h
  exact ⟨dx, ta, fa, k _ _ e, r1.same k, r2.same k⟩
noncomputable def spGet (C : Addr) (g : List (List Int) → List (List Int) → List (List Int)) : Sp := fun vs H Q _ => ∃ p n la T F, vs = [.ref p] ∧ WebAt C H p n la T F ∧ ∀ l H', H l = none → Same H H' → RowsAt H' l (g T F) → Q (.ref l) H'
section
variable {P : Program} {w : World} {K : PySem.W.Frag} {mg : Str → Option Value} {base : Heap}
noncomputable abbrev nLF : List Str := ["many", "falls", "ends", "at", "one", "other", "least", "most"]
theorem scLF : FnScope nLF ["many", "falls"] (defScope sP_look_over_falls) := ⟨rfl, rfl, rfl, by decide +kernel, rfl, by decide +kernel, by decide +kernel⟩
theorem coLF : CompOk (defScope sP_look_over_falls) nLF (fsc [(".0", .local), ("fall", .local)]) ["fall"] [none] := ⟨rfl, by decide +kernel, by decide +kernel, by decide +kernel, rfl, by decide +kernel⟩
theorem nd1 {x : Str} : ([x] : List Str).Nodup := by simp
theorem ok_lfalls {f f2 : Addr} {fd fd2 : FuncData} (F : Fn K mg "look_over_falls" sP_look_over_falls ["many", "falls"] f fd) (T : TxtW mg) (F2 : Fn K mg "are_two_moments" sP_are_two_moments ["many", "one", "other"] f2 fd2)
    (G2 : FnOk P w K mg base CX0 1 f2 fd2 ["many", "one", "other"] spTwo) : FnOk P w K mg base CX0 2 f fd ["many", "falls"] spLFalls := by
  obtain ⟨t1, m1⟩ := T.lf
  refine F.F.ok scLF (fun vs H Q E h => ?_) (fun cdv A outer s H vs Q E hr h => ?_)
  · obtain ⟨n, a, _, _, _, rfl, _⟩ := h
    rfl
  · obtain ⟨n, a, la, TT, rows, rfl, ⟨ps, R⟩, hok, k⟩ := h
    refine ⟨_, pss_cons (ps_setC (i := 2) scLF.nd rfl rfl rfl (pi_list (pv 1)) coLF (fun cl ex s0 H0 => ⟨pg_name (i := 0) nd1 rfl (Or.inl rfl), pif_none, pe_ix ix_tup0 (pv 0) pe_int (fun _ _ => rfl)⟩))
      (pss_cons (ps_set (i := 3) scLF.nd rfl (Or.inl rfl) pe_int) (pss_one (ps_for PassesOwn.never rfl (pi_list (pv 1))
      (pg_tup rfl (pgs_cons (pg_name (i := 4) scLF.nd rfl (Or.inl rfl)) (pgs_cons (pg_name (i := 5) scLF.nd rfl (Or.inl rfl)) (pgs_cons (pg_name (i := 6) scLF.nd rfl (Or.inl rfl)) (pgs_cons (pg_name (i := 7) scLF.nd rfl (Or.inl rfl)) pgs_nil)))))
      (pss_cons (ps_if (PW.pt (pw_or (pt_not (pt_val (pe_call G2 hr rfl F2.g F2.F.kp F2.b .nil pass0 (pa_cons (pv 0) (pa_cons (pv 4) (pa_cons (pv 5) pa_nil)))))) (pw_or1 (pt_cmpR op_in_seq (pv 4) (pv 2) (by with_unfolding_all rfl))))) pss_never pss_nil)
      (pss_cons (ps_if (PW.pt (pw_or (pt_cmpR op_eq (pv 5) pe_int (nomark _)) (pw_or1 (pt_cmpR op_in_seq (pv 5) (pe_slice sl_list (pv 2) po_none (po_some (pv 3))) (by with_unfolding_all rfl))))) pss_never pss_nil)
      (pss_cons (ps_if (pt_not (pt_chain3 op_le op_le op_le pe_int (pv 6) (pv 7) (pe_glob (v := .int 60) rfl m1 ⟨_, rfl⟩))) pss_never pss_nil)
      (pss_one (ps_aug (i := 3) scLF.nd rfl (Or.inl rfl) pe_int ip_add)))))))), ?_⟩
    -- ends = [fall[1] for fall in falls]
    refine ⟨_, rfl, a, rfl, ⟨_, SqL.of R.1⟩, fun Da hDa => ?_⟩
    refine comp_list (xs := ps.map V.ref) (fun j σ' H' => ∃ v, σ' = [v] ∧ H' Da = some (.lst (((rows.take j).map endI).map V.int)) ∧ Same H H') ?_ ?_ ?_ ?_
    · exact ⟨none, rfl, upd_same, same_new hDa⟩
    · rintro j σ' H1 _ ⟨v, rfl, _, s1⟩
      exact SqL.of (s1 _ _ R.1)
    · rintro j x σ' H1 hx ⟨v, rfl, e1, s1⟩
      obtain ⟨q, r, rfl, hq, hr', hqt⟩ := R.get hx
      obtain ⟨a', b', l, m, rfl, _⟩ := hok.f r (List.mem_of_getElem? hr')
      refine ⟨_, rfl, rdT (s1 _ _ hqt) rfl ⟨_, e1, ?_, _, rfl, ?_, fun b o e => ?_⟩⟩
      · rw [List.length_map, List.length_map, List.length_take]
        have := hok.fl
        exact small1000 (by omega)
      · rw [upd_same, List.take_succ, hr', List.map_append, List.map_append]
        rfl
      · rw [upd_ne (ne_of_none e hDa)]
        exact s1 _ _ e
    · rintro σ' H1 ⟨v, rfl, e1, s1⟩
      have hl : rows.take (ps.map V.ref).length = rows := by
        rw [List.length_map, R.len]
        exact List.take_length
      rw [hl] at e1
      have R1 := R.same s1
      -- the rows
      refine ⟨_, rfl, a, rfl, ⟨_, SqL.of R1.1⟩, for_list (K := K) (a := a) (xs := ps.map V.ref) (fun i σ' H' => ∃ z v1 v2 v3 v4, z = (i : Int) ∧ σ' = [some (.int n), some (.ref a), some (.ref Da), some (.int z), v1, v2, v3, v4] ∧ Same H1 H') ⟨0, none, none, none, none, rfl, rfl, Same.refl _⟩ ?_ ?_ ?_⟩
      · rintro i σ' H' _ ⟨z, v1, v2, v3, v4, _, rfl, s2⟩
        exact SqL.of (s2 _ _ R1.1)
      · rintro i x σ' H2 hx ⟨z, v1, v2, v3, v4, rfl, rfl, s2⟩
        have R2 := R1.same s2
        obtain ⟨q, r, rfl, hq, hr', hqt⟩ := R2.get hx
        have hmem := List.mem_of_getElem? hr'
        obtain ⟨a', b', l, m, e4, h1, h2, h3, h4, h5, h6, h7, h8⟩ := hok.f r hmem
        subst e4
        have e2 := s2 _ _ e1
        refine ⟨q, _, rfl, SqT.of hqt, rfl, _, _, rfl, _, _, rfl, _, _, rfl, _, _, rfl, rfl, ?_⟩
        refine ⟨_, rfl, _, rfl, _, rfl, n, a', b', rfl, _, rfl, iteNS ⟨h1, h2, by omega, h4, h5⟩ ?_⟩
        refine ⟨_, rfl, _, rfl, Da, _, rfl, .inl (SqL.of e2), rfl, flat_ints, _, rfl, iteB ?_ ?_⟩
        · show inV _ _ = false
          rw [inV_ints]
          refine decide_eq_false fun z => ?_
          obtain ⟨r', hr2, e⟩ := List.mem_map.mp z
          obtain ⟨a2, b2, l2, m2, e5, _⟩ := hok.f r' hr2
          subst e5
          refine hok.own _ hmem _ hr2 ?_
          have e6 : b2 = a' := e
          show some a' = some b2
          rw [e6]
        · refine ⟨_, rfl, rfl, _, rfl, iteDN (by intro z; have := V.int.inj z; omega) ?_⟩
          refine ⟨_, rfl, _, rfl, _, rfl, _, rfl, Da, _, rfl, SqL.of e2, fun p hp => ⟨p, _, rfl, .inl (SqL.of upd_same), rfl, ?_, _, rfl, iteB ?_ ?_⟩⟩
          · unfold cutV
            rw [cut_take (by rw [List.length_map, List.length_map]; exact Nat.le_of_lt (List.getElem?_eq_some_iff.mp hr').1), ← List.map_take]
            exact flat_ints
          · show inV _ _ = false
            unfold cutV
            rw [cut_take (by rw [List.length_map, List.length_map]; exact Nat.le_of_lt (List.getElem?_eq_some_iff.mp hr').1), ← List.map_take, inV_ints]
            refine decide_eq_false fun z => ?_
            obtain ⟨j, hj⟩ := List.mem_iff_getElem?.mp z
            have hji : j < i := by
              have := (List.getElem?_eq_some_iff.mp hj).1
              rw [List.length_take] at this
              omega
            rw [List.getElem?_take_of_lt hji, List.getElem?_map] at hj
            cases hr2 : rows[j]? with
            | none => rw [hr2] at hj; cases hj
            | some r' =>
              rw [hr2] at hj
              have e : endI r' = b' := Option.some.inj hj
              obtain ⟨a2, b2, l2, m2, e5, _⟩ := hok.f r' (List.mem_of_getElem? hr2)
              subst e5
              have e6 : b2 = b' := e
              have := hok.one j i _ _ hr2 hr' (by show some b2 = some b'; rw [e6])
              omega
          · refine ⟨_, rfl, _, _, rfl, rfl, _, rfl, iteD h6 ⟨_, rfl, _, _, rfl, rfl, _, rfl, iteD h7 ⟨_, _, rfl, rfl, _, rfl, iteNS h8 ?_⟩⟩⟩
            exact ⟨_, rfl, _, _, rfl, rfl, _, _, _, _, _, (by show (i : Int) + 1 = _; omega), rfl, s2.trans (same_new hp)⟩
      · rintro σ' H' ⟨z, v1, v2, v3, v4, _, rfl, s2⟩
        exact k _ (s1.trans s2)
theorem scI : FnScope ["self", "many", "last", "ties", "falls"] ["self", "many", "last", "ties", "falls"] (defScope sC_Web_init) := ⟨rfl, rfl, rfl, by decide +kernel, rfl, by decide +kernel, by decide +kernel⟩
theorem scG1 : FnScope ["self"] ["self"] (defScope sC_Web_ties) := ⟨rfl, rfl, rfl, by decide +kernel, rfl, by decide +kernel, by decide +kernel⟩
theorem scG2 : FnScope ["self"] ["self"] (defScope sC_Web_falls) := ⟨rfl, rfl, rfl, by decide +kernel, rfl, by decide +kernel, by decide +kernel⟩
theorem ok_tiesM {f C : Addr} {fd : FuncData} (F : Fun K "ties" "Web.ties" sC_Web_ties f fd) (T : TxtW mg) (TC : TxtC K mg C) : FnOk P w K mg base CX0 1 f fd ["self"] (spGet C fun T _ => T) := by
  refine F.ok scG1 (fun vs H Q E h => ?_) (fun cdv A outer s H vs Q E hr h => ?_)
  · obtain ⟨p, _, _, _, _, rfl, _⟩ := h
    rfl
  · obtain ⟨p, n, la, rT, rF, rfl, ⟨dx, ta, fa, hp, ⟨ps, R⟩, _⟩, k⟩ := h
    refine ⟨_, pss_one (ps_ret (pe_callTy call_list_of (by rfl) T.list (by decide +kernel) (pa_cons (pe_fld (pv 0) rfl) pa_nil))), ?_⟩
    refine ⟨_, rfl, p, C, dx, _, _, rfl, hp, TC.cl, TC.nT, w_ties _ _ _ _, ta, _, rfl, .inl (SqL.of R.1), fun l hl => ?_⟩
    exact k l _ hl (same_new hl) ⟨ps, upd_same, (R.same (same_new hl)).2⟩
theorem ok_fallsM {f C : Addr} {fd : FuncData} (F : Fun K "falls" "Web.falls" sC_Web_falls f fd) (T : TxtW mg) (TC : TxtC K mg C) : FnOk P w K mg base CX0 1 f fd ["self"] (spGet C fun _ F => F) := by
  refine F.ok scG2 (fun vs H Q E h => ?_) (fun cdv A outer s H vs Q E hr h => ?_)
  · obtain ⟨p, _, _, _, _, rfl, _⟩ := h
    rfl
  · obtain ⟨p, n, la, rT, rF, rfl, ⟨dx, ta, fa, hp, _, ⟨ps, R⟩⟩, k⟩ := h
    refine ⟨_, pss_one (ps_ret (pe_callTy call_list_of (by rfl) T.list (by decide +kernel) (pa_cons (pe_fld (pv 0) rfl) pa_nil))), ?_⟩
    refine ⟨_, rfl, p, C, dx, _, _, rfl, hp, TC.cl, TC.nF, w_falls _ _ _ _, fa, _, rfl, .inl (SqL.of R.1), fun l hl => ?_⟩
    exact k l _ hl (same_new hl) ⟨ps, upd_same, (R.same (same_new hl)).2⟩
end
end W

set_option Elab.async false
set_option linter.all false
set_option maxRecDepth 100000
set_option maxHeartbeats 4000000
namespace L2
theorem iteNP {c A B : Prop} [Decidable c] (hc : ¬ c) (h : A) : if (!decide c) = true then A else B := by
  rw [decide_eq_false hc]
  exact iteT h
end L2
namespace W
open PySem L2
/-! webs that cannot be -/
structure TxtB1 (K : PySem.W.Frag) (mg : Str → Option Value) (C Mo fI : Addr) : Prop where
  ex : ExcC K C Mo fI
  ba : BaseK K Mo
  mo : mg "MomentError" = some (.ref Mo)
  nA : PySem.W.findIn K (.ref C) "at" = some none
  nW : PySem.W.findIn K (.ref C) "why" = some none
  mgC : mg "BadWeb" = some (.ref C)
noncomputable abbrev badF (i : Int) (why : Str) : List (Str × V) := [("at", .int i), ("why", .str why)]
noncomputable def spBad (C : Addr) : Sp := fun vs H Q _ => ∃ x i why, vs = [.ref x, .int i, .str why] ∧ H x = some (excE x C none) ∧
  ∀ d H', H d = none → H' x = some (excE x C (some d)) → H' d = some (excD d (badF i why)) → Keep x H H' → Q .non H'
noncomputable def Refuse (CB : Addr) (H : Hp) (E : XK) (i : Int) (why : Str) : Prop := ∀ d H', H d = none → Same H H' → H' d = some (excD d (badF i why)) → E (.ref CB) (some d) H'
theorem Refuse.same {CB : Addr} {H H1 : Hp} {E : XK} {i : Int} {why : Str} (r : Refuse CB H E i why) (s : Same H H1) : Refuse CB H1 E i why := fun d H' hd s' e => r d H' (s.free hd) (s.trans s') e
noncomputable def sizeV (n la : Int) : Option Str := if ¬ (1 ≤ n ∧ n ≤ 8) then some "many" else if ¬ (1 ≤ la ∧ la ≤ 60) then some "last" else none
noncomputable def twoB (n a b : Int) : Bool := decide (0 ≤ a ∧ a < n ∧ 0 ≤ b ∧ b < n ∧ a ≠ b)
noncomputable def tieV (n : Int) (_ : Nat) : List Int → Option Str
  | [a, b, l, m] => if twoB n a b = false then some "moment" else if ¬ (-60 ≤ l ∧ l ≤ m ∧ m ≤ 60) then some "span" else none
  | _ => none
noncomputable def fallV (n : Int) (ends : List Int) (i : Nat) : List Int → Option Str
  | [a, b, l, m] => if twoB n a b = false ∨ a ∈ ends then some "fall" else if b = 0 ∨ b ∈ ends.take i then some "fall" else if ¬ (1 ≤ l ∧ l ≤ m ∧ m ≤ 60) then some "length" else none
  | _ => none
noncomputable def firstV (f : Nat → List Int → Option Str) : List (List Int) → Nat → Option (Nat × Str)
  | [], _ => none
  | r :: t, i => match f i r with
    | some w => some (i, w)
    | none => firstV f t (i + 1)
theorem first_at {f : Nat → List Int → Option Str} : ∀ {T : List (List Int)} {k i : Nat} {r : List Int} {w : Str}, (∀ j r', j < i → T[j]? = some r' → f (k + j) r' = none) → T[i]? = some r → f (k + i) r = some w → firstV f T k = some (k + i, w)
  | [], _, _, _, _, _, h, _ => by simp at h
  | x :: t, k, 0, r, w, _, h, e => by
    cases h
    unfold firstV
    rw [show k + 0 = k from rfl] at e
    rw [e]
    rfl
  | x :: t, k, i + 1, r, w, hb, h, e => by
    have h0 := hb 0 x (by omega) rfl
    rw [show k + 0 = k from rfl] at h0
    unfold firstV
    rw [h0]
    show firstV f t (k + 1) = _
    rw [first_at (T := t) (k := k + 1) (i := i) (r := r) (w := w) (fun j r' hj e' => by
      have := hb (j + 1) r' (by omega) e'
      rwa [show k + (j + 1) = k + 1 + j by omega] at this) h (by rwa [show k + 1 + i = k + (i + 1) by omega])]
    rw [show k + 1 + i = k + (i + 1) by omega]
theorem first_none {f : Nat → List Int → Option Str} : ∀ {T : List (List Int)} {k : Nat}, (∀ j r', T[j]? = some r' → f (k + j) r' = none) → firstV f T k = none
  | [], _, _ => rfl
  | x :: t, k, h => by
    have h0 := h 0 x rfl
    rw [show k + 0 = k from rfl] at h0
    unfold firstV
    rw [h0]
    exact first_none (T := t) (k := k + 1) fun j r' e => by
      have := h (j + 1) r' e
      rwa [show k + (j + 1) = k + 1 + j by omega] at this
noncomputable def spSizeX (CB : Addr) : Sp := fun vs H Q E => ∃ n la, vs = [.int n, .int la] ∧ (sizeV n la = none → Q .non H) ∧ ∀ w, sizeV n la = some w → Refuse CB H E 0 w
noncomputable def Four4 (T : List (List Int)) : Prop := ∀ r ∈ T, ∃ a b l m : Int, r = [a, b, l, m]
noncomputable def spTiesX (CB : Addr) : Sp := fun vs H Q E => ∃ n a T, vs = [.int n, .ref a] ∧ RowsAt H a T ∧ Four4 T ∧ (firstV (tieV n) T 0 = none → Q .non H) ∧ ∀ i w, firstV (tieV n) T 0 = some (i, w) → Refuse CB H E (i : Int) w
noncomputable def spFallsX (CB : Addr) : Sp := fun vs H Q E => ∃ n a F, vs = [.int n, .ref a] ∧ RowsAt H a F ∧ Four4 F ∧ F.length ≤ 100 ∧ (firstV (fallV n (F.map endI)) F 0 = none → ∀ H', Same H H' → Q .non H') ∧ ∀ i w, firstV (fallV n (F.map endI)) F 0 = some (i, w) → Refuse CB H E (i : Int) w
section
variable {P : Program} {w : World} {K : PySem.W.Frag} {mg : Str → Option Value} {base : Heap}
theorem why_at : ("why" : Str) ∉ [("at" : Str)] := by decide +kernel
theorem scBd : FnScope ["self", "at", "why"] ["self", "at", "why"] (defScope sC_BadWeb_init) := ⟨rfl, rfl, rfl, by decide +kernel, rfl, by decide +kernel, by decide +kernel⟩
theorem ok_bad {C Mo fI : Addr} {fd : FuncData} (F : Fun K "__init__" "BadWeb.__init__" sC_BadWeb_init fI fd) (T : TxtB1 K mg C Mo fI) : FnOk P w K mg base CX0 1 fI fd ["self", "at", "why"] (spBad C) := by
  refine F.ok scBd (fun vs H Q E h => ?_) (fun cdv A outer s H vs Q E hr h => ?_)
  · obtain ⟨x, i, why, rfl, _⟩ := h
    rfl
  · obtain ⟨x, i, why, rfl, hx, k⟩ := h
    refine ⟨_, pss_cons (ps_expr (pe_base T.ba rfl T.mo (pa_cons (pv 0) (pa_cons (pv 1) (pa_cons (pv 2) pa_nil)))))
      (pss_cons (ps_fldE (pv 0) (pv 1) rfl) (pss_one (ps_fldE2 (pv 0) (pv 2) rfl))), ?_⟩
    refine ⟨_, rfl, _, rfl, _, rfl, x, _, C, Mo, fI, none, rfl, hx, T.ex, by show 2 ≤ sizeLine; decide, ?_⟩
    refine ⟨_, rfl, _, rfl, x, C, Mo, fI, rfl, hx, T.ex, T.nA, fun d hd hdx => ?_⟩
    refine ⟨_, rfl, _, rfl, x, C, Mo, fI, d, _, rfl, by rw [upd_ne (Ne.symm hdx), upd_same], upd_same, T.ex, T.nW, why_at, by show 1 ≤ 10; decide, ?_⟩
    refine k d _ hd ?_ upd_same fun b o e ne => ?_
    · rw [upd_ne (Ne.symm hdx), upd_ne (Ne.symm hdx), upd_same]
    · rw [upd_ne (ne_of_none e hd), upd_ne (ne_of_none e hd), upd_ne ne]
      exact e
theorem raised {CB Mo fI : Addr} {H H1 : Hp} {E : XK} {i : Int} {why : Str} (T : TxtB1 K mg CB Mo fI) (r : Refuse CB H E i why) (s : Same H H1) :
    [V.int i, V.str why].length ≤ sizeLine ∧ ∀ x, H1 x = none → spBad CB (.ref x :: [V.int i, V.str why]) (upd H1 x (excE x CB none)) (fun v H2 => v = .non ∧ ∃ a C Mo f dx, V.ref x = .ref a ∧ H2 a = some (excE a C dx) ∧ ExcC K C Mo f ∧ H a = none ∧ E (.ref C) dx (forget H2 a)) E0 := by
  refine ⟨by show 2 ≤ sizeLine; decide, fun x hx => ⟨x, i, why, rfl, upd_same, fun d H2 hd ex ed kp => ⟨rfl, x, CB, Mo, fI, some d, rfl, ex, T.ex, s.free hx, ?_⟩⟩⟩
  have dx : d ≠ x := Ne.symm (ne_of_none upd_same hd)
  have s1 := s.trans (same_new (o := excE x CB none) hx)
  refine r d _ (s1.free hd) (fun b o e => ?_) (by rw [forget_ne dx]; exact ed)
  have bx : b ≠ x := ne_of_none (s _ _ e) hx
  rw [forget_ne bx]
  exact kp _ _ (s1 _ _ e) bx
theorem ok_sizeX {f CB Mo fI : Addr} {fd fdI : FuncData} (F : Fn K mg "look_over_size" sP_look_over_size ["many", "last"] f fd) (T : TxtW mg) (TB : TxtB1 K mg CB Mo fI) (bI : Binds K fdI ["self", "at", "why"] []) (GI : FnOk P w K mg base CX0 1 fI fdI ["self", "at", "why"] (spBad CB)) :
    FnOk P w K mg base (CX1 P w) 3 f fd ["many", "last"] (spSizeX CB) := by
  obtain ⟨t1, m1⟩ := T.mm
  obtain ⟨t2, m2⟩ := T.ll
  refine F.F.ok1 scS (fun vs H Q E h => ?_) (fun cdv A outer s H vs Q E hr h => ?_)
  · obtain ⟨n, a, rfl, _⟩ := h
    rfl
  · obtain ⟨n, la, rfl, kq, ke⟩ := h
    refine ⟨_, pss_cons (ps_if (pt_not (pt_chain op_le op_le pe_int (pv 0) (pe_glob (v := .int 8) rfl m1 ⟨_, rfl⟩))) (pss_one (ps_raise (pe_makeE TB.ex GI hr rfl TB.mgC bI pass0 (pa_cons pe_int (pa_cons pe_str pa_nil))))) pss_nil)
      (pss_one (ps_if (pt_not (pt_chain op_le op_le pe_int (pv 1) (pe_glob (v := .int 60) rfl m2 ⟨_, rfl⟩))) (pss_one (ps_raise (pe_makeE TB.ex GI hr rfl TB.mgC bI pass0 (pa_cons pe_int (pa_cons pe_str pa_nil))))) pss_nil)), ?_⟩
    have bad1 : ¬ (1 ≤ n ∧ n ≤ 8) → Refuse CB H E 0 "many" := fun c => ke _ (by unfold sizeV; rw [if_pos c])
    by_cases c : 1 ≤ n ∧ n ≤ 8
    · refine ⟨_, rfl, _, _, rfl, rfl, _, rfl, iteD c.1 ⟨_, _, rfl, rfl, _, rfl, iteNS c.2 ?_⟩⟩
      have bad2 : ¬ (1 ≤ la ∧ la ≤ 60) → Refuse CB H E 0 "last" := fun c2 => ke _ (by unfold sizeV; rw [if_neg (not_not_intro c), if_pos c2])
      by_cases c2 : 1 ≤ la ∧ la ≤ 60
      · exact ⟨_, rfl, _, _, rfl, rfl, _, rfl, iteD c2.1 ⟨_, _, rfl, rfl, _, rfl, iteNS c2.2 (kq (by unfold sizeV; rw [if_neg (not_not_intro c), if_neg (not_not_intro c2)]))⟩⟩
      · by_cases c3 : 1 ≤ la
        · exact ⟨_, rfl, _, _, rfl, rfl, _, rfl, iteD c3 ⟨_, _, rfl, rfl, _, rfl, iteNP (fun z => c2 ⟨c3, z⟩) (raised TB (bad2 c2) (Same.refl _))⟩⟩
        · exact ⟨_, rfl, _, _, rfl, rfl, _, rfl, iteDN c3 ⟨_, rfl, iteBT rfl (raised TB (bad2 c2) (Same.refl _))⟩⟩
    · by_cases c3 : 1 ≤ n
      · exact ⟨_, rfl, _, _, rfl, rfl, _, rfl, iteD c3 ⟨_, _, rfl, rfl, _, rfl, iteNP (fun z => c ⟨c3, z⟩) (raised TB (bad1 c) (Same.refl _))⟩⟩
      · exact ⟨_, rfl, _, _, rfl, rfl, _, rfl, iteDN c3 ⟨_, rfl, iteBT rfl (raised TB (bad1 c) (Same.refl _))⟩⟩
theorem ok_tiesX {f f2 CB Mo fI : Addr} {fd fd2 fdI : FuncData} (F : Fn K mg "look_over_ties" sP_look_over_ties ["many", "ties"] f fd) (T : TxtW mg) (TB : TxtB1 K mg CB Mo fI) (bI : Binds K fdI ["self", "at", "why"] []) (GI : FnOk P w K mg base CX0 1 fI fdI ["self", "at", "why"] (spBad CB))
    (F2 : Fn K mg "are_two_moments" sP_are_two_moments ["many", "one", "other"] f2 fd2) (G2 : FnOk P w K mg base CX0 1 f2 fd2 ["many", "one", "other"] spTwo) : FnOk P w K mg base (CX1 P w) 3 f fd ["many", "ties"] (spTiesX CB) := by
  obtain ⟨t1, m1⟩ := T.ws
  refine F.F.ok1 scLT (fun vs H Q E h => ?_) (fun cdv A outer s H vs Q E hr h => ?_)
  · obtain ⟨n, a, _, rfl, _⟩ := h
    rfl
  · obtain ⟨n, a, rows, rfl, ⟨ps, R⟩, h4, kq, ke⟩ := h
    have hr1 : Room 1 _ := hr.mono (by decide)
    refine ⟨_, pss_cons (ps_set (i := 2) scLT.nd rfl (Or.inl rfl) pe_int) (pss_one (ps_fly (ps_for fly_own rfl (pi_list (pv 1))
      (pg_tup rfl (pgs_cons (pg_name (i := 3) scLT.nd rfl (Or.inl rfl)) (pgs_cons (pg_name (i := 4) scLT.nd rfl (Or.inl rfl)) (pgs_cons (pg_name (i := 5) scLT.nd rfl (Or.inl rfl)) (pgs_cons (pg_name (i := 6) scLT.nd rfl (Or.inl rfl)) pgs_nil)))))
      (pss_cons (ps_if (pt_not (pt_val (pe_call G2 hr1 rfl F2.g F2.F.kp F2.b .nil pass0 (pa_cons (pv 0) (pa_cons (pv 3) (pa_cons (pv 4) pa_nil)))))) (pss_one (ps_raiseF (pe_makeE TB.ex GI hr rfl TB.mgC bI pass0 (pa_cons (pv 2) (pa_cons pe_str pa_nil))))) pss_nil)
      (pss_cons (ps_if (pt_not (pt_chain3 op_le op_le op_le (pe_un un_neg (pe_glob (v := .int 60) rfl m1 ⟨_, rfl⟩)) (pv 5) (pv 6) (pe_glob (v := .int 60) rfl m1 ⟨_, rfl⟩))) (pss_one (ps_raiseF (pe_makeE TB.ex GI hr rfl TB.mgC bI pass0 (pa_cons (pv 2) (pa_cons pe_str pa_nil))))) pss_nil)
      (pss_one (ps_aug (i := 2) scLT.nd rfl (Or.inl rfl) pe_int ip_add))))))), ?_⟩
    refine ⟨_, rfl, a, rfl, ⟨_, SqL.of R.1⟩, for_list (K := K) (a := a) (xs := ps.map V.ref) (fun i σ' H' => ∃ z v1 v2 v3 v4, z = (i : Int) ∧ σ' = [some (.int n), some (.ref a), some (.int z), v1, v2, v3, v4] ∧ H' = H ∧ ∀ j r, j < i → rows[j]? = some r → tieV n (0 + j) r = none) ⟨0, none, none, none, none, rfl, rfl, rfl, fun j r hj => absurd hj (Nat.not_lt_zero _)⟩ ?_ ?_ ?_⟩
    · rintro i σ' H' _ ⟨z, v1, v2, v3, v4, _, rfl, rfl, _⟩
      exact SqL.of R.1
    · rintro i x σ' H' hx ⟨z, v1, v2, v3, v4, rfl, rfl, rfl, hb⟩
      obtain ⟨q, r, rfl, hq, hr', hqt⟩ := R.get hx
      obtain ⟨a', b', l, m, e4⟩ := h4 r (List.mem_of_getElem? hr')
      subst e4
      have bad : ∀ w, tieV n (0 + i) [a', b', l, m] = some w → Refuse CB H' E (i : Int) w := fun w e => ke i w (by rw [first_at hb hr' e, Nat.zero_add])
      refine ⟨q, _, rfl, SqT.of hqt, rfl, _, _, rfl, _, _, rfl, _, _, rfl, _, _, rfl, rfl, ?_⟩
      refine ⟨_, rfl, _, rfl, _, rfl, n, a', b', rfl, _, rfl, ?_⟩
      by_cases c : 0 ≤ a' ∧ a' < n ∧ 0 ≤ b' ∧ b' < n ∧ a' ≠ b'
      · refine iteNS c ?_
        have c1 : ¬ twoB n a' b' = false := by unfold twoB; rw [decide_eq_true c]; decide
        by_cases d : -60 ≤ l ∧ l ≤ m ∧ m ≤ 60
        · refine ⟨_, rfl, _, rfl, _, _, rfl, rfl, _, rfl, iteD d.1 ⟨_, rfl, _, _, rfl, rfl, _, rfl, iteD d.2.1 ⟨_, _, rfl, rfl, _, rfl, iteNS d.2.2 ?_⟩⟩⟩
          refine ⟨_, rfl, _, _, rfl, rfl, _, _, _, _, _, (by show (i : Int) + 1 = _; omega), rfl, rfl, fun j r hj e => ?_⟩
          by_cases z : j = i
          · subst z
            rw [hr'] at e
            cases e
            show (if twoB n a' b' = false then _ else if ¬ (-60 ≤ l ∧ l ≤ m ∧ m ≤ 60) then _ else none) = none
            rw [if_neg c1, if_neg (not_not_intro d)]
          · exact hb j r (by omega) e
        · have hw : tieV n (0 + i) [a', b', l, m] = some ("span" : Str) := by
            show (if twoB n a' b' = false then _ else if ¬ (-60 ≤ l ∧ l ≤ m ∧ m ≤ 60) then _ else none) = _
            rw [if_neg c1, if_pos d]
          by_cases d1 : -60 ≤ l
          · by_cases d2 : l ≤ m
            · exact ⟨_, rfl, _, rfl, _, _, rfl, rfl, _, rfl, iteD d1 ⟨_, rfl, _, _, rfl, rfl, _, rfl, iteD d2 ⟨_, _, rfl, rfl, _, rfl, iteNP (fun z => d ⟨d1, d2, z⟩) ⟨_, rfl, raised TB (bad _ hw) (Same.refl _)⟩⟩⟩⟩
            · exact ⟨_, rfl, _, rfl, _, _, rfl, rfl, _, rfl, iteD d1 ⟨_, rfl, _, _, rfl, rfl, _, rfl, iteDN d2 ⟨_, rfl, iteBT rfl ⟨_, rfl, raised TB (bad _ hw) (Same.refl _)⟩⟩⟩⟩
          · exact ⟨_, rfl, _, rfl, _, _, rfl, rfl, _, rfl, iteDN d1 ⟨_, rfl, iteBT rfl ⟨_, rfl, raised TB (bad _ hw) (Same.refl _)⟩⟩⟩
      · have hw : tieV n (0 + i) [a', b', l, m] = some ("moment" : Str) := by
          show (if twoB n a' b' = false then _ else _) = _
          rw [if_pos (by unfold twoB; exact decide_eq_false c)]
        exact iteNP c ⟨_, rfl, raised TB (bad _ hw) (Same.refl _)⟩
    · rintro σ' H' ⟨z, v1, v2, v3, v4, _, rfl, rfl, hb⟩
      refine kq (first_none fun j r' e => hb j r' ?_ e)
      rw [List.length_map, R.len]
      exact (List.getElem?_eq_some_iff.mp e).1
theorem ok_fallsX {f f2 CB Mo fI : Addr} {fd fd2 fdI : FuncData} (F : Fn K mg "look_over_falls" sP_look_over_falls ["many", "falls"] f fd) (T : TxtW mg) (TB : TxtB1 K mg CB Mo fI) (bI : Binds K fdI ["self", "at", "why"] []) (GI : FnOk P w K mg base CX0 1 fI fdI ["self", "at", "why"] (spBad CB))
    (F2 : Fn K mg "are_two_moments" sP_are_two_moments ["many", "one", "other"] f2 fd2) (G2 : FnOk P w K mg base CX0 1 f2 fd2 ["many", "one", "other"] spTwo) : FnOk P w K mg base (CX1 P w) 3 f fd ["many", "falls"] (spFallsX CB) := by
  obtain ⟨t1, m1⟩ := T.lf
  refine F.F.ok1 scLF (fun vs H Q E h => ?_) (fun cdv A outer s H vs Q E hr h => ?_)
  · obtain ⟨n, a, _, rfl, _⟩ := h
    rfl
  · obtain ⟨n, a, rows, rfl, ⟨ps, R⟩, h4, hlen, kq, ke⟩ := h
    have hr1 : Room 1 _ := hr.mono (by decide)
    refine ⟨_, pss_cons (ps_nox (ps_setC (i := 2) scLF.nd rfl rfl rfl (pi_list (pv 1)) coLF (fun cl ex s0 H0 => ⟨pg_name (i := 0) nd1 rfl (Or.inl rfl), pif_none, pe_ix ix_tup0 (pv 0) pe_int (fun _ _ => rfl)⟩)))
      (pss_cons (ps_set (i := 3) scLF.nd rfl (Or.inl rfl) pe_int) (pss_one (ps_fly (ps_for fly_own rfl (pi_list (pv 1))
      (pg_tup rfl (pgs_cons (pg_name (i := 4) scLF.nd rfl (Or.inl rfl)) (pgs_cons (pg_name (i := 5) scLF.nd rfl (Or.inl rfl)) (pgs_cons (pg_name (i := 6) scLF.nd rfl (Or.inl rfl)) (pgs_cons (pg_name (i := 7) scLF.nd rfl (Or.inl rfl)) pgs_nil)))))
      (pss_cons (ps_if (PW.pt (pw_or (pt_not (pt_val (pe_call G2 hr1 rfl F2.g F2.F.kp F2.b .nil pass0 (pa_cons (pv 0) (pa_cons (pv 4) (pa_cons (pv 5) pa_nil)))))) (pw_or1 (pt_cmpR op_in_seq (pv 4) (pv 2) (by with_unfolding_all rfl))))) (pss_one (ps_raiseF (pe_makeE TB.ex GI hr rfl TB.mgC bI pass0 (pa_cons (pv 3) (pa_cons pe_str pa_nil))))) pss_nil)
      (pss_cons (ps_if (PW.pt (pw_or (pt_cmpR op_eq (pv 5) pe_int (nomark _)) (pw_or1 (pt_cmpR op_in_seq (pv 5) (pe_slice sl_list (pv 2) po_none (po_some (pv 3))) (by with_unfolding_all rfl))))) (pss_one (ps_raiseF (pe_makeE TB.ex GI hr rfl TB.mgC bI pass0 (pa_cons (pv 3) (pa_cons pe_str pa_nil))))) pss_nil)
      (pss_cons (ps_if (pt_not (pt_chain3 op_le op_le op_le pe_int (pv 6) (pv 7) (pe_glob (v := .int 60) rfl m1 ⟨_, rfl⟩))) (pss_one (ps_raiseF (pe_makeE TB.ex GI hr rfl TB.mgC bI pass0 (pa_cons (pv 3) (pa_cons pe_str pa_nil))))) pss_nil)
      (pss_one (ps_aug (i := 3) scLF.nd rfl (Or.inl rfl) pe_int ip_add))))))))), ?_⟩
    -- ends
    refine ⟨_, rfl, a, rfl, ⟨_, SqL.of R.1⟩, fun Da hDa => ?_⟩
    refine comp_list (xs := ps.map V.ref) (fun j σ' H' => ∃ v, σ' = [v] ∧ H' Da = some (.lst (((rows.take j).map endI).map V.int)) ∧ Same H H') ?_ ?_ ?_ ?_
    · exact ⟨none, rfl, upd_same, same_new hDa⟩
    · rintro j σ' H1 _ ⟨v, rfl, _, s1⟩
      exact SqL.of (s1 _ _ R.1)
    · rintro j x σ' H1 hx ⟨v, rfl, e1, s1⟩
      obtain ⟨q, r, rfl, hq, hr', hqt⟩ := R.get hx
      obtain ⟨a', b', l, m, rfl⟩ := h4 r (List.mem_of_getElem? hr')
      refine ⟨_, rfl, rdT (s1 _ _ hqt) rfl ⟨_, e1, ?_, _, rfl, ?_, fun b o e => ?_⟩⟩
      · rw [List.length_map, List.length_map, List.length_take]
        exact small1000 (by omega)
      · rw [upd_same, List.take_succ, hr', List.map_append, List.map_append]
        rfl
      · rw [upd_ne (ne_of_none e hDa)]
        exact s1 _ _ e
    · rintro σ' H1 ⟨v, rfl, e1, s1⟩
      have hl : rows.take (ps.map V.ref).length = rows := by
        rw [List.length_map, R.len]
        exact List.take_length
      rw [hl] at e1
      have R1 := R.same s1
      refine ⟨_, rfl, a, rfl, ⟨_, SqL.of R1.1⟩, for_list (K := K) (a := a) (xs := ps.map V.ref) (fun i σ' H' => ∃ z v1 v2 v3 v4, z = (i : Int) ∧ σ' = [some (.int n), some (.ref a), some (.ref Da), some (.int z), v1, v2, v3, v4] ∧ Same H1 H' ∧ ∀ j r, j < i → rows[j]? = some r → fallV n (rows.map endI) (0 + j) r = none) ⟨0, none, none, none, none, rfl, rfl, Same.refl _, fun j r hj => absurd hj (Nat.not_lt_zero _)⟩ ?_ ?_ ?_⟩
      · rintro i σ' H' _ ⟨z, v1, v2, v3, v4, _, rfl, s2, _⟩
        exact SqL.of (s2 _ _ R1.1)
      · rintro i x σ' H2 hx ⟨z, v1, v2, v3, v4, rfl, rfl, s2, hb⟩
        have R2 := R1.same s2
        obtain ⟨q, r, rfl, hq, hr', hqt⟩ := R2.get hx
        obtain ⟨a', b', l, m, e4⟩ := h4 r (List.mem_of_getElem? hr')
        subst e4
        have e2 := s2 _ _ e1
        have s12 := s1.trans s2
        have hi : i ≤ (rows.map endI).length := by rw [List.length_map]; exact Nat.le_of_lt (List.getElem?_eq_some_iff.mp hr').1
        have bad : ∀ w, fallV n (rows.map endI) (0 + i) [a', b', l, m] = some w → Refuse CB H E (i : Int) w := fun w e => ke i w (by rw [first_at hb hr' e, Nat.zero_add])
        have eV : fallV n (rows.map endI) (0 + i) [a', b', l, m] = if twoB n a' b' = false ∨ a' ∈ rows.map endI then some ("fall" : Str) else if b' = 0 ∨ b' ∈ (rows.map endI).take i then some ("fall" : Str) else if ¬ (1 ≤ l ∧ l ≤ m ∧ m ≤ 60) then some ("length" : Str) else none := by
          rw [Nat.zero_add]
          rfl
        refine ⟨q, _, rfl, SqT.of hqt, rfl, _, _, rfl, _, _, rfl, _, _, rfl, _, _, rfl, rfl, ?_⟩
        refine ⟨_, rfl, _, rfl, _, rfl, n, a', b', rfl, _, rfl, ?_⟩
        by_cases c : 0 ≤ a' ∧ a' < n ∧ 0 ≤ b' ∧ b' < n ∧ a' ≠ b'
        · refine iteNS c ?_
          have c1 : ¬ twoB n a' b' = false := by unfold twoB; rw [decide_eq_true c]; decide
          refine ⟨_, rfl, _, rfl, Da, _, rfl, .inl (SqL.of e2), rfl, flat_ints, _, rfl, ?_⟩
          show if inV (V.int a') ((rows.map endI).map V.int) = true then _ else _
          rw [inV_ints]
          by_cases d : a' ∈ rows.map endI
          · exact iteD d ⟨_, rfl, raised TB (bad _ (by rw [eV, if_pos (.inr d)])) s12⟩
          · refine iteDN d ?_
            have n1 : ¬ (twoB n a' b' = false ∨ a' ∈ rows.map endI) := fun z => z.elim c1 d
            by_cases b0 : b' = 0
            · exact ⟨_, rfl, rfl, _, rfl, iteD (congrArg V.int b0) (iteT ⟨_, rfl, raised TB (bad _ (by rw [eV, if_neg n1, if_pos (.inl b0)])) s12⟩)⟩
            · refine ⟨_, rfl, rfl, _, rfl, iteDN (fun z => b0 (V.int.inj z)) ?_⟩
              refine ⟨_, rfl, _, rfl, _, rfl, _, rfl, Da, _, rfl, SqL.of e2, fun p hp => ?_⟩
              have ec : cutV ((rows.map endI).map V.int) none (some (i : Int)) = ((rows.map endI).take i).map V.int := by
                unfold cutV
                rw [cut_take (by rw [List.length_map]; exact hi), ← List.map_take]
              rw [ec]
              have s3 := s12.trans (same_new (o := .lst (((rows.map endI).take i).map V.int)) hp)
              refine ⟨p, _, rfl, .inl (SqL.of upd_same), rfl, flat_ints, _, rfl, ?_⟩
              show if inV (V.int b') (((rows.map endI).take i).map V.int) = true then _ else _
              rw [inV_ints]
              by_cases g : b' ∈ (rows.map endI).take i
              · exact iteD g ⟨_, rfl, raised TB (bad _ (by rw [eV, if_neg n1, if_pos (.inr g)])) s3⟩
              · refine iteDN g ?_
                have n2 : ¬ (b' = 0 ∨ b' ∈ (rows.map endI).take i) := fun z => z.elim b0 g
                by_cases d : 1 ≤ l ∧ l ≤ m ∧ m ≤ 60
                · refine ⟨_, rfl, _, _, rfl, rfl, _, rfl, iteD d.1 ⟨_, rfl, _, _, rfl, rfl, _, rfl, iteD d.2.1 ⟨_, _, rfl, rfl, _, rfl, iteNS d.2.2 ?_⟩⟩⟩
                  refine ⟨_, rfl, _, _, rfl, rfl, _, _, _, _, _, (by show (i : Int) + 1 = _; omega), rfl, s2.trans (same_new hp), fun j r hj e => ?_⟩
                  by_cases z : j = i
                  · subst z
                    rw [hr'] at e
                    cases e
                    rw [eV, if_neg n1, if_neg n2, if_neg (not_not_intro d)]
                  · exact hb j r (by omega) e
                · have hw := bad "length" (by rw [eV, if_neg n1, if_neg n2, if_pos d])
                  by_cases d1 : 1 ≤ l
                  · by_cases d2 : l ≤ m
                    · exact ⟨_, rfl, _, _, rfl, rfl, _, rfl, iteD d1 ⟨_, rfl, _, _, rfl, rfl, _, rfl, iteD d2 ⟨_, _, rfl, rfl, _, rfl, iteNP (fun z => d ⟨d1, d2, z⟩) ⟨_, rfl, raised TB hw s3⟩⟩⟩⟩
                    · exact ⟨_, rfl, _, _, rfl, rfl, _, rfl, iteD d1 ⟨_, rfl, _, _, rfl, rfl, _, rfl, iteDN d2 ⟨_, rfl, iteBT rfl ⟨_, rfl, raised TB hw s3⟩⟩⟩⟩
                  · exact ⟨_, rfl, _, _, rfl, rfl, _, rfl, iteDN d1 ⟨_, rfl, iteBT rfl ⟨_, rfl, raised TB hw s3⟩⟩⟩
        · exact iteNP c (iteT ⟨_, rfl, raised TB (bad _ (by rw [eV, if_pos (.inl (by unfold twoB; exact decide_eq_false c))])) s12⟩)
      · rintro σ' H' ⟨z, v1, v2, v3, v4, _, rfl, s2, hb⟩
        refine kq (first_none fun j r' e => hb j r' ?_ e) _ (s1.trans s2)
        rw [List.length_map, R.len]
        exact (List.getElem?_eq_some_iff.mp e).1
end
end W

set_option Elab.async false
set_option linter.all false
set_option maxRecDepth 100000
set_option maxHeartbeats 4000000
namespace W
open PySem L2
noncomputable def spInitF (C : Addr) : Sp := fun vs H Q _ => ∃ p dx n la a b T F, vs = [.ref p, .int n, .int la, .ref a, .ref b] ∧ H p = some (.ins C dx []) ∧ RowsAt H a T ∧ RowsAt H b F ∧ WebOk n la T F ∧
  ∀ H' ta fa dx', H' p = some (.ins C dx' (wflds n la ta fa)) → RowsAt H' ta T → RowsAt H' fa F → H ta = none → H fa = none → ta ≠ p → fa ≠ p → Keep p H H' → Q .non H'
section
variable {P : Program} {w : World} {K : PySem.W.Frag} {mg : Str → Option Value} {base : Heap}
seal L2.PE L2.PA L2.PT L2.PS L2.PSs L2.PG L2.PGs L2.PI L2.PO
theorem ok_initF {f C fS fT fF : Addr} {fd fdS fdT fdF : FuncData} (F : Fun K "__init__" "Web.__init__" sC_Web_init f fd) (T : TxtW mg) (TC : TxtC K mg C)
    (FS : Fn K mg "look_over_size" sP_look_over_size ["many", "last"] fS fdS) (GS : FnOk P w K mg base CX0 1 fS fdS ["many", "last"] spSize)
    (FT : Fn K mg "look_over_ties" sP_look_over_ties ["many", "ties"] fT fdT) (GT : FnOk P w K mg base CX0 2 fT fdT ["many", "ties"] spLTies)
    (FF : Fn K mg "look_over_falls" sP_look_over_falls ["many", "falls"] fF fdF) (GF : FnOk P w K mg base CX0 2 fF fdF ["many", "falls"] spLFalls) :
    FnOk P w K mg base CX0 3 f fd ["self", "many", "last", "ties", "falls"] (spInitF C) := by
  refine F.ok scI (fun vs H Q E h => ?_) (fun cdv A outer s H vs Q E hr h => ?_)
  · obtain ⟨p, dx, n, la, a, b, _, _, rfl, _⟩ := h
    rfl
  · obtain ⟨p, dx, n, la, a, b, rT, rF, rfl, hp, RT, RF, hok, k⟩ := h
    have hr1 : Room 1 _ := hr.mono (by decide)
    refine ⟨_, pss_cons (ps_expr (pe_call GS hr1 rfl FS.g FS.F.kp FS.b .nil pass0 (pa_cons (pv 1) (pa_cons (pv 2) pa_nil))))
      (pss_cons (ps_expr (pe_call GT hr rfl FT.g FT.F.kp FT.b .nil pass0 (pa_cons (pv 1) (pa_cons (pv 3) pa_nil))))
      (pss_cons (ps_expr (pe_call GF hr rfl FF.g FF.F.kp FF.b .nil pass0 (pa_cons (pv 1) (pa_cons (pv 4) pa_nil))))
      (pss_cons (ps_fld (pv 0) (pv 1) rfl) (pss_cons (ps_fld (pv 0) (pv 2) rfl)
      (pss_cons (ps_fld (pv 0) (pe_callTy call_list_of (by rfl) T.list (by decide +kernel) (pa_cons (pv 3) pa_nil)) rfl)
      (pss_one (ps_fld (pv 0) (pe_callTy call_list_of (by rfl) T.list (by decide +kernel) (pa_cons (pv 4) pa_nil)) rfl))))))), ?_⟩
    refine ⟨_, rfl, _, rfl, n, la, rfl, hok.n1, hok.n2, hok.l1, hok.l2, ?_⟩
    refine ⟨_, rfl, _, rfl, n, a, rT, rfl, RT, hok.t, ?_⟩
    refine ⟨_, rfl, _, rfl, n, b, la, rT, rF, rfl, RF, hok, fun H1 s1 => ?_⟩
    have hp1 := s1 _ _ hp
    have RT1 := RT.same s1
    have RF1 := RF.same s1
    obtain ⟨ps1, Q1⟩ := RT1
    obtain ⟨ps2, Q2⟩ := RF1
    refine ⟨_, rfl, _, rfl, p, C, dx, _, rfl, hp1, TC.cl, TC.nM, (by show 0 < 1000; decide), ?_⟩
    refine ⟨_, rfl, _, rfl, p, C, dx, _, rfl, upd_same, TC.cl, TC.nL, (by show 1 < 1000; decide), ?_⟩
    rw [upd_upd]
    have kp : ∀ {o : HO}, Keep p H1 (upd H1 p o) := fun {o} b u e ne => by rw [upd_ne ne]; exact e
    have np : ∀ {x : Addr} {xs : List V}, H1 x = some (.lst xs) → x ≠ p := fun {x xs} e => ne_of e hp1 (fun z => nomatch z)
    refine ⟨_, rfl, a, _, rfl, .inl (SqL.of (by rw [upd_ne (np Q1.1)]; exact Q1.1)), fun l1 hl1 => ?_⟩
    have l1p : l1 ≠ p := Ne.symm (ne_of_none upd_same hl1)
    have hl1' : H1 l1 = none := by rw [upd_ne l1p] at hl1; exact hl1
    refine ⟨_, rfl, p, C, dx, _, rfl, (by rw [upd_ne (Ne.symm l1p), upd_same]), TC.cl, TC.nT, Nat.lt_of_le_of_lt (putF_len _ _ _) (by show 2 < 1000; decide), ?_⟩
    generalize hH2 : upd (upd (upd H1 p (.ins C dx (putF "last" (.int la) (putF "many" (.int n) [])))) l1 (.lst (ps1.map V.ref))) p (.ins C dx (putF "told_ties" (.ref l1) (putF "last" (.int la) (putF "many" (.int n) [])))) = H2
    have k2' : Keep p H1 H2 := fun x o e ne => by rw [← hH2, upd_ne ne, upd_ne (ne_of_none e hl1'), upd_ne ne]; exact e
    have p2 : H2 p = some (.ins C dx (putF "told_ties" (.ref l1) (putF "last" (.int la) (putF "many" (.int n) [])))) := by rw [← hH2, upd_same]
    have l2 : H2 l1 = some (.lst (ps1.map V.ref)) := by rw [← hH2, upd_ne l1p, upd_same]
    refine ⟨_, rfl, b, _, rfl, .inl (SqL.of (k2' _ _ Q2.1 (np Q2.1))), fun l3 hl3 => ?_⟩
    have l3p : l3 ≠ p := Ne.symm (ne_of_none p2 hl3)
    have l31 : l3 ≠ l1 := Ne.symm (ne_of_none l2 hl3)
    have hl3' : H1 l3 = none := by
      cases q : H1 l3 with
      | none => rfl
      | some o => rw [k2' _ _ q l3p] at hl3; cases hl3
    refine ⟨_, rfl, p, C, dx, _, rfl, (by rw [upd_ne (Ne.symm l3p)]; exact p2), TC.cl, TC.nF, Nat.lt_of_le_of_lt (putF_len _ _ _) (Nat.lt_of_le_of_lt (Nat.succ_le_succ (putF_len _ _ _)) (by show 3 < 1000; decide)), ?_⟩
    generalize hH4 : upd (upd H2 l3 (.lst (ps2.map V.ref))) p (.ins C dx (putF "told_falls" (.ref l3) (putF "told_ties" (.ref l1) (putF "last" (.int la) (putF "many" (.int n) []))))) = H4
    have k4' : Keep p H1 H4 := fun x o e ne => by rw [← hH4, upd_ne ne, upd_ne (ne_of_none e hl3')]; exact k2' _ _ e ne
    have tp : ∀ {x : Addr} {xs : List V}, H1 x = some (.tup xs) → x ≠ p := fun {x xs} e => ne_of e hp1 (fun z => nomatch z)
    refine k H4 l1 l3 dx (by rw [← hH4, upd_same]; rfl) ⟨ps1, ?_, paired_imp Q1.2 fun x r e => k4' _ _ e (tp e)⟩ ⟨ps2, ?_, paired_imp Q2.2 fun x r e => k4' _ _ e (tp e)⟩ (s1.free hl1') (s1.free hl3') l1p l3p (fun x o e ne => k4' _ _ (s1 _ _ e) ne)
    · rw [← hH4, upd_ne l1p, upd_ne (Ne.symm l31)]; exact l2
    · rw [← hH4, upd_ne l3p, upd_same]
end
end W

set_option Elab.async false
set_option linter.all false
set_option maxRecDepth 100000
set_option maxHeartbeats 4000000
namespace L2
theorem same_upd {H0 H : Hp} {a : PySem.Addr} {o : HO} (s : Same H0 H) (h : H0 a = none) : Same H0 (upd H a o) := fun b u e => by
  rw [upd_ne (ne_of_none e h)]
  exact s b u e
end L2
namespace W
open PySem L2
structure TxtL (K : PySem.W.Frag) (mg : Str → Option Value) : Prop where
  range : mg "range" = none
  isi : mg "isinstance" = none
  int : mg "int" = none
  bool : mg "bool" = none
  ib : PySem.W.kitOne K (.type "int") (.type "bool") = some false
theorem kit_ii {K : PySem.W.Frag} : PySem.W.kitOne K (.type "int") (.type "int") = some true := by
  unfold PySem.W.kitOne
  rw [if_pos (by decide +kernel)]
noncomputable def spWhole : Sp := fun vs H Q _ => ∃ i : Int, vs = [.int i] ∧ Q (.bl true) H
structure DrawnAt (H : Hp) (wp ta fa : Addr) (n la : Int) (T F : List (List Int)) : Prop where
  tup : H wp = some (.tup [.int n, .int la, .ref ta, .ref fa])
  t : RowsAt H ta T
  f : RowsAt H fa F
theorem DrawnAt.same {H H' : Hp} {wp ta fa : Addr} {n la : Int} {T F : List (List Int)} (h : DrawnAt H wp ta fa n la T F) (k : Same H H') : DrawnAt H' wp ta fa n la T F := ⟨k _ _ h.tup, h.t.same k, h.f.same k⟩
section
variable {P : Program} {w : World} {K : PySem.W.Frag} {mg : Str → Option Value} {base : Heap}
theorem scWh : FnScope ["_law_found"] ["_law_found"] (defScope sWhole) := ⟨rfl, rfl, rfl, by decide +kernel, rfl, by decide +kernel, by decide +kernel⟩
theorem ok_whole {f : Addr} {fd : FuncData} (F : Fn K mg "_law_whole" sWhole ["_law_found"] f fd) (T : TxtL K mg) : FnOkH P w K mg base CX0 1 f fd ["_law_found"] spWhole := by
  refine F.F.okH scWh (fun vs H Q E h => ?_) (fun cdv A outer s H vs Q E hr hh h => ?_)
  · obtain ⟨i, rfl, _⟩ := h
    rfl
  · obtain ⟨i, rfl, k⟩ := h
    refine ⟨_, pss_one (ps_ret (pe_and (pe_callB call_isinst (by rfl) T.isi (by decide +kernel) (pa_cons (pv 0) (pa_cons (pe_bltn (v := .ty "int") rfl T.int (by decide +kernel) rfl) pa_nil)))
      (pe_one (pe_not (pe_callB call_isinst (by rfl) T.isi (by decide +kernel) (pa_cons (pv 0) (pa_cons (pe_bltn (v := .ty "bool") rfl T.bool (by decide +kernel) rfl) pa_nil))))))), ?_⟩
    refine ⟨_, rfl, _, _, _, true, rfl, .int i, kit_ii, _, rfl, iteT ?_⟩
    exact ⟨_, rfl, _, _, _, false, rfl, .int i, T.ib, _, rfl, k⟩
end
end W

set_option Elab.async false
set_option linter.all false
set_option maxRecDepth 100000
set_option maxHeartbeats 4000000
namespace W
open PySem L2
noncomputable def LikeD : Nat → Hp → V → V → Prop
  | 0, _, x, y => (∃ i, x = .int i ∧ y = .int i) ∨ (x = .non ∧ y = .non)
  | d + 1, H, x, y => (∃ i, x = .int i ∧ y = .int i) ∨ (x = .non ∧ y = .non) ∨ ∃ p q xs ys, x = .ref p ∧ y = .ref q ∧ ((H p = some (.lst xs) ∧ H q = some (.lst ys)) ∨ (H p = some (.tup xs) ∧ H q = some (.tup ys))) ∧ xs.length = ys.length ∧ xs.length ≤ 1000 ∧
      ∀ (i : Nat) a b, xs[i]? = some a → ys[i]? = some b → LikeD d H a b
noncomputable def spLike (d : Nat) : Sp := fun vs H Q _ => ∃ x y, vs = [x, y] ∧ LikeD d H x y ∧ Q (.bl true) H
structure TxtK (K : PySem.W.Frag) (mg : Str → Option Value) : Prop where
  range : mg "range" = none
  isi : mg "isinstance" = none
  int : mg "int" = none
  bool : mg "bool" = none
  str : mg "str" = none
  tuple : mg "tuple" = none
  list : mg "list" = none
  len : mg "len" = none
  is_ : PySem.W.kitOne K (.type "int") (.type "str") = some false
  ib : PySem.W.kitOne K (.type "int") (.type "bool") = some false
  ns : PySem.W.kitOne K (.type "NoneType") (.type "str") = some false
  ni : PySem.W.kitOne K (.type "NoneType") (.type "int") = some false
  ls : PySem.W.kitOne K (.type "list") (.type "str") = some false
  li : PySem.W.kitOne K (.type "list") (.type "int") = some false
  lt : PySem.W.kitOne K (.type "list") (.type "tuple") = some false
  ts : PySem.W.kitOne K (.type "tuple") (.type "str") = some false
  ti : PySem.W.kitOne K (.type "tuple") (.type "int") = some false
  tl : PySem.W.kitOne K (.type "tuple") (.type "list") = some false
theorem kit_ll {K : PySem.W.Frag} : PySem.W.kitOne K (.type "list") (.type "list") = some true := by
  unfold PySem.W.kitOne
  rw [if_pos (by decide +kernel)]
theorem kit_tt {K : PySem.W.Frag} : PySem.W.kitOne K (.type "tuple") (.type "tuple") = some true := by
  unfold PySem.W.kitOne
  rw [if_pos (by decide +kernel)]
section
variable {P : Program} {w : World} {K : PySem.W.Frag} {mg : Str → Option Value} {base : Heap}
noncomputable abbrev nLk : List Str := ["_law_found", "_law_due", "_law_k"]
theorem scLke : FnScope nLk ["_law_found", "_law_due"] (defScope sL_like) := ⟨rfl, rfl, rfl, by decide +kernel, rfl, by decide +kernel, by decide +kernel⟩
theorem like_core {k0 : Nat} {f : Addr} {fd : FuncData} (F : Fn K mg "_law_like" sL_like ["_law_found", "_law_due"] f fd) (T : TxtK K mg) {sp : Sp} (GL : FnOk P w K mg base CX0 k0 f fd ["_law_found", "_law_due"] sp) (L : Hp → V → V → Prop)
    (hL0 : ∀ H x y, L H x y → (∃ i, x = .int i ∧ y = .int i) ∨ (x = .non ∧ y = .non) ∨ ∃ p q xs ys, x = .ref p ∧ y = .ref q ∧ ((H p = some (.lst xs) ∧ H q = some (.lst ys)) ∨ (H p = some (.tup xs) ∧ H q = some (.tup ys))) ∧ xs.length = ys.length ∧ xs.length ≤ 1000 ∧
      ∀ (i : Nat) a b, xs[i]? = some a → ys[i]? = some b → ∀ Q : VK, Q (.bl true) H → sp [a, b] H Q E0) : FnOk P w K mg base CX0 (k0 + 1) f fd ["_law_found", "_law_due"] (fun vs H Q _ => ∃ x y, vs = [x, y] ∧ L H x y ∧ Q (.bl true) H) := by
  refine F.F.ok scLke (fun vs H Q E h => ?_) (fun cdv A outer s H vs Q E hr h => ?_)
  · obtain ⟨x, y, rfl, _⟩ := h
    rfl
  · obtain ⟨x, y, rfl, hL, k⟩ := h
    refine ⟨_, pss_cons (ps_if (pt_val (pe_callB call_isinst (by rfl) T.isi (by decide +kernel) (pa_cons (pv 1) (pa_cons (pe_bltn (v := .ty "str") rfl T.str (by decide +kernel) rfl) pa_nil)))) pss_never pss_nil)
      (pss_cons (ps_if (pt_val (pe_callB call_isinst (by rfl) T.isi (by decide +kernel) (pa_cons (pv 1) (pa_cons (pe_bltn (v := .ty "int") rfl T.int (by decide +kernel) rfl) pa_nil))))
        (pss_one (ps_ret (pe_and (pe_callB call_isinst (by rfl) T.isi (by decide +kernel) (pa_cons (pv 0) (pa_cons (pe_bltn (v := .ty "int") rfl T.int (by decide +kernel) rfl) pa_nil)))
          (pe_and (pe_not (pe_callB call_isinst (by rfl) T.isi (by decide +kernel) (pa_cons (pv 0) (pa_cons (pe_bltn (v := .ty "bool") rfl T.bool (by decide +kernel) rfl) pa_nil)))) (pe_one (pe_cmpR op_eq (pv 0) (pv 1) (nomark _))))))) pss_nil)
      (pss_cons (ps_if (pt_cmpR op_isN (pv 1) pe_non (nomark _)) (pss_one (ps_ret (pe_cmpR op_isN (pv 0) pe_non (nomark _)))) pss_nil)
      (pss_cons (ps_if (PW.pt (pw_or (pt_cmpR op_ne (pe_callB call_isinst (by rfl) T.isi (by decide +kernel) (pa_cons (pv 1) (pa_cons (pe_bltn (v := .ty "tuple") rfl T.tuple (by decide +kernel) rfl) pa_nil))) (pe_callB call_isinst (by rfl) T.isi (by decide +kernel) (pa_cons (pv 0) (pa_cons (pe_bltn (v := .ty "tuple") rfl T.tuple (by decide +kernel) rfl) pa_nil))) (nomark _))
        (pw_or1 (pt_cmpR op_ne (pe_callB call_isinst (by rfl) T.isi (by decide +kernel) (pa_cons (pv 1) (pa_cons (pe_bltn (v := .ty "list") rfl T.list (by decide +kernel) rfl) pa_nil))) (pe_callB call_isinst (by rfl) T.isi (by decide +kernel) (pa_cons (pv 0) (pa_cons (pe_bltn (v := .ty "list") rfl T.list (by decide +kernel) rfl) pa_nil))) (nomark _))))) pss_never pss_nil)
      (pss_cons (ps_if (pt_cmpR op_ne (pe_callB call_len_seq (by rfl) T.len PySem.boot_len (pa_cons (pv 0) pa_nil)) (pe_callB call_len_seq (by rfl) T.len PySem.boot_len (pa_cons (pv 1) pa_nil)) (nomark _)) pss_never pss_nil)
      (pss_cons (ps_for PassesOwn.never rfl (pi_range1 rfl T.range (pa_cons (pe_callB call_len_seq (by rfl) T.len PySem.boot_len (pa_cons (pv 1) pa_nil)) pa_nil)) (pg_name (i := 2) scLke.nd rfl (Or.inl rfl))
        (pss_one (ps_if (pt_not (pt_val (pe_call GL hr rfl F.g F.F.kp F.b .nil pass0 (pa_cons (pe_ix ix_seq (pv 0) (pv 2) (fun _ _ => rfl)) (pa_cons (pe_ix ix_seq (pv 1) (pv 2) (fun _ _ => rfl)) pa_nil))))) pss_never pss_nil)))
      (pss_one (ps_ret pe_bl))))))), ?_⟩
    rcases hL0 H x y hL with ⟨i, rfl, rfl⟩ | ⟨rfl, rfl⟩ | ⟨p, q, xs, ys, rfl, rfl, hpq, hlen, hsm, hall⟩
    · refine ⟨_, rfl, _, _, _, false, rfl, .int i, T.is_, _, rfl, iteF ?_⟩
      refine ⟨_, rfl, _, _, _, true, rfl, .int i, kit_ii, _, rfl, iteT ?_⟩
      refine ⟨_, rfl, _, _, _, true, rfl, .int i, kit_ii, _, rfl, iteT ?_⟩
      refine ⟨_, rfl, _, _, _, false, rfl, .int i, T.ib, _, rfl, _, rfl, iteT ?_⟩
      exact ⟨_, rfl, _, rfl, rfl, bl_of k (by simp)⟩
    · refine ⟨_, rfl, _, _, _, false, rfl, .non, T.ns, _, rfl, iteF ?_⟩
      refine ⟨_, rfl, _, _, _, false, rfl, .non, T.ni, _, rfl, iteF ?_⟩
      refine ⟨_, rfl, rfl, _, rfl, iteD rfl ?_⟩
      exact ⟨_, rfl, rfl, bl_of k (by simp)⟩
    · have sq : (SqL K H p xs ∨ SqT K H p xs) ∧ (SqL K H q ys ∨ SqT K H q ys) := by
        rcases hpq with ⟨a, b⟩ | ⟨a, b⟩
        · exact ⟨.inl (SqL.of a), .inl (SqL.of b)⟩
        · exact ⟨.inr (SqT.of a), .inr (SqT.of b)⟩
      obtain ⟨t, tp, tq, e1, e2, b1, b2, e3, e4⟩ : ∃ t, TyOf K H (.ref p) t ∧ TyOf K H (.ref q) t ∧ PySem.W.kitOne K t (.type "str") = some false ∧ PySem.W.kitOne K t (.type "int") = some false ∧ ∃ b1 b2, PySem.W.kitOne K t (.type "tuple") = some b1 ∧ PySem.W.kitOne K t (.type "list") = some b2 := by
        rcases hpq with ⟨a, b⟩ | ⟨a, b⟩
        · exact ⟨_, .lst a, .lst b, T.ls, T.li, _, _, T.lt, kit_ll⟩
        · exact ⟨_, .tup a, .tup b, T.ts, T.ti, _, _, kit_tt, T.tl⟩
      refine ⟨_, rfl, _, _, _, _, rfl, tq, e1, _, rfl, iteF ?_⟩
      refine ⟨_, rfl, _, _, _, _, rfl, tq, e2, _, rfl, iteF ?_⟩
      refine ⟨_, rfl, rfl, _, rfl, iteDN (fun z => nomatch z) ?_⟩
      refine ⟨_, rfl, _, _, _, _, rfl, tq, e3, _, rfl, _, _, _, _, rfl, tp, e3, by cases b1 <;> rfl, _, rfl, iteB (by simp) ?_⟩
      refine ⟨_, rfl, _, _, _, _, rfl, tq, e4, _, rfl, _, _, _, _, rfl, tp, e4, by cases b2 <;> rfl, _, rfl, iteB (by simp) ?_⟩
      refine ⟨_, rfl, p, xs, rfl, sq.1, _, rfl, q, ys, rfl, sq.2, rfl, _, rfl, iteB (by simp [hlen]) ?_⟩
      refine ⟨_, rfl, q, ys, rfl, sq.2, (ys.length : Int), rfl, by omega, by omega, ?_⟩
      refine for_range (n := ((ys.length : Nat) : Int).toNat) (fun i σ' H' => ∃ v, σ' = [some (.ref p), some (.ref q), v] ∧ H' = H) ⟨none, rfl, rfl⟩ ?_ ?_
      · rintro i σ' H' hi ⟨v, rfl, rfl⟩
        rw [Int.toNat_natCast] at hi
        have ei : (0 : Int) + (i : Int) = (i : Int) := by omega
        rw [ei]
        have ha : xs[i]? = some xs[i] := List.getElem?_eq_getElem (by omega)
        have hb : ys[i]? = some ys[i] := List.getElem?_eq_getElem hi
        refine ⟨_, rfl, _, rfl, ?_⟩
        have r1 : ∀ {Q' : VK}, Q' xs[i] H' → rIx K (.ref p) (.int (i : Int)) H' Q' := fun {Q'} kk => by
          rcases sq.1 with z | z
          · exact .inl ⟨p, xs, _, _, rfl, rfl, z, atI_nat ha, kk⟩
          · exact .inr (.inl ⟨p, xs, _, _, rfl, rfl, z, atI_nat ha, kk⟩)
        have r2 : ∀ {Q' : VK}, Q' ys[i] H' → rIx K (.ref q) (.int (i : Int)) H' Q' := fun {Q'} kk => by
          rcases sq.2 with z | z
          · exact .inl ⟨q, ys, _, _, rfl, rfl, z, atI_nat hb, kk⟩
          · exact .inr (.inl ⟨q, ys, _, _, rfl, rfl, z, atI_nat hb, kk⟩)
        refine r1 ?_
        refine ⟨_, rfl, _, rfl, r2 ?_⟩
        refine hall i _ _ ha hb _ ?_
        exact ⟨_, rfl, iteB rfl ⟨_, rfl, rfl⟩⟩
      · rintro σ' H' ⟨v, rfl, rfl⟩
        exact k
theorem ok_like {f : Addr} {fd : FuncData} (F : Fn K mg "_law_like" sL_like ["_law_found", "_law_due"] f fd) (T : TxtK K mg) : ∀ d, FnOk P w K mg base CX0 (d + 1) f fd ["_law_found", "_law_due"] (spLike d)
  | 0 => like_core (sp := fun _ _ _ _ => False) F T ⟨fun _ _ _ _ z => z.elim, fun _ _ _ _ _ _ _ _ _ _ _ _ _ z => z.elim⟩ (LikeD 0) (fun H x y h => h.elim .inl fun z => .inr (.inl z))
  | d + 1 => like_core F T (ok_like F T d) (LikeD (d + 1)) (fun H x y h => by
      rcases h with h | h | ⟨p, q, xs, ys, h1, h2, h3, h4, h5, h6⟩
      · exact .inl h
      · exact .inr (.inl h)
      · exact .inr (.inr ⟨p, q, xs, ys, h1, h2, h3, h4, h5, fun i a b ha hb Q k => ⟨a, b, rfl, h6 i a b ha hb, k⟩⟩))
end
end W

set_option Elab.async false
set_option linter.all false
set_option maxRecDepth 100000
set_option maxHeartbeats 4000000
namespace L2
open PySem
theorem eqV_self : ∀ {x : V}, flatV x = true → eqV x x = true
  | .non, _ => rfl
  | .bl b, _ => (beq_self_eq_true b : (b == b) = true)
  | .int i, _ => (beq_self_eq_true i : (i == i) = true)
  | .str s, _ => (beq_self_eq_true s : (s == s) = true)
  | .byt _, h => by cases h
  | .flt _, h => by cases h
  | .ref _, h => by cases h
  | .ty _, h => by cases h
theorem allEq_self {xs : List V} (h : xs.all flatV = true) : allEq xs xs = true := by
  unfold allEq
  rw [List.all_eq_true]
  intro j hj
  have hj := List.mem_range.mp hj
  refine eqV_self (flat_get h (j := j) ?_)
  rw [List.getD_eq_getElem?_getD, List.getElem?_eq_getElem hj]
  rfl
theorem flat_bls : ∀ {bs : List Bool}, (bs.map V.bl).all flatV = true
  | [] => rfl
  | b :: r => by
    rw [List.map_cons, List.all_cons, flat_bls (bs := r)]
    rfl
end L2
namespace W
open PySem L2
structure TxtI (K : PySem.W.Frag) (mg : Str → Option Value) (C : Addr) (b1 b2 b3 b4 b5 : Bool) : Prop where
  isi : mg "isinstance" = none
  ve : mg "ValueError" = none
  g : ExcG K C
  k1 : ∃ c, mg "BadWeb" = some (.ref c) ∧ PySem.W.kitOne K (.ref C) (.ref c) = some b1
  k2 : ∃ c, mg "NoTimes" = some (.ref c) ∧ PySem.W.kitOne K (.ref C) (.ref c) = some b2
  k3 : ∃ c, mg "NoHand" = some (.ref c) ∧ PySem.W.kitOne K (.ref C) (.ref c) = some b3
  k4 : ∃ c, mg "BadFall" = some (.ref c) ∧ PySem.W.kitOne K (.ref C) (.ref c) = some b4
  k5 : ∃ c, mg "BadText" = some (.ref c) ∧ PySem.W.kitOne K (.ref C) (.ref c) = some b5
  kv : PySem.W.kitOne K (.ref C) (.type "ValueError") = some true
noncomputable abbrev wordsL : List Str := ["web", "times", "hand", "fall", "text"]
noncomputable def spIs (C : Addr) (wd : Str) : Sp := fun vs H Q _ => ∃ a d t tb u fs, vs = [.ref a, .str wd] ∧ H a = some (.frz (excRec C (some d) t tb) u) ∧ H d = some (excD d fs) ∧ ∀ H', Same H H' → Q (.bl true) H'
section
variable {P : Program} {w : World} {K : PySem.W.Frag} {mg : Str → Option Value} {base : Heap}
noncomputable abbrev nIs : List Str := ["_law_e", "_law_word", "_law_kinds", "_law_words"]
theorem scIs : FnScope nIs ["_law_e", "_law_word"] (defScope sL_is) := ⟨rfl, rfl, rfl, by decide +kernel, rfl, by decide +kernel, by decide +kernel⟩
theorem coIs : CompOk (defScope sL_is) nIs (fsc [(".0", .local), ("_law_one", .local), ("_law_word", .free)]) ["_law_one", "_law_word"] [none, some 1] := ⟨rfl, by decide +kernel, by decide +kernel, by decide +kernel, rfl, by decide +kernel⟩
theorem ndIs : (["_law_one", "_law_word"] : List Str).Nodup := by decide +kernel
theorem ok_is {f C : Addr} {fd : FuncData} {b1 b2 b3 b4 b5 : Bool} {wd : Str} (F : Fn K mg "_law_is" sL_is ["_law_e", "_law_word"] f fd) (T : TxtI K mg C b1 b2 b3 b4 b5) (hw : [b1, b2, b3, b4, b5] = wordsL.map fun o => decide (V.str wd = V.str o)) :
    FnOkH P w K mg base CX0 1 f fd ["_law_e", "_law_word"] (spIs C wd) := by
  obtain ⟨c1, m1, q1⟩ := T.k1
  obtain ⟨c2, m2, q2⟩ := T.k2
  obtain ⟨c3, m3, q3⟩ := T.k3
  obtain ⟨c4, m4, q4⟩ := T.k4
  obtain ⟨c5, m5, q5⟩ := T.k5
  refine F.F.okH scIs (fun vs H Q E h => ?_) (fun cdv A outer s H vs Q E hr hh h => ?_)
  · obtain ⟨a, _, _, _, _, _, rfl, _⟩ := h
    rfl
  · obtain ⟨a, d, t, tb, u, fs, rfl, ea, ed, k⟩ := h
    refine ⟨_, pss_cons (ps_set (i := 2) scIs.nd rfl (Or.inl rfl) (pe_lst
        (pa_cons (pe_callB (call_isinstE (K := K) rfl) (by rfl) T.isi (by decide +kernel) (pa_cons (pv 0) (pa_cons (pe_glob (v := .ref c1) rfl m1 rfl) pa_nil)))
        (pa_cons (pe_callB (call_isinstE (K := K) rfl) (by rfl) T.isi (by decide +kernel) (pa_cons (pv 0) (pa_cons (pe_glob (v := .ref c2) rfl m2 rfl) pa_nil)))
        (pa_cons (pe_callB (call_isinstE (K := K) rfl) (by rfl) T.isi (by decide +kernel) (pa_cons (pv 0) (pa_cons (pe_glob (v := .ref c3) rfl m3 rfl) pa_nil)))
        (pa_cons (pe_callB (call_isinstE (K := K) rfl) (by rfl) T.isi (by decide +kernel) (pa_cons (pv 0) (pa_cons (pe_glob (v := .ref c4) rfl m4 rfl) pa_nil))) pa_nil))))))
      (pss_cons (ps_expr (pe_bm PySem.F.plainAttrs_list PySem.F.slot_list_append PySem.F.type_list_append mt_append (pv 2) (pa_cons (pe_callB (call_isinstE (K := K) rfl) (by rfl) T.isi (by decide +kernel) (pa_cons (pv 0) (pa_cons (pe_glob (v := .ref c5) rfl m5 rfl) pa_nil))) pa_nil)))
      (pss_cons (ps_set (i := 3) scIs.nd rfl (Or.inl rfl) (pe_lst (pa_cons pe_str (pa_cons pe_str (pa_cons pe_str (pa_cons pe_str (pa_cons pe_str pa_nil)))))))
      (pss_one (ps_ret (pe_and (pe_callB (call_isinstE (K := K) rfl) (by rfl) T.isi (by decide +kernel) (pa_cons (pv 0) (pa_cons (pe_bltn (v := .ty "ValueError") rfl T.ve (by decide +kernel) rfl) pa_nil)))
        (pe_one (pe_cmpR (op_eqF (K := K) rfl hr.units) (pv 2) (pe_compH (.inr hh) (pi_list (pv 3)) coIs (fun cl ex s0 H0 _ => ⟨pg_name (i := 0) ndIs rfl (Or.inl rfl), pif_none, pe_cmpR op_eq (pv 1) (pv 0) (nomark _)⟩)) (nomark _)))))))), ?_⟩
    refine ⟨_, rfl, a, C, d, t, tb, u, fs, _, _, _, rfl, ea, ed, T.g, rfl, (fun _ z => z), q1, ?_⟩
    refine ⟨_, rfl, a, C, d, t, tb, u, fs, _, _, _, rfl, ea, ed, T.g, rfl, (fun _ z => z), q2, ?_⟩
    refine ⟨_, rfl, a, C, d, t, tb, u, fs, _, _, _, rfl, ea, ed, T.g, rfl, (fun _ z => z), q3, ?_⟩
    refine ⟨_, rfl, a, C, d, t, tb, u, fs, _, _, _, rfl, ea, ed, T.g, rfl, (fun _ z => z), q4, by show 4 ≤ sizeLine; decide, fun kl hkl => ?_⟩
    have s1 := same_new (o := .lst [V.bl b1, V.bl b2, V.bl b3, V.bl b4]) hkl
    refine ⟨_, rfl, .inl ⟨rfl, _, SqL.of upd_same⟩, _, rfl, a, C, d, t, tb, u, fs, _, _, _, rfl, s1 _ _ ea, s1 _ _ ed, T.g, rfl, (fun _ z => z), q5, kl, _, _, rfl, rfl, upd_same, by show 4 < sizeLine; decide, ?_⟩
    have s2 := same_upd (o := .lst ([V.bl b1, V.bl b2, V.bl b3, V.bl b4] ++ [V.bl b5])) s1 hkl
    have e2 : upd (upd H kl (.lst [V.bl b1, V.bl b2, V.bl b3, V.bl b4])) kl (.lst ([V.bl b1, V.bl b2, V.bl b3, V.bl b4] ++ [V.bl b5])) kl = some (.lst ([b1, b2, b3, b4, b5].map V.bl)) := upd_same
    generalize upd (upd H kl (.lst [V.bl b1, V.bl b2, V.bl b3, V.bl b4])) kl (.lst ([V.bl b1, V.bl b2, V.bl b3, V.bl b4] ++ [V.bl b5])) = H2 at *
    refine ⟨by show 5 ≤ sizeLine; decide, fun wl hwl => ?_⟩
    have s3 : Same H (upd H2 wl (.lst [V.str "web", V.str "times", V.str "hand", V.str "fall", V.str "text"])) := s2.trans (same_new hwl)
    have e3 := same_new (o := .lst [V.str "web", V.str "times", V.str "hand", V.str "fall", V.str "text"]) hwl _ _ e2
    have w3 : upd H2 wl (.lst [V.str "web", V.str "times", V.str "hand", V.str "fall", V.str "text"]) wl = some (.lst (wordsL.map V.str)) := upd_same
    generalize upd H2 wl (.lst [V.str "web", V.str "times", V.str "hand", V.str "fall", V.str "text"]) = H3 at *
    refine ⟨_, rfl, a, C, d, t, tb, u, fs, _, _, _, rfl, s3 _ _ ea, s3 _ _ ed, T.g, rfl, (fun _ z => z), T.kv, _, rfl, iteT ?_⟩
    refine ⟨_, rfl, _, rfl, wl, rfl, ⟨_, SqL.of w3⟩, fun Da hDa => ?_⟩
    refine comp_list (xs := wordsL.map V.str) (fun j σ' H' => ∃ v, σ' = [v, some (.str wd)] ∧ H' Da = some (.lst (((wordsL.take j).map fun o => decide (V.str wd = V.str o)).map V.bl)) ∧ Same H3 H') ⟨none, rfl, upd_same, same_new hDa⟩ ?_ ?_ ?_
    · rintro j σ' H4 _ ⟨v, rfl, _, s4⟩
      exact SqL.of (s4 _ _ w3)
    · rintro j x σ' H4 hx ⟨v, rfl, e4, s4⟩
      rw [List.getElem?_map] at hx
      cases hq : wordsL[j]? with
      | none => rw [hq] at hx; cases hx
      | some o =>
        rw [hq] at hx
        cases hx
        refine ⟨_, rfl, _, rfl, rfl, _, e4, ?_, _, rfl, ?_, fun b o' e => ?_⟩
        · rw [List.length_map, List.length_map, List.length_take]
          exact small1000 (by have : wordsL.length = 5 := rfl; omega)
        · rw [upd_same, List.take_succ, hq, List.map_append, List.map_append]
          rfl
        · rw [upd_ne (ne_of_none e hDa)]; exact s4 _ _ e
    · rintro σ' H4 ⟨v, rfl, e4, s4⟩
      have et : wordsL.take (wordsL.map V.str).length = wordsL := by rw [List.length_map]; exact List.take_length
      rw [et, ← hw] at e4
      exact ⟨kl, Da, _, _, rfl, rfl, SqL.of (s4 _ _ e3), SqL.of e4, flat_bls, flat_bls, rfl, bl_of (k _ (s3.trans s4)) (allEq_self flat_bls).symm⟩
/-! ### is it a ring -/
end
end W

set_option Elab.async false
set_option linter.all false
set_option maxRecDepth 100000
set_option maxHeartbeats 4000000
namespace W
open PySem L2
theorem DrawnAt.keep {H H' : Hp} {wp ta fa d : Addr} {n la : Int} {T F : List (List Int)} {xs : List V} (h : DrawnAt H wp ta fa n la T F) (k : Keep d H H') (hd : H d = some (.lst xs)) (h1 : ta ≠ d) (h2 : fa ≠ d) : DrawnAt H' wp ta fa n la T F :=
  ⟨k _ _ h.tup (ne_of h.tup hd (fun z => nomatch z)), h.t.keep k hd h1, h.f.keep k hd h2⟩
theorem scr_of {K : PySem.W.Frag} {H : Hp} {a : Addr} {ns : List Int} (o : Only H) (h : SqL K H a (ns.map V.int)) : ScrAt K H a ns := by
  rcases h with (h | h) | h
  · rcases o a with z | ⟨ob, xs, z⟩
    · rw [z] at h; cases h
    · rw [z] at h; cases h
  · exact .inl h
  · exact .inr h
noncomputable def spLaw (K : PySem.W.Frag) : Sp := fun vs H Q _ => ∃ a ns, vs = [.ref a] ∧ ScrAt K H a ns ∧ ∀ H', Q (.bl true) H'
end W

set_option Elab.async false
set_option linter.all false
set_option maxRecDepth 100000
set_option maxHeartbeats 4000000
namespace W
open PySem L2
noncomputable def webV (n la : Int) (T F : List (List Int)) : Option (Int × Str) :=
  match sizeV n la with
  | some w => some (0, w)
  | none => match firstV (tieV n) T 0 with
    | some x => some ((x.1 : Int), x.2)
    | none => (firstV (fallV n (F.map endI)) F 0).map fun x => ((x.1 : Int), x.2)
noncomputable def spInitBad (C CB : Addr) : Sp := fun vs H Q E => ∃ p n la a b T F i w, vs = [.ref p, .int n, .int la, .ref a, .ref b] ∧ RowsAt H a T ∧ RowsAt H b F ∧ Four4 T ∧ Four4 F ∧ F.length ≤ 100 ∧ webV n la T F = some (i, w) ∧ Refuse CB H E i w
section
variable {P : Program} {w : World} {K : PySem.W.Frag} {mg : Str → Option Value} {base : Heap}
theorem ok_initBad {f C CB fS fT fF : Addr} {fd fdS fdT fdF : FuncData} (F : Fun K "__init__" "Web.__init__" sC_Web_init f fd)
    (FS : Fn K mg "look_over_size" sP_look_over_size ["many", "last"] fS fdS) (GS : FnOk P w K mg base (CX1 P w) 3 fS fdS ["many", "last"] (spSizeX CB))
    (FT : Fn K mg "look_over_ties" sP_look_over_ties ["many", "ties"] fT fdT) (GT : FnOk P w K mg base (CX1 P w) 3 fT fdT ["many", "ties"] (spTiesX CB))
    (FF : Fn K mg "look_over_falls" sP_look_over_falls ["many", "falls"] fF fdF) (GF : FnOk P w K mg base (CX1 P w) 3 fF fdF ["many", "falls"] (spFallsX CB)) :
    FnOk P w K mg base (CX1 P w) 4 f fd ["self", "many", "last", "ties", "falls"] (spInitBad C CB) := by
  refine F.ok1 scI (fun vs H Q E h => ?_) (fun cdv A outer s H vs Q E hr h => ?_)
  · obtain ⟨p, n, la, a, b, _, _, _, _, rfl, _⟩ := h
    rfl
  · obtain ⟨p, n, la, a, b, rT, rF, i, w', rfl, RT, RF, h4T, h4F, hFl, hV, ke⟩ := h
    refine ⟨_, pss_cons (ps_expr (pe_call GS hr rfl FS.g FS.F.kp FS.b .nil (pass1 (E := E) fun _ _ _ z => z) (pa_cons (pv 1) (pa_cons (pv 2) pa_nil))))
      (pss_cons (ps_expr (pe_call GT hr rfl FT.g FT.F.kp FT.b .nil (pass1 (E := E) fun _ _ _ z => z) (pa_cons (pv 1) (pa_cons (pv 3) pa_nil))))
      (pss_cons (ps_expr (pe_call GF hr rfl FF.g FF.F.kp FF.b .nil (pass1 (E := E) fun _ _ _ z => z) (pa_cons (pv 1) (pa_cons (pv 4) pa_nil)))) pss_never)), ?_⟩
    unfold webV at hV
    refine ⟨_, rfl, _, rfl, n, la, rfl, fun e1 => ?_, fun w1 e1 => ?_⟩
    · rw [e1] at hV
      refine ⟨_, rfl, _, rfl, n, a, rT, rfl, RT, h4T, fun e2 => ?_, fun i2 w2 e2 => ?_⟩
      · rw [e2] at hV
        refine ⟨_, rfl, _, rfl, n, b, rF, rfl, RF, h4F, hFl, fun e3 => ?_, fun i3 w3 e3 => ?_⟩
        · rw [e3] at hV
          cases hV
        · rw [e3] at hV
          cases hV
          exact ke
      · rw [e2] at hV
        cases hV
        exact ke
    · rw [e1] at hV
      cases hV
      exact ke
end
end W

namespace L2
theorem lenS {α : Type} {n : Nat} : ∀ {us : List α}, us.length = n + 1 → ∃ a t, us = a :: t ∧ t.length = n
  | a :: t, h => ⟨a, t, rfl, Nat.succ.inj h⟩
theorem len1 {α : Type} (us : List α) (h : us.length = 1) : ∃ a, us = [a] := by
  obtain ⟨a, t0, rfl, h0⟩ := lenS h
  obtain rfl := List.eq_nil_of_length_eq_zero h0
  exact ⟨a, rfl⟩
theorem len2 {α : Type} (us : List α) (h : us.length = 2) : ∃ a b, us = [a, b] := by
  obtain ⟨a, t0, rfl, h0⟩ := lenS h
  obtain ⟨b, t1, rfl, h1⟩ := lenS h0
  obtain rfl := List.eq_nil_of_length_eq_zero h1
  exact ⟨a, b, rfl⟩
theorem len3 {α : Type} (us : List α) (h : us.length = 3) : ∃ a b c, us = [a, b, c] := by
  obtain ⟨a, t0, rfl, h0⟩ := lenS h
  obtain ⟨b, t1, rfl, h1⟩ := lenS h0
  obtain ⟨c, t2, rfl, h2⟩ := lenS h1
  obtain rfl := List.eq_nil_of_length_eq_zero h2
  exact ⟨a, b, c, rfl⟩
theorem len4 {α : Type} (us : List α) (h : us.length = 4) : ∃ a b c d, us = [a, b, c, d] := by
  obtain ⟨a, t0, rfl, h0⟩ := lenS h
  obtain ⟨b, t1, rfl, h1⟩ := lenS h0
  obtain ⟨c, t2, rfl, h2⟩ := lenS h1
  obtain ⟨d, t3, rfl, h3⟩ := lenS h2
  obtain rfl := List.eq_nil_of_length_eq_zero h3
  exact ⟨a, b, c, d, rfl⟩
theorem len5 {α : Type} (us : List α) (h : us.length = 5) : ∃ a b c d e, us = [a, b, c, d, e] := by
  obtain ⟨a, t0, rfl, h0⟩ := lenS h
  obtain ⟨b, t1, rfl, h1⟩ := lenS h0
  obtain ⟨c, t2, rfl, h2⟩ := lenS h1
  obtain ⟨d, t3, rfl, h3⟩ := lenS h2
  obtain ⟨e, t4, rfl, h4⟩ := lenS h3
  obtain rfl := List.eq_nil_of_length_eq_zero h4
  exact ⟨a, b, c, d, e, rfl⟩
end L2

set_option Elab.async false
set_option linter.all false
set_option maxRecDepth 100000
set_option maxHeartbeats 4000000
namespace W
open PySem L2
/-! texts that cannot be read -/
structure TxtT1 (K : PySem.W.Frag) (mg : Str → Option Value) (C Mo fI : Addr) : Prop where
  ex : ExcC K C Mo fI
  ba : BaseK K Mo
  mo : mg "MomentError" = some (.ref Mo)
  nR : PySem.W.findIn K (.ref C) "row" = some none
  mgC : mg "BadText" = some (.ref C)
structure TxtN (mg : Str → Option Value) : Prop where
  fig : ∃ t, mg "FIGURES" = some (.str "0123456789" t)
  mf : ∃ t, mg "MOST_FIGURES" = some (.int 3 t)
  all : mg "all" = none
  len : mg "len" = none
  tuple : mg "tuple" = none
  int : mg "int" = none
  range : mg "range" = none
noncomputable abbrev rowF (i : Int) : List (Str × V) := [("row", .int i)]
noncomputable def spBadT (C : Addr) : Sp := fun vs H Q _ => ∃ x i, vs = [.ref x, .int i] ∧ H x = some (excE x C none) ∧
  ∀ d H', H d = none → H' x = some (excE x C (some d)) → H' d = some (excD d (rowF i)) → Keep x H H' → Q .non H'
noncomputable def RefuseT (CT : Addr) (H : Hp) (E : XK) (i : Int) : Prop := ∀ d H', H d = none → Same H H' → H' d = some (excD d (rowF i)) → E (.ref CT) (some d) H'
theorem RefuseT.same {CT : Addr} {H H1 : Hp} {E : XK} {i : Int} (r : RefuseT CT H E i) (s : Same H H1) : RefuseT CT H1 E i := fun d H' hd s' e => r d H' (s.free hd) (s.trans s') e
noncomputable abbrev FIG : Str := "0123456789"
noncomputable def figsOf (z : Str) : Str := if Txt.startswith z "-" = true then tail1 z else z
noncomputable def isFig (c : Nat) : Bool := !(Builtin.Str.occurrences FIG ⟨#[c]⟩ 0 FIG.length 1).isEmpty
noncomputable def isNum (z : Str) : Bool := decide (1 ≤ (figsOf z).length ∧ (figsOf z).length ≤ 3) && (figsOf z).cps.toList.all isFig && (decide (z = "0") || !decide ((⟨#[(figsOf z).cps.getD 0 0]⟩ : Str) = "0"))
noncomputable def okW (z : Str) : Bool := decide (z.length ≤ 20) && decide ((figsOf z).length ≤ 20) && (figsOf z).cps.all (· < 128) && decide ((tail1 z).length ≤ 20)
noncomputable def spIsNum : Sp := fun vs H Q _ => ∃ z : Str, vs = [.str z] ∧ okW z = true ∧ ∀ H', Same H H' → Q (.bl (isNum z)) H'
section
variable {P : Program} {w : World} {K : PySem.W.Frag} {mg : Str → Option Value} {base : Heap}
theorem scBT : FnScope ["self", "row"] ["self", "row"] (defScope sC_BadText_init) := ⟨rfl, rfl, rfl, by decide +kernel, rfl, by decide +kernel, by decide +kernel⟩
theorem ok_badT {C Mo fI : Addr} {fd : FuncData} (F : Fun K "__init__" "BadText.__init__" sC_BadText_init fI fd) (T : TxtT1 K mg C Mo fI) : FnOk P w K mg base CX0 1 fI fd ["self", "row"] (spBadT C) := by
  refine F.ok scBT (fun vs H Q E h => ?_) (fun cdv A outer s H vs Q E hr h => ?_)
  · obtain ⟨x, i, rfl, _⟩ := h
    rfl
  · obtain ⟨x, i, rfl, hx, k⟩ := h
    refine ⟨_, pss_cons (ps_expr (pe_base T.ba rfl T.mo (pa_cons (pv 0) (pa_cons (pv 1) pa_nil)))) (pss_one (ps_fldE (pv 0) (pv 1) rfl)), ?_⟩
    refine ⟨_, rfl, _, rfl, x, _, C, Mo, fI, none, rfl, hx, T.ex, by show 1 ≤ sizeLine; decide, ?_⟩
    refine ⟨_, rfl, _, rfl, x, C, Mo, fI, rfl, hx, T.ex, T.nR, fun d hd hdx => ?_⟩
    refine k d _ hd ?_ upd_same fun b o e ne => ?_
    · rw [upd_ne (Ne.symm hdx), upd_same]
    · rw [upd_ne (ne_of_none e hd), upd_ne ne]
      exact e
theorem raisedT {CT Mo fI : Addr} {H H1 : Hp} {E : XK} {i : Int} (T : TxtT1 K mg CT Mo fI) (r : RefuseT CT H E i) (s : Same H H1) :
    [V.int i].length ≤ sizeLine ∧ ∀ x, H1 x = none → spBadT CT (.ref x :: [V.int i]) (upd H1 x (excE x CT none)) (fun v H2 => v = .non ∧ ∃ a C Mo f dx, V.ref x = .ref a ∧ H2 a = some (excE a C dx) ∧ ExcC K C Mo f ∧ H a = none ∧ E (.ref C) dx (forget H2 a)) E0 := by
  refine ⟨by show 1 ≤ sizeLine; decide, fun x hx => ⟨x, i, rfl, upd_same, fun d H2 hd ex ed kp => ⟨rfl, x, CT, Mo, fI, some d, rfl, ex, T.ex, s.free hx, ?_⟩⟩⟩
  have dx : d ≠ x := Ne.symm (ne_of_none upd_same hd)
  have s1 := s.trans (same_new (o := excE x CT none) hx)
  refine r d _ (s1.free hd) (fun b o e => ?_) (by rw [forget_ne dx]; exact ed)
  have bx : b ≠ x := ne_of_none (s _ _ e) hx
  rw [forget_ne bx]
  exact kp _ _ (s1 _ _ e) bx
/-! ### is it a number -/
theorem scIn : FnScope ["word", "figures"] ["word"] (defScope sP_is_number) := ⟨rfl, rfl, rfl, by decide +kernel, rfl, by decide +kernel, by decide +kernel⟩
theorem coIn : CompOk (defScope sP_is_number) ["word", "figures"] (fsc [(".0", .local), ("sign", .local), ("FIGURES", .globalImplicit)]) ["sign"] [none] := ⟨rfl, by decide +kernel, by decide +kernel, by decide +kernel, rfl, by decide +kernel⟩
theorem ndIn : (["sign"] : List Str).Nodup := by decide +kernel
theorem ok_isnum {f : Addr} {fd : FuncData} (F : Fn K mg "is_number" sP_is_number ["word"] f fd) (T : TxtN mg) : FnOk P w K mg base CX0 1 f fd ["word"] spIsNum := by
  obtain ⟨t1, m1⟩ := T.fig
  obtain ⟨t2, m2⟩ := T.mf
  refine F.F.ok scIn (fun vs H Q E h => ?_) (fun cdv A outer s H vs Q E hr h => ?_)
  · obtain ⟨z, rfl, _⟩ := h
    rfl
  · obtain ⟨z, rfl, hz, k⟩ := h
    refine ⟨_, pss_consA (ps_set (i := 1) scIn.nd rfl (Or.inl rfl) (pe_ifExp (pt_val (pe_bm PySem.F.plainAttrs_str PySem.F.slot_str_startswith PySem.F.type_str_startswith mt_starts (pv 0) (pa_cons pe_str pa_nil))) (pe_slice sl_str1 (pv 0) (po_some pe_int) po_none) (pv 0)))
      (pss_consA (ps_if (pt_not (pt_chain op_le op_le pe_int (pe_callB call_len_str (by rfl) T.len PySem.boot_len (pa_cons (pv 1) pa_nil)) (pe_glob (v := .int 3) rfl m2 ⟨_, rfl⟩))) (pss_one (ps_ret pe_bl)) pss_nil)
      (pss_consA (ps_if (pt_not (pt_val (pe_callB (call_allL rfl) (by rfl) T.all (by decide +kernel) (pa_cons (pe_comp rfl (pi_str (pv 1)) coIn (fun cl ex s0 H0 => ⟨pg_name (i := 0) ndIn rfl (Or.inl rfl), pif_none, pe_cmpR op_in_str (pv 0) (pe_glob (v := .str FIG) rfl m1 ⟨_, rfl⟩) (by with_unfolding_all rfl)⟩)) pa_nil)))) (pss_one (ps_ret pe_bl)) pss_nil)
      (pss_one (ps_ret (pe_or (pe_cmpR op_eq (pv 0) pe_str (nomark _)) (pe_one (pe_cmpR op_ne (pe_ix ix_str (pv 1) pe_int (fun _ _ => rfl)) pe_str (nomark _)))))))), ?_⟩
    unfold okW at hz
    simp only [Bool.and_eq_true, decide_eq_true_eq] at hz
    obtain ⟨⟨⟨z1, z2⟩, z3⟩, z4⟩ := hz
    have lz : ∀ {n : Nat}, n ≤ 20 → n ≤ sizeLine := fun h => Nat.le_trans h (by decide)
    refine fun N1 c1 => ⟨_, rfl, rfl, z, "-", rfl, rfl, _, rfl, ?_⟩
    have fin : N1 (((L2.start ["word", "figures"] [V.str z]).set 1 (some (.str (figsOf z))))) H := c1 _ _ ?_
    · refine ite2 (fun hc => ?_) (fun hc => ?_)
      · refine ⟨_, rfl, _, rfl, z, rfl, rfl, rfl, lz z4, ?_⟩
        have e : figsOf z = tail1 z := if_pos hc
        rw [e] at fin
        exact fin
      · refine ⟨_, rfl, ?_⟩
        have e : figsOf z = z := if_neg hc
        rw [e] at fin
        exact fin
    generalize hg : figsOf z = g at *
    refine fun N2 c2 => ⟨_, rfl, g, rfl, lz z2, _, _, rfl, rfl, _, rfl, ?_⟩
    have nm : isNum z = (decide (1 ≤ g.length ∧ g.length ≤ 3) && g.cps.toList.all isFig && (decide (z = "0") || !decide ((⟨#[g.cps.getD 0 0]⟩ : Str) = "0"))) := by
      unfold isNum
      rw [hg]
    by_cases l1 : 1 ≤ g.length
    · refine iteD (by omega) ⟨_, _, rfl, rfl, _, rfl, ?_⟩
      by_cases l3 : g.length ≤ 3
      · refine iteNS (by omega) (c2 _ _ ?_)
        refine fun N3 c3 => ⟨_, rfl, g, rfl, z3, fun Da hDa => ?_⟩
        refine comp_str (z := g) (fun j σ' H' => ∃ v, σ' = [v] ∧ H' Da = some (.lst (((g.cps.toList.take j).map isFig).map V.bl)) ∧ Same H H') ⟨none, rfl, upd_same, same_new hDa⟩ ?_ ?_
        · rintro j c σ' H2 hx ⟨v, rfl, e2, s2⟩
          refine ⟨_, rfl, _, _, rfl, rfl, _, e2, ?_, _, rfl, ?_, fun b o e => ?_⟩
          · have hgl : g.cps.toList.length = g.length := Array.length_toList
            rw [List.length_map, List.length_map, List.length_take]
            exact small1000 (by omega)
          · have hx' : g.cps.toList[j]? = some c := by rw [Array.getElem?_toList]; exact hx
            rw [upd_same, List.take_succ, hx', List.map_append, List.map_append]
            rfl
          · rw [upd_ne (ne_of_none e hDa)]
            exact s2 _ _ e
        rintro σ' H2 ⟨v, rfl, e2, s2⟩
        have hall : g.cps.toList.take g.cps.size = g.cps.toList := List.take_of_length_le (by simp)
        rw [hall] at e2
        refine ⟨Da, _, rfl, e2, _, rfl, ?_⟩
        rw [List.all_map]
        cases hb : g.cps.toList.all isFig with
        | false =>
          have : (g.cps.toList.all (id ∘ isFig)) = false := hb
          rw [this]
          refine iteT (bl_of (k _ s2) ?_)
          rw [nm, hb]
          simp
        | true =>
          have : (g.cps.toList.all (id ∘ isFig)) = true := hb
          rw [this]
          refine iteF (c3 _ _ ?_)
          have at0 : atI g.cps.toList 0 = some (g.cps.getD 0 0) := by
            have : 0 < g.cps.size := l1
            refine atI_nat (j := 0) ?_
            rw [Array.getElem?_toList, Array.getD_eq_getD_getElem?, Array.getElem?_eq_getElem this]
            rfl
          refine ⟨_, rfl, rfl, _, rfl, ?_⟩
          by_cases c0 : z = "0"
          · refine iteBT (by rw [c0]; exact decide_eq_true rfl) (bl_of (k _ s2) ?_)
            rw [nm, hb, decide_eq_true c0, decide_eq_true (⟨l1, l3⟩ : 1 ≤ g.length ∧ g.length ≤ 3)]
            rfl
          · refine iteB (decide_eq_false fun q => c0 (V.str.inj q)) ⟨_, rfl, g, 0, _, rfl, rfl, lz z2, at0, rfl, bl_of (k _ s2) ?_⟩
            rw [nm, hb, decide_eq_false c0, decide_eq_true (⟨l1, l3⟩ : 1 ≤ g.length ∧ g.length ≤ 3)]
            have : decide (V.str ⟨#[g.cps.getD 0 0]⟩ = V.str "0") = decide ((⟨#[g.cps.getD 0 0]⟩ : Str) = "0") := decide_eq_decide.mpr ⟨fun q => V.str.inj q, fun q => by rw [q]⟩
            rw [this]
            simp
      · refine iteNP (by omega) (bl_of (k _ (Same.refl _)) ?_)
        rw [nm, decide_eq_false fun q : 1 ≤ g.length ∧ g.length ≤ 3 => l3 q.2]
        rfl
    · refine iteDN (by omega) ⟨_, rfl, iteBT rfl (bl_of (k _ (Same.refl _)) ?_)⟩
      rw [nm, decide_eq_false fun q : 1 ≤ g.length ∧ g.length ≤ 3 => l1 q.1]
      rfl
end
end W

set_option Elab.async false
set_option linter.all false
set_option maxRecDepth 100000
set_option maxHeartbeats 4000000
namespace W
open PySem L2
/-! numbers as they are written -/
noncomputable abbrev numT (n : Int) : Str := Str.ofString (toString n)
noncomputable def numC (n : Int) : Str := ⟨((if n < 0 then [45] else []) ++ (Nat.toDigits 10 n.natAbs).map Char.toNat).toArray⟩
theorem str_ext {x y : Str} (h : x.cps.toList = y.cps.toList) : x = y := by
  cases x with
  | mk a =>
    cases y with
    | mk b =>
      have : a = b := Array.toList_inj.mp h
      rw [this]
theorem numT_eq (n : Int) : numT n = numC n := by
  refine str_ext ?_
  cases n with
  | ofNat m =>
    have h := PySem.W.KIN.signs_num m
    have e : (Int.ofNat m) = ((m : Nat) : Int) := rfl
    unfold numC
    rw [e, h, if_neg (by omega)]
    rfl
  | negSucc m =>
    unfold numC
    rw [PyProof.Rows.signs_ofString, if_pos (Int.negSucc_lt_zero m)]
    show (("-" : String) ++ Nat.repr (m + 1)).toList.map Char.toNat = _
    rw [String.toList_append, Nat.toList_repr, List.map_append]
    rfl
theorem num_all : (List.range 181).all (fun k => isNum (numC ((k : Int) - 60)) && okW (numC ((k : Int) - 60)) && decide (PySem.intText? (numC ((k : Int) - 60)) = some ((k : Int) - 60)) && (numC ((k : Int) - 60)).cps.toList.all fun c => decide (c ≠ 32 ∧ c ≠ 10)) = true := by decide +kernel
theorem num_ok {n : Int} (h1 : -60 ≤ n) (h2 : n ≤ 120) : isNum (numT n) = true ∧ okW (numT n) = true ∧ PySem.intText? (numT n) = some n ∧ ∀ c ∈ (numT n).cps.toList, c ≠ 32 ∧ c ≠ 10 := by
  have h := List.all_eq_true.mp num_all (n + 60).toNat (List.mem_range.mpr (by omega))
  have e : (((n + 60).toNat : Nat) : Int) - 60 = n := by omega
  rw [e] at h
  simp only [Bool.and_eq_true, decide_eq_true_eq] at h
  rw [numT_eq]
  exact ⟨h.1.1.1, h.1.1.2, h.1.2, fun c hc => of_decide_eq_true (List.all_eq_true.mp h.2 c hc)⟩
theorem okW_len {z : Str} (h : okW z = true) : z.length ≤ 20 := by
  unfold okW at h
  simp only [Bool.and_eq_true, decide_eq_true_eq] at h
  exact h.1.1.1
noncomputable def InR (n : Int) : Prop := -60 ≤ n ∧ n ≤ 120
noncomputable def spNums (CT : Addr) : Sp := fun vs H Q E => ∃ (wl : Addr) (i : Int) (ws : List Str), vs = [.ref wl, .int i] ∧ H wl = some (.lst (ws.map V.str)) ∧ ws.length ≤ 100 ∧ (∀ x ∈ ws, okW x = true) ∧ (ws.all isNum = false → RefuseT CT H E i) ∧
  (ws.all isNum = true → ∃ ns : List Int, ws = ns.map numT ∧ (∀ n ∈ ns, InR n) ∧ ∀ p H', H p = none → Same H H' → H' p = some (.tup (ns.map V.int)) → Q (.ref p) H')
section
variable {P : Program} {w : World} {K : PySem.W.Frag} {mg : Str → Option Value} {base : Heap}
theorem scNo : FnScope ["words", "at"] ["words", "at"] (defScope sP_numbers_of) := ⟨rfl, rfl, rfl, by decide +kernel, rfl, by decide +kernel, by decide +kernel⟩
theorem coNa : CompOk (defScope sP_numbers_of) ["words", "at"] (fsc [(".0", .local), ("word", .local), ("is_number", .globalImplicit)]) ["word"] [none] := ⟨rfl, by decide +kernel, by decide +kernel, by decide +kernel, rfl, by decide +kernel⟩
theorem coNb : CompOk (defScope sP_numbers_of) ["words", "at"] (fsc [(".0", .local), ("word", .local), ("int", .globalImplicit)]) ["word"] [none] := ⟨rfl, by decide +kernel, by decide +kernel, by decide +kernel, rfl, by decide +kernel⟩
theorem ndNo : (["word"] : List Str).Nodup := by decide +kernel
theorem ok_nums {f fI CT Mo fB : Addr} {fd fdI fdB : FuncData} (F : Fn K mg "numbers_of" sP_numbers_of ["words", "at"] f fd) (T : TxtN mg) (TT : TxtT1 K mg CT Mo fB) (bB : Binds K fdB ["self", "row"] []) (GB : FnOk P w K mg base CX0 1 fB fdB ["self", "row"] (spBadT CT))
    (FI : Fn K mg "is_number" sP_is_number ["word"] fI fdI) (GI : FnOk P w K mg base CX0 1 fI fdI ["word"] spIsNum) : FnOk P w K mg base (CX1 P w) 3 f fd ["words", "at"] (spNums CT) := by
  refine F.F.ok1 scNo (fun vs H Q E h => ?_) (fun cdv A outer s H vs Q E hr h => ?_)
  · obtain ⟨_, _, _, rfl, _⟩ := h
    rfl
  · obtain ⟨wl, i, ws, rfl, hw, hl, hok, ke, kq⟩ := h
    have hr1 : Room 1 _ := hr.mono (by decide)
    refine ⟨_, pss_consA (ps_if (pt_not (pt_val (PE.nox (pe_callB (call_allL rfl) (by rfl) T.all (by decide +kernel) (pa_cons (pe_comp rfl (pi_list (pv 0)) coNa (fun cl ex s0 H0 => ⟨pg_name (i := 0) ndNo rfl (Or.inl rfl), pif_none, pe_call GI hr1 rfl FI.g FI.F.kp FI.b .nil pass0 (pa_cons (pv 0) pa_nil)⟩)) pa_nil)))))
        (pss_one (ps_raise (pe_makeE TT.ex GB hr rfl TT.mgC bB pass0 (pa_cons (pv 1) pa_nil)))) pss_nil)
      (pss_one (ps_ret (PE.nox (pe_callTy call_tuple_of (by rfl) T.tuple (by decide +kernel) (pa_cons (pe_comp rfl (pi_list (pv 0)) coNb (fun cl ex s0 H0 => ⟨pg_name (i := 0) ndNo rfl (Or.inl rfl), pif_none, pe_callTy call_int_text (by rfl) T.int (by decide +kernel) (pa_cons (pv 0) pa_nil)⟩)) pa_nil))))), ?_⟩
    refine fun N1 c1 => ⟨_, rfl, wl, rfl, ⟨_, SqL.of hw⟩, fun Da hDa => ?_⟩
    refine comp_list (xs := ws.map V.str) (fun j σ' H' => ∃ v, σ' = [v] ∧ H' Da = some (.lst (((ws.take j).map isNum).map V.bl)) ∧ Same H H') ⟨none, rfl, upd_same, same_new hDa⟩ ?_ ?_ ?_
    · rintro j σ' H2 _ ⟨v, rfl, _, s2⟩
      exact SqL.of (s2 _ _ hw)
    · rintro j x σ' H2 hx ⟨v, rfl, e2, s2⟩
      rw [List.getElem?_map] at hx
      cases q : ws[j]? with
      | none => rw [q] at hx; cases hx
      | some z =>
        rw [q] at hx
        cases hx
        refine ⟨_, rfl, z, rfl, hok z (List.mem_of_getElem? q), fun H3 s3 => ⟨_, s3 _ _ e2, ?_, _, rfl, ?_, fun b o e => ?_⟩⟩
        · rw [List.length_map, List.length_map, List.length_take]
          exact small1000 (by omega)
        · rw [upd_same, List.take_succ, q, List.map_append, List.map_append]
          rfl
        · rw [upd_ne (ne_of_none e hDa)]
          exact s3 _ _ (s2 _ _ e)
    rintro σ' H2 ⟨v, rfl, e2, s2⟩
    have hall : ws.take (ws.map V.str).length = ws := by rw [List.length_map]; exact List.take_length
    rw [hall] at e2
    refine ⟨Da, _, rfl, e2, _, rfl, ?_⟩
    rw [List.all_map]
    cases hb : ws.all isNum with
    | false =>
      have : ws.all (id ∘ isNum) = false := hb
      rw [this]
      exact iteT ⟨_, rfl, raisedT TT (ke hb) s2⟩
    | true =>
      have : ws.all (id ∘ isNum) = true := hb
      rw [this]
      refine iteF (c1 _ _ ?_)
      obtain ⟨ns, rfl, hns, kp⟩ := kq hb
      have hw2 := s2 _ _ hw
      refine ⟨_, rfl, wl, rfl, ⟨_, SqL.of hw2⟩, fun Db hDb => ?_⟩
      refine comp_list (xs := (ns.map numT).map V.str) (fun j σ' H' => ∃ v, σ' = [v] ∧ H' Db = some (.lst ((ns.take j).map V.int)) ∧ Same H2 H') ⟨none, rfl, upd_same, same_new hDb⟩ ?_ ?_ ?_
      · rintro j σ' H3 _ ⟨v, rfl, _, s3⟩
        exact SqL.of (s3 _ _ hw2)
      · rintro j x σ' H3 hx ⟨v, rfl, e3, s3⟩
        rw [List.getElem?_map, List.getElem?_map] at hx
        cases q : ns[j]? with
        | none => rw [q] at hx; cases hx
        | some n =>
          rw [q] at hx
          cases hx
          obtain ⟨b1, b2⟩ := hns n (List.mem_of_getElem? q)
          have ok := num_ok b1 b2
          refine ⟨_, rfl, _, n, rfl, ok.2.2.1, Nat.le_trans (okW_len ok.2.1) (by decide), _, e3, ?_, _, rfl, ?_, fun b o e => ?_⟩
          · rw [List.length_map, List.length_take]
            rw [List.length_map] at hl
            exact small1000 (by omega)
          · rw [upd_same, List.take_succ, q, List.map_append]
            rfl
          · rw [upd_ne (ne_of_none e hDb)]
            exact s3 _ _ e
      rintro σ' H3 ⟨v, rfl, e3, s3⟩
      have hall : ns.take ((ns.map numT).map V.str).length = ns := by rw [List.length_map, List.length_map]; exact List.take_length
      rw [hall] at e3
      refine ⟨Db, _, rfl, .inl ⟨SqL.of e3, fun l hl => ?_⟩⟩
      exact kp l _ (s2.free (s3.free hl)) ((s2.trans s3).trans (same_new hl)) upd_same
end
end W

set_option Elab.async false
set_option linter.all false
set_option maxRecDepth 100000
set_option maxHeartbeats 4000000
namespace L2
open PySem PySem.Spec PyProof.Rows
section
variable {P : Program} {w : World} {K : PySem.W.Frag} {mg : Str → Option Value} {base : Heap} {N : List Str} {qual : Str} {scope : Scope} {f : Addr} {cd : Value} {A : Around} {outer : List Env} {s : Shared} {H : Hp} {EX : XK}
theorem passF {E : XK} (h : ∀ C dx H', E C dx H' → EX C dx H') : Passes (CX1 P w) (flyCx P w K mg base N qual scope f cd A outer s H EX) E := by
  intro pins σ H1 s1 e s' I hx
  obtain ⟨a, C, dx, H', rfl, os, bare, un, hok, fl, hE⟩ := hx
  have I' := (I.call' (s' := s') (ch := []) os un hok bare (fun b z => absurd z (by simp))).unwish
  exact ⟨a, C, dx, H', rfl, I'.os, I'.bare, I'.base, I'.hok, I'.stkFree, h _ _ _ hE, .inl ⟨fl.back fun b o e => I.base.there b o e (by intro z; exact absurd (show b ∈ ([] : List Addr) from z) (by simp)), I'.ok.frames, I'.stack⟩⟩
end
theorem FnOk.cx {P : Program} {w : World} {K : PySem.W.Frag} {mg : Str → Option Value} {base : Heap} {CX : CXT} {k : Nat} {f : Addr} {fd : FuncData} {ps : List Str} {sp : Sp} (F : FnOk P w K mg base CX0 k f fd ps sp) : FnOk P w K mg base CX k f fd ps sp :=
  ⟨F.len, fun A outer s H args us vs Q E hr he hb hv hs => codeAny_mono (F.run A outer s H args us vs Q E hr he hb hv hs) fun r s' h => by
    cases r with
    | error e => exact False.elim h
    | ok fl => cases fl <;> exact h⟩
theorem FnOk.or {P : Program} {w : World} {K : PySem.W.Frag} {mg : Str → Option Value} {base : Heap} {CX : CXT} {k : Nat} {f : Addr} {fd : FuncData} {ps : List Str} {sp sp' : Sp} (F : FnOk P w K mg base CX k f fd ps sp) (G : FnOk P w K mg base CX k f fd ps sp') :
    FnOk P w K mg base CX k f fd ps (fun vs H Q E => sp vs H Q E ∨ sp' vs H Q E) :=
  ⟨fun vs H Q E h => h.elim (F.len vs H Q E) (G.len vs H Q E), fun A outer s H args us vs Q E hr he hb hv hs => hs.elim (F.run A outer s H args us vs Q E hr he hb hv) (G.run A outer s H args us vs Q E hr he hb hv)⟩
end L2
namespace W
open PySem L2
/-! rows of a text -/
noncomputable def sizeHead (ws : List Str) : Bool := decide (ws.length = 4) && decide (ws.getD 0 "" = "moments") && decide (ws.getD 2 "" = "last")
noncomputable def sizeGood (ws : List Str) : Bool := sizeHead ws && (isNum (ws.getD 1 "") && isNum (ws.getD 3 ""))
noncomputable def spanGood (ws : List Str) : Bool := decide (ws.length = 5) && (ws.drop 1).all isNum
noncomputable abbrev blank : Str := " "
noncomputable def spRSize (CT : Addr) : Sp := fun vs H Q E => ∃ row : Str, vs = [.str row] ∧ row.length ≤ 1000 ∧ (∀ x ∈ Txt.split row blank, okW x = true) ∧ (sizeGood (Txt.split row blank) = false → RefuseT CT H E 0) ∧
  (sizeGood (Txt.split row blank) = true → ∃ n la : Int, Txt.split row blank = [("moments" : Str), numT n, ("last" : Str), numT la] ∧ InR n ∧ InR la ∧ ∀ p H', H p = none → Same H H' → H' p = some (.tup [.int n, .int la]) → Q (.ref p) H')
noncomputable def spRSpan (CT : Addr) : Sp := fun vs H Q E => ∃ (row : Str) (i : Int), vs = [.str row, .int i] ∧ row.length ≤ 1000 ∧ (∀ x ∈ Txt.split row blank, okW x = true) ∧ (spanGood (Txt.split row blank) = false → RefuseT CT H E i) ∧
  (spanGood (Txt.split row blank) = true → ∃ (k : Str) (r : List Int), Txt.split row blank = k :: r.map numT ∧ r.length = 4 ∧ (∀ n ∈ r, InR n) ∧ ∀ p H', H p = none → Same H H' → H' p = some (.tup (r.map V.int)) → Q (.ref p) H')
section
variable {P : Program} {w : World} {K : PySem.W.Frag} {mg : Str → Option Value} {base : Heap}
theorem scRz : FnScope ["row", "words"] ["row"] (defScope sP_read_size) := ⟨rfl, rfl, rfl, by decide +kernel, rfl, by decide +kernel, by decide +kernel⟩
theorem scRp : FnScope ["row", "at", "words"] ["row", "at"] (defScope sP_read_span) := ⟨rfl, rfl, rfl, by decide +kernel, rfl, by decide +kernel, by decide +kernel⟩
theorem ok_rspan {f fN CT Mo fB : Addr} {fd fdN fdB : FuncData} (F : Fn K mg "read_span" sP_read_span ["row", "at"] f fd) (T : TxtN mg) (TT : TxtT1 K mg CT Mo fB) (bB : Binds K fdB ["self", "row"] []) (GB : FnOk P w K mg base CX0 1 fB fdB ["self", "row"] (spBadT CT))
    (FN : Fn K mg "numbers_of" sP_numbers_of ["words", "at"] fN fdN) (GN : FnOk P w K mg base (CX1 P w) 3 fN fdN ["words", "at"] (spNums CT)) : FnOk P w K mg base (CX1 P w) 4 f fd ["row", "at"] (spRSpan CT) := by
  refine F.F.ok1 scRp (fun vs H Q E h => ?_) (fun cdv A outer s H vs Q E hr h => ?_)
  · obtain ⟨_, _, rfl, _⟩ := h
    rfl
  · obtain ⟨row, i, rfl, hl, hok, ke, kq⟩ := h
    have hr2 : Room 2 _ := hr.mono (by decide)
    refine ⟨_, pss_consA (ps_set (i := 2) scRp.nd rfl (Or.inl rfl) (pe_bm PySem.F.plainAttrs_str PySem.F.slot_str_split PySem.F.type_str_split mt_split (pv 0) (pa_cons pe_str pa_nil)))
      (pss_consA (ps_if (pt_cmpR op_ne (pe_callB call_len_seq (by rfl) T.len PySem.boot_len (pa_cons (pv 2) pa_nil)) pe_int (nomark _)) (pss_one (ps_raise (pe_makeE TT.ex GB hr2 rfl TT.mgC bB pass0 (pa_cons (pv 1) pa_nil)))) pss_nil)
      (pss_one (ps_ret (pe_call GN hr rfl FN.g FN.F.kp FN.b .nil (pass1 (E := E) fun _ _ _ z => z) (pa_cons (pe_slice sl_list (pv 2) (po_some pe_int) po_none) (pa_cons (pv 1) pa_nil)))))), ?_⟩
    generalize hws : Txt.split row blank = ws at *
    refine fun N1 c1 => ⟨_, rfl, rfl, row, blank, rfl, rfl, rfl, by omega, fun l hl' => c1 _ _ ?_⟩
    rw [hws]
    have s1 := same_new (o := .lst (ws.map V.str)) hl'
    have e1 : upd H l (.lst (ws.map V.str)) l = some (.lst (ws.map V.str)) := upd_same
    have hl0 := hl'
    generalize upd H l (.lst (ws.map V.str)) = H1 at *
    refine fun N2 c2 => ⟨_, rfl, l, _, rfl, .inl (SqL.of e1), rfl, _, rfl, ?_⟩
    rw [List.length_map]
    by_cases c5 : ws.length = 5
    · refine iteB (by rw [c5]; rfl) (c2 _ _ ?_)
      refine ⟨_, rfl, _, rfl, l, _, rfl, SqL.of e1, fun sl hsl => ⟨_, rfl, ?_⟩⟩
      have cut : cutV (ws.map V.str) (some 1) none = (ws.drop 1).map V.str := by
        match ws, c5 with
        | [a, b, c, d, e], _ => rfl
      rw [cut]
      have s2 := s1.trans (same_new (o := .lst ((ws.drop 1).map V.str)) hsl)
      refine ⟨sl, i, ws.drop 1, rfl, upd_same, by rw [List.length_drop]; omega, fun x hx => hok x (List.mem_of_mem_drop hx), fun hb => (ke ?_).same s2, fun hb => ?_⟩
      · unfold spanGood
        rw [hb, Bool.and_false]
      · obtain ⟨k, r, e, hr4, hin, kk⟩ := kq (by unfold spanGood; rw [hb, decide_eq_true c5]; rfl)
        refine ⟨r, by rw [e]; rfl, hin, fun p H' hp s' ep => kk p H' (s2.free hp) (s2.trans s') ep⟩
    · refine iteBT (by simp; omega) ⟨_, rfl, raisedT TT (ke ?_) s1⟩
      unfold spanGood
      rw [decide_eq_false c5]
      rfl
theorem strD {a b : Str} : decide (V.str a = V.str b) = decide (a = b) := decide_eq_decide.mpr ⟨fun q => V.str.inj q, fun q => by rw [q]⟩
theorem ok_rsize {f fN CT Mo fB : Addr} {fd fdN fdB : FuncData} (F : Fn K mg "read_size" sP_read_size ["row"] f fd) (T : TxtN mg) (TT : TxtT1 K mg CT Mo fB) (bB : Binds K fdB ["self", "row"] []) (GB : FnOk P w K mg base CX0 1 fB fdB ["self", "row"] (spBadT CT))
    (FN : Fn K mg "numbers_of" sP_numbers_of ["words", "at"] fN fdN) (GN : FnOk P w K mg base (CX1 P w) 3 fN fdN ["words", "at"] (spNums CT)) : FnOk P w K mg base (CX1 P w) 4 f fd ["row"] (spRSize CT) := by
  refine F.F.ok1 scRz (fun vs H Q E h => ?_) (fun cdv A outer s H vs Q E hr h => ?_)
  · obtain ⟨_, rfl, _⟩ := h
    rfl
  · obtain ⟨row, rfl, hl, hok, ke, kq⟩ := h
    have hr2 : Room 2 _ := hr.mono (by decide)
    refine ⟨_, pss_consA (ps_set (i := 1) scRz.nd rfl (Or.inl rfl) (pe_bm PySem.F.plainAttrs_str PySem.F.slot_str_split PySem.F.type_str_split mt_split (pv 0) (pa_cons pe_str pa_nil)))
      (pss_consA (ps_if (PW.pt (pw_or (pt_cmpR op_ne (pe_callB call_len_seq (by rfl) T.len PySem.boot_len (pa_cons (pv 1) pa_nil)) pe_int (nomark _)) (pw_or (pt_cmpR op_ne (pe_ix ix_list0 (pv 1) pe_int (fun _ _ => rfl)) pe_str (nomark _)) (pw_or1 (pt_cmpR op_ne (pe_ix ix_list0 (pv 1) pe_int (fun _ _ => rfl)) pe_str (nomark _))))))
        (pss_one (ps_raise (pe_makeE TT.ex GB hr2 rfl TT.mgC bB pass0 (pa_cons pe_int pa_nil)))) pss_nil)
      (pss_one (ps_ret (pe_call GN hr rfl FN.g FN.F.kp FN.b .nil (pass1 (E := E) fun _ _ _ z => z) (pa_cons (pe_lst (pa_cons (pe_ix ix_list0 (pv 1) pe_int (fun _ _ => rfl)) (pa_cons (pe_ix ix_list0 (pv 1) pe_int (fun _ _ => rfl)) pa_nil))) (pa_cons pe_int pa_nil)))))), ?_⟩
    generalize hws : Txt.split row blank = ws at *
    refine fun N1 c1 => ⟨_, rfl, rfl, row, blank, rfl, rfl, rfl, by omega, fun l hl' => c1 _ _ ?_⟩
    rw [hws]
    have s1 := same_new (o := .lst (ws.map V.str)) hl'
    have e1 : upd H l (.lst (ws.map V.str)) l = some (.lst (ws.map V.str)) := upd_same
    generalize upd H l (.lst (ws.map V.str)) = H1 at *
    refine fun N2 c2 => ⟨_, rfl, l, _, rfl, .inl (SqL.of e1), rfl, _, rfl, ?_⟩
    rw [List.length_map]
    by_cases c4 : ws.length = 4
    · refine iteB (by rw [c4]; rfl) ?_
      obtain ⟨a, b, c, d, rfl⟩ := len4 ws c4
      have hd : sizeHead [a, b, c, d] = (decide (a = "moments") && decide (c = "last")) := rfl
      refine ⟨_, rfl, rdL e1 rfl ⟨rfl, _, rfl, ?_⟩⟩
      rw [strD]
      by_cases ca : a = "moments"
      · refine iteNS ca ⟨_, rfl, rdL e1 rfl ⟨rfl, _, rfl, ?_⟩⟩
        rw [strD]
        by_cases cc : c = "last"
        · refine iteNS cc (c2 _ _ ?_)
          refine ⟨_, rfl, rdL e1 rfl ⟨_, rfl, rdL e1 rfl ⟨by show 2 ≤ sizeLine; decide, fun p hp => ?_⟩⟩⟩
          have s2 := s1.trans (same_new (o := .lst [V.str b, V.str d]) hp)
          refine ⟨p, 0, [b, d], rfl, upd_same, (by show 2 ≤ 100; decide), fun x hx => hok x ?_, fun hb => (ke ?_).same s2, fun hb => ?_⟩
          · rcases List.mem_cons.mp hx with q | q
            · rw [q]; simp
            · rw [List.mem_singleton.mp q]; simp
          · have hb' : (isNum b && isNum d) = false := by simpa using hb
            show (sizeHead [a, b, c, d] && (isNum b && isNum d)) = false
            rw [hb', Bool.and_false]
          · have hb' : (isNum b && isNum d) = true := by simpa using hb
            obtain ⟨n, la, e, h1, h2, kk⟩ := kq (by
              show (sizeHead [a, b, c, d] && (isNum b && isNum d)) = true
              rw [hb', hd, decide_eq_true ca, decide_eq_true cc]
              rfl)
            injection e with _ e
            injection e with eb e
            injection e with _ e
            injection e with ed _
            refine ⟨[n, la], by rw [eb, ed]; rfl, fun x hx => ?_, fun q H' hq s' eq => kk q H' (s2.free hq) (s2.trans s') eq⟩
            rcases List.mem_cons.mp hx with q | q
            · rw [q]; exact h1
            · rw [List.mem_singleton.mp q]; exact h2
        · refine iteNP cc (raisedT TT (ke ?_) s1)
          show (sizeHead [a, b, c, d] && (isNum b && isNum d)) = false
          rw [hd, decide_eq_false cc, Bool.and_false, Bool.false_and]
      · refine iteNP ca ?_
        refine raisedT TT (ke ?_) s1
        show (sizeHead [a, b, c, d] && (isNum b && isNum d)) = false
        rw [hd, decide_eq_false ca]
        rfl
    · refine iteBT (by simp; omega) ?_
      refine raisedT TT (ke ?_) s1
      unfold sizeGood sizeHead
      rw [decide_eq_false c4]
      rfl
end
end W

set_option Elab.async false
set_option linter.all false
set_option maxRecDepth 100000
set_option maxHeartbeats 1000000
/-! Texts put together and taken apart again. -/
namespace W
open PySem L2 PyProof.Rows
theorem cut_eq {c : Nat} : ∀ {a b r r' : List Nat}, c ∉ a → c ∉ b → a ++ c :: r = b ++ c :: r' → a = b ∧ r = r'
  | [], [], _, _, _, _, h => ⟨rfl, by simpa using h⟩
  | [], y :: b, _, _, _, hb, h => by
    have : c = y := by simpa using congrArg List.head? h
    exact absurd (by rw [this]; exact List.mem_cons_self) hb
  | x :: a, [], _, _, ha, _, h => by
    have : x = c := by simpa using congrArg List.head? h
    exact absurd (by rw [← this]; exact List.mem_cons_self) ha
  | x :: a, y :: b, r, r', ha, hb, h => by
    have e : x = y ∧ a ++ c :: r = b ++ c :: r' := by simpa using h
    obtain ⟨h1, h2⟩ := cut_eq (fun z => ha (List.mem_cons_of_mem _ z)) (fun z => hb (List.mem_cons_of_mem _ z)) e.2
    exact ⟨by rw [e.1, h1], h2⟩
theorem join2 {c : Nat} {x y : Str} {r : List Str} : (Str.join ⟨#[c]⟩ (x :: y :: r)).cps.toList = x.cps.toList ++ c :: (Str.join ⟨#[c]⟩ (y :: r)).cps.toList := by
  rw [join_cons_cons, cps_toList_append, cps_toList_append]
  simp
theorem join_inj {c : Nat} : ∀ (as bs : List Str), as ≠ [] → bs ≠ [] → (∀ y ∈ as, c ∉ y.cps.toList) → (∀ y ∈ bs, c ∉ y.cps.toList) → Str.join ⟨#[c]⟩ as = Str.join ⟨#[c]⟩ bs → as = bs
  | [], _, h, _, _, _, _ => absurd rfl h
  | _ :: _, [], _, h, _, _, _ => absurd rfl h
  | [x], [y], _, _, _, _, h => by
    have h : x = y := h
    rw [h]
  | [x], y :: z :: r, _, _, ha, _, h => by
    have h : x = Str.join ⟨#[c]⟩ (y :: z :: r) := h
    have hx := ha x List.mem_cons_self
    rw [h, join2] at hx
    exact absurd (List.mem_append_right _ List.mem_cons_self) hx
  | x :: y :: r, [z], _, _, _, hb, h => by
    have h : Str.join ⟨#[c]⟩ (x :: y :: r) = z := h
    have hx := hb z List.mem_cons_self
    rw [← h, join2] at hx
    exact absurd (List.mem_append_right _ List.mem_cons_self) hx
  | x :: y :: r, x' :: y' :: r', _, _, ha, hb, h => by
    have h := congrArg (fun s : Str => s.cps.toList) h
    simp only [join2] at h
    obtain ⟨h1, h2⟩ := cut_eq (ha x List.mem_cons_self) (hb x' List.mem_cons_self) h
    have h3 := join_inj (y :: r) (y' :: r') (by simp) (by simp) (fun z hz => ha z (List.mem_cons_of_mem _ hz)) (fun z hz => hb z (List.mem_cons_of_mem _ hz)) (str_ext h2)
    rw [str_ext h1, h3]
theorem split_join {c : Nat} {ys : List Str} (hne : ys ≠ []) (hf : ∀ y ∈ ys, c ∉ y.cps.toList) : Txt.split (Str.join ⟨#[c]⟩ ys) ⟨#[c]⟩ = ys := by
  refine join_inj _ _ (fun e => ?_) hne (StrLaws.split_free _ c) hf (StrLaws.join_split _ _)
  have := (PyProof.Rows.fact_split (Str.join ⟨#[c]⟩ ys) ⟨#[c]⟩).1
  rw [e] at this
  exact absurd this (by decide)
noncomputable abbrev nl : Str := "\n"
theorem blank_is : blank = ⟨#[32]⟩ := by decide +kernel
theorem nl_is : nl = ⟨#[10]⟩ := by decide +kernel
/-! rows -/
noncomputable def spanRow (word : Str) (r : List Int) : Str := Str.join blank (word :: r.map numT)
noncomputable def headRow (n la : Int) : Str := Str.join blank [("moments" : Str), numT n, ("last" : Str), numT la]
noncomputable def Row4 (r : List Int) : Prop := r.length = 4 ∧ ∀ n ∈ r, InR n
theorem split_words {ws : List Str} (h : ws ≠ []) (hf : ∀ y ∈ ws, 32 ∉ y.cps.toList) : Txt.split (Str.join blank ws) blank = ws := by
  rw [blank_is]
  exact split_join h hf
theorem num_free {n : Int} (h : InR n) : 32 ∉ (numT n).cps.toList ∧ 10 ∉ (numT n).cps.toList := by
  have := (num_ok h.1 h.2).2.2.2
  exact ⟨fun z => (this _ z).1 rfl, fun z => (this _ z).2 rfl⟩
theorem words_free {word : Str} {r : List Int} (hw : 32 ∉ word.cps.toList ∧ 10 ∉ word.cps.toList) (h : ∀ n ∈ r, InR n) : ∀ y ∈ word :: r.map numT, 32 ∉ y.cps.toList ∧ 10 ∉ y.cps.toList := fun y hy => by
  rcases List.mem_cons.mp hy with rfl | hy
  · exact hw
  · obtain ⟨n, hn, rfl⟩ := List.mem_map.mp hy
    exact num_free (h n hn)
theorem span_split {word : Str} {r : List Int} (hw : 32 ∉ word.cps.toList ∧ 10 ∉ word.cps.toList) (h : ∀ n ∈ r, InR n) : Txt.split (spanRow word r) blank = word :: r.map numT :=
  split_words (by simp) fun y hy => (words_free hw h y hy).1
theorem free_join {ws : List Str} (h : ∀ y ∈ ws, 10 ∉ y.cps.toList) : 10 ∉ (Str.join blank ws).cps.toList := fun z => by
  rcases (mem_join blank 10 ws).mp z with ⟨t, ht, hc⟩ | ⟨_, hc⟩
  · exact h t ht hc
  · revert hc
    decide +kernel
theorem tie_free : 32 ∉ ("tie" : Str).cps.toList ∧ 10 ∉ ("tie" : Str).cps.toList := by decide +kernel
theorem fall_free : 32 ∉ ("fall" : Str).cps.toList ∧ 10 ∉ ("fall" : Str).cps.toList := by decide +kernel
theorem mom_free : 32 ∉ ("moments" : Str).cps.toList ∧ 10 ∉ ("moments" : Str).cps.toList := by decide +kernel
theorem last_free : 32 ∉ ("last" : Str).cps.toList ∧ 10 ∉ ("last" : Str).cps.toList := by decide +kernel
theorem head_words {n la : Int} (h1 : InR n) (h2 : InR la) : ∀ y ∈ [("moments" : Str), numT n, ("last" : Str), numT la], 32 ∉ y.cps.toList ∧ 10 ∉ y.cps.toList := fun y hy => by
  simp only [List.mem_cons, List.not_mem_nil, or_false] at hy
  rcases hy with rfl | rfl | rfl | rfl
  · exact mom_free
  · exact num_free h1
  · exact last_free
  · exact num_free h2
theorem head_split {n la : Int} (h1 : InR n) (h2 : InR la) : Txt.split (headRow n la) blank = [("moments" : Str), numT n, ("last" : Str), numT la] :=
  split_words (by simp) fun y hy => (head_words h1 h2 y hy).1
theorem start_at {word d : Str} {n : Int} {r : List Int} (h : d.length ≤ (word ++ blank).length) : Txt.startswith (spanRow word (n :: r)) d = Txt.startswith (word ++ blank) d := by
  unfold spanRow
  rw [List.map_cons, join_cons_cons]
  exact PySem.W.KAf.starts_left h
theorem tie_tie : Txt.startswith (("tie" : Str) ++ blank) "tie " = true := by decide +kernel
theorem fall_tie : Txt.startswith (("fall" : Str) ++ blank) "tie " = false := by decide +kernel
theorem fall_fall : Txt.startswith (("fall" : Str) ++ blank) "fall " = true := by decide +kernel
end W

set_option Elab.async false
set_option linter.all false
set_option maxRecDepth 100000
set_option maxHeartbeats 4000000
namespace W
open PySem L2
noncomputable def rowBad (hf : Bool) (row : Str) : Bool := if Txt.startswith row "tie " = true ∧ hf = false then !spanGood (Txt.split row blank) else if Txt.startswith row "fall " = true then !spanGood (Txt.split row blank) else true
noncomputable def OkRow (row : Str) : Prop := row.length ≤ 1000 ∧ ∀ x ∈ Txt.split row blank, okW x = true
noncomputable def tiesF (T F : List (List Int)) (rest : List Str) : List Str := T.map (spanRow "tie") ++ F.map (spanRow "fall") ++ rest
noncomputable def spRead (C CT CB : Addr) : Sp := fun vs H Q E => ∃ (text head : Str) (rows : List Str), vs = [.str text] ∧ text.length ≤ 100000 ∧ Txt.split text nl = head :: rows ∧ rows.length ≤ 100 ∧ (∀ r ∈ head :: rows, OkRow r) ∧
  ((sizeGood (Txt.split head blank) = false ∧ RefuseT CT H E 0) ∨
    ∃ (n la : Int) (T F : List (List Int)) (rest : List Str), head = headRow n la ∧ InR n ∧ InR la ∧ rows = tiesF T F rest ∧ (∀ r ∈ T, Row4 r) ∧ (∀ r ∈ F, Row4 r) ∧
      ((rest = [] ∧ WebOk n la T F ∧ ∀ p H', H p = none → Same H H' → WebAt C H' p n la T F → Q (.ref p) H') ∨
       (rest = [] ∧ ∃ i wy, webV n la T F = some (i, wy) ∧ Refuse CB H E i wy) ∨
       ∃ bad more, rest = bad :: more ∧ rowBad (decide (F ≠ [])) bad = true ∧ RefuseT CT H E ((1 + T.length + F.length : Nat) : Int)))
section
variable {P : Program} {w : World} {K : PySem.W.Frag} {mg : Str → Option Value} {base : Heap}
noncomputable abbrev nRe : List Str := ["text", "rows", "size", "ties", "falls", "at"]
theorem scRe : FnScope nRe ["text"] (defScope sP_read) := ⟨rfl, rfl, rfl, by decide +kernel, rfl, by decide +kernel, by decide +kernel⟩
theorem four_of {T : List (List Int)} (h : ∀ r ∈ T, Row4 r) : Four4 T := fun r hr => by
  obtain ⟨a, b, c, d, e⟩ := len4 r (h r hr).1
  exact ⟨a, b, c, d, e⟩
theorem good_of {n la : Int} (h1 : InR n) (h2 : InR la) : sizeGood [("moments" : Str), numT n, ("last" : Str), numT la] = true := by
  show ((decide (("moments" : Str) = "moments") && decide (("last" : Str) = "last")) && (isNum (numT n) && isNum (numT la))) = true
  rw [(num_ok h1.1 h1.2).1, (num_ok h2.1 h2.2).1]
  decide +kernel
theorem spanGood_of {k : Str} {r : List Int} (h : Row4 r) : spanGood (k :: r.map numT) = true := by
  unfold spanGood
  rw [List.length_cons, List.length_map, h.1]
  show (true && (r.map numT).all isNum) = true
  rw [Bool.true_and, List.all_eq_true]
  intro x hx
  obtain ⟨n, hn, rfl⟩ := List.mem_map.mp hx
  exact (num_ok (h.2 n hn).1 (h.2 n hn).2).1
section
seal L2.PE L2.PA L2.PT L2.PS L2.PSs L2.PG L2.PGs L2.PI L2.PO
theorem ok_read {f C CT CB Mo fB fZ fP fI : Addr} {fd fdB fdZ fdP fdI : FuncData} (F : Fn K mg "read" sP_read ["text"] f fd) (T : TxtN mg) (TC : TxtC K mg C) (TT : TxtT1 K mg CT Mo fB) (bB : Binds K fdB ["self", "row"] []) (GB : FnOk P w K mg base CX0 1 fB fdB ["self", "row"] (spBadT CT))
    (FZ : Fn K mg "read_size" sP_read_size ["row"] fZ fdZ) (GZ : FnOk P w K mg base (CX1 P w) 4 fZ fdZ ["row"] (spRSize CT))
    (FP : Fn K mg "read_span" sP_read_span ["row", "at"] fP fdP) (GP : FnOk P w K mg base (CX1 P w) 4 fP fdP ["row", "at"] (spRSpan CT))
    (M : Mk K C fI) (bI : Binds K fdI ["self", "many", "last", "ties", "falls"] []) (GI : FnOk P w K mg base (CX1 P w) 4 fI fdI ["self", "many", "last", "ties", "falls"] (fun vs H Q E => spInitF C vs H Q E ∨ spInitBad C CB vs H Q E)) :
    FnOk P w K mg base (CX1 P w) 6 f fd ["text"] (spRead C CT CB) := by
  refine F.F.ok1 scRe (fun vs H Q E h => ?_) (fun cdv A outer s H vs Q E hr h => ?_)
  · obtain ⟨_, _, _, rfl, _⟩ := h
    rfl
  · obtain ⟨text, head, rows, rfl, tl, hsp, hrl, hok, h⟩ := h
    have hr2 : Room 2 _ := hr.mono (by decide)
    have hr4 : Room 4 _ := hr.mono (by decide)
    refine ⟨_, pss_consA (ps_set (i := 1) scRe.nd rfl (Or.inl rfl) (pe_bm PySem.F.plainAttrs_str PySem.F.slot_str_split PySem.F.type_str_split mt_split (pv 0) (pa_cons pe_str pa_nil)))
      (pss_consA (ps_set (i := 2) scRe.nd rfl (Or.inl rfl) (pe_call GZ hr4 rfl FZ.g FZ.F.kp FZ.b .nil (pass1 (E := E) fun _ _ _ z => z) (pa_cons (pe_ix ix_list0 (pv 1) pe_int (fun _ _ => rfl)) pa_nil)))
      (pss_consA (ps_set (i := 3) scRe.nd rfl (Or.inl rfl) (pe_lst pa_nil))
      (pss_consA (ps_set (i := 4) scRe.nd rfl (Or.inl rfl) (pe_lst pa_nil))
      (pss_consA (ps_fly (ps_for fly_own rfl (pi_range2 rfl T.range (pa_cons pe_int (pa_cons (pe_callB call_len_seq (by rfl) T.len PySem.boot_len (pa_cons (pv 1) pa_nil)) pa_nil))) (pg_name (i := 5) scRe.nd rfl (Or.inl rfl))
        (pss_one (ps_if (PW.pt (pw_and (pt_val (pe_bm PySem.F.plainAttrs_str PySem.F.slot_str_startswith PySem.F.type_str_startswith mt_starts (pe_ix ix_list0 (pv 1) (pv 5) (fun _ _ => rfl)) (pa_cons pe_str pa_nil)))
            (pw_and1 (pt_cmpR op_eq (pe_callB call_len_seq (by rfl) T.len PySem.boot_len (pa_cons (pv 4) pa_nil)) pe_int (nomark _)))))
          (pss_one (ps_expr (pe_bm PySem.F.plainAttrs_list PySem.F.slot_list_append PySem.F.type_list_append mt_append (pv 3) (pa_cons (pe_call GP hr4 rfl FP.g FP.F.kp FP.b .nil (passF (E := E) fun _ _ _ z => z) (pa_cons (pe_ix ix_list0 (pv 1) (pv 5) (fun _ _ => rfl)) (pa_cons (pv 5) pa_nil))) pa_nil))))
          (pss_one (ps_if (pt_val (pe_bm PySem.F.plainAttrs_str PySem.F.slot_str_startswith PySem.F.type_str_startswith mt_starts (pe_ix ix_list0 (pv 1) (pv 5) (fun _ _ => rfl)) (pa_cons pe_str pa_nil)))
            (pss_one (ps_expr (pe_bm PySem.F.plainAttrs_list PySem.F.slot_list_append PySem.F.type_list_append mt_append (pv 4) (pa_cons (pe_call GP hr4 rfl FP.g FP.F.kp FP.b .nil (passF (E := E) fun _ _ _ z => z) (pa_cons (pe_ix ix_list0 (pv 1) (pv 5) (fun _ _ => rfl)) (pa_cons (pv 5) pa_nil))) pa_nil))))
            (pss_one (ps_raiseF (pe_makeE TT.ex GB hr2 rfl TT.mgC bB pass0 (pa_cons (pv 5) pa_nil))))))))))
      (pss_one (ps_ret (pe_make M GI hr rfl TC.mgC bI .nil (pass1 (E := E) fun _ _ _ z => z) (pa_cons (pe_ix ix_tup0 (pv 2) pe_int (fun _ _ => rfl)) (pa_cons (pe_ix ix_tup0 (pv 2) pe_int (fun _ _ => rfl)) (pa_cons (pv 3) (pa_cons (pv 4) pa_nil))))))))))), ?_⟩
    have hok0 := hok head List.mem_cons_self
    refine fun N1 c1 => ⟨_, rfl, rfl, text, nl, rfl, rfl, rfl, by omega, fun rl hrl' => c1 _ _ ?_⟩
    rw [hsp]
    have s1 := same_new (o := .lst ((head :: rows).map V.str)) hrl'
    have e1 : upd H rl (.lst ((head :: rows).map V.str)) rl = some (.lst ((head :: rows).map V.str)) := upd_same
    generalize upd H rl (.lst ((head :: rows).map V.str)) = H1 at *
    refine fun N2 c2 => ⟨_, rfl, rdL e1 (atI_nat (j := 0) rfl) ⟨head, rfl, hok0.1, hok0.2, fun hb => ?_, fun hg => ?_⟩⟩
    · rcases h with ⟨_, ke⟩ | ⟨n, la, rT, rF, rest, hh, h1, h2, _⟩
      · exact ke.same s1
      · rw [hh, head_split h1 h2, good_of h1 h2] at hb
        cases hb
    rcases h with ⟨hb, _⟩ | ⟨n, la, rT, rF, rest, hh, h1, h2, hrows, hT, hF, h3⟩
    · rw [hb] at hg
      cases hg
    refine ⟨n, la, by rw [hh]; exact head_split h1 h2, h1, h2, fun sz H2 hsz s2 ez => c2 _ _ ?_⟩
    have e2 := s2 _ _ e1
    have s02 := s1.trans s2
    refine fun N3 c3 => ⟨Nat.zero_le _, fun tla htl => c3 _ _ ?_⟩
    refine fun N4 c4 => ⟨Nat.zero_le _, fun fla hfl => c4 _ _ ?_⟩
    have s3 := same_new (o := .lst []) htl
    have s4 := same_new (o := .lst []) hfl
    have t4 := s4 _ _ (upd_same (H := H2) (a := tla) (o := .lst []))
    have f4 : upd (upd H2 tla (.lst [])) fla (.lst []) fla = some (.lst []) := upd_same
    have tf : tla ≠ fla := ne_of_none (upd_same (H := H2) (a := tla) (o := .lst [])) hfl
    have hfl2 : H2 fla = none := s3.free hfl
    have s24 := s3.trans s4
    generalize upd (upd H2 tla (.lst [])) fla (.lst []) = H4 at *
    clear s3 s4 c1 c2 c3 c4 N1 N2 N3 N4
    have hlen : rows.length = rT.length + rF.length + rest.length := by
      rw [hrows]
      unfold tiesF
      rw [List.length_append, List.length_append, List.length_map, List.length_map]
    refine fun N5 c5 => ⟨_, rfl, rl, _, rfl, .inl (SqL.of (s24 _ _ e2)), 1, _, rfl, ⟨by decide, by decide, by rw [List.length_map, List.length_cons]; omega, by rw [List.length_map, List.length_cons]; omega⟩, ?_⟩
    have nn : ((((head :: rows).map V.str).length : Nat) - 1 : Int).toNat = rows.length := by
      rw [List.length_map, List.length_cons]
      omega
    rw [nn]
    refine for_range (n := rows.length) (fun i σ' H' => ∃ v ps qs, σ' = [some (.str text), some (.ref rl), some (.ref sz), some (.ref tla), some (.ref fla), v] ∧ i ≤ rT.length + rF.length ∧ RowsP H' tla ps (rT.take i) ∧ RowsP H' fla qs (rF.take (i - rT.length)) ∧ Same H2 H') ⟨none, [], [], rfl, Nat.zero_le _, ⟨t4, .nil⟩, ⟨f4, by rw [Nat.zero_sub]; exact .nil⟩, s24⟩ ?_ ?_
    · rintro i σ' H5 hi ⟨v, ps, qs, rfl, hle, RT, RF, s5⟩
      have e5 := s5 _ _ e2
      obtain ⟨row, hrow⟩ : ∃ row, rows[i]? = some row := ⟨_, List.getElem?_eq_getElem hi⟩
      have hat : atI ((head :: rows).map V.str) ((1 : Int) + (i : Int)) = some (.str row) := by
        have e : ((1 : Int) + (i : Int)) = ((i + 1 : Nat) : Int) := by omega
        rw [e]
        refine atI_nat ?_
        rw [List.getElem?_map, List.getElem?_cons_succ, hrow]
        rfl
      have okr := hok row (List.mem_cons_of_mem _ (List.mem_of_getElem? hrow))
      have s05 := s02.trans s5
      refine ⟨_, rfl, rdLv rfl e5 hat ⟨rfl, row, "tie ", rfl, rfl, _, rfl, ?_⟩⟩
      by_cases c1 : i < rT.length
      · -- a tie
        obtain ⟨r, hr'⟩ : ∃ r, rT[i]? = some r := ⟨_, List.getElem?_eq_getElem c1⟩
        have hR := hT r (List.mem_of_getElem? hr')
        have er : row = spanRow "tie" r := by
          rw [hrows] at hrow
          unfold tiesF at hrow
          rw [List.getElem?_append_left (by rw [List.length_append, List.length_map]; omega), List.getElem?_append_left (by rw [List.length_map]; omega), List.getElem?_map, hr'] at hrow
          exact (Option.some.inj hrow).symm
        subst er
        obtain ⟨n0, r0, en⟩ : ∃ n0 r0, r = n0 :: r0 := by
          cases r with
          | nil => exact absurd hR.1 (by decide)
          | cons a b => exact ⟨a, b, rfl⟩
        have st : Txt.startswith (spanRow "tie" r) "tie " = true := by
          rw [en, start_at (by decide +kernel)]
          exact tie_tie
        have z0 : i - rT.length = 0 := by omega
        rw [z0] at RF
        rw [st]
        refine iteT ⟨_, rfl, fla, _, rfl, .inl (SqL.of RF.1), rfl, _, rfl, iteBT (by rw [List.length_map, RF.len]; rfl) ?_⟩
        refine ⟨_, rfl, .inl ⟨rfl, _, SqL.of RT.1⟩, _, rfl, rdLv rfl e5 hat ⟨_, rfl, spanRow "tie" r, _, rfl, okr.1, okr.2, fun hb => ?_, fun _ => ⟨"tie", r, span_split tie_free hR.2, hR.1, hR.2, fun p H6 hp s6 ep => ?_⟩⟩⟩
        · rw [span_split tie_free hR.2, spanGood_of hR] at hb
          cases hb
        have RT6 := RT.same s6
        refine ⟨tla, _, _, rfl, rfl, RT6.1, ?_, _, ps ++ [p], qs, rfl, by omega, ?_, ?_, ?_⟩
        · rw [List.length_map, RT6.len, List.length_take]
          exact small1000 (by omega)
        · have e : rT.take (i + 1) = rT.take i ++ [r] := by rw [List.take_succ, hr']; rfl
          rw [e]
          exact RT6.push ep
        · have z1 : i + 1 - rT.length = 0 := by omega
          rw [z1]
          exact ⟨by rw [upd_ne (Ne.symm tf)]; exact (RF.same s6).1, paired_imp (RF.same s6).2 fun q r e => by
            rw [upd_ne (ne_of e RT6.1 (fun z => nomatch z))]
            exact e⟩
        · exact same_upd (s5.trans s6) htl
      · by_cases c2 : i < rT.length + rF.length
        · -- a fall
          obtain ⟨r, hr'⟩ : ∃ r, rF[i - rT.length]? = some r := ⟨_, List.getElem?_eq_getElem (by omega)⟩
          have hR := hF r (List.mem_of_getElem? hr')
          have er : row = spanRow "fall" r := by
            rw [hrows] at hrow
            unfold tiesF at hrow
            rw [List.getElem?_append_left (by rw [List.length_append, List.length_map, List.length_map]; omega), List.getElem?_append_right (by rw [List.length_map]; omega), List.length_map, List.getElem?_map, hr'] at hrow
            exact (Option.some.inj hrow).symm
          subst er
          obtain ⟨n0, r0, en⟩ : ∃ n0 r0, r = n0 :: r0 := by
            cases r with
            | nil => exact absurd hR.1 (by decide)
            | cons a b => exact ⟨a, b, rfl⟩
          have st : Txt.startswith (spanRow "fall" r) "tie " = false := by
            rw [en, start_at (by decide +kernel)]
            exact fall_tie
          have sf : Txt.startswith (spanRow "fall" r) "fall " = true := by
            rw [en, start_at (by decide +kernel)]
            exact fall_fall
          rw [st]
          refine iteF (iteF ⟨_, rfl, rdLv rfl e5 hat ⟨rfl, _, "fall ", rfl, rfl, _, rfl, ?_⟩⟩)
          rw [sf]
          refine iteT ⟨_, rfl, .inl ⟨rfl, _, SqL.of RF.1⟩, _, rfl, rdLv rfl e5 hat ⟨_, rfl, spanRow "fall" r, _, rfl, okr.1, okr.2, fun hb => ?_, fun _ => ⟨"fall", r, span_split fall_free hR.2, hR.1, hR.2, fun p H6 hp s6 ep => ?_⟩⟩⟩
          · rw [span_split fall_free hR.2, spanGood_of hR] at hb
            cases hb
          have RF6 := RF.same s6
          refine ⟨fla, _, _, rfl, rfl, RF6.1, ?_, _, ps, qs ++ [p], rfl, by omega, ?_, ?_, ?_⟩
          · rw [List.length_map, RF6.len, List.length_take]
            exact small1000 (by omega)
          · have e : rT.take (i + 1) = rT.take i := by rw [List.take_of_length_le (by omega), List.take_of_length_le (by omega)]
            rw [e]
            exact ⟨by rw [upd_ne tf]; exact (RT.same s6).1, paired_imp (RT.same s6).2 fun q r e => by
              rw [upd_ne (ne_of e RF6.1 (fun z => nomatch z))]
              exact e⟩
          · have e0 : i + 1 - rT.length = (i - rT.length) + 1 := by omega
            have e : rF.take (i + 1 - rT.length) = rF.take (i - rT.length) ++ [r] := by rw [e0, List.take_succ, hr']; rfl
            rw [e]
            exact RF6.push ep
          · exact same_upd (s5.trans s6) hfl2
        · -- a bad row
          have ie : i = rT.length + rF.length := by omega
          rcases h3 with ⟨e, _⟩ | ⟨e, _⟩ | ⟨bad, more, e, hbad, ke⟩
          · rw [e] at hlen
            simp at hlen
            omega
          · rw [e] at hlen
            simp at hlen
            omega
          have eb : row = bad := by
            rw [hrows] at hrow
            unfold tiesF at hrow
            rw [List.getElem?_append_right (by rw [List.length_append, List.length_map, List.length_map]; omega), List.length_append, List.length_map, List.length_map, ie, Nat.sub_self, e] at hrow
            exact (Option.some.inj hrow).symm
          subst eb
          have ke' : RefuseT CT H E ((1 : Int) + (i : Int)) := by
            have : ((1 : Int) + (i : Int)) = ((1 + rT.length + rF.length : Nat) : Int) := by omega
            rw [this]
            exact ke
          have fl' : rF.take (i - rT.length) = rF := List.take_of_length_le (by omega)
          rw [fl'] at RF
          unfold rowBad at hbad
          cases st : Txt.startswith row "tie " with
          | true =>
            refine iteT ⟨_, rfl, fla, _, rfl, .inl (SqL.of RF.1), rfl, _, rfl, ?_⟩
            rw [List.length_map, RF.len]
            by_cases cf : rF = []
            · refine iteBT (by rw [cf]; rfl) ?_
              rw [if_pos ⟨st, decide_eq_false (not_not_intro cf)⟩] at hbad
              refine ⟨_, rfl, .inl ⟨rfl, _, SqL.of RT.1⟩, _, rfl, rdLv rfl e5 hat ⟨_, rfl, row, _, rfl, okr.1, okr.2, fun _ => ke'.same s05, fun hg => ?_⟩⟩
              rw [hg] at hbad
              cases hbad
            · have l0 : rF.length ≠ 0 := fun z => cf (List.eq_nil_of_length_eq_zero z)
              refine iteB (decide_eq_false fun z => l0 (by have := V.int.inj z; omega)) ?_
              rw [if_neg (fun z => by have := z.2; simp [cf] at this)] at hbad
              refine ⟨_, rfl, rdLv rfl e5 hat ⟨rfl, _, "fall ", rfl, rfl, _, rfl, ?_⟩⟩
              cases sf : Txt.startswith row "fall " with
              | true =>
                rw [if_pos sf] at hbad
                refine iteT ⟨_, rfl, .inl ⟨rfl, _, SqL.of RF.1⟩, _, rfl, rdLv rfl e5 hat ⟨_, rfl, row, _, rfl, okr.1, okr.2, fun _ => ke'.same s05, fun hg => ?_⟩⟩
                rw [hg] at hbad
                cases hbad
              | false => exact iteF ⟨_, rfl, raisedT TT ke' s05⟩
          | false =>
            rw [if_neg (fun z => by rw [st] at z; exact Bool.false_ne_true z.1)] at hbad
            refine iteF (iteF ⟨_, rfl, rdLv rfl e5 hat ⟨rfl, _, "fall ", rfl, rfl, _, rfl, ?_⟩⟩)
            cases sf : Txt.startswith row "fall " with
            | true =>
              rw [if_pos sf] at hbad
              refine iteT ⟨_, rfl, .inl ⟨rfl, _, SqL.of RF.1⟩, _, rfl, rdLv rfl e5 hat ⟨_, rfl, row, _, rfl, okr.1, okr.2, fun _ => ke'.same s05, fun hg => ?_⟩⟩
              rw [hg] at hbad
              cases hbad
            | false => exact iteF ⟨_, rfl, raisedT TT ke' s05⟩
    · rintro σ' H5 ⟨v, ps, qs, rfl, hle, RT, RF, s5⟩
      have r0 : rest.length = 0 := by omega
      have eT : rT.take rows.length = rT := List.take_of_length_le (by omega)
      have eF : rF.take (rows.length - rT.length) = rF := List.take_of_length_le (by omega)
      rw [eT] at RT
      rw [eF] at RF
      have s05 := s02.trans s5
      refine c5 _ _ ?_
      have z5 := s5 _ _ ez
      refine ⟨_, rfl, rdT z5 rfl ⟨_, rfl, rdT z5 rfl ⟨_, rfl, _, rfl, fun x dx nx ndx nex => ?_⟩⟩⟩
      have s6 : Same H5 (upd (upd H5 dx (.own x)) x (.ins C dx [])) := fun b o e => by
        rw [upd_ne (ne_of_none e nx), upd_ne (ne_of_none e ndx)]
        exact e
      rcases h3 with ⟨_, hw, kq⟩ | ⟨_, j, wy, hV, ke⟩ | ⟨bad, more, e, _⟩
      · refine .inl ⟨x, dx, n, la, tla, fla, rT, rF, rfl, upd_same, ⟨ps, RT.same s6⟩, ⟨qs, RF.same s6⟩, hw, fun H7 ta fa dx' eI rt rf hta hfa _ _ k7 => ⟨rfl, kq x H7 (s05.free nx) (fun b o e => ?_) ⟨dx', ta, fa, eI, rt, rf⟩⟩⟩
        exact k7 b o (s6 _ _ (s05 _ _ e)) (ne_of_none (s05 _ _ e) nx)
      · refine .inr ⟨x, n, la, tla, fla, rT, rF, j, wy, rfl, ⟨ps, RT.same s6⟩, ⟨qs, RF.same s6⟩, ?_, ?_, by omega, hV, ke.same (s05.trans s6)⟩
        · exact four_of hT
        · exact four_of hF
      · rw [e] at r0
        cases r0
end
end
end W

set_option Elab.async false
set_option linter.all false
set_option maxRecDepth 100000
set_option maxHeartbeats 4000000
namespace W
open PySem L2
theorem span_eq (word : Str) (a b l m : Int) : (((((((((Str.empty ++ word) ++ blank) ++ numT a) ++ blank) ++ numT b) ++ blank) ++ numT l) ++ blank) ++ numT m) = spanRow word [a, b, l, m] := by
  refine str_ext ?_
  unfold spanRow
  simp only [List.map_cons, List.map_nil, PyProof.Rows.join_cons_cons, PyProof.Rows.join_one, PyProof.Rows.cps_toList_append, List.append_assoc]
  rfl
theorem head_eq (n la : Int) : ((((Str.empty ++ ("moments " : Str)) ++ numT n) ++ (" last " : Str)) ++ numT la) = headRow n la := by
  refine str_ext ?_
  unfold headRow
  have e1 : ("moments " : Str).cps.toList = ("moments" : Str).cps.toList ++ blank.cps.toList := by decide +kernel
  have e2 : (" last " : Str).cps.toList = blank.cps.toList ++ ("last" : Str).cps.toList ++ blank.cps.toList := by decide +kernel
  simp only [PyProof.Rows.join_cons_cons, PyProof.Rows.join_one, PyProof.Rows.cps_toList_append, List.append_assoc, e1, e2]
  rfl
theorem head_eq2 (n la : Int) : ((("moments " : Str) ++ numT n) ++ (" last " : Str)) ++ numT la = headRow n la := by
  rw [← head_eq]
  refine str_ext ?_
  simp only [PyProof.Rows.cps_toList_append, List.append_assoc]
  rfl
theorem span_eq2 {word w2 : Str} {n : Int} {r : List Int} (h : w2.cps.toList = word.cps.toList ++ blank.cps.toList) : w2 ++ Str.join blank ((n :: r).map numT) = spanRow word (n :: r) := by
  refine str_ext ?_
  unfold spanRow
  rw [List.map_cons, PyProof.Rows.join_cons_cons]
  simp only [PyProof.Rows.cps_toList_append, h]
theorem app_len (a b : Str) : (a ++ b).length = a.length + b.length := strLen_append a b
noncomputable def textOf (n la : Int) (T F : List (List Int)) : Str := Str.join nl (headRow n la :: tiesF T F [])
noncomputable def spSpans : Sp := fun vs H Q _ => ∃ (word : Str) (a : Addr) (rows : List (List Int)), vs = [.str word, .ref a] ∧ word.length ≤ 20 ∧ RowsAt H a rows ∧ rows.length ≤ 100 ∧ (∀ r ∈ rows, Row4 r) ∧ ∀ l H', H l = none → Same H H' → H' l = some (.lst ((rows.map (spanRow word)).map V.str)) → Q (.ref l) H'
noncomputable def spWritten (C : Addr) : Sp := fun vs H Q _ => ∃ p n la T F, vs = [.ref p] ∧ WebAt C H p n la T F ∧ WebOk n la T F ∧ ∀ H', Same H H' → Q (.str (textOf n la T F)) H'
theorem WebOk.r4 {n la : Int} {T F : List (List Int)} (h : WebOk n la T F) : (∀ r ∈ T, Row4 r) ∧ ∀ r ∈ F, Row4 r := by
  have h8 := h.n2
  constructor
  · intro r hr
    obtain ⟨a, b, l, m, rfl, h1, h2, h3, h4, h5, h6, h7, h8'⟩ := h.t r hr
    refine ⟨rfl, fun n hn => ?_⟩
    simp only [List.mem_cons, List.not_mem_nil, or_false] at hn
    unfold InR
    rcases hn with rfl | rfl | rfl | rfl <;> omega
  · intro r hr
    obtain ⟨a, b, l, m, rfl, h1⟩ := h.f r hr
    refine ⟨rfl, fun n hn => ?_⟩
    simp only [List.mem_cons, List.not_mem_nil, or_false] at hn
    unfold InR
    rcases hn with rfl | rfl | rfl | rfl <;> omega
theorem num_len {n : Int} (h : InR n) : (numT n).length ≤ 20 := okW_len (num_ok h.1 h.2).2.1
theorem lg {n : Int} (h : InR n) : n.natAbs.log2 < 1920 := by
  have : n.natAbs < 2 ^ 10 := by
    unfold InR at h
    omega
  have := Nat.log2_lt (n := n.natAbs) (k := 10)
  by_cases z : n.natAbs = 0
  · rw [z]; decide
  · exact Nat.lt_trans ((Nat.log2_lt z).mpr (by unfold InR at h; omega)) (by decide : 10 < 1920)
theorem row_len {word : Str} {r : List Int} (hw : word.length ≤ 20) (h : Row4 r) : (spanRow word r).length ≤ 200 := by
  obtain ⟨a, b, c, d, rfl⟩ := len4 r h.1
  have l1 := num_len (h.2 a (by simp))
  have l2 := num_len (h.2 b (by simp))
  have l3 := num_len (h.2 c (by simp))
  have l4 := num_len (h.2 d (by simp))
  have lb : blank.length = 1 := by decide +kernel
  have le : Str.empty.length = 0 := rfl
  rw [← span_eq]
  simp only [app_len, lb, le]
  omega
section
variable {P : Program} {w : World} {K : PySem.W.Frag} {mg : Str → Option Value} {base : Heap}
theorem scSr8 : FnScope ["word", "spans"] ["word", "spans"] (defScope sP_span_rows) := ⟨rfl, rfl, rfl, by decide +kernel, rfl, by decide +kernel, by decide +kernel⟩
noncomputable abbrev nSr8 : List Str := ["one", "other", "least", "most", "word"]
theorem coSr8 : CompOk (defScope sP_span_rows) ["word", "spans"] (fsc [(".0", .local), ("one", .local), ("other", .local), ("least", .local), ("most", .local), ("word", .free)]) nSr8 [none, none, none, none, some 0] := ⟨rfl, by decide +kernel, by decide +kernel, by decide +kernel, rfl, by decide +kernel⟩
theorem ndSr8 : nSr8.Nodup := by decide +kernel
theorem lz20 {n : Nat} (h : n ≤ 1000) : n ≤ sizeLine := Nat.le_trans h (by decide)
theorem ok_spans {f : Addr} {fd : FuncData} (F : Fn K mg "span_rows" sP_span_rows ["word", "spans"] f fd) : FnOk P w K mg base CX0 1 f fd ["word", "spans"] spSpans := by
  refine F.F.ok scSr8 (fun vs H Q E h => ?_) (fun cdv A outer s H vs Q E hr h => ?_)
  · obtain ⟨_, _, _, rfl, _⟩ := h
    rfl
  · obtain ⟨word, a, rows, rfl, hw, ⟨ps, R⟩, hl, h4, k⟩ := h
    refine ⟨_, pss_one (ps_ret (pe_comp rfl (pi_list (pv 1)) coSr8 (fun cl ex s0 H0 => ⟨pg_tupK (K := K) (n := 4) rfl rfl (pgs_cons (pg_name (i := 0) ndSr8 rfl (Or.inl rfl)) (pgs_cons (pg_name (i := 1) ndSr8 rfl (Or.inl rfl)) (pgs_cons (pg_name (i := 2) ndSr8 rfl (Or.inl rfl)) (pgs_cons (pg_name (i := 3) ndSr8 rfl (Or.inl rfl)) pgs_nil)))),
      pif_none, pe_fstr (pf_cons (pe_fmt (pv 4)) (pf_cons pe_str (pf_cons (pe_fmt (pv 0)) (pf_cons pe_str (pf_cons (pe_fmt (pv 1)) (pf_cons pe_str (pf_cons (pe_fmt (pv 2)) (pf_cons pe_str (pf_cons (pe_fmt (pv 3)) pf_nil)))))))))⟩))), ?_⟩
    refine ⟨_, rfl, a, rfl, ⟨_, SqL.of R.1⟩, fun Da hDa => ?_⟩
    refine comp_list (xs := ps.map V.ref) (fun j σ' H' => ∃ v0 v1 v2 v3, σ' = [v0, v1, v2, v3, some (.str word)] ∧ H' Da = some (.lst (((rows.take j).map (spanRow word)).map V.str)) ∧ Same H H') ⟨none, none, none, none, rfl, upd_same, same_new hDa⟩ ?_ ?_ ?_
    · rintro j σ' H2 _ ⟨v0, v1, v2, v3, rfl, _, s2⟩
      exact SqL.of (s2 _ _ R.1)
    · rintro j x σ' H2 hx ⟨v0, v1, v2, v3, rfl, e2, s2⟩
      obtain ⟨q, r, rfl, hq, hr', hqt⟩ := R.get hx
      have h4r := h4 r (List.mem_of_getElem? hr')
      obtain ⟨ra, rb, rl, rm, rfl⟩ := len4 r h4r.1
      have i1 := h4r.2 ra (by simp)
      have i2 := h4r.2 rb (by simp)
      have i3 := h4r.2 rl (by simp)
      have i4 := h4r.2 rm (by simp)
      have l1 := num_len i1
      have l2 := num_len i2
      have l3 := num_len i3
      have l4 := num_len i4
      have lb : blank.length = 1 := by decide +kernel
      have le : Str.empty.length = 0 := rfl
      refine ⟨q, _, rfl, SqT.of (s2 _ _ hqt), rfl, _, _, rfl, _, _, rfl, _, _, rfl, _, _, rfl, rfl, ?_⟩
      refine ⟨_, rfl, .inr ⟨word, rfl, lz20 (by omega), word, rfl, ?_, blank, rfl, ?_, ?_⟩⟩
      · exact lz20 (by simp only [app_len, le]; omega)
      · exact lz20 (by simp only [app_len, le, lb]; omega)
      refine ⟨_, rfl, .inl ⟨ra, rfl, lg i1, numT ra, rfl, ?_, blank, rfl, ?_, ?_⟩⟩
      · exact lz20 (by simp only [app_len, le, lb]; omega)
      · exact lz20 (by simp only [app_len, le, lb]; omega)
      refine ⟨_, rfl, .inl ⟨rb, rfl, lg i2, numT rb, rfl, ?_, blank, rfl, ?_, ?_⟩⟩
      · exact lz20 (by simp only [app_len, le, lb]; omega)
      · exact lz20 (by simp only [app_len, le, lb]; omega)
      refine ⟨_, rfl, .inl ⟨rl, rfl, lg i3, numT rl, rfl, ?_, blank, rfl, ?_, ?_⟩⟩
      · exact lz20 (by simp only [app_len, le, lb]; omega)
      · exact lz20 (by simp only [app_len, le, lb]; omega)
      refine ⟨_, rfl, .inl ⟨rm, rfl, lg i4, numT rm, rfl, ?_, ?_, ?_⟩⟩
      · exact lz20 (by simp only [app_len, le, lb]; omega)
      · exact lz20 (by simp only [app_len, le, lb]; omega)
      rw [span_eq]
      have hj : j < rows.length := (List.getElem?_eq_some_iff.mp hr').1
      refine ⟨_, e2, ?_, _, _, _, _, rfl, ?_, fun b o e => ?_⟩
      · rw [List.length_map, List.length_map, List.length_take]; exact small1000 (by omega)
      · rw [upd_same, List.take_succ, hr', List.map_append, List.map_append]; rfl
      · rw [upd_ne (ne_of_none e hDa)]; exact s2 _ _ e
    · rintro σ' H2 ⟨v0, v1, v2, v3, rfl, e2, s2⟩
      have hall : rows.take (ps.map V.ref).length = rows := by rw [List.length_map, R.len]; exact List.take_length
      rw [hall] at e2
      exact k Da H2 hDa s2 e2
end
end W

set_option Elab.async false
set_option linter.all false
set_option maxRecDepth 100000
set_option maxHeartbeats 4000000
namespace W
open PySem L2
theorem txt_join (z : Str) (ys : List Str) : Txt.join z ys = Str.join z ys := by
  unfold Txt.join
  exact StrLaws.glued_eq_join z ys
theorem sum_len {ys : List Str} {b : Nat} (h : ∀ y ∈ ys, y.length ≤ b) : (ys.map (·.length)).sum ≤ ys.length * b := by
  induction ys with
  | nil => simp
  | cons y r ih =>
    have h1 := h y List.mem_cons_self
    have h2 := ih fun z hz => h z (List.mem_cons_of_mem _ hz)
    rw [List.map_cons, List.sum_cons, List.length_cons, Nat.succ_mul]
    omega
theorem rows_len {n la : Int} {T F : List (List Int)} (h1 : InR n) (h2 : InR la) (hT : ∀ r ∈ T, Row4 r) (hF : ∀ r ∈ F, Row4 r) : ∀ y ∈ headRow n la :: tiesF T F [], y.length ≤ 200 := fun y hy => by
  rcases List.mem_cons.mp hy with rfl | hy
  · rw [← head_eq]
    have l1 := num_len h1
    have l2 := num_len h2
    have a1 : ("moments " : Str).length = 8 := by decide +kernel
    have a2 : (" last " : Str).length = 6 := by decide +kernel
    have le : Str.empty.length = 0 := rfl
    simp only [app_len, a1, a2, le]
    omega
  · unfold tiesF at hy
    rw [List.append_nil] at hy
    rcases List.mem_append.mp hy with q | q
    · obtain ⟨r, hr, rfl⟩ := List.mem_map.mp q
      exact row_len (by decide +kernel) (hT r hr)
    · obtain ⟨r, hr, rfl⟩ := List.mem_map.mp q
      exact row_len (by decide +kernel) (hF r hr)
theorem tiesF_len {T F : List (List Int)} {rest : List Str} : (tiesF T F rest).length = T.length + F.length + rest.length := by
  unfold tiesF
  rw [List.length_append, List.length_append, List.length_map, List.length_map]
theorem WebOk.inr {n la : Int} {T F : List (List Int)} (h : WebOk n la T F) : InR n ∧ InR la := by
  have := h.n1
  have := h.n2
  have := h.l1
  have := h.l2
  unfold InR
  omega
section
variable {P : Program} {w : World} {K : PySem.W.Frag} {mg : Str → Option Value} {base : Heap}
noncomputable abbrev nWr8 : List Str := ["web", "many", "last", "rows"]
theorem scWr8 : FnScope nWr8 ["web"] (defScope sP_written) := ⟨rfl, rfl, rfl, by decide +kernel, rfl, by decide +kernel, by decide +kernel⟩
theorem ok_written {f C fS fT fF : Addr} {fd fdS fdT fdF : FuncData} (F : Fn K mg "written" sP_written ["web"] f fd) (TC : TxtC K mg C) (FS : Fn K mg "span_rows" sP_span_rows ["word", "spans"] fS fdS) (GS : FnOk P w K mg base CX0 1 fS fdS ["word", "spans"] spSpans)
    (mT : Meth K C "ties" fT) (bT : Binds K fdT ["self"] []) (GT : FnOk P w K mg base CX0 1 fT fdT ["self"] (spGet C fun T _ => T))
    (mF : Meth K C "falls" fF) (bF : Binds K fdF ["self"] []) (GF : FnOk P w K mg base CX0 1 fF fdF ["self"] (spGet C fun _ F => F)) : FnOk P w K mg base CX0 2 f fd ["web"] (spWritten C) := by
  refine F.F.ok scWr8 (fun vs H Q E h => ?_) (fun cdv A outer s H vs Q E hr h => ?_)
  · obtain ⟨p, _, _, _, _, rfl, _⟩ := h
    rfl
  · obtain ⟨p, n, la, rT, rF, rfl, W0, hok, k⟩ := h
    refine ⟨_, pss_consA (ps_set (i := 1) scWr8.nd rfl (Or.inl rfl) (pe_fld (pv 0) rfl))
      (pss_consA (ps_set (i := 2) scWr8.nd rfl (Or.inl rfl) (pe_fld (pv 0) rfl))
      (pss_consA (ps_set (i := 3) scWr8.nd rfl (Or.inl rfl) (pe_lst (pa_cons (pe_fstr (pf_cons pe_str (pf_cons (pe_fmt (pv 1)) (pf_cons pe_str (pf_cons (pe_fmt (pv 2)) pf_nil))))) pa_nil)))
      (pss_one (ps_ret (pe_bm PySem.F.plainAttrs_str PySem.F.slot_str_join PySem.F.type_str_join mt_join pe_str (pa_cons (pe_op op_cat (pe_op op_cat (pv 3) (pe_call GS hr rfl FS.g FS.F.kp FS.b .nil pass0 (pa_cons pe_str (pa_cons (pe_meth0 (pv 0) TC.cl mT GT hr bT .nil pass0) pa_nil))))
        (pe_call GS hr rfl FS.g FS.F.kp FS.b .nil pass0 (pa_cons pe_str (pa_cons (pe_meth0 (pv 0) TC.cl mF GF hr bF .nil pass0) pa_nil)))) pa_nil)))))), ?_⟩
    obtain ⟨i1, i2⟩ := hok.inr
    obtain ⟨r4T, r4F⟩ := hok.r4
    have tl := hok.tl
    have fl := hok.fl
    obtain ⟨dx, ta, fa, hp, _, _⟩ := id W0
    have hls := rows_len i1 i2 r4T r4F
    have l1 := num_len i1
    have l2 := num_len i2
    have a1 : ("moments " : Str).length = 8 := by decide +kernel
    have a2 : (" last " : Str).length = 6 := by decide +kernel
    have le : Str.empty.length = 0 := rfl
    refine fun N1 c1 => ⟨_, rfl, p, C, dx, _, _, rfl, hp, TC.cl, TC.nM, w_many _ _ _ _, c1 _ _ ?_⟩
    refine fun N2 c2 => ⟨_, rfl, p, C, dx, _, _, rfl, hp, TC.cl, TC.nL, w_last _ _ _ _, c2 _ _ ?_⟩
    refine fun N3 c3 => ⟨_, rfl, ?_, _, rfl, .inl ⟨n, rfl, lg i1, numT n, rfl, ?_, _, rfl, ?_, _, rfl, .inl ⟨la, rfl, lg i2, numT la, rfl, ?_, ?_, ?_⟩⟩⟩
    · exact lz20 (by simp only [app_len, le, a1]; omega)
    · exact lz20 (by simp only [app_len, le, a1]; omega)
    · exact lz20 (by simp only [app_len, le, a1, a2]; omega)
    · exact lz20 (by simp only [app_len, le, a1, a2]; omega)
    · exact lz20 (by simp only [app_len, le, a1, a2]; omega)
    rw [head_eq]
    refine ⟨by show 1 ≤ sizeLine; decide, fun rl hrl => c3 _ _ ?_⟩
    have s1 := same_new (o := .lst [V.str (headRow n la)]) hrl
    have e1 : upd H rl (.lst [V.str (headRow n la)]) rl = some (.lst [V.str (headRow n la)]) := upd_same
    generalize upd H rl (.lst [V.str (headRow n la)]) = H1 at *
    have nt : (wflds n la ta fa).lookup ("ties" : Str) = none := w_no _ _ _ _ (by decide +kernel) (by decide +kernel) (by decide +kernel) (by decide +kernel)
    have nf : (wflds n la ta fa).lookup ("falls" : Str) = none := w_no _ _ _ _ (by decide +kernel) (by decide +kernel) (by decide +kernel) (by decide +kernel)
    refine ⟨rfl, _, rfl, _, rfl, p, dx, _, rfl, s1 _ _ hp, nt, p, n, la, rT, rF, rfl, W0.same s1, fun lt H2 hlt s2 R2 => ?_⟩
    refine ⟨"tie", lt, rT, rfl, by decide +kernel, R2, by omega, r4T, fun l3 H3 hl3 s3 e3 => ?_⟩
    refine ⟨rl, l3, _, _, rfl, rfl, s3 _ _ (s2 _ _ e1), e3, ?_, fun l4 hl4 => ?_⟩
    · rw [List.length_map, List.length_map]
      exact lz20 (by simp; omega)
    have s4 := same_new (o := .lst ([V.str (headRow n la)] ++ (rT.map (spanRow "tie")).map V.str)) hl4
    have e4 : upd H3 l4 (.lst ([V.str (headRow n la)] ++ (rT.map (spanRow "tie")).map V.str)) l4 = some (.lst ([V.str (headRow n la)] ++ (rT.map (spanRow "tie")).map V.str)) := upd_same
    have s04 := ((s1.trans s2).trans s3).trans s4
    generalize upd H3 l4 (.lst ([V.str (headRow n la)] ++ (rT.map (spanRow "tie")).map V.str)) = H4 at *
    refine ⟨_, rfl, p, dx, _, rfl, s04 _ _ hp, nf, p, n, la, rT, rF, rfl, W0.same s04, fun lf H5 hlf s5 R5 => ?_⟩
    refine ⟨"fall", lf, rF, rfl, by decide +kernel, R5, by omega, r4F, fun l6 H6 hl6 s6 e6 => ?_⟩
    refine ⟨l4, l6, _, _, rfl, rfl, s6 _ _ (s5 _ _ e4), e6, ?_, fun l7 hl7 => ?_⟩
    · rw [List.length_append, List.length_map, List.length_map, List.length_map, List.length_map]
      exact lz20 (by simp; omega)
    have cat : ([V.str (headRow n la)] ++ (rT.map (spanRow "tie")).map V.str) ++ (rF.map (spanRow "fall")).map V.str = (headRow n la :: tiesF rT rF []).map V.str := by
      unfold tiesF
      simp
    rw [cat]
    refine ⟨_, l7, headRow n la :: tiesF rT rF [], rfl, rfl, upd_same, ?_, ?_⟩
    · have h1 := sum_len hls
      have hn : nl.length = 1 := by decide +kernel
      have hy : (headRow n la :: tiesF rT rF []).length ≤ 40 := by
        rw [List.length_cons, tiesF_len]
        simp
        omega
      have h2 : (headRow n la :: tiesF rT rF []).length * 200 ≤ 40 * 200 := Nat.mul_le_mul_right _ hy
      show _ + (headRow n la :: tiesF rT rF []).length * nl.length ≤ 16777216
      rw [hn, Nat.mul_one]
      omega
    · rw [txt_join]
      exact k _ (((s04.trans s5).trans s6).trans (same_new hl7))
end
end W

set_option Elab.async false
set_option linter.all false
set_option maxRecDepth 100000
set_option maxHeartbeats 4000000
namespace L2
open PySem PySem.Spec PyProof.Rows
section
variable {Y : Cx} {K : PySem.W.Frag} {tg : Expr}
theorem pi_tupK {l : Expr} {tl : TE} (h : Y.K = K) (hl : PE Y l tl) : PI Y tg l (iTup K tl) := by subst h; exact pi_tup hl
theorem pe_bmK {T : String} {name : Str} {id : String} {r : V → List V → Hp → VK → Prop} {o e : Expr} {es : List Expr} {to : TE} {t : TA} {apos cpos : Pos} (hK : Y.K = K) (pa : PlainAttrs T) (slot : Slot T name id) (hty : typeOf (.builtin id) = pure (.type "method_descriptor")) (hm : MtR Y id r) (ho : PE Y o to) (ha : PA Y (e :: es) t)
    (hbase : attributeBase o name Y.env (eval o Y.env) = eval o Y.env := by rfl)
    (hfew : ((backTo cpos (starEach (e :: es) Y.env)).all (fun x => !x.1) && (backToKw cpos (keywordEach [] Y.env)).all (fun x => x.1.isSome)
      && decide ((e :: es).length + ([] : List Keyword).length + (if ([] : List Keyword).isEmpty then 0 else 1) < 30)) = true := by rfl)
    (hline : (apos.endLine == cpos.line) = true := by rfl) (hs : starEach (e :: es) Y.env = (false, eval e Y.env) :: starEach es Y.env := by rfl) (hplain : (backTo cpos (starEach es Y.env)).any (·.1) = false := by rfl) :
    PE Y (.Call (.Attribute o name apos) (e :: es) [] cpos) (tBM K T r to t) := by
  subst hK
  exact pe_bm pa slot hty hm ho ha hbase hfew hline hs hplain
end
end L2
namespace L2
open PySem PySem.Spec PyProof.Rows
theorem comp_tup {js : List (Option Nat)} {g : TG} {tc : TT} {te : TE} {σ : St} {H : Hp} {D : Addr} {Q : VK} {K : PySem.W.Frag} {a : Addr} {xs : List V} (Pv : Nat → St → Hp → Prop) (h0 : Pv 0 (startC js σ) (upd H D (.lst []))) (hl : ∀ i σ' H', i ≤ xs.length → Pv i σ' H' → SqT K H' a xs)
    (hs : ∀ i x σ' H', xs[i]? = some x → Pv i σ' H' → g x σ' H' fun σ3 H3 => tc σ3 H3 fun ok H4 => if ok = true then te σ3 H4 fun y H5 => ∃ ys, H5 D = some (.lst ys) ∧ ys.length < sizeLine ∧ Pv (i + 1) σ3 (upd H5 D (.lst (ys ++ [y]))) else Pv (i + 1) σ3 H4)
    (hd : ∀ σ' H', Pv xs.length σ' H' → Q (.ref D) H') :
    CompRun js g tc te σ Q (Itt K a) H D := by
  refine ⟨fun i m σ H => m = xs.length - i ∧ i ≤ xs.length ∧ Pv i σ H, ⟨xs.length, by simp, Nat.zero_le _, h0⟩, ?_⟩
  rintro i m σ' H' ⟨rfl, hi, p⟩
  by_cases hlt : i < xs.length
  · refine .inr ⟨⟨xs, _, hl i σ' H' hi p, List.getElem?_eq_getElem hlt⟩, Pv (i + 1), fun σ2 H2 p' => ⟨xs.length - (i + 1), by omega, rfl, hlt, p'⟩, fun x H2 y => ?_⟩
    obtain ⟨e, y⟩ := y
    subst e
    exact hs i x σ' _ (y xs (hl i σ' _ hi p)) p
  · have e : i = xs.length := by omega
    subst e
    exact .inl ⟨⟨xs, hl _ σ' H' hi p, Nat.le_refl _⟩, hd σ' H' p⟩
end L2
namespace W
open PySem L2
noncomputable def spLRows : Sp := fun vs H Q _ => ∃ wp ta fa n la T F, vs = [.ref wp] ∧ DrawnAt H wp ta fa n la T F ∧ WebOk n la T F ∧ ∀ l H', H l = none → Same H H' → H' l = some (.lst ((headRow n la :: tiesF T F []).map V.str)) → Q (.ref l) H'
section
variable {P : Program} {w : World} {K : PySem.W.Frag} {mg : Str → Option Value} {base : Heap}
theorem scLw : FnScope ["_law_w", "_law_rows_here"] ["_law_w"] (defScope sL_rows) := ⟨rfl, rfl, rfl, by decide +kernel, rfl, by decide +kernel, by decide +kernel⟩
theorem coRa : CompOk (defScope sL_rows) ["_law_w", "_law_rows_here"] (fsc [(".0", .local), ("_law_tie", .local)]) ["_law_tie"] [none] := ⟨rfl, by decide +kernel, by decide +kernel, by decide +kernel, rfl, by decide +kernel⟩
theorem coRf : CompOk (defScope sL_rows) ["_law_w", "_law_rows_here"] (fsc [(".0", .local), ("_law_fall", .local)]) ["_law_fall"] [none] := ⟨rfl, by decide +kernel, by decide +kernel, by decide +kernel, rfl, by decide +kernel⟩
theorem coRb {sc : Scope} {x : Str} : CompOk sc [x] (fsc [(".0", .local), ("_law_number", .local), ("str", .globalImplicit)]) ["_law_number"] [none] := by
  refine ⟨rfl, by decide +kernel, by decide +kernel, fun y hy e => ?_, rfl, fun p hp => ?_⟩
  · exfalso
    revert e
    revert y
    decide +kernel
  · rcases List.mem_cons.mp hp with rfl | hp
    · exact .inl rfl
    · cases hp
section
seal L2.PE L2.PA L2.PT L2.PS L2.PSs L2.PG L2.PGs L2.PI L2.PO
theorem ok_lrows {f : Addr} {fd : FuncData} (F : Fn K mg "_law_rows" sL_rows ["_law_w"] f fd) (str : mg "str" = none) : FnOk P w K mg base CX0 1 f fd ["_law_w"] spLRows := by
  refine F.F.ok scLw (fun vs H Q E h => ?_) (fun cdv A outer s H vs Q E hr h => ?_)
  · obtain ⟨_, _, _, _, _, _, _, rfl, _⟩ := h
    rfl
  · obtain ⟨wp, ta, fa, n, la, rT, rF, rfl, DA, hok, k⟩ := h
    refine ⟨_, pss_consA (ps_set (i := 1) scLw.nd rfl (Or.inl rfl) (pe_lst (pa_cons (pe_op op_add_str (pe_op op_add_str (pe_op op_add_str pe_str (pe_callTy call_str_int (by rfl) str (by decide +kernel) (pa_cons (pe_ix ix_tup0 (pv 0) pe_int (fun _ _ => rfl)) pa_nil))) pe_str) (pe_callTy call_str_int (by rfl) str (by decide +kernel) (pa_cons (pe_ix ix_tup0 (pv 0) pe_int (fun _ _ => rfl)) pa_nil))) pa_nil)))
      (pss_consA (ps_set (i := 1) scLw.nd rfl (Or.inl rfl) (pe_op op_cat (pv 1) (pe_comp rfl (pi_list (pe_ix ix_tup0 (pv 0) pe_int (fun _ _ => rfl))) coRa (fun cl ex s0 H0 => ⟨pg_name (i := 0) nd1 rfl (Or.inl rfl), pif_none,
        pe_op op_add_str pe_str (pe_bmK (K := K) rfl PySem.F.plainAttrs_str PySem.F.slot_str_join PySem.F.type_str_join mt_join pe_str (pa_cons (pe_comp rfl (pi_tupK (K := K) rfl (pv 0)) coRb (fun cl ex s0 H0 => ⟨pg_name (i := 0) nd1 rfl (Or.inl rfl), pif_none, pe_callTy call_str_int (by rfl) str (by decide +kernel) (pa_cons (pv 0) pa_nil)⟩)) pa_nil))⟩))))
      (pss_one (ps_ret (pe_op op_cat (pv 1) (pe_comp rfl (pi_list (pe_ix ix_tup0 (pv 0) pe_int (fun _ _ => rfl))) coRf (fun cl ex s0 H0 => ⟨pg_name (i := 0) nd1 rfl (Or.inl rfl), pif_none,
        pe_op op_add_str pe_str (pe_bmK (K := K) rfl PySem.F.plainAttrs_str PySem.F.slot_str_join PySem.F.type_str_join mt_join pe_str (pa_cons (pe_comp rfl (pi_tupK (K := K) rfl (pv 0)) coRb (fun cl ex s0 H0 => ⟨pg_name (i := 0) nd1 rfl (Or.inl rfl), pif_none, pe_callTy call_str_int (by rfl) str (by decide +kernel) (pa_cons (pv 0) pa_nil)⟩)) pa_nil))⟩)))))), ?_⟩
    obtain ⟨i1, i2⟩ := hok.inr
    obtain ⟨r4T, r4F⟩ := hok.r4
    have tl := hok.tl
    have fl := hok.fl
    have l1 : (Str.ofString (toString n)).length ≤ 20 := num_len i1
    have l2 : (Str.ofString (toString la)).length ≤ 20 := num_len i2
    have a1 : ("moments " : Str).length = 8 := by decide +kernel
    have a2 : (" last " : Str).length = 6 := by decide +kernel
    refine fun N1 c1 => ⟨_, rfl, rdT DA.tup rfl ⟨n, rfl, lg i1, _, _, rfl, rfl, ?_, _, _, rfl, rfl, ?_, _, rfl, rdT DA.tup rfl ⟨la, rfl, lg i2, _, _, rfl, rfl, ?_, by show 1 ≤ sizeLine; decide, fun l hl => c1 _ _ ?_⟩⟩⟩
    · exact lz20 (by rw [a1]; omega)
    · exact lz20 (by simp only [app_len, a1, a2]; omega)
    · exact lz20 (by simp only [app_len, a1, a2]; omega)
    rw [head_eq2]
    have s1 := same_new (o := .lst [V.str (headRow n la)]) hl
    have e1 : upd H l (.lst [V.str (headRow n la)]) l = some (.lst [V.str (headRow n la)]) := upd_same
    generalize upd H l (.lst [V.str (headRow n la)]) = H1 at *
    have DA1 := DA.same s1
    obtain ⟨psta, RT⟩ := DA1.t
    refine fun N2 c2 => ⟨_, rfl, ?_⟩
    refine ⟨_, rfl, rdT DA1.tup rfl ⟨ta, rfl, ⟨_, SqL.of RT.1⟩, fun Da hDa => ?_⟩⟩
    refine comp_list (xs := psta.map V.ref) (fun j σ' H' => ∃ v, σ' = [v] ∧ H' Da = some (.lst (((rT.take j).map (spanRow "tie")).map V.str)) ∧ Same H1 H') ⟨none, rfl, upd_same, same_new hDa⟩ ?_ ?_ ?_
    · rintro j σ' H2 _ ⟨v, rfl, _, s2⟩
      exact SqL.of (s2 _ _ RT.1)
    · rintro j x σ' H2 hx ⟨v, rfl, e2, s2⟩
      obtain ⟨q, r, rfl, hq, hr', hqt⟩ := RT.get hx
      have h4r := r4T r (List.mem_of_getElem? hr')
      have hj : j < rT.length := (List.getElem?_eq_some_iff.mp hr').1
      refine ⟨rfl, _, rfl, q, rfl, ⟨_, SqT.of (s2 _ _ hqt)⟩, fun Db hDb => ?_⟩
      refine comp_tup (xs := r.map V.int) (fun j σ' H' => ∃ v, σ' = [v] ∧ H' Db = some (.lst (((r.take j).map numT).map V.str)) ∧ Same H2 H') ⟨none, rfl, upd_same, same_new hDb⟩ ?_ ?_ ?_
      · rintro j σ' H3 _ ⟨v, rfl, _, s3⟩
        exact SqT.of (s3 _ _ (s2 _ _ hqt))
      · rintro j x σ' H3 hx ⟨v, rfl, e3, s3⟩
        rw [List.getElem?_map] at hx
        cases q1 : r[j]? with
        | none => rw [q1] at hx; cases hx
        | some m =>
          rw [q1] at hx
          cases hx
          have hl4 := h4r.1
          refine ⟨_, rfl, m, rfl, lg (h4r.2 m (List.mem_of_getElem? q1)), _, e3, ?_, _, rfl, ?_, fun b o e => ?_⟩
          · rw [List.length_map, List.length_map, List.length_take]
            exact small1000 (by omega)
          · rw [upd_same, List.take_succ, q1, List.map_append, List.map_append]
            rfl
          · rw [upd_ne (ne_of_none e hDb)]
            exact s3 _ _ e
      rintro σ' H3 ⟨v, rfl, e3, s3⟩
      have hall : r.take (r.map V.int).length = r := by rw [List.length_map]; exact List.take_length
      rw [hall] at e3
      have hln : ∀ y ∈ r.map numT, y.length ≤ 20 := fun y hy => by
        obtain ⟨m, hm, rfl⟩ := List.mem_map.mp hy
        exact num_len (h4r.2 m hm)
      have hb1 : blank.length = 1 := by decide +kernel
      have hrl : (r.map numT).length = 4 := by rw [List.length_map]; exact h4r.1
      have hsum : ((r.map numT).map (·.length)).sum ≤ 80 := by
        have := sum_len hln
        rw [hrl] at this
        exact this
      have hje : Txt.join blank (r.map numT) = Str.join blank (r.map numT) := txt_join _ _
      refine ⟨blank, Db, r.map numT, rfl, rfl, e3, by rw [hrl, hb1]; omega, _, _, rfl, rfl, ?_, ?_⟩
      · refine lz20 ?_
        have hjl := StrLaws.join_length_le blank (r.map numT)
        have hw2 : ("tie " : Str).length ≤ 20 := by decide +kernel
        rw [hrl, hb1] at hjl
        rw [hje]
        omega
      have es : ("tie " : Str) ++ Txt.join blank (r.map numT) = spanRow "tie" r := by
        rw [hje]
        obtain ⟨a, b, c, d, rfl⟩ := len4 r h4r.1
        exact span_eq2 (by decide +kernel)
      rw [es]
      refine ⟨_, s3 _ _ e2, ?_, _, rfl, ?_, fun b o e => ?_⟩
      · rw [List.length_map, List.length_map, List.length_take]; exact small1000 (by omega)
      · rw [upd_same, List.take_succ, hr', List.map_append, List.map_append]; rfl
      · rw [upd_ne (ne_of_none e hDa)]; exact s3 _ _ (s2 _ _ e)
    rintro σ' H2 ⟨v, rfl, e2, s2⟩
    have hall : rT.take (psta.map V.ref).length = rT := by rw [List.length_map, RT.len]; exact List.take_length
    rw [hall] at e2
    refine ⟨l, Da, _, _, rfl, rfl, s2 _ _ e1, e2, ?_, fun l3 hl3 => c2 _ _ ?_⟩
    · rw [List.length_map, List.length_map]
      exact lz20 (by simp; omega)
    have s3 := same_new (o := .lst ([V.str (headRow n la)] ++ (rT.map (spanRow "tie")).map V.str)) hl3
    have e3 : upd H2 l3 (.lst ([V.str (headRow n la)] ++ (rT.map (spanRow "tie")).map V.str)) l3 = some (.lst ([V.str (headRow n la)] ++ (rT.map (spanRow "tie")).map V.str)) := upd_same
    have s03 := (s1.trans s2).trans s3
    generalize upd H2 l3 (.lst ([V.str (headRow n la)] ++ (rT.map (spanRow "tie")).map V.str)) = H3 at *
    have DA3 := DA.same s03
    obtain ⟨psfa, RF⟩ := DA3.f
    clear hDa e2 s2 s3 hall
    refine ⟨_, rfl, ?_⟩
    refine ⟨_, rfl, rdT DA3.tup rfl ⟨fa, rfl, ⟨_, SqL.of RF.1⟩, fun Da hDa => ?_⟩⟩
    refine comp_list (xs := psfa.map V.ref) (fun j σ' H' => ∃ v, σ' = [v] ∧ H' Da = some (.lst (((rF.take j).map (spanRow "fall")).map V.str)) ∧ Same H3 H') ⟨none, rfl, upd_same, same_new hDa⟩ ?_ ?_ ?_
    · rintro j σ' H2 _ ⟨v, rfl, _, s2⟩
      exact SqL.of (s2 _ _ RF.1)
    · rintro j x σ' H2 hx ⟨v, rfl, e2, s2⟩
      obtain ⟨q, r, rfl, hq, hr', hqt⟩ := RF.get hx
      have h4r := r4F r (List.mem_of_getElem? hr')
      have hj : j < rF.length := (List.getElem?_eq_some_iff.mp hr').1
      refine ⟨rfl, _, rfl, q, rfl, ⟨_, SqT.of (s2 _ _ hqt)⟩, fun Db hDb => ?_⟩
      refine comp_tup (xs := r.map V.int) (fun j σ' H' => ∃ v, σ' = [v] ∧ H' Db = some (.lst (((r.take j).map numT).map V.str)) ∧ Same H2 H') ⟨none, rfl, upd_same, same_new hDb⟩ ?_ ?_ ?_
      · rintro j σ' H3 _ ⟨v, rfl, _, s3⟩
        exact SqT.of (s3 _ _ (s2 _ _ hqt))
      · rintro j x σ' H3 hx ⟨v, rfl, e3, s3⟩
        rw [List.getElem?_map] at hx
        cases q1 : r[j]? with
        | none => rw [q1] at hx; cases hx
        | some m =>
          rw [q1] at hx
          cases hx
          have hl4 := h4r.1
          refine ⟨_, rfl, m, rfl, lg (h4r.2 m (List.mem_of_getElem? q1)), _, e3, ?_, _, rfl, ?_, fun b o e => ?_⟩
          · rw [List.length_map, List.length_map, List.length_take]
            exact small1000 (by omega)
          · rw [upd_same, List.take_succ, q1, List.map_append, List.map_append]
            rfl
          · rw [upd_ne (ne_of_none e hDb)]
            exact s3 _ _ e
      rintro σ' H3 ⟨v, rfl, e3, s3⟩
      have hall : r.take (r.map V.int).length = r := by rw [List.length_map]; exact List.take_length
      rw [hall] at e3
      have hln : ∀ y ∈ r.map numT, y.length ≤ 20 := fun y hy => by
        obtain ⟨m, hm, rfl⟩ := List.mem_map.mp hy
        exact num_len (h4r.2 m hm)
      have hb1 : blank.length = 1 := by decide +kernel
      have hrl : (r.map numT).length = 4 := by rw [List.length_map]; exact h4r.1
      have hsum : ((r.map numT).map (·.length)).sum ≤ 80 := by
        have := sum_len hln
        rw [hrl] at this
        exact this
      have hje : Txt.join blank (r.map numT) = Str.join blank (r.map numT) := txt_join _ _
      refine ⟨blank, Db, r.map numT, rfl, rfl, e3, by rw [hrl, hb1]; omega, _, _, rfl, rfl, ?_, ?_⟩
      · refine lz20 ?_
        have hjl := StrLaws.join_length_le blank (r.map numT)
        have hw2 : ("fall " : Str).length ≤ 20 := by decide +kernel
        rw [hrl, hb1] at hjl
        rw [hje]
        omega
      have es : ("fall " : Str) ++ Txt.join blank (r.map numT) = spanRow "fall" r := by
        rw [hje]
        obtain ⟨a, b, c, d, rfl⟩ := len4 r h4r.1
        exact span_eq2 (by decide +kernel)
      rw [es]
      refine ⟨_, s3 _ _ e2, ?_, _, rfl, ?_, fun b o e => ?_⟩
      · rw [List.length_map, List.length_map, List.length_take]; exact small1000 (by omega)
      · rw [upd_same, List.take_succ, hr', List.map_append, List.map_append]; rfl
      · rw [upd_ne (ne_of_none e hDa)]; exact s3 _ _ (s2 _ _ e)
    rintro σ' H4 ⟨v, rfl, e4, s4⟩
    have hall : rF.take (psfa.map V.ref).length = rF := by rw [List.length_map, RF.len]; exact List.take_length
    rw [hall] at e4
    refine ⟨l3, Da, _, _, rfl, rfl, s4 _ _ e3, e4, ?_, fun l5 hl5 => ?_⟩
    · rw [List.length_append, List.length_map, List.length_map, List.length_map, List.length_map]
      exact lz20 (by simp; omega)
    have cat : ([V.str (headRow n la)] ++ (rT.map (spanRow "tie")).map V.str) ++ (rF.map (spanRow "fall")).map V.str = (headRow n la :: tiesF rT rF []).map V.str := by
      unfold tiesF
      simp
    rw [cat]
    exact k l5 _ (s03.free (s4.free hl5)) ((s03.trans s4).trans (same_new hl5)) upd_same
end
end
end W

set_option Elab.async false
set_option linter.all false
set_option maxRecDepth 100000
set_option maxHeartbeats 4000000
namespace L2
open PySem PySem.Spec PyProof.Rows
theorem FnOkH.or {P : Program} {w : World} {K : PySem.W.Frag} {mg : Str → Option Value} {base : Heap} {CX : CXT} {k : Nat} {f : Addr} {fd : FuncData} {ps : List Str} {sp sp' : Sp} (F : FnOkH P w K mg base CX k f fd ps sp) (G : FnOkH P w K mg base CX k f fd ps sp') :
    FnOkH P w K mg base CX k f fd ps (fun vs H Q E => sp vs H Q E ∨ sp' vs H Q E) :=
  ⟨fun vs H Q E h => h.elim (F.len vs H Q E) (G.len vs H Q E), fun A outer s H args us vs Q E hr hh he hb hv hs => hs.elim (F.run A outer s H args us vs Q E hr hh he hb hv) (G.run A outer s H args us vs Q E hr hh he hb hv)⟩
end L2
namespace W
open PySem L2
noncomputable def GoodRow (y : Str) : Prop := 10 ∉ y.cps.toList ∧ OkRow y ∧ y.length ≤ 300
noncomputable def BadT (rows : List Str) (i : Int) : Prop :=
  (∃ head rest, rows = head :: rest ∧ sizeGood (Txt.split head blank) = false ∧ i = 0) ∨
  ∃ (n la : Int) (T F : List (List Int)) (bad : Str) (more : List Str), rows = headRow n la :: tiesF T F (bad :: more) ∧ InR n ∧ InR la ∧ (∀ r ∈ T, Row4 r) ∧ (∀ r ∈ F, Row4 r) ∧ rowBad (decide (F ≠ [])) bad = true ∧ i = ((1 + T.length + F.length : Nat) : Int)
noncomputable def BadW (rows : List Str) : Prop := ∃ (n la : Int) (T F : List (List Int)) (i : Int) (wy : Str), rows = headRow n la :: tiesF T F [] ∧ InR n ∧ InR la ∧ (∀ r ∈ T, Row4 r) ∧ (∀ r ∈ F, Row4 r) ∧ webV n la T F = some (i, wy)
noncomputable def spRefT : Sp := fun vs H Q _ => ∃ (l : Addr) (rows : List Str) (wd : Str) (i : Int), vs = [.ref l, .str wd, .int i] ∧ H l = some (.lst (rows.map V.str)) ∧ rows ≠ [] ∧ rows.length ≤ 100 ∧ (∀ y ∈ rows, GoodRow y) ∧ ((wd = "text" ∧ BadT rows i) ∨ (wd = "web" ∧ BadW rows)) ∧ ∀ H', Same H H' → Q (.bl true) H'
noncomputable def Ex18 (CT CB : Addr) (H0 : Hp) (l : Addr) (wd : Str) (i : Int) : Addr → Option Addr → St → Hp → Prop := fun C' dx σ H' => ∃ (v3 : Option V) (d : Addr) (fs : List (Str × V)), σ = [some (.ref l), some (.str wd), some (.int i), v3] ∧ dx = some d ∧ H' d = some (excD d fs) ∧ Same H0 H' ∧ ((C' = CT ∧ wd = "text" ∧ fs = rowF i) ∨ (C' = CB ∧ wd = "web"))
theorem look_row {i : Int} : List.lookup ("row" : Str) (rowF i) = some (.int i) := by rw [List.lookup_cons, beq_self_eq_true]
theorem text_len {rows : List Str} (hl : rows.length ≤ 100) (hg : ∀ y ∈ rows, GoodRow y) : (rows.map (·.length)).sum + rows.length * nl.length ≤ 40000 := by
  have h1 := sum_len (b := 300) fun y hy => (hg y hy).2.2
  have hn : nl.length = 1 := by decide +kernel
  have h2 : rows.length * 300 ≤ 100 * 300 := Nat.mul_le_mul_right _ hl
  rw [hn, Nat.mul_one]
  omega
theorem split_text {rows : List Str} (hne : rows ≠ []) (hg : ∀ y ∈ rows, GoodRow y) : Txt.split (Str.join nl rows) nl = rows := by
  rw [nl_is]
  exact split_join hne fun y hy => (hg y hy).1
section
variable {P : Program} {w : World} {K : PySem.W.Frag} {mg : Str → Option Value} {base : Heap}
theorem scRt : FnScope ["_law_rows_here", "_law_word", "_law_at", "_law_e"] ["_law_rows_here", "_law_word", "_law_at"] (defScope sL_refused) := ⟨rfl, rfl, rfl, by decide +kernel, rfl, by decide +kernel, by decide +kernel⟩
theorem text_web : decide (V.str "text" = V.str "web") = false := decide_eq_false fun q => absurd (V.str.inj q) (by decide +kernel)
section
seal L2.PE L2.PA L2.PT L2.PS L2.PSs L2.PG L2.PGs L2.PI L2.PO
theorem ok_refT {f C CT CB CM fR fIs fWh : Addr} {fd fdR fdIs fdWh : FuncData} (F : Fn K mg "_law_refused" sL_refused ["_law_rows_here", "_law_word", "_law_at"] f fd)
    (mgM : mg "MomentError" = some (.ref CM)) (exT : PySem.W.exmOne K (.ref CT) (.ref CM) = some true) (exB : PySem.W.exmOne K (.ref CB) (.ref CM) = some true) (GX : ExcG K CT) (nR : PySem.W.findIn K (.ref CT) "row" = some none)
    (FR : Fn K mg "read" sP_read ["text"] fR fdR) (GR : FnOk P w K mg base (CX1 P w) 6 fR fdR ["text"] (spRead C CT CB))
    (FIs : Fn K mg "_law_is" sL_is ["_law_e", "_law_word"] fIs fdIs) (GIs : FnOkH P w K mg base CX0 1 fIs fdIs ["_law_e", "_law_word"] (fun vs H Q E => spIs CT "text" vs H Q E ∨ spIs CB "web" vs H Q E))
    (FWh : Fn K mg "_law_whole" sWhole ["_law_found"] fWh fdWh) (GWh : FnOkH P w K mg base CX0 1 fWh fdWh ["_law_found"] spWhole) :
    FnOk P w K mg base CX0 7 f fd ["_law_rows_here", "_law_word", "_law_at"] spRefT := by
  refine F.F.ok scRt (fun vs H Q E h => ?_) (fun cdv A outer s H vs Q E hr h => ?_)
  · obtain ⟨_, _, _, _, rfl, _⟩ := h
    rfl
  · obtain ⟨l, rows, wd, i, rfl, hl, hne, h100, hg, hbad, k⟩ := h
    have hr1 : Room 1 _ := hr.mono (by decide)
    refine ⟨_, pss_cons (ps_tryA (i := 3) (Cn := CM) (Ex := Ex18 CT CB H l wd i) rfl rfl scRt.nd rfl rfl rfl mgM
        (fun pins => pss_one (ps_expr (pe_callT GR hr rfl FR.g FR.F.kp FR.b .nil (pa_cons (pe_bmK (K := K) rfl PySem.F.plainAttrs_str PySem.F.slot_str_join PySem.F.type_str_join mt_join pe_str (pa_cons (pv 0) pa_nil)) pa_nil))))
        (fun a => pss_one (ps_ret (pe_and (pe_callX rfl GIs ⟨hr1.dp, hr1.un⟩ rfl FIs.g FIs.F.kp FIs.b .nil pass0 (pa_cons (pv 3) (pa_cons (pv 1) pa_nil)))
          (pe_one (pe_or (pe_cmpR op_eq (pv 1) pe_str (nomark _))
          (pe_one (pe_and (pe_callX rfl GWh ⟨hr1.dp, hr1.un⟩ rfl FWh.g FWh.F.kp FWh.b .nil pass0 (pa_cons (pe_fldX (K := K) rfl (pv 3) rfl) pa_nil))
          (pe_one (pe_cmpR op_eq (pe_fldX (K := K) rfl (pv 3) rfl) (pv 2) (nomark _)))))))))))
      (pss_one ps_never), ?_⟩
    have tl := text_len h100 hg
    refine ⟨?_, fun C' dx' σ' H' hEx => ?_⟩
    · refine ⟨rfl, _, rfl, nl, l, rows, rfl, rfl, hl, by omega, ?_⟩
      have hj := StrLaws.join_length_le nl rows
      have ej : Txt.join nl rows = Str.join nl rows := txt_join _ _
      have hsp := split_text hne hg
      cases rows with
      | nil => exact absurd rfl hne
      | cons head rest =>
        rw [ej]
        refine ⟨_, head, rest, rfl, by omega, hsp, by rw [List.length_cons] at h100; omega, fun r hr => (hg r hr).2.1, ?_⟩
        rcases hbad with ⟨hw, hb⟩ | ⟨hw, hb⟩
        · have rf : ∀ j : Int, j = i → RefuseT CT H (fun C dx H' => ∃ c, C = .ref c ∧ Ex18 CT CB H l wd i c dx (L2.start ["_law_rows_here", "_law_word", "_law_at", "_law_e"] [.ref l, .str wd, .int i]) H') j := fun j ej d H' _ s' ed => ⟨CT, rfl, none, d, _, rfl, rfl, ed, s', .inl ⟨rfl, hw, by rw [ej]⟩⟩
          rcases hb with ⟨head', rest', e, hs, e0⟩ | ⟨n, la, rT, rF, bad, more, e, i1, i2, r4T, r4F, hb, ei⟩
          · cases e
            exact .inl ⟨hs, rf 0 e0.symm⟩
          · injection e with e1 e2
            exact .inr ⟨n, la, rT, rF, bad :: more, e1, i1, i2, e2, r4T, r4F, .inr (.inr ⟨bad, more, rfl, hb, rf _ ei.symm⟩)⟩
        · obtain ⟨n, la, rT, rF, j, wy, e, i1, i2, r4T, r4F, hV⟩ := hb
          injection e with e1 e2
          exact .inr ⟨n, la, rT, rF, [], e1, i1, i2, e2, r4T, r4F, .inr (.inl ⟨rfl, j, wy, hV, fun d H' _ s' ed => ⟨CB, rfl, none, d, _, rfl, rfl, ed, s', .inr ⟨rfl, hw⟩⟩⟩)⟩
    · obtain ⟨v3, dd, fs, rfl, rfl, ed, s', hc⟩ := hEx
      have exm : PySem.W.exmOne K (.ref C') (.ref CM) = some true := by
        rcases hc with ⟨rfl, _⟩ | ⟨rfl, _⟩
        · exact exT
        · exact exB
      refine ⟨exm, fun ea t tb hea => ?_⟩
      have se := same_new (o := excZ ea C' (some dd) t tb) hea
      have ze : upd H' ea (excZ ea C' (some dd) t tb) ea = some (excZ ea C' (some dd) t tb) := upd_same
      have dE := se _ _ ed
      have s8 := s'.trans se
      generalize upd H' ea (excZ ea C' (some dd) t tb) = H8 at *
      rcases hc with ⟨rfl, rfl, rfl⟩ | ⟨rfl, rfl⟩
      · refine ⟨_, rfl, _, rfl, ⟨_, _, _, _, _, ze⟩, .inl ⟨ea, dd, t, tb, _, _, rfl, ze, dE, fun H9 s9 => ⟨_, rfl, iteT ?_⟩⟩⟩
        have z9 := s9 _ _ ze
        have d9 := s9 _ _ dE
        refine ⟨_, rfl, rfl, _, rfl, iteB text_web ?_⟩
        refine ⟨_, rfl, ea, C', dd, t, tb, _, _, _, rfl, z9, d9, GX, nR, look_row, ⟨_, _, _, _, _, z9⟩, i, rfl, _, rfl, iteT ?_⟩
        exact ⟨_, rfl, ea, C', dd, t, tb, _, _, _, rfl, z9, d9, GX, nR, look_row, _, rfl, rfl, bl_of (k H9 (s8.trans s9)) (decide_eq_true rfl).symm⟩
      · refine ⟨_, rfl, _, rfl, ⟨_, _, _, _, _, ze⟩, .inr ⟨ea, dd, t, tb, _, _, rfl, ze, dE, fun H9 s9 => ⟨_, rfl, iteT ?_⟩⟩⟩
        exact ⟨_, rfl, rfl, _, rfl, iteBT (decide_eq_true rfl) (k H9 (s8.trans s9))⟩
end
end
end W

set_option Elab.async false
set_option linter.all false
set_option maxRecDepth 100000
set_option maxHeartbeats 4000000
namespace W
open PySem L2
/-! rows that are none -/
noncomputable abbrev oddL : List Str := ["", "tie 0 1 2", "tie 0 1 2 3 4", "tie 0 1 02 3", "tie 0 1 2 1000", "tie  0 1 2 3", "tie 0 1 2 3 ", "Tie 0 1 2 3", "tie 0 1 2 +3", "tie 0 1 -0 3", "tie 0 1 - 3", "fall 0 1 1", "fall 0 1 1 x", "moments 3 last 5", " tie 0 1 2 3"]
noncomputable abbrev headsL : List Str := ["moments 3", "moments 3 last", "moment 3 last 5", "moments 3 last 5 ", "moments 03 last 5", "", "last 5 moments 3"]
noncomputable abbrev moreL : List Str := ["tie 0 1 2 3", "fall 0 0 1 2", "fall 0 1"]
theorem odd_all : oddL.all (fun r => rowBad false r && rowBad true r) = true := by decide +kernel
theorem heads_all : headsL.all (fun r => !sizeGood (Txt.split r blank)) = true := by decide +kernel
theorem good_all : (oddL ++ headsL ++ moreL).all (fun y => y.cps.toList.all (fun c => decide (c ≠ 10)) && decide (y.length ≤ 300) && (Txt.split y blank).all okW) = true := by decide +kernel
theorem odd_bad {r : Str} (h : r ∈ oddL) (b : Bool) : rowBad b r = true := by
  have := List.all_eq_true.mp odd_all r h
  rw [Bool.and_eq_true] at this
  cases b
  · exact this.1
  · exact this.2
theorem heads_bad {r : Str} (h : r ∈ headsL) : sizeGood (Txt.split r blank) = false := by
  have := List.all_eq_true.mp heads_all r h
  simpa using this
theorem good_in {y : Str} (h : y ∈ oddL ++ headsL ++ moreL) : GoodRow y := by
  have := List.all_eq_true.mp good_all y h
  simp only [Bool.and_eq_true] at this
  obtain ⟨⟨h1, h2⟩, h3⟩ := this
  have h2 := of_decide_eq_true h2
  exact ⟨fun z => of_decide_eq_true (List.all_eq_true.mp h1 10 z) rfl, ⟨by omega, fun x hx => List.all_eq_true.mp h3 x hx⟩, h2⟩
theorem tie_behind : rowBad true "tie 0 1 2 3" = true := by decide +kernel
theorem fall_short (b : Bool) : rowBad b "fall 0 1" = true := by cases b <;> decide +kernel
noncomputable def spLBad (K : PySem.W.Frag) : Sp := fun vs H Q _ => ∃ (d a l : Addr) (rows : List Str), vs = [.ref d, .ref l] ∧ Dice K a H d ∧ H l = some (.lst (rows.map V.str)) ∧ l ≠ d ∧ 1 ≤ rows.length ∧ rows.length ≤ 100 ∧
  ∀ p (row : Str) (i : Nat) H', H' p = some (.tup [.str row, .int (i : Int)]) → ((i = 0 ∧ row ∈ headsL) ∨ (1 ≤ i ∧ i ≤ rows.length ∧ row ∈ oddL)) → Dice K a H' d → Keep d H H' → Q (.ref p) H'
theorem keep_same {H H1 H2 : Hp} {d : Addr} (k : Keep d H H1) (s : Same H1 H2) : Keep d H H2 := fun b o e ne => s _ _ (k b o e ne)
theorem keep_trans {H H1 H2 : Hp} {d : Addr} (k : Keep d H H1) (k2 : Keep d H1 H2) : Keep d H H2 := fun b o e ne => k2 _ _ (k b o e ne) ne
section
variable {P : Program} {w : World} {K : PySem.W.Frag} {mg : Str → Option Value} {base : Heap}
noncomputable abbrev nLb : List Str := ["_law_d", "_law_rows_here", "_law_at", "_law_odd", "_law_heads"]
theorem scLb : FnScope nLb ["_law_d", "_law_rows_here"] (defScope sL_bad) := ⟨rfl, rfl, rfl, by decide +kernel, rfl, by decide +kernel, by decide +kernel⟩
section
seal L2.PE L2.PA L2.PT L2.PS L2.PSs L2.PG L2.PGs L2.PI L2.PO
theorem ok_lbad {f fN : Addr} {fd fdN : FuncData} (F : Fn K mg "_law_bad" sL_bad ["_law_d", "_law_rows_here"] f fd) (len : mg "len" = none) (FN : Fn K mg "_law_next" sNext ["_law_dice", "_law_many"] fN fdN) (GN : FnOk P w K mg base CX0 1 fN fdN ["_law_dice", "_law_many"] (spNext K)) :
    FnOk P w K mg base CX0 2 f fd ["_law_d", "_law_rows_here"] (spLBad K) := by
  refine F.F.ok scLb (fun vs H Q E h => ?_) (fun cdv A outer s H vs Q E hr h => ?_)
  · obtain ⟨_, _, _, _, rfl, _⟩ := h
    rfl
  · obtain ⟨d, a, l, rows, rfl, D, hl, ld, h1, h100, k⟩ := h
    refine ⟨_, pss_consA (ps_set (i := 2) scLb.nd rfl (Or.inl rfl) (pe_op op_add pe_int (pe_call GN hr rfl FN.g FN.F.kp FN.b .nil pass0 (pa_cons (pv 0) (pa_cons (pe_callB call_len_seq (by rfl) len PySem.boot_len (pa_cons (pv 1) pa_nil)) pa_nil)))))
      (pss_consA (ps_set (i := 3) scLb.nd rfl (Or.inl rfl) (pe_lst (pa_cons pe_str (pa_cons pe_str (pa_cons pe_str (pa_cons pe_str (pa_cons pe_str (pa_cons pe_str (pa_cons pe_str pa_nil)))))))))
      (pss_consA (ps_set (i := 3) scLb.nd rfl (Or.inl rfl) (pe_op op_cat (pv 3) (pe_lst (pa_cons pe_str (pa_cons pe_str (pa_cons pe_str (pa_cons pe_str (pa_cons pe_str (pa_cons pe_str pa_nil)))))))))
      (pss_consA (ps_set (i := 3) scLb.nd rfl (Or.inl rfl) (pe_op op_cat (pv 3) (pe_lst (pa_cons pe_str (pa_cons pe_str pa_nil)))))
      (pss_consA (ps_set (i := 4) scLb.nd rfl (Or.inl rfl) (pe_lst (pa_cons pe_str (pa_cons pe_str (pa_cons pe_str (pa_cons pe_str (pa_cons pe_str (pa_cons pe_str pa_nil))))))))
      (pss_consA (ps_expr (pe_bm PySem.F.plainAttrs_list PySem.F.slot_list_append PySem.F.type_list_append mt_append (pv 4) (pa_cons pe_str pa_nil)))
      (pss_consA (ps_if (pt_cmpR op_eq (pe_call GN hr rfl FN.g FN.F.kp FN.b .nil pass0 (pa_cons (pv 0) (pa_cons pe_int pa_nil))) pe_int (nomark _))
        (pss_one (ps_ret (pe_tup (pa_cons (pe_ix ix_list0 (pv 4) (pe_call GN hr rfl FN.g FN.F.kp FN.b .nil pass0 (pa_cons (pv 0) (pa_cons (pe_callB call_len_seq (by rfl) len PySem.boot_len (pa_cons (pv 4) pa_nil)) pa_nil))) (fun _ _ => rfl)) (pa_cons pe_int pa_nil))))) pss_nil)
      (pss_one (ps_ret (pe_tup (pa_cons (pe_ix ix_list0 (pv 3) (pe_call GN hr rfl FN.g FN.F.kp FN.b .nil pass0 (pa_cons (pv 0) (pa_cons (pe_callB call_len_seq (by rfl) len PySem.boot_len (pa_cons (pv 3) pa_nil)) pa_nil))) (fun _ _ => rfl)) (pa_cons (pv 2) pa_nil))))))))))), ?_⟩
    refine fun N1 c1 => ⟨_, rfl, _, rfl, l, _, rfl, .inl (SqL.of hl), d, a, _, rfl, D, ?_, fun r0 H1 h0 hlt D1 k1 => ⟨_, _, rfl, rfl, c1 _ _ ?_⟩⟩
    · rw [List.length_map]
      omega
    rw [List.length_map] at hlt
    clear c1 N1
    obtain ⟨j, rfl⟩ : ∃ j : Nat, r0 = j := ⟨r0.toNat, by omega⟩
    have ej : ((1 : Int) + (j : Int)) = ((1 + j : Nat) : Int) := by omega
    refine fun N1 c1 => ⟨by show 7 ≤ sizeLine; decide, fun o1 ho1 => c1 _ _ ?_⟩
    have s2 := same_new (o := .lst [V.str "", V.str "tie 0 1 2", V.str "tie 0 1 2 3 4", V.str "tie 0 1 02 3", V.str "tie 0 1 2 1000", V.str "tie  0 1 2 3", V.str "tie 0 1 2 3 "]) ho1
    have e2 : upd H1 o1 (.lst [V.str "", V.str "tie 0 1 2", V.str "tie 0 1 2 3 4", V.str "tie 0 1 02 3", V.str "tie 0 1 2 1000", V.str "tie  0 1 2 3", V.str "tie 0 1 2 3 "]) o1 = some (.lst ((oddL.take 7).map V.str)) := upd_same
    generalize upd H1 o1 (.lst [V.str "", V.str "tie 0 1 2", V.str "tie 0 1 2 3 4", V.str "tie 0 1 02 3", V.str "tie 0 1 2 1000", V.str "tie  0 1 2 3", V.str "tie 0 1 2 3 "]) = H2 at *
    clear c1 N1
    refine fun N1 c1 => ⟨_, rfl, by show 6 ≤ sizeLine; decide, fun o2 ho2 => ?_⟩
    have s3 := s2.trans (same_new (o := .lst [V.str "Tie 0 1 2 3", V.str "tie 0 1 2 +3", V.str "tie 0 1 -0 3", V.str "tie 0 1 - 3", V.str "fall 0 1 1", V.str "fall 0 1 1 x"]) ho2)
    have e3 : upd H2 o2 (.lst [V.str "Tie 0 1 2 3", V.str "tie 0 1 2 +3", V.str "tie 0 1 -0 3", V.str "tie 0 1 - 3", V.str "fall 0 1 1", V.str "fall 0 1 1 x"]) o2 = some (.lst (((oddL.drop 7).take 6).map V.str)) := upd_same
    have e23 := same_new (o := .lst [V.str "Tie 0 1 2 3", V.str "tie 0 1 2 +3", V.str "tie 0 1 -0 3", V.str "tie 0 1 - 3", V.str "fall 0 1 1", V.str "fall 0 1 1 x"]) ho2 _ _ e2
    generalize upd H2 o2 (.lst [V.str "Tie 0 1 2 3", V.str "tie 0 1 2 +3", V.str "tie 0 1 -0 3", V.str "tie 0 1 - 3", V.str "fall 0 1 1", V.str "fall 0 1 1 x"]) = H3 at *
    refine ⟨o1, o2, _, _, rfl, rfl, e23, e3, by show 13 ≤ sizeLine; decide, fun o3 ho3 => c1 _ _ ?_⟩
    clear c1 N1
    have s4 := s3.trans (same_new (o := .lst ((oddL.take 7).map V.str ++ ((oddL.drop 7).take 6).map V.str)) ho3)
    have e4 : upd H3 o3 (.lst ((oddL.take 7).map V.str ++ ((oddL.drop 7).take 6).map V.str)) o3 = some (.lst ((oddL.take 13).map V.str)) := upd_same
    generalize upd H3 o3 (.lst ((oddL.take 7).map V.str ++ ((oddL.drop 7).take 6).map V.str)) = H4 at *
    refine fun N1 c1 => ⟨_, rfl, by show 2 ≤ sizeLine; decide, fun o4 ho4 => ?_⟩
    have s5 := s4.trans (same_new (o := .lst [V.str "moments 3 last 5", V.str " tie 0 1 2 3"]) ho4)
    have e5 : upd H4 o4 (.lst [V.str "moments 3 last 5", V.str " tie 0 1 2 3"]) o4 = some (.lst ((oddL.drop 13).map V.str)) := upd_same
    have e45 := same_new (o := .lst [V.str "moments 3 last 5", V.str " tie 0 1 2 3"]) ho4 _ _ e4
    generalize upd H4 o4 (.lst [V.str "moments 3 last 5", V.str " tie 0 1 2 3"]) = H5 at *
    refine ⟨o3, o4, _, _, rfl, rfl, e45, e5, by show 15 ≤ sizeLine; decide, fun o5 ho5 => c1 _ _ ?_⟩
    clear c1 N1
    have s6 := s5.trans (same_new (o := .lst ((oddL.take 13).map V.str ++ (oddL.drop 13).map V.str)) ho5)
    have e6 : upd H5 o5 (.lst ((oddL.take 13).map V.str ++ (oddL.drop 13).map V.str)) o5 = some (.lst (oddL.map V.str)) := upd_same
    generalize upd H5 o5 (.lst ((oddL.take 13).map V.str ++ (oddL.drop 13).map V.str)) = H6 at *
    refine fun N1 c1 => ⟨by show 6 ≤ sizeLine; decide, fun hh hhh => c1 _ _ ?_⟩
    clear c1 N1
    have s7 := s6.trans (same_new (o := .lst [V.str "moments 3", V.str "moments 3 last", V.str "moment 3 last 5", V.str "moments 3 last 5 ", V.str "moments 03 last 5", V.str ""]) hhh)
    have o7 := same_new (o := .lst [V.str "moments 3", V.str "moments 3 last", V.str "moment 3 last 5", V.str "moments 3 last 5 ", V.str "moments 03 last 5", V.str ""]) hhh _ _ e6
    have e7 : upd H6 hh (.lst [V.str "moments 3", V.str "moments 3 last", V.str "moment 3 last 5", V.str "moments 3 last 5 ", V.str "moments 03 last 5", V.str ""]) hh = some (.lst ((headsL.take 6).map V.str)) := upd_same
    have nh : H1 hh = none := s6.free hhh
    have oh : o5 ≠ hh := ne_of_none e6 hhh
    generalize upd H6 hh (.lst [V.str "moments 3", V.str "moments 3 last", V.str "moment 3 last 5", V.str "moments 3 last 5 ", V.str "moments 03 last 5", V.str ""]) = H7 at *
    refine fun N1 c1 => ⟨_, rfl, .inl ⟨rfl, _, SqL.of e7⟩, hh, _, _, rfl, rfl, e7, by show 6 < sizeLine; decide, c1 _ _ ?_⟩
    clear c1 N1
    have s8 : Same H1 (upd H7 hh (.lst ((headsL.take 6).map V.str ++ [V.str "last 5 moments 3"]))) := same_upd s7 nh
    have e8 : upd H7 hh (.lst ((headsL.take 6).map V.str ++ [V.str "last 5 moments 3"])) hh = some (.lst (headsL.map V.str)) := upd_same
    have o8 : upd H7 hh (.lst ((headsL.take 6).map V.str ++ [V.str "last 5 moments 3"])) o5 = some (.lst (oddL.map V.str)) := by rw [upd_ne oh]; exact o7
    generalize upd H7 hh (.lst ((headsL.take 6).map V.str ++ [V.str "last 5 moments 3"])) = H8 at *
    have D8 := D1.same s8
    have k8 := keep_same k1 s8
    obtain ⟨dp8, hd8⟩ := D8.at_
    have hd : hh ≠ d := fun z => by
      rw [z, hd8] at e8
      cases e8
    have od : o5 ≠ d := fun z => by
      rw [z, hd8] at o8
      cases o8
    refine fun N1 c1 => ⟨_, rfl, d, a, _, rfl, D8, by decide, fun r1 H9 _ _ D9 k9 => ⟨rfl, _, rfl, ?_⟩⟩
    have e9 := k9 _ _ e8 hd
    have o9 := k9 _ _ o8 od
    have k09 := keep_trans k8 k9
    refine ite2 (fun _ => ?_) (fun _ => c1 _ _ ?_)
    · refine ⟨_, rfl, _, rfl, _, rfl, hh, _, rfl, .inl (SqL.of e9), d, a, _, rfl, D9, by show (1 : Int) ≤ 7; decide, fun r2 H10 g0 g1 D10 k10 => ?_⟩
      have g1 : r2 < 7 := g1
      obtain ⟨m, rfl⟩ : ∃ m : Nat, r2 = m := ⟨r2.toNat, by omega⟩
      have hm : m < headsL.length := by show m < 7; omega
      have e10 := k10 _ _ e9 hd
      have hat : atI (headsL.map V.str) (m : Int) = some (.str headsL[m]) := atI_nat (by rw [List.getElem?_map, List.getElem?_eq_getElem hm]; rfl)
      refine ⟨hh, _, _, _, rfl, rfl, e10, hat, by show 2 ≤ sizeLine; decide, fun p hp => ?_⟩
      exact k p _ 0 _ upd_same (.inl ⟨rfl, List.getElem_mem hm⟩) (D10.same (same_new hp)) (keep_same (keep_trans k09 k10) (same_new hp))
    · refine ⟨_, rfl, _, rfl, _, rfl, o5, _, rfl, .inl (SqL.of o9), d, a, _, rfl, D9, by show (1 : Int) ≤ 15; decide, fun r2 H10 g0 g1 D10 k10 => ?_⟩
      have g1 : r2 < 15 := g1
      obtain ⟨m, rfl⟩ : ∃ m : Nat, r2 = m := ⟨r2.toNat, by omega⟩
      have hm : m < oddL.length := by show m < 15; omega
      have e10 := k10 _ _ o9 od
      have hat : atI (oddL.map V.str) (m : Int) = some (.str oddL[m]) := atI_nat (by rw [List.getElem?_map, List.getElem?_eq_getElem hm]; rfl)
      refine ⟨o5, _, _, _, rfl, rfl, e10, hat, _, rfl, by show 2 ≤ sizeLine; decide, fun p hp => ?_⟩
      exact k p _ (1 + j) _ (by rw [← ej]; exact upd_same) (.inr ⟨by omega, by omega, List.getElem_mem hm⟩) (D10.same (same_new hp)) (keep_same (keep_trans k09 k10) (same_new hp))
end
end
end W

set_option Elab.async false
set_option linter.all false
set_option maxRecDepth 100000
set_option maxHeartbeats 4000000
namespace W
open PySem L2
/-! the rows of a web's text, spoilt -/
theorem cut_to {xs : List V} {k : Nat} (h : k ≤ xs.length) : cutV xs none (some (k : Int)) = xs.take k := by
  unfold cutV
  rw [HT.sIx_none, HT.sIx_nat, List.drop_zero, Nat.sub_zero, Nat.min_eq_left h]
theorem cut_from {xs : List V} {k : Nat} (h : k ≤ xs.length) : cutV xs (some (k : Int)) none = xs.drop k := by
  unfold cutV
  rw [HT.sIx_none, HT.sIx_nat, Nat.min_eq_left h]
  exact List.take_of_length_le (by rw [List.length_drop]; omega)
noncomputable abbrev rowsOf (n la : Int) (T F : List (List Int)) : List Str := headRow n la :: tiesF T F []
theorem rowsOf_len {n la : Int} {T F : List (List Int)} : (rowsOf n la T F).length = 1 + T.length + F.length := by
  show (tiesF T F []).length + 1 = _
  rw [tiesF_len]
  show T.length + F.length + 0 + 1 = _
  omega
theorem word_ok : okW "tie" = true ∧ okW "fall" = true ∧ okW "moments" = true ∧ okW "last" = true := by decide +kernel
theorem span_good {word : Str} {r : List Int} (hw : 32 ∉ word.cps.toList ∧ 10 ∉ word.cps.toList) (hl : word.length ≤ 20) (ho : okW word = true) (h : Row4 r) : GoodRow (spanRow word r) := by
  have l := row_len hl h
  refine ⟨free_join fun y hy => (words_free hw h.2 y hy).2, ⟨by omega, fun x hx => ?_⟩, by omega⟩
  rw [span_split hw h.2] at hx
  rcases List.mem_cons.mp hx with rfl | hx
  · exact ho
  · obtain ⟨n, hn, rfl⟩ := List.mem_map.mp hx
    exact (num_ok (h.2 n hn).1 (h.2 n hn).2).2.1
theorem head_good {n la : Int} (h1 : InR n) (h2 : InR la) : GoodRow (headRow n la) := by
  have l : (headRow n la).length ≤ 200 := rows_len (T := []) (F := []) h1 h2 (fun r hr => nomatch hr) (fun r hr => nomatch hr) _ List.mem_cons_self
  refine ⟨free_join fun y hy => (head_words h1 h2 y hy).2, ⟨by omega, fun x hx => ?_⟩, by omega⟩
  rw [head_split h1 h2] at hx
  simp only [List.mem_cons, List.not_mem_nil, or_false] at hx
  rcases hx with rfl | rfl | rfl | rfl
  · exact word_ok.2.2.1
  · exact (num_ok h1.1 h1.2).2.1
  · exact word_ok.2.2.2
  · exact (num_ok h2.1 h2.2).2.1
theorem rows_good {n la : Int} {T F : List (List Int)} (h : WebOk n la T F) : ∀ y ∈ rowsOf n la T F, GoodRow y := fun y hy => by
  obtain ⟨i1, i2⟩ := h.inr
  obtain ⟨r4T, r4F⟩ := h.r4
  rcases List.mem_cons.mp hy with rfl | hy
  · exact head_good i1 i2
  · unfold tiesF at hy
    rw [List.append_nil] at hy
    rcases List.mem_append.mp hy with q | q
    · obtain ⟨r, hr, rfl⟩ := List.mem_map.mp q
      exact span_good tie_free (by decide +kernel) word_ok.1 (r4T r hr)
    · obtain ⟨r, hr, rfl⟩ := List.mem_map.mp q
      exact span_good fall_free (by decide +kernel) word_ok.2.1 (r4F r hr)
theorem ins_rows {n la : Int} {T F : List (List Int)} {row : Str} {k : Nat} : (rowsOf n la T F).take (k + 1) ++ [row] ++ (rowsOf n la T F).drop (k + 1) = headRow n la :: tiesF (T.take k) (F.take (k - T.length)) (row :: (tiesF T F []).drop k) := by
  show headRow n la :: ((tiesF T F []).take k) ++ [row] ++ (tiesF T F []).drop k = _
  unfold tiesF
  rw [List.append_nil, List.take_append, List.length_map, ← List.map_take, ← List.map_take]
  simp
theorem ins_bad {n la : Int} {T F : List (List Int)} {row : Str} {i : Nat} (h : WebOk n la T F) (h1 : 1 ≤ i) (h2 : i ≤ (rowsOf n la T F).length) (hr : row ∈ oddL) : BadT ((rowsOf n la T F).take i ++ [row] ++ (rowsOf n la T F).drop i) (i : Int) := by
  obtain ⟨i1, i2⟩ := h.inr
  obtain ⟨r4T, r4F⟩ := h.r4
  obtain ⟨k, rfl⟩ : ∃ k, i = k + 1 := ⟨i - 1, by omega⟩
  rw [rowsOf_len] at h2
  refine .inr ⟨n, la, T.take k, F.take (k - T.length), row, (tiesF T F []).drop k, ins_rows, i1, i2, fun r hr => r4T r (List.mem_of_mem_take hr), fun r hr => r4F r (List.mem_of_mem_take hr), odd_bad hr _, ?_⟩
  rw [List.length_take, List.length_take]
  have : k + 1 = 1 + min k T.length + min (k - T.length) F.length := by omega
  rw [← this]
theorem ins_good {R : List Str} {row : Str} {i : Nat} (h : ∀ y ∈ R, GoodRow y) (hr : GoodRow row) : ∀ y ∈ R.take i ++ [row] ++ R.drop i, GoodRow y := fun y hy => by
  rcases List.mem_append.mp hy with hy | hy
  · rcases List.mem_append.mp hy with hy | hy
    · exact h y (List.mem_of_mem_take hy)
    · rw [List.mem_singleton.mp hy]
      exact hr
  · exact h y (List.mem_of_mem_drop hy)
theorem app_good {R X : List Str} (h : ∀ y ∈ R, GoodRow y) (h2 : ∀ y ∈ X, y ∈ moreL) : ∀ y ∈ R ++ X, GoodRow y := fun y hy => by
  rcases List.mem_append.mp hy with hy | hy
  · exact h y hy
  · exact good_in (List.mem_append_right _ (h2 y hy))
theorem rows_app {n la : Int} {T F : List (List Int)} {X : List Str} : rowsOf n la T F ++ X = headRow n la :: tiesF T F X := by
  show headRow n la :: (tiesF T F [] ++ X) = _
  unfold tiesF
  rw [List.append_nil]
theorem tie_bad {n la : Int} {T F : List (List Int)} (h : WebOk n la T F) (hF : F ≠ []) : BadT (rowsOf n la T F ++ [("tie 0 1 2 3" : Str)]) (((rowsOf n la T F).length : Nat) : Int) := by
  obtain ⟨i1, i2⟩ := h.inr
  obtain ⟨r4T, r4F⟩ := h.r4
  refine .inr ⟨n, la, T, F, "tie 0 1 2 3", [], rows_app, i1, i2, r4T, r4F, ?_, by rw [rowsOf_len]⟩
  rw [decide_eq_true hF]
  exact tie_behind
theorem fall_row : spanRow "fall" [0, 0, 1, 2] = "fall 0 0 1 2" := by
  unfold spanRow
  show Str.join blank ["fall", numT 0, numT 0, numT 1, numT 2] = _
  rw [numT_eq, numT_eq, numT_eq]
  decide +kernel
theorem fall_r4 {F : List (List Int)} (h : ∀ r ∈ F, Row4 r) : ∀ r ∈ F ++ [[0, 0, 1, 2]], Row4 r := fun r hr => by
  rcases List.mem_append.mp hr with hr | hr
  · exact h r hr
  · rw [List.mem_singleton.mp hr]
    refine ⟨rfl, fun n hn => ?_⟩
    simp only [List.mem_cons, List.not_mem_nil, or_false] at hn
    unfold InR
    rcases hn with rfl | rfl | rfl | rfl <;> omega
theorem rows_fall {n la : Int} {T F : List (List Int)} {X : List Str} : rowsOf n la T F ++ (("fall 0 0 1 2" : Str) :: X) = headRow n la :: tiesF T (F ++ [[0, 0, 1, 2]]) X := by
  rw [rows_app]
  unfold tiesF
  rw [List.map_append, List.map_cons, List.map_nil, fall_row]
  simp
theorem two_bad {n la : Int} {T F : List (List Int)} (h : WebOk n la T F) : BadT (rowsOf n la T F ++ [("fall 0 0 1 2" : Str), "fall 0 1"]) (((rowsOf n la T F).length : Nat) + 1 : Int) := by
  obtain ⟨i1, i2⟩ := h.inr
  obtain ⟨r4T, r4F⟩ := h.r4
  refine .inr ⟨n, la, T, F ++ [[0, 0, 1, 2]], "fall 0 1", [], rows_fall, i1, i2, r4T, fall_r4 r4F, fall_short _, ?_⟩
  rw [rowsOf_len, List.length_append]
  show _ = ((1 + T.length + (F.length + 1) : Nat) : Int)
  omega
theorem firstV_ne {f : Nat → List Int → Option Str} {r : List Int} (h : ∀ i, f i r ≠ none) : ∀ {T : List (List Int)} {k : Nat}, r ∈ T → firstV f T k ≠ none
  | [], _, hr => nomatch hr
  | x :: t, k, hr => by
    unfold firstV
    cases e : f k x with
    | some w => exact fun z => nomatch z
    | none =>
      rcases List.mem_cons.mp hr with rfl | hr
      · exact absurd e (h k)
      · exact firstV_ne h hr
theorem web_bad {n la : Int} {T F : List (List Int)} (h : WebOk n la T F) : BadW (rowsOf n la T F ++ [("fall 0 0 1 2" : Str)]) := by
  obtain ⟨i1, i2⟩ := h.inr
  obtain ⟨r4T, r4F⟩ := h.r4
  have hs : sizeV n la = none := by
    unfold sizeV
    rw [if_neg (not_not_intro ⟨h.n1, h.n2⟩), if_neg (not_not_intro ⟨h.l1, h.l2⟩)]
  have hf : firstV (fallV n ((F ++ [[0, 0, 1, 2]]).map endI)) (F ++ [[0, 0, 1, 2]]) 0 ≠ none := by
    refine firstV_ne (r := [0, 0, 1, 2]) (fun i => ?_) (List.mem_append_right _ List.mem_cons_self)
    show (if twoB n 0 0 = false ∨ (0 : Int) ∈ _ then some ("fall" : Str) else _) ≠ none
    rw [if_pos (.inl (decide_eq_false (by omega)))]
    exact fun z => nomatch z
  obtain ⟨x, hx⟩ : ∃ x, webV n la T (F ++ [[0, 0, 1, 2]]) = some x := by
    unfold webV
    rw [hs]
    show ∃ x, (match firstV (tieV n) T 0 with | some x => some ((x.1 : Int), x.2) | none => (firstV (fallV n ((F ++ [[0, 0, 1, 2]]).map endI)) (F ++ [[0, 0, 1, 2]]) 0).map fun x => ((x.1 : Int), x.2)) = some x
    cases firstV (tieV n) T 0 with
    | some y => exact ⟨_, rfl⟩
    | none =>
      cases e : firstV (fallV n ((F ++ [[0, 0, 1, 2]]).map endI)) (F ++ [[0, 0, 1, 2]]) 0 with
      | none => exact absurd e hf
      | some y => exact ⟨_, rfl⟩
  exact ⟨n, la, T, F ++ [[0, 0, 1, 2]], x.1, x.2, rows_fall, i1, i2, r4T, fall_r4 r4F, hx⟩
theorem heads_text {R : List Str} {row : Str} (h : row ∈ headsL) : BadT (row :: R) 0 := .inl ⟨row, R, rfl, heads_bad h, rfl⟩
end W

set_option Elab.async false
set_option linter.all false
set_option maxRecDepth 100000
set_option maxHeartbeats 4000000
namespace W
open PySem L2
theorem kit_ss {K : PySem.W.Frag} : PySem.W.kitOne K (.type "str") (.type "str") = some true := by
  unfold PySem.W.kitOne
  rw [if_pos (by decide +kernel)]
theorem ints_like2 {H : Hp} {d : Nat} (ns : List Int) (i : Nat) (a b : V) (ha : (ns.map V.int)[i]? = some a) (hb : (ns.map V.int)[i]? = some b) : LikeD d H a b := by
  rw [ha] at hb
  cases hb
  rw [List.getElem?_map] at ha
  cases q : ns[i]? with
  | none => rw [q] at ha; cases ha
  | some k =>
    rw [q] at ha
    cases ha
    cases d with
    | zero => exact .inl ⟨k, rfl, rfl⟩
    | succ d => exact .inl ⟨k, rfl, rfl⟩
theorem rows_like {H : Hp} {l m : Addr} {ps qs : List Addr} {T : List (List Int)} (g : RowsP H l ps T) (h : RowsP H m qs T) (hT : T.length ≤ 1000) (h4 : Four4 T) : LikeD 2 H (.ref l) (.ref m) := by
  refine .inr (.inr ⟨l, m, _, _, rfl, rfl, .inl ⟨g.1, h.1⟩, by rw [List.length_map, List.length_map, g.len, h.len], by rw [List.length_map, g.len]; exact hT, fun i a b ha hb => ?_⟩)
  obtain ⟨q, r, rfl, _, hr, hqt⟩ := g.get ha
  obtain ⟨q', r', rfl, _, hr', hqt'⟩ := h.get hb
  rw [hr] at hr'
  cases hr'
  obtain ⟨x1, x2, x3, x4, rfl⟩ := h4 r (List.mem_of_getElem? hr)
  exact .inr (.inr ⟨q, q', _, _, rfl, rfl, .inr ⟨hqt, hqt'⟩, rfl, by show 4 ≤ 1000; decide, ints_like2 _⟩)
section
variable {P : Program} {w : World} {K : PySem.W.Frag} {mg : Str → Option Value} {base : Heap}
noncomputable abbrev n18 : List Str := ["_law_script", "_law_d", "_law_w", "_law_rows_here", "_law_row", "_law_at", "_law_found", "_law_web_here"]
theorem sc18 : FnScope n18 ["_law_script"] (defScope sLaw) := ⟨rfl, rfl, rfl, by decide +kernel, rfl, by decide +kernel, by decide +kernel⟩
section
seal L2.PE L2.PA L2.PT L2.PS L2.PSs L2.PG L2.PGs L2.PI L2.PO
theorem ok_law {f C CT CB fN fW fI fL fRf fLb fLr fWt fR fT fF : Addr} {fd fdN fdW fdI fdL fdRf fdLb fdLr fdWt fdR fdT fdF : FuncData} (F : Fn K mg "law" sLaw ["_law_script"] f fd) (T : TxtK K mg) (TC : TxtC K mg C)
    (FN : Fn K mg "_law_next" sNext ["_law_dice", "_law_many"] fN fdN) (GN : FnOk P w K mg base CX0 1 fN fdN ["_law_dice", "_law_many"] (spNext K))
    (FW : Fn K mg "_law_web" sWeb ["_law_d", "_law_most", "_law_last", "_law_wide"] fW fdW) (GW : FnOk P w K mg base CX0 3 fW fdW ["_law_d", "_law_most", "_law_last", "_law_wide"] (spWeb K))
    (M : Mk K C fI) (bI : Binds K fdI ["self", "many", "last", "ties", "falls"] []) (GI : FnOk P w K mg base CX0 3 fI fdI ["self", "many", "last", "ties", "falls"] (spInitF C))
    (mT : Meth K C "ties" fT) (bT : Binds K fdT ["self"] []) (GT : FnOk P w K mg base CX0 1 fT fdT ["self"] (spGet C fun T _ => T))
    (mF : Meth K C "falls" fF) (bF : Binds K fdF ["self"] []) (GF : FnOk P w K mg base CX0 1 fF fdF ["self"] (spGet C fun _ F => F))
    (FL : Fn K mg "_law_like" sL_like ["_law_found", "_law_due"] fL fdL) (GL : FnOk P w K mg base CX0 4 fL fdL ["_law_found", "_law_due"] (spLike 3))
    (FRf : Fn K mg "_law_refused" sL_refused ["_law_rows_here", "_law_word", "_law_at"] fRf fdRf) (GRf : FnOk P w K mg base CX0 7 fRf fdRf ["_law_rows_here", "_law_word", "_law_at"] spRefT)
    (FLb : Fn K mg "_law_bad" sL_bad ["_law_d", "_law_rows_here"] fLb fdLb) (GLb : FnOk P w K mg base CX0 2 fLb fdLb ["_law_d", "_law_rows_here"] (spLBad K))
    (FLr : Fn K mg "_law_rows" sL_rows ["_law_w"] fLr fdLr) (GLr : FnOk P w K mg base CX0 1 fLr fdLr ["_law_w"] spLRows)
    (FWt : Fn K mg "written" sP_written ["web"] fWt fdWt) (GWt : FnOk P w K mg base CX0 2 fWt fdWt ["web"] (spWritten C))
    (FR : Fn K mg "read" sP_read ["text"] fR fdR) (GR : FnOk P w K mg base (CX1 P w) 6 fR fdR ["text"] (spRead C CT CB)) :
    FnOk P w K mg base CX0 8 f fd ["_law_script"] (spLaw K) := by
  refine F.F.ok sc18 (fun vs H Q E h => ?_) (fun cdv A outer s H vs Q E hr h => ?_)
  · obtain ⟨a, ns, rfl, _⟩ := h
    rfl
  · obtain ⟨a, ns, rfl, hS, k⟩ := h
    have hr1 : Room 1 _ := hr.mono (by decide)
    have hr2 : Room 2 _ := hr.mono (by decide)
    have hr3 : Room 3 _ := hr.mono (by decide)
    have hr4 : Room 4 _ := hr.mono (by decide)
    have hr6 : Room 6 _ := hr.mono (by decide)
    refine ⟨_, pss_consA (ps_set (i := 1) sc18.nd rfl (Or.inl rfl) (pe_lst (pa_cons (pv 0) (pa_cons pe_int pa_nil))))
      (pss_consA (ps_set (i := 2) sc18.nd rfl (Or.inl rfl) (pe_call GW hr3 rfl FW.g FW.F.kp FW.b .nil pass0 (pa_cons (pv 1) (pa_cons pe_int (pa_cons pe_int (pa_cons pe_int pa_nil))))))
      (pss_consA (ps_set (i := 3) sc18.nd rfl (Or.inl rfl) (pe_call GLr hr1 rfl FLr.g FLr.F.kp FLr.b .nil pass0 (pa_cons (pv 2) pa_nil)))
      (pss_consA (ps_if (pt_cmpR op_eq (pe_call GN hr1 rfl FN.g FN.F.kp FN.b .nil pass0 (pa_cons (pv 1) (pa_cons pe_int pa_nil))) pe_int (nomark _))
        (pss_consA (ps_asg (pe_call GLb hr2 rfl FLb.g FLb.F.kp FLb.b .nil pass0 (pa_cons (pv 1) (pa_cons (pv 3) pa_nil))) (pg_tupK (K := K) (n := 2) rfl rfl (pgs_cons (pg_name (i := 4) sc18.nd rfl (Or.inl rfl)) (pgs_cons (pg_name (i := 5) sc18.nd rfl (Or.inl rfl)) pgs_nil))))
        (pss_consA (ps_if (pt_cmpR op_eq (pv 5) pe_int (nomark _))
          (pss_one (ps_ret (pe_call GRf hr rfl FRf.g FRf.F.kp FRf.b .nil pass0 (pa_cons (pe_op op_cat (pe_lst (pa_cons (pv 4) pa_nil)) (pe_slice sl_list (pv 3) (po_some pe_int) po_none)) (pa_cons pe_str (pa_cons pe_int pa_nil)))))) pss_nil)
        (pss_consA (ps_if (pt_not (pt_val (pe_call GRf hr rfl FRf.g FRf.F.kp FRf.b .nil pass0 (pa_cons (pe_op op_cat (pe_op op_cat (pe_slice sl_list (pv 3) po_none (po_some (pv 5))) (pe_lst (pa_cons (pv 4) pa_nil))) (pe_slice sl_list (pv 3) (po_some (pv 5)) po_none)) (pa_cons pe_str (pa_cons (pv 5) pa_nil)))))) pss_never pss_nil)
        (pss_consA (ps_if (PW.pt (pw_and (pt_cmpR (op_neNil (K := K) rfl hr.units) (pe_ix ix_tup0 (pv 2) pe_int (fun _ _ => rfl)) (pe_lst pa_nil) (nomark _)) (pw_and1 (pt_not (pt_val (pe_call GRf hr rfl FRf.g FRf.F.kp FRf.b .nil pass0 (pa_cons (pe_op op_cat (pv 3) (pe_lst (pa_cons pe_str pa_nil))) (pa_cons pe_str (pa_cons (pe_callB call_len_seq (by rfl) T.len PySem.boot_len (pa_cons (pv 3) pa_nil)) pa_nil))))))))) pss_never pss_nil)
        (pss_consA (ps_if (pt_not (pt_val (pe_call GRf hr rfl FRf.g FRf.F.kp FRf.b .nil pass0 (pa_cons (pe_op op_cat (pv 3) (pe_lst (pa_cons pe_str (pa_cons pe_str pa_nil)))) (pa_cons pe_str (pa_cons (pe_op op_add (pe_callB call_len_seq (by rfl) T.len PySem.boot_len (pa_cons (pv 3) pa_nil)) pe_int) pa_nil)))))) pss_never pss_nil)
        (pss_one (ps_ret (pe_call GRf hr rfl FRf.g FRf.F.kp FRf.b .nil pass0 (pa_cons (pe_op op_cat (pv 3) (pe_lst (pa_cons pe_str pa_nil))) (pa_cons pe_str (pa_cons pe_int pa_nil))))))))))) pss_nil)
      (pss_consA (ps_set (i := 6) sc18.nd rfl (Or.inl rfl) (pe_call GWt hr2 rfl FWt.g FWt.F.kp FWt.b .nil pass0 (pa_cons (pe_make M GI hr4 rfl TC.mgC bI .nil pass0 (pa_cons (pe_ix ix_tup0 (pv 2) pe_int (fun _ _ => rfl)) (pa_cons (pe_ix ix_tup0 (pv 2) pe_int (fun _ _ => rfl)) (pa_cons (pe_ix ix_tup0 (pv 2) pe_int (fun _ _ => rfl)) (pa_cons (pe_ix ix_tup0 (pv 2) pe_int (fun _ _ => rfl)) pa_nil))))) pa_nil)))
      (pss_consA (ps_if (PW.pt (pw_or (pt_not (pt_val (pe_callB call_isinst (by rfl) T.isi (by decide +kernel) (pa_cons (pv 6) (pa_cons (pe_bltn (v := .ty "str") rfl T.str (by decide +kernel) rfl) pa_nil))))) (pw_or1 (pt_cmpR op_ne (pv 6) (pe_bm PySem.F.plainAttrs_str PySem.F.slot_str_join PySem.F.type_str_join mt_join pe_str (pa_cons (pv 3) pa_nil)) (nomark _))))) pss_never pss_nil)
      (pss_consA (ps_set (i := 7) sc18.nd rfl (Or.inl rfl) (pe_call GR hr6 rfl FR.g FR.F.kp FR.b .nil passN (pa_cons (pv 6) pa_nil)))
      (pss_one (ps_ret (pe_and (pe_call GL hr4 rfl FL.g FL.F.kp FL.b .nil pass0 (pa_cons (pe_lst (pa_cons (pe_meth0 (pv 7) TC.cl mT GT hr1 bT .nil pass0) (pa_cons (pe_meth0 (pv 7) TC.cl mF GF hr1 bF .nil pass0) pa_nil))) (pa_cons (pe_lst (pa_cons (pe_ix ix_tup0 (pv 2) pe_int (fun _ _ => rfl)) (pa_cons (pe_ix ix_tup0 (pv 2) pe_int (fun _ _ => rfl)) pa_nil))) pa_nil)))
        (pe_one (pe_cmpR op_eq (pe_call GWt hr2 rfl FWt.g FWt.F.kp FWt.b .nil pass0 (pa_cons (pv 7) pa_nil)) (pv 6) (nomark _)))))))))))), ?_⟩
    -- the dice
    refine fun N1 c1 => ⟨_, rfl, by show 2 ≤ sizeLine; decide, fun d hd => c1 _ _ ?_⟩
    have D1 : Dice K a (upd H d (.lst [.ref a, .int 0])) d := ⟨⟨0, upd_same⟩, ⟨ns, hS.same (same_new hd)⟩⟩
    generalize upd H d (.lst [.ref a, .int 0]) = H1 at *
    clear c1 N1
    -- the web
    refine fun N2 c2 => ⟨_, rfl, d, a, 8, 60, 8, rfl, D1, by decide, by decide, by decide, by decide, by decide, by decide, fun wp ta fa n la rT rF H2 etup RT RF hok n2 nm lm D2 k2 tad fad few => c2 _ _ ?_⟩
    have DA2 : DrawnAt H2 wp ta fa n la rT rF := ⟨etup, RT, RF⟩
    have htl := hok.tl
    have hfl := hok.fl
    clear c2 N2
    -- its rows
    refine fun N3 c3 => ⟨_, rfl, wp, ta, fa, n, la, rT, rF, rfl, DA2, hok, fun l H3 hl s3 e3 => c3 _ _ ?_⟩
    clear c3 N3
    have e3 : H3 l = some (.lst ((rowsOf n la rT rF).map V.str)) := e3
    have DA3 := DA2.same s3
    have D3 := D2.same s3
    obtain ⟨dp3, hd3⟩ := D3.at_
    have ld : l ≠ d := by
      obtain ⟨dp2, hd2⟩ := D2.at_
      exact Ne.symm (ne_of_none hd2 hl)
    have hRl : (rowsOf n la rT rF).length = 1 + rT.length + rF.length := rowsOf_len
    have hRg := rows_good hok
    refine fun N4 c4 => ⟨_, rfl, d, a, _, rfl, D3, by decide, fun r0 H4 _ _ D4 k4 => ⟨rfl, _, rfl, ?_⟩⟩
    have DA4 := DA3.keep k4 hd3 tad fad
    have e4 := k4 _ _ e3 ld
    clear k2 RT RF etup D1 D2 DA2 e3 s3 DA3 D3 hd3 k4 hl
    refine ite2 (fun _ => ?_) (fun _ => c4 _ _ ?_)
    · -- spoilt
      clear c4
      refine fun N5 c5 => ⟨_, rfl, _, rfl, d, a, l, _, rfl, D4, e4, ld, by omega, by omega, fun p row i H5 ep hri D5 k5 => ⟨p, _, rfl, SqT.of ep, rfl, _, _, rfl, _, _, rfl, rfl, c5 _ _ ?_⟩⟩
      obtain ⟨dp4, hd4⟩ := D4.at_
      have DA5 := DA4.keep k5 hd4 tad fad
      have e5 := k5 _ _ e4 ld
      have lm : ((rowsOf n la rT rF).map V.str).length = 1 + rT.length + rF.length := by rw [List.length_map, hRl]
      clear c5 N5 k5 DA4 e4 hd4 D4 ep
      refine fun N6 c6 => ⟨_, rfl, rfl, _, rfl, ?_⟩
      rcases hri with ⟨rfl, hrow⟩ | ⟨h1, h2, hrow⟩
      · refine iteBT (decide_eq_true rfl) ?_
        refine ⟨_, rfl, by show 1 ≤ sizeLine; decide, fun p1 hp1 => ⟨_, rfl, _, rfl, l, _, rfl, SqL.of (same_new hp1 _ _ e5), fun p2 hp2 => ?_⟩⟩
        have cf : cutV ((rowsOf n la rT rF).map V.str) (some 1) none = (tiesF rT rF []).map V.str := cut_from (k := 1) (by omega)
        rw [cf]
        have u1 := same_new (o := .lst ((tiesF rT rF []).map V.str)) hp2
        refine ⟨p1, p2, _, _, rfl, rfl, u1 _ _ upd_same, upd_same, ?_, fun p3 hp3 => ?_⟩
        · rw [List.length_map, tiesF_len]
          exact lz20 (by show 1 + (rT.length + rF.length + 0) ≤ 1000; omega)
        have tl3 : (tiesF rT rF []).length = rT.length + rF.length := by rw [tiesF_len]; rfl
        refine ⟨p3, row :: tiesF rT rF [], "text", 0, rfl, upd_same, by simp, by rw [List.length_cons, tl3]; omega, fun y hy => ?_, .inl ⟨rfl, heads_text hrow⟩, fun H' _ => k H'⟩
        rcases List.mem_cons.mp hy with rfl | hy
        · exact good_in (List.mem_append_left _ (List.mem_append_right _ hrow))
        · exact hRg y (List.mem_cons_of_mem _ hy)
      · refine iteB (decide_eq_false fun z => by have := V.int.inj z; omega) (c6 _ _ ?_)
        clear c6 N6
        have hi : i ≤ ((rowsOf n la rT rF).map V.str).length := by omega
        -- a row that is none
        refine fun N7 c7 => ⟨_, rfl, _, rfl, _, rfl, l, _, rfl, SqL.of e5, fun p1 hp1 => ?_⟩
        rw [cut_to hi]
        have u1 := same_new (o := .lst (((rowsOf n la rT rF).map V.str).take i)) hp1
        have x1 : upd H5 p1 (.lst (((rowsOf n la rT rF).map V.str).take i)) p1 = some (.lst (((rowsOf n la rT rF).map V.str).take i)) := upd_same
        generalize upd H5 p1 (.lst (((rowsOf n la rT rF).map V.str).take i)) = G1 at *
        refine ⟨_, rfl, by show 1 ≤ sizeLine; decide, fun p2 hp2 => ?_⟩
        have u2 := same_new (o := .lst [V.str row]) hp2
        have x2 : upd G1 p2 (.lst [V.str row]) p2 = some (.lst [V.str row]) := upd_same
        generalize upd G1 p2 (.lst [V.str row]) = G2 at *
        refine ⟨p1, p2, _, _, rfl, rfl, u2 _ _ x1, x2, ?_, fun p3 hp3 => ?_⟩
        · rw [List.length_take]
          exact lz20 (by show min i _ + 1 ≤ 1000; omega)
        have u3 := same_new (o := .lst (((rowsOf n la rT rF).map V.str).take i ++ [V.str row])) hp3
        have x3 : upd G2 p3 (.lst (((rowsOf n la rT rF).map V.str).take i ++ [V.str row])) p3 = some (.lst (((rowsOf n la rT rF).map V.str).take i ++ [V.str row])) := upd_same
        generalize upd G2 p3 (.lst (((rowsOf n la rT rF).map V.str).take i ++ [V.str row])) = G3 at *
        have s3 := (u1.trans u2).trans u3
        refine ⟨_, rfl, _, rfl, _, rfl, l, _, rfl, SqL.of (s3 _ _ e5), fun p4 hp4 => ?_⟩
        rw [cut_from hi]
        have u4 := same_new (o := .lst (((rowsOf n la rT rF).map V.str).drop i)) hp4
        have x4 : upd G3 p4 (.lst (((rowsOf n la rT rF).map V.str).drop i)) p4 = some (.lst (((rowsOf n la rT rF).map V.str).drop i)) := upd_same
        generalize upd G3 p4 (.lst (((rowsOf n la rT rF).map V.str).drop i)) = G4 at *
        refine ⟨p3, p4, _, _, rfl, rfl, u4 _ _ x3, x4, ?_, fun p5 hp5 => ?_⟩
        · rw [List.length_append, List.length_take, List.length_drop]
          exact lz20 (by show min i _ + 1 + _ ≤ 1000; omega)
        have cat : ((rowsOf n la rT rF).map V.str).take i ++ [V.str row] ++ ((rowsOf n la rT rF).map V.str).drop i = ((rowsOf n la rT rF).take i ++ [row] ++ (rowsOf n la rT rF).drop i).map V.str := by
          rw [List.map_append, List.map_append, List.map_take, List.map_drop]
          rfl
        rw [cat]
        have s5 := (s3.trans u4).trans (same_new (o := .lst (((rowsOf n la rT rF).take i ++ [row] ++ (rowsOf n la rT rF).drop i).map V.str)) hp5)
        refine ⟨_, rfl, p5, _, "text", i, rfl, upd_same, by simp, ?_, ins_good hRg (good_in (List.mem_append_left _ (List.mem_append_left _ hrow))), .inl ⟨rfl, ins_bad hok h1 h2 hrow⟩, fun H6 s6 => ⟨_, rfl, iteB rfl (c7 _ _ ?_)⟩⟩
        · rw [List.length_append, List.length_append, List.length_take, List.length_drop]
          show min i _ + 1 + _ ≤ 100
          omega
        have s56 := s5.trans s6
        have e6 := s56 _ _ e5
        have DA6 := DA5.same s56
        clear c7 N7 u1 u2 u3 u4 s3 s5 x1 x2 x3 x4 s6 cat
        clear hp1 hp2 hp3 hp4 hp5
        -- a tie behind the falls
        obtain ⟨pf, RF⟩ := DA6.f
        have key : ∀ (N : St → Hp → Prop) (σ : St), (∀ H7, Same H6 H7 → N σ H7) → ∀ H7, Same H6 H7 → N σ H7 := fun N σ z => z
        refine fun N7 c7 => ⟨_, rfl, rdT DA6.tup rfl ⟨Nat.zero_le _, fun el hel => ?_⟩⟩
        have u1 := same_new (o := .lst []) hel
        refine ⟨fa, el, _, rfl, rfl, SqL.of (u1 _ _ RF.1), SqL.of upd_same, _, rfl, ?_⟩
        have later : ∀ H7, Same H6 H7 → N7 [some (.ref a), some (.ref d), some (.ref wp), some (.ref l), some (.str row), some (.int i), none, none] H7 := by
          intro H7 s7
          refine c7 _ _ ?_
          have e7 := s7 _ _ e6
          -- two falls
          refine fun N8 c8 => ⟨_, rfl, by show 2 ≤ sizeLine; decide, fun p1 hp1 => ?_⟩
          have u1 := same_new (o := .lst [V.str "fall 0 0 1 2", V.str "fall 0 1"]) hp1
          have x1 : upd H7 p1 (.lst [V.str "fall 0 0 1 2", V.str "fall 0 1"]) p1 = some (.lst [V.str "fall 0 0 1 2", V.str "fall 0 1"]) := upd_same
          generalize upd H7 p1 (.lst [V.str "fall 0 0 1 2", V.str "fall 0 1"]) = G1 at *
          refine ⟨l, p1, _, _, rfl, rfl, u1 _ _ e7, x1, ?_, fun p2 hp2 => ?_⟩
          · rw [lm]
            exact lz20 (by show 1 + rT.length + rF.length + 2 ≤ 1000; omega)
          have cat : (rowsOf n la rT rF).map V.str ++ [V.str "fall 0 0 1 2", V.str "fall 0 1"] = (rowsOf n la rT rF ++ [("fall 0 0 1 2" : Str), "fall 0 1"]).map V.str := by rw [List.map_append]; rfl
          rw [cat]
          have s2 := u1.trans (same_new (o := .lst ((rowsOf n la rT rF ++ [("fall 0 0 1 2" : Str), "fall 0 1"]).map V.str)) hp2)
          have x2 : upd G1 p2 (.lst ((rowsOf n la rT rF ++ [("fall 0 0 1 2" : Str), "fall 0 1"]).map V.str)) p2 = some (.lst ((rowsOf n la rT rF ++ [("fall 0 0 1 2" : Str), "fall 0 1"]).map V.str)) := upd_same
          generalize upd G1 p2 (.lst ((rowsOf n la rT rF ++ [("fall 0 0 1 2" : Str), "fall 0 1"]).map V.str)) = G2 at *
          refine ⟨_, rfl, l, _, rfl, .inl (SqL.of (s2 _ _ e7)), _, _, rfl, rfl, ?_⟩
          rw [List.length_map]
          refine ⟨p2, _, "text", _, rfl, x2, by simp, ?_, app_good hRg (fun y hy => List.mem_cons_of_mem _ hy), .inl ⟨rfl, two_bad hok⟩, fun H8 s8 => ⟨_, rfl, iteB rfl (c8 _ _ ?_)⟩⟩
          · rw [List.length_append]
            show _ + 2 ≤ 100
            omega
          have e8 := (s2.trans s8) _ _ e7
          refine ⟨_, rfl, by show 1 ≤ sizeLine; decide, fun p1 hp1 => ?_⟩
          have u1 := same_new (o := .lst [V.str "fall 0 0 1 2"]) hp1
          refine ⟨l, p1, _, _, rfl, rfl, u1 _ _ e8, upd_same, ?_, fun p2 hp2 => ?_⟩
          · rw [lm]
            exact lz20 (by show 1 + rT.length + rF.length + 1 ≤ 1000; omega)
          have cat : (rowsOf n la rT rF).map V.str ++ [V.str "fall 0 0 1 2"] = (rowsOf n la rT rF ++ [("fall 0 0 1 2" : Str)]).map V.str := by rw [List.map_append]; rfl
          rw [cat]
          refine ⟨p2, _, "web", 0, rfl, upd_same, by simp, ?_, app_good hRg (fun y hy => by rw [List.mem_singleton.mp hy]; decide +kernel), .inr ⟨rfl, web_bad hok⟩, fun H' _ => k H'⟩
          rw [List.length_append]
          show _ + 1 ≤ 100
          omega
        by_cases cF : rF = []
        · refine iteB ?_ (iteF (later _ u1))
          have : pf = [] := List.eq_nil_of_length_eq_zero (by rw [RF.len, cF]; rfl)
          rw [this]
          rfl
        · refine iteBT ?_ ?_
          · cases pf with
            | nil => exact absurd (List.eq_nil_of_length_eq_zero (by rw [← RF.len]; rfl)) cF
            | cons x y => rfl
          have e7 := u1 _ _ e6
          generalize upd H6 el (.lst []) = H7 at *
          refine ⟨_, rfl, by show 1 ≤ sizeLine; decide, fun p1 hp1 => ?_⟩
          have v1 := same_new (o := .lst [V.str "tie 0 1 2 3"]) hp1
          refine ⟨l, p1, _, _, rfl, rfl, v1 _ _ e7, upd_same, ?_, fun p2 hp2 => ?_⟩
          · rw [lm]
            exact lz20 (by show 1 + rT.length + rF.length + 1 ≤ 1000; omega)
          have cat : (rowsOf n la rT rF).map V.str ++ [V.str "tie 0 1 2 3"] = (rowsOf n la rT rF ++ [("tie 0 1 2 3" : Str)]).map V.str := by rw [List.map_append]; rfl
          rw [cat]
          have v2 := v1.trans (same_new (o := .lst ((rowsOf n la rT rF ++ [("tie 0 1 2 3" : Str)]).map V.str)) hp2)
          have x2 : upd (upd H7 p1 (.lst [V.str "tie 0 1 2 3"])) p2 (.lst ((rowsOf n la rT rF ++ [("tie 0 1 2 3" : Str)]).map V.str)) p2 = some (.lst ((rowsOf n la rT rF ++ [("tie 0 1 2 3" : Str)]).map V.str)) := upd_same
          generalize upd (upd H7 p1 (.lst [V.str "tie 0 1 2 3"])) p2 (.lst ((rowsOf n la rT rF ++ [("tie 0 1 2 3" : Str)]).map V.str)) = G2 at *
          refine ⟨_, rfl, l, _, rfl, .inl (SqL.of (v2 _ _ e7)), ?_⟩
          rw [List.length_map]
          refine ⟨p2, _, "text", _, rfl, x2, by simp, ?_, app_good hRg (fun y hy => by rw [List.mem_singleton.mp hy]; decide +kernel), .inl ⟨rfl, tie_bad hok cF⟩, fun H8 s8 => ⟨_, rfl, iteB rfl (later _ ((u1.trans v2).trans s8))⟩⟩
          rw [List.length_append]
          show _ + 1 ≤ 100
          omega
    · -- as it is
      clear c4
      have f4T : Four4 rT := fun r hr => by
        obtain ⟨a, b, l, m, e, _⟩ := hok.t r hr
        exact ⟨a, b, l, m, e⟩
      have f4F : Four4 rF := fun r hr => by
        obtain ⟨a, b, l, m, e, _⟩ := hok.f r hr
        exact ⟨a, b, l, m, e⟩
      obtain ⟨i1, i2⟩ := hok.inr
      obtain ⟨r4T, r4F⟩ := hok.r4
      refine fun N5 c5 => ⟨_, rfl, rdT DA4.tup rfl ⟨_, rfl, rdT DA4.tup rfl ⟨_, rfl, rdT DA4.tup rfl ⟨_, rfl, rdT DA4.tup rfl (fun x dx nx ndx nex => ?_)⟩⟩⟩⟩
      have s5 : Same H4 (upd (upd H4 dx (.own x)) x (.ins C dx [])) := fun b o e => by
        rw [upd_ne (ne_of_none e nx), upd_ne (ne_of_none e ndx)]
        exact e
      refine ⟨x, dx, n, la, ta, fa, rT, rF, rfl, upd_same, DA4.t.same s5, DA4.f.same s5, hok, fun H6 ta' fa' dx' eI rt rf hta hfa _ _ k6 => ⟨rfl, ?_⟩⟩
      have s6 : Same H4 H6 := fun b o e => k6 b o (s5 _ _ e) (ne_of_none e nx)
      refine ⟨x, n, la, rT, rF, rfl, ⟨dx', ta', fa', eI, rt, rf⟩, hok, fun H7 s7 => c5 _ _ ?_⟩
      clear c5 N5 s5
      have s47 := s6.trans s7
      have e7 := s47 _ _ e4
      have DA7 := DA4.same s47
      have h100 : (rowsOf n la rT rF).length ≤ 100 := by omega
      have tl := text_len h100 hRg
      refine fun N6 c6 => ⟨_, rfl, _, _, _, true, rfl, .str _, kit_ss, _, rfl, iteB rfl ?_⟩
      refine ⟨_, rfl, rfl, _, rfl, nl, l, _, rfl, rfl, e7, by omega, rfl, _, rfl, iteB ?_ (c6 _ _ ?_)⟩
      · rw [txt_join]
        show (!decide (V.str (textOf n la rT rF) = V.str (textOf n la rT rF))) = false
        rw [decide_eq_true rfl]
        rfl
      clear c6 N6
      have hj := StrLaws.join_length_le nl (rowsOf n la rT rF)
      refine fun N7 c7 => ⟨_, rfl, textOf n la rT rF, headRow n la, tiesF rT rF [], rfl, (by show (Str.join nl (rowsOf n la rT rF)).length ≤ _; omega), split_text (by simp) hRg, ?_, fun r hr => (hRg r hr).2.1, .inr ⟨n, la, rT, rF, [], rfl, i1, i2, rfl, r4T, r4F, .inl ⟨rfl, hok, fun p H8 hp s8 W8 => c7 _ _ ?_⟩⟩⟩
      · rw [tiesF_len]
        show rT.length + rF.length + 0 ≤ 100
        omega
      clear c7 N7
      obtain ⟨dx8, ta8, fa8, ep8, rt8, rf8⟩ := id W8
      have nt : (wflds n la ta8 fa8).lookup ("ties" : Str) = none := w_no _ _ _ _ (by decide +kernel) (by decide +kernel) (by decide +kernel) (by decide +kernel)
      have nf : (wflds n la ta8 fa8).lookup ("falls" : Str) = none := w_no _ _ _ _ (by decide +kernel) (by decide +kernel) (by decide +kernel) (by decide +kernel)
      refine ⟨_, rfl, p, dx8, _, rfl, ep8, nt, p, n, la, rT, rF, rfl, W8, fun l1 H9 hl1 s9 R9 => ?_⟩
      refine ⟨_, rfl, p, dx8, _, rfl, s9 _ _ ep8, nf, p, n, la, rT, rF, rfl, W8.same s9, fun l2 H10 hl2 s10 R10 => ?_⟩
      refine ⟨by show 2 ≤ sizeLine; decide, fun fl hfl' => ?_⟩
      obtain ⟨ps1, R9⟩ := R9
      obtain ⟨ps2, R10⟩ := R10
      have R9 : RowsP H9 l1 ps1 rT := R9
      have R10 : RowsP H10 l2 ps2 rF := R10
      have sB := same_new (o := .lst [.ref l1, .ref l2]) hfl'
      have eB : upd H10 fl (.lst [.ref l1, .ref l2]) fl = some (.lst [.ref l1, .ref l2]) := upd_same
      have Q1 := (R9.same s10).same sB
      have Q2 := R10.same sB
      have s8B := (s9.trans s10).trans sB
      generalize upd H10 fl (.lst [.ref l1, .ref l2]) = HB at *
      have DAB := (DA7.same s8).same s8B
      obtain ⟨pt7, Rt7⟩ := DAB.t
      obtain ⟨pf7, Rf7⟩ := DAB.f
      refine ⟨_, rfl, rdT DAB.tup rfl ⟨_, rfl, rdT DAB.tup rfl ⟨by show 2 ≤ sizeLine; decide, fun dl hdl => ?_⟩⟩⟩
      have sC := same_new (o := .lst [.ref ta, .ref fa]) hdl
      have eC : upd HB dl (.lst [.ref ta, .ref fa]) dl = some (.lst [.ref ta, .ref fa]) := upd_same
      generalize upd HB dl (.lst [.ref ta, .ref fa]) = HC at *
      refine ⟨.ref fl, .ref dl, rfl, .inr (.inr ⟨fl, dl, _, _, rfl, rfl, .inl ⟨sC _ _ eB, eC⟩, rfl, by show 2 ≤ 1000; decide, fun j u v hu hv => ?_⟩), _, rfl, iteT ?_⟩
      · match j, hu, hv with
        | 0, hu, hv =>
          cases hu
          cases hv
          exact rows_like (Q1.same sC) (Rt7.same sC) (by omega) f4T
        | 1, hu, hv =>
          cases hu
          cases hv
          exact rows_like (Q2.same sC) (Rf7.same sC) (by omega) f4F
        | j + 2, hu, hv => cases hu
      refine ⟨_, rfl, p, n, la, rT, rF, rfl, W8.same (s8B.trans sC), hok, fun H' _ => ⟨_, rfl, rfl, bl_of (k H') (decide_eq_true rfl).symm⟩⟩
end
end
end W

set_option Elab.async false
set_option linter.all false
set_option maxRecDepth 100000
set_option maxHeartbeats 4000000
namespace W
open PySem L2
section
variable {K : PySem.W.Frag} {mg : Str → Option Value} {h : Heap}
theorem fn_mk {x : Str} {st : Stmt} {ps : List Str} {f : Addr} {oc : Value} {od an : Option Addr} {osl : Array (Option Value)} {kV doc pm cdv ct : Value} (X : K.In h) (G : h.Ns mainGlobals mg) (a : PySem.W.nsIn K mainGlobals x = some (some (.ref f)))
    (l : K.lookup f = some ⟨oc, od, .func (PySem.W.fnOf x x (defArgs st) (defBody st) (defScope st) .none kV doc pm an cdv ct), osl⟩) (c : PySem.W.codeIn K cdv x = true) (k : PySem.W.keepIn K (.ref f) = true)
    (hb : ∀ (kV doc pm : Value) (an : Option Addr) (cdv ct : Value) (us : List Value), us.length = ps.length → bindArgs (PySem.W.fnOf x x (defArgs st) (defBody st) (defScope st) .none kV doc pm an cdv ct) ⟨us, []⟩ = pure (ps.zip us)) :
    Fn K mg x st ps f (PySem.W.fnOf x x (defArgs st) (defBody st) (defScope st) .none kV doc pm an cdv ct) :=
  have F := fun_mk (st := st) l c k
  ⟨F, F.binds hb, PySem.W.mg_of X G a⟩
structure MtK (K : PySem.W.Frag) (C : Addr) (m q : Str) (st : Stmt) (ps : List Str) (f : Addr) (fd : FuncData) : Prop where
  F : Fun K m q st f fd
  b : Binds K fd ps []
  a : PySem.W.findIn K (.ref C) m = some (some (.ref f))
  i : PySem.W.isFn K (.ref f) = true
theorem MtK.meth {C f : Addr} {m q : Str} {st : Stmt} {ps : List Str} {fd : FuncData} (h : MtK K C m q st ps f fd) : Meth K C m f := ⟨h.a, h.i, h.F.kp⟩
theorem mt_mk {C : Addr} {x q : Str} {st : Stmt} {ps : List Str} {f : Addr} {oc : Value} {od an : Option Addr} {osl : Array (Option Value)} {kV doc pm cdv ct : Value} (a : PySem.W.findIn K (.ref C) x = some (some (.ref f))) (i : PySem.W.isFn K (.ref f) = true)
    (l : K.lookup f = some ⟨oc, od, .func (PySem.W.fnOf x q (defArgs st) (defBody st) (defScope st) .none kV doc pm an cdv ct), osl⟩) (c : PySem.W.codeIn K cdv q = true) (k : PySem.W.keepIn K (.ref f) = true)
    (hb : ∀ (kV doc pm : Value) (an : Option Addr) (cdv ct : Value) (us : List Value), us.length = ps.length → bindArgs (PySem.W.fnOf x q (defArgs st) (defBody st) (defScope st) .none kV doc pm an cdv ct) ⟨us, []⟩ = pure (ps.zip us)) :
    MtK K C x q st ps f (PySem.W.fnOf x q (defArgs st) (defBody st) (defScope st) .none kV doc pm an cdv ct) :=
  have F := fun_mk (st := st) l c k
  ⟨F, F.binds hb, a, i⟩
structure WebK (K : PySem.W.Frag) (mg : Str → Option Value) (C : Addr) : Prop where
  tc : TxtC K mg C
  mk_ : PySem.W.makesIn K C = true
  kc : PySem.W.keepIn K (.ref C) = true
theorem web_mk {C : Addr} (X : K.In h) (G : h.Ns mainGlobals mg) (aC : PySem.W.nsIn K mainGlobals "Web" = some (some (.ref C))) (pg : PySem.W.plainGet K C Str.empty = true) (hd : PySem.W.hasDictIn K C = true) (po : PySem.W.plainOver K C = true)
    (sa : PySem.W.findIn K (.ref C) "__setattr__" = some (some (.builtin "object.__setattr__"))) (mk : PySem.W.makesIn K C = true) (kc : PySem.W.keepIn K (.ref C) = true)
    (n1 : PySem.W.findIn K (.ref C) "many" = some none) (n2 : PySem.W.findIn K (.ref C) "last" = some none) (n3 : PySem.W.findIn K (.ref C) "told_ties" = some none) (n4 : PySem.W.findIn K (.ref C) "told_falls" = some none) : WebK K mg C :=
  ⟨⟨⟨pg, hd, po, sa⟩, n1, n2, n3, n4, PySem.W.mg_of X G aC⟩, mk, kc⟩
theorem txtW_mk {t1 t2 t3 t4 : Tok} (X : K.In h) (G : h.Ns mainGlobals mg) (m1 : PySem.W.nsIn K mainGlobals "MOST_MOMENTS" = some (some (.int 8 t1))) (m2 : PySem.W.nsIn K mainGlobals "LATEST_LAST" = some (some (.int 60 t2)))
    (m3 : PySem.W.nsIn K mainGlobals "WIDEST_SPAN" = some (some (.int 60 t3))) (m4 : PySem.W.nsIn K mainGlobals "LONGEST_FALL" = some (some (.int 60 t4))) (z : PySem.W.nsIn K mainGlobals "list" = some none) : TxtW mg :=
  ⟨⟨t1, PySem.W.mg_of X G m1⟩, ⟨t2, PySem.W.mg_of X G m2⟩, ⟨t3, PySem.W.mg_of X G m3⟩, ⟨t4, PySem.W.mg_of X G m4⟩, PySem.W.mg_none_of X G z⟩
theorem exc_mk {C M fI N : Addr} {nm q : Str} {bs : List Value} {sn : List Str} {sub : List Value} {ab : Bool} {col : Option Bool} {dd : Option Addr} {k0 k1 k2 k3 k5 : Option Value}
    (l : K.lookup C = some (excClassObj nm q C N bs (.ref M :: bmV) true sn sub ab col dd k0 k1 k2 k3 k5 "ValueError.__new__")) (no : PySem.W.nsOkIn K N = true) (ni : PySem.W.nsIn K N "__init__" = some (some (.ref fI)))
    (tl : PySem.W.tailIn K bmV (.ref M :: bmV) = true) (fn : PySem.W.isFn K (.ref fI) = true) (kp : PySem.W.keepIn K (.ref C) = true) (sa : PySem.W.findIn K (.ref C) "__setattr__" = some (some (.builtin "object.__setattr__"))) : ExcC K C M fI :=
  ⟨⟨nm, q, N, bs, sn, sub, ab, col, dd, k0, k1, k2, k3, k5, l, no, ni⟩, tl, fn, kp, sa⟩
theorem txtB1_mk {C M fI : Addr} (X : K.In h) (G : h.Ns mainGlobals mg) (aC : PySem.W.nsIn K mainGlobals "BadWeb" = some (some (.ref C))) (aM : PySem.W.nsIn K mainGlobals "MomentError" = some (some (.ref M))) (ex : ExcC K C M fI)
    (b1 : PySem.W.typeIn K (.ref M) = some (.type "type")) (b2 : PySem.W.specialIn K (.ref M) "__getattribute__" = some (some (.builtin "type.__getattribute__"))) (b3 : PySem.W.findIn K (.type "type") "__getattribute__" = some (some (.builtin "type.__getattribute__")))
    (b4 : PySem.W.nsIn K cStatics "thirdparty.any" = some none) (b5 : PySem.W.findCls K (.ref M) (.type "type") "__init__" = some (.val (.builtin "ValueError.__init__"))) (b6 : PySem.W.subIn K (.type "type") (.type "type") = some true)
    (nA : PySem.W.findIn K (.ref C) "at" = some none) (nW : PySem.W.findIn K (.ref C) "why" = some none) : TxtB1 K mg C M fI :=
  ⟨ex, ⟨b1, b2, b3, b4, b5, b6⟩, PySem.W.mg_of X G aM, nA, nW, PySem.W.mg_of X G aC⟩
theorem txtT1_mk {C M fI : Addr} (X : K.In h) (G : h.Ns mainGlobals mg) (aC : PySem.W.nsIn K mainGlobals "BadText" = some (some (.ref C))) (aM : PySem.W.nsIn K mainGlobals "MomentError" = some (some (.ref M))) (ex : ExcC K C M fI)
    (b1 : PySem.W.typeIn K (.ref M) = some (.type "type")) (b2 : PySem.W.specialIn K (.ref M) "__getattribute__" = some (some (.builtin "type.__getattribute__"))) (b3 : PySem.W.findIn K (.type "type") "__getattribute__" = some (some (.builtin "type.__getattribute__")))
    (b4 : PySem.W.nsIn K cStatics "thirdparty.any" = some none) (b5 : PySem.W.findCls K (.ref M) (.type "type") "__init__" = some (.val (.builtin "ValueError.__init__"))) (b6 : PySem.W.subIn K (.type "type") (.type "type") = some true)
    (nR : PySem.W.findIn K (.ref C) "row" = some none) : TxtT1 K mg C M fI :=
  ⟨ex, ⟨b1, b2, b3, b4, b5, b6⟩, PySem.W.mg_of X G aM, nR, PySem.W.mg_of X G aC⟩
theorem txtN_mk {t1 t2 : Tok} (X : K.In h) (G : h.Ns mainGlobals mg) (m1 : PySem.W.nsIn K mainGlobals "FIGURES" = some (some (.str "0123456789" t1))) (m2 : PySem.W.nsIn K mainGlobals "MOST_FIGURES" = some (some (.int 3 t2)))
    (z1 : PySem.W.nsIn K mainGlobals "all" = some none) (z2 : PySem.W.nsIn K mainGlobals "len" = some none) (z3 : PySem.W.nsIn K mainGlobals "tuple" = some none) (z4 : PySem.W.nsIn K mainGlobals "int" = some none) (z5 : PySem.W.nsIn K mainGlobals "range" = some none) : TxtN mg :=
  ⟨⟨t1, PySem.W.mg_of X G m1⟩, ⟨t2, PySem.W.mg_of X G m2⟩, PySem.W.mg_none_of X G z1, PySem.W.mg_none_of X G z2, PySem.W.mg_none_of X G z3, PySem.W.mg_none_of X G z4, PySem.W.mg_none_of X G z5⟩
end
end W

set_option Elab.async false
set_option linter.all false
set_option maxRecDepth 100000
set_option maxHeartbeats 4000000
namespace W
open PySem L2
section
variable {K : PySem.W.Frag} {mg : Str → Option Value} {h : Heap}
theorem txtI_mk {C c1 c2 c3 c4 c5 : Addr} {b1 b2 b3 b4 b5 : Bool} (X : K.In h) (G : h.Ns mainGlobals mg) (z1 : PySem.W.nsIn K mainGlobals "isinstance" = some none) (z2 : PySem.W.nsIn K mainGlobals "ValueError" = some none) (g : ExcG K C)
    (a1 : PySem.W.nsIn K mainGlobals "BadWeb" = some (some (.ref c1))) (q1 : PySem.W.kitOne K (.ref C) (.ref c1) = some b1) (a2 : PySem.W.nsIn K mainGlobals "NoTimes" = some (some (.ref c2))) (q2 : PySem.W.kitOne K (.ref C) (.ref c2) = some b2)
    (a3 : PySem.W.nsIn K mainGlobals "NoHand" = some (some (.ref c3))) (q3 : PySem.W.kitOne K (.ref C) (.ref c3) = some b3) (a4 : PySem.W.nsIn K mainGlobals "BadFall" = some (some (.ref c4))) (q4 : PySem.W.kitOne K (.ref C) (.ref c4) = some b4)
    (a5 : PySem.W.nsIn K mainGlobals "BadText" = some (some (.ref c5))) (q5 : PySem.W.kitOne K (.ref C) (.ref c5) = some b5) (kv : PySem.W.kitOne K (.ref C) (.type "ValueError") = some true) : TxtI K mg C b1 b2 b3 b4 b5 :=
  ⟨PySem.W.mg_none_of X G z1, PySem.W.mg_none_of X G z2, g, ⟨c1, PySem.W.mg_of X G a1, q1⟩, ⟨c2, PySem.W.mg_of X G a2, q2⟩, ⟨c3, PySem.W.mg_of X G a3, q3⟩, ⟨c4, PySem.W.mg_of X G a4, q4⟩, ⟨c5, PySem.W.mg_of X G a5, q5⟩, kv⟩
theorem txtK_mk (X : K.In h) (G : h.Ns mainGlobals mg) (z1 : PySem.W.nsIn K mainGlobals "range" = some none) (z2 : PySem.W.nsIn K mainGlobals "isinstance" = some none) (z3 : PySem.W.nsIn K mainGlobals "int" = some none) (z4 : PySem.W.nsIn K mainGlobals "bool" = some none)
    (z5 : PySem.W.nsIn K mainGlobals "str" = some none) (z6 : PySem.W.nsIn K mainGlobals "tuple" = some none) (z7 : PySem.W.nsIn K mainGlobals "list" = some none) (z8 : PySem.W.nsIn K mainGlobals "len" = some none)
    (k1 : PySem.W.kitOne K (.type "int") (.type "str") = some false) (k2 : PySem.W.kitOne K (.type "int") (.type "bool") = some false) (k3 : PySem.W.kitOne K (.type "NoneType") (.type "str") = some false) (k4 : PySem.W.kitOne K (.type "NoneType") (.type "int") = some false)
    (k5 : PySem.W.kitOne K (.type "list") (.type "str") = some false) (k6 : PySem.W.kitOne K (.type "list") (.type "int") = some false) (k7 : PySem.W.kitOne K (.type "list") (.type "tuple") = some false) (k8 : PySem.W.kitOne K (.type "tuple") (.type "str") = some false)
    (k9 : PySem.W.kitOne K (.type "tuple") (.type "int") = some false) (k10 : PySem.W.kitOne K (.type "tuple") (.type "list") = some false) : TxtK K mg :=
  ⟨PySem.W.mg_none_of X G z1, PySem.W.mg_none_of X G z2, PySem.W.mg_none_of X G z3, PySem.W.mg_none_of X G z4, PySem.W.mg_none_of X G z5, PySem.W.mg_none_of X G z6, PySem.W.mg_none_of X G z7, PySem.W.mg_none_of X G z8, k1, k2, k3, k4, k5, k6, k7, k8, k9, k10⟩
end
end W

/-- this name is taken so that the head lays no twin of its fragment: nothing of the proof reaches that twin, and it is 4 MB of the compiled text -/
noncomputable def PySem.W.Fast.tw11383631184665366849 : Unit := ()
set_option Elab.async false
open PySem PySem.W PyProof.Rows
set_option maxRecDepth 100000 in
set_option maxHeartbeats 0 in
theorem PySem.Challenge.cw_momentties_k18_written_and_read_holds : PySem.Challenge.rw_momentties_k18_written_and_read.Holds := by
  w_on; o_law; k_head; (case hw => w_witness2)
  k_fill
  refine L2.walk_ofK (l := PySem.Challenge.rw_momentties_k18_written_and_read) (n := 63) (k := 8) (x := "_law_script") (CX := L2.CX0) (sp := _root_.W.spLaw) rfl (by decide) rfl ⟨rfl, by decide, by decide⟩ (fun w h Y => PySem.W.kIn_of Y) ?F (fun K H a ns hl hO hS => ⟨a, ns, rfl, _root_.W.scr_of hO hS, fun _ => rfl⟩) (fun _ _ _ _ z => z)
  case F =>
    intro w mg fa h KX G hmg
    have F_are_two_moments : ∃ f fd, _root_.W.Fn (L2.KOf KX) mg "are_two_moments" _root_.W.sP_are_two_moments ["many", "one", "other"] f fd := by
      dsimp only [L2.KOf]
      refine' ⟨_, _, _root_.W.fn_mk KX G ?a ?l ?c ?k ?b⟩
      (case a => k_is); (case l => k_is); (case c => k_is); (case k => k_is); (case b => exact fun _ _ _ _ _ _ us hl => by obtain ⟨a, b, c, rfl⟩ := L2.len3 us hl; rfl)
    obtain ⟨f_are_two_moments, d_are_two_moments, F_are_two_moments⟩ := F_are_two_moments
    have F_look_over_size : ∃ f fd, _root_.W.Fn (L2.KOf KX) mg "look_over_size" _root_.W.sP_look_over_size ["many", "last"] f fd := by
      dsimp only [L2.KOf]
      refine' ⟨_, _, _root_.W.fn_mk KX G ?a ?l ?c ?k ?b⟩
      (case a => k_is); (case l => k_is); (case c => k_is); (case k => k_is); (case b => exact fun _ _ _ _ _ _ us hl => by obtain ⟨a, b, rfl⟩ := L2.len2 us hl; rfl)
    obtain ⟨f_look_over_size, d_look_over_size, F_look_over_size⟩ := F_look_over_size
    have F_look_over_ties : ∃ f fd, _root_.W.Fn (L2.KOf KX) mg "look_over_ties" _root_.W.sP_look_over_ties ["many", "ties"] f fd := by
      dsimp only [L2.KOf]
      refine' ⟨_, _, _root_.W.fn_mk KX G ?a ?l ?c ?k ?b⟩
      (case a => k_is); (case l => k_is); (case c => k_is); (case k => k_is); (case b => exact fun _ _ _ _ _ _ us hl => by obtain ⟨a, b, rfl⟩ := L2.len2 us hl; rfl)
    obtain ⟨f_look_over_ties, d_look_over_ties, F_look_over_ties⟩ := F_look_over_ties
    have F_look_over_falls : ∃ f fd, _root_.W.Fn (L2.KOf KX) mg "look_over_falls" _root_.W.sP_look_over_falls ["many", "falls"] f fd := by
      dsimp only [L2.KOf]
      refine' ⟨_, _, _root_.W.fn_mk KX G ?a ?l ?c ?k ?b⟩
      (case a => k_is); (case l => k_is); (case c => k_is); (case k => k_is); (case b => exact fun _ _ _ _ _ _ us hl => by obtain ⟨a, b, rfl⟩ := L2.len2 us hl; rfl)
    obtain ⟨f_look_over_falls, d_look_over_falls, F_look_over_falls⟩ := F_look_over_falls
    have C_Web : ∃ C, _root_.W.WebK (L2.KOf KX) mg C ∧ PySem.W.nsIn (L2.KOf KX) mainGlobals "Web" = some (some (.ref C)) := by
      dsimp only [L2.KOf]
      refine' ⟨_, _root_.W.web_mk KX G ?aC ?pg ?hd ?po ?sa ?mk ?kc ?n1 ?n2 ?n3 ?n4, ?aD⟩
      (case aC => k_is); (case pg => k_is); (case hd => k_is); (case po => k_is); (case sa => k_is); (case mk => k_is); (case kc => k_is); (case n1 => k_is); (case n2 => k_is); (case n3 => k_is); (case n4 => k_is); (case aD => k_is)
    obtain ⟨c_Web, C_Web, a_Web⟩ := C_Web
    have M_init : ∃ f fd, _root_.W.MtK (L2.KOf KX) c_Web "__init__" "Web.__init__" _root_.W.sC_Web_init ["self", "many", "last", "ties", "falls"] f fd := by
      have e : ∃ C f fd, PySem.W.nsIn (L2.KOf KX) mainGlobals "Web" = some (some (.ref C)) ∧ _root_.W.MtK (L2.KOf KX) C "__init__" "Web.__init__" _root_.W.sC_Web_init ["self", "many", "last", "ties", "falls"] f fd := by
        dsimp only [L2.KOf]
        refine' ⟨_, _, _, ?aC, _root_.W.mt_mk ?a ?i ?l ?c ?k ?b⟩
        (case aC => k_is); (case a => k_is); (case i => k_is); (case l => k_is); (case c => k_is); (case k => k_is); (case b => exact fun _ _ _ _ _ _ us hl => by obtain ⟨a, b, c, d, e, rfl⟩ := L2.len5 us hl; rfl)
      obtain ⟨C, f, fd, e1, e2⟩ := e
      rw [a_Web] at e1
      cases e1
      exact ⟨f, fd, e2⟩
    obtain ⟨m_init, e_init, M_init⟩ := M_init
    have M_ties : ∃ f fd, _root_.W.MtK (L2.KOf KX) c_Web "ties" "Web.ties" _root_.W.sC_Web_ties ["self"] f fd := by
      have e : ∃ C f fd, PySem.W.nsIn (L2.KOf KX) mainGlobals "Web" = some (some (.ref C)) ∧ _root_.W.MtK (L2.KOf KX) C "ties" "Web.ties" _root_.W.sC_Web_ties ["self"] f fd := by
        dsimp only [L2.KOf]
        refine' ⟨_, _, _, ?aC, _root_.W.mt_mk ?a ?i ?l ?c ?k ?b⟩
        (case aC => k_is); (case a => k_is); (case i => k_is); (case l => k_is); (case c => k_is); (case k => k_is); (case b => exact fun _ _ _ _ _ _ us hl => by obtain ⟨a, rfl⟩ := L2.len1 us hl; rfl)
      obtain ⟨C, f, fd, e1, e2⟩ := e
      rw [a_Web] at e1
      cases e1
      exact ⟨f, fd, e2⟩
    obtain ⟨m_ties, e_ties, M_ties⟩ := M_ties
    have M_falls : ∃ f fd, _root_.W.MtK (L2.KOf KX) c_Web "falls" "Web.falls" _root_.W.sC_Web_falls ["self"] f fd := by
      have e : ∃ C f fd, PySem.W.nsIn (L2.KOf KX) mainGlobals "Web" = some (some (.ref C)) ∧ _root_.W.MtK (L2.KOf KX) C "falls" "Web.falls" _root_.W.sC_Web_falls ["self"] f fd := by
        dsimp only [L2.KOf]
        refine' ⟨_, _, _, ?aC, _root_.W.mt_mk ?a ?i ?l ?c ?k ?b⟩
        (case aC => k_is); (case a => k_is); (case i => k_is); (case l => k_is); (case c => k_is); (case k => k_is); (case b => exact fun _ _ _ _ _ _ us hl => by obtain ⟨a, rfl⟩ := L2.len1 us hl; rfl)
      obtain ⟨C, f, fd, e1, e2⟩ := e
      rw [a_Web] at e1
      cases e1
      exact ⟨f, fd, e2⟩
    obtain ⟨m_falls, e_falls, M_falls⟩ := M_falls
    have F_span_rows : ∃ f fd, _root_.W.Fn (L2.KOf KX) mg "span_rows" _root_.W.sP_span_rows ["word", "spans"] f fd := by
      dsimp only [L2.KOf]
      refine' ⟨_, _, _root_.W.fn_mk KX G ?a ?l ?c ?k ?b⟩
      (case a => k_is); (case l => k_is); (case c => k_is); (case k => k_is); (case b => exact fun _ _ _ _ _ _ us hl => by obtain ⟨a, b, rfl⟩ := L2.len2 us hl; rfl)
    obtain ⟨f_span_rows, d_span_rows, F_span_rows⟩ := F_span_rows
    have F_written : ∃ f fd, _root_.W.Fn (L2.KOf KX) mg "written" _root_.W.sP_written ["web"] f fd := by
      dsimp only [L2.KOf]
      refine' ⟨_, _, _root_.W.fn_mk KX G ?a ?l ?c ?k ?b⟩
      (case a => k_is); (case l => k_is); (case c => k_is); (case k => k_is); (case b => exact fun _ _ _ _ _ _ us hl => by obtain ⟨a, rfl⟩ := L2.len1 us hl; rfl)
    obtain ⟨f_written, d_written, F_written⟩ := F_written
    have F_is_number : ∃ f fd, _root_.W.Fn (L2.KOf KX) mg "is_number" _root_.W.sP_is_number ["word"] f fd := by
      dsimp only [L2.KOf]
      refine' ⟨_, _, _root_.W.fn_mk KX G ?a ?l ?c ?k ?b⟩
      (case a => k_is); (case l => k_is); (case c => k_is); (case k => k_is); (case b => exact fun _ _ _ _ _ _ us hl => by obtain ⟨a, rfl⟩ := L2.len1 us hl; rfl)
    obtain ⟨f_is_number, d_is_number, F_is_number⟩ := F_is_number
    have F_numbers_of : ∃ f fd, _root_.W.Fn (L2.KOf KX) mg "numbers_of" _root_.W.sP_numbers_of ["words", "at"] f fd := by
      dsimp only [L2.KOf]
      refine' ⟨_, _, _root_.W.fn_mk KX G ?a ?l ?c ?k ?b⟩
      (case a => k_is); (case l => k_is); (case c => k_is); (case k => k_is); (case b => exact fun _ _ _ _ _ _ us hl => by obtain ⟨a, b, rfl⟩ := L2.len2 us hl; rfl)
    obtain ⟨f_numbers_of, d_numbers_of, F_numbers_of⟩ := F_numbers_of
    have F_read_size : ∃ f fd, _root_.W.Fn (L2.KOf KX) mg "read_size" _root_.W.sP_read_size ["row"] f fd := by
      dsimp only [L2.KOf]
      refine' ⟨_, _, _root_.W.fn_mk KX G ?a ?l ?c ?k ?b⟩
      (case a => k_is); (case l => k_is); (case c => k_is); (case k => k_is); (case b => exact fun _ _ _ _ _ _ us hl => by obtain ⟨a, rfl⟩ := L2.len1 us hl; rfl)
    obtain ⟨f_read_size, d_read_size, F_read_size⟩ := F_read_size
    have F_read_span : ∃ f fd, _root_.W.Fn (L2.KOf KX) mg "read_span" _root_.W.sP_read_span ["row", "at"] f fd := by
      dsimp only [L2.KOf]
      refine' ⟨_, _, _root_.W.fn_mk KX G ?a ?l ?c ?k ?b⟩
      (case a => k_is); (case l => k_is); (case c => k_is); (case k => k_is); (case b => exact fun _ _ _ _ _ _ us hl => by obtain ⟨a, b, rfl⟩ := L2.len2 us hl; rfl)
    obtain ⟨f_read_span, d_read_span, F_read_span⟩ := F_read_span
    have F_read : ∃ f fd, _root_.W.Fn (L2.KOf KX) mg "read" _root_.W.sP_read ["text"] f fd := by
      dsimp only [L2.KOf]
      refine' ⟨_, _, _root_.W.fn_mk KX G ?a ?l ?c ?k ?b⟩
      (case a => k_is); (case l => k_is); (case c => k_is); (case k => k_is); (case b => exact fun _ _ _ _ _ _ us hl => by obtain ⟨a, rfl⟩ := L2.len1 us hl; rfl)
    obtain ⟨f_read, d_read, F_read⟩ := F_read
    have F_law_next : ∃ f fd, _root_.W.Fn (L2.KOf KX) mg "_law_next" _root_.W.sNext ["_law_dice", "_law_many"] f fd := by
      dsimp only [L2.KOf]
      refine' ⟨_, _, _root_.W.fn_mk KX G ?a ?l ?c ?k ?b⟩
      (case a => k_is); (case l => k_is); (case c => k_is); (case k => k_is); (case b => exact fun _ _ _ _ _ _ us hl => by obtain ⟨a, b, rfl⟩ := L2.len2 us hl; rfl)
    obtain ⟨f_law_next, d_law_next, F_law_next⟩ := F_law_next
    have F_law_whole : ∃ f fd, _root_.W.Fn (L2.KOf KX) mg "_law_whole" _root_.W.sWhole ["_law_found"] f fd := by
      dsimp only [L2.KOf]
      refine' ⟨_, _, _root_.W.fn_mk KX G ?a ?l ?c ?k ?b⟩
      (case a => k_is); (case l => k_is); (case c => k_is); (case k => k_is); (case b => exact fun _ _ _ _ _ _ us hl => by obtain ⟨a, rfl⟩ := L2.len1 us hl; rfl)
    obtain ⟨f_law_whole, d_law_whole, F_law_whole⟩ := F_law_whole
    have F_law_like : ∃ f fd, _root_.W.Fn (L2.KOf KX) mg "_law_like" _root_.W.sL_like ["_law_found", "_law_due"] f fd := by
      dsimp only [L2.KOf]
      refine' ⟨_, _, _root_.W.fn_mk KX G ?a ?l ?c ?k ?b⟩
      (case a => k_is); (case l => k_is); (case c => k_is); (case k => k_is); (case b => exact fun _ _ _ _ _ _ us hl => by obtain ⟨a, b, rfl⟩ := L2.len2 us hl; rfl)
    obtain ⟨f_law_like, d_law_like, F_law_like⟩ := F_law_like
    have F_law_named : ∃ f fd, _root_.W.Fn (L2.KOf KX) mg "_law_named" _root_.W.sNamed ["_law_moment", "_law_many", "_law_turn"] f fd := by
      dsimp only [L2.KOf]
      refine' ⟨_, _, _root_.W.fn_mk KX G ?a ?l ?c ?k ?b⟩
      (case a => k_is); (case l => k_is); (case c => k_is); (case k => k_is); (case b => exact fun _ _ _ _ _ _ us hl => by obtain ⟨a, b, c, rfl⟩ := L2.len3 us hl; rfl)
    obtain ⟨f_law_named, d_law_named, F_law_named⟩ := F_law_named
    have F_law_falls : ∃ f fd, _root_.W.Fn (L2.KOf KX) mg "_law_falls" _root_.W.sFalls ["_law_d", "_law_many", "_law_wide"] f fd := by
      dsimp only [L2.KOf]
      refine' ⟨_, _, _root_.W.fn_mk KX G ?a ?l ?c ?k ?b⟩
      (case a => k_is); (case l => k_is); (case c => k_is); (case k => k_is); (case b => exact fun _ _ _ _ _ _ us hl => by obtain ⟨a, b, c, rfl⟩ := L2.len3 us hl; rfl)
    obtain ⟨f_law_falls, d_law_falls, F_law_falls⟩ := F_law_falls
    have F_law_ties : ∃ f fd, _root_.W.Fn (L2.KOf KX) mg "_law_ties" _root_.W.sTies ["_law_d", "_law_many", "_law_last", "_law_wide"] f fd := by
      dsimp only [L2.KOf]
      refine' ⟨_, _, _root_.W.fn_mk KX G ?a ?l ?c ?k ?b⟩
      (case a => k_is); (case l => k_is); (case c => k_is); (case k => k_is); (case b => exact fun _ _ _ _ _ _ us hl => by obtain ⟨a, b, c, d, rfl⟩ := L2.len4 us hl; rfl)
    obtain ⟨f_law_ties, d_law_ties, F_law_ties⟩ := F_law_ties
    have F_law_web : ∃ f fd, _root_.W.Fn (L2.KOf KX) mg "_law_web" _root_.W.sWeb ["_law_d", "_law_most", "_law_last", "_law_wide"] f fd := by
      dsimp only [L2.KOf]
      refine' ⟨_, _, _root_.W.fn_mk KX G ?a ?l ?c ?k ?b⟩
      (case a => k_is); (case l => k_is); (case c => k_is); (case k => k_is); (case b => exact fun _ _ _ _ _ _ us hl => by obtain ⟨a, b, c, d, rfl⟩ := L2.len4 us hl; rfl)
    obtain ⟨f_law_web, d_law_web, F_law_web⟩ := F_law_web
    have F_law_is : ∃ f fd, _root_.W.Fn (L2.KOf KX) mg "_law_is" _root_.W.sL_is ["_law_e", "_law_word"] f fd := by
      dsimp only [L2.KOf]
      refine' ⟨_, _, _root_.W.fn_mk KX G ?a ?l ?c ?k ?b⟩
      (case a => k_is); (case l => k_is); (case c => k_is); (case k => k_is); (case b => exact fun _ _ _ _ _ _ us hl => by obtain ⟨a, b, rfl⟩ := L2.len2 us hl; rfl)
    obtain ⟨f_law_is, d_law_is, F_law_is⟩ := F_law_is
    have F_law_rows : ∃ f fd, _root_.W.Fn (L2.KOf KX) mg "_law_rows" _root_.W.sL_rows ["_law_w"] f fd := by
      dsimp only [L2.KOf]
      refine' ⟨_, _, _root_.W.fn_mk KX G ?a ?l ?c ?k ?b⟩
      (case a => k_is); (case l => k_is); (case c => k_is); (case k => k_is); (case b => exact fun _ _ _ _ _ _ us hl => by obtain ⟨a, rfl⟩ := L2.len1 us hl; rfl)
    obtain ⟨f_law_rows, d_law_rows, F_law_rows⟩ := F_law_rows
    have F_law_refused : ∃ f fd, _root_.W.Fn (L2.KOf KX) mg "_law_refused" _root_.W.sL_refused ["_law_rows_here", "_law_word", "_law_at"] f fd := by
      dsimp only [L2.KOf]
      refine' ⟨_, _, _root_.W.fn_mk KX G ?a ?l ?c ?k ?b⟩
      (case a => k_is); (case l => k_is); (case c => k_is); (case k => k_is); (case b => exact fun _ _ _ _ _ _ us hl => by obtain ⟨a, b, c, rfl⟩ := L2.len3 us hl; rfl)
    obtain ⟨f_law_refused, d_law_refused, F_law_refused⟩ := F_law_refused
    have F_law_bad : ∃ f fd, _root_.W.Fn (L2.KOf KX) mg "_law_bad" _root_.W.sL_bad ["_law_d", "_law_rows_here"] f fd := by
      dsimp only [L2.KOf]
      refine' ⟨_, _, _root_.W.fn_mk KX G ?a ?l ?c ?k ?b⟩
      (case a => k_is); (case l => k_is); (case c => k_is); (case k => k_is); (case b => exact fun _ _ _ _ _ _ us hl => by obtain ⟨a, b, rfl⟩ := L2.len2 us hl; rfl)
    obtain ⟨f_law_bad, d_law_bad, F_law_bad⟩ := F_law_bad
    have F_law : ∃ f fd, _root_.W.Fn (L2.KOf KX) mg "law" _root_.W.sLaw ["_law_script"] f fd ∧ ∀ (s : Shared) (u : Value), BindsTo s fd ⟨[u], []⟩ [("_law_script", u)] := by
      dsimp only [L2.KOf]
      refine' ⟨_, _, _root_.W.fn_mk KX G ?a ?l ?c ?k ?b, ?bb⟩
      (case a => k_is); (case l => k_is); (case c => k_is); (case k => k_is); (case b => exact fun _ _ _ _ _ _ us hl => by obtain ⟨a, rfl⟩ := L2.len1 us hl; rfl); (case bb => exact fun s u => .of_eq rfl)
    obtain ⟨f_law, d_law, F_law, b_law⟩ := F_law
    have CB : ∃ C M fI fd, _root_.W.TxtB1 (L2.KOf KX) mg C M fI ∧ L2.Fun (L2.KOf KX) "__init__" "BadWeb.__init__" _root_.W.sC_BadWeb_init fI fd ∧ L2.Binds (L2.KOf KX) fd ["self", "at", "why"] [] ∧ PySem.W.exmOne (L2.KOf KX) (.ref C) (.ref M) = some true ∧ _root_.W.TxtI (L2.KOf KX) mg C true false false false false := by
      dsimp only [L2.KOf]
      refine' ⟨_, _, _, _, _root_.W.txtB1_mk KX G ?aC ?aM ?ex ?b1 ?b2 ?b3 ?b4 ?b5 ?b6 ?nR ?z1, L2.fun_mk ?fl ?fc ?fk, ?fb, ?xm, _root_.W.txtI_mk KX G ?y1 ?y2 ⟨?g1, ?g2, ?g3, ?g4, ?g5, ?g6, ?g7, ?g8⟩ ?a1 ?q1 ?a2 ?q2 ?a3 ?q3 ?a4 ?q4 ?a5 ?q5 ?kv⟩
      (case aC => k_is); (case aM => k_is)
      case ex =>
        refine' _root_.W.exc_mk ?l ?no ?ni ?tl ?fn ?kp ?sa
        (case l => k_is); (case no => with_unfolding_all rfl); (case ni => k_is); (case tl => with_unfolding_all rfl); (case fn => k_is); (case kp => k_is); (case sa => k_is)
      (case b1 => k_is); (case b2 => k_is); (case b3 => k_is); (case b4 => k_is); (case b5 => k_is); (case b6 => k_is); (case nR => k_is); (case z1 => k_is)
      (case fl => k_is); (case fc => k_is); (case fk => k_is)
      (case xm => with_unfolding_all rfl)
      (case y1 => k_is); (case y2 => k_is); (case g1 => k_is); (case g2 => k_is); (case g3 => k_is); (case g4 => k_is); (case g5 => k_is); (case g6 => k_is); (case g7 => k_is); (case g8 => k_is)
      (case a1 => k_is); (case a2 => k_is); (case a3 => k_is); (case a4 => k_is); (case a5 => k_is)
      (case q1 => with_unfolding_all rfl); (case q2 => with_unfolding_all rfl); (case q3 => with_unfolding_all rfl); (case q4 => with_unfolding_all rfl); (case q5 => with_unfolding_all rfl); (case kv => with_unfolding_all rfl)
      case fb => exact .all fun us hl => by obtain ⟨a, b, c, rfl⟩ := L2.len3 us hl; rfl
    obtain ⟨cB, cM, fI, dI, TB, FI, bI, exm, TI⟩ := CB
    have CT : ∃ C M fI fd, _root_.W.TxtT1 (L2.KOf KX) mg C M fI ∧ L2.Fun (L2.KOf KX) "__init__" "BadText.__init__" _root_.W.sC_BadText_init fI fd ∧ L2.Binds (L2.KOf KX) fd ["self", "row"] [] ∧ PySem.W.exmOne (L2.KOf KX) (.ref C) (.ref M) = some true ∧ _root_.W.TxtI (L2.KOf KX) mg C false false false false true := by
      dsimp only [L2.KOf]
      refine' ⟨_, _, _, _, _root_.W.txtT1_mk KX G ?aC ?aM ?ex ?b1 ?b2 ?b3 ?b4 ?b5 ?b6 ?nR, L2.fun_mk ?fl ?fc ?fk, ?fb, ?xm, _root_.W.txtI_mk KX G ?y1 ?y2 ⟨?g1, ?g2, ?g3, ?g4, ?g5, ?g6, ?g7, ?g8⟩ ?a1 ?q1 ?a2 ?q2 ?a3 ?q3 ?a4 ?q4 ?a5 ?q5 ?kv⟩
      (case aC => k_is); (case aM => k_is)
      case ex =>
        refine' _root_.W.exc_mk ?l ?no ?ni ?tl ?fn ?kp ?sa
        (case l => k_is); (case no => with_unfolding_all rfl); (case ni => k_is); (case tl => with_unfolding_all rfl); (case fn => k_is); (case kp => k_is); (case sa => k_is)
      (case b1 => k_is); (case b2 => k_is); (case b3 => k_is); (case b4 => k_is); (case b5 => k_is); (case b6 => k_is); (case nR => k_is)
      (case fl => k_is); (case fc => k_is); (case fk => k_is)
      (case xm => with_unfolding_all rfl)
      (case y1 => k_is); (case y2 => k_is); (case g1 => k_is); (case g2 => k_is); (case g3 => k_is); (case g4 => k_is); (case g5 => k_is); (case g6 => k_is); (case g7 => k_is); (case g8 => k_is)
      (case a1 => k_is); (case a2 => k_is); (case a3 => k_is); (case a4 => k_is); (case a5 => k_is)
      (case q1 => with_unfolding_all rfl); (case q2 => with_unfolding_all rfl); (case q3 => with_unfolding_all rfl); (case q4 => with_unfolding_all rfl); (case q5 => with_unfolding_all rfl); (case kv => with_unfolding_all rfl)
      case fb => exact .all fun us hl => by obtain ⟨a, b, rfl⟩ := L2.len2 us hl; rfl
    obtain ⟨cT, cMt, fJ, dJ, TT, FJ, bJ, exT, TIt⟩ := CT
    have TW : _root_.W.TxtW mg := by
      refine' _root_.W.txtW_mk KX G ?a ?b ?c ?d ?e
      (case a => k_is); (case b => k_is); (case c => k_is); (case d => k_is); (case e => k_is)
    have TK : _root_.W.TxtK (L2.KOf KX) mg := by
      dsimp only [L2.KOf]
      refine' _root_.W.txtK_mk KX G ?z1 ?z2 ?z3 ?z4 ?z5 ?z6 ?z7 ?z8 ?k1 ?k2 ?k3 ?k4 ?k5 ?k6 ?k7 ?k8 ?k9 ?k10
      (case z1 => k_is); (case z2 => k_is); (case z3 => k_is); (case z4 => k_is); (case z5 => k_is); (case z6 => k_is); (case z7 => k_is); (case z8 => k_is)
      all_goals with_unfolding_all rfl
    have TN : _root_.W.TxtN mg := by
      refine' _root_.W.txtN_mk KX G ?a ?b ?c ?d ?e ?f ?g
      (case a => k_is); (case b => k_is); (case c => k_is); (case d => k_is); (case e => k_is); (case f => k_is); (case g => k_is)
    have Z : PySem.W.nsIn (L2.KOf KX) mainGlobals "min" = some none ∧ PySem.W.nsIn (L2.KOf KX) mainGlobals "max" = some none := by
      dsimp only [L2.KOf]
      refine' ⟨?a, ?b⟩
      (case a => k_is); (case b => k_is)
    have zr := TK.range
    have zm := PySem.W.mg_none_of KX G Z.1
    have TL : _root_.W.TxtL (L2.KOf KX) mg := ⟨zr, TK.isi, TK.int, TK.bool, TK.ib⟩
    have eM := TB.mo.symm.trans TT.mo
    cases eM
    have e0 := hmg.symm.trans F_law.g
    cases e0
    refine ⟨d_law, b_law, fun base kb nb => ?gg⟩
    case gg =>
      have GN := _root_.W.ok_next (P := PySem.Challenge.rw_momentties_k18_written_and_read.prog) (w := w) (base := base) F_law_next TK.len
      have GM := _root_.W.ok_named (P := PySem.Challenge.rw_momentties_k18_written_and_read.prog) (w := w) (base := base) F_law_named
      have GF := _root_.W.ok_falls F_law_falls F_law_next GN zm zr
      have GT := _root_.W.ok_ties F_law_ties F_law_next GN zm (PySem.W.mg_none_of KX G Z.2) zr
      have GW := _root_.W.ok_web F_law_web F_law_next GN F_law_named GM F_law_falls GF F_law_ties GT
      have G2 := _root_.W.ok_two (P := PySem.Challenge.rw_momentties_k18_written_and_read.prog) (w := w) (base := base) F_are_two_moments
      have GBd := _root_.W.ok_bad (P := PySem.Challenge.rw_momentties_k18_written_and_read.prog) (w := w) (base := base) FI TB
      have GSx := _root_.W.ok_sizeX F_look_over_size TW TB bI GBd
      have GTx := _root_.W.ok_tiesX F_look_over_ties TW TB bI GBd F_are_two_moments G2
      have GFx := _root_.W.ok_fallsX F_look_over_falls TW TB bI GBd F_are_two_moments G2
      have GIb := _root_.W.ok_initBad (C := c_Web) M_init.F F_look_over_size GSx F_look_over_ties GTx F_look_over_falls GFx
      have GS := _root_.W.ok_size (P := PySem.Challenge.rw_momentties_k18_written_and_read.prog) (w := w) (base := base) F_look_over_size TW
      have GLT := _root_.W.ok_lties F_look_over_ties TW F_are_two_moments G2
      have GLF := _root_.W.ok_lfalls F_look_over_falls TW F_are_two_moments G2
      have GI := _root_.W.ok_initF M_init.F TW C_Web.tc F_look_over_size GS F_look_over_ties GLT F_look_over_falls GLF
      have GIr := L2.FnOk.or (L2.FnOk.mono (L2.FnOk.cx (CX := L2.CX1 PySem.Challenge.rw_momentties_k18_written_and_read.prog w) GI) (by decide : 3 ≤ 4)) GIb
      have Gt := _root_.W.ok_tiesM (P := PySem.Challenge.rw_momentties_k18_written_and_read.prog) (w := w) (base := base) M_ties.F TW C_Web.tc
      have Gf := _root_.W.ok_fallsM (P := PySem.Challenge.rw_momentties_k18_written_and_read.prog) (w := w) (base := base) M_falls.F TW C_Web.tc
      have GWh := _root_.W.ok_whole (P := PySem.Challenge.rw_momentties_k18_written_and_read.prog) (w := w) (base := base) F_law_whole TL
      have GLk := _root_.W.ok_like (P := PySem.Challenge.rw_momentties_k18_written_and_read.prog) (w := w) (base := base) F_law_like TK 3
      have GBt := _root_.W.ok_badT (P := PySem.Challenge.rw_momentties_k18_written_and_read.prog) (w := w) (base := base) FJ TT
      have GIn := _root_.W.ok_isnum (P := PySem.Challenge.rw_momentties_k18_written_and_read.prog) (w := w) (base := base) F_is_number TN
      have GNs := _root_.W.ok_nums F_numbers_of TN TT bJ GBt F_is_number GIn
      have GRp := _root_.W.ok_rspan F_read_span TN TT bJ GBt F_numbers_of GNs
      have GRz := _root_.W.ok_rsize F_read_size TN TT bJ GBt F_numbers_of GNs
      have GRd := _root_.W.ok_read F_read TN C_Web.tc TT bJ GBt F_read_size GRz F_read_span GRp ⟨C_Web.mk_, M_init.a, M_init.i, C_Web.kc⟩ M_init.b GIr
      have GSp := _root_.W.ok_spans (P := PySem.Challenge.rw_momentties_k18_written_and_read.prog) (w := w) (base := base) F_span_rows
      have GWt := _root_.W.ok_written F_written C_Web.tc F_span_rows GSp M_ties.meth M_ties.b Gt M_falls.meth M_falls.b Gf
      have GLr := _root_.W.ok_lrows (P := PySem.Challenge.rw_momentties_k18_written_and_read.prog) (w := w) (base := base) F_law_rows TK.str
      have GLb := _root_.W.ok_lbad F_law_bad TK.len F_law_next GN
      have GIs := L2.FnOkH.or (_root_.W.ok_is (P := PySem.Challenge.rw_momentties_k18_written_and_read.prog) (w := w) (base := base) (wd := "text") F_law_is TIt (by decide +kernel)) (_root_.W.ok_is (P := PySem.Challenge.rw_momentties_k18_written_and_read.prog) (w := w) (base := base) (wd := "web") F_law_is TI (by decide +kernel))
      have GRf := _root_.W.ok_refT F_law_refused TB.mo exT exm TIt.g TT.nR F_read GRd F_law_is GIs F_law_whole GWh
      exact _root_.W.ok_law F_law TK C_Web.tc F_law_next GN F_law_web GW ⟨C_Web.mk_, M_init.a, M_init.i, C_Web.kc⟩ M_init.b GI M_ties.meth M_ties.b Gt M_falls.meth M_falls.b Gf F_law_like GLk F_law_refused GRf F_law_bad GLb F_law_rows GLr F_written GWt F_read GRd
