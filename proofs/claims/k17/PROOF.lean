import PyProof.Rows.All
import Wide.All
import OpenK.AllK
import Wide.FinOn
import Lean
import PyProof.EqAt
import PyProof.EqKinds
import PyProof.TupleCall
import PySem.Challenge.RW_momentties_k17_looser_is_kept_too
import KE.KTabLook
import PyProof.DictWalks
import PyProof.Rows.DictUnroll
import PyProof.Rows.SortShell
import PyProof.CollectWalk
import PyProof.DictTruth
import KE.KSortTup
noncomputable abbrev jq := @Int.le_trans
noncomputable abbrev iL := @List.mem_append_left
noncomputable abbrev pD := @Array.toList_append
noncomputable abbrev vE := @List.length_drop
noncomputable abbrev nS := @Nat.le_succ
noncomputable abbrev fV := @Int.le_of_lt
noncomputable abbrev lR := @Int.toNat_of_nonneg
noncomputable abbrev zI := @PySem.mem_of_lookup
noncomputable abbrev LQ := @List.length_eq_zero_iff
noncomputable abbrev qY := @Array.length_toList
noncomputable abbrev LP := @Bool.eq_false_iff
noncomputable abbrev aF := @Ne.symm
noncomputable abbrev oP := @List.mem_iff_getElem?
noncomputable abbrev uu := @PySem.boot_len
noncomputable abbrev sg := @PySem.W.mg_none_of
noncomputable abbrev ag := @PySem.wpAny_bind
noncomputable abbrev aU := @PySem.wpAny_pure
noncomputable abbrev sf := @PySem.F.plainAttrs_list
noncomputable abbrev qX := @PySem.F.slot_list_append
noncomputable abbrev se := @PySem.F.type_list_append
noncomputable abbrev aD := @List.length_map
noncomputable abbrev gQ := @List.getElem?_eq_some_iff
noncomputable abbrev az := @Nat.le_refl
noncomputable abbrev kF := @List.getElem?_eq_getElem
noncomputable abbrev cW := @PySem.Heap.get?_push_of_some
noncomputable abbrev fg := @Classical.byContradiction
noncomputable abbrev fv := @List.getElem?_map
noncomputable abbrev gn := @List.mem_of_getElem?
noncomputable abbrev il := @List.size_toArray
noncomputable abbrev ik := @List.length_append
noncomputable abbrev gz := @List.mem_cons_of_mem
noncomputable abbrev eD := @List.mem_cons_self
noncomputable abbrev fu := @Bool.false_ne_true
noncomputable abbrev eT := @Option.some.inj
noncomputable abbrev gm := @List.lookup_cons
noncomputable abbrev d_ := @List.map_append
noncomputable abbrev d9 := @Nat.zero_le
noncomputable abbrev bo := @Nat.le_of_lt
noncomputable abbrev dt := @PySem.Heap.lt_size
noncomputable abbrev iK := @List.mem_singleton
noncomputable abbrev eS := @List.mem_cons
noncomputable abbrev eR := @List.map_cons
noncomputable abbrev eC := @Nat.le_trans
noncomputable abbrev jZ := @PySem.Heap.get?_push_size
noncomputable abbrev j8 := @List.take_length
noncomputable abbrev gY := @Nat.ne_of_lt
noncomputable abbrev qW := @List.getElem?_append_right
noncomputable abbrev ig := @List.length_take
noncomputable abbrev i_ := @Nat.lt_of_lt_of_le
noncomputable abbrev kE := @List.mem_append_right
noncomputable abbrev i8 := @List.mem_append
noncomputable abbrev kD := @List.length_cons
noncomputable abbrev r_ := @List.getElem?_append_left
noncomputable abbrev eB := @List.mem_map
noncomputable abbrev F8 := @List.getElem_of_mem
noncomputable abbrev Cf := @List.pairwise_iff_getElem
noncomputable abbrev l9 := @List.take_succ
noncomputable abbrev yh := @List.all_eq_true
noncomputable abbrev i7 := @Int.toNat_natCast
noncomputable abbrev yg := @decide_eq_true_eq
noncomputable abbrev Cg := @List.getD_eq_getElem?_getD
noncomputable abbrev j9 := @Nat.lt_irrefl
noncomputable abbrev zH := @List.getElem_mem
noncomputable abbrev LO := @List.length_nil
noncomputable abbrev mE := @Nat.le_of_not_lt
noncomputable abbrev sd := @Nat.not_lt_zero
noncomputable abbrev pC := @beq_self_eq_true
noncomputable abbrev jo := @decide_eq_true
noncomputable abbrev fU := @decide_eq_false
noncomputable abbrev aA := PySem.W.Frag
noncomputable abbrev iJ := PySem.Challenge.rw_momentties_k17_looser_is_kept_too.prog
noncomputable section
variable {P:PySem.Program} {w:PySem.World} {K:aA} {mg:PySem.Str->Option PySem.Value} {base:PySem.Heap}
set_option Elab.async false
set_option linter.all false
set_option maxRecDepth 100000
namespace L2
open PySem PySem.Spec PyProof.Rows
noncomputable abbrev f7 (C:Addr) (dx:Option Addr) (t tb:Value):Obj:={ cls:=.ref C,dict:=dx,data:=.fields #[t,tb,.none,.none,.bool false,.none] }
noncomputable def Hd (A:Around) (h:Heap):Prop:=A.handled=none\/∃(a C:Addr) (dx:Option Addr) (t tb:Value),A.handled=some (.ref a)/\h.get? a=some (f7 C dx t tb)
theorem XM:entryFor table "proto.unchain"=some Builtin.«proto.unchain»:=entryFor_of_tree (by kernel_rfl)
section
variable {prog:Program} {w:World} {A:Around} {E:Value->Shared->Prop} {s:Shared}
theorem Hd.keep (q:Hd A h) (k:∀b C dx t tb,h.get? b=some (f7 C dx t tb)->h'.get? b=some (f7 C dx t tb)):Hd A h':=by
 rcases q with q | ⟨a,C,dx,t,tb,q,e⟩
 ·exact .inl q
 ·exact .inr ⟨a,C,dx,t,tb,q,k a C dx t tb e⟩
theorem VN (q:Hd A s.heap) (he:s.heap.get? e=some oe) (hc:∃n,oe.cls=.type n) (hd:oe.data=.fields vs) (hz:2<vs.size)
 (h:∀h',Heap.SameBut e s.heap h'->(∃o,h'.get? e=some o/\o.cls=oe.cls)->E (.ref e) { s with heap:=h' }):wpAny (model prog w) A (raiseNew (.ref e):Sem α) Q E s:=by
 unfold raiseNew;refine ag (wpAny_handled ?_);rcases q with q | ⟨a,C,dx,t,tb,q,ea⟩
 ·rw [q];exact ag (aU (wpAny_throw (h s.heap (Heap.SameBut.refl ..) ⟨oe,he,rfl⟩)))
 ·rw [q];have ne:a≠e:=fun z=>by
   rw [z,he] at ea;obtain ⟨n,hn⟩:=hc;rw [eT ea] at hn;cases hn
  dsimp only;rw [if_pos (show (Value.ref a !=Value.ref e)=true by simp [ne])];refine ag (wpAny_holding (wpAny_runValue (codeAny_builtin XM ?_)));show wpAny _ _ (field (.ref a) 2>>=_) _ _ s;refine ag (wpAny_field ea rfl (x:=.none) rfl ?_);rw [if_pos (by rfl)];refine ag (aU (aU ?_));refine ag (wpAny_setField (a:=e) he hd hz ?_);exact wpAny_throw (h _ (Heap.SameBut.update ..) ⟨_,Heap.get?_update_self _ he (Obj.isFreed_of_fields (Obj.data_mapFields hd _)),Obj.cls_mapFields ..⟩)
theorem Dd (q:Hd A s.heap)
 (h:∀e h',(∀b o,s.heap.get? b=some o->h'.get? b=some o)->(∃o,h'.get? e=some o/\o.cls=.type "StopIteration")->E (.ref e) { s with heap:=h' }):
 wpAny (model prog w) A (newExc (.type "StopIteration") []>>=fun x=>(raiseNew x:Sem α)) Q E s:=by
 refine ag ?_;unfold newExc newTuple;refine ag (wpAny_newObj_type ?_ (by size_fits));refine ag (wpAny_of_eq (a:=Value.none) (by first | rfl | (simp only [firstArgMember];rfl)) ?_);refine wpAny_newObj_type ?_ (by size_fits);refine VN (q.keep fun b C dx t tb e=>cW _ (cW _ e)) (jZ _ rfl) ⟨_,rfl⟩ rfl (by simp;exact bo (Nat.le_add_left (Nat.succ 2).succ 2)) fun h' sb ⟨o,eo,ec⟩=>?_;refine h _ h' (fun b o' e=>?_) ⟨o,eo,ec⟩;have e1:=cW (h:=s.heap) { cls:=.type "tuple",data:=.seq ([]:List Value).toArray } e;exact (sb.2 b (gY (dt e1))).trans (cW _ e1)
theorem CU {it:Addr} {s0:Shared} {e:Addr} {h':Heap} {Q:Option Value->Shared->Prop} (k:∀b o,b≠it->s0.heap.get? b=some o->h'.get? b=some o) (t:∃o,h'.get? e=some o/\o.cls=.type "StopIteration") (hQ:∀h',Heap.ExtBut it s0.heap h'->Q none { s0 with heap:=h' }):
 wpAny (model prog w) A (isInstance (.ref e) (.type "StopIteration")) (fun b s'=>b=true/\Q none s') E { s0 with heap:=h' }:=by
 obtain ⟨o,e1,e2⟩:=t;exact wpAny_isInstance (T:="StopIteration") (b:=true) ⟨o,e1,e2⟩ isSubtype_stop ⟨rfl,hQ h' fun b u hb e=>k b u hb e⟩
theorem X0 {it l:Addr} {i:Nat} {items:Array Value} {Q:Option Value->Shared->Prop} (q:Hd A s.heap) (st:s.heap.IsListIter it l i) (hl:s.heap.IsList l items) (hx:items[i]?=none)
 (hQ:∀h',Heap.ExtBut it s.heap h'->Q none { s with heap:=h' }):wpAny (model prog w) A (pyNext (.ref it)) Q E s:=by
 obtain ⟨u,hu,cu,du⟩:=id st;obtain ⟨v,hv,_,nv,dv⟩:=hl;unfold pyNext;refine ag (wpAny_attempt (wpAny_callSpecial?_slot (name:=Str.ofString "__next__") st.typeIs slot_listiter_next (wpAny_call_entry slot_listiter_next st.typeIs entry_listiter_next ?_ (args_listiter_next _))));show wpAny _ _ (field (.ref it) 0>>=_) _ _ s;refine ag (wpAny_field hu du (x:=.ref l) rfl ?_);rw [if_neg (show ¬((Value.ref l==Value.none)=true) from fu)];refine ag (wpAny_field hu du (x:=.int i 0) rfl (ag (wpAny_seqItems hv dv ?_)));simp only [i7,hx];refine ag (wpAny_rule (ag (wpAny_setField hu du (by simp) ?_)));have other:∀b o,b≠it->s.heap.get? b=some o->(s.heap.update it (Obj.mapFields (·.setIfInBounds 0 Value.none))).get? b=some o:=fun b o hb e=>(Heap.get?_update_other _ _ (aF hb)).trans e;refine Dd (A:=A.in1) (s:={ s with heap:=s.heap.update it (Obj.mapFields (·.setIfInBounds 0 Value.none)) }) (Hd.keep (A:=A.in1) q fun b C dx t tb e=>other b _ (fun z=>?_) e) fun e h' kk te=>?_
 ·rw [z,hu] at e;cases e;cases cu
 ·refine ag (wpAny_mono (CU (s0:=s) (fun b o hb z=>kk b o (other b o hb z)) te hQ) (fun b s' z=>?_) fun _ _ z=>z);obtain ⟨rfl,z⟩:=z;exact aU z
theorem Qo {it:Addr} {x left step:Int} {Q:Option Value->Shared->Prop} (q:Hd A s.heap) (st:IsRangeIter s.heap it x left step) (hz:left<=0)
 (hQ:∀h',Heap.ExtBut it s.heap h'->Q none { s with heap:=h' }):wpAny (model prog w) A (pyNext (.ref it)) Q E s:=by
 have ty:s.TypeIs (.ref it) "range_iterator":=⟨_,st,rfl⟩;unfold pyNext;refine ag (wpAny_attempt (wpAny_callSpecial?_slot (name:=Str.ofString "__next__") ty F.slot_range_iterator_next (wpAny_call_entry F.slot_range_iterator_next ty F.entry_range_iterator_next ?_ (F.args_range_iterator_next_1 _))));show wpAny _ _ (field (.ref it) 0>>=_) _ _ s;refine ag (wpAny_field st rfl (x:=rawInt x) rfl (ag (wpAny_field st rfl (x:=rawInt left) rfl (ag (wpAny_field st rfl (x:=rawInt step) rfl ?_)))));show wpAny _ _ (if left<=0 then _ else _) _ _ s;rw [if_pos hz];refine ag (wpAny_rule ?_);refine ag ?_;refine Dd (A:=A.in1) (s:=s) q fun e h' kk te=>?_;refine ag (wpAny_mono (CU (s0:=s) (fun b o _ z=>kk b o z) te hQ) (fun b s' z=>?_) fun _ _ z=>z);obtain ⟨rfl,z⟩:=z;exact aU z
theorem Xx {it t:Addr} {i:Nat} {items:Array Value} {Q:Option Value->Shared->Prop} (q:Hd A s.heap) (st:IsTupIter s.heap it t i) (hl:IsTup s.heap t items) (hx:items[i]?=none)
 (hQ:∀h',Heap.ExtBut it s.heap h'->Q none { s with heap:=h' }):wpAny (model prog w) A (pyNext (.ref it)) Q E s:=by
 obtain ⟨u,hu,cu,du⟩:=id st;obtain ⟨v,hv,_,nv,dv⟩:=hl;unfold pyNext;refine ag (wpAny_attempt (wpAny_callSpecial?_slot (name:=Str.ofString "__next__") st.typeIs slot_tupleiter_next (wpAny_call_entry slot_tupleiter_next st.typeIs entry_tupleiter_next ?_ (args_tupleiter_next _))));show wpAny _ _ (field (.ref it) 0>>=_) _ _ s;refine ag (wpAny_field hu du (x:=.ref t) rfl ?_);rw [if_neg (show ¬((Value.ref t==Value.none)=true) from fu)];refine ag (wpAny_field hu du (x:=.int i 0) rfl (ag (wpAny_seqItems hv dv ?_)));simp only [i7,hx];refine ag (wpAny_rule (ag (wpAny_setField hu du (by simp) ?_)));have other:∀b o,b≠it->s.heap.get? b=some o->(s.heap.update it (Obj.mapFields (·.setIfInBounds 0 Value.none))).get? b=some o:=fun b o hb e=>(Heap.get?_update_other _ _ (aF hb)).trans e;refine Dd (A:=A.in1) (s:={ s with heap:=s.heap.update it (Obj.mapFields (·.setIfInBounds 0 Value.none)) }) (Hd.keep (A:=A.in1) q fun b C dx tt tb e=>other b _ (fun z=>?_) e) fun e h' kk te=>?_
 ·rw [z,hu] at e;cases e;cases cu
 ·refine ag (wpAny_mono (CU (s0:=s) (fun b o hb z=>kk b o (other b o hb z)) te hQ) (fun b s' z=>?_) fun _ _ z=>z);obtain ⟨rfl,z⟩:=z;exact aU z
theorem XQ {lo:Int} {i n:Nat} (hi:i<n) (st:IsRangeIter s.heap it (lo+(i:Nat)*1) ((n:Int)-(i:Nat)) 1)
 (hQ:∀(t:Tok) h' tk,IsRangeIter h' it (lo+((i+1:Nat):Int)*1) ((n:Int)-((i+1:Nat):Int)) 1->(∀b o,b∉[it]->s.heap.get? b=some o->h'.get? b=some o)->Q (some (.int (lo+(i:Nat)*1) t)) { s with heap:=h',toks:=tk }):
 wpAny (model prog w) A (pyNext (.ref it)) Q E s:=by
 refine wpAny_pyNext_range_item st (by lia) fun h' ae sb=>?_;refine hQ _ h' _ ?_ fun b o hb e=>sb.extBut b o (fun z=>hb (by simp [z])) e;have e1:lo+((i+1:Nat):Int)*1=lo+(i:Int)*1+1:=by lia
 have e2:(n:Int)-((i+1:Nat):Int)=(n:Int)-(i:Int)-1:=by lia
 rw [e1,e2];exact ae
end
noncomputable abbrev Key:=Sum Int Str
noncomputable def vV:Key->Value->Bool
 | .inl k,v=>Value.isInt k v
 | .inr x,v=>Value.isStrOf x v
noncomputable def Yu (w:World):Key->Int
 | .inl k=>hashInt k
 | .inr x=>hashStr w x
theorem rM:∀{k:Key} {v:Value},vV k v=true->(∃i t,k=Sum.inl i/\v=Value.int i t)\/(∃x t,k=Sum.inr x/\v=Value.str x t)
 | .inl i,v,h=>by
  obtain ⟨t,e⟩:=Value.isInt_shape (k:=i) (v:=v) h;exact .inl ⟨i,t,rfl,e⟩
 | .inr x,v,h=>by
  obtain ⟨t,e⟩:=Value.isStrOf_shape (x:=x) (v:=v) h;exact .inr ⟨x,t,rfl,e⟩
theorem Wz (i:Int) (t:Tok):vV (.inl i) (.int i t)=true:=by simp [vV,Value.isInt]
theorem W7 (x:Str) (t:Tok):vV (.inr x) (.str x t)=true:=by simp [vV,Value.isStrOf]
theorem ZA (a b:Int):decide ((Sum.inl a:Key)=Sum.inl b)=(a==b):=by
 by_cases e:a=b
 ·subst e;simp
 ·have h:¬(Sum.inl a:Key)=Sum.inl b:=fun q=>e (Sum.inl.inj q);rw [fU h];exact (beq_eq_false_iff_ne.mpr e).symm
theorem TB (a b:Str):decide ((Sum.inr a:Key)=Sum.inr b)=decide (a=b):=by
 by_cases e:a=b
 ·subst e;simp
 ·have h:¬(Sum.inr a:Key)=Sum.inr b:=fun q=>e (Sum.inr.inj q);rw [fU h,fU e]
theorem T8 (a:Int) (b:Str):decide ((Sum.inl a:Key)=Sum.inr b)=false:=fU nofun
theorem T9 (a:Str) (b:Int):decide ((Sum.inr a:Key)=Sum.inl b)=false:=fU nofun
noncomputable def lZ (prog:Program) (w:World):PySem.KeyKind prog w Key where
 is:=vV
 hash:=Yu w
 inj:=fun v a b ha hb=>by
  rcases rM ha with ⟨i,t,rfl,rfl⟩ | ⟨x,t,rfl,rfl⟩
  ·rcases rM hb with ⟨j,u,rfl,e⟩ | ⟨y,u,rfl,e⟩
   ·injection e with e1 _;rw [e1]
   ·exact nomatch e
  ·rcases rM hb with ⟨j,u,rfl,e⟩ | ⟨y,u,rfl,e⟩
   ·exact nomatch e
   ·injection e with e1 _;rw [e1]
 byValue:=fun k v h=>by
  rcases rM h with ⟨i,t,rfl,rfl⟩ | ⟨x,t,rfl,rfl⟩<;>rfl
 pyHash:=fun hv h=>by
  rcases rM hv with ⟨i,t,rfl,rfl⟩ | ⟨x,t,rfl,rfl⟩
  ·exact wpAny_pyHash_int h
  ·exact wpAny_pyHash_str h
 eqBool:=fun hu hv h=>by
  rcases rM hu with ⟨i,t,rfl,rfl⟩ | ⟨x,t,rfl,rfl⟩
  ·rcases rM hv with ⟨j,u,rfl,rfl⟩ | ⟨y,u,rfl,rfl⟩
   ·rw [ZA] at h;exact wpAny_eqBool_int h
   ·rw [T8] at h;exact SeqAt.EqAt.int_str i t y u _ _ _ _ h
  ·rcases rM hv with ⟨j,u,rfl,rfl⟩ | ⟨y,u,rfl,rfl⟩
   ·rw [T9] at h;exact SeqAt.EqAt.str_int x t j u _ _ _ _ h
   ·rw [TB] at h;exact wpAny_eqBool_str h
 «strs»:=fun k x t v h=>by
  rcases rM h with ⟨i,u,rfl,e⟩ | ⟨y,u,rfl,e⟩
  ·exact nomatch e
  ·injection e with e1 _
   subst e1;cases v<;>rfl
theorem X1 (prog:Program) (w:World) (i:Int) (t:Tok):(lZ prog w).is (.inl i) (.int i t)=true:=Wz i t
theorem X2 (prog:Program) (w:World) (x:Str) (t:Tok):(lZ prog w).is (.inr x) (.str x t)=true:=W7 x t
inductive V where
 | aS | bl (b:Bool) | int (i:Int) | str (x:Str) | oN (b:Array UInt8) | xX (b:UInt64) | ref (a:Addr) | ty (n:String)
 deriving DecidableEq
noncomputable def bQ:V->Value->Prop
 | .aS,u=>u=Value.none
 | .bl b,u=>u=Value.bool b
 | .int i,u=>∃t,u=Value.int i t
 | .str x,u=>∃t,u=Value.str x t
 | .oN b,u=>∃t,u=Value.bytes b t
 | .xX b,u=>∃t,u=Value.float b t
 | .ref a,u=>u=Value.ref a
 | .ty n,u=>u=Value.type n
noncomputable abbrev bp:List V->List Value->Prop:=Paired bQ
theorem bp.length (r:bp xs us):xs.length=us.length:=Paired.length r
theorem bp.get:∀{xs:List V} {us:List Value} {i:Nat} {x:V},bp xs us->xs[i]?=some x->∃u,us[i]?=some u/\bQ x u
 | _,_,_,_,.nil,e=>by simp at e
 | _,_,0,_,.cons r _,e=>by simp at e;subst e;exact ⟨_,rfl,r⟩
 | _,_,i+1,x,.cons _ t,e=>by
  obtain ⟨u,h1,h2⟩:=bp.get (i:=i) (x:=x) t (by simpa using e);exact ⟨u,by simpa using h1,h2⟩
theorem bp.set (r:bQ x u):∀{xs:List V} {us:List Value} (i:Nat),bp xs us->bp (xs.set i x) (us.set i u)
 | _,_,_,.nil=>.nil
 | _,_,0,.cons _ t=>.cons r t
 | _,_,i+1,.cons q t=>.cons q (bp.set r i t)
theorem bp.append {xs ys:List V} {us ws:List Value} (h:bp xs us) (s:bp ys ws):bp (xs++ys) (us++ws):=by
 induction h with
 | nil=>exact s
 | cons r t ih=>exact .cons r ih
theorem bp.take:∀{xs:List V} {us:List Value} (n:Nat),bp xs us->bp (xs.take n) (us.take n)
 | _,_,0,_=>.nil
 | _,_,_+1,.nil=>.nil
 | _,_,n+1,.cons r t=>.cons r (bp.take n t)
theorem bp.drop:∀{xs:List V} {us:List Value} (n:Nat),bp xs us->bp (xs.drop n) (us.drop n)
 | _,_,0,r=>r
 | _,_,_+1,.nil=>.nil
 | _,_,n+1,.cons _ t=>bp.drop n t
noncomputable def jA:Option V->Option Value->Prop
 | some v,some u=>bQ v u
 | none,none=>True
 | _,_=>False
noncomputable def KV {κ:Type}:List (κ×V)->List (κ×Value)->Prop:=Paired fun (p:κ×V) (q:κ×Value)=>p.1=q.1/\bQ p.2 q.2
noncomputable def kV:Key->V
 | .inl i=>.int i
 | .inr x=>.str x
inductive HO where
 | lst (xs:List V)
 | tup (xs:List V)
 | dK (kvs:List (Key×V)) | dT (kvs:List (List Key×V))
 | set (S:Int->Bool) (n:Nat)
 | ins (C dx:Addr) (fs:List (Str×V))
 | own (x:Addr)
 | xd (fs:List (Str×V))
 | met (f x:Addr)
 | IX (lo hi:Int)
 | gG (o:Obj) (u:HO)
 | wD (ps:Array Value)
 | ext (φ:Heap->Prop)
noncomputable abbrev Hp:=Addr->Option HO
noncomputable def upd (H:Hp) (a:Addr) (o:HO):Hp:=fun b=>if b=a then some o else H b
theorem ai:upd H a o a=some o:=by unfold upd;rw [if_pos rfl]
theorem ao (h:b≠a):upd H a o b=H b:=by unfold upd;rw [if_neg h]
theorem NQ:upd (upd H a o) a u=upd H a u:=by
 funext b;unfold upd;split<;>rfl
theorem cQ {H:Hp} {a b:Addr} {o u:HO} (h:H a=some o) (h':H b=some u) (d:o≠u):a≠b:=by
 intro e;subst e;rw [h] at h';exact d (eT h')
theorem aQ {H:Hp} {a b:Addr} {o:HO} (h:H a=some o) (h':H b=none):a≠b:=by
 intro e;subst e;rw [h] at h';cases h'
section
variable (P:Program) (w:World)
noncomputable def ef (H:Hp) (h:Heap) (a:Addr):HO->Prop
 | .lst xs=>xs.length<=sizeLine/\∃(its:List Value) (n:Nat),bp xs its/\h.get? a=some { cls:=.type "list",data:=.seq its.toArray n }
 | .tup xs=>xs.length<=sizeLine/\∃its:List Value,bp xs its/\IsTup h a its.toArray
 | .dK kvs=>kvs.length<=sizeLine/\(a==sysModules)=false/\∃vs,KV kvs vs/\h.DictOf (lZ P w) a vs
 | .dT kvs=>kvs.length<=sizeLine/\(a==sysModules)=false/\∃xs:List (List Key×Addr×Value),
  Paired (fun (p:List Key×V) (q:List Key×Addr×Value)=>p.1=q.1/\H q.2.1=some (.tup (p.1.map kV))/\bQ p.2 q.2.2) kvs xs/\
  ∃o es ep,h.get? a=some o/\o.ExactDict/\o.data=.dict es ep/\es.toList=xs.map (entryOfKey (tupleKind (lZ P w)))/\(xs.map (·.1)).Nodup
 | .set S n=>h.SetOf (intKind P w) a S n
 | .ins C dx fs=>H dx=some (.own a)/\fs.length<=1000/\dx≠a/\h.get? a=some (PySem.W.instObj C dx)/\
  ∃mA,h.Ns1 dx mA/\(∀f,jA (fs.lookup f) (mA f))/\PySem.Within mA (fs.map (·.1))
 | .own _=>∃o,h.get? a=some o
 | .xd fs=>∃mA,h.Ns1 a mA/\∀f,jA (fs.lookup f) (mA f)
 | .IX lo hi=>∃t u v,h.get? a=some { cls:=.type "range",data:=.fields #[.int lo t,.int hi u,.int 1 v] }
 | .gG o u=>h.get? a=some o/\ef H h a u
 | .wD ps=>h.get? a=some { cls:=.none,data:=.fields ps }
 | .met f x=>h.get? a=some (PySem.W.methodObj (.ref f) (.ref x))
 | .ext φ=>φ h/\(∃o,h.get? a=some o)/\∀h1 h2:Heap,φ h1->(∀o,h1.get? a=some o->h2.get? a=some o)->φ h2
noncomputable def eE (H:Hp) (h:Heap):Prop:=∀a o,H a=some o->ef P w H h a o
end
section
variable {P:Program} {w:World} {H H':Hp} {h h':Heap} {a:Addr} {o:HO}
theorem ef.lt (x:ef P w H h a o):a<h.objs.size:=by
 cases o with
 | lst xs=>obtain ⟨_,_,_,_,e⟩:=x;exact dt e
 | tup xs=>obtain ⟨_,_,_,p⟩:=x;exact p.lt
 | dK kvs=>obtain ⟨_,_,_,_,o,_,_,e,_⟩:=x;exact dt e
 | dT kvs=>obtain ⟨_,_,_,_,o,_,_,e,_⟩:=x;exact dt e
 | set S n=>obtain ⟨o,_,_,_,e,_⟩:=x;exact dt e
 | ins C dx fs=>obtain ⟨_,_,_,e,_⟩:=x;exact dt e
 | own y=>obtain ⟨_,e⟩:=x;exact dt e
 | xd fs=>obtain ⟨_,⟨_,_,_,e,_⟩,_⟩:=x;exact dt e
 | IX lo hi=>obtain ⟨_,_,_,e⟩:=x;exact dt e
 | gG ob u=>obtain ⟨e,_⟩:=x;exact dt e
 | wD ps=>exact dt (show h.get? a=some _ from x)
 | met f y=>exact dt (show h.get? a=some _ from x)
 | ext φ=>obtain ⟨_,⟨_,e⟩,_⟩:=x;exact dt e
theorem Paired.xh {l₁:List α} {l₂:List β} (h:Paired F l₁ l₂) (f:∀a b,F a b->G a b):Paired G l₁ l₂:=by
 induction h with
 | nil=>exact .nil
 | cons r t ih=>exact .cons (f _ _ r) ih
theorem ef.fq (x:ef P w H h a o) (k:∀b u,(b=a\/H b=some (.own a))->h.get? b=some u->h'.get? b=some u)
 (ho:∀b,H b=some (.own a)->H' b=some (.own a)) (ht:∀b xs,H b=some (.tup xs)->H' b=some (.tup xs)):ef P w H' h' a o:=by
 induction o with
 | lst xs=>obtain ⟨z,its,n,r,e⟩:=x;exact ⟨z,its,n,r,k _ _ (.inl rfl) e⟩
 | tup xs=>obtain ⟨z,its,r,ob,e,c⟩:=x;exact ⟨z,its,r,ob,k _ _ (.inl rfl) e,c⟩
 | dK kvs=>obtain ⟨z,y,vs,r,ob,es,ep,e,c⟩:=x;exact ⟨z,y,vs,r,ob,es,ep,k _ _ (.inl rfl) e,c⟩
 | dT kvs=>
  obtain ⟨z,y,xs,r,ob,es,ep,e,c⟩:=x;exact ⟨z,y,xs,Paired.xh r fun p q z=>⟨z.1,ht _ _ z.2.1,z.2.2⟩,ob,es,ep,k _ _ (.inl rfl) e,c⟩
 | set S n=>obtain ⟨ob,es,ep,t,e,c⟩:=x;exact ⟨ob,es,ep,t,k _ _ (.inl rfl) e,c⟩
 | ins C dx fs=>
  obtain ⟨d,z,ne,e,mA,⟨od,es,ep,e2,c⟩,r⟩:=x;exact ⟨ho _ d,z,ne,k _ _ (.inl rfl) e,mA,⟨od,es,ep,k _ _ (.inr d) e2,c⟩,r⟩
 | own y=>obtain ⟨ob,e⟩:=x;exact ⟨ob,k _ _ (.inl rfl) e⟩
 | xd fs=>obtain ⟨mA,⟨od,es,ep,e,c⟩,r⟩:=x;exact ⟨mA,⟨od,es,ep,k _ _ (.inl rfl) e,c⟩,r⟩
 | IX lo hi=>obtain ⟨t,u,v,e⟩:=x;exact ⟨t,u,v,k _ _ (.inl rfl) e⟩
 | gG ob u ih=>obtain ⟨e,q⟩:=x;exact ⟨k _ _ (.inl rfl) e,ih q⟩
 | wD ps=>
  have e:h.get? a=some { cls:=.none,data:=.fields ps }:=x;show h'.get? a=some { cls:=.none,data:=.fields ps };exact k a _ (.inl rfl) e
 | met f y=>
  have e:h.get? a=some (PySem.W.methodObj (.ref f) (.ref y)):=x;show h'.get? a=some (PySem.W.methodObj (.ref f) (.ref y));exact k a _ (.inl rfl) e
 | ext φ=>obtain ⟨p,⟨o,e⟩,st⟩:=x;exact ⟨st _ _ p fun o q=>k _ _ (.inl rfl) q,⟨o,k _ _ (.inl rfl) e⟩,st⟩
theorem eE.lt (x:eE P w H h) (e:H a=some o):a<h.objs.size:=(x a o e).lt
theorem eE.fresh (x:eE P w H h) (e:h.objs.size<=a):H a=none:=by
 cases q:H a with
 | none=>rfl
 | some u=>exact absurd (i_ (x.lt q) e) (j9 _)
theorem eE.kept (x:eE P w H h) (k:∀b u,h.get? b=some u->h'.get? b=some u):eE P w H h':=fun a o e=>
 (x a o e).fq (fun b u _ q=>k b u q) (fun _ q=>q) fun _ _ q=>q
theorem eE.laid (x:eE P w H h) (k:∀b u,h.get? b=some u->h'.get? b=some u) (hp:h.objs.size<=a) (new:ef P w (upd H a o) h' a o):eE P w (upd H a o) h':=fun b u e=>by
 have hn:=x.fresh hp
 by_cases hb:b=a
 ·subst hb;rw [ai] at e;cases e;exact new
 ·rw [ao hb] at e;exact (x b u e).fq (fun c v _ q=>k c v q) (fun c q=>by rw [ao (aQ q hn)];exact q) fun c xs q=>by rw [ao (aQ q hn)];exact q
end
noncomputable def Rd (H:Hp) (a:Addr) (u:HO):Prop:=H a=some u\/∃o,H a=some (.gG o u)
theorem Rd.ok {P:Program} {w:World} (r:Rd H a u) (x:eE P w H h):ef P w H h a u:=by
 rcases r with r | ⟨o,r⟩
 ·exact x a u r
 ·obtain ⟨_,q⟩:=x a _ r;exact q
noncomputable def zJ:Option HO->Prop
 | some (.lst _)=>True
 | some (.dK _)=>True
 | some (.dT _)=>True
 | some (.set _ _)=>True
 | some (.ins _ _ _)=>True
 | some (.ext _)=>True
 | _=>False
section
variable {P:Program} {w:World} {H:Hp} {h h':Heap} {x e:Addr} {o':HO}
theorem eE.write (ok:eE P w H h) (mu:zJ (H x)) (he:e=x\/H e=some (.own x)) (k:∀b u,b≠e->h.get? b=some u->h'.get? b=some u) (z6:∃u,h'.get? e=some u)
 (new:ef P w (upd H x o') h' x o'):eE P w (upd H x o') h':=fun b u q=>by
 have tY:∀c y,H c=some (.own y)->c≠x:=fun c y r z=>by subst z;rw [r] at mu;exact mu
 have xf:∀c xs,H c=some (.tup xs)->c≠x:=fun c xs r z=>by subst z;rw [r] at mu;exact mu
 by_cases hb:b=x
 ·subst hb;rw [ai] at q;cases q;exact new
 ·rw [ao hb] at q
  by_cases rW:b=e
  ·have q':H b=some (.own x):=by
    rcases he with z | z
    ·exact absurd (rW.trans z) hb
    ·rw [rW];exact z
   rw [q] at q';cases q';obtain ⟨v,hv⟩:=z6;exact ⟨v,by rw [rW];exact hv⟩
  ·refine (ok b u q).fq (fun c v hc r=>k c v ?_ r) (fun c r=>by rw [ao (tY c b r)];exact r) fun c xs r=>by rw [ao (xf c xs r)];exact r
   rcases hc with rfl | hc
   ·exact rW
   ·rintro rfl;rcases he with z | z
    ·exact tY c b hc z
    ·rw [hc] at z;cases z;exact hb rfl
end
structure Un (fs ex:List Addr) (H H':Hp) (h h':Heap):Prop where
 keep:∀b o,h.get? b=some o->H b=none->b∉fs->b∉ex->h'.get? b=some o
 slot:∀b o,h.get? b=some o->H b=none->b∈fs->b∉ex->∃sl,h'.get? b=some { o with slots:=sl }
 free:∀b o,h.get? b=some o->H b=none->b∉ex->H' b=none
 there:∀b o,h.get? b=some o->b∉ex->∃o',h'.get? b=some o'
 gA:∀b xs,H b=some (.tup xs)->H' b=some (.tup xs)
 gj:∀b o u,H b=some (.gG o u)->H' b=some (.gG o u)
 iu:∀b ps,H b=some (.wD ps)->∃more,H' b=some (.wD (ps++more))
section
variable {fs fs' ex Fy:List Addr} {H H1 H2:Hp} {h h1 h2 h':Heap} {a x e:Addr} {o:HO}
theorem Un.any (u:Un fs ex H H1 h h1) (q:h.get? b=some ob) (n:H b=none) (hx:b∉ex):∃sl,h1.get? b=some { ob with slots:=sl }:=by
 by_cases hb:b∈fs
 ·exact u.slot b ob q n hb hx
 ·exact ⟨ob.slots,u.keep b ob q n hb hx⟩
theorem Un.kept (k:∀b u,h.get? b=some u->h'.get? b=some u):Un fs ex H H h h':=
 ⟨fun b ob q _ _ _=>k b ob q,fun b ob q _ _ _=>⟨ob.slots,k b ob q⟩,fun _ _ _ n _=>n,fun b ob q _=>⟨ob,k b ob q⟩,fun _ _ q=>q,fun _ _ _ q=>q,fun _ ps q=>⟨#[],by rw [q];simp⟩⟩
theorem Un.refl:Un fs ex H H h h:=Un.kept fun _ _ q=>q
theorem Un.laid (k:∀b u,h.get? b=some u->h'.get? b=some u) (hp:h.objs.size<=a) (hn:H a=none):Un fs ex H (upd H a o) h h' where
 keep:=fun b u q _ _ _=>k b u q
 slot:=fun b u q _ _ _=>⟨u.slots,k b u q⟩
 free:=fun b u q n _=>by rw [ao (gY (i_ (dt q) hp))];exact n
 there:=fun b u q _=>⟨u,k b u q⟩
 gA:=fun b xs q=>by rw [ao (aQ q hn)];exact q
 gj:=fun b u xs q=>by rw [ao (aQ q hn)];exact q
 iu:=fun b ps q=>⟨#[],by rw [ao (aQ q hn),q];simp⟩
theorem Un.write (mu:zJ (H x)) (he:e=x\/H e=some (.own x)) (k:∀b u,b≠e->h.get? b=some u->h'.get? b=some u) (z6:∃u,h'.get? e=some u):Un fs ex H (upd H x o) h h':=by
 have hx:∀b,H b=none->b≠x:=fun b n z=>by subst z;rw [n] at mu;exact mu
 have hb:∀b,H b=none->b≠e:=fun b n z=>by
  subst z;rcases he with r | r
  ·exact hx b n r
  ·rw [n] at r;cases r
 have hm:∀b u,H b=some u->¬zJ (some u)->b≠x:=fun b u q nm z=>by subst z;rw [q] at mu;exact nm mu
 refine ⟨fun b u q n _ _=>k b u (hb b n) q,fun b u q n _ _=>⟨u.slots,k b u (hb b n) q⟩,fun b u q n _=>by rw [ao (hx b n)];exact n,fun b u q _=>?_,
  fun b xs q=>by rw [ao (hm b _ q fun z=>z)];exact q,fun b u xs q=>by rw [ao (hm b _ q fun z=>z)];exact q,fun b ps q=>⟨#[],by rw [ao (hm b _ q fun z=>z),q];simp⟩⟩
 by_cases rW:b=e
 ·subst rW;exact z6
 ·exact ⟨u,k b u rW q⟩
end
noncomputable def EA (h:Heap) (H:Hp):List Addr:=(List.range h.objs.size).filter fun a=>(H a).isSome
noncomputable def sv (h:Heap) (H:Hp):Heap:=PySem.W.hideAll h (EA h H)
theorem WM (h:Heap) (H:Hp):(sv h H).objs.size=h.objs.size:=PySem.W.hideAll_size _ _
theorem V8 (e:h.get? b=some o) (n:H b=none):(sv h H).get? b=some o:=
 PySem.W.hideAll_get _ e fun hm=>by
  have q:(H b).isSome=true:=(List.mem_filter.mp hm).2;rw [n] at q;simp at q
theorem Vl (e:(sv h H).get? b=some o):h.get? b=some o/\H b=none:=by
 have e':h.get? b=some o:=PySem.W.of_hideAll (EA h H) e;refine ⟨e',?_⟩
 cases q:H b with
 | none=>rfl
 | some x=>
  have hm:b∈EA h H:=List.mem_filter.mpr ⟨List.mem_range.mpr (dt e'),by simp [q]⟩;have z:(sv h H).get? b=none:=PySem.W.hideAll_none (EA h H) hm;rw [z] at e;cases e
structure Mod (K:aA) (mg:Str->Option Value) (base:Heap):Prop where
 zd:K.In base
 glob:base.Ns mainGlobals mg
 blt:∃mb,base.Ns builtinsNs mb/\∀x:Str,x≠"__name__"->mb x=bootBuiltins x
 nolimit:base.NoLimit
structure Cx where
 prog:Program
 w:World
 K:aA
 mg:Str->Option Value
 base:Heap
 A:Around
 N:List Str
 bS:Shared
 gq:Hp
 env:Env
 outer:List Env
 stack:List Env
 ex:List Addr
 fn:Str->Bool
 calm:Bool
 pn:List (Addr×Obj)
 xe:Value->Shared->Prop
noncomputable def jW (l:List Env):List Addr:=l.filterMap (·.frame)
noncomputable abbrev Cx.fs (X:Cx):List Addr:=jW X.outer
noncomputable def F9 (sc:Scope) (x:Str):Prop:=sc.names.lookup x=some .local\/sc.names.lookup x=some .cell\/sc.names.lookup x=some .free
noncomputable def Loc (sc:Scope) (x:Str):Prop:=sc.names.lookup x=some .local\/sc.names.lookup x=some .cell
noncomputable def XZ (env:Env) (h:Heap) (m:Str->Option Value) (x:Str) (u:Value):Prop:=
 (env.kindOf x=some .local/\m x=some u)\/((env.kindOf x=some .cell\/env.kindOf x=some .free)/\∃c,env.cells.lookup x=some c/\h.IsCell c (some u))
structure Cx.Ok (X:Cx):Prop where
 mod:Mod X.K X.mg X.base
 kind:X.env.scope.kind=.function
 glob:X.env.globals=mainGlobals
 blt:X.env.builtins=builtinsNs
 above:X.bS.heap.objs.size<=X.env.locals
 inj:∀x y c,X.env.cells.lookup x=some c->X.env.cells.lookup y=some c->x=y
 has:∀x,(X.env.kindOf x=some .cell\/X.env.kindOf x=some .free)->∃c,X.env.cells.lookup x=some c
 ur:∀x c,X.fn x=true->X.env.cells.lookup x=some c->X.bS.heap.objs.size<=c
 hd:X.calm=true->X.A.handled=none
 frames:X.A.frames=some X.stack
 uZ:X.stack=X.outer\/(X.stack=X.env::X.outer/\X.env.frame=some X.env.locals)
 zE:∀b∈X.ex,b≠X.env.locals/\∀x c,X.env.cells.lookup x=some c->c≠b
 bs:∀b o,X.base.get? b=some o->X.bS.heap.get? b=some o/\X.gq b=none
 oO:X.base.objs.size<=X.bS.heap.objs.size
 jM:∀b o,X.base.get? b=some o->b∉X.ex
 jX:∀b∈X.ex,b∉X.fs
 eP:X.bS.heap.FunFrames X.base X.outer
 pz:∀b∈X.fs,X.gq b=none
structure Inv (X:Cx) (pins:List (Addr×Obj)) (σ:List (Option V)) (H:Hp) (s:Shared):Prop where
 ok:X.Ok
 os:s.os=X.bS.os
 bare:AllBare s.gens
 base:Un X.fs X.ex X.gq H X.bS.heap s.heap
 loc:∃m,s.heap.Ns X.env.locals m/\∀(i:Nat) (x:Str) (v:V),X.N[i]?=some x->σ[i]?=some (some v)->F9 X.env.scope x->∃u,bQ v u/\XZ X.env s.heap m x u
 cell:∀x c,X.env.cells.lookup x=some c->∃v,s.heap.IsCell c v
 free:H X.env.locals=none
 cD:∀x c,X.env.cells.lookup x=some c->H c=none
 pin:∀p∈X.pn++pins,s.heap.get? p.1=some p.2/\H p.1=none/\p.1≠X.env.locals/\p.1∉X.fs/\∀v,p.2.data≠.cell v
 af:eE X.prog X.w H s.heap
 len:σ.length=X.N.length
section
variable {X:Cx} {pins:List (Addr×Obj)} {σ:List (Option V)} {H H':Hp} {s:Shared} {h':Heap}
theorem Cx.Ok.JG (ok:X.Ok) (e:X.base.get? b=some o):b∉X.fs:=fun hb=>by
 have:=(ok.eP.mem hb).1;rw [e] at this;cases this
theorem Inv.bs (I:Inv X pins σ H s):∀b o,X.base.get? b=some o->s.heap.get? b=some o/\H b=none:=fun b o e=>
 ⟨I.base.keep b o (I.ok.bs b o e).1 (I.ok.bs b o e).2 (I.ok.JG e) (I.ok.jM b o e),I.base.free b o (I.ok.bs b o e).1 (I.ok.bs b o e).2 (I.ok.jM b o e)⟩
theorem Inv.bk (I:Inv X pins σ H s):∀b o,X.base.get? b=some o->s.heap.get? b=some o:=fun b o e=>(I.bs b o e).1
theorem Inv.mod (I:Inv X pins σ H s):Mod X.K X.mg X.base:=I.ok.mod
theorem Inv.gN (I:Inv X pins σ H s):X.K.In s.heap:=I.ok.mod.zd.keeps I.bk
theorem Inv.lt (I:Inv X pins σ H s):X.env.locals<s.heap.objs.size:=let ⟨_,hn,_⟩:=I.loc;hn.lt
theorem Inv.sz (I:Inv X pins σ H s):X.bS.heap.objs.size<=s.heap.objs.size:=eC I.ok.above (bo I.lt)
theorem Inv.JF (I:Inv X pins σ H s) (h:s.heap.objs.size<=a):a∉X.fs:=fun hb=>by
 obtain ⟨_,o,ho,_⟩:=I.ok.eP.mem hb;exact absurd (i_ (dt ho) (eC I.sz h)) (j9 _)
theorem Inv.yc (I:Inv X pins σ H s):∀x c,X.env.cells.lookup x=some c->c≠X.env.locals:=fun x c e z=>by
 obtain ⟨v,o,ho,hd⟩:=I.cell x c e;obtain ⟨m,⟨o',es,ep,lL,z8,_⟩,_⟩:=I.loc;rw [z,lL] at ho;cases ho;rw [z8] at hd;cases hd
theorem Inv.eP (I:Inv X pins σ H s):s.heap.FunFrames X.base X.outer:=by
 have all:∀(l:List Env),(∀b∈jW l,b∈X.fs)->X.bS.heap.FunFrames X.base l->s.heap.FunFrames X.base l:=by
  intro l
  induction l with
  | nil=>intro _ _;trivial
  | cons env r ih=>
   intro hs hl;obtain ⟨hk,⟨L,o,hf,hn,ho,hd⟩,hr⟩:=hl;have hL:L∈X.fs:=hs L (by unfold jW;rw [List.filterMap_cons,hf];exact eD);obtain ⟨sl,e⟩:=I.base.slot L o ho (I.ok.pz L hL) hL fun z=>I.ok.jX L z hL;exact ⟨hk,⟨L,_,hf,hn,e,hd⟩,ih (fun b hb=>hs b (by unfold jW;rw [List.filterMap_cons,hf];exact gz _ hb)) hr⟩
 exact all X.outer (fun _ hb=>hb) I.ok.eP
theorem Inv.stack (I:Inv X pins σ H s):s.heap.FunFrames X.base X.stack:=by
 rcases I.ok.uZ with e | ⟨e,hf⟩
 ·rw [e];exact I.eP
 ·rw [e];obtain ⟨m,hn,_⟩:=I.loc;refine .cons (by rw [I.ok.kind];decide) hf hn ?_ I.eP;exact Heap.get?_none_of_le (eC I.ok.oO I.ok.above)
theorem Inv.jG (I:Inv X pins σ H s):∀b∈jW X.stack,b∈X.env.locals::X.fs:=fun b hb=>by
 rcases I.ok.uZ with e | ⟨e,hf⟩
 ·rw [e] at hb;exact gz _ hb
 ·rw [e] at hb;unfold jW at hb;rw [List.filterMap_cons,hf] at hb;exact hb
theorem Inv.jH (I:Inv X pins σ H s):∀b∈jW X.stack,H b=none:=fun b hb=>by
 rcases eS.mp (I.jG b hb) with e | hb
 ·rw [e];exact I.free
 ·obtain ⟨_,o,ho,_⟩:=I.ok.eP.mem hb;exact I.base.free b o ho (I.ok.pz b hb) fun z=>I.ok.jX b z hb
theorem Inv.step {g':Array GenState} {t':Nat} {d':Drawn} {ch:List Addr} (I:Inv X pins σ H s)
 (rV:∀b∈ch,(b∈X.ex\/X.bS.heap.objs.size<=b)/\b≠X.env.locals/\(∀x c,X.env.cells.lookup x=some c->c≠b)/\∀p∈X.pn++pins,p.1≠b)
 (keep:∀b o,b≠X.env.locals->b∉X.fs->b∉ch->s.heap.get? b=some o->H b=none->h'.get? b=some o)
 (slot:∀b o,b≠X.env.locals->b∈X.fs->b∉ch->s.heap.get? b=some o->H b=none->∃sl,h'.get? b=some { o with slots:=sl }) (free:∀b o,b∉ch->s.heap.get? b=some o->H b=none->H' b=none)
 (there:∀b o,b∉ch->s.heap.get? b=some o->∃o',h'.get? b=some o')
 (gA:∀b xs,H b=some (.tup xs)->H' b=some (.tup xs)) (gj:∀b o u,H b=some (.gG o u)->H' b=some (.gG o u)) (iu:∀b ps,H b=some (.wD ps)->∃more,H' b=some (.wD (ps++more)))
 (ns:∀m,s.heap.Ns X.env.locals m->h'.Ns X.env.locals m) (af:eE X.prog X.w H' h') (hg:AllBare g'):
 Inv X pins σ H' { s with heap:=h',gens:=g',drawn:=d',toks:=t' }:=by
 have Rr:∀b o,X.bS.heap.get? b=some o->b≠X.env.locals:=fun b o e=>gY (i_ (dt e) I.ok.above);have EK:∀b o,X.bS.heap.get? b=some o->b∉X.ex->b∉ch:=fun b o e hx hb=>by
  rcases (rV b hb).1 with z | z
  ·exact hx z
  ·exact absurd (i_ (dt e) z) (j9 _)
 have cellK:∀x c,X.env.cells.lookup x=some c->∀v,s.heap.IsCell c v->h'.IsCell c v:=fun x c e v ⟨o,ho,hd⟩=>by
  have Bb:c∉ch:=fun z=>(rV c z).2.2.1 x c e rfl
  by_cases hc:c∈X.fs
  ·obtain ⟨sl,q⟩:=slot c o (I.yc x c e) hc Bb ho (I.cD x c e);exact ⟨_,q,hd⟩
  ·exact ⟨o,keep c o (I.yc x c e) hc Bb ho (I.cD x c e),hd⟩
 refine ⟨I.ok,I.os,hg,⟨fun b o e n hb hx=>?_,fun b o e n hb hx=>?_,fun b o e n hx=>?_,fun b o e hx=>?_,fun b xs e=>gA b xs (I.base.gA b xs e),fun b o xs e=>gj b o xs (I.base.gj b o xs e),fun b ps e=>?_⟩,?_,fun x c e=>?_,?_,fun x c e=>?_,fun p hp=>?_,af,I.len⟩
 ·exact keep b o (Rr b o e) hb (EK b o e hx) (I.base.keep b o e n hb hx) (I.base.free b o e n hx)
 ·obtain ⟨sl,e1⟩:=I.base.slot b o e n hb hx;obtain ⟨yX,e2⟩:=slot b _ (Rr b o e) hb (EK b o e hx) e1 (I.base.free b o e n hx);exact ⟨yX,e2⟩
 ·obtain ⟨o',e1⟩:=I.base.there b o e hx;exact free b o' (EK b o e hx) e1 (I.base.free b o e n hx)
 ·obtain ⟨o',e1⟩:=I.base.there b o e hx;exact there b o' (EK b o e hx) e1
 ·obtain ⟨m1,e1⟩:=I.base.iu b ps e;obtain ⟨m2,e2⟩:=iu b _ e1;exact ⟨m1++m2,by rw [e2,Array.append_assoc]⟩
 ·obtain ⟨m,hn,hl⟩:=I.loc;refine ⟨m,ns m hn,fun i x v e1 e2 e3=>?_⟩;obtain ⟨u,r,l⟩:=hl i x v e1 e2 e3;refine ⟨u,r,?_⟩;rcases l with l | ⟨k,c,e,z⟩
  ·exact .inl l
  ·exact .inr ⟨k,c,e,cellK x c e _ z⟩
 ·obtain ⟨v,z⟩:=I.cell x c e;exact ⟨v,cellK x c e v z⟩
 ·obtain ⟨m,⟨o,_,_,ho,_⟩,_⟩:=I.loc;exact free _ o (fun z=>(rV _ z).2.1 rfl) ho I.free
 ·obtain ⟨v,o,ho,hd⟩:=I.cell x c e;exact free c o (fun z=>(rV c z).2.2.1 x c e rfl) ho (I.cD x c e)
 ·obtain ⟨e,n,ne,nf,d⟩:=I.pin p hp;have Bb:p.1∉ch:=fun z=>(rV p.1 z).2.2.2 p hp rfl;exact ⟨keep p.1 p.2 ne nf Bb e n,free p.1 p.2 Bb e n,ne,nf,d⟩
theorem Inv.un {t':Nat} (I:Inv X pins σ H s) (u:Un X.fs [] H H' s.heap h') (af:eE X.prog X.w H' h'):Inv X pins σ H' { s with heap:=h',toks:=t' }:=by
 obtain ⟨m,⟨o,es,ep,ho,r⟩,_⟩:=id I.loc;obtain ⟨sl,hL⟩:=u.any ho I.free (by simp);exact I.step (g':=s.gens) (d':=s.drawn) (ch:=[]) (fun _ z=>nomatch z) (fun b o _ hb _ e n=>u.keep b o e n hb (by simp)) (fun b o _ hb _ e n=>u.slot b o e n hb (by simp)) (fun b o _ e n=>u.free b o e n (by simp)) (fun b o _ e=>u.there b o e (by simp)) u.gA u.gj u.iu (fun m' hm=>by
  obtain ⟨o',BX,Fz,lL,r'⟩:=hm;rw [ho] at lL;cases lL;exact ⟨_,BX,Fz,hL,r'⟩) af I.bare
theorem Inv.call {g':Array GenState} {t':Nat} {d':Drawn} {ch:List Addr} (I:Inv X pins σ H s) (u:Un (jW X.stack) ch H H' s.heap h') (af:eE X.prog X.w H' h') (hg:AllBare g')
 (rV:∀b∈ch,(b∈X.ex\/X.bS.heap.objs.size<=b)/\b≠X.env.locals/\(∀x c,X.env.cells.lookup x=some c->c≠b)/\∀p∈X.pn++pins,p.1≠b):
 Inv X pins σ H' { s with heap:=h',gens:=g',drawn:=d',toks:=t' }:=by
 obtain ⟨m,⟨o,es,ep,ho,r⟩,_⟩:=id I.loc;obtain ⟨sl,hL⟩:=u.any ho I.free fun z=>(rV _ z).2.1 rfl;exact I.step (ch:=ch) rV (fun b o hL hb hc e n=>u.keep b o e n (fun z=>(eS.mp (I.jG b z)).elim hL hb) hc) (fun b o _ _ hc e n=>u.any e n hc) (fun b o hc e n=>u.free b o e n hc) (fun b o hc e=>u.there b o e hc) u.gA u.gj u.iu (fun m' hm=>by
  obtain ⟨o',BX,Fz,lL,r'⟩:=hm;rw [ho] at lL;cases lL;exact ⟨_,BX,Fz,hL,r'⟩) af hg
theorem Inv.turned {t':Nat} {it:Addr} (I:Inv X pins σ H s) (k:∀b o,b≠it->s.heap.get? b=some o->h'.get? b=some o) (hn:H it=none) (hL:it≠X.env.locals)
 (h1:it∈X.ex\/X.bS.heap.objs.size<=it) (h2:∀x c,X.env.cells.lookup x=some c->c≠it) (h3:∀p∈X.pn++pins,p.1≠it):Inv X pins σ H { s with heap:=h',toks:=t' }:=by
 have Rp:∀b u,H b=some u->b≠it:=fun b u e z=>by rw [z,hn] at e;cases e
 refine I.step (g':=s.gens) (d':=s.drawn) (ch:=[it]) (fun b hb=>?_) (fun b o _ _ hc e _=>k b o (fun z=>hc (by simp [z])) e) (fun b o _ _ hc e _=>⟨o.slots,k b o (fun z=>hc (by simp [z])) e⟩) (fun _ _ _ _ n=>n)
  (fun b o hc e=>⟨o,k b o (fun z=>hc (by simp [z])) e⟩) (fun _ _ e=>e) (fun _ _ _ e=>e) (fun b ps e=>⟨#[],by rw [e];simp⟩) (fun m hm=>?_) (fun b u e=>?_) I.bare
 ·have e:b=it:=by simpa using hb
  subst e;exact ⟨h1,hL,h2,h3⟩
 ·obtain ⟨o,es,ep,ho,r⟩:=hm;exact ⟨o,es,ep,k _ o (aF hL) ho,r⟩
 ·refine (I.af b u e).fq (fun c v hc q=>k c v ?_ q) (fun _ q=>q) fun _ _ q=>q;rcases hc with z | z
  ·rw [z];exact Rp b u e
  ·exact Rp c _ z
theorem Inv.tok (I:Inv X pins σ H s) (t:Nat):Inv X pins σ H { s with toks:=t }:=I.un (h':=s.heap) (t':=t) Un.refl I.af
theorem Inv.kept (I:Inv X pins σ H s) (k:∀b u,s.heap.get? b=some u->h'.get? b=some u):Inv X pins σ H { s with heap:=h',toks:=t' }:=I.un (Un.kept k) (I.af.kept k)
theorem Inv.laid (I:Inv X pins σ H s) (k:∀b u,s.heap.get? b=some u->h'.get? b=some u) (hp:s.heap.objs.size<=a) (new:ef X.prog X.w (upd H a o) h' a o):
 Inv X pins σ (upd H a o) { s with heap:=h',toks:=t' }:=I.un (Un.laid k hp (I.af.fresh hp)) (I.af.laid k hp new)
theorem Inv.write (I:Inv X pins σ H s) (mu:zJ (H x)) (he:e=x\/H e=some (.own x)) (k:∀b u,b≠e->s.heap.get? b=some u->h'.get? b=some u) (z6:∃u,h'.get? e=some u)
 (new:ef X.prog X.w (upd H x o) h' x o):Inv X pins σ (upd H x o) { s with heap:=h',toks:=t' }:=I.un (Un.write mu he k z6) (I.af.write mu he k z6 new)
theorem Inv.nk (I:Inv X pins σ H s) (h:∀p∈nq,s.heap.get? p.1=some p.2/\H p.1=none/\p.1≠X.env.locals/\p.1∉X.fs/\∀v,p.2.data≠.cell v):Inv X nq σ H s:=
 ⟨I.ok,I.os,I.bare,I.base,I.loc,I.cell,I.free,I.cD,fun p hp=>(i8.mp hp).elim (fun z=>I.pin p (iL _ z)) (h p),I.af,I.len⟩
theorem OK {N:List Str} (hN:N.Nodup) {i j:Nat} {x:Str} (a:N[i]?=some x) (b:N[j]?=some x):i=j:=by
 obtain ⟨h1,e1⟩:=gQ.mp a;obtain ⟨h2,e2⟩:=gQ.mp b;exact (List.getElem_inj hN).mp (e1.trans e2.symm)
theorem Pm {M:Model} {A:Around} {E:Value->Shared->Prop} {i:Nat} {x:Str} {v:V} {u:Value} {Q:Unit->Shared->Prop} (I:Inv X pins σ H s) (hN:X.N.Nodup) (hi:X.N[i]?=some x) (hx:Loc X.env.scope x) (r:bQ v u)
 (h:∀s',Inv X pins (σ.set i (some v)) H s'->(∃a,Heap.SameBut a s.heap s'.heap/\(a=X.env.locals\/X.env.cells.lookup x=some a))->Q () s') (hf:X.fn x=true\/X.env.scope.names.lookup x=some .local:=by first | exact .inl rfl | exact .inr rfl | assumption):wpAny M A (storeName X.env x u) Q E s:=by
 obtain ⟨m,hn,hl⟩:=id I.loc;have Ld:(X.env.scope.kind==.class || (X.env.scope.kind==.module && X.env.locals !=X.env.globals))=false:=by rw [I.ok.kind];rfl
 have BA:i<σ.length:=by rw [I.len];exact (gQ.mp hi).1
 have yc:=I.yc;have tracked:∀{a:Addr} {h':Heap},(∃o,s.heap.get? a=some o/\H a=none)->Heap.SameBut a s.heap h'->eE X.prog X.w H h':=fun {a h'} ha hs b ob e=>by
  obtain ⟨_,_,vt⟩:=ha;refine (I.af b ob e).fq (fun c w' hc q=>(hs.2 c ?_).trans q) (fun _ q=>q) fun _ _ q=>q;rintro rfl;rcases hc with rfl | hc
  ·rw [vt] at e;cases e
  ·rw [vt] at hc;cases hc
 rcases hx with hk | hk
 ·refine wpAny_storeName_local hk hn (fun h' E' hs=>?_) Ld;obtain ⟨oL,_,_,xF,_⟩:=id hn;refine h _ ⟨I.ok,I.os,I.bare,⟨fun b o e n hb hx=>?_,fun b o e n hb hx=>?_,I.base.free,fun b o e hx=>?_,I.base.gA,I.base.gj,I.base.iu⟩,⟨_,E',fun j y v' e1 e2 e3=>?_⟩,fun y c e=>?_,I.free,I.cD,fun p hp=>?_,tracked ⟨oL,xF,I.free⟩ hs,by simpa using I.len⟩ ⟨_,hs,.inl rfl⟩
  ·exact (hs.2 b (gY (i_ (dt e) I.ok.above))).trans (I.base.keep b o e n hb hx)
  ·obtain ⟨sl,e1⟩:=I.base.slot b o e n hb hx;exact ⟨sl,(hs.2 b (gY (i_ (dt e) I.ok.above))).trans e1⟩
  ·obtain ⟨o',e1⟩:=I.base.there b o e hx;exact ⟨o',(hs.2 b (gY (i_ (dt e) I.ok.above))).trans e1⟩
  ·by_cases hj:j=i
   ·subst hj;rw [hi] at e1;cases e1;rw [List.getElem?_set_self BA] at e2;cases e2;exact ⟨u,r,.inl ⟨hk,by simp⟩⟩
   ·rw [List.getElem?_set_ne (aF hj)] at e2;obtain ⟨u',r',q⟩:=hl j y v' e1 e2 e3;refine ⟨u',r',?_⟩;rcases q with ⟨k,e⟩ | ⟨k,c,e,z⟩
    ·refine .inl ⟨k,?_⟩;have:y≠x:=fun e=>hj (OK hN e1 (e▸hi));simp [this,e]
    ·exact .inr ⟨k,c,e,z.sameBut hs (yc y c e)⟩
  ·obtain ⟨w',z⟩:=I.cell y c e;exact ⟨w',z.sameBut hs (yc y c e)⟩
  ·obtain ⟨e,n,ne,nf,d⟩:=I.pin p hp;exact ⟨(hs.2 p.1 ne).trans e,n,ne,nf,d⟩
 ·have KY:X.fn x=true:=by
   rcases hf with z | z
   ·exact z
   ·rw [z] at hk;cases hk
  obtain ⟨c,hc⟩:=I.ok.has x (.inl hk);obtain ⟨w',z⟩:=I.cell x c hc;refine wpAny_storeName_cell I.ok.kind hk hc z (fun h' jf hs=>?_);obtain ⟨oc,RU,Kv⟩:=id z;refine h { s with heap:=h' } ⟨I.ok,I.os,I.bare,⟨fun b o e n hb hx=>?_,fun b o e n hb hx=>?_,I.base.free,fun b o e hx=>?_,I.base.gA,I.base.gj,I.base.iu⟩,⟨m,hn.sameBut hs (aF (yc x c hc)),fun j y v' e1 e2 e3=>?_⟩,fun y c' e=>?_,I.free,I.cD,fun p hp=>?_,tracked ⟨oc,RU,I.cD x c hc⟩ hs,by simpa using I.len⟩ ⟨c,hs,.inr hc⟩
  ·exact (hs.2 b (gY (i_ (dt e) (I.ok.ur x c KY hc)))).trans (I.base.keep b o e n hb hx)
  ·obtain ⟨sl,e1⟩:=I.base.slot b o e n hb hx;exact ⟨sl,(hs.2 b (gY (i_ (dt e) (I.ok.ur x c KY hc)))).trans e1⟩
  ·obtain ⟨o',e1⟩:=I.base.there b o e hx;exact ⟨o',(hs.2 b (gY (i_ (dt e) (I.ok.ur x c KY hc)))).trans e1⟩
  ·by_cases hj:j=i
   ·subst hj;rw [hi] at e1;cases e1;rw [List.getElem?_set_self BA] at e2;cases e2;exact ⟨u,r,.inr ⟨.inl hk,c,hc,jf⟩⟩
   ·rw [List.getElem?_set_ne (aF hj)] at e2;obtain ⟨u',r',q⟩:=hl j y v' e1 e2 e3;refine ⟨u',r',?_⟩;rcases q with q | ⟨k,c',e,z'⟩
    ·exact .inl q
    ·refine .inr ⟨k,c',e,z'.sameBut hs ?_⟩;rintro rfl;exact hj (OK hN e1 (I.ok.inj _ _ _ e hc▸hi))
  ·by_cases Sh:c'=c
   ·subst Sh;exact ⟨_,jf⟩
   ·obtain ⟨w2,z2⟩:=I.cell y c' e;exact ⟨w2,z2.sameBut hs Sh⟩
  ·obtain ⟨e,n,ne,nf,d⟩:=I.pin p hp;refine ⟨(hs.2 p.1 ?_).trans e,n,ne,nf,d⟩;intro q;rw [q,RU] at e;have q':oc=p.2:=eT e;exact d w' (by rw [<-q'];exact Kv)
theorem HH (I:Inv X pins σ H s) (hN:X.N.Nodup) (hi:X.N[i]?=some x) (hx:Loc X.env.scope x) (r:bQ v u)
 (h:∀s',Inv X pins (σ.set i (some v)) H s'->Q () s') (hf:X.fn x=true\/X.env.scope.names.lookup x=some .local:=by first | exact .inl rfl | exact .inr rfl | assumption):wpAny M A (storeName X.env x u) Q E s:=
 Pm I hN hi hx r (fun s' I' _=>h s' I') hf
theorem Inv.qU (I:Inv X pins σ H s) (ho:s'.os=s.os) (u:Un (jW X.stack) ch H H' s.heap s'.heap) (af:eE X.prog X.w H' s'.heap) (hg:AllBare s'.gens)
 (rV:∀b∈ch,(b∈X.ex\/X.bS.heap.objs.size<=b)/\b≠X.env.locals/\(∀x c,X.env.cells.lookup x=some c->c≠b)/\∀p∈X.pn++pins,p.1≠b):Inv X pins σ H' s':=by
 obtain ⟨h',g',d',t',o'⟩:=s';have e:o'=s.os:=ho;subst e;exact I.call (g':=g') (t':=t') (d':=d') u af hg rV
end
noncomputable abbrev XK:=Value->Option Addr->Hp->Prop
noncomputable abbrev St:=List (Option V)
noncomputable abbrev VK:=V->Hp->Prop
noncomputable abbrev TE:=St->Hp->VK->Prop
noncomputable abbrev TT:=St->Hp->(Bool->Hp->Prop)->Prop
noncomputable abbrev TA:=St->Hp->(List V->Hp->Prop)->Prop
structure uv where
 nx:St->Hp->Prop
 rt:VK
 bk:St->Hp->Prop:=fun _ _=>False
 ct:St->Hp->Prop:=fun _ _=>False
noncomputable abbrev TS:=uv->St->Hp->Prop
theorem eQ {α β:Type} {p q r:α->β->Prop} {P:Prop} (h:∃a b,p a b/\q a b/\r a b) (k:∀a b,p a b->q a b->r a b->P):P:=by
 obtain ⟨a,b,x,y,z⟩:=h;exact k a b x y z
theorem SI {α:Type} {p q:α->Prop} {P:Prop} (h:∃a,p a/\q a) (k:∀a,p a->q a->P):P:=by
 obtain ⟨a,x,y⟩:=h;exact k a x y
noncomputable def EP (X:Cx) (pins:List (Addr×Obj)) (σ:St) (Q:VK) (u:Value) (s':Shared):Prop:=∃v H',Inv X pins σ H' s'/\bQ v u/\Q v H'
noncomputable def TP (X:Cx) (pins:List (Addr×Obj)) (σ:St) (Q:Bool->Hp->Prop) (b:Bool) (s':Shared):Prop:=∃H',Inv X pins σ H' s'/\Q b H'
noncomputable def AP (X:Cx) (pins:List (Addr×Obj)) (σ:St) (Q:List V->Hp->Prop) (us:List Value) (s':Shared):Prop:=∃vs H',Inv X pins σ H' s'/\bp vs us/\Q vs H'
noncomputable def SP (X:Cx) (pins:List (Addr×Obj)) (D:uv) (f:Flow) (s':Shared):Prop:=
 match f with
 | .next=>∃aa H',Inv X pins aa H' s'/\D.nx aa H'
 | .brk=>∃aa H',Inv X pins aa H' s'/\D.bk aa H'
 | .cont=>∃aa H',Inv X pins aa H' s'/\D.ct aa H'
 | .ret u=>∃v aa H',Inv X pins aa H' s'/\bQ v u/\D.rt v H'
noncomputable def PE (X:Cx) (e:Expr) (t:TE):Prop:=
 ∀(pins:List (Addr×Obj)) (s:Shared) (σ:St) (H:Hp) (Q:VK),Inv X pins σ H s->t σ H Q->wpAny (model X.prog X.w) X.A (eval e X.env) (EP X pins σ Q) X.xe s
noncomputable def PT (X:Cx) (e:Expr) (t:TT):Prop:=
 ∀(pins:List (Addr×Obj)) (s:Shared) (σ:St) (H:Hp) (Q:Bool->Hp->Prop),Inv X pins σ H s->t σ H Q->wpAny (model X.prog X.w) X.A (isTrue e X.env (eval e X.env)) (TP X pins σ Q) X.xe s
noncomputable def PW (X:Cx) (e:Expr) (t:TT):Prop:=
 ∀(whole:Sem Value) (pins:List (Addr×Obj)) (s:Shared) (σ:St) (H:Hp) (Q:Bool->Hp->Prop),Inv X pins σ H s->t σ H Q->wpAny (model X.prog X.w) X.A (isTrue e X.env whole) (TP X pins σ Q) X.xe s
theorem PW.pt (h:PW X e t):PT X e t:=h _
noncomputable def PA (X:Cx) (es:List Expr) (t:TA):Prop:=
 ∀(pos:Pos) (pins:List (Addr×Obj)) (s:Shared) (σ:St) (H:Hp) (Q:List V->Hp->Prop),Inv X pins σ H s->t σ H Q->wpAny (model X.prog X.w) X.A (spliced (backTo pos (starEach es X.env))) (AP X pins σ Q) X.xe s
noncomputable def PS (X:Cx) (st:Stmt) (t:TS):Prop:=
 ∀(pins:List (Addr×Obj)) (s:Shared) (σ:St) (H:Hp) (D:uv),Inv X pins σ H s->t D σ H->wpAny (model X.prog X.w) X.A (exec st X.env) (SP X pins D) X.xe s
noncomputable def gp (X:Cx) (st:List Stmt) (t:TS):Prop:=
 ∀(pins:List (Addr×Obj)) (s:Shared) (σ:St) (H:Hp) (D:uv),Inv X pins σ H s->t D σ H->wpAny (model X.prog X.w) X.A (execs st X.env) (SP X pins D) X.xe s
theorem av (h:wpAny M A t Q E s) (hQ:∀a s,Q a s->Q' a s):wpAny M A t Q' E s:=wpAny_mono h hQ fun _ _ x=>x
section
variable {X:Cx}
noncomputable def rf (i:Nat):TE:=fun σ H Q=>∃v,σ[i]?=some (some v)/\Q v H
noncomputable def tC (v:V):TE:=fun _ H Q=>Q v H
theorem Tp (hN:X.N[i]?=some x) (hv:F9 X.env.scope x) (hd:(x==("__debug__":Str))=false:=by decide) (oH:(x==("__classdict__":Str))=false:=by decide):PE X (.Name x pos) (rf i):=by
 intro pins s σ H Q I h;obtain ⟨v,e,h⟩:=h;obtain ⟨m,hn,hl⟩:=I.loc;obtain ⟨u,r,l⟩:=hl i x v hN e hv;have fin:EP X pins σ Q u s:=⟨v,H,I,r,h⟩;rcases l with ⟨hk,hm⟩ | ⟨hk,c,hc,nJ⟩
 ·exact wpAny_Name (wpAny_loadName_local I.ok.kind hk hn hm fin) hd
 ·rcases hk with hk | hk
  ·exact wpAny_Name (wpAny_loadName_cell I.ok.kind hk hc nJ fin) hd
  ·exact wpAny_Name (wpAny_loadName_free I.ok.kind hk hc nJ fin oH) hd
theorem aw {i j pos}:PE X (.Constant (.int i) j pos) (tC (.int i)):=fun _ _ _ H _ I h=>wpAny_Constant_int ⟨.int i,H,I.tok _,⟨_,rfl⟩,h⟩
theorem zX {b j pos}:PE X (.Constant (.bool b) j pos) (tC (.bl b)):=fun _ _ _ H _ I h=>Constant_bool ⟨.bl b,H,I,rfl,h⟩
theorem mY {j pos}:PE X (.Constant .none j pos) (tC .aS):=fun _ _ _ H _ I h=>Constant_none ⟨.aS,H,I,rfl,h⟩
theorem eX {x j pos}:PE X (.Constant (.str x) j pos) (tC (.str x)):=fun _ _ _ H _ I h=>Calls.Constant_str ⟨.str x,H,I.tok _,⟨_,rfl⟩,h⟩
noncomputable def Gl (X:Cx) (x:Str):Prop:=X.env.kindOf x=some .globalImplicit
theorem yF (I:Inv X pins σ H s) (hg:Gl X x) (hm:X.mg x=some u) (h:Q u s)
 (hd:(x==("__debug__":Str))=false:=by decide):wpAny (model X.prog X.w) X.A (eval (.Name x pos) X.env) Q E s:=
 Calls.Name_function_global I.ok.kind hg (Calls.loadGlobal_global (by rw [I.ok.glob];exact I.mod.glob.keeps I.bk) hm h) hd
theorem vY (I:Inv X pins σ H s) (hg:Gl X x) (hm:X.mg x=none) (hv:bootBuiltins x=some u) (h:Q u s)
 (hn:x≠"__name__":=by decide) (hd:(x==("__debug__":Str))=false:=by decide):wpAny (model X.prog X.w) X.A (eval (.Name x pos) X.env) Q E s:=by
 obtain ⟨mb,h1,h2⟩:=I.mod.blt;exact Calls.Name_function_global I.ok.kind hg (Calls.loadGlobal_builtin (by rw [I.ok.glob];exact I.mod.glob.keeps I.bk) hm (by rw [I.ok.blt];exact h1.keeps I.bk) ((h2 x hn).trans hv) h) hd
theorem yG (hg:Gl X x) (hm:X.mg x=some u) (r:bQ v u) (hd:(x==("__debug__":Str))=false:=by decide):PE X (.Name x pos) (tC v):=
 fun _ _ _ H _ I h=>yF I hg hm ⟨v,H,I,r,h⟩ hd
variable {a b:Expr} {ta tb:TE} {pos:Pos}
noncomputable def PC (X:Cx) (op:CmpOp) (a b:Expr) (t:TE):Prop:=
 ∀(pins:List (Addr×Obj)) (s:Shared) (σ:St) (H:Hp) (Q:VK),Inv X pins σ H s->t σ H Q->
  wpAny (model X.prog X.w) X.A (eval a X.env) (fun v au=>wpAny (model X.prog X.w) X.A (eval b X.env) (fun u gc=>wpAny (model X.prog X.w) X.A (compareOp op v u) (EP X pins σ Q) X.xe gc) X.xe au) X.xe s
noncomputable def tB (t:TE):TT:=fun σ H Q=>t σ H fun x H1=>∃c,x=.bl c/\Q c H1
theorem vZ (h:PC X op a b t) (h1:behindInMarks op b=false:=by first | exact A' _ (by decide) (by decide) | rfl):PT X (.Compare a [op] [b] pos) (tB t):=by
 intro pins s σ H Q I hw;refine wpAny_isTrue_Compare1 (av (h pins s σ H _ I hw) fun v s1 h1=>av h1 fun u s2 h2=>av h2 fun c s3 zz=>?_) h1;obtain ⟨x,H1,I1,r1,q1⟩:=zz;obtain ⟨d,rfl,q⟩:=q1;cases r1;exact wpAny_truthy_bool ⟨H1,I1,q⟩
theorem Ah (h:PE X e t) (he:∀whole,isTrue e X.env whole=(do let v <-whole;standAt e.pos;holding [v] (truthy v)):=by intro _;rfl):PT X e (tB t):=by
 intro pins s σ H Q I hw;refine isTrue_plain (av (h pins s σ H _ I hw) fun v s1 zz=>?_) (he _);obtain ⟨x,H1,I1,r1,q1⟩:=zz;obtain ⟨d,rfl,q⟩:=q1;cases r1;exact wpAny_truthy_bool ⟨H1,I1,q⟩
variable {tA EB:TT} {rest:List Expr}
noncomputable def YJ (t u:TT):TT:=fun σ H Q=>t σ H fun c H1=>if c=true then u σ H1 Q else Q false H1
noncomputable def ZV (t u:TT):TT:=fun σ H Q=>t σ H fun c H1=>if c=true then Q true H1 else u σ H1 Q
noncomputable def Y_ (t:TT):TT:=fun σ H Q=>t σ H fun c H1=>Q (!c) H1
theorem sQ (ha:PT X a tA):PW X (.BoolOp .And [a] pos) tA:=by
 intro wh pins s σ H Q I h;refine isTrue_and (av (ha pins s σ H Q I h) fun c s1 e=>?_)
 cases c with
 | true=>exact isTrue_and_nil e
 | false=>exact e
theorem yC (ha:PT X a tA):PW X (.BoolOp .Or [a] pos) tA:=by
 intro wh pins s σ H Q I h;refine isTrue_or (av (ha pins s σ H Q I h) fun c s1 e=>?_)
 cases c with
 | false=>exact isTrue_or_nil e
 | true=>exact e
theorem sL (ha:PT X a tA) (hb:PW X (.BoolOp .And (b::rest) pos) EB):PW X (.BoolOp .And (a::b::rest) pos) (YJ tA EB):=by
 intro wh pins s σ H Q I h;refine isTrue_and (av (ha pins s σ H _ I h) fun c s1 zz=>?_);obtain ⟨H1,I1,q1⟩:=zz
 cases c with
 | true=>exact hb wh pins s1 σ H1 Q I1 q1
 | false=>exact ⟨H1,I1,q1⟩
theorem uC (ha:PT X a tA) (hb:PW X (.BoolOp .Or (b::rest) pos) EB):PW X (.BoolOp .Or (a::b::rest) pos) (ZV tA EB):=by
 intro wh pins s σ H Q I h;refine isTrue_or (av (ha pins s σ H _ I h) fun c s1 zz=>?_);obtain ⟨H1,I1,q1⟩:=zz
 cases c with
 | true=>exact ⟨H1,I1,q1⟩
 | false=>exact hb wh pins s1 σ H1 Q I1 q1
theorem yB (ha:PT X a tA):PT X (.UnaryOp .Not a pos) (Y_ tA):=by
 intro pins s σ H Q I h;exact isTrue_not (ha pins s σ H (fun c H1=>Q (!c) H1) I h)
noncomputable def ZC (ta tb:TE):TE:=fun σ H Q=>ta σ H fun x H1=>∃c,x=.bl c/\if c=true then tb σ H1 Q else Q (.bl false) H1
noncomputable def QC (ta tb:TE):TE:=fun σ H Q=>ta σ H fun x H1=>∃c,x=.bl c/\if c=true then Q (.bl true) H1 else tb σ H1 Q
noncomputable def Mj (ta:TE):TE:=fun σ H Q=>ta σ H fun x H1=>∃c,x=.bl c/\Q (.bl (!c)) H1
theorem Af {op} (h:PE X a t):PE X (.BoolOp op [a] pos) t:=fun pins s σ H Q I hw=>BoolOp_one (h pins s σ H Q I hw)
theorem Ae (ha:PE X a ta) (hb:PE X (.BoolOp .And (b::rest) pos) tb):PE X (.BoolOp .And (a::b::rest) pos) (ZC ta tb):=by
 intro pins s σ H Q I h;refine BoolOp_and (av (ha pins s σ H _ I h) fun v s1 zz=>?_);obtain ⟨x,H1,I1,r1,q1⟩:=zz;obtain ⟨c,rfl,q1⟩:=q1;cases r1;refine wpAny_truthy_bool ?_
 cases c with
 | true=>exact hb pins s1 σ H1 Q I1 q1
 | false=>exact ⟨.bl false,H1,I1,rfl,q1⟩
theorem Mn (ha:PE X a ta) (hb:PE X (.BoolOp .Or (b::rest) pos) tb):PE X (.BoolOp .Or (a::b::rest) pos) (QC ta tb):=by
 intro pins s σ H Q I h;refine BoolOp_or (av (ha pins s σ H _ I h) fun v s1 zz=>?_);obtain ⟨x,H1,I1,r1,q1⟩:=zz;obtain ⟨c,rfl,q1⟩:=q1;cases r1;refine wpAny_truthy_bool ?_
 cases c with
 | false=>exact hb pins s1 σ H1 Q I1 q1
 | true=>exact ⟨.bl true,H1,I1,rfl,q1⟩
theorem M4 (ha:PE X a ta):PE X (.UnaryOp .Not a pos) (Mj ta):=by
 intro pins s σ H Q I h;refine UnaryOp_ (av (ha pins s σ H _ I h) fun v s1 zz=>?_);obtain ⟨x,H1,I1,r1,q1⟩:=zz;obtain ⟨c,rfl,q1⟩:=q1;cases r1;exact not_of (wpAny_truthy_bool ⟨.bl (!c),H1,I1,rfl,q1⟩)
noncomputable def ZW (t:TT) (ta tb:TE):TE:=fun σ H Q=>t σ H fun c H1=>if c=true then ta σ H1 Q else tb σ H1 Q
theorem OO (hc:PT X c tA) (ha:PE X a ta) (hb:PE X b tb):PE X (.IfExp c a b pos) (ZW tA ta tb):=by
 intro pins s σ H Q I h;refine wpAny_IfExp (av (hc pins s σ H _ I h) fun d s1 zz=>?_);obtain ⟨H1,I1,q1⟩:=zz
 cases d with
 | true=>exact ha pins s1 σ H1 Q I1 q1
 | false=>exact hb pins s1 σ H1 Q I1 q1
end
noncomputable def ax (K:aA) (H:Hp) (a:Addr) (xs:List V):Prop:=
 Rd H a (.lst xs)\/
  ∃(o:Obj) (its:Array Value) (n:Nat),K.lookup a=some o/\o.cls=.type "list"/\o.dict=none/\o.data=.seq its n/\its.size<=sizeLine/\bp xs its.toList
noncomputable def c_ (K:aA) (H:Hp) (a:Addr) (xs:List V):Prop:=
 Rd H a (.tup xs)\/
  ∃(o:Obj) (its:Array Value) (n:Nat),K.lookup a=some o/\o.cls=.type "tuple"/\o.data=.seq its n/\its.size<=sizeLine/\bp xs its.toList
noncomputable def Ya:Value->Option V
 | .none=>some .aS
 | .bool b=>some (.bl b)
 | .int i _=>some (.int i)
 | .str x _=>some (.str x)
 | .bytes b _=>some (.oN b)
 | .float b _=>some (.xX b)
 | .ref a=>some (.ref a)
 | .type n=>some (.ty n)
 | _=>none
theorem bQ.abs (r:bQ x u):Ya u=some x:=by
 cases x with
 | aS=>cases r;rfl
 | bl _=>cases r;rfl
 | int _=>obtain ⟨t,rfl⟩:=r;rfl
 | str _=>obtain ⟨t,rfl⟩:=r;rfl
 | oN _=>obtain ⟨t,rfl⟩:=r;rfl
 | xX _=>obtain ⟨t,rfl⟩:=r;rfl
 | ref _=>cases r;rfl
 | ty _=>cases r;rfl
theorem bQ.inj (r:bQ x u) (q:bQ y u):x=y:=eT (r.abs.symm.trans q.abs)
theorem bp.inj {xs ys:List V} {us:List Value} (h:bp xs us) (h':bp ys us):xs=ys:=by
 induction h generalizing ys with
 | nil=>cases h';rfl
 | cons r t ih=>
  cases h' with
  | cons r' t'=>rw [r.inj r',ih t']
section
variable {X:Cx} {pins:List (Addr×Obj)} {σ:St} {H:Hp} {s:Shared} {a:Addr} {xs ys:List V}
theorem ax.of {K:aA} (h:H a=some (.lst xs)):ax K H a xs:=.inl (.inl h)
theorem c_.of {K:aA} (h:H a=some (.tup xs)):c_ K H a xs:=.inl (.inl h)
theorem Inv.list (I:Inv X pins σ H s) (h:ax X.K H a xs):∃its:List Value,bp xs its/\PlainL s.heap a its.toArray/\xs.length<=sizeLine:=by
 rcases h with h | ⟨o,its,n,hk,hc,hd,hs,hz,r⟩
 ·obtain ⟨z,its,n,r,e⟩:=h.ok I.af;exact ⟨its,r,⟨_,n,e,rfl,rfl,rfl⟩,z⟩
 ·refine ⟨its.toList,r,⟨o,n,I.gN a o hk,hc,hd,by simpa using hs⟩,?_⟩;have e:=r.length;simp only [qY] at e;lia
theorem Inv.tuple (I:Inv X pins σ H s) (h:c_ X.K H a xs):∃its:List Value,bp xs its/\IsTup s.heap a its.toArray/\xs.length<=sizeLine:=by
 rcases h with h | ⟨o,its,n,hk,hc,hs,hz,r⟩
 ·obtain ⟨z,its,r,p⟩:=h.ok I.af;exact ⟨its,r,p,z⟩
 ·refine ⟨its.toList,r,⟨o,I.gN a o hk,hc,n,by simpa using hs⟩,?_⟩;have e:=r.length;simp only [qY] at e;lia
theorem Inv.qw (I:Inv X pins σ H s) (h:ax X.K H a xs) (h':ax X.K H a ys):xs=ys:=by
 obtain ⟨its,r,⟨o,n,e,_,_,d⟩,_⟩:=I.list h;obtain ⟨its',r',⟨o',n',e',_,_,d'⟩,_⟩:=I.list h';rw [e] at e';cases e';rw [d] at d'
 injection d' with d1 _
 have:its=its':=by simpa using congrArg Array.toList d1
 subst this;exact r.inj r'
theorem Inv.oi (I:Inv X pins σ H s) (h:c_ X.K H a xs) (h':c_ X.K H a ys):xs=ys:=by
 obtain ⟨its,r,⟨o,e,_,n,d⟩,_⟩:=I.tuple h;obtain ⟨its',r',⟨o',e',_,n',d'⟩,_⟩:=I.tuple h';rw [e] at e';cases e';rw [d] at d'
 injection d' with d1 _
 have:its=its':=by simpa using congrArg Array.toList d1
 subst this;exact r.inj r'
end
noncomputable abbrev Cx.iT (X:Cx) (E:Value->Shared->Prop):Cx:={ X with xe:=E }
noncomputable abbrev Cx.zc (X:Cx):Cx:=X.iT fun _ _=>False
theorem Cx.Ok.iT {X:Cx} (ok:X.Ok) (E:Value->Shared->Prop):(X.iT E).Ok:=
 ⟨ok.mod,ok.kind,ok.glob,ok.blt,ok.above,ok.inj,ok.has,ok.ur,ok.hd,ok.frames,ok.uZ,ok.zE,ok.bs,ok.oO,ok.jM,ok.jX,ok.eP,ok.pz⟩
theorem Cx.Ok.dE {X:Cx} {E:Value->Shared->Prop} (ok:(X.iT E).Ok):X.Ok:=
 ⟨ok.mod,ok.kind,ok.glob,ok.blt,ok.above,ok.inj,ok.has,ok.ur,ok.hd,ok.frames,ok.uZ,ok.zE,ok.bs,ok.oO,ok.jM,ok.jX,ok.eP,ok.pz⟩
section
variable {X:Cx} {pins:List (Addr×Obj)} {σ:St} {H:Hp} {s:Shared} {E:Value->Shared->Prop}
theorem Inv.iT (I:Inv X pins σ H s) (E:Value->Shared->Prop):Inv (X.iT E) pins σ H s:=⟨I.ok.iT E,I.os,I.bare,I.base,I.loc,I.cell,I.free,I.cD,I.pin,I.af,I.len⟩
theorem Inv.dE (I:Inv (X.iT E) pins σ H s):Inv X pins σ H s:=⟨I.ok.dE,I.os,I.bare,I.base,I.loc,I.cell,I.free,I.cD,I.pin,I.af,I.len⟩
theorem SP.dE (h:SP (X.iT E) pins D f s'):SP X pins D f s':=by
 cases f with
 | next=>obtain ⟨aa,H',I,q⟩:=h;exact ⟨aa,H',I.dE,q⟩
 | brk=>obtain ⟨aa,H',I,q⟩:=h;exact ⟨aa,H',I.dE,q⟩
 | cont=>obtain ⟨aa,H',I,q⟩:=h;exact ⟨aa,H',I.dE,q⟩
 | ret u=>obtain ⟨v,aa,H',I,r,q⟩:=h;exact ⟨v,aa,H',I.dE,r,q⟩
theorem gp.zc {st:List Stmt} {t:TS} (h:gp X.zc st t):gp X st t:=fun pins s σ H D I hw=>
 wpAny_mono (h pins s σ H D (I.iT _) hw) (fun _ _ q=>q.dE) fun _ _ z=>False.elim z
end
section
variable {X:Cx} {st:Stmt} {rest:List Stmt} {t u:TS} {e:Expr} {te:TE} {pos:Pos}
noncomputable def ZI:TS:=fun D σ H=>D.nx σ H
noncomputable def Zb (t u:TS):TS:=fun D σ H=>t { D with nx:=u D } σ H
theorem dX:gp X [] ZI:=fun _ _ σ H _ I h=>wpAny_execs_nil ⟨σ,H,I,h⟩
theorem aZ (h1:PS X st t) (h2:gp X rest u):gp X (st::rest) (Zb t u):=by
 intro pins s σ H D I h;refine wpAny_execs_cons (av (h1 pins s σ H { D with nx:=u D } I h) fun f s1 q=>?_)
 cases f with
 | next=>
  obtain ⟨aa,H',I',q⟩:=q;exact h2 pins s1 aa H' D I' q
 | ret v=>exact q
 | brk=>exact q
 | cont=>exact q
theorem aE (h1:PS X st t):gp X [st] t:=by
 intro pins s σ H D I h;refine wpAny_execs_cons (av (h1 pins s σ H D I h) fun f s1 q=>?_)
 cases f with
 | next=>exact wpAny_execs_nil q
 | ret v=>exact q
 | brk=>exact q
 | cont=>exact q
theorem Inv.quiet (I:Inv X pins σ H s):interactive X.env=false:=by simp [interactive,I.ok.kind]
noncomputable def ZG (te:TE):TS:=fun D σ H=>te σ H fun _ H1=>D.nx σ H1
theorem gK (he:PE X e te) (hs:swapsWith e none pos.line X.env=pure false:=by rfl):PS X (.Expr e pos) (ZG te):=by
 intro pins s σ H D I h;exact wpAny_Expr_any (av (he pins s σ H _ I h) fun v s1 zz=>L2.eQ zz fun x H1 I1 r1 q1=>⟨σ,H1,I1,q1⟩) I.quiet hs
noncomputable def Za (te:TE):TS:=fun D σ H=>te σ H D.rt
theorem cB (he:PE X e te):PS X (.Return (some e) pos) (Za te):=by
 intro pins s σ H D I h;exact wpAny_Return_some (av (he pins s σ H _ I h) fun v s1 zz=>L2.eQ zz fun x H1 I1 r1 q1=>⟨x,σ,H1,I1,r1,q1⟩)
noncomputable def YZ (c:TT) (t u:TS):TS:=fun D σ H=>c σ H fun b H1=>if b=true then t D σ H1 else u D σ H1
theorem dP (hc:PT X c tc) (ha:gp X a t) (hb:gp X b u):PS X (.If c a b pos) (YZ tc t u):=by
 intro pins s σ H D I h;refine wpAny_If (av (hc pins s σ H _ I h) fun d s1 zz=>?_);obtain ⟨H1,I1,q1⟩:=zz
 cases d with
 | true=>exact ha pins s1 σ H1 D I1 q1
 | false=>exact hb pins s1 σ H1 D I1 q1
noncomputable def T6:TS:=fun _ _ _=>False
theorem wz:gp X sts T6:=fun _ _ _ _ _ _ h=>h.elim
end
noncomputable abbrev TG:=V->St->Hp->(St->Hp->Prop)->Prop
noncomputable abbrev Cj:=List V->St->Hp->(St->Hp->Prop)->Prop
noncomputable def PG (X:Cx) (target:Expr) (t:TG):Prop:=
 ∀(pins:List (Addr×Obj)) (s:Shared) (σ:St) (H:Hp) (v:V) (u:Value) (Q:St->Hp->Prop),Inv X pins σ H s->bQ v u->t v σ H Q->
  wpAny (model X.prog X.w) X.A (assign target X.env u) (fun _ s'=>∃aa H',Inv X pins aa H' s'/\Q aa H') X.xe s
noncomputable def nU (X:Cx) (ts:List Expr) (t:Cj):Prop:=
 ∀(pins:List (Addr×Obj)) (s:Shared) (σ:St) (H:Hp) (vs:List V) (us:List Value) (Q:St->Hp->Prop),Inv X pins σ H s->bp vs us->t vs σ H Q->
  wpAny (model X.prog X.w) X.A (assignInOrder ((assignEach ts X.env).map (·.2)) us) (fun _ s'=>∃aa H',Inv X pins aa H' s'/\Q aa H') X.xe s
noncomputable abbrev Qs:=V->V->V->Hp->(Hp->Prop)->Prop
noncomputable def QF (X:Cx) (t:Qs):Prop:=
 ∀(pins:List (Addr×Obj)) (s:Shared) (σ:St) (H:Hp) (o i v:V) (ov iv u:Value) (Q:Hp->Prop),Inv X pins σ H s->bQ o ov->bQ i iv->bQ v u->t o i v H Q->
  wpAny (model X.prog X.w) X.A (setItem ov iv u) (fun _ s'=>∃H',Inv X pins σ H' s'/\Q H') X.xe s
noncomputable abbrev LS:=V->V->Hp->VK->Prop
noncomputable def Tb (X:Cx) (op:Operator) (t:LS):Prop:=
 ∀(pins:List (Addr×Obj)) (s:Shared) (σ:St) (H:Hp) (x y:V) (v u:Value) (Q:VK),Inv X pins σ H s->bQ x v->bQ y u->t x y H Q->
  wpAny (model X.prog X.w) X.A (inplaceOp op v u) (EP X pins σ Q) X.xe s
section
variable {X:Cx} {pos:Pos}
noncomputable def u7 (i:Nat):TG:=fun v σ H Q=>Q (σ.set i (some v)) H
theorem UP (hN:X.N.Nodup) (hi:X.N[i]?=some x) (hx:Loc X.env.scope x) (hf:X.fn x=true\/X.env.scope.names.lookup x=some .local:=by first | exact .inl rfl | exact .inr rfl | assumption):PG X (.Name x pos) (u7 i):=by
 intro pins s σ H v u Q I r h;exact wpAny_assign_Name (HH I hN hi hx r (fun s' I'=>⟨_,H,I',h⟩) hf)
noncomputable def Yq:Cj:=fun vs σ H Q=>vs=[]/\Q σ H
noncomputable def Ze (t:TG) (u:Cj):Cj:=fun vs σ H Q=>∃v r,vs=v::r/\t v σ H fun aa H'=>u r aa H' Q
theorem rE:nU X [] Yq:=by
 intro pins s σ H vs us Q I r h;obtain ⟨e,h⟩:=h;subst e;cases r;exact assignInOrder_nil ⟨σ,H,I,h⟩
theorem dU (h1:PG X e t) (h2:nU X es u)
 (hs:(assignEach (e::es) X.env).map (·.2)=assign e X.env::(assignEach es X.env).map (·.2):=by rfl):nU X (e::es) (Ze t u):=by
 intro pins s σ H vs us Q I r h;obtain ⟨v,vr,e1,h⟩:=h;subst e1
 cases r with
 | cons r rr=>
  rw [hs];refine assignInOrder_cons (av (h1 pins s σ H _ _ _ I r h) fun _ s1 zz=>?_);obtain ⟨sr,H1,I1,q1⟩:=zz;exact h2 pins s1 sr H1 _ _ Q I1 rr q1
noncomputable def Qt (K:aA) (n:Nat) (t:Cj):TG:=fun v σ H Q=>∃a xs,v=.ref a/\c_ K H a xs/\xs.length=n/\t xs σ H Q
theorem uF (hc:X.calm=true) (h:nU X es t)
 (hn:(assignEach es X.env).length=n:=by rfl) (qE:(assignEach es X.env).findIdx? (·.1)=none:=by rfl):PG X (.Tuple es k pos) (Qt X.K n t):=by
 intro pins s σ H v u Q I r hw;obtain ⟨a,xs,e1,hq,hl,hw⟩:=hw;subst e1;cases r;obtain ⟨its,rv,ht,hz⟩:=I.tuple hq;refine assign_Tuple_tuple (I.ok.hd hc) ht (by simp [hn,<-hl,rv.length]) qE fun h' hx=>?_;have I1:Inv X pins σ H { s with heap:=h' }:=I.kept (t':=s.toks) fun b o e=>hx b o (gY (dt e)) e;exact h pins _ σ H xs _ Q I1 (by simpa using rv) hw
noncomputable def Yr (to ti:TE) (t:Qs):TG:=fun v σ H Q=>to σ H fun o H1=>ti σ H1 fun i H2=>t o i v H2 fun H3=>Q σ H3
theorem y8 (ho:PE X o to) (hi:PE X i ti) (hs:QF X t)
 (ha:∀v,assign (.Subscript o i pos) X.env v=(do
  let ov <-holding [v] (eval o X.env)
  let iv <-holding [v,ov] (eval i X.env)
  standAt pos
  holding [v,ov,iv] (setItem ov iv v)
  release [v,ov,iv] []):=by intro _;rfl):PG X (.Subscript o i pos) (Yr to ti t):=by
 intro pins s σ H v u Q I r h;rw [ha];refine ag (wpAny_holding (av (ho pins s σ H _ I h) fun ov s1 zz=>?_));obtain ⟨x,H1,I1,r1,q1⟩:=zz;refine ag (wpAny_holding (av (hi pins s1 σ H1 _ I1 q1) fun iv s2 zz=>?_));obtain ⟨y,H2,I2,r2,q2⟩:=zz;refine ag (wpAny_standAt (ag (wpAny_holding (av (hs pins s2 σ H2 x y v ov iv u _ I2 r1 r2 r q2) fun _ s3 zz=>?_))));obtain ⟨H3,I3,q3⟩:=zz;exact wpAny_release ⟨σ,H3,I3,q3⟩
noncomputable def zS (te:TE) (g:TG):TS:=fun D σ H=>te σ H fun x H1=>g x σ H1 D.nx
theorem uG (he:PE X e te) (hg:PG X tg g) (hs:swapsWithSole [tg] e pos.line X.env=pure false:=by rfl) (hw:swappedStores [tg] e X.env=pure none:=by rfl)
 (h1:(assignEach [tg] X.env).map (·.2)=[assign tg X.env]:=by rfl):PS X (.Assign [tg] e pos) (zS te g):=by
 intro pins s σ H D I h;refine wpAny_Assign_stores (av (he pins s σ H _ I h) fun v s1 zz=>?_) hs hw;obtain ⟨x,H1,I1,r1,q1⟩:=zz;rw [h1];exact av (hg pins s1 σ H1 x v _ I1 r1 q1) fun _ s2 q=>q
theorem pM (hN:X.N.Nodup) (hi:X.N[i]?=some x) (hx:Loc X.env.scope x) (he:PE X e te) (hs:swapsWith e (some (.Name x pos')) pos.line X.env=pure false:=by rfl) (hf:X.fn x=true\/X.env.scope.names.lookup x=some .local:=by first | exact .inl rfl | exact .inr rfl | assumption):
 PS X (.Assign [.Name x pos'] e pos) (zS te (u7 i)):=by
 intro pins s σ H D I h;refine wpAny_Assign_Name (av (he pins s σ H _ I h) fun v s1 zz=>?_) hs;obtain ⟨y,H1,I1,r1,q1⟩:=zz;exact HH I1 hN hi hx r1 (fun s2 I2=>⟨_,H1,I2,q1⟩) hf
noncomputable def YK (i:Nat) (te:TE) (ti:LS):TS:=fun D σ H=>∃x,σ[i]?=some (some x)/\te σ H fun y H1=>ti x y H1 fun z H2=>D.nx (σ.set i (some z)) H2
theorem Hf (hN:X.N.Nodup) (hi:X.N[i]?=some x) (hx:Loc X.env.scope x) (he:PE X e te) (ho:Tb X op ti) (hf:X.fn x=true\/X.env.scope.names.lookup x=some .local:=by first | exact .inl rfl | exact .inr rfl | assumption):
 PS X (.AugAssign (.Name x pos') op e pos) (YK i te ti):=by
 intro pins s σ H D I h;obtain ⟨v,e1,h⟩:=h;obtain ⟨m,hn,hl⟩:=I.loc;have ZQ:F9 X.env.scope x:=by rcases hx with k | k;exact .inl k;exact .inr (.inl k)
 obtain ⟨u,r,l⟩:=hl i x v hi e1 ZQ;refine wpAny_AugAssign_Name ?_;have go:wpAny (model X.prog X.w) X.A (eval e X.env) (fun w gc=>wpAny (model X.prog X.w) X.A (inplaceOp op u w) (fun r jn=>wpAny (model X.prog X.w) X.A (storeName X.env x r) (fun _=>SP X pins D .next) X.xe jn) X.xe gc) X.xe s:=by
  refine av (he pins s σ H _ I h) fun w s1 zz=>?_;obtain ⟨y,H1,I1,r1,q1⟩:=zz;refine av (ho pins s1 σ H1 v y u w _ I1 r r1 q1) fun z s2 zz=>?_;obtain ⟨zv,H2,I2,r2,q2⟩:=zz;exact HH I2 hN hi hx r2 (fun s3 I3=>⟨_,H2,I3,q2⟩) hf
 rcases l with ⟨hk,hm⟩ | ⟨hk,c,hc,nJ⟩
 ·exact wpAny_loadName_local I.ok.kind hk hn hm go
 ·rcases hk with hk | hk
  ·exact wpAny_loadName_cell I.ok.kind hk hc nJ go
  ·rcases hx with k | k
   ·have:X.env.scope.names.lookup x=some .free:=hk;rw [k] at this;cases this
   ·have:X.env.scope.names.lookup x=some .free:=hk;rw [k] at this;cases this
noncomputable def ipI (f:Int->Int->Int):LS:=fun x y H Q=>∃i j,x=.int i/\y=.int j/\Q (.int (f i j)) H
theorem G_:Tb X .Add (ipI fun i j=>i+j):=by
 intro pins s σ H x y v u Q I r1 r2 h;obtain ⟨i,j,e1,e2,q⟩:=h;subst e1;subst e2;obtain ⟨t,rfl⟩:=r1;obtain ⟨t',rfl⟩:=r2;exact iadd_int ⟨.int _,H,I.tok _,⟨_,rfl⟩,q⟩
end
section
variable {X:Cx} {pos:Pos}
noncomputable def UD (c:TT) (tb:TS):TS:=fun D σ H=>∃W:Nat->St->Hp->Prop,(∃m,W m σ H)/\∀m σ H,W m σ H->
 c σ H fun b H1=>if b=true then ∃N:St->Hp->Prop,(∀aa H',N aa H'->∃m',m'<m/\W m' aa H')/\tb { D with nx:=N,ct:=N,bk:=D.nx } σ H1 else D.nx σ H1
theorem O0 (hp:PassesOwn (model X.prog X.w) X.A X.env X.xe) (hc:PT X c tc) (hb:gp X body tb):PS X (.While c body [] pos) (UD tc tb):=by
 intro pins s σ H D I h;obtain ⟨W,⟨m0,w0⟩,turn⟩:=h;refine wpAny_While (codeAny_whileLoop (fun n s'=>∃aa H',Inv X pins aa H' s'/\W n aa H') ?_ m0 ⟨σ,H,I,w0⟩);rintro n s1 ⟨sr,H1,I1,w1⟩;refine wpAny_passesOwn hp (av (hc pins s1 sr H1 _ I1 (turn n sr H1 w1)) fun b s2 zz=>?_);obtain ⟨H2,I2,q2⟩:=zz
 cases b with
 | true=>
  obtain ⟨N,hN,q2⟩:=q2;rw [if_pos rfl];refine wpAny_passesOwn hp (av (hb pins s2 sr H2 _ I2 q2) fun f s3 q3=>?_)
  cases f with
  | next=>
   obtain ⟨ee,H3,I3,n3⟩:=q3;obtain ⟨m',hm,w3⟩:=hN ee H3 n3;exact ⟨m',hm,ee,H3,I3,w3⟩
  | cont=>
   obtain ⟨ee,H3,I3,n3⟩:=q3;obtain ⟨m',hm,w3⟩:=hN ee H3 n3;exact ⟨m',hm,ee,H3,I3,w3⟩
  | brk=>exact q3
  | ret v=>exact q3
 | false=>
  rw [if_neg fu];exact wpAny_execs_nil ⟨sr,H2,I2,q2⟩
end
structure It where
 go:Nat->Hp->Prop
 wA:Nat->Hp->V->Hp->Prop
 stop:Nat->Hp->Prop
noncomputable def rj (X:Cx) (pins:List (Addr×Obj)) (H:Hp) (b:Addr):Prop:=
 H b=none/\b≠X.env.locals/\b∉X.fs/\(b∈X.ex\/X.bS.heap.objs.size<=b)/\(∀x c,X.env.cells.lookup x=some c->c≠b)/\∀p∈X.pn++pins,p.1≠b
theorem Inv.qP (I:Inv X pins σ H s) (hb:s.heap.objs.size<=b) (hn:H' b=none):rj X pins H' b:=by
 refine ⟨hn,Nat.ne_of_gt (i_ I.lt hb),I.JF hb,.inr (eC I.sz hb),fun x c e z=>?_,fun p hp z=>?_⟩
 ·obtain ⟨v,q⟩:=I.cell x c e;exact absurd (i_ q.lt (by rw [z];exact hb)) (j9 _)
 ·exact absurd (i_ (dt (I.pin p hp).1) (by rw [z];exact hb)) (j9 _)
noncomputable def YX (X:Cx):Prop:=X.A.handled=none\/∃(a C:Addr) (dx:Option Addr) (t tb:Value) (u:HO),X.A.handled=some (.ref a)/\X.gq a=some (.gG (f7 C dx t tb) u)
noncomputable def mP (X:Cx):Prop:=X.calm=true\/YX X
theorem zY (q:mP X) (I:Inv X pins σ H s):Hd X.A s.heap:=by
 rcases q with q | q | ⟨a,C,dx,t,tb,u,q,e⟩
 ·exact .inl (I.ok.hd q)
 ·exact .inl q
 ·exact .inr ⟨a,C,dx,t,tb,q,(I.af a _ (I.base.gj a _ _ e)).1⟩
theorem mP.in_ (q:mP X) (I:Inv X pins σ H s) (h1:Y.calm=X.calm) (h2:Y.A.handled=X.A.handled) (h3:∀a o u,H a=some (.gG o u)->Y.gq a=some (.gG o u)):mP Y:=by
 rcases q with q | q | ⟨a,C,dx,t,tb,u,q,e⟩
 ·exact .inl (h1.trans q)
 ·exact .inr (.inl (h2.trans q))
 ·exact .inr (.inr ⟨a,C,dx,t,tb,u,h2.trans q,h3 _ _ _ (I.base.gj a _ _ e)⟩)
structure vO (P:Program) (w:World) (K:aA) (tg:Expr) (J:It) (fp:List Addr) (it:Addr) (tn:Nat->Heap->Prop):Prop where
 mem:it∈fp
 obj:∀i h,tn i h->∀b∈fp,∃o,h.get? b=some o/\∀v,o.data≠.cell v
 keep:∀i h h',tn i h->(∀b∈fp,∀o,h.get? b=some o->h'.get? b=some o)->tn i h'
 item:∀(X:Cx),X.prog=P->X.w=w->X.K=K->mP X->∀(i:Nat) (pins:List (Addr×Obj)) (s:Shared) (σ:St) (H:Hp) (E:Value->Shared->Prop),Inv X pins σ H s->(∀b∈fp,rj X pins H b)->tn i s.heap->J.go i H->
  wpAny (model P w) X.A (pyNext (.ref it)) (fun r s1=>∃u,r=some u/\
   wpAny (model P w) X.A (letOwnedTupleGo tg (.ref it) u) (fun _ s2=>∃x H',Inv X pins σ H' s2/\bQ x u/\J.wA i H x H'/\tn (i+1) s2.heap/\∀b∈fp,H' b=none) E s1) E s
 done:∀(X:Cx),X.prog=P->X.w=w->X.K=K->mP X->∀(i:Nat) (pins:List (Addr×Obj)) (s:Shared) (σ:St) (H:Hp) (E:Value->Shared->Prop),Inv X pins σ H s->(∀b∈fp,rj X pins H b)->tn i s.heap->J.stop i H->
  wpAny (model P w) X.A (pyNext (.ref it)) (fun r s1=>r=none/\Inv X pins σ H s1) E s
 self:∀(A:Around) (i:Nat) (s:Shared) (Q:Value->Shared->Prop) (E:Value->Shared->Prop),tn i s.heap->Q (.ref it) s->wpAny (model P w) A (pyIter (.ref it)) Q E s
noncomputable abbrev TI:=St->Hp->(It->Hp->Prop)->Prop
noncomputable def Tc (X:Cx) (pins:List (Addr×Obj)) (σ:St) (tg:Expr) (R:It->Hp->Prop) (EO:Value) (s2:Shared):Prop:=
 ∃(it:Addr) (fp:List Addr) (tn:Nat->Heap->Prop) (J:It) (H':Hp),EO=.ref it/\Inv X pins σ H' s2/\vO X.prog X.w X.K tg J fp it tn/\tn 0 s2.heap/\(∀b∈fp,rj X pins H' b)/\R J H'
noncomputable def PI (X:Cx) (tg iter:Expr) (wi:TI):Prop:=
 ∀(pins:List (Addr×Obj)) (s:Shared) (σ:St) (H:Hp) (R:It->Hp->Prop),Inv X pins σ H s->wi σ H R->
  wpAny (model X.prog X.w) X.A (eval iter X.env) (fun v s1=>wpAny (model X.prog X.w) X.A (pyIter v) (Tc X pins σ tg R) X.xe s1) X.xe s
theorem CA (ho:s.heap.get? it=some o) (hc:o.cls=.type n) (hd:o.data=.fields vs)
 (hn:["enumerate","zip","dict_itemiterator","dict_reverseitemiterator","odict_iterator","itertools.zip_longest","itertools.pairwise"].contains n=false) (hQ:Q () s):wpAny M A (letOwnedTupleGo tg (.ref it) u) Q E s:=by
 unfold letOwnedTupleGo;cases tg<;>first
  | exact aU hQ
  | (cases u<;>first
   | exact aU hQ
   | (refine ag (wpAny_load ho ?_)
      rw [hc,hd];show wpAny M A (if (["enumerate","zip","dict_itemiterator","dict_reverseitemiterator","odict_iterator","itertools.zip_longest","itertools.pairwise"].contains n && vs[0]?==some (rawInt _))=true then _ else _) Q E s;rw [if_neg (by intro h;rw [hn,Bool.false_and] at h;cases h)];exact aU hQ))
noncomputable def zL (K:aA) (a:Addr):It:=
 ⟨fun i H=>∃xs x,ax K H a xs/\xs[i]?=some x,fun i H x H'=>H'=H/\∀xs,ax K H a xs->xs[i]?=some x,fun i H=>∃xs,ax K H a xs/\xs.length<=i⟩
noncomputable def zK (K:aA) (a:Addr):It:=
 ⟨fun i H=>∃xs x,c_ K H a xs/\xs[i]?=some x,fun i H x H'=>H'=H/\∀xs,c_ K H a xs->xs[i]?=some x,fun i H=>∃xs,c_ K H a xs/\xs.length<=i⟩
noncomputable def vG (lo:Int) (n:Nat):It:=⟨fun i _=>i<n,fun i H x H'=>H'=H/\x=.int (lo+i),fun i _=>n<=i⟩
theorem Xo {P:Program} {w:World} {K:aA} {tg:Expr} (a it:Addr):vO P w K tg (zL K a) [it] it (fun i h=>h.IsListIter it a i) where
 mem:=by simp
 obj:=fun i h st b hb=>by
  have e:b=it:=by simpa using hb
  subst e;obtain ⟨o,e,c,d⟩:=st;exact ⟨o,e,fun v z=>by rw [d] at z;cases z⟩
 keep:=fun i h h' st k=>st.at fun o e=>k it (by simp) o e
 item:=by
  intro X hP hw hK hc i pins s σ H E I hf st hg;subst hP hw hK;obtain ⟨xs,x,hq,hx⟩:=hg;obtain ⟨its,rv,p,hz⟩:=I.list hq;obtain ⟨u,hu,ru⟩:=rv.get hx;obtain ⟨f0,f1,f2,f3,f4,f5⟩:=hf it (by simp);refine wpAny_pyNext_list_item st p.isList (x:=u) (by simpa using hu) fun h' ae sb=>?_;have I1:Inv X pins σ H { s with heap:=h' }:=I.turned (t':=s.toks) (fun b o hb e=>(sb.2 b hb).trans e) f0 f1 f3 f4 f5;obtain ⟨o,e,c,d⟩:=id ae;exact ⟨u,rfl,CA (s:={ s with heap:=h' }) e c d (by decide) ⟨x,H,I1,ru,⟨rfl,fun ys hy=>by rw [I.qw hy hq];exact hx⟩,ae,fun b hb=>(hf b hb).1⟩⟩
 done:=by
  intro X hP hw hK hc i pins s σ H E I hf st hg;subst hP hw hK;obtain ⟨xs,hq,hx⟩:=hg;obtain ⟨its,rv,p,hz⟩:=I.list hq;obtain ⟨f0,f1,f2,f3,f4,f5⟩:=hf it (by simp);have hl:=rv.length;exact X0 (zY hc I) st p.isList (by simp;lia) fun h' eb=>⟨rfl,I.turned (t':=s.toks) (fun b o hb e=>eb b o hb e) f0 f1 f3 f4 f5⟩
 self:=fun _ _ _ _ _ st h=>wpAny_pyIter_listiter st h
theorem Xz {P:Program} {w:World} {K:aA} {tg:Expr} (a it:Addr):vO P w K tg (zK K a) [it] it (fun i h=>h.IsTupleIter it a i) where
 mem:=by simp
 obj:=fun i h st b hb=>by
  have e:b=it:=by simpa using hb
  subst e;obtain ⟨o,e,c,d⟩:=st;exact ⟨o,e,fun v z=>by rw [d] at z;cases z⟩
 keep:=fun i h h' st k=>st.at fun o e=>k it (by simp) o e
 item:=by
  intro X hP hw hK hc i pins s σ H E I hf st hg;subst hP hw hK;obtain ⟨xs,x,hq,hx⟩:=hg;obtain ⟨its,rv,p,hz⟩:=I.tuple hq;obtain ⟨u,hu,ru⟩:=rv.get hx;obtain ⟨f0,f1,f2,f3,f4,f5⟩:=hf it (by simp);refine wpAny_pyNext_tuple_item st (show s.heap.IsTuple a its.toArray from p) (x:=u) (by simpa using hu) fun h' ae sb=>?_;have I1:Inv X pins σ H { s with heap:=h' }:=I.turned (t':=s.toks) (fun b o hb e=>(sb.2 b hb).trans e) f0 f1 f3 f4 f5;obtain ⟨o,e,c,d⟩:=id ae;exact ⟨u,rfl,CA (s:={ s with heap:=h' }) e c d (by decide) ⟨x,H,I1,ru,⟨rfl,fun ys hy=>by rw [I.oi hy hq];exact hx⟩,ae,fun b hb=>(hf b hb).1⟩⟩
 done:=by
  intro X hP hw hK hc i pins s σ H E I hf st hg;subst hP hw hK;obtain ⟨xs,hq,hx⟩:=hg;obtain ⟨its,rv,p,hz⟩:=I.tuple hq;obtain ⟨f0,f1,f2,f3,f4,f5⟩:=hf it (by simp);have hl:=rv.length;exact Xx (zY hc I) st p (by simp;lia) fun h' eb=>⟨rfl,I.turned (t':=s.toks) (fun b o hb e=>eb b o hb e) f0 f1 f3 f4 f5⟩
 self:=fun _ _ _ _ _ st h=>wpAny_pyIter_tupleiter st h
theorem Xy {P:Program} {w:World} {K:aA} {tg:Expr} (it:Addr) (lo:Int) (n:Nat):vO P w K tg (vG lo n) [it] it (fun i h=>IsRangeIter h it (lo+(i:Nat)*1) ((n:Int)-(i:Nat)) 1) where
 mem:=by simp
 obj:=fun i h st b hb=>by
  have e:b=it:=by simpa using hb
  subst e;exact ⟨_,st,fun v z=>by
   have z':Data.fields _=Data.cell v:=z;cases z'⟩
 keep:=fun i h h' st k=>k it (by simp) _ st
 item:=by
  intro X hP hw hK hc i pins s σ H E I hf st hg;subst hP hw hK;obtain ⟨f0,f1,f2,f3,f4,f5⟩:=hf it (by simp);refine XQ hg st fun t h' tk ae kk=>?_;have I1:Inv X pins σ H { s with heap:=h',toks:=tk }:=I.turned (fun b o hb e=>kk b o (by simpa using hb) e) f0 f1 f3 f4 f5;refine ⟨_,rfl,CA (s:={ s with heap:=h',toks:=tk }) (n:="range_iterator") ae rfl rfl (by decide) ⟨.int (lo+i),H,I1,⟨t,?_⟩,⟨rfl,rfl⟩,ae,fun b hb=>(hf b hb).1⟩⟩;rw [Int.mul_one]
 done:=by
  intro X hP hw hK hc i pins s σ H E I hf st hg;subst hP hw hK;obtain ⟨f0,f1,f2,f3,f4,f5⟩:=hf it (by simp);exact Qo (zY hc I) st (by have:n<=i:=hg;lia) fun h' eb=>⟨rfl,I.turned (t':=s.toks) (fun b o hb e=>eb b o hb e) f0 f1 f3 f4 f5⟩
 self:=fun _ _ _ _ _ st h=>wpAny_pyIter_rangeiter st h
section
variable {X:Cx} {tg:Expr}
noncomputable def Zg (K:aA) (tl:TE):TI:=fun σ H R=>tl σ H fun x H1=>∃a,x=.ref a/\(∃xs,ax K H1 a xs)/\R (zL K a) H1
noncomputable def Ys (K:aA) (tl:TE):TI:=fun σ H R=>tl σ H fun x H1=>∃a,x=.ref a/\(∃xs,c_ K H1 a xs)/\R (zK K a) H1
theorem jm {l:Expr} {tl:TE} (hl:PE X l tl):PI X tg l (Zg X.K tl):=by
 intro pins s σ H R I h;refine av (hl pins s σ H _ I h) fun v s1 zz=>?_;obtain ⟨x,H1,I1,r1,q1⟩:=zz;obtain ⟨a,e,⟨xs,hq⟩,q⟩:=q1;subst e;cases r1;obtain ⟨its,rv,p,hz⟩:=I1.list hq;refine wpAny_pyIter_list p.isList ?_;refine ⟨s1.heap.objs.size,[s1.heap.objs.size],_,_,H1,rfl,I1.kept (t':=s1.toks) fun b o e=>cW _ e,Xo a _,⟨_,jZ _ rfl,rfl,rfl⟩,fun b hb=>?_,q⟩;have e:b=s1.heap.objs.size:=by simpa using hb
 subst e;exact I1.qP (az _) (I1.af.fresh (az _))
theorem GV {l:Expr} {tl:TE} (hl:PE X l tl):PI X tg l (Ys X.K tl):=by
 intro pins s σ H R I h;refine av (hl pins s σ H _ I h) fun v s1 zz=>?_;obtain ⟨x,H1,I1,r1,q1⟩:=zz;obtain ⟨a,e,⟨xs,hq⟩,q⟩:=q1;subst e;cases r1;obtain ⟨its,rv,p,hz⟩:=I1.tuple hq;refine wpAny_pyIter_tuple (show s1.heap.IsTuple a its.toArray from p) ?_;refine ⟨s1.heap.objs.size,[s1.heap.objs.size],_,_,H1,rfl,I1.kept (t':=s1.toks) fun b o e=>cW _ e,Xz a _,⟨_,jZ _ rfl,rfl,rfl⟩,fun b hb=>?_,q⟩;have e:b=s1.heap.objs.size:=by simpa using hb
 subst e;exact I1.qP (az _) (I1.af.fresh (az _))
theorem O3 {lo hi:Int} {tk:Nat} (I:Inv X pins σ H s) (h1: -(2 ^ 62)<=lo) (h2:lo<2 ^ 62) (h3: -(2 ^ 62)<=hi) (h4:hi<2 ^ 62)
 (q:R (vG lo (hi-lo).toNat) H):wpAny (model X.prog X.w) X.A (pyIter (.ref s.heap.objs.size)) (Tc X pins σ tg R) E { s with heap:=s.heap.push { cls:=.type "range",data:=.fields #[.int lo t,.int hi u,.int 1 v] },toks:=tk }:=by
 refine wpAny_pyIter_range (IsRange.new ..) (small_one h1 h2 h3 h4) ?_;have I1:Inv X pins σ H { s with heap:=s.heap.push { cls:=.type "range",data:=.fields #[.int lo t,.int hi u,.int 1 v] },toks:=tk }:=I.kept fun b o e=>cW _ e;refine ⟨(s.heap.push { cls:=.type "range",data:=.fields #[.int lo t,.int hi u,.int 1 v] }).objs.size,[(s.heap.push { cls:=.type "range",data:=.fields #[.int lo t,.int hi u,.int 1 v] }).objs.size],_,_,H,rfl,
  I1.kept (t':=tk) fun b o e=>cW _ e,Xy _ lo (hi-lo).toNat,?_,fun b hb=>?_,q⟩
 ·have e1:lo+((0:Nat):Int)*1=lo:=by simp
  have e2:(((hi-lo).toNat:Nat):Int)-((0:Nat):Int)=Builtin.Range.rangeSize lo hi 1:=by rw [rangeSize_one];split<;>lia
  show IsRangeIter _ _ (lo+((0:Nat):Int)*1) ((((hi-lo).toNat:Nat):Int)-((0:Nat):Int)) 1;rw [e1,e2];exact jZ _ rfl
 ·have e:b=(s.heap.push { cls:=.type "range",data:=.fields #[.int lo t,.int hi u,.int 1 v] }).objs.size:=by simpa using hb
  subst e;exact I1.qP (az _) (I1.af.fresh (az _))
noncomputable def Zh (ta:TA):TI:=fun σ H R=>ta σ H fun vs H1=>∃j:Int,vs=[.int j]/\-(2 ^ 62)<=j/\j<2 ^ 62/\R (vG 0 j.toNat) H1
noncomputable def Zi (ta:TA):TI:=fun σ H R=>ta σ H fun vs H1=>∃i j:Int,vs=[.int i,.int j]/\(-(2 ^ 62)<=i/\i<2 ^ 62/\-(2 ^ 62)<=j/\j<2 ^ 62)/\R (vG i (j-i).toNat) H1
theorem sW (hg:Gl X "range") (hm:X.mg "range"=none) (ha:PA X [a] ta) (hs:starEach [a] X.env=[(false,eval a X.env)]:=by rfl):PI X tg (.Call (.Name "range" p) [a] [] pos) (Zh ta):=by
 intro pins s σ H R I h;refine Call_ (vY I hg hm boot_range (PyProof.Rows.callWith_type1 (av (ha pos pins s σ H _ I h) fun us s1 zz=>?_) hs rfl));obtain ⟨vs,H1,I1,r1,q1⟩:=zz;obtain ⟨j,e,q1,q2,q⟩:=q1;subst e
 cases r1 with
 | cons r rr=>
  cases rr;obtain ⟨t,rfl⟩:=r;exact call_range_1 (O3 I1 (by lia) (by exact Int.NonNeg.mk (2 ^ 62-Nat.succ 0)) q1 q2 (by simpa using q))
theorem WI (hg:Gl X "range") (hm:X.mg "range"=none) (ha:PA X [a,b] ta) (hs:starEach [a,b] X.env=[(false,eval a X.env),(false,eval b X.env)]:=by rfl) (jQ:starEach [b] X.env=[(false,eval b X.env)]:=by rfl):
 PI X tg (.Call (.Name "range" p) [a,b] [] pos) (Zi ta):=by
 intro pins s σ H R I h;refine Call_ (vY I hg hm boot_range (PyProof.Rows.callWith_type1 (av (ha pos pins s σ H _ I h) fun us s1 zz=>?_) (by rw [hs,jQ]) (by rw [jQ];rfl)));obtain ⟨vs,H1,I1,r1,q1⟩:=zz;obtain ⟨i,j,e,⟨q1,q2,q3,q4⟩,q⟩:=q1;subst e
 cases r1 with
 | cons r rr=>
  cases rr with
  | cons r' rr=>
   cases rr;obtain ⟨t,rfl⟩:=r;obtain ⟨t',rfl⟩:=r';exact call_range_2 (O3 I1 q1 q2 q3 q4 q)
noncomputable def QB (wi:TI) (g:TG) (tb:TS):TS:=fun D σ H=>wi σ H fun J H1=>∃W:Nat->Nat->St->Hp->Prop,(∃m,W 0 m σ H1)/\∀i m σ H,W i m σ H->
 (J.stop i H/\D.nx σ H)\/(J.go i H/\∃N:St->Hp->Prop,(∀aa H',N aa H'->∃m',m'<m/\W (i+1) m' aa H')/\∀x H',J.wA i H x H'->g x σ H' fun i9 H2=>tb { D with nx:=N,ct:=N,bk:=D.nx } i9 H2)
noncomputable def Ag (fp:List Addr) (h:Heap):List (Addr×Obj):=fp.filterMap fun b=>(h.get? b).map fun o=>(b,o)
theorem DE (hb:b∈fp) (e:h.get? b=some o):(b,o)∈Ag fp h:=List.mem_filterMap.mpr ⟨b,hb,by rw [e];rfl⟩
theorem WE (hp:p∈Ag fp h):p.1∈fp/\h.get? p.1=some p.2:=by
 obtain ⟨b,hb,e⟩:=List.mem_filterMap.mp hp
 cases q:h.get? b with
 | none=>rw [q] at e;cases e
 | some o=>
  rw [q] at e;have e':(b,o)=p:=eT e;subst e';exact ⟨hb,q⟩
theorem Inv.pinned (I:Inv X pins σ H s) (hf:∀b∈fp,rj X pins H b) (ho:∀b∈fp,∃o,s.heap.get? b=some o/\∀v,o.data≠.cell v):Inv X (pins++Ag fp s.heap) σ H s:=
 I.nk fun p hp=>(i8.mp hp).elim (fun z=>I.pin p (kE _ z)) fun z=>by
  obtain ⟨hb,e⟩:=WE z;obtain ⟨f0,f1,f2,_⟩:=hf p.1 hb;obtain ⟨o,e',d⟩:=ho p.1 hb;rw [e] at e';cases e';exact ⟨e,f0,f1,f2,d⟩
theorem Inv.g9 (I:Inv X (pins++pl) σ H s):Inv X pins σ H s:=I.nk fun p hp=>I.pin p (kE _ (iL _ hp))
theorem UT (hp:PassesOwn (model X.prog X.w) X.A X.env X.xe) (hc:mP X) (hi:PI X tg iter wi) (hg:PG X tg g) (hb:gp X body tb)
 (hs:∀x,foldedSetIterable iter X.env x=pure x:=by intro _;rfl):PS X (.For tg iter body [] pos) (QB wi g tb):=by
 intro pins s σ H D I h;refine wpAny_For (av (hi pins s σ H _ I h) fun v s1 h1=>av h1 fun EO s2 h2=>?_) hs;obtain ⟨it,fp,tn,J,H2,e,I2,T,aT,f2,W,⟨m0,w0⟩,turn⟩:=h2;subst e;have ma:∀{H':Hp},(∀b∈fp,H' b=none)->∀b∈fp,rj X pins H' b:=fun hn b hb=>⟨hn b hb,(f2 b hb).2⟩;refine codeAny_forLoop_any (fun n s'=>∃i aa H',Inv X pins aa H' s'/\tn i s'.heap/\(∀b∈fp,H' b=none)/\W i n aa H') ?_ m0 ⟨0,σ,H2,I2,aT,fun b hb=>(f2 b hb).1,w0⟩;rintro n s3 ⟨i,ee,H3,I3,cb,S8,w3⟩;rcases turn i n ee H3 w3 with ⟨stop,qn⟩ | ⟨go,N,hN,step⟩
 ·refine wpAny_passesOwn hp (av (T.done X rfl rfl rfl hc i pins s3 ee H3 X.xe I3 (ma S8) cb stop) fun r s4 ⟨hr,I4⟩=>?_);subst hr;exact wpAny_execs_nil ⟨ee,H3,I4,qn⟩
 ·refine wpAny_passesOwn hp (av (T.item X rfl rfl rfl hc i pins s3 ee H3 X.xe I3 (ma S8) cb go) fun r s4 zz=>L2.SI zz fun u hr h4=>?_);subst hr;refine wpAny_passesOwn hp (av h4 fun _ s5 zz=>?_);obtain ⟨x,H5,I5,r5,y5,kR,Fx⟩:=zz;have I5':=I5.pinned (ma Fx) (T.obj _ _ kR);refine wpAny_passesOwn hp (av (hg _ s5 ee H5 x u _ I5' r5 (step x H5 y5)) fun _ s6 zz=>?_);obtain ⟨To,H6,I6,q6⟩:=zz;refine wpAny_passesOwn hp (av (hb _ s6 To H6 _ I6 q6) fun f s7 q7=>?_);have again:∀{pF:St} {H7:Hp},Inv X (pins++Ag fp s5.heap) pF H7 s7->N pF H7->∃m,m<n/\∃i aa H',Inv X pins aa H' s7/\tn i s7.heap/\(∀b∈fp,H' b=none)/\W i m aa H':=fun {pF H7} I7 n7=>by
   obtain ⟨m',hm,w7⟩:=hN pF H7 n7;refine ⟨m',hm,i+1,pF,H7,I7.g9,T.keep _ _ _ kR fun b hb o e=>(I7.pin (b,o) (kE _ (kE _ (DE hb e)))).1,fun b hb=>?_,w7⟩;obtain ⟨o,e,d⟩:=T.obj _ _ kR b hb;exact (I7.pin (b,o) (kE _ (kE _ (DE hb e)))).2.1
  cases f with
  | next=>obtain ⟨pF,H7,I7,n7⟩:=q7;exact again I7 n7
  | cont=>obtain ⟨pF,H7,I7,n7⟩:=q7;exact again I7 n7
  | brk=>obtain ⟨pF,H7,I7,q7⟩:=q7;exact ⟨pF,H7,I7.g9,q7⟩
  | ret v=>obtain ⟨x7,pF,H7,I7,r7,q7⟩:=q7;exact ⟨x7,pF,H7,I7.g9,r7,q7⟩
theorem jt (hp:PassesOwn (model X.prog X.w) X.A X.env X.xe) (hc:X.calm=true) (hi:PI X tg iter wi) (hg:PG X tg g) (hb:gp X body tb)
 (hs:∀x,foldedSetIterable iter X.env x=pure x:=by intro _;rfl):PS X (.For tg iter body [] pos) (QB wi g tb):=UT hp (.inl hc) hi hg hb hs
end
theorem og {K:aA} {a:Addr} {xs:List V} {g:TG} {tb:TS} {D:uv} {σ:St} {H:Hp} (Pv:Nat->St->Hp->Prop) (h0:Pv 0 σ H) (hl:∀i σ H,i<=xs.length->Pv i σ H->ax K H a xs)
 (hs:∀i x σ H,xs[i]?=some x->Pv i σ H->g x σ H fun i9 H2=>tb { D with nx:=Pv (i+1),ct:=Pv (i+1),bk:=D.nx } i9 H2) (hd:∀σ H,Pv xs.length σ H->D.nx σ H):
 ∃W:Nat->Nat->St->Hp->Prop,(∃m,W 0 m σ H)/\∀i m σ H,W i m σ H->
  ((zL K a).stop i H/\D.nx σ H)\/((zL K a).go i H/\∃N:St->Hp->Prop,(∀aa H',N aa H'->∃m',m'<m/\W (i+1) m' aa H')/\∀x H',(zL K a).wA i H x H'->g x σ H' fun i9 H2=>tb { D with nx:=N,ct:=N,bk:=D.nx } i9 H2):=by
 refine ⟨fun i m σ H=>m=xs.length-i/\i<=xs.length/\Pv i σ H,⟨xs.length,by simp,d9 _,h0⟩,?_⟩;rintro i m σ H ⟨rfl,hi,p⟩;have q:=hl i σ H hi p
 by_cases bg:i<xs.length
 ·refine .inr ⟨⟨xs,xs[i],q,by simp [bg]⟩,Pv (i+1),fun aa H' p'=>⟨xs.length-(i+1),by omega,rfl,bg,p'⟩,fun x H' y=>?_⟩;obtain ⟨e,y⟩:=y;subst e;exact hs i x σ _ (y xs q) p
 ·have e:i=xs.length:=by lia
  subst e;exact .inl ⟨⟨xs,q,az _⟩,hd σ H p⟩
theorem T_ {K:aA} {a:Addr} {xs:List V} {g:TG} {tb:TS} {D:uv} {σ:St} {H:Hp} (Pv:Nat->St->Hp->Prop) (h0:Pv 0 σ H) (hl:∀i σ H,i<=xs.length->Pv i σ H->c_ K H a xs)
 (hs:∀i x σ H,xs[i]?=some x->Pv i σ H->g x σ H fun i9 H2=>tb { D with nx:=Pv (i+1),ct:=Pv (i+1),bk:=D.nx } i9 H2) (hd:∀σ H,Pv xs.length σ H->D.nx σ H):
 ∃W:Nat->Nat->St->Hp->Prop,(∃m,W 0 m σ H)/\∀i m σ H,W i m σ H->
  ((zK K a).stop i H/\D.nx σ H)\/((zK K a).go i H/\∃N:St->Hp->Prop,(∀aa H',N aa H'->∃m',m'<m/\W (i+1) m' aa H')/\∀x H',(zK K a).wA i H x H'->g x σ H' fun i9 H2=>tb { D with nx:=N,ct:=N,bk:=D.nx } i9 H2):=by
 refine ⟨fun i m σ H=>m=xs.length-i/\i<=xs.length/\Pv i σ H,⟨xs.length,by simp,d9 _,h0⟩,?_⟩;rintro i m σ H ⟨rfl,hi,p⟩;have q:=hl i σ H hi p
 by_cases bg:i<xs.length
 ·refine .inr ⟨⟨xs,xs[i],q,by simp [bg]⟩,Pv (i+1),fun aa H' p'=>⟨xs.length-(i+1),by omega,rfl,bg,p'⟩,fun x H' y=>?_⟩;obtain ⟨e,y⟩:=y;subst e;exact hs i x σ _ (y xs q) p
 ·have e:i=xs.length:=by lia
  subst e;exact .inl ⟨⟨xs,q,az _⟩,hd σ H p⟩
theorem AA {lo:Int} {n:Nat} {g:TG} {tb:TS} {D:uv} {σ:St} {H:Hp} (Pv:Nat->St->Hp->Prop) (h0:Pv 0 σ H)
 (hs:∀i σ H,i<n->Pv i σ H->g (.int (lo+i)) σ H fun i9 H2=>tb { D with nx:=Pv (i+1),ct:=Pv (i+1),bk:=D.nx } i9 H2) (hd:∀σ H,Pv n σ H->D.nx σ H):
 ∃W:Nat->Nat->St->Hp->Prop,(∃m,W 0 m σ H)/\∀i m σ H,W i m σ H->
  ((vG lo n).stop i H/\D.nx σ H)\/((vG lo n).go i H/\∃N:St->Hp->Prop,(∀aa H',N aa H'->∃m',m'<m/\W (i+1) m' aa H')/\∀x H',(vG lo n).wA i H x H'->g x σ H' fun i9 H2=>tb { D with nx:=N,ct:=N,bk:=D.nx } i9 H2):=by
 refine ⟨fun i m σ H=>m=n-i/\i<=n/\Pv i σ H,⟨n,by simp,d9 _,h0⟩,?_⟩;rintro i m σ H ⟨rfl,hi,p⟩
 by_cases bg:i<n
 ·refine .inr ⟨bg,Pv (i+1),fun aa H' p'=>⟨n-(i+1),by omega,rfl,bg,p'⟩,fun x H' y=>?_⟩;obtain ⟨e,y⟩:=y;subst e y;exact hs i σ _ bg p
 ·have e:i=n:=by lia
  subst e;exact .inl ⟨az _,hd σ H p⟩
noncomputable abbrev R2:=V->V->Hp->VK->Prop
noncomputable def eV (X:Cx) (f:Value->Value->Sem Value) (r:R2):Prop:=
 ∀(pins:List (Addr×Obj)) (s:Shared) (σ:St) (H:Hp) (x y:V) (v u:Value) (Q:VK),Inv X pins σ H s->bQ x v->bQ y u->r x y H Q->
  wpAny (model X.prog X.w) X.A (f v u) (EP X pins σ Q) X.xe s
noncomputable def LR (X:Cx) (f:Value->Sem Value) (r:V->Hp->VK->Prop):Prop:=
 ∀(pins:List (Addr×Obj)) (s:Shared) (σ:St) (H:Hp) (x:V) (v:Value) (Q:VK),Inv X pins σ H s->bQ x v->r x H Q->
  wpAny (model X.prog X.w) X.A (f v) (EP X pins σ Q) X.xe s
noncomputable def rn (X:Cx) (f:Value) (r:List V->Hp->VK->Prop):Prop:=
 ∀(pins:List (Addr×Obj)) (s:Shared) (σ:St) (H:Hp) (xs:List V) (us:List Value) (Q:VK),Inv X pins σ H s->bp xs us->r xs H Q->
  wpAny (model X.prog X.w) X.A (call f us) (EP X pins σ Q) X.xe s
noncomputable def pZ (r:R2) (ta tb:TE):TE:=fun σ H Q=>ta σ H fun x H1=>tb σ H1 fun y H2=>r x y H2 Q
noncomputable def ZT (r:V->Hp->VK->Prop) (ta:TE):TE:=fun σ H Q=>ta σ H fun x H1=>r x H1 Q
noncomputable def rI (C:Int->Int->Prop) (g:Int->Int->V):R2:=fun x y H Q=>∃i j,x=.int i/\y=.int j/\C i j/\Q (g i j) H
noncomputable def ve (g:Int->Int->V):R2:=fun x y H Q=>∃i j,x=.int i/\y=.int j/\Q (g i j) H
noncomputable def rU (g:Int->V):V->Hp->VK->Prop:=fun x H Q=>∃i,x=.int i/\Q (g i) H
section
variable {X:Cx} {a b c:Expr} {ta tb tc:TE} {pos:Pos}
theorem Iz (ha:PE X a ta) (hb:PE X b tb) {pins:List (Addr×Obj)} {s:Shared} {σ:St} {H:Hp} {R:V->V->Hp->Prop} (I:Inv X pins σ H s)
 (h:ta σ H fun x H1=>tb σ H1 fun y H2=>R x y H2) {Q:Value->Shared->Prop} {f:Value->Value->Sem Value}
 (hf:∀v u s2 x y H2,Inv X pins σ H2 s2->bQ x v->bQ y u->R x y H2->wpAny (model X.prog X.w) X.A (f v u) Q X.xe s2):
 wpAny (model X.prog X.w) X.A (eval a X.env) (fun v au=>wpAny (model X.prog X.w) X.A (eval b X.env) (fun u gc=>wpAny (model X.prog X.w) X.A (f v u) Q X.xe gc) X.xe au) X.xe s:=by
 refine av (ha pins s σ H _ I h) fun v s1 zz=>?_;obtain ⟨x,H1,I1,r1,q1⟩:=zz;refine av (hb pins s1 σ H1 _ I1 q1) fun u s2 zz=>?_;obtain ⟨y,H2,I2,r2,q2⟩:=zz;exact hf v u s2 x y H2 I2 r1 r2 q2
theorem bM {op:Operator} {r:R2} (ho:eV X (binaryOp op) r) (ha:PE X a ta) (hb:PE X b tb):PE X (.BinOp a op b pos) (pZ r ta tb):=by
 intro pins s σ H Q I h;exact wpAny_BinOp (Iz ha hb I h fun v u s2 x y H2 I2 rx ry q=>ho pins s2 σ H2 x y v u Q I2 rx ry q)
theorem sI (ho:LR X (unaryOp op) r) (ha:PE X a ta):PE X (.UnaryOp op a pos) (ZT r ta):=by
 intro pins s σ H Q I h;exact UnaryOp_ (av (ha pins s σ H _ I h) fun v s1 zz=>L2.eQ zz fun x H1 I1 r1 q1=>ho pins s1 σ H1 x v Q I1 r1 q1)
theorem Rk {f:Value->Value->Sem Value} {C:Int->Int->Prop} {g:Int->Int->Int}
 (rule:∀(i j:Int) (t u:Tok) (s:Shared) (Q:Value->Shared->Prop) (E:Value->Shared->Prop),C i j->Q (.int (g i j) s.toks) { s with toks:=s.toks+1 }->wpAny (model X.prog X.w) X.A (f (.int i t) (.int j u)) Q E s):
 eV X f (rI C fun i j=>.int (g i j)):=by
 intro pins s σ H x y v u Q I rx ry h;obtain ⟨i,j,rfl,rfl,hc,q⟩:=h;obtain ⟨t,rfl⟩:=rx;obtain ⟨t',rfl⟩:=ry;exact rule i j t t' s _ _ hc ⟨.int (g i j),H,I.tok _,⟨_,rfl⟩,q⟩
theorem Qz {f:Value->Value->Sem Value} {g:Int->Int->Int}
 (rule:∀(i j:Int) (t u:Tok) (s:Shared) (Q:Value->Shared->Prop) (E:Value->Shared->Prop),Q (.int (g i j) s.toks) { s with toks:=s.toks+1 }->wpAny (model X.prog X.w) X.A (f (.int i t) (.int j u)) Q E s):
 eV X f (ve fun i j=>.int (g i j)):=by
 intro pins s σ H x y v u Q I rx ry h;obtain ⟨i,j,rfl,rfl,q⟩:=h;obtain ⟨t,rfl⟩:=rx;obtain ⟨t',rfl⟩:=ry;exact rule i j t t' s _ _ ⟨.int (g i j),H,I.tok _,⟨_,rfl⟩,q⟩
theorem DU {f:Value->Value->Sem Value} {g:Int->Int->Bool}
 (rule:∀(i j:Int) (t u:Tok) (s:Shared) (Q:Value->Shared->Prop) (E:Value->Shared->Prop),Q (.bool (g i j)) s->wpAny (model X.prog X.w) X.A (f (.int i t) (.int j u)) Q E s):
 eV X f (ve fun i j=>.bl (g i j)):=by
 intro pins s σ H x y v u Q I rx ry h;obtain ⟨i,j,rfl,rfl,q⟩:=h;obtain ⟨t,rfl⟩:=rx;obtain ⟨t',rfl⟩:=ry;exact rule i j t t' s _ _ ⟨.bl (g i j),H,I,rfl,q⟩
noncomputable def Ih (i j:Int):Prop:=(-(2 ^ 64)<i/\i<2 ^ 64)\/(-(2 ^ 64)<j/\j<2 ^ 64)
theorem Ih.ok (h:Ih i j):IntMulOk i j:=by
 rcases h with ⟨h1,h2⟩ | ⟨h1,h2⟩
 ·exact .of_left (intBits_le_64 h1 h2)
 ·exact .of_right (intBits_le_64 h1 h2)
theorem g8:eV X (binaryOp .Add) (ve fun i j=>.int (i+j)):=Qz fun _ _ _ _ _ _ _ q=>add_int q
theorem iP:eV X (binaryOp .Sub) (ve fun i j=>.int (i-j)):=Qz fun _ _ _ _ _ _ _ q=>sub_int q
theorem TJ:eV X (binaryOp .Mult) (rI Ih fun i j=>.int (i*j)):=Rk fun _ _ _ _ _ _ _ hc q=>mul_int q hc.ok
theorem GQ:eV X (binaryOp .Mod) (rI (fun _ j=>0<j) fun i j=>.int (i % j)):=Rk fun i j _ _ _ _ _ hc q=>by
 have h1:(0:Int)<j:=hc;exact mod_int' (by exact Int.ne_of_gt hc) (by rw [Int.fmod_eq_emod_of_nonneg i (by exact fV hc)];exact q)
theorem ZR {f:Value->Sem Value} {g:Int->Int}
 (rule:∀(i:Int) (t:Tok) (s:Shared) (Q:Value->Shared->Prop) (E:Value->Shared->Prop),Q (.int (g i) s.toks) { s with toks:=s.toks+1 }->wpAny (model X.prog X.w) X.A (f (.int i t)) Q E s):
 LR X f (rU fun i=>.int (g i)):=by
 intro pins s σ H x v Q I rx h;obtain ⟨i,rfl,q⟩:=h;obtain ⟨t,rfl⟩:=rx;exact rule i t s _ _ ⟨.int (g i),H,I.tok _,⟨_,rfl⟩,q⟩
theorem sM:LR X (unaryOp .USub) (rU fun i=>.int (-i)):=ZR fun _ _ _ _ _ q=>neg_int q
end
noncomputable def Q9:V->V->Bool
 | .aS,.aS=>true | .aS,.int _=>true | .int _,.aS=>true | .aS,.bl _=>true | .bl _,.aS=>true | .aS,.str _=>true | .str _,.aS=>true
 | .int _,.int _=>true | .bl _,.bl _=>true | .str _,.str _=>true | .oN _,.oN _=>true
 | .int _,.str _=>true | .str _,.int _=>true | .bl _,.str _=>true | .str _,.bl _=>true
 | _,_=>false
noncomputable def Rc:R2:=fun x y H Q=>Q9 x y=true/\Q (.bl (decide (x=y))) H
noncomputable def rNe:R2:=fun x y H Q=>Q9 x y=true/\Q (.bl (!decide (x=y))) H
theorem Nb:decide (V.int i=V.int j)=(i==j):=by
 rw [Bool.eq_iff_iff];simp
theorem Mt:decide (V.bl i=V.bl j)=(i==j):=by
 rw [Bool.eq_iff_iff];simp
theorem Nc:decide (V.str i=V.str j)=(i==j):=by
 rw [Bool.eq_iff_iff];simp
theorem Na:decide (V.oN i=V.oN j)=(i.toList==j.toList):=by
 rw [Bool.eq_iff_iff];cases i;cases j;simp
section
variable {X:Cx} {a b c:Expr} {ta tb tc:TE} {pos:Pos}
theorem f9 (I:Inv X pins σ H s) (q:Q (.bl k) H) (e:k=k'):EP X pins σ Q (.bool k') s:=by
 subst e;exact ⟨.bl k,H,I,rfl,q⟩
theorem gr:eV X (compareOp .Eq) Rc:=by
 intro pins s σ H x y v u Q I rx ry h;obtain ⟨hs,q⟩:=h
 cases x with
 | aS=>
  cases rx
  cases y with
  | aS=>cases ry;exact PySem.EqNone.eq_none_none (f9 I q (by simp))
  | bl j=>cases ry;exact PySem.EqNone.eq_none_bool (f9 I q (by simp))
  | int j=>obtain ⟨t',rfl⟩:=ry;exact PySem.EqNone.eq_none_int (f9 I q (by simp))
  | str j=>obtain ⟨t',rfl⟩:=ry;exact PySem.EqNone.eq_none_str (f9 I q (by simp))
  | _=>exact absurd (show false=true from hs) fu
 | bl i=>
  cases rx
  cases y with
  | aS=>cases ry;exact PySem.EqNone.eq_bool_none (f9 I q (by simp))
  | bl j=>cases ry;exact eq_bool (f9 I q Mt)
  | str j=>obtain ⟨t',rfl⟩:=ry;exact PySem.EqMixed.eq_bool_str (f9 I q (by simp))
  | _=>exact absurd (show false=true from hs) fu
 | int i=>
  obtain ⟨t,rfl⟩:=rx
  cases y with
  | aS=>cases ry;exact PySem.EqNone.eq_int_none (f9 I q (by simp))
  | int j=>obtain ⟨t',rfl⟩:=ry;exact eq_int (f9 I q Nb)
  | str j=>obtain ⟨t',rfl⟩:=ry;exact PySem.EqMixed.eq_int_str (f9 I q (by simp))
  | _=>exact absurd (show false=true from hs) fu
 | str i=>
  obtain ⟨t,rfl⟩:=rx
  cases y with
  | aS=>cases ry;exact PySem.EqNone.eq_str_none (f9 I q (by simp))
  | bl j=>cases ry;exact PySem.EqMixed.eq_str_bool (f9 I q (by simp))
  | int j=>obtain ⟨t',rfl⟩:=ry;exact PySem.EqMixed.eq_str_int (f9 I q (by simp))
  | str j=>obtain ⟨t',rfl⟩:=ry;exact eq_str (f9 I q Nc)
  | _=>exact absurd (show false=true from hs) fu
 | oN i=>
  obtain ⟨t,rfl⟩:=rx
  cases y with
  | oN j=>obtain ⟨t',rfl⟩:=ry;exact PySem.W.eq_bytes (f9 I q Na)
  | _=>exact absurd (show false=true from hs) fu
 | _=>cases y<;>exact absurd (show false=true from hs) fu
theorem CF:eV X (compareOp .NotEq) rNe:=by
 intro pins s σ H x y v u Q I rx ry h;obtain ⟨hs,q⟩:=h
 cases x with
 | aS=>
  cases rx
  cases y with
  | aS=>cases ry;exact PySem.EqNone.ne_none_none (f9 I q (by simp))
  | bl j=>cases ry;exact PySem.EqNone.ne_none_bool (f9 I q (by simp))
  | int j=>obtain ⟨t',rfl⟩:=ry;exact PySem.EqNone.ne_none_int (f9 I q (by simp))
  | str j=>obtain ⟨t',rfl⟩:=ry;exact PySem.EqNone.ne_none_str (f9 I q (by simp))
  | _=>exact absurd (show false=true from hs) fu
 | bl i=>
  cases rx
  cases y with
  | aS=>cases ry;exact PySem.EqNone.ne_bool_none (f9 I q (by simp))
  | bl j=>cases ry;exact ne_bool (f9 I q (congrArg not Mt))
  | str j=>obtain ⟨t',rfl⟩:=ry;exact PySem.EqMixed.ne_bool_str (f9 I q (by simp))
  | _=>exact absurd (show false=true from hs) fu
 | int i=>
  obtain ⟨t,rfl⟩:=rx
  cases y with
  | aS=>cases ry;exact PySem.EqNone.ne_int_none (f9 I q (by simp))
  | int j=>obtain ⟨t',rfl⟩:=ry;exact ne_int (f9 I q (congrArg not Nb))
  | str j=>obtain ⟨t',rfl⟩:=ry;exact PySem.EqMixed.ne_int_str (f9 I q (by simp))
  | _=>exact absurd (show false=true from hs) fu
 | str i=>
  obtain ⟨t,rfl⟩:=rx
  cases y with
  | aS=>cases ry;exact PySem.EqNone.ne_str_none (f9 I q (by simp))
  | bl j=>cases ry;exact PySem.EqMixed.ne_str_bool (f9 I q (by simp))
  | int j=>obtain ⟨t',rfl⟩:=ry;exact PySem.EqMixed.ne_str_int (f9 I q (by simp))
  | str j=>obtain ⟨t',rfl⟩:=ry;exact ne_str (f9 I q (congrArg not Nc))
  | _=>exact absurd (show false=true from hs) fu
 | oN i=>
  obtain ⟨t,rfl⟩:=rx
  cases y with
  | oN j=>obtain ⟨t',rfl⟩:=ry;exact PySem.W.ne_bytes (f9 I q (congrArg not Na))
  | _=>exact absurd (show false=true from hs) fu
 | _=>cases y<;>exact absurd (show false=true from hs) fu
theorem uB:eV X (compareOp .Lt) (ve fun i j=>.bl (decide (i<j))):=DU fun _ _ _ _ _ _ _ q=>lt_int q
theorem mQ:eV X (compareOp .LtE) (ve fun i j=>.bl (decide (i<=j))):=DU fun _ _ _ _ _ _ _ q=>le_int q
theorem Mm:eV X (compareOp .Gt) (ve fun i j=>.bl (decide (j<i))):=DU fun _ _ _ _ _ _ _ q=>gt_int q
theorem Zm:eV X (compareOp .GtE) (ve fun i j=>.bl (decide (j<=i))):=DU fun _ _ _ _ _ _ _ q=>ge_int q
theorem GJ:eV X (compareOp .Is) (fun x y H Q=>y=.aS/\Q (.bl (decide (x=.aS))) H):=by
 intro pins s σ H x y v u Q I rx ry h;obtain ⟨rfl,q⟩:=h;cases ry;refine is_none_gen (f9 I q ?_);cases x<;>first
  | (cases rx;rfl)
  | (obtain ⟨t,rfl⟩:=rx;rfl)
theorem Ng:eV X (compareOp .IsNot) (fun x y H Q=>y=.aS/\Q (.bl (!decide (x=.aS))) H):=by
 intro pins s σ H x y v u Q I rx ry h;obtain ⟨rfl,q⟩:=h;cases ry;refine isnot_none_gen (f9 I q ?_);cases x<;>first
  | (cases rx;rfl)
  | (obtain ⟨t,rfl⟩:=rx;rfl)
theorem GH (b:Expr) (h:op≠.In:=by decide) (h2:op≠.NotIn:=by decide):behindInMarks op b=false:=by
 have e1:(op==CmpOp.In)=false:=by cases op<;>first | rfl | exact absurd rfl h
 have e2:(op==CmpOp.NotIn)=false:=by cases op<;>first | rfl | exact absurd rfl h2
 cases b<;>simp [behindInMarks,e1,e2]
theorem Ni (ho:eV X (compareOp op) r) (ha:PE X a ta) (hb:PE X b tb) (hm:behindInMarks op b=false):PE X (.Compare a [op] [b] pos) (pZ r ta tb):=by
 intro pins s σ H Q I h;exact wpAny_Compare1 (Iz ha hb I h fun v u s2 x y H2 I2 rx ry q=>ho pins s2 σ H2 x y v u Q I2 rx ry q) hm
noncomputable def CD (t:TE):TT:=fun σ H Q=>t σ H fun x H'=>∃k,x=.bl k/\Q k H'
theorem Ap (ho:eV X (compareOp op) r) (ha:PE X a ta) (hb:PE X b tb) (hm:behindInMarks op b=false):PT X (.Compare a [op] [b] pos) (CD (pZ r ta tb)):=by
 intro pins s σ H Q I h;refine wpAny_isTrue_Compare1 (av (ha pins s σ H _ I h) fun v s1 zz=>L2.eQ zz fun x H1 I1 r1 q1=>av (hb pins s1 σ H1 _ I1 q1) fun u s2 zz=>L2.eQ zz fun y H2 I2 r2 q2=>
  av (ho pins s2 σ H2 x y v u _ I2 r1 r2 q2) fun c s3 zz=>?_) hm
 obtain ⟨z,H3,I3,r3,k,e,q3⟩:=zz;subst e;cases r3;exact wpAny_truthy_bool ⟨H3,I3,q3⟩
theorem vQ {X:Cx} {a b:Expr} {ta tb:TE} {pos:Pos} {op:CmpOp} {r:R2} (ho:eV X (compareOp op) r) (ha:PE X a ta) (hb:PE X b tb) (h:op≠.In:=by decide) (h2:op≠.NotIn:=by decide):PE X (.Compare a [op] [b] pos) (pZ r ta tb):=Ni ho ha hb (GH _ h h2)
theorem dj {X:Cx} {a b:Expr} {ta tb:TE} {pos:Pos} {op:CmpOp} {r:R2} (ho:eV X (compareOp op) r) (ha:PE X a ta) (hb:PE X b tb) (h:op≠.In:=by decide) (h2:op≠.NotIn:=by decide):PT X (.Compare a [op] [b] pos) (CD (pZ r ta tb)):=Ap ho ha hb (GH _ h h2)
noncomputable def MQ (r r':R2) (ta tb tc:TE):TE:=fun σ H Q=>ta σ H fun x H1=>tb σ H1 fun y H2=>r x y H2 fun z H3=>∃k,z=.bl k/\
 (if k=true then tc σ H3 fun w' H4=>r' y w' H4 Q else Q (.bl false) H3)
theorem HA (ho:eV X (compareOp op) r) (lL:eV X (compareOp vg) r') (ha:PE X a ta) (hb:PE X b tb) (hc:PE X c tc)
 (hm:lastMarks [op,vg] [b,c]=false:=by with_unfolding_all rfl):PE X (.Compare a [op,vg] [b,c] pos) (MQ r r' ta tb tc):=by
 intro pins s σ H Q I h;refine Compare_chain (av (ha pins s σ H _ I h) fun v s1 zz=>L2.eQ zz fun x H1 I1 r1 q1=>chain_link (av (hb pins s1 σ H1 _ I1 q1) fun u s2 zz=>L2.eQ zz fun y H2 I2 r2 q2=>
  av (ho pins s2 σ H2 x y v u _ I2 r1 r2 q2) fun d s3 zz=>?_)) hm
 obtain ⟨z,H3,I3,r3,k,e,q3⟩:=zz;subst e;cases r3;refine wpAny_truthy_bool ?_
 cases k with
 | false=>exact ite_ff ⟨.bl false,H3,I3,rfl,q3⟩
 | true=>exact ite_tt (chain_last (av (hc pins s3 σ H3 _ I3 q3) fun w' s4 zz=>L2.eQ zz fun z' H4 I4 r4 q4=>lL pins s4 σ H4 y z' u w' Q I4 r2 r4 q4))
theorem O1 (ho:eV X (compareOp op) r) (lL:eV X (compareOp vg) r') (ha:PE X a ta) (hb:PE X b tb) (hc:PE X c tc)
 (hm:lastMarks [op,vg] [b,c]=false:=by with_unfolding_all rfl):PT X (.Compare a [op,vg] [b,c] pos) (CD (MQ r r' ta tb tc)):=by
 intro pins s σ H Q I h;refine isTrue_chain (av (ha pins s σ H _ I h) fun v s1 zz=>L2.eQ zz fun x H1 I1 r1 q1=>test_link (av (hb pins s1 σ H1 _ I1 q1) fun u s2 zz=>L2.eQ zz fun y H2 I2 r2 q2=>
  av (ho pins s2 σ H2 x y v u _ I2 r1 r2 q2) fun d s3 zz=>?_)) hm
 obtain ⟨z,H3,I3,r3,k,e,q3⟩:=zz;subst e;cases r3;refine wpAny_truthy_bool ?_
 cases k with
 | false=>
  obtain ⟨k',e',q'⟩:=q3;cases e';exact ite_ff ⟨H3,I3,q'⟩
 | true=>
  refine ite_tt (test_last (av (hc pins s3 σ H3 _ I3 q3) fun w' s4 zz=>L2.eQ zz fun z' H4 I4 r4 q4=>av (lL pins s4 σ H4 y z' u w' _ I4 r2 r4 q4) fun d' s5 zz=>?_));obtain ⟨z2,H5,I5,r5,k2,e2,q5⟩:=zz;subst e2;cases r5;exact wpAny_truthy_bool ⟨H5,I5,q5⟩
theorem CP:(sizeLine:Nat)<2 ^ 63:=by rw [sizeLine_eq];decide
theorem yw (r:bp [x] us):∃u,us=[u]/\bQ x u:=by
 cases r with
 | cons r1 r2=>cases r2;exact ⟨_,rfl,r1⟩
theorem Mq (r:bp [x,y] us):∃u w',us=[u,w']/\bQ x u/\bQ y w':=by
 cases r with
 | cons r1 r2=>
  cases r2 with
  | cons r3 r4=>cases r4;exact ⟨_,_,rfl,r1,r3⟩
theorem HW (hc:X.calm=true):rn X (.builtin "max") (fun xs H Q=>∃i j,xs=[.int i,.int j]/\Q (.int (if j>i then j else i)) H):=by
 intro pins s σ H xs us Q I r h;obtain ⟨i,j,rfl,q⟩:=h;obtain ⟨u,w',rfl,⟨t,rfl⟩,⟨t',rfl⟩⟩:=Mq r;refine max_two_ints (I.ok.hd hc) fun h' tk k=>⟨_,H,I.kept k,?_,q⟩
 by_cases hj:j>i
 ·rw [if_pos hj,if_pos hj];exact ⟨_,rfl⟩
 ·rw [if_neg hj,if_neg hj];exact ⟨_,rfl⟩
theorem yP (hc:X.calm=true):rn X (.builtin "min") (fun xs H Q=>∃i j,xs=[.int i,.int j]/\Q (.int (if j<i then j else i)) H):=by
 intro pins s σ H xs us Q I r h;obtain ⟨i,j,rfl,q⟩:=h;obtain ⟨u,w',rfl,⟨t,rfl⟩,⟨t',rfl⟩⟩:=Mq r;refine min_two_ints (I.ok.hd hc) fun h' tk k=>⟨_,H,I.kept k,?_,q⟩
 by_cases hj:j<i
 ·rw [if_pos hj,if_pos hj];exact ⟨_,rfl⟩
 ·rw [if_neg hj,if_neg hj];exact ⟨_,rfl⟩
end
structure vL (h:Heap) (x dx C:Addr) (mA:Str->Option Value):Prop where
 obj:h.get? x=some (PySem.W.instObj C dx)
 ns:h.Ns1 dx mA
 ne:dx≠x
theorem WA {h:Heap} {dx:Addr} {mA:Str->Option Value} (n:h.Ns1 dx mA):∃od,h.get? dx=some od/\∀name,PySem.W.lookIn name od=some (mA name):=by
 obtain ⟨o,es,ep,ho,hd,hk,_,hm⟩:=n;refine ⟨o,ho,fun name=>?_⟩;have e:=hm name;unfold nsFind findBy at e;rw [<-Array.find?_toList] at e;unfold PySem.W.lookIn;rw [hd];dsimp only;split
 ·rename_i y q
  rw [q] at e;exact congrArg some e
 ·rename_i q
  rw [q] at e;have a:es.toList.any (·.refKey)=false:=by
   rw [List.any_eq_false];intro y hy;obtain ⟨z,t,mx⟩:=hk y (Array.mem_toList_iff.mp hy);simp [DictEntry.refKey,mx]
  have a':¬es.toList.any (·.refKey)=true:=by rw [a];exact fu
  rw [if_neg a'];exact congrArg some e
theorem vL.look (I:vL h x dx C mA):∃od,PySem.W.InstAt h x (PySem.W.instObj C dx) C (some od)/\∀name,PySem.W.lookIn name od=some (mA name):=
 let ⟨od,ho,hl⟩:=WA I.ns
 ⟨od,⟨I.obj,rfl,rfl,ho⟩,hl⟩
section
variable {prog:Program} {w:World} {A:Around} {E:Value->Shared->Prop} {s:Shared} {K:aA} {x dx C f:Addr} {mA:Str->Option Value} {name:Str} {v:Value}
theorem UA (X:K.In s.heap) (I:vL s.heap x dx C mA) (hg:PySem.W.plainGet K C name=true) (hh:PySem.W.hasDictIn K C=true)
 (ha:PySem.W.findIn K (.ref C) name=some none) (hv:mA name=some v) (fG:PySem.W.handedIn v=true) (h:Q v { s with toks:=s.toks+1 }):
 wpAny (model prog w) A (getAttr (.ref x) name expr) Q E s:=by
 obtain ⟨od,J,hl⟩:=I.look;exact PySem.W.get_value X J (PySem.W.plainGet_of hg).1 (PySem.W.findObj_own hh ha rfl (by rw [hl,hv])) fG h
theorem V7 (X:K.In s.heap) (I:vL s.heap x dx C mA) (hg:PySem.W.plainGet K C name=true)
 (hf:PySem.W.findIn K (.ref C) name=some (some (.ref f))) (ht:PySem.W.isFn K (.ref f)=true) (hv:mA name=none) (h:Q (.ref f,[.ref x]) s):
 wpAny (model prog w) A (getMethod (.ref x) name pl) Q E s:=by
 obtain ⟨od,J,hl⟩:=I.look;exact PySem.W.method_fn X J (PySem.W.plainGet_of hg).1 (PySem.W.plainGet_of hg).2 hf (beq_iff_eq.mp ht) (by show (PySem.W.lookIn name od).map (·.isSome)=some false;rw [hl,hv];rfl) h
theorem UY (X:K.In s.heap) (I:vL s.heap x dx C mA)
 (hs:PySem.W.findIn K (.ref C) "__setattr__"=some (some (.builtin "object.__setattr__"))) (hp:PySem.W.plainOver K C=true) (ht:PySem.W.takerIn K C name=some none) (hh:PySem.W.hasDictIn K C=true)
 (hw:PySem.Within mA ns) (hsz:ns.length<=sizeLine)
 (h:∀h',vL h' x dx C (fun y=>if y=name then some v else mA y)->Heap.SameBut dx s.heap h'->Q () { s with heap:=h',toks:=s.toks+2 }):
 wpAny (model prog w) A (setAttr (.ref x) name v) Q E s:=by
 obtain ⟨od,J,hl⟩:=I.look;refine PySem.W.set_plain X J hs (PySem.W.osa_open (s:={ s with toks:=s.toks+1 }) (r:=none) X J hp ht fun b=>?_);obtain ⟨cd,hc,z8⟩:=PySem.W.any_some hh;have hx:s.heap.get? x=some ⟨.ref C,some dx,.plain,#[]⟩:=I.obj;refine ag (aU (ag (ag (wpAny_loadPart hx (ag (PySem.W.Looks.here (s:={ s with toks:=s.toks+1 }) (PySem.W.looks_clsIn X hc) ?_))))));rw [z8];refine aU (a:=some dx) (ag (aU (ag ?_)));refine wpAny_nsSet1 (s:={ s with toks:=s.toks+1 }) I.ns fun h' rR jQ=>?_;obtain ⟨oD,esD,epD,Kx,Lb,Lh⟩:=rR.count (PySem.Within.cons name v hw);refine ag (wpAny_lookBehind Kx (by rw [Lb];exact pastItsLine_dict (eC Lh (by rw [kD];lia))) ?_);exact aU (h _ ⟨(jQ.2 _ (aF I.ne)).trans I.obj,rR,I.ne⟩ jQ)
theorem VD (X:K.In s.heap) (hm:PySem.W.makesIn K C=true)
 (hi:PySem.W.findIn K (.ref C) "__init__"=some (some (.ref f))) (hf:PySem.W.typeIn K (.ref f)=some (.type "function"))
 (h:codeAny (model prog w) (A.under (.builtin "type.__call__" ⟨.ref C::vs,kw⟩)) (.call (.ref f) ⟨.ref (s.heap.objs.size+1)::vs,kw⟩) (PySem.W.InitBack (s.heap.objs.size+1) R)
  { s with heap:=(s.heap.push PySem.W.emptyDict).push (PySem.W.instObj C s.heap.objs.size) }):
 codeAny (model prog w) A (.call (.ref C) ⟨vs,kw⟩) R s:=by
 obtain ⟨hh,g,d,t,os⟩:=s;exact PySem.W.make_core (PySem.W.makes_of X hm) (PySem.W.looks_findIn X hi) (fun self=>PySem.W.bind_fn X self hf) (.inl rfl) h
end
noncomputable def aO (f:Str) (v:V):List (Str×V)->List (Str×V)
 | []=>[(f,v)]
 | (g,x)::r=>if g=f then (g,v)::r else (g,x)::aO f v r
theorem lJ (f g:Str) (v:V):∀fs:List (Str×V),(aO f v fs).lookup g=if g=f then some v else fs.lookup g
 | []=>by
  show List.lookup g [(f,v)]=_
  by_cases h:g=f
  ·have hb:(g==f)=true:=beq_iff_eq.mpr h;simp only [List.lookup,hb,if_pos h]
  ·have hb:(g==f)=false:=beq_eq_false_iff_ne.mpr h;simp only [List.lookup,hb,if_neg h]
 | (k,x)::r=>by
  have ih:=lJ f g v r;rw [show aO f v ((k,x)::r)=(if k=f then (k,v)::r else (k,x)::aO f v r) from rfl]
  by_cases hk:k=f
  ·rw [if_pos hk]
   by_cases h:g=k
   ·have hb:(g==k)=true:=beq_iff_eq.mpr h;simp only [List.lookup,hb,if_pos (h.trans hk)]
   ·have hb:(g==k)=false:=beq_eq_false_iff_ne.mpr h;simp only [List.lookup,hb,if_neg (fun e:g=f=>h (e.trans hk.symm))]
  ·rw [if_neg hk]
   by_cases h:g=k
   ·have hb:(g==k)=true:=beq_iff_eq.mpr h;simp only [List.lookup,hb,if_neg (fun e:g=f=>hk (h.symm.trans e))]
   ·have hb:(g==k)=false:=beq_eq_false_iff_ne.mpr h;simp only [List.lookup,hb];exact ih
theorem HZ (f:Str) (v:V):∀fs:List (Str×V),f∈(aO f v fs).map (·.1)/\∀g,g∈fs.map (·.1)->g∈(aO f v fs).map (·.1)
 | []=>⟨by simp [aO],fun g h=>by simp at h⟩
 | (k,x)::r=>by
  obtain ⟨i1,i2⟩:=HZ f v r;rw [show aO f v ((k,x)::r)=(if k=f then (k,v)::r else (k,x)::aO f v r) from rfl]
  by_cases hk:k=f
  ·rw [if_pos hk];subst hk;exact ⟨by simp,fun g h=>by simpa using h⟩
  ·rw [if_neg hk];refine ⟨?_,fun g h=>?_⟩
   ·rw [eR];exact gz _ i1
   ·rw [eR] at h ⊢;rcases eS.mp h with e | e
    ·exact eS.mpr (.inl e)
    ·exact gz _ (i2 g e)
theorem Qg (f:Str) (v:V):∀fs:List (Str×V),(aO f v fs).length<=fs.length+1
 | []=>by simp [aO]
 | (k,x)::r=>by
  have ih:=Qg f v r;rw [show aO f v ((k,x)::r)=(if k=f then (k,v)::r else (k,x)::aO f v r) from rfl]
  by_cases hk:k=f
  ·rw [if_pos hk,kD,kD];exact Nat.le.step Nat.le.refl
  ·rw [if_neg hk,kD,kD];lia
theorem jA.some_of (r:jA (some v) o):∃u,o=some u/\bQ v u:=by
 cases o with
 | none=>exact (show False from r).elim
 | some u=>exact ⟨u,rfl,r⟩
theorem jA.none_of (r:jA none o):o=none:=by
 cases o with
 | none=>rfl
 | some u=>exact (show False from r).elim
theorem WL (r:bQ v u):PySem.W.handedIn u=true:=by
 cases v with
 | aS=>cases (show u=Value.none from r);rfl
 | bl b=>cases (show u=Value.bool b from r);rfl
 | int i=>obtain ⟨t,e⟩:=(show ∃t,u=Value.int i t from r);cases e;rfl
 | str x=>obtain ⟨t,e⟩:=(show ∃t,u=Value.str x t from r);cases e;rfl
 | oN b=>obtain ⟨t,e⟩:=(show ∃t,u=Value.bytes b t from r);cases e;rfl
 | xX b=>obtain ⟨t,e⟩:=(show ∃t,u=Value.float b t from r);cases e;rfl
 | ref a=>cases (show u=Value.ref a from r);rfl
 | ty n=>cases (show u=Value.type n from r);rfl
section
variable {P:Program} {w:World} {H H':Hp} {h h':Heap} {a C dx:Addr} {fs fs':List (Str×V)}
theorem Hi (af:eE P w H h) (e:H a=some (.ins C dx fs)):∃mA,vL h a dx C mA/\(∀f,jA (fs.lookup f) (mA f))/\PySem.Within mA (fs.map (·.1))/\fs.length<=1000/\H dx=some (.own a):=by
 obtain ⟨d,z,ne,ob,mA,n,r,q⟩:=(show ef P w H h a (.ins C dx fs) from af a _ e);exact ⟨mA,⟨ob,n,ne⟩,r,q,z,d⟩
end
structure rd (K:aA) (C:Addr):Prop where
 pg:PySem.W.plainGet K C Str.empty=true
 hd:PySem.W.hasDictIn K C=true
 po:PySem.W.plainOver K C=true
 sa:PySem.W.findIn K (.ref C) "__setattr__"=some (some (.builtin "object.__setattr__"))
theorem rd.get {K:aA} {C:Addr} (c:rd K C) (f:Str):PySem.W.plainGet K C f=true:=c.pg
noncomputable def lX (K:aA) (C:Addr) (f:Str):Prop:=PySem.W.findIn K (.ref C) f=some none
theorem lX.AM {K:aA} {C:Addr} {f:Str} (n:lX K C f):PySem.W.takerIn K C f=some none:=by
 unfold PySem.W.takerIn;rw [show PySem.W.findIn K (.ref C) f=some none from n];rfl
structure jh (K:aA) (C:Addr) (m:Str) (f:Addr):Prop where
 at_:PySem.W.findIn K (.ref C) m=some (some (.ref f))
 fn:PySem.W.isFn K (.ref f)=true
 kp:PySem.W.keepIn K (.ref f)=true
section
variable {X:Cx} {pins:List (Addr×Obj)} {σ:St} {H:Hp} {s:Shared} {a C dx:Addr} {fs:List (Str×V)} {f:Str} {v:V} {A:Around} {E:Value->Shared->Prop}
theorem W_ (I:Inv X pins σ H s) (e:H a=some (.ins C dx fs)) (c:rd X.K C) (n:lX X.K C f) (l:fs.lookup f=some v)
 (h:∀u s',Inv X pins σ H s'->bQ v u->Q u s'):wpAny (model X.prog X.w) A (getAttr (.ref a) f b) Q E s:=by
 obtain ⟨mA,O,r,_,_,_⟩:=Hi I.af e;obtain ⟨u,hu,ru⟩:=jA.some_of (v:=v) (o:=mA f) (by rw [<-l];exact r f);exact UA I.gN O (c.get f) c.hd n hu (WL ru) (h u _ (I.tok _) ru)
theorem Qd (I:Inv X pins σ H s) (e:H a=some (.ins C dx fs)) (c:rd X.K C) (k:jh X.K C m g) (l:fs.lookup m=none)
 (h:Q (.ref g,[.ref a]) s):wpAny (model X.prog X.w) A (getMethod (.ref a) m pl) Q E s:=by
 obtain ⟨mA,O,r,_,_,_⟩:=Hi I.af e;have hn:mA m=none:=jA.none_of (by rw [<-l];exact r m);exact V7 I.gN O (c.get m) k.at_ k.fn hn h
theorem Xv (I:Inv X pins σ H s) (e:H a=some (.ins C dx fs)) (c:rd X.K C) (n:lX X.K C f) (hl:fs.length<1000) (ry:bQ y u)
 (h:∀s',Inv X pins σ (upd H a (.ins C dx (aO f y fs))) s'->Q () s'):wpAny (model X.prog X.w) A (setAttr (.ref a) f u) Q E s:=by
 obtain ⟨mA,O,r,wi,_,ho⟩:=Hi I.af e;have hz:(fs.map (·.1)).length<=sizeLine:=by rw [aD,sizeLine_eq];lia
 refine UY I.gN O c.sa c.po n.AM c.hd wi hz fun h' O' sb=>h _ ?_;have hd:∃o,h'.get? dx=some o:=let ⟨o,_,_,e',_⟩:=O'.ns;⟨o,e'⟩;refine I.write (x:=a) (e:=dx) (by rw [e];exact True.intro) (.inr ho) (fun b q hb z=>(sb.2 b hb).trans z) hd ?_;refine ⟨by rw [ao O.ne];exact ho,?_,O.ne,O'.obj,_,O'.ns,fun g=>?_,fun g hg=>?_⟩
 ·have:=Qg f y fs;lia
 ·show jA ((aO f y fs).lookup g) (if g=f then some u else mA g);rw [lJ]
  by_cases q:g=f
  ·rw [if_pos q,if_pos q];exact ry
  ·rw [if_neg q,if_neg q];exact r g
 ·by_cases q:g=f
  ·rw [q];exact (HZ f y fs).1
  ·refine (HZ f y fs).2 g (wi g fun z=>hg ?_);show (if g=f then some u else mA g)=none;rw [if_neg q];exact z
theorem Inv.made (I:Inv X pins σ H s):Inv X pins σ (upd (upd H s.heap.objs.size (.own (s.heap.objs.size+1))) (s.heap.objs.size+1) (.ins C s.heap.objs.size []))
 { s with heap:=(s.heap.push PySem.W.emptyDict).push (PySem.W.instObj C s.heap.objs.size) }:=by
 have e1:(s.heap.push PySem.W.emptyDict).get? s.heap.objs.size=some PySem.W.emptyDict:=jZ s.heap rfl;have e2:((s.heap.push PySem.W.emptyDict).push (PySem.W.instObj C s.heap.objs.size)).get? (s.heap.objs.size+1)=some (PySem.W.instObj C s.heap.objs.size):=by
  have:=jZ (s.heap.push PySem.W.emptyDict) (o:=PySem.W.instObj C s.heap.objs.size) rfl
  rwa [Heap.size_push] at this
 have e3:(s.heap.push PySem.W.emptyDict).Ns s.heap.objs.size (fun _=>none):=⟨PySem.W.emptyDict,#[],_,e1,rfl,(fun e he=>absurd he (by simp)),fun _=>rfl⟩;have I1:=I.laid (a:=s.heap.objs.size) (o:=.own (s.heap.objs.size+1)) (h':=s.heap.push PySem.W.emptyDict) (t':=s.toks) (fun b u q=>cW _ q) (az _) ⟨_,e1⟩;refine I1.laid (a:=s.heap.objs.size+1) (o:=.ins C s.heap.objs.size []) (t':=s.toks) (fun b u q=>cW _ q) (Nat.le_of_eq (Heap.size_push _ _)) ?_;have ne:s.heap.objs.size≠s.heap.objs.size+1:=gY (Nat.lt_succ_self _);refine ⟨by rw [ao ne,ai],d9 _,ne,e2,fun _=>none,(Heap.Ns1.of_empty e3).at fun o q=>cW _ q,fun _=>True.intro,fun y hy=>absurd rfl hy⟩
theorem TQ {w:World} (hb:attributeBase e f env (eval e env)=eval e env)
 (h:wpAny (model prog w) A (eval e env) (fun o au=>wpAny (model prog w) A (getAttr o f true) Q E au) E s):wpAny (model prog w) A (eval (.Attribute e f pos) env) Q E s:=
 Attribute_any_ h (by rw [arm_eval_Attribute,hb])
end
noncomputable def QA (K:aA) (ta:TE) (f:Str):TE:=fun σ H Q=>ta σ H fun x H1=>∃a C dx fs v,x=.ref a/\H1 a=some (.ins C dx fs)/\rd K C/\lX K C f/\fs.lookup f=some v/\Q v H1
noncomputable def Y4 (K:aA) (ta tv:TE) (f:Str):TS:=fun D σ H=>tv σ H fun y H1=>ta σ H1 fun x H2=>∃a C dx fs,x=.ref a/\H2 a=some (.ins C dx fs)/\rd K C/\lX K C f/\fs.length<1000/\
 D.nx σ (upd H2 a (.ins C dx (aO f y fs)))
section
variable {X:Cx} {o e value:Expr} {f:Str} {pos pos' IG:Pos} {ta tv:TE}
theorem fC (he:PE X e ta) (hb:attributeBase e f X.env (eval e X.env)=eval e X.env):PE X (.Attribute e f pos) (QA X.K ta f):=by
 intro pins s σ H Q I h;refine TQ hb (av (he pins s σ H _ I h) fun u s1 zz=>?_);obtain ⟨x,H1,I1,rx,a,C,dx,fs,v,ex,ea,c,n,l,q⟩:=zz;subst ex;obtain rfl:u=Value.ref a:=rx;exact W_ I1 ea c n l fun u' s2 I2 ru=>⟨v,H1,I2,ru,q⟩
theorem rA (ha:PE X o ta) (hv:PE X value tv) (hs:swapsWith value (some (.Attribute o f pos')) pos.line X.env=pure false):PS X (.Assign [.Attribute o f pos'] value pos) (Y4 X.K ta tv f):=by
 intro pins s σ H D I h;refine plainObj_wpAny_Assign_Attribute (av (hv pins s σ H _ I h) fun u s1 zz=>L2.eQ zz fun y H1 I1 ry q=>av (ha pins s1 σ H1 _ I1 q) fun ov s2 zz=>?_) hs;obtain ⟨x,H2,I2,rx,a,C,dx,fs,ex,ea,c,n,l,q2⟩:=zz;subst ex;obtain rfl:ov=Value.ref a:=rx;exact Xv I2 ea c n l ry fun s3 I3=>⟨σ,_,I3,q2⟩
end
section
variable {X:Cx} {pins:List (Addr×Obj)} {σ:St} {H:Hp} {s:Shared} {A:Around} {E:Value->Shared->Prop} {Q:Value->Shared->Prop} {c:Value} {b:Bool}
end
structure cU (k:Nat) (A:Around):Prop where
 hd:A.handled=none
 dp:A.depth+3*k+5<recursionLimit
 un:A.units+16*k+200<cLine
theorem cU.mono (r:cU k A) (h:j<=k):cU j A:=⟨r.hd,by have:=r.dp;lia,by have:=r.un;lia⟩
theorem cU.deeper (r:cU (k+1) A) (env:Env):cU k (A.deeper env):=
 ⟨r.hd,by have:=r.dp;show A.depth+1+3*k+5<_;lia,by have:=r.un;show A.units+3+16*k+200<_;lia⟩
theorem Xd {A:Around} {C:Addr} {us:List Value} {kw:List (Str×Value)}:(A.under (.builtin "type.__call__" ⟨.ref C::us,kw⟩)).depth=A.depth+1:=by
 first | rfl | simp [Around.under,Code.weight,Code.isCreation,Code.isGuard,Code.isCaller,Code.frames,Code.isFrame,guardIds]
theorem Xe {A:Around} {C:Addr} {us:List Value} {kw:List (Str×Value)}:(A.under (.builtin "type.__call__" ⟨.ref C::us,kw⟩)).units=A.units+1:=by
 first | rfl | simp [Around.under,Code.cUnits,Code.frames,Code.isFrame]
theorem cU.make (r:cU (k+1) A) (C:Addr) (us:List Value) (kw:List (Str×Value)):cU k (A.under (.builtin "type.__call__" ⟨.ref C::us,kw⟩)):=
 ⟨r.hd,by have:=r.dp;rw [Xd];lia,by have:=r.un;rw [Xe];lia⟩
theorem cU.depth (r:cU k A):A.depth<recursionLimit:=by have:=r.dp;lia
theorem cU.units (r:cU k A):A.units+64<cLine:=by have:=r.un;lia
noncomputable def pG:TA:=fun _ H Q=>Q [] H
noncomputable def j_ (ta:TE) (tr:TA):TA:=fun σ H Q=>ta σ H fun x H1=>tr σ H1 fun xs H2=>Q (x::xs) H2
section
variable {X:Cx} {e:Expr} {es:List Expr} {te:TE} {t:TA} {pos:Pos}
theorem n_:PA X [] pG:=fun _ _ _ _ H Q I h=>Calls.spliced_nil ⟨[],H,I,.nil,h⟩
theorem uK (ha:PE X e te) (hr:PA X es t) (hs:starEach (e::es) X.env=(false,eval e X.env)::starEach es X.env:=by rfl):PA X (e::es) (j_ te t):=by
 intro pos pins s σ H Q I h;rw [hs];show wpAny _ _ (spliced ((false,eval e X.env)::backTo pos (starEach es X.env))) _ _ s;refine Calls.spliced_cons (av (ha pins s σ H _ I h) fun u s1 zz=>?_);obtain ⟨x,H1,I1,r1,q1⟩:=zz;exact av (hr pos pins s1 σ H1 _ I1 q1) fun us s2 zz=>L2.eQ zz fun xs H2 I2 r2 q2=>⟨x::xs,H2,I2,.cons r1 r2,q2⟩
theorem dc {n:Nat} (h:Nat.ble n sizeLine=true):n<=sizeLine:=Nat.le_of_ble_eq_true h
theorem cA {X:Cx} {x:Str} {e:Expr} {te:TE} {pos pos':Pos} (i:Nat) (hN:X.N.Nodup) (he:PE X e te) (hi:X.N[i]?=some x:=by rfl) (hx:Loc X.env.scope x:=by exact Or.inl rfl) (hs:swapsWith e (some (.Name x pos')) pos.line X.env=pure false:=by rfl) (hf:X.fn x=true\/X.env.scope.names.lookup x=some .local:=by first | exact .inl rfl | exact .inr rfl | assumption):PS X (.Assign [.Name x pos'] e pos) (zS te (u7 i)):=pM (i:=i) hN hi hx he hs hf
theorem bR {X:Cx} {x:Str} {pos:Pos} (i:Nat) (hN:X.N.Nodup) (hi:X.N[i]?=some x:=by rfl) (hx:Loc X.env.scope x:=by exact Or.inl rfl) (hf:X.fn x=true\/X.env.scope.names.lookup x=some .local:=by first | exact .inl rfl | exact .inr rfl | assumption):PG X (.Name x pos) (u7 i):=UP (i:=i) hN hi hx hf
theorem bL {X:Cx} {a:Expr} {ta:TE} (ha:PE X a ta) (hs:starEach [a] X.env=(false,eval a X.env)::starEach [] X.env:=by rfl):PA X [a] (j_ ta pG):=uK ha n_ hs
theorem bu {X:Cx} {a b:Expr} {ta tb:TE} (ha:PE X a ta) (hb:PE X b tb) (hs:starEach [a,b] X.env=(false,eval a X.env)::starEach [b] X.env:=by rfl) (jQ:starEach [b] X.env=(false,eval b X.env)::starEach [] X.env:=by rfl):PA X [a,b] (j_ ta (j_ tb pG)):=uK ha (bL hb jQ) hs
theorem iw {X:Cx} {a b c:Expr} {ta tb tc:TE} (ha:PE X a ta) (hb:PE X b tb) (hc:PE X c tc) (hs:starEach [a,b,c] X.env=(false,eval a X.env)::starEach [b,c] X.env:=by rfl) (jQ:starEach [b,c] X.env=(false,eval b X.env)::starEach [c] X.env:=by rfl) (k_:starEach [c] X.env=(false,eval c X.env)::starEach [] X.env:=by rfl):PA X [a,b,c] (j_ ta (j_ tb (j_ tc pG))):=uK ha (bu hb hc jQ k_) hs
theorem jw {X:Cx} {a b c d:Expr} {ta tb tc td:TE} (ha:PE X a ta) (hb:PE X b tb) (hc:PE X c tc) (hd:PE X d td) (hs:starEach [a,b,c,d] X.env=(false,eval a X.env)::starEach [b,c,d] X.env:=by rfl) (jQ:starEach [b,c,d] X.env=(false,eval b X.env)::starEach [c,d] X.env:=by rfl) (k_:starEach [c,d] X.env=(false,eval c X.env)::starEach [d] X.env:=by rfl) (rQ:starEach [d] X.env=(false,eval d X.env)::starEach [] X.env:=by rfl):PA X [a,b,c,d] (j_ ta (j_ tb (j_ tc (j_ td pG)))):=uK ha (iw hb hc hd jQ k_ rQ) hs
noncomputable def IB (t:TA):TE:=fun σ H Q=>t σ H fun xs H1=>xs.length<=sizeLine/\∀p,H1 p=none->Q (.ref p) (upd H1 p (.tup xs))
noncomputable def Y' (t:TA):TE:=fun σ H Q=>t σ H fun xs H1=>xs.length<=sizeLine/\∀p,H1 p=none->Q (.ref p) (upd H1 p (.lst xs))
theorem dA {x1} (h:PA X es t):PE X (.Tuple es x1 pos) (IB t):=by
 intro pins s σ H Q I hq;refine wpAny_Tuple_spliced (av (h pos pins s σ H _ I hq) fun us s1 zz=>?_);obtain ⟨xs,H1,I1,r,z,q⟩:=zz;refine ⟨by rw [<-r.length];exact z,?_⟩;have hf:H1 s1.heap.objs.size=none:=I1.af.fresh (az _);refine ⟨.ref s1.heap.objs.size,upd H1 s1.heap.objs.size (.tup xs),I1.laid (t':=s1.toks) (fun b u e=>cW _ e) (az _) ?_,rfl,q _ hf⟩;exact ⟨z,us,r,⟨_,jZ _ rfl,rfl,_,rfl⟩⟩
theorem jl (h:PA X es t):PE X (.List es pos) (Y' t):=by
 intro pins s σ H Q I hq;refine wpAny_List_spliced (av (h pos pins s σ H _ I hq) fun us s1 zz=>?_);obtain ⟨xs,H1,I1,r,z,q⟩:=zz;refine ⟨by rw [<-r.length];exact z,?_⟩;have hf:H1 s1.heap.objs.size=none:=I1.af.fresh (az _);refine ⟨.ref s1.heap.objs.size,upd H1 s1.heap.objs.size (.lst xs),I1.laid (t':=s1.toks) (fun b u e=>cW _ e) (az _) ?_,rfl,q _ hf⟩;exact ⟨z,us,0,r,jZ _ rfl⟩
end
noncomputable abbrev Sp:=List V->Hp->VK->XK->Prop
noncomputable abbrev mG:=List Env->Hp->Shared->XK->Value->Shared->Prop
structure vI (P:Program) (w:World) (K:aA) (mg:Str->Option Value) (base:Heap) (A:Around) (outer:List Env) (s:Shared) (H:Hp):Prop where
 frames:A.frames=some outer
 mod:Mod K mg base
 bs:∀b o,base.get? b=some o->s.heap.get? b=some o/\H b=none
 oO:base.objs.size<=s.heap.objs.size
 eP:s.heap.FunFrames base outer
 pz:∀b∈jW outer,H b=none
 af:eE P w H s.heap
 bare:AllBare s.gens
noncomputable def CE (outer:List Env) (P:Program) (w:World) (H:Hp) (s:Shared) (Q:VK) (u:Value) (s':Shared):Prop:=
 ∃v H',s'.os=s.os/\AllBare s'.gens/\Un (jW outer) [] H H' s.heap s'.heap/\eE P w H' s'.heap/\bQ v u/\Q v H'
noncomputable def CR (CX:mG) (outer:List Env) (P:Program) (w:World) (H:Hp) (s:Shared) (Q:VK) (E:XK) (r:Result) (s':Shared):Prop:=
 match r with
 | .ok (.ret u)=>CE outer P w H s Q u s'
 | .ok _=>False
 | .error e=>CX outer H s E e s'
structure aq (P:Program) (w:World) (K:aA) (mg:Str->Option Value) (base:Heap) (CX:mG) (k:Nat) (f:Addr) (fd:FuncData) (ps:List Str) (sp:Sp):Prop where
 len:∀vs H Q E,sp vs H Q E->vs.length=ps.length
 run:∀(A:Around) (outer:List Env) (s:Shared) (H:Hp) (args:Args) (us:List Value) (vs:List V) (Q:VK) (E:XK),cU k A->vI P w K mg base A outer s H->BindsTo s fd args (ps.zip us)->bp vs us->sp vs H Q E->
  codeAny (model P w) A (.call (.ref f) args) (CR CX outer P w H s Q E) s
theorem vI.make {P:Program} {w:World} {K:aA} {mg:Str->Option Value} {base:Heap} {A:Around} {outer:List Env} {s:Shared} {H:Hp} (e:vI P w K mg base A outer s H) (C:Addr) (us:List Value) (kw:List (Str×Value)):
 vI P w K mg base (A.under (.builtin "type.__call__" ⟨.ref C::us,kw⟩)) outer s H:=⟨by first | exact e.frames | (simpa [Around.under,Code.envs,Code.isFrame,pushEnvs] using e.frames),e.mod,e.bs,e.oO,e.eP,e.pz,e.af,e.bare⟩
section
variable {X:Cx} {pins:List (Addr×Obj)} {σ:St} {H:Hp} {s s':Shared}
theorem Inv.x_ (I:Inv X pins σ H s):vI X.prog X.w X.K X.mg X.base X.A X.stack s H:=
 ⟨I.ok.frames,I.ok.mod,I.bs,eC I.ok.oO I.sz,I.stack,I.jH,I.af,I.bare⟩
theorem Inv.after (I:Inv X pins σ H s) (h:CE X.stack X.prog X.w H s Q u s'):EP X pins σ Q u s':=by
 obtain ⟨v,H',os,bare,un,af,r,q⟩:=h;obtain ⟨hh,g,d,t,os'⟩:=s';obtain rfl:os'=s.os:=os;exact ⟨v,H',I.call (h':=hh) (g':=g) (d':=d) (t':=t) (ch:=[]) un af bare (fun b z=>absurd z (by simp)),r,q⟩
end
noncomputable def FU (sp:Sp) (iY:List V) (E:XK) (t:TA):TE:=fun σ H Q=>t σ H fun vs H1=>sp (vs++iY) H1 Q E
noncomputable def FV (C:Addr) (m:Str) (sp:Sp) (iY:List V) (E:XK) (ta:TE) (t:TA):TE:=fun σ H Q=>ta σ H fun x H1=>∃a dx fs,x=.ref a/\H1 a=some (.ins C dx fs)/\fs.lookup m=none/\
 t σ H1 fun vs H2=>sp (x::(vs++iY)) H2 Q E
noncomputable def ZH (C:Addr) (sp:Sp) (iY:List V) (E:XK) (t:TA):TE:=fun σ H Q=>t σ H fun vs H1=>∀x dx,H1 x=none->H1 dx=none->dx≠x->
 sp (.ref x::(vs++iY)) (upd (upd H1 dx (.own x)) x (.ins C dx [])) (fun v H2=>v=.aS/\Q (.ref x) H2) E
noncomputable def eW (K:aA) (fd:FuncData) (ps:List Str) (ds:List Value):Prop:=
 ∀(s:Shared) (us:List Value),K.In s.heap->(us++ds).length=ps.length->BindsTo s fd ⟨us,[]⟩ (ps.zip (us++ds))
theorem eW.all {K:aA} {fd:FuncData} {ps:List Str} (h:∀us:List Value,us.length=ps.length->bindArgs fd ⟨us,[]⟩=pure (ps.zip us)):eW K fd ps []:=fun s us _ hl=>by
 rw [List.append_nil] at hl ⊢;exact .of_eq (h us hl)
noncomputable def pK (CX:mG) (X:Cx) (E:XK):Prop:=∀(pins:List (Addr×Obj)) (σ:St) (H:Hp) (s:Shared) (e:Value) (s':Shared),Inv X pins σ H s->CX X.stack H s E e s'->X.xe e s'
section
variable {X:Cx} {CX:mG} {k:Nat} {f C:Addr} {fd:FuncData} {ps:List Str} {sp:Sp} {iY:List V} {ds:List Value} {E:XK} {x m:Str} {p pos apos:Pos} {e o:Expr} {es:List Expr} {ta:TE} {t:TA}
theorem Hg (F:aq X.prog X.w X.K X.mg X.base CX k f fd ps sp) (hr:cU k X.A) (hb:eW X.K fd ps ds) (hd:bp iY ds) (hx:pK CX X E)
 (I:Inv X pins σ H s) (r:bp vs us) (h:sp (vs++iY) H Q E):wpAny (model X.prog X.w) X.A (call (.ref f) us) (EP X pins σ Q) X.xe s:=by
 have r2:bp (vs++iY) (us++ds):=r.append hd;have hl:(us++ds).length=ps.length:=by rw [<-r2.length];exact F.len _ _ _ _ h
 refine wpAny_call (codeAny_mono (F.run X.A X.stack s H ⟨us,[]⟩ (us++ds) (vs++iY) Q E hr I.x_ (hb s us I.gN hl) r2 h) fun r s' hq=>?_)
 cases r with
 | error e=>exact hx pins σ H s e s' I hq
 | ok fl=>
  cases fl with
  | ret u=>exact I.after hq
  | next=>exact False.elim hq
  | brk=>exact False.elim hq
  | cont=>exact False.elim hq
theorem Hn (F:aq X.prog X.w X.K X.mg X.base CX k f fd ps sp) (hr:cU k X.A) (hg:Gl X x) (hm:X.mg x=some (.ref f)) (hk:PySem.W.keepIn X.K (.ref f)=true) (hb:eW X.K fd ps ds) (hd:bp iY ds) (hx:pK CX X E)
 (ha:PA X (e::es) t) (my:(x==("__debug__":Str))=false:=by decide) (he:starEach (e::es) X.env=(false,eval e X.env)::starEach es X.env:=by rfl) (fe:(backTo pos (starEach es X.env)).any (·.1)=false:=by rfl):
 PE X (.Call (.Name x p) (e::es) [] pos) (FU sp iY E t):=by
 intro pins s σ H Q I h;refine wpAny_Call_Name_kw (yF I hg hm ?_ my);refine PySem.W.callWith_K (h₀:=X.base) I.ok.mod.zd hk (av (ha pos pins s σ H _ I h) fun us s1 zz=>L2.eQ zz fun vs H1 I1 r q=>⟨I1.gN,?_⟩) he fe;exact Hg F hr hb hd hx I1 r q
theorem jF (he:PE X o ta) (c:rd X.K C) (hm:jh X.K C m f) (F:aq X.prog X.w X.K X.mg X.base CX k f fd ps sp) (hr:cU k X.A) (hb:eW X.K fd ps ds) (hd:bp iY ds) (hx:pK CX X E) (ha:PA X (e::es) t)
 (qE:starEach (e::es) X.env=(false,eval e X.env)::starEach es X.env:=by rfl) (fe:(backTo pos (starEach es X.env)).any (·.1)=false:=by rfl)
 (ht:eval (.Call (.Attribute o m apos) (e::es) [] pos) X.env=(do
  let ov <-eval o X.env
  standAt apos.atName
  let (f,first) <-holding [ov] (getMethod ov m pl)
  callWith pos f first (backTo pos (starEach (e::es) X.env)) (backToKw pos (keywordEach [] X.env))):=by rfl):
 PE X (.Call (.Attribute o m apos) (e::es) [] pos) (FV C m sp iY E ta t):=by
 intro pins s σ H Q I h;refine PySem.W.methodCall_KW (pl:=pl) (av (he pins s σ H _ I h) fun u s1 zz=>?_) ht;obtain ⟨x,H1,I1,rx,a,dx,fs,ex,ea,l,q⟩:=zz;subst ex;obtain rfl:u=Value.ref a:=rx;refine Qd I1 ea c hm l ?_;refine PySem.W.callWith_K (first:=[.ref a]) (h₀:=X.base) I.ok.mod.zd hm.kp (av (ha pos pins s1 σ H1 _ I1 q) fun us s2 zz=>L2.eQ zz fun vs H2 I2 r q2=>⟨I2.gN,?_⟩) qE fe;exact Hg (us:=.ref a::us) (vs:=.ref a::vs) F hr hb hd hx I2 (.cons rfl r) q2
theorem yK (he:PE X o ta) (c:rd X.K C) (hm:jh X.K C m f) (F:aq X.prog X.w X.K X.mg X.base CX k f fd ps sp) (hr:cU k X.A) (hb:eW X.K fd ps ds) (hd:bp iY ds) (hx:pK CX X E)
 (ht:eval (.Call (.Attribute o m apos) [] [] pos) X.env=(do
  let ov <-eval o X.env
  standAt apos.atName
  let (f,first) <-holding [ov] (getMethod ov m pl)
  callWith pos f first (backTo pos (starEach [] X.env)) (backToKw pos (keywordEach [] X.env))):=by rfl):
 PE X (.Call (.Attribute o m apos) [] [] pos) (FV C m sp iY E ta pG):=by
 intro pins s σ H Q I h;refine PySem.W.methodCall_KW (pl:=pl) (av (he pins s σ H _ I h) fun u s1 zz=>?_) ht;obtain ⟨x,H1,I1,rx,a,dx,fs,ex,ea,l,q⟩:=zz;subst ex;obtain rfl:u=Value.ref a:=rx;refine Qd I1 ea c hm l ?_;exact PySem.W.callWith_K0 (first:=[.ref a]) I1.gN hm.kp (Hg (us:=[.ref a]) (vs:=[.ref a]) F hr hb hd hx I1 (.cons rfl .nil) q)
structure Mk (K:aA) (C f:Addr):Prop where
 makes:PySem.W.makesIn K C=true
 init:PySem.W.findIn K (.ref C) "__init__"=some (some (.ref f))
 fn:PySem.W.isFn K (.ref f)=true
 kp:PySem.W.keepIn K (.ref C)=true
theorem VU (M:Mk X.K C f) (F:aq X.prog X.w X.K X.mg X.base CX k f fd ps sp) (hr:cU (k+1) X.A) (hb:eW X.K fd ps ds) (hd:bp iY ds)
 (hx:pK CX X E) (I:Inv X pins σ H s) (r:bp vs us)
 (h:∀x dx,H x=none->H dx=none->dx≠x->sp (.ref x::(vs++iY)) (upd (upd H dx (.own x)) x (.ins C dx [])) (fun v H2=>v=.aS/\Q (.ref x) H2) E):
 wpAny (model X.prog X.w) X.A (call (.ref C) us) (EP X pins σ Q) X.xe s:=by
 have hq:=h (s.heap.objs.size+1) s.heap.objs.size (I.af.fresh (nS _)) (I.af.fresh (az _)) (gY (Nat.lt_succ_self _));have I2:=Inv.made (C:=C) I;have r2:bp (V.ref (s.heap.objs.size+1)::(vs++iY)) (Value.ref (s.heap.objs.size+1)::(us++ds)):=.cons rfl (r.append hd);have hl:(Value.ref (s.heap.objs.size+1)::us++ds).length=ps.length:=by
  have e:=r2.length;rw [F.len _ _ _ _ hq] at e;exact e.symm
 refine wpAny_call (VD (f:=f) I.gN M.makes M.init (beq_iff_eq.mp M.fn) (codeAny_mono (F.run _ X.stack _ _ ⟨Value.ref (s.heap.objs.size+1)::us,[]⟩ (Value.ref (s.heap.objs.size+1)::(us++ds)) _ _ E (hr.make C us [])
  (I2.x_.make C us []) (hb _ (Value.ref (s.heap.objs.size+1)::us) I2.gN hl) r2 hq) fun r s' iV=>?_))
 cases r with
 | error e=>exact hx pins σ _ _ e s' I2 iV
 | ok fl=>
  cases fl with
  | ret u=>
   obtain ⟨v,H',I3,rv,ev,q3⟩:=I2.after iV;subst ev;exact ⟨rv,⟨V.ref (s.heap.objs.size+1),H',I3,rfl,q3⟩⟩
  | next=>exact False.elim iV
  | brk=>exact False.elim iV
  | cont=>exact False.elim iV
theorem Ho (M:Mk X.K C f) (F:aq X.prog X.w X.K X.mg X.base CX k f fd ps sp) (hr:cU (k+1) X.A) (hg:Gl X x) (hm:X.mg x=some (.ref C)) (hb:eW X.K fd ps ds) (hd:bp iY ds) (hx:pK CX X E)
 (ha:PA X (e::es) t) (my:(x==("__debug__":Str))=false:=by decide) (he:starEach (e::es) X.env=(false,eval e X.env)::starEach es X.env:=by rfl) (fe:(backTo pos (starEach es X.env)).any (·.1)=false:=by rfl):
 PE X (.Call (.Name x p) (e::es) [] pos) (ZH C sp iY E t):=by
 intro pins s σ H Q I h;refine wpAny_Call_Name_kw (yF I hg hm ?_ my);refine PySem.W.callWith_K (h₀:=X.base) I.ok.mod.zd M.kp (av (ha pos pins s σ H _ I h) fun us s1 zz=>L2.eQ zz fun vs H1 I1 r q=>⟨I1.gN,?_⟩) he fe;exact VU M F hr hb hd hx I1 r q
end
section
variable {X:Cx} {CX:mG} {k:Nat} {f C:Addr} {fd:FuncData} {ps ks:List Str} {sp:Sp} {E:XK} {x m:Str} {p pos apos kpos:Pos} {e o:Expr} {es:List Expr} {kws:List Keyword} {te ta:TE} {t tk:TA} {nm:Option Str}
variable {g:List Value->List Value->List Value} {gV:List V->List V->List V}
end
structure cE (N P:List Str) (sc:Scope):Prop where
 kind:sc.kind=.function
 co:sc.isCoroutine=false
 gen:sc.isGenerator=false
 nd:N.Nodup
 pre:N.take P.length=P
 par:∀x∈P,sc.names.lookup x=some .local\/sc.names.lookup x=some .cell
 xg:∀y∈sc.names,y.2≠.free
theorem cV {N P:List Str} {sc:Scope} (h1:sc.kind=.function:=by rfl) (h2:sc.isCoroutine=false:=by rfl) (h3:sc.isGenerator=false:=by rfl) (h4:N.Nodup:=by decide+kernel) (h5:N.take P.length=P:=by rfl) (h6:∀x∈P,sc.names.lookup x=some .local\/sc.names.lookup x=some .cell:=by decide+kernel) (h7:∀y∈sc.names,y.2≠.free:=by decide+kernel):cE N P sc:=⟨h1,h2,h3,h4,h5,h6,h7⟩
theorem Pg {kindOf:Str->Option NameKind} {x:Str}:∀{binds:List (Str×Value)} {m:Str->Option Value},(∀v,(x,v)∉binds)->bindL kindOf binds m x=m x
 | [],_,_=>rfl
 | (n,v)::r,m,h=>by
  unfold bindL;rw [Pg fun w hw=>h w (gz _ hw)];split
  ·have:x≠n:=by rintro rfl;exact h v eD
   simp [this]
  ·rfl
theorem Pe {kindOf:Str->Option NameKind} {x:Str}:∀{binds:List (Str×Value)} {m:Str->Option Value},(∀v,(x,v)∉binds)->bindC kindOf binds m x=m x
 | [],_,_=>rfl
 | (n,v)::r,m,h=>by
  unfold bindC;rw [Pe fun w hw=>h w (gz _ hw)];split
  ·rfl
  ·have:x≠n:=by rintro rfl;exact h v eD
   simp [this]
theorem Pf {kindOf:Str->Option NameKind} {x:Str} {v:Value}:∀{P:List Str} {vs:List Value} {i:Nat} {m:Str->Option Value},P.Nodup->P[i]?=some x->vs[i]?=some v->kindOf x=some .local->
 bindL kindOf (P.zip vs) m x=some v
 | [],_,_,_,_,h,_,_=>by simp at h
 | _::_,[],_,_,_,_,h,_=>by simp at h
 | p::P,w::vs,0,m,nd,h1,h2,hk=>by
  simp at h1 h2;subst h1;subst h2;show bindL kindOf ((p,w)::P.zip vs) m p=_;unfold bindL;rw [Pg fun v hv=>(List.nodup_cons.mp nd).1 (List.of_mem_zip hv).1,if_pos hk];simp
 | p::P,w::vs,i+1,m,nd,h1,h2,hk=>by
  show bindL kindOf ((p,w)::P.zip vs) m x=_;unfold bindL;exact Pf (i:=i) (List.nodup_cons.mp nd).2 (by simpa using h1) (by simpa using h2) hk
theorem Pc {kindOf:Str->Option NameKind} {x:Str} {v:Value}:∀{P:List Str} {vs:List Value} {i:Nat} {m:Str->Option Value},P.Nodup->P[i]?=some x->vs[i]?=some v->kindOf x≠some .local->
 bindC kindOf (P.zip vs) m x=some v
 | [],_,_,_,_,h,_,_=>by simp at h
 | _::_,[],_,_,_,_,h,_=>by simp at h
 | p::P,w::vs,0,m,nd,h1,h2,hk=>by
  simp at h1 h2;subst h1;subst h2;show bindC kindOf ((p,w)::P.zip vs) m p=_;unfold bindC;rw [Pe fun v hv=>(List.nodup_cons.mp nd).1 (List.of_mem_zip hv).1,if_neg hk];simp
 | p::P,w::vs,i+1,m,nd,h1,h2,hk=>by
  show bindC kindOf ((p,w)::P.zip vs) m x=_;unfold bindC;exact Pc (i:=i) (List.nodup_cons.mp nd).2 (by simpa using h1) (by simpa using h2) hk
noncomputable def jb (N:List Str) (vs:List V):St:=vs.map some++List.replicate (N.length-vs.length) none
noncomputable def mI (CX:mG) (P:Program) (w:World) (K:aA) (mg:Str->Option Value) (base:Heap) (N:List Str) (qual:Str) (scope:Scope) (f:Addr) (cd:Value) (A:Around) (outer:List Env) (s:Shared) (H:Hp) (E:XK):Cx where
 prog:=P
 w:=w
 K:=K
 mg:=mg
 base:=base
 A:=A.deeper (envOfC qual scope s.heap.objs.size f cd)
 N:=N
 bS:=s
 gq:=H
 env:=envOfC qual scope s.heap.objs.size f cd
 outer:=outer
 stack:=envOfC qual scope s.heap.objs.size f cd::outer
 ex:=[]
 calm:=true
 fn:=fun _=>true
 pn:=[]
 xe:=fun e s'=>wpAny (model P w) (A.deeper (envOfC qual scope s.heap.objs.size f cd)) (leaving (envOfC qual scope s.heap.objs.size f cd) e) (fun _ AU=>CX outer H s E e AU) (fun e' AU=>CX outer H s E e' AU) s'
theorem NR {sc:Scope} {n:Nat} {x:Str} (h:sc.names.lookup x=some .cell):∃c,(cellsFrom n sc.names []).lookup x=some c:=by
 have q:=PySem.W.cellsFrom_some sc.names n [] (.inl h);exact Option.isSome_iff_exists.mp q
theorem WN {CX:mG} {P:Program} {w:World} {K:aA} {mg:Str->Option Value} {base:Heap} {N ps:List Str} {qual:Str} {scope:Scope} {f:Addr} {cd:Value} {A:Around} {outer:List Env} {s s1:Shared} {H:Hp} {E:XK} {us:List Value} {vs:List V}
 (S:cE N ps scope) (hd:A.handled=none) (e0:vI P w K mg base A outer s H) (hl:vs.length=ps.length) (r:bp vs us)
 (x:InCallC s s.heap.objs.size (bindL (envOfC qual scope s.heap.objs.size f cd).kindOf (ps.zip us) fun _=>none) (cellsFrom (s.heap.objs.size+1) scope.names []) (bindC (envOfC qual scope s.heap.objs.size f cd).kindOf (ps.zip us) fun _=>none) s1):
 Inv (mI CX P w K mg base N qual scope f cd A outer s H E) [] (jb N vs) H s1:=by
 have fe:ps.length<=N.length:=by have:=congrArg List.length S.pre;rw [ig] at this;lia
 obtain ⟨h1,tk,rfl,hk⟩:=x.done;have Ba:∀b:Addr,b∉(mI CX P w K mg base N qual scope f cd A outer s H E).ex:=fun b z=>absurd (show b∈([]:List Addr) from z) (by simp);refine ⟨⟨e0.mod,S.kind,rfl,rfl,az _,fun y z c h1 h2=>?_,fun y hy=>?_,fun y c _ h=>?_,fun _=>hd,Around.frames_deeper e0.frames,.inr ⟨rfl,rfl⟩,fun b z=>absurd z (Ba b),e0.bs,e0.oO,fun b _ _=>Ba b,fun b z=>absurd z (Ba b),e0.eP,e0.pz⟩,
  rfl,e0.bare,Un.kept hk,⟨_,x.toInCall.ns,fun i y v h1 h2 h3=>?_⟩,fun y c h=>⟨_,x.cell y c h⟩,e0.af.fresh (az _),fun y c h=>?_,fun p hp=>absurd (show p∈([]:List (Addr×Obj)) from hp) (by simp),e0.af.kept hk,?_⟩
 ·exact name_of_addr x.apart (zI h1) (zI h2)
 ·have hy:scope.names.lookup y=some .cell\/scope.names.lookup y=some .free:=hy;rcases hy with hy | hy
  ·exact NR hy
  ·exact absurd rfl (S.xg _ (zI hy))
 ·exact bo (x.above y c (zI h))
 ·have hi:i<vs.length:=by
   unfold jb at h2
   by_cases hi:i<vs.length
   ·exact hi
   ·rw [qW (by simpa using hi)] at h2;rw [List.getElem?_replicate] at h2;split at h2<;>cases h2
  have ha:vs[i]?=some v:=by
   unfold jb at h2;rw [r_ (by simpa using hi),fv] at h2
   cases e:vs[i]? with
   | none=>rw [e] at h2;cases h2
   | some a=>rw [e] at h2;cases h2;rfl
  obtain ⟨u,hu,rv⟩:=r.get ha;have hp:ps[i]?=some y:=by
   rw [<-S.pre,List.getElem?_take_of_lt (by lia)];exact h1
  have Rt:ps.Nodup:=by rw [<-S.pre];exact S.nd.sublist (List.take_sublist _ _)
  refine ⟨u,rv,?_⟩;rcases S.par y (gn hp) with k | k
  ·exact .inl ⟨k,Pf Rt hp hu k⟩
  ·obtain ⟨c,e⟩:=NR (n:=s.heap.objs.size+1) k;refine .inr ⟨.inl k,c,e,?_⟩;have q:=x.cell y c e;rw [Pc Rt hp hu (by show scope.names.lookup y≠_;rw [k];decide)] at q;exact q
 ·exact e0.af.fresh (bo (x.above y c (zI h)))
 ·unfold jb;show _=N.length;rw [ik,aD,List.length_replicate];lia
theorem QL {CX:mG} {P:Program} {w:World} {K:aA} {mg:Str->Option Value} {base:Heap} {k:Nat} {f:Addr} {name qual:Str} {params:Arguments} {body:List Stmt} {scope:Scope} {dV kV doc pm cY ct oc:Value} {an od:Option Addr}
 {ou:Array (Option Value)} {N ps:List Str} {sp:Sp} (lk:K.lookup f=some ⟨oc,od,.func (PySem.W.fnOf name qual params body scope dV kV doc pm an cY ct),ou⟩) (oH:PySem.W.codeIn K cY qual=true) (S:cE N ps scope)
 (len:∀vs H Q E,sp vs H Q E->vs.length=ps.length)
 (gE:∀(A:Around) (outer:List Env) (s:Shared) (H:Hp) (vs:List V) (Q:VK) (E:XK),cU k (A.deeper (envOfC qual scope s.heap.objs.size f cY))->sp vs H Q E->
  ∃t,gp (mI CX P w K mg base N qual scope f cY A outer s H E) body t/\t { nx:=fun _ H'=>Q .aS H',rt:=Q } (jb N vs) H):
 aq P w K mg base CX (k+1) f (PySem.W.fnOf name qual params body scope dV kV doc pm an cY ct) ps sp:=by
 refine ⟨len,fun A outer s H args us vs Q E hr e0 hb r pk=>?_⟩;have hl:=len _ _ _ _ pk;have KX:K.In s.heap:=e0.mod.zd.keeps fun b o e=>(e0.bs b o e).1;have lim:s.heap.NoLimit:=e0.mod.nolimit.keeps fun b o e=>(e0.bs b o e).1;have lq:∀y∈ps.zip us,scope.names.lookup y.1=some .local\/(scope.names.lookup y.1=some .cell/\((cellsFrom (s.heap.objs.size+1) scope.names []).lookup y.1).isSome=true):=fun ⟨n,v⟩ hy=>by
  rcases S.par n (List.of_mem_zip hy).1 with q | q
  ·exact .inl q
  ·exact .inr ⟨q,PySem.W.cellsFrom_some _ _ _ (.inl q)⟩
 refine codeAny_call_function hr.depth (KX _ _ lk) rfl S.co S.gen rfl (PySem.W.codeRec_of KX oH) (hb _ _ _ _ ?_);refine wpAny_newFunctionEnv_cells S.kind lq fun env he s1 x=>?_;subst he;refine ⟨lim.keeps x.toInCall.keep,codeAny_func ?_⟩;obtain ⟨t,ht,hq⟩:=gE A outer s H vs Q E (hr.deeper _) pk;have I:Inv (mI CX P w K mg base N qual scope f cY A outer s H E) [] (jb N vs) H s1:=WN S hr.hd e0 hl r x;refine wpAny_mono (ht [] s1 (jb N vs) H _ I hq) (fun fl s' hs=>?_) fun e s' hs=>hs;have fin:∀{aa:St} {H':Hp} {v:V} {u:Value},Inv (mI CX P w K mg base N qual scope f cY A outer s H E) [] aa H' s'->bQ v u->Q v H'->CE outer P w H s Q u s':=
  fun {aa H' v u} J rv q=>⟨v,H',J.os,J.bare,J.base,J.af,rv,q⟩
 cases fl with
 | ret u=>
  obtain ⟨v,aa,H',J,rv,q⟩:=hs;exact fin J rv q
 | next=>
  obtain ⟨aa,H',J,q⟩:=hs;exact fin (v:=V.aS) (u:=Value.none) J rfl q
 | brk=>
  obtain ⟨_,_,_,q⟩:=hs;exact False.elim q
 | cont=>
  obtain ⟨_,_,_,q⟩:=hs;exact False.elim q
section
variable {X:Cx} {x:Str} {p pos:Pos} {e:Expr} {es:List Expr} {t:TA} {id T:String} {r:List V->Hp->VK->Prop}
noncomputable def QW (r:List V->Hp->VK->Prop) (t:TA):TE:=fun σ H Q=>t σ H fun vs H1=>r vs H1 Q
theorem ju (hc:rn X (.builtin id) r) (hg:Gl X x) (hm:X.mg x=none) (hv:bootBuiltins x=some (.builtin id)) (ha:PA X (e::es) t) (hn:x≠"__name__":=by decide) (my:(x==("__debug__":Str))=false:=by decide)
 (he:starEach (e::es) X.env=(false,eval e X.env)::starEach es X.env:=by rfl) (fe:(backTo pos (starEach es X.env)).any (·.1)=false:=by rfl):PE X (.Call (.Name x p) (e::es) [] pos) (QW r t):=by
 intro pins s σ H Q I h;refine wpAny_Call_Name_kw (vY I hg hm hv ?_ hn my);exact PyProof.Rows.callWith_builtin1 (av (ha pos pins s σ H _ I h) fun us s1 zz=>L2.eQ zz fun vs H1 I1 r1 q1=>hc pins s1 σ H1 vs us Q I1 r1 q1) he fe
theorem uP (hc:rn X (.type T) r) (hg:Gl X x) (hm:X.mg x=none) (hv:bootBuiltins x=some (.type T)) (ha:PA X (e::es) t) (hn:x≠"__name__":=by decide) (my:(x==("__debug__":Str))=false:=by decide)
 (he:starEach (e::es) X.env=(false,eval e X.env)::starEach es X.env:=by rfl) (fe:(backTo pos (starEach es X.env)).any (·.1)=false:=by rfl):PE X (.Call (.Name x p) (e::es) [] pos) (QW r t):=by
 intro pins s σ H Q I h;refine wpAny_Call_Name_kw (vY I hg hm hv ?_ hn my);exact PyProof.Rows.callWith_type1 (av (ha pos pins s σ H _ I h) fun us s1 zz=>L2.eQ zz fun vs H1 I1 r1 q1=>hc pins s1 σ H1 vs us Q I1 r1 q1) he fe
end
end L2
namespace HT
open PySem PyProof.Rows
section
open PySem.SeqAt
open PySem.AutoSeq1 (wpAny_loadPart')
open PySem.MeetsSeq PySem.MeetsSeq2 PySem.MeetsSeq3
end
section
variable {prog:Program} {w:World} {A:Around} {E:Value->Shared->Prop} {s:Shared}
noncomputable def cm (n d:Nat):Option Int->Nat
 | none=>d
 | some v=>if v<0 then (v+(n:Int)).toNat else min v.toNat n
theorem eI (n d:Nat):cm n d none=d:=rfl
theorem dN (n d k:Nat):cm n d (some (k:Int))=min k n:=by
 show (if (k:Int)<0 then ((k:Int)+(n:Int)).toNat else min (k:Int).toNat n)=min k n;rw [if_neg (by exact Int.not_lt.mpr (Int.natCast_nonneg k)),i7]
theorem Tv (n d:Nat) (hd:d<=n) (o:Option Int):cm n d o<=n:=by
 cases o with
 | none=>exact hd
 | some v=>
  show (if v<0 then (v+(n:Int)).toNat else min v.toNat n)<=n
  by_cases hv:v<0
  ·rw [if_pos hv];lia
  ·rw [if_neg hv];exact Nat.min_le_right _ _
theorem MY (v:Int) (n d:Nat):(if v<0 then max (v+(n:Int)) 0 else min v (n:Int))=((cm n d (some v):Nat):Int):=by
 show (if v<0 then max (v+(n:Int)) 0 else min v (n:Int))=(((if v<0 then (v+(n:Int)).toNat else min v.toNat n):Nat):Int)
 by_cases hv:v<0
 ·simp only [if_pos hv];lia
 ·simp only [if_neg hv];lia
theorem WY (lo hi:Option Int) (n:Nat):Builtin.Slice.sliceAdjust lo hi 1 (n:Int)=(((cm n 0 lo:Nat):Int),((cm n n hi:Nat):Int)):=by
 have h1:¬((1:Int)<0):=by lia
 unfold Builtin.Slice.sliceAdjust;simp only [h1,if_false];refine Prod.ext ?_ ?_
 ·cases lo with
  | none=>rfl
  | some v=>exact MY v n 0
 ·cases hi with
  | none=>rfl
  | some v=>exact MY v n n
theorem Xi (i j:Nat):Builtin.Slice.slicePlaces (i:Int) (j:Int) 1=j-i:=by
 unfold Builtin.Slice.slicePlaces;have h1:(1:Int)>0:=by exact Int.NonNeg.mk (1-Nat.succ 0)
 simp only [h1,if_true,Int.ediv_one];split<;>lia
theorem PL (p:IsPart v o) (h:Q o s):wpAny (model prog w) A (Builtin.Slice.slicePartIndex v) Q E s:=by
 cases p with
 | none=>exact slicePart_none h
 | int i t=>exact slicePart_int h
theorem XY {sl:Addr} {vl vu:Value} {lo hi:Option Int} {n:Nat} {Q:Int×Int×Nat->Shared->Prop} (hs:s.heap.IsSliceOf sl vl vu .none) (pl:IsPart vl lo) (pu:IsPart vu hi)
 (h:Q (((cm n 0 lo:Nat):Int),1,cm n n hi-cm n 0 lo) s):wpAny (model prog w) A (Builtin.Slice.sliceApplied (.ref sl) (pure (n:Int))) Q E s:=by
 obtain ⟨os,By,Sg,Fl⟩:=id hs;unfold Builtin.Slice.sliceApplied Builtin.Slice.sliceFields;refine ag (ag (wpAny_field By Fl (x:=vl) rfl (ag (wpAny_field By Fl (x:=vu) rfl (ag (wpAny_field By Fl (x:=.none) rfl (aU ?_)))))));refine ag (slicePart_none ?_);show wpAny _ _ (if ((1:Int)==0)=true then _ else _) _ _ s;rw [if_neg (by decide)];refine ag (PL pl (ag (PL pu (ag (aU ?_)))));show wpAny _ _ (match Builtin.Slice.sliceAdjust lo hi 1 (n:Int) with | (lo,hi)=>pure (lo,(1:Int),Builtin.Slice.slicePlaces lo hi 1)) _ _ s;rw [WY lo hi n];show wpAny _ _ (pure (((cm n 0 lo:Nat):Int),(1:Int),Builtin.Slice.slicePlaces ((cm n 0 lo:Nat):Int) ((cm n n hi:Nat):Int) 1)) _ _ s;rw [Xi];exact aU h
theorem VH (xs:Array Value) (i k:Nat):((List.range k).filterMap fun (m:Nat)=>xs[((i:Int)+(m:Int)*1).toNat]?).toArray=((xs.toList.drop i).take k).toArray:=by
 have e:(fun (m:Nat)=>xs[((i:Int)+(m:Int)*1).toNat]?)=fun m=>xs[i+m]?:=by
  funext m
  have:((i:Int)+(m:Int)*1).toNat=i+m:=by lia
  rw [this]
 rw [e];have:=pick_run xs i k;rw [List.filterMap_map] at this;have e2:((fun x=>xs[x]?) ∘ fun x=>i+x)=fun m=>xs[i+m]?:=rfl;rw [e2] at this;rw [this]
theorem gF {t sl:Addr} {items:Array Value} {vl vu:Value} {lo hi:Option Int} {Q:Value->Shared->Prop} (ht:IsTup s.heap t items) (hs:s.heap.IsSliceOf sl vl vu .none) (pl:IsPart vl lo) (pu:IsPart vu hi)
 (hw:¬(cm items.size 0 lo=0/\cm items.size items.size hi=items.size))
 (h:Q (.ref s.heap.objs.size) { s with heap:=s.heap.push { cls:=.type "tuple",data:=.seq ((items.toList.drop (cm items.size 0 lo)).take (cm items.size items.size hi-cm items.size 0 lo)).toArray } })
 (hsz:items.size<=sizeLine):wpAny (model prog w) A (getItem (.ref t) (.ref sl)) Q E s:=by
 have nA:sizeOk (.seq ((items.toList.drop (cm items.size 0 lo)).take (cm items.size items.size hi-cm items.size 0 lo)).toArray):=by
  show ((items.toList.drop (cm items.size 0 lo)).take (cm items.size items.size hi-cm items.size 0 lo)).toArray.size<=sizeLine;rw [il,ig,vE,qY];omega
 have hj:cm items.size items.size hi<=items.size:=Tv _ _ (az _) hi;obtain ⟨os,By,Sg,Fl⟩:=id hs;have hTs:s.TypeIs (.ref sl) "slice":=⟨os,By,Sg⟩;unfold getItem
 try with_reducible refine wpAny_holding ?_
 first | refine ag (aU ?_) | skip
 refine ag (wpAny_sequenceKey ht.typeIs (by decide) ?_);refine ag (wpAny_callSpecial?_slot (name:=Str.ofString "__getitem__") ht.typeIs PyProof.Rows.slot_tuple_getitem
  (wpAny_call_entry PyProof.Rows.slot_tuple_getitem ht.typeIs entry_tuple_getitem ?_ (args_tuple_getitem _ _)))
 show wpAny _ _ (Builtin.Tuple.tupleItemsOf (.ref t)>>=_) _ _ s;refine ag (tupleItemsOf_ ht ?_);refine ag (wpAny_typeOf hTs ?_);rw [if_pos (by decide)];refine ag (XY hs pl pu ?_);have lj:¬((((cm items.size 0 lo:Nat):Int)==0 && (1:Int)==1 && (cm items.size items.size hi-cm items.size 0 lo)==items.size)=true):=by
  intro q;rw [Bool.and_eq_true,Bool.and_eq_true] at q;have q1:((cm items.size 0 lo:Nat):Int)=0:=eq_of_beq q.1.1;have q2:cm items.size items.size hi-cm items.size 0 lo=items.size:=eq_of_beq q.2;exact hw ⟨by lia,by omega⟩
 show wpAny _ _ (if (((cm items.size 0 lo:Nat):Int)==0 && (1:Int)==1 && (cm items.size items.size hi-cm items.size 0 lo)==items.size)=true then _ else _) _ _ s;rw [if_neg lj,VH]
 first
  | exact ag (m:=Builtin.Tuple.tupleExact _) (wpAny_newObj_type (aU ⟨_,rfl,aU h⟩) nA)
  | exact ag (m:=Builtin.Tuple.tupleExact _) (wpAny_newObj_type (ag (aU (aU ⟨_,rfl,aU h⟩))) nA)
  | exact ag (ag (m:=Builtin.Tuple.tupleExact _) (wpAny_newObj_type (aU (aU ⟨_,rfl,aU h⟩)) nA))
  | exact ag (ag (m:=Builtin.Tuple.tupleExact _) (wpAny_newObj_type (aU ⟨_,rfl,aU h⟩) nA))
end
end HT
namespace L2
open PySem PySem.Spec PyProof.Rows
noncomputable abbrev TO:=St->Hp->(Option Int->Hp->Prop)->Prop
noncomputable def PO (X:Cx) (e:Option Expr) (t:TO):Prop:=
 ∀(pins:List (Addr×Obj)) (s:Shared) (σ:St) (H:Hp) (Q:Option Int->Hp->Prop),Inv X pins σ H s->t σ H Q->
  wpAny (model X.prog X.w) X.A (evalPart e X.env) (fun u s'=>∃o H',Inv X pins σ H' s'/\IsPart u o/\Q o H') X.xe s
noncomputable def Vd:TO:=fun _ H Q=>Q none H
noncomputable def ZJ (t:TE):TO:=fun σ H Q=>t σ H fun x H1=>∃i,x=.int i/\Q (some i) H1
section
variable {X:Cx} {e:Expr} {te:TE} {lo hi:Option Expr} {tl th:TO} {pos p2:Pos}
theorem pN:PO X none Vd:=by
 intro pins s σ H Q I h;rw [evalPart_none];exact aU ⟨none,H,I,.none,h⟩
theorem pO (h:PE X e te):PO X (some e) (ZJ te):=by
 intro pins s σ H Q I hw;rw [evalPart_some];refine av (h pins s σ H _ I hw) fun u s1 zz=>?_;obtain ⟨x,H1,I1,r1,q1⟩:=zz;obtain ⟨i,rfl,q⟩:=q1;obtain ⟨t,rfl⟩:=r1;exact ⟨some i,H1,I1,.int i t,q⟩
noncomputable def FD (X:Cx) (r:V->Option Int->Option Int->Hp->VK->Prop):Prop:=
 ∀(pins:List (Addr×Obj)) (s:Shared) (σ:St) (H:Hp) (x:V) (v vl vu:Value) (lo hi:Option Int) (sl:Addr) (Q:VK),Inv X pins σ H s->bQ x v->s.heap.IsSliceOf sl vl vu .none->IsPart vl lo->IsPart vu hi->r x lo hi H Q->
  ∃T id,typeLookup (.type T) "__getitem__"=pure (some (.builtin id))/\s.TypeIs v T/\wpAny (model X.prog X.w) X.A (getItem v (.ref sl)) (EP X pins σ Q) X.xe s
noncomputable def ZU (r:V->Option Int->Option Int->Hp->VK->Prop) (te:TE) (tl th:TO):TE:=fun σ H Q=>te σ H fun x H1=>tl σ H1 fun l H2=>th σ H2 fun u H3=>r x l u H3 Q
theorem pR (hr:FD X r) (he:PE X e te) (hl:PO X lo tl) (hu:PO X hi th):PE X (.Subscript e (.Slice lo hi none p2) pos) (ZU r te tl th):=by
 intro pins s σ H Q I h;refine Subscript_ (av (he pins s σ H _ I h) fun v s1 zz=>?_);obtain ⟨x,H1,I1,r1,q1⟩:=zz;refine wpAny_Slice (av (hl pins s1 σ H1 _ I1 q1) fun vl s2 zz=>L2.eQ zz fun l H2 I2 pl q2=>av (hu pins s2 σ H2 _ I2 q2) fun vu s3 zz=>?_);obtain ⟨u,H3,I3,pu,q3⟩:=zz;rw [evalPart_none];refine aU ?_;have I4:Inv X pins σ H3 { s3 with heap:=s3.heap.push { cls:=.type "slice",data:=.fields #[vl,vu,.none] } }:=I3.kept (t':=s3.toks) fun b ob q=>cW _ q;obtain ⟨T,id,hT,ht,hg⟩:=hr pins { s3 with heap:=s3.heap.push { cls:=.type "slice",data:=.fields #[vl,vu,.none] } } σ H3 x v vl vu l u s3.heap.objs.size Q I4 r1 (Heap.IsSliceOf.new ..) pl pu q3;show wpAny (model X.prog X.w) X.A (subscriptTail e (.Slice lo hi none p2) v (.ref s3.heap.objs.size)) (EP X pins σ Q) X.xe { s3 with heap:=s3.heap.push { cls:=.type "slice",data:=.fields #[vl,vu,.none] } };exact tail_any (ops:=[.ref s3.heap.objs.size,v]) ht hT hg (by with_unfolding_all rfl)
noncomputable def kI (xs:List V) (lo hi:Option Int):List V:=(xs.drop (HT.cm xs.length 0 lo)).take (HT.cm xs.length xs.length hi-HT.cm xs.length 0 lo)
theorem Qk (xs:List V) (lo hi:Option Int):(kI xs lo hi).length<=xs.length:=by
 unfold kI;rw [ig,vE];lia
noncomputable def Y3 (K:aA):V->Option Int->Option Int->Hp->VK->Prop:=fun x lo hi H Q=>∃a xs,x=.ref a/\c_ K H a xs/\
 ¬(HT.cm xs.length 0 lo=0/\HT.cm xs.length xs.length hi=xs.length)/\∀p,H p=none->Q (.ref p) (upd H p (.tup (kI xs lo hi)))
theorem CK:FD X (Y3 X.K):=by
 intro pins s σ H x v vl vu lo hi sl Q I rx hs pl pu h;obtain ⟨a,xs,rfl,hx,hw,q⟩:=h;cases rx;obtain ⟨its,r,ht,hz⟩:=I.tuple hx;have hlen:its.toArray.size=xs.length:=by rw [il];exact r.length.symm
 refine ⟨"tuple",_,PyProof.Rows.slot_tuple_getitem.lookup,ht.typeIs,?_⟩;refine HT.gF ht hs pl pu (by rw [hlen];exact hw) ?_ (by rw [hlen];exact hz);rw [hlen];refine ⟨.ref s.heap.objs.size,_,I.laid (t':=s.toks) (o:=.tup (kI xs lo hi)) (fun b ob q=>cW _ q) (az _) ?_,rfl,q _ (I.af.fresh (az _))⟩;exact ⟨eC (Qk xs lo hi) hz,_,(r.drop (HT.cm xs.length 0 lo)).take (HT.cm xs.length xs.length hi-HT.cm xs.length 0 lo),IsTup.new _ _⟩
end
noncomputable def pd (n:Nat) (i:Int):Option Nat:=if 0<=i then (if i<n then some i.toNat else none) else if-(n:Int)<=i then some (i+n).toNat else none
noncomputable def iI {α:Type} (xs:List α) (i:Int):Option α:=(pd xs.length i).bind fun j=>xs[j]?
theorem Nd (h:pd n i=some j):seqIndex? i n=some j/\j<n/\-(n:Int)<=i/\i<n:=by
 unfold pd at h
 by_cases h0:0<=i
 ·rw [if_pos h0] at h
  by_cases h1:i<n
  ·rw [if_pos h1] at h;have e:i.toNat=j:=eT h;exact ⟨by rw [seqIndex_of h0 h1,e],by lia,by lia,h1⟩
  ·rw [if_neg h1] at h;cases h
 ·rw [if_neg h0] at h
  by_cases h1: -(n:Int)<=i
  ·rw [if_pos h1] at h;have e:(i+n).toNat=j:=eT h;exact ⟨by rw [seqIndex_neg (by lia) h1,e],by lia,h1,by lia⟩
  ·rw [if_neg h1] at h;cases h
theorem MR (h:iI xs i=some v):∃j,seqIndex? i xs.length=some j/\xs[j]?=some v/\j<xs.length/\-(xs.length:Int)<=i/\i<xs.length:=by
 unfold iI at h
 cases e:pd xs.length i with
 | none=>rw [e] at h;cases h
 | some j=>
  rw [e] at h;obtain ⟨h1,h2,h3,h4⟩:=Nd e;exact ⟨j,h1,h,h2,h3,h4⟩
theorem kg {α:Type} {xs:List α} {j:Nat} {v:α} (h:xs[j]?=some v):iI xs (j:Int)=some v:=by
 have hj:j<xs.length:=(gQ.mp h).1;have e:pd xs.length (j:Int)=some j:=by
  unfold pd;rw [if_pos (by exact Int.NonNeg.mk (j+0)),if_pos (by lia)];simp
 unfold iI;rw [e];exact h
theorem V0 (xs:List α) (v:α):iI (xs++[v]) (-1)=some v:=by
 have hl:(xs++[v]).length=xs.length+1:=by simp
 have e:pd (xs++[v]).length (-1)=some xs.length:=by
  unfold pd;rw [hl,if_neg (by decide),if_pos (by lia)];congr 1;lia
 unfold iI;rw [e];show (xs++[v])[xs.length]?=some v;simp
noncomputable def TM (b:Expr):Prop:=∀o i,subscripted b false o i=operate [o,i] (getItem o i)
noncomputable def yk (X:Cx) (r:R2):Prop:=
 ∀(value slice:Expr) (pins:List (Addr×Obj)) (s:Shared) (σ:St) (H:Hp) (x y:V) (v u:Value) (Q:VK),Inv X pins σ H s->bQ x v->bQ y u->r x y H Q->
  subscripted slice false v u=operate [v,u] (getItem v u)->wpAny (model X.prog X.w) X.A (subscriptTail value slice v u) (EP X pins σ Q) X.xe s
noncomputable def MtR (X:Cx) (id:String) (r:V->List V->Hp->VK->Prop):Prop:=
 ∀(pins:List (Addr×Obj)) (s:Shared) (σ:St) (H:Hp) (x:V) (xs:List V) (v:Value) (us:List Value) (Q:VK),Inv X pins σ H s->bQ x v->bp xs us->r x xs H Q->
  wpAny (model X.prog X.w) X.A (call (.builtin id) (v::us)) (EP X pins σ Q) X.xe s
section
variable {X:Cx} {a b:Expr} {ta tb:TE} {pos:Pos}
theorem dh (hr:yk X r) (ha:PE X a ta) (hb:PE X b tb) (hs:TM b:=by exact fun _ _=>rfl):PE X (.Subscript a b pos) (pZ r ta tb):=by
 intro pins s σ H Q I h;exact Subscript_ (Iz ha hb I h fun v u s2 x y H2 I2 rx ry q=>hr a b pins s2 σ H2 x y v u Q I2 rx ry q (hs _ _))
noncomputable def Q0 (K:aA):R2:=fun x y H Q=>∃p xs i v,x=.ref p/\y=.int i/\ax K H p xs/\iI xs i=some v/\Q v H
noncomputable def Q3 (K:aA):R2:=fun x y H Q=>∃p xs i v,x=.ref p/\y=.int i/\c_ K H p xs/\iI xs i=some v/\Q v H
theorem Hj:yk X (Q0 X.K):=by
 intro value slice pins s σ H x y v u Q I rx ry h hs;obtain ⟨p,xs,i,z,rfl,rfl,hq,he,q⟩:=h;cases rx;obtain ⟨t,rfl⟩:=ry;obtain ⟨its,r,pl,hz⟩:=I.list hq;obtain ⟨j,h1,h2,h3,h4,h5⟩:=MR he;obtain ⟨w,ew,tw⟩:=r.get h2;have hl:=r.length;have hn:=CP;have fin:EP X pins σ Q w s:=⟨z,H,I,tw,q⟩
 by_cases h0:0<=i
 ·have hj:i.toNat=j:=by
   rw [seqIndex_of h0 h5] at h1;exact eT h1
  exact item_listR pl.isList h0 (by lia) (by rw [hj];simpa using ew) fin hs
 ·have hj:(i+(its.toArray.size:Int)).toNat=j:=by
   rw [seqIndex_neg (by lia) h4] at h1;rw [il,<-hl];exact eT h1
  exact subscriptTail_builtinR (x:=w) pl.isList.typeIs slot_list_getitem.lookup
   (wpAny_getItem_list_neg (Q:=fun r s'=>r=w/\EP X pins σ Q r s') pl.isList (by lia) (by rw [il]<;>lia) (by lia) (by rw [hj];simpa using ew) ⟨rfl,fin⟩) hs
theorem Mz:yk X (Q3 X.K):=by
 intro value slice pins s σ H x y v u Q I rx ry h hs;obtain ⟨p,xs,i,z,rfl,rfl,hq,he,q⟩:=h;cases rx;obtain ⟨t,rfl⟩:=ry;obtain ⟨its,r,pl,hz⟩:=I.tuple hq;obtain ⟨j,h1,h2,h3,h4,h5⟩:=MR he;obtain ⟨w,ew,tw⟩:=r.get h2;have hl:=r.length;have hn:=CP;have fin:EP X pins σ Q w s:=⟨z,H,I,tw,q⟩;exact subscriptTail_builtinR (x:=w) pl.typeIs slot_tuple_getitem.lookup
  (getItem_tuple (j:=j) (Q:=fun r s'=>r=w/\EP X pins σ Q r s') pl (by lia) (by lia) (by rw [il,<-hl];exact h1) (by simpa using ew) ⟨rfl,fin⟩) hs
theorem Xf (its:List Value) (n j:Nat) (u:Value):Obj.mapSeq (·.setIfInBounds j u) { cls:=.type "list",data:=.seq its.toArray n }={ cls:=.type "list",data:=.seq (its.set j u).toArray n }:=by
 simp [Obj.mapSeq]
theorem Inv.lst (I:Inv X pins σ H s) (h:H p=some (.lst xs)):
 ∃(its:List Value) (n:Nat),bp xs its/\s.heap.get? p=some { cls:=.type "list",data:=.seq its.toArray n }/\xs.length<=sizeLine:=by
 obtain ⟨z,its,n,r,e⟩:=I.af p _ h;exact ⟨its,n,r,e,z⟩
theorem Inv.xi {pins:List (Addr×Obj)} {σ:St} {H:Hp} {s:Shared} {p:Addr} {xs ys:List V} {its its':List Value} {n n':Nat} {f:Obj->Obj} (I:Inv X pins σ H s) (h:H p=some (.lst xs))
 (ho:s.heap.get? p=some { cls:=.type "list",data:=.seq its.toArray n }) (hf:f { cls:=.type "list",data:=.seq its.toArray n }={ cls:=.type "list",data:=.seq its'.toArray n' }) (r:bp ys its') (hz:ys.length<=sizeLine) (t:Nat):
 Inv X pins σ (upd H p (.lst ys)) { s with heap:=s.heap.update p f,toks:=t }:=by
 have e:(s.heap.update p f).get? p=some { cls:=.type "list",data:=.seq its'.toArray n' }:=by
  rw [Heap.get?_update_self f ho (by rw [hf]<;>rfl),hf]
 refine I.write (x:=p) (e:=p) (by rw [h];trivial) (.inl rfl) (fun b u hb q=>(Heap.get?_update_other _ _ (aF hb)).trans q) ⟨_,e⟩ ?_;exact ⟨hz,its',n',r,e⟩
noncomputable def Zq:V->V->V->Hp->(Hp->Prop)->Prop:=fun o i v H Q=>∃p xs k j,o=.ref p/\i=.int k/\H p=some (.lst xs)/\pd xs.length k=some j/\Q (upd H p (.lst (xs.set j v)))
theorem yN:QF X Zq:=by
 intro pins s σ H o i v ov iv u Q I ro ri rv h;obtain ⟨p,xs,k,j,rfl,rfl,hp,hj,q⟩:=h;cases ro;obtain ⟨t,rfl⟩:=ri;obtain ⟨its,n,r,ho,hz⟩:=I.lst hp;obtain ⟨h1,h2,h3,h4⟩:=Nd hj;have hl:=r.length;have hn:=CP;have I':Inv X pins σ (upd H p (.lst (xs.set j v))) { s with heap:=s.heap.update p (Obj.mapSeq (·.setIfInBounds j u)) }:=
  I.xi hp ho (Xf its n j u) (r.set rv j) (by rw [List.length_set];exact hz) s.toks
 by_cases h0:0<=k
 ·have hk:k.toNat=j:=by
   rw [seqIndex_of h0 h4] at h1;exact eT h1
  exact PySem.W.ki_setAt ho h0 (by lia) (by rw [il,<-hl];exact h4) (by rw [hk];exact ⟨_,I',q⟩)
 ·have hk:(k+(its.toArray.size:Int)).toNat=j:=by
   rw [seqIndex_neg (by lia) h3] at h1;rw [il,<-hl];exact eT h1
  exact PySem.W.ki_setBack ho (by lia) (by rw [il,<-hl];exact h3) (by lia) (by rw [hk];exact ⟨_,I',q⟩)
theorem XN (lo hi:Option Int) (n:Nat):(sliceBounds lo hi none n).1=((HT.cm n 0 lo:Nat):Int)/\(sliceBounds lo hi none n).2.1=((HT.cm n n hi:Nat):Int)/\(sliceBounds lo hi none n).2.2=1:=by
 refine ⟨?_,?_,rfl⟩
 ·cases lo with
  | none=>simp [sliceBounds,HT.cm]
  | some i=>
   simp only [sliceBounds,HT.cm,Option.getD_none,show (1:Int)>0 by decide,if_true]
   by_cases h:i<0
   ·simp only [h,if_true]<;>lia
   ·simp only [h,if_false]<;>lia
 ·cases hi with
  | none=>simp [sliceBounds,HT.cm]
  | some i=>
   simp only [sliceBounds,HT.cm,Option.getD_none,show (1:Int)>0 by decide,if_true]
   by_cases h:i<0
   ·simp only [h,if_true]<;>lia
   ·simp only [h,if_false]<;>lia
theorem XR (its:List Value) (lo hi:Option Int):slicePick its.toArray lo hi none=((its.drop (HT.cm its.length 0 lo)).take (HT.cm its.length its.length hi-HT.cm its.length 0 lo)).toArray:=by
 obtain ⟨h1,h2,h3⟩:=XN lo hi its.toArray.size;unfold slicePick;rw [h1,h2,h3];simp only [sliceRange_one,pick_run,il]<;>rfl
noncomputable def Y2 (K:aA):V->Option Int->Option Int->Hp->VK->Prop:=fun x lo hi H Q=>∃a xs,x=.ref a/\ax K H a xs/\∀p,H p=none->Q (.ref p) (upd H p (.lst (kI xs lo hi)))
theorem wk:FD X (Y2 X.K):=by
 intro pins s σ H x v vl vu lo hi sl Q I rx hs pl pu h;obtain ⟨a,xs,rfl,hx,q⟩:=h;cases rx;obtain ⟨its,r,ht,hz⟩:=I.list hx;have hlen:=r.length;refine ⟨"list",_,slot_list_getitem.lookup,ht.isList.typeIs,?_⟩;refine wpAny_getItem_list_slice ht.isList hs pl pu .none (by simp) ?_ (by rw [il]<;>lia);rw [XR,<-hlen];refine ⟨.ref s.heap.objs.size,_,I.laid (t':=s.toks) (o:=.lst (kI xs lo hi)) (fun b ob q=>cW _ q) (az _) ?_,rfl,q _ (I.af.fresh (az _))⟩;exact ⟨eC (Qk xs lo hi) hz,_,0,(r.drop (HT.cm xs.length 0 lo)).take (HT.cm xs.length xs.length hi-HT.cm xs.length 0 lo),jZ _ rfl⟩
noncomputable def jB:V->Bool
 | .aS=>true
 | .bl _=>true
 | .int _=>true
 | .str _=>true
 | _=>false
noncomputable def pB:V->V->Bool
 | .aS,.aS=>true
 | .bl a,.bl b=>a==b
 | .bl a,.int b=>(if a then 1 else 0)==b
 | .int a,.bl b=>a==(if b then 1 else 0)
 | .int a,.int b=>a==b
 | .str a,.str b=>a==b
 | _,_=>false
theorem Mv (ry:bQ y u) (rx:bQ x v) (fy:jB y=true) (fx:jB x=true):SeqAt.EqAt A s u v (pB y x):=by
 cases y with
 | aS=>
  cases ry
  cases x with
  | aS=>cases rx;exact SeqAt.EqAt.same _
  | bl b=>cases rx;exact SeqAt.EqAt.none_bool b
  | int b=>obtain ⟨t,rfl⟩:=rx;exact SeqAt.EqAt.none_int b t
  | str b=>obtain ⟨t,rfl⟩:=rx;exact SeqAt.EqAt.none_str b t
  | _=>exact absurd (show false=true from fx) fu
 | bl a=>
  cases ry
  cases x with
  | aS=>cases rx;exact SeqAt.EqAt.bool_none a
  | bl b=>cases rx;exact SeqAt.EqAt.bool_bool a b
  | int b=>obtain ⟨t,rfl⟩:=rx;exact SeqAt.EqAt.bool_int a b t
  | str b=>obtain ⟨t,rfl⟩:=rx;exact SeqAt.EqAt.bool_str a b t
  | _=>exact absurd (show false=true from fx) fu
 | int a=>
  obtain ⟨t',rfl⟩:=ry
  cases x with
  | aS=>cases rx;exact SeqAt.EqAt.int_none a t'
  | bl b=>cases rx;exact SeqAt.EqAt.int_bool a t' b
  | int b=>obtain ⟨t,rfl⟩:=rx;exact SeqAt.EqAt.int_int a t' b t
  | str b=>obtain ⟨t,rfl⟩:=rx;exact SeqAt.EqAt.int_str a t' b t
  | _=>exact absurd (show false=true from fx) fu
 | str a=>
  obtain ⟨t',rfl⟩:=ry
  cases x with
  | aS=>cases rx;exact SeqAt.EqAt.str_none a t'
  | bl b=>cases rx;exact SeqAt.EqAt.str_bool a t' b
  | int b=>obtain ⟨t,rfl⟩:=rx;exact SeqAt.EqAt.str_int a t' b t
  | str b=>obtain ⟨t,rfl⟩:=rx;exact SeqAt.EqAt.str_str a t' b t
  | _=>exact absurd (show false=true from fx) fu
 | _=>exact absurd (show false=true from fy) fu
noncomputable def mC (x:V) (u:Value):Bool:=match u with
 | .none=>pB .aS x
 | .bool b=>pB (.bl b) x
 | .int i _=>pB (.int i) x
 | .str z _=>pB (.str z) x
 | _=>false
theorem Mw (r:bQ y u) (f:jB y=true):mC x u=pB y x:=by
 cases y with
 | aS=>cases r;rfl
 | bl b=>cases r;rfl
 | int i=>obtain ⟨t,rfl⟩:=r;rfl
 | str z=>obtain ⟨t,rfl⟩:=r;rfl
 | _=>exact absurd (show false=true from f) fu
theorem CS {xs:List V} {us:List Value} (h:bp xs us) (f:xs.all jB=true):us.any (mC x)=xs.any fun y=>pB y x:=by
 induction h with
 | nil=>rfl
 | cons r t ih=>
  rw [List.all_cons,Bool.and_eq_true] at f;rw [List.any_cons,List.any_cons,Mw r f.1,ih f.2]
theorem Dp (rx:bQ x v) (fx:jB x=true) {xs:List V} {us:List Value} (h:bp xs us) (f:xs.all jB=true):∀u∈us,SeqAt.EqAt A s u v (mC x u):=by
 induction h with
 | nil=>intro u hu;cases hu
 | cons r t ih=>
  intro u' hu;rw [List.all_cons,Bool.and_eq_true] at f;rcases eS.mp hu with rfl | hu
  ·rw [Mw r f.1];exact Mv r rx f.1 fx
  ·exact ih f.2 u' hu
noncomputable def ua (x:V) (xs:List V):Bool:=xs.any fun y=>pB y x
noncomputable def EG (K:aA) (neg:Bool):R2:=fun x y H Q=>∃p xs,y=.ref p/\(ax K H p xs\/c_ K H p xs)/\jB x=true/\xs.all jB=true/\Q (.bl (if neg then !ua x xs else ua x xs)) H
theorem HR:eV X (compareOp .In) (EG X.K false):=by
 intro pins s σ H x y v u Q I rx ry h;obtain ⟨p,xs,rfl,hq,fx,fs,q⟩:=h;cases ry;rcases hq with hq | hq
 ·obtain ⟨its,r,pl,hz⟩:=I.list hq;refine SeqAt.in_listAt (mC x) pl.isList (fun w hw=>Dp rx fx r fs w (by simpa using hw)) ⟨.bl _,H,I,rfl,?_⟩;rw [show its.toArray.any (mC x)=its.any (mC x) by simp,CS r fs];exact q
 ·obtain ⟨its,r,pl,hz⟩:=I.tuple hq;refine SeqAt.in_tupleAt (mC x) pl (fun w hw=>Dp rx fx r fs w (by simpa using hw)) ⟨.bl _,H,I,rfl,?_⟩;rw [show its.toArray.any (mC x)=its.any (mC x) by simp,CS r fs];exact q
theorem XF:eV X (compareOp .NotIn) (EG X.K true):=by
 intro pins s σ H x y v u Q I rx ry h;obtain ⟨p,xs,rfl,hq,fx,fs,q⟩:=h;cases ry;rcases hq with hq | hq
 ·obtain ⟨its,r,pl,hz⟩:=I.list hq;refine SeqAt.notIn_listAt (mC x) pl.isList (fun w hw=>Dp rx fx r fs w (by simpa using hw)) ⟨.bl _,H,I,rfl,?_⟩;rw [show its.toArray.any (mC x)=its.any (mC x) by simp,CS r fs];exact q
 ·obtain ⟨its,r,pl,hz⟩:=I.tuple hq;refine SeqAt.notIn_tupleAt (mC x) pl (fun w hw=>Dp rx fx r fs w (by simpa using hw)) ⟨.bl _,H,I,rfl,?_⟩;rw [show its.toArray.any (mC x)=its.any (mC x) by simp,CS r fs];exact q
theorem w9:rn X (.builtin "len") (fun xs H Q=>∃p ys,xs=[.ref p]/\(ax X.K H p ys\/c_ X.K H p ys)/\Q (.int ys.length) H):=by
 intro pins s σ H xs us Q I r h;obtain ⟨p,ys,rfl,hq,q⟩:=h;obtain ⟨u,rfl,rx⟩:=yw r;cases rx;have hn:=CP;rcases hq with hq | hq
 ·obtain ⟨its,r',pl,hz⟩:=I.list hq;have hlen:=r'.length;exact Calls.call_len_list pl.isList (by simp only [il]<;>lia) ⟨.int ys.length,H,I.tok _,⟨s.toks+1,by rw [il,hlen]⟩,q⟩
 ·obtain ⟨its,r',pl,hz⟩:=I.tuple hq;have hlen:=r'.length;exact len_tuple pl (by simp only [il]<;>lia) ⟨.int ys.length,H,I.tok _,⟨s.toks+1,by rw [il,hlen]⟩,q⟩
theorem yU:rn X (.type "list") (fun xs H Q=>∃p ys,xs=[.ref p]/\(ax X.K H p ys\/c_ X.K H p ys)/\∀l,H l=none->Q (.ref l) (upd H l (.lst ys))):=by
 intro pins s σ H xs us Q I r h;obtain ⟨p,ys,rfl,hq,q⟩:=h;obtain ⟨u,rfl,rx⟩:=yw r;cases rx;have fin:∀(its:List Value),bp ys its->ys.length<=sizeLine->∀(h':Heap) (c':Nat),(∀b o',s.heap.get? b=some o'->h'.get? b=some o')->
  h'.get? s.heap.objs.size=some { cls:=.type "list",dict:=none,data:=.seq its.toArray c',slots:= #[] }->EP X pins σ Q (.ref s.heap.objs.size) { s with heap:=h' }:=fun its r' hz h' c' kp e=>
  ⟨.ref s.heap.objs.size,_,I.laid (t':=s.toks) kp (az _) (show ef X.prog X.w _ h' _ (.lst ys) from ⟨hz,its,c',r',e⟩),rfl,q _ (I.af.fresh (az _))⟩
 rcases hq with hq | hq
 ·obtain ⟨its,r',pl,hz⟩:=I.list hq;have hlen:=r'.length;obtain ⟨o,ho,hc,n,hd⟩:=pl.isList;exact call_list_seq p (.inl rfl) ho hc hd (fun h' c' kp e=>fin its r' hz h' c' kp e) (by simp only [il]<;>lia)
 ·obtain ⟨its,r',pl,hz⟩:=I.tuple hq;have hlen:=r'.length;obtain ⟨o,ho,hc,n,hd⟩:=pl;exact call_list_seq p (.inr rfl) ho hc hd (fun h' c' kp e=>fin its r' hz h' c' kp e) (by simp only [il]<;>lia)
theorem Qq:rn X (.type "tuple") (fun xs H Q=>∃p ys,xs=[.ref p]/\((ax X.K H p ys/\∀l,H l=none->Q (.ref l) (upd H l (.tup ys)))\/(c_ X.K H p ys/\Q (.ref p) H))):=by
 intro pins s σ H xs us Q I r h;obtain ⟨p,ys,rfl,h⟩:=h;obtain ⟨u,rfl,rx⟩:=yw r;cases rx;rcases h with ⟨hq,q⟩ | ⟨hq,q⟩
 ·obtain ⟨its,r',pl,hz⟩:=I.list hq;have hlen:=r'.length;refine call_tuple_list pl.isList (fun h' kp=>?_) (by simp only [il]<;>lia);have I1:Inv X pins σ H { s with heap:=h' }:=I.kept (t':=s.toks) kp;have I2:Inv X pins σ (upd H h'.objs.size (.tup ys)) { s with heap:=h'.push { cls:=.type "tuple",data:=.seq its.toArray } }:=
   I1.laid (t':=s.toks) (fun b o e=>cW _ e) (az _) (show ef X.prog X.w _ _ _ (.tup ys) from ⟨hz,its,r',IsTup.new _ _⟩)
  exact ⟨.ref h'.objs.size,_,I2,rfl,q _ (I1.af.fresh (az _))⟩
 ·obtain ⟨its,r',pl,hz⟩:=I.tuple hq;exact call_tuple_same pl ⟨.ref p,H,I,rfl,q⟩
noncomputable def QT (K:aA) (T:String) (x:V) (H:Hp):Prop:=match x with
 | .str _=>T="str"
 | .int _=>T="int"
 | .ref p=>(T="list"/\∃xs,ax K H p xs)\/(T="tuple"/\∃o,K.lookup p=some o/\o.cls=.type "tuple"/\o.dict=none)\/
  (T="dict"/\((∃kvs,H p=some (.dK kvs))\/∃kvs,H p=some (.dT kvs)))\/(T="set"/\∃S n,H p=some (.set S n))
 | _=>False
theorem UE (I:Inv X pins σ H s) (r:bQ x v) (ty:QT X.K T x H):
 s.TypeIs v T/\∀a,v=.ref a->∃ob,s.heap.get? a=some ob/\ob.dict=none:=by
 cases x with
 | str z=>
  obtain ⟨t,rfl⟩:=r;cases (show T="str" from ty);exact ⟨typeIs_str s z t,fun _ e=>nomatch e⟩
 | int i=>
  obtain ⟨t,rfl⟩:=r;cases (show T="int" from ty);exact ⟨typeIs_int s i t,fun _ e=>nomatch e⟩
 | ref p=>
  cases r;rcases ty with ⟨rfl,xs,hq⟩ | ⟨rfl,o,hk,hc,hd⟩ | ⟨rfl,hk⟩ | ⟨rfl,S,n,hk⟩
  ·obtain ⟨its,_,pl,_⟩:=I.list hq;refine ⟨pl.isList.typeIs,fun a e=>?_⟩;cases e;obtain ⟨o,n,e,c,hd,_⟩:=pl;exact ⟨o,e,hd⟩
  ·refine ⟨⟨o,I.gN p o hk,hc⟩,fun a e=>?_⟩;cases e;exact ⟨o,I.gN _ o hk,hd⟩
  ·have z:∃o,s.heap.get? p=some o/\o.ExactDict:=by
    rcases hk with ⟨kvs,hk⟩ | ⟨kvs,hk⟩
    ·obtain ⟨_,_,_,_,o,_,_,e,ex,_⟩:=I.af p _ hk;exact ⟨o,e,ex⟩
    ·obtain ⟨_,_,_,_,o,_,_,e,ex,_⟩:=I.af p _ hk;exact ⟨o,e,ex⟩
   obtain ⟨o,e,ex⟩:=z;refine ⟨⟨o,e,ex.1⟩,fun a e2=>?_⟩;cases e2;exact ⟨o,e,ex.2.1⟩
  ·obtain ⟨o,_,_,_,e,ex,_⟩:=I.af p _ hk;refine ⟨⟨o,e,ex.1⟩,fun a e2=>?_⟩;cases e2;exact ⟨o,e,ex.2.1⟩
 | _=>exact False.elim ty
noncomputable def ZX (K:aA) (T:String) (r:V->List V->Hp->VK->Prop) (to:TE) (t:TA):TE:=fun σ H Q=>to σ H fun x H1=>QT K T x H1/\t σ H1 fun xs H2=>r x xs H2 Q
variable {o e:Expr} {es:List Expr} {to:TE} {t:TA} {name:Str} {apos gk:Pos} {T id:String} {r:V->List V->Hp->VK->Prop}
theorem rq (pa:PlainAttrs T) (slot:Slot T name id) (hty:typeOf (.builtin id)=pure (.type "method_descriptor")) (hm:MtR X id r) (ho:PE X o to) (ha:PA X (e::es) t)
 (qM:attributeBase o name X.env (eval o X.env)=eval o X.env:=by rfl)
 (K':((backTo gk (starEach (e::es) X.env)).all (fun x=> !x.1) && (backToKw gk (keywordEach [] X.env)).all (fun x=>x.1.isSome)
  && decide ((e::es).length+([]:List Keyword).length+(if ([]:List Keyword).isEmpty then 0 else 1)<30))=true:=by rfl)
 (B6:(apos.endLine==gk.line)=true:=by rfl) (hs:starEach (e::es) X.env=(false,eval e X.env)::starEach es X.env:=by rfl) (xB:(backTo gk (starEach es X.env)).any (·.1)=false:=by rfl):
 PE X (.Call (.Attribute o name apos) (e::es) [] gk) (ZX X.K T r to t):=by
 intro pins s σ H Q I h;refine wpAny_Call_method_late qM K' B6 rfl (av (ho pins s σ H _ I h) fun v s1 zz=>?_);obtain ⟨x,H1,I1,r1,ty,q1⟩:=zz;obtain ⟨h1,h2⟩:=UE I1 r1 ty;refine ⟨T,id,pa,slot,hty,h1,h2,?_⟩;have hA:=ha gk pins s1 σ H1 _ I1 q1;rw [hs] at hA ⊢;refine Calls.callWith_builtin (by show (false || (backTo gk (starEach es X.env)).any (·.1))=false;rw [xB]<;>rfl) (Calls.evalArgs_plain ?_);exact av hA fun us s2 zz=>L2.eQ zz fun vs H2 I2 r2 q2=>hm pins s2 σ H2 x vs v us Q I2 r1 r2 q2
end
noncomputable def MtM (X:Cx) (id:String) (r:V->List V->Hp->VK->Prop):Prop:=
 ∀(pins:List (Addr×Obj)) (s:Shared) (σ:St) (H:Hp) (x:V) (xs:List V) (v:Value) (us:List Value) (Q:VK),Inv X pins σ H s->bQ x v->bp xs us->r x xs H Q->
  wpAny (model X.prog X.w) X.A (call (.builtin id) (v::us)) (EP X pins σ Q) X.xe s
theorem bp.one {x:V} {us:List Value} (h:bp [x] us):∃u,us=[u]/\bQ x u:=by
 cases h with
 | cons r t=>
  cases t;exact ⟨_,rfl,r⟩
theorem bp.rep (h:bp xs us):∀k:Nat,bp (List.replicate k xs).flatten (List.replicate k us).flatten
 | 0=>.nil
 | k+1=>by
  rw [List.replicate_succ,List.replicate_succ,List.flatten_cons,List.flatten_cons];exact bp.append h (bp.rep h k)
theorem OT (its:List Value):∀(k:Nat) (acc:List Value),
 List.foldl (fun x1 x2=>x1++x2) acc.toArray (List.replicate k its.toArray)=(acc++(List.replicate k its).flatten).toArray
 | 0,acc=>by simp
 | k+1,acc=>by
  have e:acc.toArray++its.toArray=(acc++its).toArray:=by simp
  have e2:(acc++its)++(List.replicate k its).flatten=acc++(List.replicate (k+1) its).flatten:=by
   rw [List.replicate_succ,List.flatten_cons,List.append_assoc]
  rw [<-e2,<-OT its k (acc++its),<-e,List.replicate_succ,List.foldl_cons]
section
variable {X:Cx} {pins:List (Addr×Obj)} {σ:St} {H:Hp} {s:Shared} {l b:Addr} {xs ys zs:List V}
theorem Inv.JI {its its':List Value} {n:Nat} {f:Array Value->Array Value} {t':Nat} (I:Inv X pins σ H s) (hH:H l=some (.lst xs))
 (e:s.heap.get? l=some { cls:=.type "list",data:=.seq its.toArray n }) (hf:f its.toArray=its'.toArray) (hv:bp ys its') (hz:ys.length<=sizeLine):
 Inv X pins σ (upd H l (.lst ys)) { s with heap:=s.heap.update l (Obj.mapSeq f),toks:=t' }:=by
 have q:=PySem.IsL.update e f;rw [hf] at q;refine I.write (x:=l) (e:=l) (by rw [hH];exact trivial) (.inl rfl) (fun b' u hb hu=>(Heap.get?_update_other s.heap (Obj.mapSeq f) (aF hb)).trans hu) ⟨_,q⟩ ?_;exact ⟨hz,its',_,hv,q⟩
theorem Inv.xj (I:Inv X pins σ H s) (hv:bp ys its) (hz:ys.length<=sizeLine):
 Inv X pins σ (upd H s.heap.objs.size (.lst ys)) { s with heap:=s.heap.push { cls:=.type "list",data:=.seq its.toArray },toks:=t' }:=
 I.laid (fun _ _ q=>cW _ q) (az _) ⟨hz,its,0,hv,jZ _ rfl⟩
theorem Inv.fresh (I:Inv X pins σ H s):H s.heap.objs.size=none:=I.af.fresh (az _)
theorem Inv.tZ (I:Inv X pins σ H s) (hH:H l=some (.lst xs)):xs.length<=sizeLine/\∃(its:List Value) (n:Nat),bp xs its/\xs.length=its.length/\s.heap.get? l=some { cls:=.type "list",data:=.seq its.toArray n }:=by
 obtain ⟨z,its,n,r,e⟩:=I.af l _ hH;exact ⟨z,its,n,r,r.length,e⟩
theorem Wf (h:n<=sizeLine):Builtin.List.listTooLong n=false:=by
 unfold Builtin.List.listTooLong;exact fU (by exact Nat.not_lt_of_le h)
end
section
variable {X:Cx}
noncomputable def UU:V->List V->Hp->VK->Prop:=fun x vs H Q=>∃l xs y,x=.ref l/\vs=[y]/\H l=some (.lst xs)/\xs.length<sizeLine/\Q .aS (upd H l (.lst (xs++[y])))
theorem pQ:MtM X "list.append" UU:=by
 intro pins s σ H x vs v us Q I rx rv h;obtain ⟨l,xs,y,rfl,rfl,hH,hz,q⟩:=h;cases rx;obtain ⟨u,rfl,ru⟩:=rv.one;obtain ⟨z,its,n,r,hl,e⟩:=I.tZ hH;refine call_meets qX ⟨_,e,rfl⟩ F.entry_list_append (F.args_list_append_2 _ _) (PySem.list_append l its.toArray n u (by rw [il];lia)) ⟨e,?_⟩;refine ⟨.aS,_,I.JI (its':=its++[u]) hH e (by simp) (r.append (.cons ru .nil)) ?_,rfl,q⟩;rw [ik,List.length_singleton];exact hz
noncomputable def Yz:R2:=fun x y H Q=>∃l b xs zs,x=.ref l/\y=.ref b/\H l=some (.lst xs)/\H b=some (.lst zs)/\xs.length+zs.length<=sizeLine/\∀p,H p=none->Q (.ref p) (upd H p (.lst (xs++zs)))
theorem uE:eV X (binaryOp .Add) Yz:=by
 intro pins s σ H x y v u Q I rx ry h;obtain ⟨l,b,xs,zs,rfl,rfl,hH,hB,hz,q⟩:=h;cases rx;cases ry;obtain ⟨z,its,n,r,hl,e⟩:=I.tZ hH;obtain ⟨z2,Bi,n2,r2,km,e2⟩:=I.tZ hB;refine PySem.P.add_list e e2 ?_ (by rw [il,il];lia);have ea:its.toArray++Bi.toArray=(its++Bi).toArray:=by simp
 rw [ea];exact ⟨.ref _,_,I.xj (t':=s.toks) (r.append r2) (by rw [ik];omega),rfl,q _ I.fresh⟩
noncomputable def Y1:R2:=fun x y H Q=>∃l k xs,x=.ref l/\y=.int k/\H l=some (.lst xs)/\-(2 ^ 63)<=k/\k<2 ^ 63/\xs.length*k.toNat<=sizeLine/\
 ∀p,H p=none->Q (.ref p) (upd H p (.lst (List.replicate k.toNat xs).flatten))
theorem Vh (xs:List α) (k:Nat):(List.replicate k xs).flatten.length=k*xs.length:=by
 induction k with
 | zero=>simp
 | succ k ih=>rw [List.replicate_succ,List.flatten_cons,ik,ih,Nat.succ_mul,Nat.add_comm]
theorem CQ:eV X (binaryOp .Mult) Y1:=by
 intro pins s σ H x y v u Q I rx ry h;obtain ⟨l,k,xs,rfl,rfl,hH,h1,h2,hz,q⟩:=h;cases rx;obtain ⟨t,rfl⟩:=ry;obtain ⟨z,its,n,r,hl,e⟩:=I.tZ hH;have hlen:its.toArray.size*k.toNat<=sizeLine:=by rw [il,<-hl];exact hz
 have Lf:¬its.toArray.size*k.toNat>(2 ^ 63-1) / 8:=by
  have:(sizeLine:Nat)<=(2 ^ 63-1) / 8:=by decide
  lia
 have KZ:¬(!Builtin.List.listFitsIndex k)=true:=by
  rw [fitsIndex_both h1 h2];exact fu
 have B5:¬Builtin.List.listTooLong (its.toArray.size*k.toNat)=true:=by
  rw [Wf hlen];exact fu
 have K0:List.foldl (fun x1 x2=>x1++x2) #[] (List.replicate (if its.toArray.isEmpty=true then 0 else k.toNat) its.toArray)=(List.replicate k.toNat its).flatten.toArray:=by
  have f0:∀m:Nat,List.foldl (fun x1 x2=>x1++x2) #[] (List.replicate m its.toArray)=(List.replicate m its).flatten.toArray:=fun m=>by
   have:=OT its m [];rw [List.nil_append] at this;exact this
  rw [f0]
  cases its with
  | nil=>simp
  | cons a r'=>rw [if_neg (by simp)]
 refine wpAny_binaryOp_repeat_ref (T:="list") (U:="int") (by decide) ⟨_,e,rfl⟩ (fun s'=>typeIs_int s' k t) noFill_list_mul F.fills_int_mul F.slot_int_rmul repeat_list F.slot_int_index.lookup
  (call_meets F.slot_int_rmul (typeIs_int s k t) F.entry_int_rmul (F.args_int_rmul_2 _ _) (int___rmul___int_list k t l its.toArray n)
   ⟨e,rfl,⟨_,e,rfl⟩,call_meets F.slot_list_mul ⟨_,e,rfl⟩ F.entry_list_mul (F.args_list_mul_2 _ _) (AutoListH.list___mul___list_int_3 l its.toArray n k t KZ Lf B5) ⟨e,?_⟩⟩)
 rw [K0];exact ⟨.ref _,_,I.xj (t':=s.toks) (r.rep k.toNat) (by rw [Vh,Nat.mul_comm];exact hz),rfl,q _ I.fresh⟩
end
section
variable {prog:Program} {w:World} {A:Around} {E:Value->Shared->Prop} {s:Shared}
set_option maxRecDepth 100000 in
end
section
variable {X:Cx}
end
end L2
namespace Tn
open PySem PySem.W PySem.Calls PyProof.Rows
theorem XX {P:Params}:∀(ns:List Int) (vs:List Value),WellAll P h vs (ns.map WData.int)->IntsAre vs ns:=by
 intro ns
 induction ns with
 | nil=>
  intro vs w;rw [List.map_nil] at w;cases w;exact .nil
 | cons n ns ih=>
  intro vs w;rw [eR] at w
  cases w with
  | cons a b=>
   cases a;exact .cons _ _ (ih _ b)
theorem WQ {l:OpenLaw} {n:Nat} (hn:l.most=some n) {P:Params} {h:Heap} {args:List WData} {vals:List Value}
 (uh:l.row.toRowW.claim.pre args=true) (J_:WellAll P h vals args):
 ∃a vs ns,vals=[Value.ref a]/\args=[WData.list (ns.map WData.int)]/\h.get? a=some { cls:=.type "list",data:=.seq vs.toArray }/\IntsAre vs ns/\ns.length<=n:=by
 have Ki:WShape.hasAll [] args [.list .int]=true:=(pre_splitW uh).1;have hc:l.pre.holds [] { args:=args }=true:=(pre_splitW uh).2;obtain ⟨d,r,rfl,h1,h2⟩:=hasAllW_cons Ki;obtain rfl:=hasAllW_nil h2;obtain ⟨xs,rfl,h3⟩:=hasW_list h1;obtain ⟨ns,rfl⟩:=items_int h3;have hlen:ns.length<=n:=by
  unfold OpenLaw.pre at hc;have h4:(WTm.not (.lt (.lit (.int (n:Int))) (.len (.arg 0)))).holds [] { args:=[.list (ns.map .int)] }=true:=by
   have h4:=(holds_andW hc).1;rw [hn] at h4;exact h4
  have h5:=condW_of h4 (w_not (w_lt w_lit (w_len_list (w_arg rfl))));rw [aD] at h5;refine mE fun q=>?_;have q':(n:Int)<((ns.length:Nat):Int):=by omega
  first
   | (rw [jo q'] at h5;exact absurd h5 (by decide))
   | (simp at h5;omega)
 cases J_ with
 | cons w1 w2=>
  cases w2
  cases w1 with
  | list ho bJ=>exact ⟨_,_,ns,rfl,rfl,ho,XX ns _ bJ,hlen⟩
theorem WU (l:OpenLaw) (args:List WData):l.row.toRowW.claim.post args (.bool true) args=true:=
 postW_of (r:=l.row.toRowW) (X:=(true==true))
  (show WShape.has [] (.bool true) .bool=true by first | rfl | decide | simp [WShape.has,WShape.arms,WShape.armsAll])
  (show (WTm.eq .res (.lit (.bool true))).value [] { args:=args,res:=some (.bool true),after:=args }=some (.bool (true==true)) from w_eq_bool (w_res rfl) w_lit) rfl
theorem l8 {l:OpenLaw} {n:Nat} {q:Program} {loose:List Str} {XP:(Str->Option Value)->Heap->Prop} {YP:World->Heap->Prop} {d:DefRec}
 (hn:l.most=some n) (BH:d.params.defaults=[])
 (call:∀(w:World) (bS au:Shared) (mg mb:Str->Option Value) (fa:Addr) (o:Obj) (pm cd doc:Value) (a:Addr) (vs:List Value) (ns:List Int),
  Ground q loose [] XP w bS mg mb au.heap->YP w au.heap->
  au.heap.get? fa=some o->o.data=.func (docDef d.name d.params d.body d.scope pm cd doc)->au.heap.CodeRec cd d.name->mg d.name=some (.ref fa)->
  au.heap.get? a=some { cls:=.type "list",data:=.seq vs.toArray }->IntsAre vs ns->ns.length<=n->au.gens= #[]->
  codeAny (model l.prog w) callerA (.call (.ref fa) ⟨[.ref a],[]⟩) (fun r s'=>r=.ok (.ret (.bool true))/\OldK au.heap s'.heap/\s'.os=au.os/\AllBare s'.gens) au):
 WalkO q loose XP YP l.row.toRowW d [] (fun f vs=>PySem.call f vs):=by
 intro w bS au mg mb G Y fa o pm cd doc dV kV ho hd oH hD B4 hg args vals as uh hlay hrd J_ uj;obtain rfl:dV=.none:=Dflts.none hD BH;obtain rfl:kV=.none:=Dflts.noKw hD;obtain ⟨a,vs,ns,rfl,rfl,xE,hints,hlen⟩:=WQ hn uh J_;refine enter_call (codeAny_mono (call w bS au mg mb fa o pm cd doc a vs ns G Y ho (fd_plain hd) oH B4 xE hints hlen hg) fun r s' hq=>?_);obtain ⟨rfl,h2,h3,h4⟩:=hq;exact ⟨.inl ⟨.bool true,.bool true,[],rfl,fun _=>rfl,.bool true,WU l _,fun _=>⟨List.Pairwise.nil,fun _ hm=>(nomatch hm)⟩⟩,h2,h3,h4⟩
section
variable {prog:Program} {w:World} {A:Around} {E:Value->Shared->Prop} {s:Shared} {K:Frag}
end
end Tn
namespace L2
open PySem PySem.Spec PyProof.Rows
theorem Px:∀{vs:List Value} {ns:List Int},IntsAre vs ns->bp (ns.map V.int) vs
 | _,_,.nil=>.nil
 | _,_,.cons n t h=>.cons ⟨t,rfl⟩ (Px h)
noncomputable def AG (H:Hp):Prop:=∀b,H b=none\/∃o xs,H b=some (.gG o (.lst xs))
theorem VB {P:Program} {w:World} {K:aA} {mg mb:Str->Option Value} {CX:mG} {k:Nat} {fa a:Addr} {fd:FuncData} {x:Str} {sp:Sp} {au:Shared} {vs:List Value} {ns:List Int}
 (KX:K.In au.heap) (nG:au.heap.Ns mainGlobals mg) (hb:au.heap.Ns builtinsNs mb) (z9:∀x:Str,x≠"__name__"->mb x=bootBuiltins x) (KC:au.heap.NoLimit) (hg:au.gens= #[])
 (ha:au.heap.get? a=some { cls:=.type "list",data:=.seq vs.toArray }) (hi:IntsAre vs ns) (hl:ns.length<=sizeLine) (hr:cU k callerA)
 (F:∀base:Heap,K.In base->base.Ns mainGlobals mg->aq P w K mg base CX k fa fd [x] sp) (BM:∀(s:Shared) (u:Value),BindsTo s fd ⟨[u],[]⟩ [(x,u)])
 (pk:∀H:Hp,AG H->ax K H a (ns.map V.int)->sp [.ref a] H (fun v _=>v=.bl true) fun _ _ _=>False)
 (BO:∀H e s',CX [] H au (fun _ _ _=>False) e s'->False):
 codeAny (model P w) callerA (.call (.ref fa) ⟨[.ref a],[]⟩) (fun r s'=>r=.ok (.ret (.bool true))/\OldK au.heap s'.heap/\s'.os=au.os/\AllBare s'.gens) au:=by
 have rv:=Px hi;have JJ:=hi.length;have core:∀H:Hp,AG H->ax K H a (ns.map V.int)->eE P w H au.heap->(∀b,H b≠none->b=a)->(H a≠none->K.lookup a=none)->
  codeAny (model P w) callerA (.call (.ref fa) ⟨[.ref a],[]⟩) (fun r s'=>r=.ok (.ret (.bool true))/\OldK au.heap s'.heap/\s'.os=au.os/\AllBare s'.gens) au:=by
  intro H hO hS af hA hK;have nQ:∀{b:Addr} {o:Obj},au.heap.get? b=some o->H b=none->(sv au.heap H).get? b=some o:=fun e n=>V8 e n;have Ba:∀{b:Addr} {o:Obj} {es:Array DictEntry} {ep:Nat},au.heap.get? b=some o->o.data=.dict es ep->H b=none:=fun {b o es ep} e d=>by
   cases q:H b with
   | none=>rfl
   | some u=>
    have e':b=a:=hA b (by rw [q];simp);subst e';rw [ha] at e;cases e;have d':Data.seq vs.toArray _=Data.dict es ep:=d;cases d'
  have EJ:∀{b:Addr} {m:Str->Option Value},au.heap.Ns b m->(sv au.heap H).Ns b m:=fun {b m} ⟨o,es,ep,e,d,r⟩=>⟨o,es,ep,nQ e (Ba e d),d,r⟩;have zA:K.In (sv au.heap H):=fun b o e=>nQ (KX b o e) (by
   cases q:H b with
   | none=>rfl
   | some u=>
    have e':b=a:=hA b (by rw [q];simp);subst e';rw [hK (by rw [q];simp)] at e;cases e)
  have hM:Mod K mg (sv au.heap H):=⟨zA,EJ nG,⟨mb,EJ hb,z9⟩,let ⟨mc,h1,h2⟩:=KC;⟨mc,EJ h1,h2⟩⟩;have e0:vI P w K mg (sv au.heap H) callerA [] au H:=⟨rfl,hM,fun b o e=>Vl e,Nat.le_of_eq (WM _ _),trivial,fun b hb=>absurd (show b∈([]:List Addr) from hb) (by simp),af,.of_eq hg⟩;refine codeAny_mono ((F _ zA (EJ nG)).run callerA [] au H ⟨[.ref a],[]⟩ [.ref a] [.ref a] _ _ hr e0 (BM au (.ref a)) (.cons rfl .nil) (pk H hO hS)) fun r s' h=>?_
  cases r with
  | error e=>exact (BO H e s' h).elim
  | ok fl=>
   cases fl with
   | next=>exact False.elim h
   | brk=>exact False.elim h
   | cont=>exact False.elim h
   | ret u=>
    obtain ⟨v,H',os,bare,un,jR,r',q⟩:=h;have q':v=.bl true:=q;subst q';obtain rfl:u=Value.bool true:=r';refine ⟨rfl,OldK.of_keep fun b o e=>?_,os,bare⟩
    cases q:H b with
    | none=>exact un.keep b o e q (by intro z;exact absurd (show b∈([]:List Addr) from z) (by simp)) (by simp)
    | some u=>
     rcases hO b with z | ⟨ob,xs,z⟩
     ·rw [q] at z;cases z
     ·have z2:=un.gj b ob _ z;obtain ⟨e1,_⟩:=af b _ z;obtain ⟨e2,_⟩:=jR b _ z2;rw [e] at e1;cases e1;exact e2
 cases hk:K.lookup a with
 | some o=>
  have e:=KX a o hk;rw [ha] at e;cases e;refine core (fun _=>none) (fun _=>.inl rfl) (.inr ⟨_,vs.toArray,_,hk,rfl,rfl,rfl,by rw [il,JJ];exact hl,by simpa using rv⟩) (fun b u z=>by have z':(none:Option HO)=some u:=z;cases z') (fun b z=>absurd rfl z) fun z=>absurd rfl z
 | none=>
  refine core (fun b=>if b=a then some (.gG { cls:=.type "list",data:=.seq vs.toArray } (.lst (ns.map V.int))) else none) (fun b=>?_) (.inl (.inr ⟨{ cls:=.type "list",data:=.seq vs.toArray },if_pos rfl⟩)) (fun b u z=>?_) (fun b z=>?_) fun _=>hk
  ·by_cases hb:b=a
   ·exact .inr ⟨_,_,if_pos hb⟩
   ·exact .inl (if_neg hb)
  ·by_cases hb:b=a
   ·have z':=(if_pos hb).symm.trans z;cases z';subst hb;exact ⟨ha,by rw [aD];exact hl,vs,_,rv,ha⟩
   ·have z':=(if_neg hb).symm.trans z;cases z'
  ·by_cases hb:b=a
   ·exact hb
   ·exact absurd (if_neg hb) z
noncomputable abbrev gZ {K:aA} {h:Heap} (_:K.In h):aA:=K
theorem Vu {l:PySem.W.OpenLaw} {n k:Nat} {q:Program} {loose:List Str} {XP:(Str->Option Value)->Heap->Prop} {YP:World->Heap->Prop} {d:DefRec} {K:Params->aA} {CX:World->mG} {sp:World->Sp} {x:Str}
 (hn:l.most=some n) (rR:n<=sizeLine) (BH:d.params.defaults=[]) (hr:cU k callerA)
 (hY:∀(w:World) (h:Heap),YP w h->(K w.params).In h)
 (F:∀(w:World) (mg:Str->Option Value) (fa:Addr) (h:Heap),(K w.params).In h->h.Ns mainGlobals mg->mg d.name=some (.ref fa)->
  ∃fd:FuncData,(∀(s:Shared) (u:Value),BindsTo s fd ⟨[u],[]⟩ [(x,u)])/\
   ∀base:Heap,(K w.params).In base->base.Ns mainGlobals mg->aq l.prog w (K w.params) mg base (CX w) k fa fd [x] (sp w))
 (pk:∀(w:World) (H:Hp) (a:Addr) (ns:List Int),ns.length<=n->AG H->ax (K w.params) H a (ns.map V.int)->sp w [.ref a] H (fun v _=>v=.bl true) fun _ _ _=>False)
 (BO:∀(w:World) (H:Hp) (s:Shared) (e:Value) (s':Shared),CX w [] H s (fun _ _ _=>False) e s'->False):
 PySem.W.WalkO q loose XP YP l.row.toRowW d [] (fun f vs=>PySem.call f vs):=by
 refine Tn.l8 hn BH fun w bS au mg mb fa o pm cd doc a vs ns G Y ho hd oH B4 xE hints hlen hg=>?_;have KX:=hY w _ Y;obtain ⟨fd,hb,hF⟩:=F w mg fa _ KX G.T.g B4;exact VB KX G.T.g G.T.b G.T.builtins G.T.nolimit hg xE hints (eC hlen rR) hr hF hb (fun H hO hS=>pk w H a ns hlen hO hS) fun H e s'=>BO w H au e s'
theorem Ww {l:PySem.W.OpenLaw} {n k:Nat} {q:Program} {loose:List Str} {XP:(Str->Option Value)->Heap->Prop} {YP:World->Heap->Prop} {d:DefRec} {K:Params->aA} {CX:mG} {sp:aA->Sp} {x:Str}
 (hn:l.most=some n) (rR:n<=sizeLine) (BH:d.params.defaults=[]) (hr:cU k callerA)
 (hY:∀(w:World) (h:Heap),YP w h->(K w.params).In h)
 (F:∀(w:World) (mg:Str->Option Value) (fa:Addr) (h:Heap),(K w.params).In h->h.Ns mainGlobals mg->mg d.name=some (.ref fa)->
  ∃fd:FuncData,(∀(s:Shared) (u:Value),BindsTo s fd ⟨[u],[]⟩ [(x,u)])/\
   ∀base:Heap,(K w.params).In base->base.Ns mainGlobals mg->aq l.prog w (K w.params) mg base CX k fa fd [x] (sp (K w.params)))
 (pk:∀(K:aA) (H:Hp) (a:Addr) (ns:List Int),ns.length<=n->AG H->ax K H a (ns.map V.int)->sp K [.ref a] H (fun v _=>v=.bl true) fun _ _ _=>False)
 (BO:∀(H:Hp) (s:Shared) (e:Value) (s':Shared),CX [] H s (fun _ _ _=>False) e s'->False):
 PySem.W.WalkO q loose XP YP l.row.toRowW d [] (fun f vs=>PySem.call f vs):=
 Vu (K:=K) (CX:=fun _=>CX) (sp:=fun w=>sp (K w.params)) hn rR BH hr hY F (fun w H a ns h1 h2 h3=>pk (K w.params) H a ns h1 h2 h3) fun _ H s e s'=>BO H s e s'
noncomputable def lY (s:Stmt) (j:Nat):Stmt:=match s with
 | .ClassDef _ _ _ body _ _ _ _ _ _ _=>body.getD j (.Pass ⟨0,0,0,0⟩)
 | _=>.Pass ⟨0,0,0,0⟩
noncomputable def rD (s:Stmt):Arguments:=match s with
 | .FunctionDef _ a _ _ _ _ _ _ _ _=>a
 | _=>{ posonlyargs:=[],args:=[],vararg:=none,kwonlyargs:=[],kw_defaults:=[],kwarg:=none,defaults:=[] }
noncomputable def mX (s:Stmt):List Stmt:=match s with
 | .FunctionDef _ _ b _ _ _ _ _ _ _=>b
 | _=>[]
noncomputable def aX (s:Stmt):Scope:=match s with
 | .FunctionDef _ _ _ _ _ _ sc _ _ _=>sc
 | _=>{ kind:=.function,names:=[],isGenerator:=false,isCoroutine:=false }
noncomputable abbrev a9:mG:=fun _ _ _ _ _ _=>False
noncomputable abbrev E0:XK:=fun _ _ _=>False
theorem gu:pK a9 X E0:=fun _ _ _ _ _ _ _ h=>h.elim
structure gI (K:aA) (x qual:Str) (st:Stmt) (f:Addr) (fd:FuncData):Prop where
 ex:∃(oc:Value) (od:Option Addr) (kV doc pm:Value) (an:Option Addr) (cY ct:Value) (ou:Array (Option Value)),
  fd=PySem.W.fnOf x qual (rD st) (mX st) (aX st) .none kV doc pm an cY ct/\K.lookup f=some ⟨oc,od,.func fd,ou⟩/\PySem.W.codeIn K cY qual=true
 kp:PySem.W.keepIn K (.ref f)=true
section
theorem gI.ok {x qual:Str} {st:Stmt} {f:Addr} {fd:FuncData} {N ps:List Str} {k:Nat} {sp:Sp} (F:gI K x qual st f fd) (S:cE N ps (aX st)) (len:∀vs H Q E,sp vs H Q E->vs.length=ps.length)
 (gE:∀(cY:Value) (A:Around) (outer:List Env) (s:Shared) (H:Hp) (vs:List V) (Q:VK) (E:XK),cU k (A.deeper (envOfC qual (aX st) s.heap.objs.size f cY))->sp vs H Q E->
  ∃t,gp (mI a9 P w K mg base N qual (aX st) f cY A outer s H E).zc (mX st) t/\t { nx:=fun _ H'=>Q .aS H',rt:=Q } (jb N vs) H):aq P w K mg base a9 (k+1) f fd ps sp:=by
 obtain ⟨oc,od,kV,doc,pm,an,cY,ct,ou,rfl,lk,oH⟩:=F.ex;refine QL lk oH S len fun A outer s H vs Q E hr pk=>?_;obtain ⟨t,h,q⟩:=gE cY A outer s H vs Q E hr pk;exact ⟨t,h.zc,q⟩
theorem gI.de {x qual:Str} {st:Stmt} {f:Addr} {fd:FuncData} {N ps:List Str} {k:Nat} {sp:Sp} (F:gI K x qual st f fd) (S:cE N ps (aX st)) (gE:∀(cY:Value) (A:Around) (outer:List Env) (s:Shared) (H:Hp) (vs:List V) (Q:VK) (E:XK),cU k (A.deeper (envOfC qual (aX st) s.heap.objs.size f cY))->sp vs H Q E->
  ∃t,gp (mI a9 P w K mg base N qual (aX st) f cY A outer s H E).zc (mX st) t/\t { nx:=fun _ H'=>Q .aS H',rt:=Q } (jb N vs) H) (len:∀vs H Q E,sp vs H Q E->vs.length=ps.length:=by intro _ _ _ _ h;repeat (first|(obtain ⟨rfl,_⟩:=h;rfl)|obtain ⟨_,h⟩:=h)):aq P w K mg base a9 (k+1) f fd ps sp:=F.ok S len gE
theorem gI.binds {x qual:Str} {st:Stmt} {f:Addr} {fd:FuncData} {ps:List Str} (F:gI K x qual st f fd)
 (h:∀(kV doc pm:Value) (an:Option Addr) (cY ct:Value) (us:List Value),us.length=ps.length->bindArgs (PySem.W.fnOf x qual (rD st) (mX st) (aX st) .none kV doc pm an cY ct) ⟨us,[]⟩=pure (ps.zip us)):eW K fd ps []:=by
 obtain ⟨oc,od,kV,doc,pm,an,cY,ct,ou,rfl,lk,oH⟩:=F.ex;exact .all (h kV doc pm an cY ct)
theorem GY {x qual:Str} {st:Stmt} {f:Addr} {oc:Value} {od an:Option Addr} {ou:Array (Option Value)} {kV doc pm cY ct:Value} (l:K.lookup f=some ⟨oc,od,.func (PySem.W.fnOf x qual (rD st) (mX st) (aX st) .none kV doc pm an cY ct),ou⟩)
 (c:PySem.W.codeIn K cY qual=true) (k:PySem.W.keepIn K (.ref f)=true):gI K x qual st f (PySem.W.fnOf x qual (rD st) (mX st) (aX st) .none kV doc pm an cY ct):=⟨⟨oc,od,kV,doc,pm,an,cY,ct,ou,rfl,l,c⟩,k⟩
end
theorem lV (hr:cU k A):A.units+1<cLine:=Nat.lt_of_le_of_lt (Nat.add_le_add_left (by decide:1<=64) _) hr.units
theorem gL (h:n<=1000):n<sizeLine:=Nat.lt_of_le_of_lt h (by decide)
section
variable {X:Cx}
theorem pv (i:Nat) (hN:X.N[i]?=some x:=by rfl) (hv:F9 X.env.scope x:=by first | exact Or.inl rfl | exact Or.inr (Or.inl rfl) | exact Or.inr (Or.inr rfl)) (hd:(x==("__debug__":Str))=false:=by decide)
 (oH:(x==("__classdict__":Str))=false:=by decide):PE X (.Name x pos) (rf i):=Tp hN hv hd oH
end
theorem iq {A B:Prop} (h:B):if false=true then A else B:=by
 rw [if_neg fu];exact h
theorem mJ {A B:Prop} (h:A):if true=true then A else B:=by
 rw [if_pos rfl];exact h
theorem hV {c A B:Prop} [Decidable c] (h1:c->A) (h2:¬c->B):if c then A else B:=by
 by_cases h:c
 ·rw [if_pos h];exact h1 h
 ·rw [if_neg h];exact h2 h
theorem u9 {c A B:Prop} [Decidable c] (hc:c) (h:B):if (!decide c)=true then A else B:=by
 rw [jo hc];exact iq h
noncomputable def aH (H H':Hp):Prop:=∀b o,H b=some o->H' b=some o
theorem aH.refl (H:Hp):aH H H:=fun _ _ h=>h
theorem aH.trans (a:aH H H1) (b:aH H1 H2):aH H H2:=fun c o h=>b c o (a c o h)
theorem aH.free (e:aH H H') (h:H' l=Option.none):H l=Option.none:=by
 cases q:H l with
 | none=>rfl
 | some o=>
  rw [e l o q] at h;cases h
section
variable {prog:Program} {w:World} {A:Around} {R:Result->Shared->Prop} {s:Shared}
theorem WC (I:Nat->Shared->Prop)
 (turn:∀n s,I n s->wpAny (model prog w) A (pyNext it) (fun r au=>match r with
  | none=>R (.ok .next) au
  | some v=>wpAny (model prog w) A (letOwnedTupleGo target it v) (fun _ uX=>wpAny (model prog w) A (assign target env v) (fun _ gc=>
   wpAny (model prog w) A (forIn ifs true fun c r=>if r=true then do let ok <-isTrue c env (eval c env);pure (ForInStep.yield ok) else pure (ForInStep.yield r)) (fun ok jn=>
    if ok=true then wpAny (model prog w) A (eval elt env) (fun x tf=>
     wpAny (model prog w) A (call (.builtin "list.append") [acc,x]) (fun _ AN=>∃m,m<n/\I m AN) (fun _ _=>False) tf) (fun _ _=>False) jn
    else ∃m,m<n/\I m jn) (fun _ _=>False) gc) (fun _ _=>False) uX) (fun _ _=>False) au) (fun _ _=>False) s)
 (n:Nat) (h:I n s):codeAny (model prog w) A (.compLoop (.ListComp elt [⟨target,iter,ifs,0⟩] scope pos) 0 it acc env) R s:=by
 refine codeAny_loop rfl I (fun n s hI=>?_) n h;show wpAny _ A ((compTurn (.ListComp elt [⟨target,iter,ifs,0⟩] scope pos) 0 it acc env).onRaise (fun x=>do noteFrame x env;theTreesLotGoes x)) _ _ s;refine wpAny_noted ?_;rw [compTurn_list];refine ag (wpAny_standAt (ag (wpAny_mono (turn n s hI) (fun r au bU=>?_) fun _ _ h'=>h'.elim)))
 cases r with
 | none=>exact aU bU
 | some v=>
  refine ag (wpAny_mono bU (fun _ uX Bj=>?_) fun _ _ h'=>h'.elim);refine ag (wpAny_mono Bj (fun _ gc jO=>ag (wpAny_mono jO (fun ok jn ub=>?_) fun _ _ h'=>h'.elim)) fun _ _ h'=>h'.elim)
  cases ok with
  | false=>exact aU ⟨rfl,ub⟩
  | true=>
   exact ag (ag (wpAny_mono ub (fun x tf JW=>ag (wpAny_mono JW (fun _ AN JV=>aU (aU ⟨rfl,JV⟩)) fun _ _ h'=>h'.elim)) fun _ _ h'=>h'.elim))
end
theorem WZ {env:Env} {f:(Str×NameKind)->List (Str×Addr)->Sem (ForInStep (List (Str×Addr)))}
 (h1:∀n k cs,k≠NameKind.free->f (n,k) cs=pure (.yield cs)) (h2:∀n a cs,env.cells.lookup n=some a->f (n,.free) cs=pure (.yield ((n,a)::cs))):
 ∀(names:List (Str×NameKind)) (acc:List (Str×Addr)),(∀x∈names,x.2=.free->∃c,env.cells.lookup x.1=some c)->(∀x c,acc.lookup x=some c->env.cells.lookup x=some c)->
  ∃cl,forIn names acc f=pure cl/\(∀x c,cl.lookup x=some c->env.cells.lookup x=some c/\((∃c',acc.lookup x=some c')\/(x,NameKind.free)∈names))/\
   ∀x,((∃c,acc.lookup x=some c)\/(x,NameKind.free)∈names)->∃c,cl.lookup x=some c:=by
 intro names
 induction names with
 | nil=>exact fun acc _ ha=>⟨acc,rfl,fun x c e=>⟨ha x c e,.inl ⟨c,e⟩⟩,fun x hx=>hx.elim (fun z=>z) fun z=>nomatch z⟩
 | cons y r ih=>
  intro acc hn ha;obtain ⟨n,k⟩:=y;have hr:∀x∈r,x.2=.free->∃c,env.cells.lookup x.1=some c:=fun x hx=>hn x (gz _ hx)
  by_cases hk:k=.free
  ·subst hk;obtain ⟨a,e⟩:=hn (n,.free) eD rfl;have e:env.cells.lookup n=some a:=e;have uo:∀x c,((n,a)::acc).lookup x=some c->env.cells.lookup x=some c:=fun x c q=>by
    rw [gm] at q
    cases hx:x==n with
    | true=>rw [hx] at q;cases q;rw [beq_iff_eq.mp hx];exact e
    | false=>rw [hx] at q;exact ha x c q
   obtain ⟨cl,e1,e2,e3⟩:=ih ((n,a)::acc) hr uo;refine ⟨cl,?_,fun x c q=>?_,fun x hx=>?_⟩
   ·rw [List.forIn_cons,h2 n a acc e,pure_bind];exact e1
   ·obtain ⟨q1,q2⟩:=e2 x c q;refine ⟨q1,?_⟩;rcases q2 with ⟨c',q2⟩ | q2
    ·rw [gm] at q2
     cases hx:x==n with
     | true=>rw [beq_iff_eq.mp hx];exact .inr eD
     | false=>rw [hx] at q2;exact .inl ⟨c',q2⟩
    ·exact .inr (gz _ q2)
   ·refine e3 x ?_;rcases hx with ⟨c,hx⟩ | hx
    ·refine .inl ?_;rw [gm]
     cases x==n with
     | true=>exact ⟨a,rfl⟩
     | false=>exact ⟨c,hx⟩
    ·rcases eS.mp hx with z | z
     ·cases z;exact .inl ⟨a,by rw [gm,pC]⟩
     ·exact .inr z
  ·obtain ⟨cl,e1,e2,e3⟩:=ih acc hr ha;refine ⟨cl,?_,fun x c q=>?_,fun x hx=>?_⟩
   ·rw [List.forIn_cons,h1 n k acc hk,pure_bind];exact e1
   ·obtain ⟨q1,q2⟩:=e2 x c q;exact ⟨q1,q2.elim .inl fun z=>.inr (gz _ z)⟩
   ·refine e3 x ?_;rcases hx with hx | hx
    ·exact .inl hx
    ·rcases eS.mp hx with z | z
     ·cases z;exact absurd rfl hk
     ·exact .inr z
theorem P' {scope:Scope} {env:Env} (h:∀x∈scope.names,x.2=.free->∃c,env.cells.lookup x.1=some c):
 ∃cl,closureFor scope env=pure cl/\(∀x c,cl.lookup x=some c->env.cells.lookup x=some c/\(x,NameKind.free)∈scope.names)/\∀x,(x,NameKind.free)∈scope.names->∃c,cl.lookup x=some c:=by
 obtain ⟨cl,e1,e2,e3⟩:=WZ (env:=env) (f:=fun x cs=>if (x.2==NameKind.free)=true then do let a <-cellOf env x.1;pure (ForInStep.yield ((x.1,a)::cs)) else pure (ForInStep.yield cs))
  (fun n k cs hk=>by
   have:(k==NameKind.free)=false:=by simpa using hk
   simp only [this,Bool.false_eq_true,if_false])
  (fun n a cs e=>by
   simp only [pC,if_true,cellOf,e,pure_bind])
  scope.names [] h (fun x c q=>nomatch q)
 refine ⟨cl,?_,fun x c q=>?_,fun x hx=>e3 x (.inr hx)⟩
 ·unfold closureFor
  first
   | (rw [show (forIn scope.names ([]:List (Str×Addr)) _:Sem (List (Str×Addr)))=pure cl from e1];rfl)
   | (simp only [e1,pure_bind];done)
   | exact (congrArg (fun z=>z>>=fun cs=>pure cs) e1).trans (pure_bind _ _)
 ·obtain ⟨q1,q2⟩:=e2 x c q;exact ⟨q1,q2.elim (fun ⟨_,z⟩=>nomatch z) fun z=>z⟩
theorem Qr {env:Env}:∀{names:List (Str×NameKind)} {x:Str},names.lookup x=some .free->
 (names.map fun (n,k)=>if (k==NameKind.free && env.scope.kind==.function && env.kindOf n==some .cell) then (n,NameKind.cell) else (n,k)).lookup x=some .cell\/
 (names.map fun (n,k)=>if (k==NameKind.free && env.scope.kind==.function && env.kindOf n==some .cell) then (n,NameKind.cell) else (n,k)).lookup x=some .free
 | [],_,h=>by simp at h
 | (n,k)::r,x,h=>by
  have ih:= @Qr env r x;show List.lookup x ((if (k==NameKind.free && env.scope.kind==.function && env.kindOf n==some .cell)=true then (n,NameKind.cell) else (n,k))::_)=_\/
   List.lookup x ((if (k==NameKind.free && env.scope.kind==.function && env.kindOf n==some .cell)=true then (n,NameKind.cell) else (n,k))::_)=_
  cases hx:x==n with
  | true=>
   simp only [gm,hx] at h;cases h
   by_cases hc:(NameKind.free==NameKind.free && env.scope.kind==.function && env.kindOf n==some .cell)=true
   ·rw [if_pos hc];exact .inl (by simp [gm,hx])
   ·rw [if_neg hc];exact .inr (by simp [gm,hx])
  | false=>
   simp only [gm,hx] at h
   by_cases hc:(k==NameKind.free && env.scope.kind==.function && env.kindOf n==some .cell)=true
   ·rw [if_pos hc];simp only [gm,hx];exact ih h
   ·rw [if_neg hc];simp only [gm,hx];exact ih h
noncomputable def gT (X:Cx) (scope:Scope) (cl:List (Str×Addr)) (N:List Str) (ex:List Addr) (s:Shared) (H:Hp):Cx where
 prog:=X.prog
 w:=X.w
 K:=X.K
 mg:=X.mg
 base:=X.base
 A:=X.A
 N:=N
 bS:=s
 gq:=H
 env:=compEnvC scope cl s.heap.objs.size X.env
 outer:=X.stack
 stack:=X.stack
 ex:=ex
 fn:=fun x=>scope.names.lookup x==some .local
 calm:=X.calm
 pn:=[]
 xe:=fun _ _=>False
noncomputable def rB (js:List (Option Nat)) (σ:St):St:=js.map fun j=>match j with
 | none=>none
 | some j=>(σ[j]?).join
structure iO (sc:Scope) (NX:List Str) (scope:Scope) (N:List Str) (js:List (Option Nat)):Prop where
 kind:scope.kind=.function
 cell:∀x∈scope.names,x.2≠.cell
 loc:∀x∈scope.names,x.2=.local->scope.names.lookup x.1=some .local
 free:∀x∈scope.names,x.2=.free->scope.names.lookup x.1=some .free/\(sc.names.lookup x.1=some .cell\/sc.names.lookup x.1=some .free)
 len:js.length=N.length
 at_:∀p∈js.zip N,p.1=none\/∃j∈List.range NX.length,p.1=some j/\NX[j]?=some p.2/\(p.2,NameKind.free)∈scope.names
theorem lQ {sc:Scope} {NX:List Str} {scope:Scope} {N:List Str} {js:List (Option Nat)} (h1:scope.kind=.function:=by rfl) (h2:∀x∈scope.names,x.2≠.cell:=by decide+kernel) (h3:∀x∈scope.names,x.2=.local->scope.names.lookup x.1=some .local:=by decide+kernel) (h4:∀x∈scope.names,x.2=.free->scope.names.lookup x.1=some .free/\(sc.names.lookup x.1=some .cell\/sc.names.lookup x.1=some .free):=by decide+kernel) (h5:js.length=N.length:=by rfl) (h6:∀p∈js.zip N,p.1=none\/∃j∈List.range NX.length,p.1=some j/\NX[j]?=some p.2/\(p.2,NameKind.free)∈scope.names:=by decide+kernel):iO sc NX scope N js:=⟨h1,h2,h3,h4,h5,h6⟩
section
variable {X:Cx} {pins:List (Addr×Obj)} {σ:St} {H:Hp} {s:Shared} {scope:Scope} {N:List Str} {js:List (Option Nat)} {cl:List (Str×Addr)} {ex:List Addr}
theorem V9 (I:Inv X pins σ H s) (C:iO X.env.scope X.N scope N js) (c2:∀x c,cl.lookup x=some c->X.env.cells.lookup x=some c/\(x,NameKind.free)∈scope.names)
 (c3:∀x,(x,NameKind.free)∈scope.names->∃c,cl.lookup x=some c) (hex:∀b∈ex,rj X pins H b/\b<s.heap.objs.size)
 (nG:h1.Ns s.heap.objs.size fun _=>none) (hk:∀b o,s.heap.get? b=some o->h1.get? b=some o):Inv (gT X scope cl N ex s H) [] (rB js σ) H { s with heap:=h1,toks:=tk }:=by
 have fr:∀x,(x,NameKind.free)∈scope.names->(relabel scope X.env).names.lookup x=some .cell\/(relabel scope X.env).names.lookup x=some .free:=fun x hx=>Qr (C.free _ hx rfl).1;refine ⟨⟨I.ok.mod,C.kind,I.ok.glob,I.ok.blt,az _,fun x y c e1 e2=>I.ok.inj x y c (c2 x c e1).1 (c2 y c e2).1,fun x hx=>?_,fun x c hf e=>?_,I.ok.hd,I.ok.frames,.inl rfl,fun b hb=>⟨gY (hex b hb).2,fun x c e=>(hex b hb).1.2.2.2.2.1 x c (c2 x c e).1⟩,I.bs,eC I.ok.oO I.sz,fun b o e hb=>?_,fun b hb hf=>?_,I.stack,I.jH⟩,
  rfl,I.bare,Un.kept hk,⟨fun _=>none,nG,fun i x v e1 e2 e3=>?_⟩,fun x c e=>?_,I.af.fresh (az _),fun x c e=>I.cD x c (c2 x c e).1,fun p hp=>absurd (show p∈([]:List (Addr×Obj)) from hp) (by simp),I.af.kept hk,?_⟩
 ·
  have hx:(relabel scope X.env).names.lookup x=some .cell\/(relabel scope X.env).names.lookup x=some .free:=hx;have hm:(x,NameKind.free)∈scope.names:=by
   have key:∀k,(relabel scope X.env).names.lookup x=some k->k=.cell\/k=.free->(x,NameKind.free)∈scope.names:=fun k hl hk=>by
    have m:=zI hl;obtain ⟨⟨n,k'⟩,hm,e⟩:=eB.mp m;dsimp only at e
    by_cases hc:(k'==NameKind.free && X.env.scope.kind==.function && X.env.kindOf n==some .cell)=true
    ·rw [if_pos hc] at e;cases e;have:k'=.free:=by
      simp only [Bool.and_eq_true,beq_iff_eq] at hc;exact hc.1.1
     subst this;exact hm
    ·rw [if_neg hc] at e;cases e;rcases hk with z | z
     ·exact absurd z (C.cell _ hm)
     ·subst z;exact hm
   rcases hx with z | z
   ·exact key _ z (.inl rfl)
   ·exact key _ z (.inr rfl)
  exact c3 x hm
 ·have hf:(scope.names.lookup x==some .local)=true:=hf;have e':=(C.free _ (c2 x c e).2 rfl).1;rw [e'] at hf;exact absurd hf (by decide)
 ·obtain ⟨⟨_,_,_,hz,_⟩,_⟩:=hex b hb;rcases hz with z | z
  ·exact I.ok.jM b o e z
  ·exact absurd (i_ (i_ (dt e) I.ok.oO) z) (j9 _)
 ·obtain ⟨⟨_,hL,BC,_⟩,_⟩:=hex b hb;rcases eS.mp (I.jG b hf) with z | z
  ·exact hL z
  ·exact BC z
 ·
  unfold rB at e2;rw [fv] at e2
  cases ej:js[i]? with
  | none=>rw [ej] at e2;cases e2
  | some oj=>
   rw [ej] at e2
   cases oj with
   | none=>cases e2
   | some j=>
    have nP:(σ[j]?).join=some v:=eT e2;have LH:σ[j]?=some (some v):=by
     cases q:σ[j]? with
     | none=>rw [q] at nP;cases nP
     | some z=>rw [q] at nP;exact congrArg some nP
    have e1:N[i]?=some x:=e1;have hz:(some j,x)∈js.zip N:=oP.mpr ⟨i,by rw [List.getElem?_zip_eq_some];exact ⟨ej,e1⟩⟩;obtain ⟨a1,a2⟩:X.N[j]?=some x/\(x,NameKind.free)∈scope.names:=by
     rcases C.at_ _ hz with q | ⟨j',_,q,a1,a2⟩
     ·cases q
     ·cases q;exact ⟨a1,a2⟩
    have a1:X.N[j]?=some x:=a1;have a2:(x,NameKind.free)∈scope.names:=a2;obtain ⟨_,b2⟩:=C.free _ a2 rfl;have b2:X.env.scope.names.lookup x=some .cell\/X.env.scope.names.lookup x=some .free:=b2;obtain ⟨m,_,hl⟩:=I.loc;obtain ⟨u,r,l⟩:=hl j x v a1 LH (.inr b2);refine ⟨u,r,?_⟩;rcases l with ⟨k,_⟩ | ⟨_,c,hc,z⟩
    ·have k:X.env.scope.names.lookup x=some .local:=k;rcases b2 with b2 | b2<;>(rw [b2] at k;cases k)
    ·obtain ⟨c',jf⟩:=c3 x a2;have:=(c2 x c' jf).1;rw [hc] at this;cases this;obtain ⟨o,ho,hd⟩:=z;exact .inr ⟨fr x a2,c,jf,⟨o,hk _ _ ho,hd⟩⟩
 ·obtain ⟨v,o,ho,hd⟩:=I.cell x c (c2 x c e).1;exact ⟨v,o,hk _ _ ho,hd⟩
 ·show (rB js σ).length=N.length;unfold rB;rw [aD];exact C.len
end
noncomputable def yj (X:Cx) (ifs:List Expr) (t:TT):Prop:=
 ∀(pins:List (Addr×Obj)) (s:Shared) (σ:St) (H:Hp) (Q:Bool->Hp->Prop),Inv X pins σ H s->t σ H Q->
  wpAny (model X.prog X.w) X.A (forIn ifs true fun c r=>if r=true then do let ok <-isTrue c X.env (eval c X.env);pure (ForInStep.yield ok) else pure (ForInStep.yield r)) (TP X pins σ Q) X.xe s
noncomputable def YI:TT:=fun _ H Q=>Q true H
theorem pT:yj X [] YI:=fun _ _ _ H _ I h=>wpAny_tests_nil ⟨H,I,h⟩
theorem Ao (h:PT X c t):yj X [c] t:=fun pins s σ H Q I hw=>wpAny_tests_one (h pins s σ H Q I hw)
noncomputable def yE (js:List (Option Nat)) (g:TG) (tc:TT) (te:TE) (σ:St) (Q:VK) (J:It) (H1:Hp) (D:Addr):Prop:=∃W:Nat->Nat->St->Hp->Prop,(∃m,W 0 m (rB js σ) (upd H1 D (.lst [])))/\
 ∀i m aa H',W i m aa H'->(J.stop i H'/\Q (.ref D) H')\/(J.go i H'/\∃N:St->Hp->Prop,(∀i9 H2,N i9 H2->∃m',m'<m/\W (i+1) m' i9 H2)/\
  ∀x H2,J.wA i H' x H2->g x aa H2 fun ee H3=>tc ee H3 fun ok H4=>if ok=true then te ee H4 fun y H5=>∃ys,H5 D=some (.lst ys)/\ys.length<sizeLine/\N ee (upd H5 D (.lst (ys++[y]))) else N ee H4)
noncomputable def CC (js:List (Option Nat)) (wi:TI) (g:TG) (tc:TT) (te:TE):TE:=fun σ H Q=>wi σ H fun J H1=>∀D,H1 D=none->yE js g tc te σ Q J H1 D
noncomputable def lP (l:List (Str×NameKind)):Scope:={ kind:=.function,names:=l,isGenerator:=false,isCoroutine:=false,more:=[] }
section
variable {X:Cx} {tg iter elt:Expr} {ifs:List Expr} {scope:Scope} {pos:Pos} {N:List Str} {js:List (Option Nat)} {wi:TI} {g:TG} {tc:TT} {te:TE}
theorem NT {cl:List (Str×Addr)} {pins:List (Addr×Obj)} {σ:St} {H:Hp} {s:Shared} {E:Value->Shared->Prop} {Q:VK} {RR:Value->Addr->Result->Shared->Prop} (hc:mP X) (C:iO X.env.scope X.N scope N js)
 (c2:∀x c,cl.lookup x=some c->X.env.cells.lookup x=some c/\(x,NameKind.free)∈scope.names) (c3:∀x,(x,NameKind.free)∈scope.names->∃c,cl.lookup x=some c)
 (hb:∀cl ex s H,mP (gT X scope cl N ex s H)->PG (gT X scope cl N ex s H) tg g/\yj (gT X scope cl N ex s H) ifs tc/\PE (gT X scope cl N ex s H) elt te)
 {it:Addr} {fp:List Addr} {tn:Nat->Heap->Prop} {J:It} (I:Inv X pins σ H s) (T:vO X.prog X.w X.K tg J fp it tn) (st:tn 0 s.heap) (f2:∀b∈fp,rj X pins H b)
 (q:∀D,H D=none->yE js g tc te σ Q J H D)
 (hRR:∀D C' H' s',Q (.ref D) H'->(∃m,s'.heap.Ns C' m)->H' C'=none->X.bS.heap.objs.size<=C'->C'≠X.env.locals->(∀x c,X.env.cells.lookup x=some c->c≠C')->(∀p∈X.pn++pins,p.1≠C')->Inv X pins σ H' s'->RR (.ref D) C' (.ok .next) s'):
 wpAny (model X.prog X.w) X.A (newList []) (fun acc jn=>wpAny (model X.prog X.w) X.A (newFunctionEnv scope X.env.globals cl [] X.env.qual none .none (some X.env)) (fun B' tf=>
  codeAny (model X.prog X.w) X.A (.compStart (.ListComp elt [⟨tg,iter,ifs,0⟩] scope pos) 0 (.ref it) acc { B' with scope:=relabel scope X.env }) (RR acc B'.locals) tf) E jn) E s:=by
 have hD:H s.heap.objs.size=none:=I.fresh;have I3:Inv X pins σ (upd H s.heap.objs.size (.lst [])) { s with heap:=s.heap.push { cls:=.type "list",data:=.seq ([]:List Value).toArray } }:=I.xj (its:=[]) (ys:=[]) (t':=s.toks) .nil (d9 _);refine wpAny_newObj_type (wpAny_newFunctionEnv C.cell (by intro y hy;simp at hy) (fun bU mv mr=>?_) C.kind);dsimp only at mv mr ⊢;generalize k_:({ s with heap:=s.heap.push { cls:=.type "list",data:=.seq ([]:List Value).toArray } }:Shared)=s3 at I3;have KR:s.heap.push { cls:=.type "list",dict:=none,data:=.seq ([]:List Value).toArray }=s3.heap:=by rw [<-k_]
 rw [KR] at mv mr ⊢;have kp:∀b o,s3.heap.get? b=some o->bU.get? b=some o:=fun b o e=>mr.extBut b o (gY (dt e)) (cW _ e);have bg:∀b∈fp,b<s.heap.objs.size:=fun b hb=>by
  obtain ⟨o,e,_⟩:=T.obj 0 s.heap st b hb;exact dt e
 have QY:s3.heap.objs.size=s.heap.objs.size+1:=by rw [<-KR,Heap.size_push]
 have f3:∀b∈fp,rj X pins (upd H s.heap.objs.size (.lst [])) b:=fun b hb=>by
  obtain ⟨h1,h2⟩:=f2 b hb;exact ⟨by rw [ao (gY (bg b hb))];exact h1,h2⟩
 have IY:∀tk,Inv (gT X scope cl N fp s3 (upd H s.heap.objs.size (.lst []))) [] (rB js σ) (upd H s.heap.objs.size (.lst [])) { s3 with heap:=bU,toks:=tk }:=fun tk=>
  V9 I3 C c2 c3 (fun b hb=>⟨f3 b hb,by rw [QY];exact Nat.lt_succ_of_lt (bg b hb)⟩) mv kp
 have gv:tn 0 bU:=T.keep 0 s.heap bU st fun b _ o e=>kp b o (by rw [<-KR];exact cW _ e);obtain ⟨W,⟨m0,w0⟩,turn⟩:=q s.heap.objs.size hD;have Lg:mP (gT X scope cl N fp s3 (upd H s.heap.objs.size (.lst []))):=hc.in_ I3 rfl rfl fun _ _ _ z=>z;have hbY:=hb cl fp s3 (upd H s.heap.objs.size (.lst [])) Lg;obtain ⟨hg,hif,he⟩:=hbY;have ma:∀{H':Hp},(∀b∈fp,H' b=none)->∀b∈fp,rj (gT X scope cl N fp s3 (upd H s.heap.objs.size (.lst []))) [] H' b:=fun hn b hb=>by
  obtain ⟨_,hL,BC,_,mz,_⟩:=f2 b hb;refine ⟨hn b hb,gY (by show b<s3.heap.objs.size;rw [QY];exact Nat.lt_succ_of_lt (bg b hb)),fun z=>?_,.inl hb,fun x c e=>mz x c (c2 x c e).1,fun p hp=>absurd (show p∈([]:List (Addr×Obj)) from hp) (by simp)⟩;rcases eS.mp (I.jG b z) with z | z
  ·exact hL z
  ·exact BC z
 have loop:∀s4:Shared,s4={ s3 with heap:=bU,toks:=s.toks+([]:List (Str×Value)).length }->
  codeAny (model X.prog X.w) X.A (.compLoop (.ListComp elt [⟨tg,iter,ifs,0⟩] scope pos) 0 (.ref it) (.ref s.heap.objs.size) (compEnvC scope cl s3.heap.objs.size X.env)) (RR (.ref s.heap.objs.size) s3.heap.objs.size) s4:=by
  rintro s4 rfl;refine WC (fun n s'=>∃i aa H',Inv (gT X scope cl N fp s3 (upd H s.heap.objs.size (.lst []))) [] aa H' s'/\tn i s'.heap/\(∀b∈fp,H' b=none)/\W i n aa H') ?_ m0
   ⟨0,_,_,IY _,gv,fun b hb=>(f3 b hb).1,w0⟩
  rintro n s5 ⟨i,Cu,H5,I5,kR,Fx,w5⟩;rcases turn i n Cu H5 w5 with ⟨stop,qn⟩ | ⟨go,Nx,hN,step⟩
  ·refine av (T.done (gT X scope cl N fp s3 (upd H s.heap.objs.size (.lst []))) rfl rfl rfl Lg i [] s5 Cu H5 _ I5 (ma Fx) kR stop) fun r s6 ⟨hr,I6⟩=>?_;subst hr;obtain ⟨m,hn,_⟩:=I6.loc;refine hRR _ _ H5 s6 qn ⟨m,hn⟩ I6.free (eC I3.sz (az _)) (Nat.ne_of_gt I3.lt) (fun x c e z=>?_) (fun p hp z=>?_) (I3.qU I6.os I6.base I6.af I6.bare fun b hb=>?_)
   ·obtain ⟨v,o,ho,_⟩:=I3.cell x c e;exact absurd (dt ho) (by rw [z];exact j9 _)
   ·exact absurd (dt (I3.pin p hp).1) (by rw [z];exact j9 _)
   ·obtain ⟨_,hL,_,hx,mz,hp⟩:=f2 b hb;exact ⟨hx,hL,mz,hp⟩
  ·refine av (T.item (gT X scope cl N fp s3 (upd H s.heap.objs.size (.lst []))) rfl rfl rfl Lg i [] s5 Cu H5 _ I5 (ma Fx) kR go) fun r s6 zz=>L2.SI zz fun u hr h6=>?_;subst hr;refine av h6 fun _ s7 zz=>?_;obtain ⟨x,H7,I7,r7,y7,IP,fr7⟩:=zz;have I7':=I7.pinned (ma fr7) (T.obj _ _ IP);refine av (hg _ s7 Cu H7 x u _ I7' r7 (step x H7 y7)) fun _ s8 zz=>?_;obtain ⟨Ct,H8,I8,q8⟩:=zz;refine av (hif _ s8 Ct H8 _ I8 q8) fun ok s9 zz=>?_;obtain ⟨H9,I9,q9⟩:=zz;have again:∀{s':Shared} {aa:St} {H':Hp},Inv (gT X scope cl N fp s3 (upd H s.heap.objs.size (.lst []))) ([]++Ag fp s7.heap) aa H' s'->Nx aa H'->
    ∃m,m<n/\∃i zP LY,Inv (gT X scope cl N fp s3 (upd H s.heap.objs.size (.lst []))) [] zP LY s'/\tn i s'.heap/\(∀b∈fp,LY b=none)/\W i m zP LY:=fun {s' aa H'} I' n'=>by
    obtain ⟨m',hm,w'⟩:=hN aa H' n';refine ⟨m',hm,i+1,aa,H',I'.g9,T.keep _ _ _ IP fun b hb o e=>(I'.pin (b,o) (kE _ (kE _ (DE hb e)))).1,fun b hb=>?_,w'⟩;obtain ⟨o,e,_⟩:=T.obj _ _ IP b hb;exact (I'.pin (b,o) (kE _ (kE _ (DE hb e)))).2.1
   cases ok with
   | false=>exact again I9 q9
   | true=>
    refine av (he _ s9 Ct H9 _ I9 q9) fun yv oq zz=>?_;obtain ⟨y,sj,I10,I_,ys,hDD,K7,n10⟩:=zz;refine av (pQ _ oq Ct sj (.ref s.heap.objs.size) [y] (.ref s.heap.objs.size) [yv] (fun _ H'=>Nx Ct H') I10 rfl (.cons I_ .nil) ⟨_,ys,y,rfl,rfl,hDD,K7,n10⟩) fun _ wL zz=>?_;obtain ⟨_,LX,I11,_,n11⟩:=zz;exact again I11 n11
 have e4:({ s with heap:=bU,toks:=s.toks+([]:List (Str×Value)).length }:Shared)={ s3 with heap:=bU,toks:=s.toks+([]:List (Str×Value)).length }:=by rw [<-k_]
 exact codeAny_compStart_list (loop _ e4) (T.self _ 0 _ _ _ gv (loop _ e4))
theorem Wj (hc:mP X) (hi:PI X tg iter wi) (C:iO X.env.scope X.N scope N js)
 (hb:∀cl ex s H,mP (gT X scope cl N ex s H)->PG (gT X scope cl N ex s H) tg g/\yj (gT X scope cl N ex s H) ifs tc/\PE (gT X scope cl N ex s H) elt te)
 (hs:∀x,foldedSetIterable iter X.env x=pure x:=by intro _;rfl):PE X (.ListComp elt [⟨tg,iter,ifs,0⟩] scope pos) (CC js wi g tc te):=by
 intro pins s σ H Q I h;obtain ⟨cl,mz,c2,c3⟩:=P' (scope:=scope) (env:=X.env) fun x hx hf=>I.ok.has x.1 (C.free x hx hf).2;rw [eval_ListComp];refine wpAny_comprehension_free (use:=none) rfl hs mz C.kind C.loc (av (hi pins s σ H _ I h) fun xv au bU=>av bU fun EO gc jO=>?_);obtain ⟨it,fp,tn,J,H2,rfl,I2,T,aT,f2,q⟩:=jO;refine NT (RR:=fun acc C'=>compPost (model X.prog X.w) X.A X.xe none (EP X pins σ Q) acc C') hc C c2 c3 hb I2 T aT f2 q ?_;intro D C' H' s' hq nG oG hsz hL um xD I';obtain ⟨m,hn⟩:=nG;refine ⟨m,hn,fun h' sb=>⟨.ref D,H',?_,rfl,hq⟩⟩;exact I'.turned (t':=s'.toks) (fun b o hb e=>(sb.2 b hb).trans e) oG (aF (aF hL)) (.inr hsz) um xD
theorem oY (hc:X.calm=true) (hi:PI X tg iter wi) (C:iO X.env.scope X.N scope N js)
 (hb:∀cl ex s H,PG (gT X scope cl N ex s H) tg g/\yj (gT X scope cl N ex s H) ifs tc/\PE (gT X scope cl N ex s H) elt te)
 (hs:∀x,foldedSetIterable iter X.env x=pure x:=by intro _;rfl):PE X (.ListComp elt [⟨tg,iter,ifs,0⟩] scope pos) (CC js wi g tc te):=Wj (.inl hc) hi C (fun cl ex s H _=>hb cl ex s H) hs
theorem VL (hN:X.N.Nodup) (ko:X.N[i]?=some y) (hy:X.env.scope.names.lookup y=some .local) (hc:mP X) (hi:PI X tg iter wi) (C:iO X.env.scope X.N scope N js)
 (hb:∀cl ex s H,mP (gT X scope cl N ex s H)->PG (gT X scope cl N ex s H) tg g/\yj (gT X scope cl N ex s H) ifs tc/\PE (gT X scope cl N ex s H) elt te)
 (Kg:swapsWith (.ListComp elt [⟨tg,iter,ifs,0⟩] scope pos) (some (.Name y py)) wH.line X.env=pure true:=by rfl)
 (hs:∀x,foldedSetIterable iter X.env x=pure x:=by intro _;rfl):PS X (.Assign [.Name y py] (.ListComp elt [⟨tg,iter,ifs,0⟩] scope pos) wH) (zS (CC js wi g tc te) (u7 i)):=by
 intro pins s σ H D I h;obtain ⟨cl,mz,c2,c3⟩:=P' (scope:=scope) (env:=X.env) fun x hx hf=>I.ok.has x.1 (C.free x hx hf).2;rw [exec_Assign_Name_used _ _ _ _ Kg];refine ag (wpAny_standAt (ag ?_));show wpAny _ X.A (do let _ <-comprehension (.ListComp elt [⟨tg,iter,ifs,0⟩] scope pos) scope X.env _ (newList []) false (eval iter X.env) (some (assign (.Name y py) X.env))) _ _ s;refine ag (wpAny_mono (wpAny_comprehension_free (use:=some (assign (.Name y py) X.env)) (Q:=fun _ s'=>SP X pins D .next s') rfl hs mz C.kind C.loc (av (hi pins s σ H _ I h) fun xv au bU=>av bU fun EO gc jO=>?_))
  (fun _ s' hq=>aU (aU hq)) fun _ _ e=>e)
 obtain ⟨it,fp,tn,J,H2,rfl,I2,T,aT,f2,q⟩:=jO;refine NT (Q:=fun x H1=>u7 i x σ H1 D.nx) (RR:=fun acc C'=>compPost (model X.prog X.w) X.A X.xe (some (assign (.Name y py) X.env)) (fun _ s'=>SP X pins D .next s') acc C') hc C c2 c3 hb I2 T aT f2 q ?_;intro Da C' H' s' hq nG oG hsz hL um xD I';obtain ⟨m,hn⟩:=nG;show wpAny _ X.A (assign (.Name y py) X.env (.ref Da)) _ _ _;refine wpAny_assign_Name (Pm I' hN ko (.inl hy) (v:=.ref Da) rfl (fun s2 I2 hx=>?_) (.inr hy));obtain ⟨a,sba,ha⟩:=hx;have df:C'≠a:=by
  rcases ha with z | z
  ·rw [z];exact hL
  ·exact fun e=>um y a z e.symm
 refine ⟨m,hn.sameBut sba df,fun h' sb=>⟨_,H',?_,hq⟩⟩;exact I2.turned (t':=s2.toks) (fun b o hb e=>(sb.2 b hb).trans e) oG hL (.inr hsz) um xD
theorem CZ (hN:X.N.Nodup) (ko:X.N[i]?=some y) (hy:X.env.scope.names.lookup y=some .local) (hc:X.calm=true) (hi:PI X tg iter wi) (C:iO X.env.scope X.N scope N js)
 (hb:∀cl ex s H,PG (gT X scope cl N ex s H) tg g/\yj (gT X scope cl N ex s H) ifs tc/\PE (gT X scope cl N ex s H) elt te)
 (Kg:swapsWith (.ListComp elt [⟨tg,iter,ifs,0⟩] scope pos) (some (.Name y py)) wH.line X.env=pure true:=by rfl)
 (hs:∀x,foldedSetIterable iter X.env x=pure x:=by intro _;rfl):PS X (.Assign [.Name y py] (.ListComp elt [⟨tg,iter,ifs,0⟩] scope pos) wH) (zS (CC js wi g tc te) (u7 i)):=VL hN ko hy (.inl hc) hi C (fun cl ex s H _=>hb cl ex s H) Kg hs
end
section
variable {g:TG} {tc:TT} {te:TE} {js:List (Option Nat)} {σ:St} {H:Hp} {Q:VK} {D:Addr}
theorem AD {lo:Int} {n:Nat} (Pv:Nat->St->Hp->Prop) (h0:Pv 0 (rB js σ) (upd H D (.lst [])))
 (hs:∀i aa H',i<n->Pv i aa H'->g (.int (lo+i)) aa H' fun ee H3=>tc ee H3 fun ok H4=>if ok=true then te ee H4 fun y H5=>∃ys,H5 D=some (.lst ys)/\ys.length<sizeLine/\Pv (i+1) ee (upd H5 D (.lst (ys++[y]))) else Pv (i+1) ee H4)
 (hd:∀aa H',Pv n aa H'->Q (.ref D) H'):
 yE js g tc te σ Q (vG lo n) H D:=by
 refine ⟨fun i m σ H=>m=n-i/\i<=n/\Pv i σ H,⟨n,by simp,d9 _,h0⟩,?_⟩;rintro i m aa H' ⟨rfl,hi,p⟩
 by_cases bg:i<n
 ·refine .inr ⟨bg,Pv (i+1),fun i9 H2 p'=>⟨n-(i+1),by omega,rfl,bg,p'⟩,fun x H2 y=>?_⟩;obtain ⟨e,y⟩:=y;subst e y;exact hs i aa _ bg p
 ·have e:i=n:=by lia
  subst e;exact .inl ⟨az _,hd aa H' p⟩
theorem uO {K:aA} {a:Addr} {xs:List V} (Pv:Nat->St->Hp->Prop) (h0:Pv 0 (rB js σ) (upd H D (.lst []))) (hl:∀i aa H',i<=xs.length->Pv i aa H'->ax K H' a xs)
 (hs:∀i x aa H',xs[i]?=some x->Pv i aa H'->g x aa H' fun ee H3=>tc ee H3 fun ok H4=>if ok=true then te ee H4 fun y H5=>∃ys,H5 D=some (.lst ys)/\ys.length<sizeLine/\Pv (i+1) ee (upd H5 D (.lst (ys++[y]))) else Pv (i+1) ee H4)
 (hd:∀aa H',Pv xs.length aa H'->Q (.ref D) H'):
 yE js g tc te σ Q (zL K a) H D:=by
 refine ⟨fun i m σ H=>m=xs.length-i/\i<=xs.length/\Pv i σ H,⟨xs.length,by simp,d9 _,h0⟩,?_⟩;rintro i m aa H' ⟨rfl,hi,p⟩;have q:=hl i aa H' hi p
 by_cases bg:i<xs.length
 ·refine .inr ⟨⟨xs,xs[i],q,by simp [bg]⟩,Pv (i+1),fun i9 H2 p'=>⟨xs.length-(i+1),by omega,rfl,bg,p'⟩,fun x H2 y=>?_⟩;obtain ⟨e,y⟩:=y;subst e;exact hs i x aa _ (y xs q) p
 ·have e:i=xs.length:=by lia
  subst e;exact .inl ⟨⟨xs,q,az _⟩,hd aa H' p⟩
end
end L2
set_option maxHeartbeats 4000000
namespace L2
open PySem PySem.Spec PyProof.Rows
noncomputable abbrev rY:List Value:=[.type "ValueError",.type "Exception",.type "BaseException",.type "object"]
noncomputable def jr (a C:Addr) (dx:Option Addr):HO:=.ext fun h=>∃t:Addr,h.get? a=some (f7 C dx (.ref t) .none)
noncomputable def uz (d:Addr) (fs:List (Str×V)):HO:=.ext fun h=>∃mA,h.Ns1 d mA/\(∀f,jA (fs.lookup f) (mA f))/\PySem.Within mA (fs.map (·.1))
section
variable {P:Program} {w:World} {H:Hp} {h:Heap} {a d C:Addr} {dx:Option Addr} {t:Addr} {fs:List (Str×V)}
theorem Hv (e:h.get? a=some (f7 C dx (.ref t) .none)):ef P w H h a (jr a C dx):=⟨⟨t,e⟩,⟨_,e⟩,fun _ _ ⟨t',e'⟩ k=>⟨t',k _ e'⟩⟩
theorem Hu (ok:eE P w H h) (e:H a=some (jr a C dx)):∃t:Addr,h.get? a=some (f7 C dx (.ref t) .none):=(ok a _ e).1
theorem TZ (n:h.Ns1 d mA) (r:∀f,jA (fs.lookup f) (mA f)) (wi:PySem.Within mA (fs.map (·.1))):ef P w H h d (uz d fs):=by
 refine ⟨⟨mA,n,r,wi⟩,?_,fun h1 h2 ⟨m,n1,r1,w1⟩ k=>⟨m,n1.at k,r1,w1⟩⟩;obtain ⟨o,_,_,e,_⟩:=n;exact ⟨o,e⟩
theorem UG (e:H a=some o):upd H a o=H:=by
 funext b
 by_cases hb:b=a
 ·rw [hb,ai,e]
 ·rw [ao hb]
end
theorem Inv.kN (I:Inv X pins σ H s) (kp:∀b u,b≠a->s.heap.get? b=some u->h'.get? b=some u) (hf:H a=none)
 (hs:X.bS.heap.objs.size<=a) (hL:a≠X.env.locals) (hc:∀x c,X.env.cells.lookup x=some c->c≠a) (hp:∀p∈X.pn++pins,p.1≠a) (new:ef X.prog X.w (upd H a o) h' a o):Inv X pins σ (upd H a o) { s with heap:=h',toks:=t' }:=by
 have na:∀b u,H b=some u->b≠a:=fun b u e=>aQ e hf;refine I.step (g':=s.gens) (d':=s.drawn) (ch:=[a]) (fun b hb=>?_) (fun b u _ _ hb e _=>kp b u (fun z=>hb (by simp [z])) e) (fun b u _ _ hb e _=>⟨u.slots,kp b u (fun z=>hb (by simp [z])) e⟩) (fun b u hb _ n=>by rw [ao fun z=>hb (by simp [z])];exact n)
  (fun b u hb e=>⟨u,kp b u (fun z=>hb (by simp [z])) e⟩) (fun b xs e=>by rw [ao (na b _ e)];exact e) (fun b u xs e=>by rw [ao (na b _ e)];exact e) (fun b ps e=>⟨#[],by rw [ao (na b _ e),e];simp⟩) (fun m hm=>?_) (fun b u e=>?_) I.bare
 ·have e:b=a:=by simpa using hb
  subst e;exact ⟨.inr hs,hL,hc,hp⟩
 ·obtain ⟨ob,es,ep,ho,r⟩:=hm;exact ⟨ob,es,ep,kp _ ob (aF hL) ho,r⟩
 ·by_cases hb:b=a
  ·subst hb;rw [ai] at e;cases e;exact new
  ·rw [ao hb] at e;refine (I.af b u e).fq (fun c v jf q=>kp c v ?_ q) (fun c q=>by rw [ao (na c _ q)];exact q) fun c xs q=>by rw [ao (na c _ q)];exact q
   rcases jf with z | z
   ·rw [z];exact hb
   ·exact na c _ z
structure rh (K:aA) (C M fI:Addr):Prop where
 obj:∃(nm q:Str) (N:Addr) (bs:List Value) (sn:List Str) (sub:List Value) (ab:Bool) (col:Option Bool) (dd:Option Addr) (k0 k1 k2 k3 k5:Option Value),
  K.lookup C=some (excClassObj nm q C N bs (.ref M::rY) true sn sub ab col dd k0 k1 k2 k3 k5 "ValueError.__new__")/\PySem.W.nsOkIn K N=true/\PySem.W.nsIn K N "__init__"=some (some (.ref fI))
 tail:PySem.W.tailIn K rY (.ref M::rY)=true
 fn:PySem.W.isFn K (.ref fI)=true
 kp:PySem.W.keepIn K (.ref C)=true
 sa:PySem.W.findIn K (.ref C) "__setattr__"=some (some (.builtin "object.__setattr__"))
theorem Xh {K:aA} {h:Heap} {N:Addr} {m:Str->Option Value} {n:Str} {v:Value} (X:K.In h) (G:h.Ns N m) (e:PySem.W.nsIn K N n=some (some v)):m n=some v:=by
 obtain ⟨o,es,ep,ho,hd,_,hf⟩:=G;unfold PySem.W.nsIn at e;split at e
 ·rename_i c d BX n' sl q
  have z:=X _ _ q;rw [ho] at z;cases z;cases hd;split at e
  ·rename_i en he
   cases e;rw [<-hf];unfold nsFind findBy;rw [<-Array.find?_toList,he];rfl
  ·split at e<;>cases e
 ·cases e
section
variable {prog:Program} {w:World} {A:Around} {E:Value->Shared->Prop} {h:Heap} {g:Array GenState} {d:Drawn} {t:Nat} {os:OsState}
variable {nm q:Str} {C N:Addr} {bs bm:List Value} {qK:Bool} {sn:List Str} {sub:List Value} {ab:Bool} {col:Option Bool} {dd:Option Addr} {k0 k1 k2 k3 k5:Option Value}
theorem XS (T:OwnTail h rY bm)
 (hC:h.get? C=some (excClassObj nm q C N bs bm qK sn sub ab col dd k0 k1 k2 k3 k5 "ValueError.__new__")) (hn:h.Ns N mN) (hi:mN "__init__"=some (.ref fI)) (BF:h.get? fI=some oI) (BD:oI.cls=.type "function")
 (hq:wpAny (model prog w) A (call (.ref fI) (.ref (h.objs.size+1)::args)) (fun r s'=>r=.none/\Q (.done (.ret (.ref (h.objs.size+1)))) s') E
  ⟨(h.push { cls:=.type "tuple",data:=.seq args.toArray }).push (f7 C none (.ref h.objs.size) .none),g,d,t,os⟩) (hz:args.length<=sizeLine):
 wpAny (model prog w) A (Builtin.«type.__call__» ⟨.ref C::args,[]⟩) Q E ⟨h,g,d,t,os⟩:=by
 have F:=PySem.F.excBase_ValueError
 repeat (first | with_reducible refine wpAny_loadPart_at hC ?_ | with_reducible refine wpAny_madeBy_exc hC ?_ | wp_step)
 refine codeAny_call_builtin_code (Code.quiet_builtin _ F.quiet) (wpAny_check_new_subT F T hC ?_);refine codeAny_exc_new_subT F T hC ?_ hz;show wpAny _ _ _ _ _ _;have kp:∀b o,h.get? b=some o->((h.push { cls:=.type "tuple",data:=.seq args.toArray }).push (f7 C none (.ref h.objs.size) .none)).get? b=some o:=
  fun b o e=>cW _ (cW _ e)
 have Sx:=kp _ _ hC;have K_:=kp _ _ BF;have xG:((h.push { cls:=.type "tuple",data:=.seq args.toArray }).push (f7 C none (.ref h.objs.size) .none)).Ns N mN:=hn.keeps kp;have eO:((h.push { cls:=.type "tuple",data:=.seq args.toArray }).push (f7 C none (.ref h.objs.size) .none)).get? (h.objs.size+1)=some (f7 C none (.ref h.objs.size) .none):=by heap_get
 have hcC:(Value.ref C::bm).contains (.ref C)=true:=by simp
 have T1:=T.keeps kp;unfold isInstance
 repeat (first | with_reducible refine wpAny_loadPart_at eO ?_ | (with_reducible refine wpAny_isSubtype_exc Sx ?_;rw [hcC]) | wp_step)
 show wpAny _ _ (typeLookup (.ref C) _) _ _ _;refine wpAny_typeLookup_tail Sx xG T1 F.mroIs F.init.lookup ?_;rw [hi];refine wpAny_holding (ag ?_);unfold bindSpecial;refine ag (wpAny_typeOf (T:="function") ⟨_,K_,BD⟩ ?_);rw [if_pos (by decide)];refine aU (ag (wpAny_mono hq (fun r s' hr=>?_) fun _ _ x=>x));obtain ⟨rfl,hQ⟩:=hr
 wp_walk
 exact hQ
theorem V2 (T:OwnTail h rY bm)
 (hC:h.get? C=some (excClassObj nm q C N bs bm qK sn sub ab col dd k0 k1 k2 k3 k5 "ValueError.__new__")) (hn:h.Ns N mN) (hi:mN "__init__"=some (.ref fI)) (BF:h.get? fI=some oI) (BD:oI.cls=.type "function")
 (hq:wpAny (model prog w) (A.under (.builtin "type.__call__" ⟨.ref C::args,[]⟩)) (call (.ref fI) (.ref (h.objs.size+1)::args)) (fun r s'=>r=.none/\Q (.ref (h.objs.size+1)) s') E
  ⟨(h.push { cls:=.type "tuple",data:=.seq args.toArray }).push (f7 C none (.ref h.objs.size) .none),g,d,t,os⟩) (hz:args.length<=sizeLine):
 wpAny (model prog w) A (call (.ref C) args) Q E ⟨h,g,d,t,os⟩:=by
 have f1:=tc_lookup;have f2:=tc_bind (.ref C);have hT:(⟨h,g,d,t,os⟩:Shared).TypeIs (.ref C) "type":=⟨_,hC,rfl⟩;refine wpAny_call (codeAny_of_tree ?_);show wpAny _ _ (callAny (.ref C) _) _ _ _
 repeat (any_goals (first | assumption | with_reducible refine wpAny_loadPart_at hC ?_ | wp_step))
 refine ⟨rfl,?_⟩;refine codeAny_call_builtin_at (Code.quiet_builtin _ (by decide+kernel)) entry_typeCall (wpAny_check_type_call_sub hC (XS T hC hn hi BF BD ?_ hz));exact hq
end
noncomputable def T5 (C:Addr) (sp:Sp) (E:XK) (t:TA):TE:=fun σ H Q=>t σ H fun vs H1=>vs.length<=sizeLine/\∀x,H1 x=none->sp (.ref x::vs) (upd H1 x (jr x C none)) (fun v H2=>v=.aS/\Q (.ref x) H2) E
section
variable {X:Cx} {CX:mG} {k:Nat} {f C Mo:Addr} {fd:FuncData} {ps:List Str} {sp:Sp} {E:XK} {x:Str} {p pos:Pos} {e:Expr} {es:List Expr} {t:TA}
theorem WO {pins:List (Addr×Obj)} {σ:St} {H:Hp} {s:Shared} {Q:VK} {us:List Value} {vs:List V} (M:rh X.K C Mo f) (F:aq X.prog X.w X.K X.mg X.base CX k f fd ps sp) (hr:cU (k+1) X.A) (hb:eW X.K fd ps [])
 (hx:pK CX X E) (I:Inv X pins σ H s) (r:bp vs us) (hz:vs.length<=sizeLine)
 (hq:∀x,H x=none->sp (.ref x::vs) (upd H x (jr x C none)) (fun v H2=>v=.aS/\Q (.ref x) H2) E):wpAny (model X.prog X.w) X.A (call (.ref C) us) (EP X pins σ Q) X.xe s:=by
 obtain ⟨nm,q,N,bs,sn,sub,ab,col,dd,k0,k1,k2,k3,k5,lk,nok,ini⟩:=M.obj;have hK:=I.gN;have hC:=hK _ _ lk;have T:=PySem.W.tail_of_in hK M.tail;have nG:s.heap.Ns N (s.heap.nsMap N):=.of_isNs (PySem.W.isNs_of_in hK nok);have gx:=Xh hK nG ini;have hlf:∃oI,s.heap.get? f=some oI/\oI.cls=.type "function":=by
  have ty:PySem.W.typeIn X.K (.ref f)=some (.type "function"):=beq_iff_eq.mp M.fn;unfold PySem.W.typeIn at ty
  cases hl:X.K.lookup f with
  | none=>simp [hl] at ty
  | some o=>exact ⟨o,hK _ _ hl,by simpa [hl] using ty⟩
 obtain ⟨oI,BF,BD⟩:=hlf;have h1:=hq (s.heap.objs.size+1) (I.af.fresh (nS _));have kp:∀b o,s.heap.get? b=some o->((s.heap.push { cls:=.type "tuple",data:=.seq us.toArray }).push (f7 C none (.ref s.heap.objs.size) .none)).get? b=some o:=
  fun b o e=>cW _ (cW _ e)
 have eO:((s.heap.push { cls:=.type "tuple",data:=.seq us.toArray }).push (f7 C none (.ref s.heap.objs.size) .none)).get? (s.heap.objs.size+1)=some (f7 C none (.ref s.heap.objs.size) .none):=by
  have z:=jZ (s.heap.push { cls:=.type "tuple",data:=.seq us.toArray }) (o:=f7 C none (.ref s.heap.objs.size) .none) rfl
  rwa [Heap.size_push] at z
 have I2:Inv X pins σ (upd H (s.heap.objs.size+1) (jr (s.heap.objs.size+1) C none)) { s with heap:=(s.heap.push { cls:=.type "tuple",data:=.seq us.toArray }).push (f7 C none (.ref s.heap.objs.size) .none) }:=
  I.laid (t':=s.toks) kp (nS _) (Hv eO)
 have r2:bp (V.ref (s.heap.objs.size+1)::vs) (Value.ref (s.heap.objs.size+1)::us):=.cons rfl r;have hl:(Value.ref (s.heap.objs.size+1)::us).length=ps.length:=by rw [<-r2.length];exact F.len _ _ _ _ h1
 have nK:=hb { s with heap:=(s.heap.push { cls:=.type "tuple",data:=.seq us.toArray }).push (f7 C none (.ref s.heap.objs.size) .none) } (Value.ref (s.heap.objs.size+1)::us) I2.gN (by simpa using hl);rw [List.append_nil] at nK;obtain ⟨hh,gg,qS,tt,oo⟩:=s;refine V2 T hC nG gx BF BD ?_ (by rw [<-r.length];exact hz);refine wpAny_call (codeAny_mono (F.run _ X.stack _ _ ⟨Value.ref (hh.objs.size+1)::us,[]⟩ (Value.ref (hh.objs.size+1)::us) _ _ E (hr.make C us []) (I2.x_.make C us []) nK r2 h1) fun r s' iV=>?_)
 cases r with
 | error e=>exact hx pins σ _ _ e s' I2 iV
 | ok fl=>
  cases fl with
  | ret u=>
   obtain ⟨v,H',I3,rv,ev,q3⟩:=I2.after iV;subst ev;exact ⟨rv,⟨V.ref (hh.objs.size+1),H',I3,rfl,q3⟩⟩
  | next=>exact False.elim iV
  | brk=>exact False.elim iV
  | cont=>exact False.elim iV
theorem VG (M:rh X.K C Mo f) (F:aq X.prog X.w X.K X.mg X.base CX k f fd ps sp) (hr:cU (k+1) X.A) (hg:Gl X x) (hm:X.mg x=some (.ref C)) (hb:eW X.K fd ps []) (hx:pK CX X E)
 (ha:PA X (e::es) t) (my:(x==("__debug__":Str))=false:=by decide) (he:starEach (e::es) X.env=(false,eval e X.env)::starEach es X.env:=by rfl) (fe:(backTo pos (starEach es X.env)).any (·.1)=false:=by rfl):
 PE X (.Call (.Name x p) (e::es) [] pos) (T5 C sp E t):=by
 intro pins s σ H Q I h;refine wpAny_Call_Name_kw (yF I hg hm ?_ my);refine PySem.W.callWith_K (h₀:=X.base) I.ok.mod.zd M.kp (av (ha pos pins s σ H _ I h) fun us s1 zz=>?_) he fe;obtain ⟨vs,H1,I1,r,z,q⟩:=zz;refine ⟨I1.gN,?_⟩;exact WO M F hr hb hx I1 r z q
end
theorem Wm (I:Inv X pins σ H s) (M:rh X.K C Mo f)
 (hH:H x=some (jr x C dx)) (hz:us.length<=sizeLine) (hq:∀s',Inv X pins σ H s'->Q .none s'):wpAny (model X.prog X.w) A (call (.builtin "ValueError.__init__") (.ref x::us)) Q E s:=by
 obtain ⟨nm,q,N,bs,sn,sub,ab,col,dd,k0,k1,k2,k3,k5,lk,_⟩:=M.obj;have hK:=I.gN;have hC:=hK _ _ lk;have T:=PySem.W.tail_of_in hK M.tail;have F:=PySem.F.excBase_ValueError;obtain ⟨t,eO⟩:=Hu I.af hH;have fin:∀(v:Addr) (tk:Nat),Inv X pins σ H { s with heap:=(s.heap.push { cls:=.type "tuple",data:=.seq us.toArray }).update x (Obj.mapFields (·.setIfInBounds 0 (.ref v))),toks:=tk }:=fun v tk=>by
  have e1:(s.heap.push { cls:=.type "tuple",data:=.seq us.toArray }).get? x=some (f7 C dx (.ref t) .none):=cW _ eO;have e2:((s.heap.push { cls:=.type "tuple",data:=.seq us.toArray }).update x (Obj.mapFields (·.setIfInBounds 0 (.ref v)))).get? x=some (f7 C dx (.ref v) .none):=Heap.get?_update_self _ e1 rfl;have z:=I.write (x:=x) (e:=x) (o:=jr x C dx) (h':=(s.heap.push { cls:=.type "tuple",data:=.seq us.toArray }).update x (Obj.mapFields (·.setIfInBounds 0 (.ref v)))) (t':=tk) (by rw [hH];exact True.intro) (.inl rfl)
   (fun b u hb e=>(Heap.get?_update_other _ _ (aF hb)).trans (cW _ e)) ⟨_,e2⟩ (Hv e2)
  rwa [UG hH] at z
 obtain ⟨hh,gg,qS,tt,oo⟩:=s;refine wpAny_call (codeAny_call_builtin F.init.plain F.initEntry (wpAny_check_init_subT F T hC eO rfl ?_))
 wp_walk
 exact hq _ (fin _ _)
open PySem PySem.Spec PyProof.Rows Builtin Builtin.ObjectAttr
structure QG (K:aA) (Mo:Addr):Prop where
 ty:PySem.W.typeIn K (.ref Mo)=some (.type "type")
 ga:PySem.W.specialIn K (.ref Mo) "__getattribute__"=some (some (.builtin "type.__getattribute__"))
 gt:PySem.W.findIn K (.type "type") "__getattribute__"=some (some (.builtin "type.__getattribute__"))
 op:PySem.W.nsIn K cStatics "thirdparty.any"=some none
 fc:PySem.W.findCls K (.ref Mo) (.type "type") "__init__"=some (.val (.builtin "ValueError.__init__"))
 si:PySem.W.subIn K (.type "type") (.type "type")=some true
noncomputable def ZD (K:aA) (t:TA):TE:=fun σ H Q=>t σ H fun vs H1=>∃x rest C Mo f dx,vs=.ref x::rest/\H1 x=some (jr x C dx)/\rh K C Mo f/\rest.length<=sizeLine/\Q .aS H1
theorem UM (B:QG X.K Mo) (hg:Gl X x) (hm:X.mg x=some (.ref Mo)) (ha:PA X (e::es) t) (my:(x==("__debug__":Str))=false:=by decide)
 (qE:starEach (e::es) X.env=(false,eval e X.env)::starEach es X.env:=by rfl) (fe:(backTo pos (starEach es X.env)).any (·.1)=false:=by rfl)
 (ht:eval (.Call (.Attribute (.Name x p) "__init__" apos) (e::es) [] pos) X.env=(do
  let ov <-eval (.Name x p) X.env
  standAt apos.atName
  let (f,first) <-holding [ov] (getMethod ov "__init__" pl)
  callWith pos f first (backTo pos (starEach (e::es) X.env)) (backToKw pos (keywordEach [] X.env))):=by rfl):
 PE X (.Call (.Attribute (.Name x p) "__init__" apos) (e::es) [] pos) (ZD X.K t):=by
 intro pins s σ H Q I h;refine PySem.W.methodCall_KW (pl:=pl) (yF I hg hm ?_ my) ht;unfold getMethod;refine ag ((PySem.W.looks_specialIn I.gN B.ga).here ?_);dsimp only;rw [if_pos (by decide+kernel)];refine ag (PySem.W.cls_open I.gN (PySem.W.looks_opaque I.gN B.op) (PySem.W.looks_typeIn I.gN B.ty) B.gt (PySem.W.looks_hook I.gN rfl) B.si B.fc ?_);refine aU ?_;show wpAny _ _ (handedOut (.builtin "ValueError.__init__")) _ _ _;rw [PySem.W.handedOut_of (by decide+kernel)];refine aU (aU ?_);refine PyProof.Rows.callWith_builtin1 (av (ha pos pins _ σ H _ (I.tok _) h) fun us s1 zz=>?_) qE fe;obtain ⟨vs,H1,I1,r1,y,rest,C,Mo',f,dx,e1,hH,M,hz,q⟩:=zz;subst e1
 cases r1 with
 | cons ra rb=>
  cases ra;exact Wm I1 M hH (by rw [<-rb.length];exact hz) fun s2 I2=>⟨.aS,H1,I2,rfl,q⟩
theorem X3 {X:Cx} {A:Around} {E:Value->Shared->Prop} {C Mo f0 x:Addr} {dx:Option Addr} {pins:List (Addr×Obj)} {σ:St} {H:Hp} {s:Shared} {Q:Unit->Shared->Prop} {nm:Str} {y:V} {u:Value} (I:Inv X pins σ H s) (M:rh X.K C Mo f0)
 (na:PySem.W.findIn X.K (.ref C) nm=some none) (hH:H x=some (jr x C none)) (ru:bQ y u)
 (hq:∀d s',H d=none->d≠x->Inv X pins σ (upd (upd H x (jr x C (some d))) d (uz d [(nm,y)])) s'->Q () s'):wpAny (model X.prog X.w) A (setAttr (.ref x) nm u) Q E s:=by
 obtain ⟨cnm,q,N,bs,sn,sub,ab,col,dd,k0,k1,k2,k3,k5,lk,_⟩:=M.obj;have hK:=I.gN;have hC:=hK _ _ lk;have SF:=PySem.F.store_object;obtain ⟨t,eO⟩:=Hu I.af hH;have LT:PySem.W.Looks (model X.prog X.w) s.heap (typeOf (.ref x)) (.ref C):=(PySem.W.Looks.ld eO).andThen .now;have mz:PySem.W.clsIn X.K C=some { name:=cnm,bases:=bs,mro:=.ref C::.ref Mo::rY,ns:=N,qualname:=q,hasDict:=true,slotNames:=sn,subclasses:=sub,abstract:=ab,collection:=col,hasDel:=false }:=by
  unfold PySem.W.clsIn;rw [lk]
 have LM:PySem.W.Looks (model X.prog X.w) s.heap (mroOf (.ref C)) (.ref C::.ref Mo::rY):=(PySem.W.looks_clsIn hK mz).andThen .now;have IM:PySem.W.Looks (model X.prog X.w) s.heap (isInstance (.ref x) (.type "object")) true:=LT.andThen (PySem.W.looks_mroIn hK (by unfold PySem.W.mroIn;rw [mz];rfl));have JY:x≠s.heap.objs.size:=gY (dt eO);have fin:∀(h':Heap) (tk:Nat),h'.Ns1 s.heap.objs.size (fun z=>if z=nm then some u else none)->
  Heap.SameBut s.heap.objs.size ((s.heap.push { cls:=.type "dict",data:=.dict #[] }).update x fun o=>{ cls:=o.cls,dict:=some s.heap.objs.size,data:=o.data,slots:=o.slots }) h'->Q () { s with heap:=h',toks:=tk }:=fun h' tk n1 sb=>by
  refine hq s.heap.objs.size _ I.fresh (aF JY) ?_;have e1:(s.heap.push { cls:=.type "dict",data:=.dict #[] }).get? x=some (f7 C none (.ref t) .none):=cW _ eO;have e2:((s.heap.push { cls:=.type "dict",data:=.dict #[] }).update x fun o=>{ cls:=o.cls,dict:=some s.heap.objs.size,data:=o.data,slots:=o.slots }).get? x=some (f7 C (some s.heap.objs.size) (.ref t) .none):=Heap.get?_update_self _ e1 rfl;have I1:=I.write (x:=x) (e:=x) (o:=jr x C (some s.heap.objs.size)) (h':=(s.heap.push { cls:=.type "dict",data:=.dict #[] }).update x fun o=>{ cls:=o.cls,dict:=some s.heap.objs.size,data:=o.data,slots:=o.slots }) (t':=s.toks)
   (by rw [hH];exact True.intro) (.inl rfl) (fun b v hb e=>(Heap.get?_update_other _ _ (aF hb)).trans (cW _ e)) ⟨_,e2⟩ (Hv e2)
  have e3:((s.heap.push { cls:=.type "dict",data:=.dict #[] }).update x fun o=>{ cls:=o.cls,dict:=some s.heap.objs.size,data:=o.data,slots:=o.slots }).objs.size=s.heap.objs.size+1:=by
   rw [Heap.size_after_update,Heap.size_push]
  have hf:upd H x (jr x C (some s.heap.objs.size)) s.heap.objs.size=none:=by rw [ao (aF JY)];exact I.fresh
  have hd0:X.bS.heap.objs.size<=s.heap.objs.size:=I.sz;have kp:∀b o,b≠s.heap.objs.size->((s.heap.push { cls:=.type "dict",data:=.dict #[] }).update x fun o=>{ cls:=o.cls,dict:=some s.heap.objs.size,data:=o.data,slots:=o.slots }).get? b=some o->h'.get? b=some o:=fun b o hb e=>(sb.2 b hb).trans e;have new:ef X.prog X.w (upd (upd H x (jr x C (some s.heap.objs.size))) s.heap.objs.size (uz s.heap.objs.size [(nm,y)])) h' s.heap.objs.size (uz s.heap.objs.size [(nm,y)]):=by
   refine TZ n1 (fun z=>?_) (fun z hz=>?_)
   ·show jA (List.lookup z [(nm,y)]) (if z=nm then some u else none);rw [gm]
    by_cases e:z=nm
    ·subst e;rw [pC,if_pos rfl];exact ru
    ·rw [show (z==nm)=false from beq_eq_false_iff_ne.mpr e,if_neg e];exact True.intro
   ·by_cases e:z=nm
    ·subst e;exact eD
    ·exact absurd (if_neg e) hz
  exact I1.kN (t':=tk) kp hf hd0 (fun z=>by
   have:=I.lt;rw [z] at this;exact j9 _ this) (fun y' c e z=>by
   obtain ⟨v,o,ho,_⟩:=I.cell y' c e;have:=dt ho;rw [z] at this;exact j9 _ this) (fun p hp z=>by
   have:=dt (I.pin p hp).1;rw [z] at this;exact j9 _ this) new
 obtain ⟨hh,gg,qS,tt,oo⟩:=s;unfold setAttr;refine ag (wpAny_mkText (ag ?_));unfold callSpecial? specialOf;refine ag (ag (LT.at ((PySem.W.looks_findIn hK M.sa).at (wpAny_holding (ag ?_)))));rw [SF.slot.bind];refine aU (ag (wpAny_call (codeAny_call_builtin SF.slot.plain SF.entry (@PySem.W.check_slot (model X.prog X.w) _ _ ⟨hh,gg,qS,tt+1,oo⟩ "object.__setattr__" "object" "__setattr__" (.ref x) [.str nm tt,u] [] _ SF.kind SF.split IM (SF.args (.ref x) (.str nm tt) u) ?_))));show wpAny _ A.in1 (Builtin.«object.__setattr__» ⟨[.ref x,.str nm tt,u],[]⟩) _ _ _;rw [PySem.W.osa_eq,refuse_eq];refine ag (ag (LT.at (ag (LM.at ?_))));rw [refuseLoop_ref,refuseLoop_ref,PySem.F.store_ValueError.passes];refine aU (ag (LT.at (ag ((PySem.W.looks_findIn hK na).at (ag (aU ?_))))));refine ag (aU (ag (ag (wpAny_loadPart (o:=f7 C none (.ref t) .none) eO (ag ((PySem.W.looks_clsIn hK mz).at ?_))))));have Bm:(hh.push { cls:=.type "dict",data:=.dict #[] }).get? x=some (f7 C none (.ref t) .none):=cW _ eO;refine ag (wpAny_alloc' ?_);refine ag (wpAny_update' Bm ?_);refine aU ?_;have hgd:((hh.push { cls:=.type "dict",data:=.dict #[] }).update x fun o=>{ cls:=o.cls,dict:=some hh.objs.size,data:=o.data,slots:=o.slots }).get? hh.objs.size=some { cls:=.type "dict",data:=.dict #[] }:=
  (Heap.get?_update_ne _ _ _ _ JY.symm).trans (Heap.get?_push_at rfl rfl)
 have oE:((hh.push { cls:=.type "dict",data:=.dict #[] }).update x fun o=>{ cls:=o.cls,dict:=some hh.objs.size,data:=o.data,slots:=o.slots }).Ns hh.objs.size (fun _=>none):=
  ⟨_,#[],_,hgd,rfl,fun e he=>absurd he (by simp),fun _=>rfl⟩
 show wpAny _ _ (storeInDict hh.objs.size (.str nm tt) nm u) _ _ _;unfold storeInDict newKeyGuard;refine ag (aU (ag (wpAny_nsSet1 (Heap.Ns1.of_empty oE) fun h' E' hs=>?_)));obtain ⟨oD,esD,epD,Kx,Lb,Lh⟩:=E'.count (Within.cons nm u Within.nil);refine ag (wpAny_lookBehind Kx (by rw [Lb];exact pastItsLine_dict (eC Lh (by rw [kD,LO,sizeLine_eq];lia))) ?_)
 wp_walk
 exact fin _ _ E' hs
noncomputable def Zu (K:aA) (ta tv:TE) (f:Str):TS:=fun D σ H=>tv σ H fun y H1=>ta σ H1 fun x H2=>∃a C Mo f0,x=.ref a/\H2 a=some (jr a C none)/\rh K C Mo f0/\PySem.W.findIn K (.ref C) f=some none/\
 ∀d,H2 d=none->d≠a->D.nx σ (upd (upd H2 a (jr a C (some d))) d (uz d [(f,y)]))
theorem US {X:Cx} {o value:Expr} {f:Str} {pos pos':Pos} {ta tv:TE} (ha:PE X o ta) (hv:PE X value tv) (hs:swapsWith value (some (.Attribute o f pos')) pos.line X.env=pure false):PS X (.Assign [.Attribute o f pos'] value pos) (Zu X.K ta tv f):=by
 intro pins s σ H D I h;refine plainObj_wpAny_Assign_Attribute (av (hv pins s σ H _ I h) fun u s1 zz=>L2.eQ zz fun y H1 I1 ry q=>av (ha pins s1 σ H1 _ I1 q) fun ov s2 zz=>?_) hs;obtain ⟨x,H2,I2,rx,a,C,Mo,f0,ex,ea,M,na,q2⟩:=zz;subst ex;obtain rfl:ov=Value.ref a:=rx;exact X3 (dx:=none) I2 M na ea ry fun d s3 hd hda I3=>⟨σ,_,I3,q2 d hd hda⟩
noncomputable def oU (h0 h:Heap) (H:Hp) (a C:Addr) (dx:Option Addr):Prop:=
 h0.get? a=none/\H a=none/\∃t tb,h.get? a=some (f7 C dx t tb)/\
  (tb=.none\/∃T oT ts,tb=.ref T/\T≠a/\h0.get? T=none/\H T=none/\h.get? T=some oT/\oT.data=.fields ts/\ts[3]?=some .none)
noncomputable def Hh (h0 h:Heap) (H:Hp) (a C:Addr) (dx:Option Addr) (L:Addr):Prop:=
 h0.get? a=none/\H a=none/\∃t T oT ts,h.get? a=some (f7 C dx t (.ref T))/\T≠a/\h0.get? T=none/\H T=none/\h.get? T=some oT/\oT.data=.fields ts/\ts[3]?=some (rawInt L)
noncomputable def mS (fs:List Addr) (h0 h h':Heap) (H:Hp):Prop:=
 (∀b o,(H b≠none\/h0.get? b≠none)->b∉fs->h.get? b=some o->h'.get? b=some o)/\∀b o,(H b≠none\/h0.get? b≠none)->h.get? b=some o->∃sl,h'.get? b=some { o with slots:=sl }
theorem mS.trans (x:mS fs h0 h1 h2 H) (y:mS fs h0 h2 h3 H):mS fs h0 h1 h3 H:=
 ⟨fun b o z hb e=>y.1 b o z hb (x.1 b o z hb e),fun b o z e=>by
  obtain ⟨_,e1⟩:=x.2 b o z e;obtain ⟨sl,e2⟩:=y.2 b _ z e1;exact ⟨sl,e2⟩⟩
theorem YH (C:Addr) (dx:Option Addr) (t tb v:Value):Obj.mapFields (·.setIfInBounds 1 v) (f7 C dx t tb)=f7 C dx t v:=by simp [Obj.mapFields]
section
variable {M:Model} {A:Around} {E:Value->Shared->Prop} {s:Shared} {base h0:Heap} {H:Hp} {env:Env} {outer:List Env} {L a C:Addr} {dx:Option Addr}
theorem Pj (oG:A.frames=some (env::outer)) (hl:s.heap.FunFrames base (env::outer)) (hf:env.frame=some L)
 (he:s.heap.get? a=some (f7 C dx t tb)) (S7:h0.get? a=none) (Sv:H a=none) (zh:∀b o,h0.get? b=some o->∃o',s.heap.get? b=some o') (gX:∀b,s.heap.objs.size<=b->H b=none)
 (hq:∀h',Hh h0 h' H a C dx L->mS (jW (env::outer)) h0 s.heap h' H->Q () { s with heap:=h' }):
 wpAny M A (do let fr <-frameOf env;let pl <-entryPlaceOf L Fo;let b <-EntryCells.newEntry head fr .none (rawInt L) .none pl;setField (.ref a) 1 b) Q E s:=by
 have K1:a∉jW (env::outer):=fun hm=>by
  obtain ⟨_,o,ho,hnf⟩:=hl.mem hm;rw [he] at ho;cases ho;exact hnf _ rfl
 refine ag (wpAny_frameOf_fun oG hl hf fun bU kZ=>?_);refine ag (wpAny_entryPlaceOf fun pl fe=>?_);unfold EntryCells.newEntry newFields;refine ag (wpAny_newObj_type ?_ (fe.sizeOk5 _ _ _ _ _));have Sf:bU.get? a=some (f7 C dx t tb):=(kZ.2.1 a K1).trans he;have Se:=cW (h:=bU) { cls:=.type "traceback",dict:=none,data:=.fields ([head,.ref L,.none,rawInt L,.none]++(if pl.isEmpty then List.replicate 6 Value.none else pl)).toArray } Sf;refine wpAny_setField Se rfl (by simp) ?_;have px:bU.objs.size≠a:=Nat.ne_of_gt (dt Sf);have he3:=(Heap.get?_update_self (Obj.mapFields (·.setIfInBounds 1 (Value.ref bU.objs.size))) Se rfl).trans (congrArg some (YH C dx t tb (.ref bU.objs.size)));have hT3:=(Heap.get?_update_other (bU.push { cls:=.type "traceback",dict:=none,data:=.fields ([head,.ref L,.none,rawInt L,.none]++(if pl.isEmpty then List.replicate 6 Value.none else pl)).toArray })
  (Obj.mapFields (·.setIfInBounds 1 (Value.ref bU.objs.size))) (aF px)).trans (jZ bU rfl)
 have kb:∀b o,b≠a->bU.get? b=some o->((bU.push { cls:=.type "traceback",dict:=none,data:=.fields ([head,.ref L,.none,rawInt L,.none]++(if pl.isEmpty then List.replicate 6 Value.none else pl)).toArray }).update a (Obj.mapFields (·.setIfInBounds 1 (Value.ref bU.objs.size)))).get? b=some o:=
  fun b o hb e=>(Heap.get?_update_other _ _ (aF hb)).trans (cW _ e)
 have ne:∀b,(H b≠none\/h0.get? b≠none)->b≠a:=fun b z e=>by
  subst e;exact z.elim (fun q=>q Sv) fun q=>q S7
 refine hq _ ⟨S7,Sv,t,bU.objs.size,_,_,he3,px,(by
  cases q:h0.get? bU.objs.size with
  | none=>rfl
  | some o=>
   obtain ⟨o',e'⟩:=zh _ o q;exact absurd (dt e') (by rw [kZ.1];exact j9 _)),gX _ (by rw [kZ.1];exact az _),hT3,rfl,by simp⟩ ⟨fun b o z hb e=>?_,fun b o z e=>?_⟩
 ·exact kb b o (ne b z) ((kZ.2.1 b hb).trans e)
 ·obtain ⟨sl,e1⟩:=kZ.2.2 b o e;exact ⟨sl,kb b _ (ne b z) e1⟩
theorem OL (oG:A.frames=some (env::outer)) (hl:s.heap.FunFrames base (env::outer)) (hf:env.frame=some L) (fl:oU h0 s.heap H a C dx) (zh:∀b o,h0.get? b=some o->∃o',s.heap.get? b=some o') (gX:∀b,s.heap.objs.size<=b->H b=none)
 (hq:∀h',Hh h0 h' H a C dx L->mS (jW (env::outer)) h0 s.heap h' H->Q () { s with heap:=h' }):wpAny M A (noteFrame (.ref a) env) Q E s:=by
 obtain ⟨f1,f2,t,tb,he,hb⟩:=fl;unfold noteFrame;simp only [hf];rcases hb with rfl | ⟨T,oT,ts,rfl,px,m5,xS,hT,hd,h3⟩
 ·refine ag (wpAny_field he rfl (x:=.none) rfl ?_);rw [if_neg (by decide)];exact Pj oG hl hf he f1 f2 zh gX hq
 ·refine ag (wpAny_field he rfl (x:=.ref T) rfl ?_);rw [if_pos (show (Value.ref T !=Value.none)=true from by simp)];refine ag (wpAny_field hT hd h3 ?_);rw [if_neg (show ¬((Value.none==rawInt L)=true) from by simp [rawInt])];refine ag (wpAny_setField hT hd (Array.getElem?_eq_some_iff.mp h3).1 ?_);have other:∀b,b≠T->(s.heap.update T (Obj.mapFields (·.setIfInBounds 3 Value.none))).get? b=s.heap.get? b:=fun b hb=>Heap.get?_update_other _ _ (aF hb);have noT:∀b o,s.heap.get? b=some o->(∀vs,o.data≠.fields vs)->b≠T:=fun b o e hn q=>by
   rw [q,hT] at e;cases e;exact hn ts hd
  have neT:∀b,(H b≠none\/h0.get? b≠none)->b≠T:=fun b z e=>by
   subst e;exact z.elim (fun q=>q xS) fun q=>q m5
  have sze:(s.heap.update T (Obj.mapFields (·.setIfInBounds 3 Value.none))).objs.size=s.heap.objs.size:=Heap.size_after_update ..;refine Pj (s:={ s with heap:=s.heap.update T (Obj.mapFields (·.setIfInBounds 3 Value.none)) }) oG (hl.of_keeps fun b o e hn=>⟨o,(other b (noT b o e hn)).trans e,rfl⟩) hf ((other a (aF px)).trans he) f1 f2
   (fun b o e=>by
    obtain ⟨o',e'⟩:=zh b o e;exact ⟨o',(other b fun z=>by rw [z,m5] at e;cases e).trans e'⟩) (fun b hb=>gX b (by rw [sze] at hb;exact hb)) fun h' n k=>hq h' n ⟨fun b o z hb e=>k.1 b o z hb ((other b (neT b z)).trans e),fun b o z e=>k.2 b o z ((other b (neT b z)).trans e)⟩
theorem Oz (n:Hh h0 s.heap H a C dx L) (hq:∀h',oU h0 h' H a C dx->mS [] h0 s.heap h' H->Q () { s with heap:=h' }):wpAny M A (setFlight (.ref a) none) Q E s:=by
 obtain ⟨f1,f2,t,T,oT,ts,he,px,m5,xS,hT,hd,h3⟩:=n;have neT:∀b,(H b≠none\/h0.get? b≠none)->b≠T:=fun b z e=>by
  subst e;exact z.elim (fun q=>q xS) fun q=>q m5
 have k_:3<ts.size:=(Array.getElem?_eq_some_iff.mp h3).1;unfold setFlight;refine ag (wpAny_field he rfl (x:=.ref T) rfl ?_);rw [if_pos (show (Value.ref T !=Value.none)=true from by simp)];refine wpAny_setField hT hd k_ (hq _ ⟨f1,f2,t,.ref T,(Heap.get?_update_other _ _ px).trans he,.inr ⟨T,_,_,rfl,px,m5,xS,Heap.get?_update_self _ hT (Obj.isFreed_of_fields (Obj.data_mapFields hd _)),Obj.data_mapFields hd _,by simp [k_]⟩⟩ ⟨fun b o z _ e=>?_,fun b o z e=>⟨o.slots,?_⟩⟩)
 ·exact (Heap.get?_update_other _ _ (aF (neT b z))).trans e
 ·exact (Heap.get?_update_other _ _ (aF (neT b z))).trans e
theorem VS (fl:oU h0 s.heap H a C dx) (hq:∀h',oU h0 h' H a C dx->mS [] h0 s.heap h' H->Q () { s with heap:=h' }):wpAny M A (setFlight (.ref a) none) Q E s:=by
 obtain ⟨f1,f2,t,tb,he,hb⟩:=id fl;rcases hb with rfl | ⟨T,oT,ts,rfl,px,m5,xS,hT,hd,h3⟩
 ·unfold setFlight;refine ag (wpAny_field he rfl (x:=.none) rfl ?_);rw [if_neg (by decide)];exact aU (hq s.heap fl ⟨fun _ _ _ _ e=>e,fun _ o _ e=>⟨o.slots,e⟩⟩)
 ·have neT:∀b,(H b≠none\/h0.get? b≠none)->b≠T:=fun b z e=>by
   subst e;exact z.elim (fun q=>q xS) fun q=>q m5
  have k_:3<ts.size:=(Array.getElem?_eq_some_iff.mp h3).1;unfold setFlight;refine ag (wpAny_field he rfl (x:=.ref T) rfl ?_);rw [if_pos (show (Value.ref T !=Value.none)=true from by simp)];refine wpAny_setField hT hd k_ (hq _ ⟨f1,f2,t,.ref T,(Heap.get?_update_other _ _ px).trans he,.inr ⟨T,_,_,rfl,px,m5,xS,Heap.get?_update_self _ hT (Obj.isFreed_of_fields (Obj.data_mapFields hd _)),Obj.data_mapFields hd _,by simp [k_]⟩⟩ ⟨fun b o z _ e=>?_,fun b o z e=>⟨o.slots,?_⟩⟩)
  ·exact (Heap.get?_update_other _ _ (aF (neT b z))).trans e
  ·exact (Heap.get?_update_other _ _ (aF (neT b z))).trans e
theorem W9 (oG:A.frames=some (env::outer)) (hl:s.heap.FunFrames base (env::outer)) (hf:env.frame=some L) (fl:oU h0 s.heap H a C dx) (zh:∀b o,h0.get? b=some o->∃o',s.heap.get? b=some o') (gX:∀b,s.heap.objs.size<=b->H b=none)
 (hq:∀h',oU h0 h' H a C dx->mS (jW (env::outer)) h0 s.heap h' H->Q () { s with heap:=h' }):wpAny M A (leaving env (.ref a)) Q E s:=by
 unfold leaving;refine ag (OL oG hl hf fl zh gX fun h1 n1 k1=>?_);exact Oz (s:={ s with heap:=h1 }) n1 fun h2 f2 k2=>hq h2 f2 (k1.trans ⟨fun b o z _ e=>k2.1 b o z (by simp) e,k2.2⟩)
end
noncomputable def lS (P:Program) (w:World):mG:=fun outer H s E e s'=>∃(a C:Addr) (dx:Option Addr) (H':Hp),e=.ref a/\s'.os=s.os/\AllBare s'.gens/\Un (jW outer) [] H H' s.heap s'.heap/\eE P w H' s'.heap/\
 oU s.heap s'.heap H' a C dx/\E (.ref C) dx H'
theorem eE.iF {P:Program} {w:World} (ok:eE P w H h) (k:mS fs h0 h h' H) (hf:∀b∈fs,H b=none):eE P w H h':=fun b u e=>by
 refine (ok b u e).fq (fun c v hc q=>?_) (fun _ q=>q) fun _ _ q=>q;have hn:H c≠none:=by
  rcases hc with rfl | hc
  ·rw [e];simp
  ·rw [hc];simp
 exact k.1 c v (.inl hn) (fun z=>hn (hf c z)) q
theorem Un.iF (u:Un fs ex H H' h0 h1) (k:mS gs h0 h1 h2 H') (hg:∀b o,h0.get? b=some o->b∈gs->b∈fs):Un fs ex H H' h0 h2:=by
 refine ⟨fun b o e n hb hx=>k.1 b o (.inr (by rw [e];simp)) (fun z=>hb (hg b o e z)) (u.keep b o e n hb hx),fun b o e n hb hx=>?_,u.free,fun b o e hx=>?_,u.gA,u.gj,u.iu⟩
 ·obtain ⟨sl,q⟩:=u.slot b o e n hb hx;obtain ⟨yX,q'⟩:=k.2 b _ (.inr (by rw [e];simp)) q;exact ⟨yX,q'⟩
 ·obtain ⟨o',q⟩:=u.there b o e hx;obtain ⟨sl,q'⟩:=k.2 b _ (.inr (by rw [e];simp)) q;exact ⟨_,q'⟩
section
variable {P:Program} {w:World} {K:aA} {mg:Str->Option Value} {base:Heap} {N:List Str} {qual:Str} {scope:Scope} {f:Addr} {cd:Value} {A:Around} {outer:List Env} {s:Shared} {H:Hp} {EX:XK}
theorem Mp (I:Inv (mI (lS P w) P w K mg base N qual scope f cd A outer s H EX) pins σ H' s') (fl:oU s.heap s'.heap H' a C dx) (hE:EX (.ref C) dx H'):
 (mI (lS P w) P w K mg base N qual scope f cd A outer s H EX).xe (.ref a) s':=by
 show wpAny (model P w) (A.deeper (envOfC qual scope s.heap.objs.size f cd)) (leaving (envOfC qual scope s.heap.objs.size f cd) (.ref a)) (fun _ AU=>lS P w outer H s EX (.ref a) AU) _ s';refine W9 (L:=s.heap.objs.size) I.ok.frames I.stack rfl fl (fun b o e=>I.base.there b o e (by intro z;exact absurd (show b∈([]:List Addr) from z) (by simp))) (fun b hb=>I.af.fresh hb) fun h' f' k=>?_;refine ⟨a,C,dx,H',rfl,I.os,I.bare,I.base.iF k fun b o e hb=>?_,I.af.iF k I.jH,f',hE⟩;unfold jW at hb;rw [List.filterMap_cons] at hb;rcases eS.mp hb with z | z
 ·exact absurd (dt e) (by rw [z];exact j9 _)
 ·exact z
theorem oU.back (fl:oU h1 h H a C dx) (k:∀b o,h0.get? b=some o->∃o',h1.get? b=some o'):oU h0 h H a C dx:=by
 have no:∀b,h1.get? b=none->h0.get? b=none:=fun b e=>by
  cases q:h0.get? b with
  | none=>rfl
  | some o=>
   obtain ⟨o',e'⟩:=k b o q;rw [e] at e';cases e'
 obtain ⟨f1,f2,t,tb,he,hb⟩:=fl;refine ⟨no a f1,f2,t,tb,he,?_⟩;rcases hb with z | ⟨T,oT,ts,e,px,m5,r⟩
 ·exact .inl z
 ·exact .inr ⟨T,oT,ts,e,px,no T m5,r⟩
theorem Zo (h:∀C dx H',E C dx H'->EX C dx H'):pK (lS P w) (mI (lS P w) P w K mg base N qual scope f cd A outer s H EX) E:=by
 intro pins σ H1 s1 e s' I hx;obtain ⟨a,C,dx,H',rfl,os,bare,un,af,fl,hE⟩:=hx;have I':=I.qU (s':=s') (ch:=[]) os un af bare (fun b z=>absurd z (by simp));exact Mp I' (fl.back fun b o e=>I.base.there b o e (by intro z;exact absurd (show b∈([]:List Addr) from z) (by simp))) (h _ _ _ hE)
end
noncomputable def forget (H:Hp) (a:Addr):Hp:=fun b=>if b=a then none else H b
theorem sV (h:b≠a):forget H a b=H b:=by unfold forget;rw [if_neg h]
theorem Ql:forget H a a=none:=by unfold forget;rw [if_pos rfl]
theorem DO (h:H b=none):forget H a b=none:=by
 unfold forget;split
 ·rfl
 ·exact h
theorem Inv.forget (I:Inv X pins σ H s) (hH:H a=some (jr a C dx)):Inv X pins σ (L2.forget H a) s:=by
 have ne:∀b u,H b=some u->(∀φ,u≠.ext φ)->b≠a:=fun b u e hu z=>by
  subst z;rw [hH] at e;exact hu _ (eT e).symm
 refine ⟨I.ok,I.os,I.bare,⟨I.base.keep,I.base.slot,fun b o e n hx=>DO (I.base.free b o e n hx),I.base.there,fun b xs e=>?_,fun b o u e=>?_,fun b ps e=>?_⟩,I.loc,I.cell,DO I.free,fun x c e=>DO (I.cD x c e),fun p hp=>?_,fun b u e=>?_,I.len⟩
 ·have q:=I.base.gA b xs e;rw [sV (ne b _ q (fun _ z=>nomatch z))];exact q
 ·have q:=I.base.gj b o u e;rw [sV (ne b _ q (fun _ z=>nomatch z))];exact q
 ·obtain ⟨more,q⟩:=I.base.iu b ps e;exact ⟨more,by rw [sV (ne b _ q (fun _ z=>nomatch z))];exact q⟩
 ·obtain ⟨e,n,r⟩:=I.pin p hp;exact ⟨e,DO n,r⟩
 ·by_cases hb:b=a
  ·rw [hb,Ql] at e;cases e
  ·rw [sV hb] at e;exact (I.af b u e).fq (fun c v _ q=>q) (fun c q=>by rw [sV (ne c _ q (fun _ z=>nomatch z))];exact q) fun c xs q=>by rw [sV (ne c _ q (fun _ z=>nomatch z))];exact q
noncomputable def T7 (K:aA) (H0:Hp) (EX:XK) (te:TE):TS:=fun _ σ H=>te σ H fun x H1=>∃a C Mo f dx,x=.ref a/\H1 a=some (jr a C dx)/\rh K C Mo f/\H0 a=none/\EX (.ref C) dx (forget H1 a)
theorem Xt (hh:A.handled=none)
 (h:wpAny M A x (fun v au=>∃e C dx t nm q N bs bm qK sn sub ab col dd k0 k1 k2 k3 k5 Rq,v=.ref e/\bm.contains (.type "BaseException")=true/\au.heap.get? C=some (excClassObj nm q C N bs bm qK sn sub ab col dd k0 k1 k2 k3 k5 Rq)/\
  au.heap.get? e=some (f7 C dx t .none)/\E (.ref e) au) E s):wpAny M A (raiseStmt env (some x) none) Q E s:=by
 unfold raiseStmt;refine ag (wpAny_mono h (fun v au bU=>?_) fun _ _ x=>x);obtain ⟨e,C,dx,t,nm,q,N,bs,bm,qK,sn,sub,ab,col,dd,k0,k1,k2,k3,k5,Rq,rfl,qM,hC,he,hE⟩:=bU;have hcB:(Value.ref C::bm).contains (.type "BaseException")=true:=by rw [List.contains_cons,qM,Bool.or_true]
 obtain ⟨hp,g,d,tk,os⟩:=au
 repeat (first | with_reducible refine wpAny_loadPart_at he ?_ | with_reducible refine wpAny_loadPart_at hC ?_ | (with_reducible refine wpAny_isSubtype_exc hC ?_;rw [hcB]) | wp_step)
 exact wpAny_raiseNew_none hh hE
section
variable {P:Program} {w:World} {K:aA} {mg:Str->Option Value} {base:Heap} {N:List Str} {qual:Str} {scope:Scope} {f:Addr} {cd:Value} {A:Around} {outer:List Env} {s:Shared} {H:Hp} {EX:XK}
theorem VJ (he:PE (mI (lS P w) P w K mg base N qual scope f cd A outer s H EX) x te):PS (mI (lS P w) P w K mg base N qual scope f cd A outer s H EX) (.Raise (some x) none pos) (T7 K H EX te):=by
 intro pins s1 σ H1 D I h;rw [arm_exec_Raise];refine ag (wpAny_standAt (Xt (I.ok.hd rfl) ?_));refine ag (av (he pins s1 σ H1 _ I h) fun v s2 zz=>ag (wpAny_standAt (aU ?_)));obtain ⟨y,H2,I2,ry,a,C,Mo,f',dx,e1,hH,M,h0,hE⟩:=zz;subst e1;cases ry;obtain ⟨nm,q,Nn,bs,sn,sub,ab,col,dd,k0,k1,k2,k3,k5,lk,_,_⟩:=M.obj;obtain ⟨t,eO⟩:=Hu I2.af hH;refine ⟨a,C,dx,.ref t,nm,q,Nn,bs,_,_,sn,sub,ab,col,dd,k0,k1,k2,k3,k5,_,rfl,rfl,I2.gN _ _ lk,eO,?_⟩;refine Mp (I2.forget hH) ⟨?_,Ql,.ref t,.none,eO,.inl rfl⟩ hE
 cases q0:s.heap.get? a with
 | none=>rfl
 | some o=>
  have z:=I2.base.free a o q0 h0 (by intro z;exact absurd (show a∈([]:List Addr) from z) (by simp));rw [hH] at z;cases z
end
noncomputable def X' (X:Cx) (pins:List (Addr×Obj)) (Ex:Addr->Option Addr->St->Hp->Prop):Value->Shared->Prop:=fun e s'=>∃a C dx σ H sr H1 s1,e=.ref a/\Inv X pins sr H1 s1/\Inv X pins σ H s'/\
 (∀b o,s1.heap.get? b=some o->∃o',s'.heap.get? b=some o')/\oU s1.heap s'.heap H a C dx/\Ex C dx σ H
noncomputable def Aa (X:Cx) (pins:List (Addr×Obj)) (Ex:Addr->Option Addr->St->Hp->Prop):Cx where
 prog:=X.prog
 w:=X.w
 K:=X.K
 mg:=X.mg
 base:=X.base
 A:=X.A
 N:=X.N
 bS:=X.bS
 gq:=X.gq
 env:=X.env
 outer:=X.outer
 stack:=X.stack
 ex:=X.ex
 fn:=X.fn
 calm:=X.calm
 pn:=X.pn++pins
 xe:=X' X pins Ex
noncomputable def A6 (X:Cx) (e:Value):Cx where
 prog:=X.prog
 w:=X.w
 K:=X.K
 mg:=X.mg
 base:=X.base
 A:=X.A.mark (some e)
 N:=X.N
 bS:=X.bS
 gq:=X.gq
 env:=X.env
 outer:=X.outer
 stack:=X.stack
 ex:=X.ex
 fn:=X.fn
 calm:=false
 pn:=X.pn
 xe:=fun _ _=>False
section
variable {X:Cx} {pins nq:List (Addr×Obj)} {Ex:Addr->Option Addr->St->Hp->Prop} {σ:St} {H:Hp} {s:Shared} {e:Value}
theorem Inv.AK (I:Inv X pins σ H s):Inv (Aa X pins Ex) [] σ H s:=
 ⟨⟨I.ok.mod,I.ok.kind,I.ok.glob,I.ok.blt,I.ok.above,I.ok.inj,I.ok.has,I.ok.ur,I.ok.hd,I.ok.frames,I.ok.uZ,I.ok.zE,I.ok.bs,I.ok.oO,I.ok.jM,I.ok.jX,I.ok.eP,I.ok.pz⟩,
  I.os,I.bare,I.base,I.loc,I.cell,I.free,I.cD,fun p hp=>I.pin p (by have z:p∈(X.pn++pins)++[]:=hp;simpa using z),I.af,I.len⟩
theorem Inv.ic (I:Inv (Aa X pins Ex) nq σ H s):Inv X pins σ H s:=
 ⟨⟨I.ok.mod,I.ok.kind,I.ok.glob,I.ok.blt,I.ok.above,I.ok.inj,I.ok.has,I.ok.ur,I.ok.hd,I.ok.frames,I.ok.uZ,I.ok.zE,I.ok.bs,I.ok.oO,I.ok.jM,I.ok.jX,I.ok.eP,I.ok.pz⟩,
  I.os,I.bare,I.base,I.loc,I.cell,I.free,I.cD,fun p hp=>I.pin p (iL _ hp),I.af,I.len⟩
theorem Inv.uW (I:Inv X pins σ H s):Inv (A6 X e) pins σ H s:=
 ⟨⟨I.ok.mod,I.ok.kind,I.ok.glob,I.ok.blt,I.ok.above,I.ok.inj,I.ok.has,I.ok.ur,(fun z=>absurd (show false=true from z) fu),I.ok.frames,I.ok.uZ,I.ok.zE,I.ok.bs,I.ok.oO,I.ok.jM,I.ok.jX,I.ok.eP,I.ok.pz⟩,
  I.os,I.bare,I.base,I.loc,I.cell,I.free,I.cD,I.pin,I.af,I.len⟩
theorem Inv.jv (hd:X.calm=true->X.A.handled=none) (I:Inv (A6 X e) pins σ H s):Inv X pins σ H s:=
 ⟨⟨I.ok.mod,I.ok.kind,I.ok.glob,I.ok.blt,I.ok.above,I.ok.inj,I.ok.has,I.ok.ur,hd,I.ok.frames,I.ok.uZ,I.ok.zE,I.ok.bs,I.ok.oO,I.ok.jM,I.ok.jX,I.ok.eP,I.ok.pz⟩,
  I.os,I.bare,I.base,I.loc,I.cell,I.free,I.cD,I.pin,I.af,I.len⟩
theorem SP.ic (h:SP (Aa X pins Ex) [] D f s):SP X pins D f s:=by
 cases f with
 | next=>obtain ⟨aa,H',I,q⟩:=h;exact ⟨aa,H',I.ic,q⟩
 | brk=>obtain ⟨aa,H',I,q⟩:=h;exact ⟨aa,H',I.ic,q⟩
 | cont=>obtain ⟨aa,H',I,q⟩:=h;exact ⟨aa,H',I.ic,q⟩
 | ret u=>obtain ⟨v,aa,H',I,r,q⟩:=h;exact ⟨v,aa,H',I.ic,r,q⟩
theorem SP.jv (hd:X.calm=true->X.A.handled=none) (h:SP (A6 X e) pins D f s):SP X pins D f s:=by
 cases f with
 | next=>obtain ⟨aa,H',I,q⟩:=h;exact ⟨aa,H',I.jv hd,q⟩
 | brk=>obtain ⟨aa,H',I,q⟩:=h;exact ⟨aa,H',I.jv hd,q⟩
 | cont=>obtain ⟨aa,H',I,q⟩:=h;exact ⟨aa,H',I.jv hd,q⟩
 | ret u=>obtain ⟨v,aa,H',I,r,q⟩:=h;exact ⟨v,aa,H',I.jv hd,r,q⟩
theorem Inv.qQ (I:Inv X pins σ H s) (k:mS (X.env.locals::X.fs) h0 s.heap h' H) (h1:∀b o,X.bS.heap.get? b=some o->h0.get? b≠none) (hL:h0.get? X.env.locals≠none) (hC:∀x c,X.env.cells.lookup x=some c->h0.get? c≠none) (hP:∀p∈X.pn++pins,h0.get? p.1≠none):
 Inv X pins σ H { s with heap:=h' }:=by
 obtain ⟨m,⟨oL,es,ep,xF,r⟩,hl⟩:=id I.loc;obtain ⟨sl,hL'⟩:=k.2 _ oL (.inr hL) xF;have cellK:∀x c,X.env.cells.lookup x=some c->∀v,s.heap.IsCell c v->h'.IsCell c v:=fun x c e v ⟨o,ho,hd⟩=>by
  obtain ⟨sl,q⟩:=k.2 c o (.inr (hC x c e)) ho;exact ⟨_,q,hd⟩
 refine ⟨I.ok,I.os,I.bare,⟨fun b o e n hb hx=>?_,fun b o e n hb hx=>?_,I.base.free,fun b o e hx=>?_,I.base.gA,I.base.gj,I.base.iu⟩,⟨m,⟨_,es,ep,hL',r⟩,fun i x v e1 e2 e3=>?_⟩,fun x c e=>?_,I.free,I.cD,fun p hp=>?_,?_,I.len⟩
 ·refine k.1 b o (.inr (h1 b o e)) (fun z=>?_) (I.base.keep b o e n hb hx);rcases eS.mp z with z | z
  ·exact absurd (i_ (dt e) I.ok.above) (by rw [z];exact j9 _)
  ·exact hb z
 ·obtain ⟨sl,q⟩:=I.base.slot b o e n hb hx;obtain ⟨yX,q'⟩:=k.2 b _ (.inr (h1 b o e)) q;exact ⟨yX,q'⟩
 ·obtain ⟨o',q⟩:=I.base.there b o e hx;obtain ⟨yX,q'⟩:=k.2 b _ (.inr (h1 b o e)) q;exact ⟨_,q'⟩
 ·obtain ⟨u,rv,l⟩:=hl i x v e1 e2 e3;refine ⟨u,rv,?_⟩;rcases l with l | ⟨kd,c,e,z⟩
  ·exact .inl l
  ·exact .inr ⟨kd,c,e,cellK x c e _ z⟩
 ·obtain ⟨v,z⟩:=I.cell x c e;exact ⟨v,cellK x c e v z⟩
 ·obtain ⟨e,n,ne,nf,d⟩:=I.pin p hp;refine ⟨k.1 p.1 p.2 (.inr (hP p hp)) (fun z=>?_) e,n,ne,nf,d⟩;rcases eS.mp z with z | z
  ·exact ne z
  ·exact nf z
 ·refine I.af.iF k fun b hb=>?_;rcases eS.mp hb with z | z
  ·rw [z];exact I.free
  ·obtain ⟨_,o,ho,_⟩:=I.ok.eP.mem z;exact I.base.free b o ho (I.ok.pz b z) fun q=>I.ok.jX b q z
theorem Wi {P:Program} {w:World} (hP:X.prog=P) (hw:X.w=w) (h:∀C dx σ H',E (.ref C) dx H'->Ex C dx σ H'):pK (lS P w) (Aa X pins Ex) E:=by
 subst hP hw;intro nq σ H1 s1 e s' I hx;obtain ⟨a,C,dx,H',rfl,os,bare,un,af,fl,hE⟩:=hx;have I':=I.qU (s':=s') (ch:=[]) os un af bare (fun b z=>absurd z (by simp));exact ⟨a,C,dx,σ,H',σ,H1,s1,rfl,I.ic,I'.ic,fun b o e=>un.there b o e (by simp),fl,h _ _ _ _ hE⟩
end
noncomputable def Zc (K:aA) (Cn:Addr) (Ex:Addr->Option Addr->St->Hp->Prop) (tb ts:TS):TS:=fun D σ H=>tb D σ H/\∀C dx aa H',Ex C dx aa H'->PySem.W.exmOne K (.ref C) (.ref Cn)=some true/\ts D aa H'
theorem Tr (Bq:X.stack=X.env::X.outer) (oG:X.env.frame=some X.env.locals) (hg:Gl X cn) (hm:X.mg cn=some (.ref Cn))
 (hb:∀pins,gp (Aa X pins Ex) body tb) (hs:∀e,gp (A6 X e) (b0::AO) ts) (hex:X.ex=[]:=by rfl) (my:(cn==("__debug__":Str))=false:=by decide):
 PS X (.Try body [.ExceptHandler (some (.Name cn np)) none (b0::AO) hpos] [] [] pos) (Zc X.K Cn Ex tb ts):=by
 intro pins s σ H D I h;obtain ⟨h1,h2⟩:=h;refine wpAny_Try_except (wpAny_mono (hb pins [] s σ H D I.AK h1) (fun f s1 q=>?_) fun e s1 he=>?_)
 ·have q':=SP.ic q
  cases f with
  | next=>exact wpAny_execs_nil q'
  | ret v=>exact q'
  | brk=>exact q'
  | cont=>exact q'
 ·obtain ⟨a,C,dx,aa,H',sr,H1,s0,rfl,I0,I1,th,fl,hx⟩:=he;obtain ⟨K6,hq⟩:=h2 C dx aa H' hx;have BC:jW (X.env::X.outer)=X.env.locals::X.fs:=by
   unfold Cx.fs jW;rw [List.filterMap_cons,oG]
  have k1:∀b o,X.bS.heap.get? b=some o->s0.heap.get? b≠none:=fun b o e=>by
   obtain ⟨o',q⟩:=I0.base.there b o e (by rw [hex];simp);rw [q];simp
  have kL:s0.heap.get? X.env.locals≠none:=by
   obtain ⟨m,⟨o,_,_,ho,_⟩,_⟩:=I0.loc;rw [ho];simp
  have kC:∀x c,X.env.cells.lookup x=some c->s0.heap.get? c≠none:=fun x c e=>by
   obtain ⟨v,o,ho,_⟩:=I0.cell x c e;rw [ho];simp
  have kP:∀p∈X.pn++pins,s0.heap.get? p.1≠none:=fun p hp=>by
   rw [(I0.pin p hp).1];simp
  have KW:X.A.frames=some (X.env::X.outer):=by rw [<-Bq];exact I.ok.frames
  refine OL (L:=X.env.locals) KW (by rw [<-Bq];exact I1.stack) oG fl th (fun b hb=>I1.af.fresh hb) fun nN n2 JO=>?_;rw [BC] at JO;have I2:=I1.qQ JO k1 kL kC kP;refine Oz (s:={ s1 with heap:=nN }) n2 fun h3 f3 RD=>?_;have JN:mS (X.env.locals::X.fs) s0.heap nN h3 H':=⟨fun b o z _ e=>RD.1 b o z (by simp) e,RD.2⟩;have I3:=I2.qQ JN k1 kL kC kP;have I3':Inv (A6 X (.ref a)) pins aa H' { s1 with heap:=h3 }:=I3.uW;refine wpAny_handleBy_cons (codeAny_handlers_test (yF I3' hg hm ?_ my)) (by intro z;cases z);obtain ⟨_,_,t,tb',eO,_⟩:=id f3;have LT:PySem.W.Looks (model X.prog X.w) h3 (typeOf (.ref a)) (.ref C):=(PySem.W.Looks.ld eO).andThen .now;refine (PySem.W.exm_one I3.gN LT K6).here (s:={ s1 with heap:=h3 }) ?_;refine codeAny_handlers_suite ?_;refine VS (s:={ s1 with heap:=h3 }) f3 fun h4 _ RC=>?_;have JM:mS (X.env.locals::X.fs) s0.heap h3 h4 H':=⟨fun b o z _ e=>RC.1 b o z (by simp) e,RC.2⟩;have I4:=I3.qQ JM k1 kL kC kP;refine wpAny_mono (hs (.ref a) pins _ aa H' D I4.uW hq) (fun f s5 q5=>SP.jv I.ok.hd q5) fun _ _ z=>z.elim
section
variable {X:Cx} {a b c d:Expr} {ta tb tc td:TE} {pos:Pos}
noncomputable def Vb (r r' AV:R2) (ta tb tc td:TE):TE:=fun σ H Q=>ta σ H fun x H1=>tb σ H1 fun y H2=>r x y H2 fun z H3=>∃k,z=.bl k/\
 (if k=true then tc σ H3 fun x2 H4=>r' y x2 H4 fun z2 H5=>∃k2,z2=.bl k2/\(if k2=true then td σ H5 fun x3 H6=>AV x2 x3 H6 Q else Q (.bl false) H5) else Q (.bl false) H3)
theorem Pa (ho:eV X (compareOp op) r) (lL:eV X (compareOp vg) r') (Ky:eV X (compareOp AX) AV) (ha:PE X a ta) (hb:PE X b tb) (hc:PE X c tc) (hd:PE X d td)
 (hm:lastMarks [op,vg,AX] [b,c,d]=false:=by with_unfolding_all rfl):PT X (.Compare a [op,vg,AX] [b,c,d] pos) (CD (Vb r r' AV ta tb tc td)):=by
 intro pins s σ H Q I h;refine isTrue_chain (av (ha pins s σ H _ I h) fun v s1 zz=>L2.eQ zz fun x H1 I1 r1 q1=>test_link (av (hb pins s1 σ H1 _ I1 q1) fun u s2 zz=>L2.eQ zz fun y H2 I2 r2 q2=>
  av (ho pins s2 σ H2 x y v u _ I2 r1 r2 q2) fun z s3 zz=>?_)) hm
 obtain ⟨z',H3,I3,r3,k,e,q3⟩:=zz;subst e;cases r3;refine wpAny_truthy_bool ?_
 cases k with
 | false=>
  obtain ⟨k',e',q'⟩:=q3;cases e';exact ite_ff ⟨H3,I3,q'⟩
 | true=>
  refine ite_tt (test_link (av (hc pins s3 σ H3 _ I3 q3) fun x2 s4 zz=>L2.eQ zz fun y4 H4 I4 r4 q4=>av (lL pins s4 σ H4 y y4 u x2 _ I4 r2 r4 q4) fun z2 s5 zz=>?_));obtain ⟨z5,H5,I5,r5,k2,e2,q5⟩:=zz;subst e2;cases r5;refine wpAny_truthy_bool ?_
  cases k2 with
  | false=>
   obtain ⟨k',e',q'⟩:=q5;cases e';exact ite_ff ⟨H5,I5,q'⟩
  | true=>
   refine ite_tt (test_last (av (hd pins s5 σ H5 _ I5 q5) fun x3 s6 zz=>L2.eQ zz fun y6 H6 I6 r6 q6=>av (Ky pins s6 σ H6 y4 y6 x2 x3 _ I6 r4 r6 q6) fun z3 s7 zz=>?_));obtain ⟨z7,H7,I7,r7,k3,e3,q7⟩:=zz;subst e3;cases r7;exact wpAny_truthy_bool ⟨H7,I7,q7⟩
theorem NK:∀{xs:List V} {us:List Value},xs.length=us.length->(∀(i:Nat) x u,xs[i]?=some x->us[i]?=some u->bQ x u)->bp xs us
 | [],[],_,_=>.nil
 | [],_::_,h,_=>by simp at h
 | _::_,[],h,_=>by simp at h
 | x::xs,u::us,h,r=>.cons (r 0 x u rfl rfl) (NK (by simpa using h) fun i y v e1 e2=>r (i+1) y v (by simpa using e1) (by simpa using e2))
theorem XT (h:ItemsOf (fun i v=>∃t,v=.int (0+(i:Int)*1) t) acc j):bp ((List.range j).map fun (i:Nat)=>V.int (i:Int)) acc.toList:=by
 refine NK (by simp [h.1]) fun i x u e1 e2=>?_;rw [fv] at e1;have hi:i<j:=by
  have:=(gQ.mp e2).1;rw [qY,h.1] at this;exact this
 rw [List.getElem?_range hi] at e1;cases e1;obtain ⟨t,e⟩:=h.2 i u (by simpa using e2);exact ⟨t,by rw [e];congr 1;lia⟩
noncomputable def Xw (ta:TA):TE:=fun σ H Q=>ta σ H fun vs H1=>∃j:Nat,vs=[.int j]/\j<=1000000/\∀l,H1 l=none->Q (.ref l) (upd H1 l (.lst ((List.range j).map fun (i:Nat)=>V.int (i:Int))))
theorem XG {ta:TA} {p p2 me:Pos} (hc:X.calm=true) (hg:Gl X "list") (hm:X.mg "list"=none) (hg2:Gl X "range") (xH:X.mg "range"=none) (ha:PA X [a] ta)
 (hs:starEach [.Call (.Name "range" p2) [a] [] me] X.env=[(false,eval (.Call (.Name "range" p2) [a] [] me) X.env)]:=by rfl) (jQ:starEach [a] X.env=[(false,eval a X.env)]:=by rfl):
 PE X (.Call (.Name "list" p) [.Call (.Name "range" p2) [a] [] me] [] pos) (Xw ta):=by
 intro pins s σ H Q I h;refine Call_ (vY I hg hm boot_list (PyProof.Rows.callWith_type1 ?_ hs rfl));rw [hs];show wpAny _ _ (spliced ((false,eval (.Call (.Name "range" p2) [a] [] me) X.env)::backTo pos [])) _ _ s;refine Calls.spliced_cons (Call_ (vY I hg2 xH boot_range (PyProof.Rows.callWith_type1 (av (ha me pins s σ H _ I h) fun us s1 zz=>?_) jQ rfl)));obtain ⟨vs,H1,I1,r1,q1⟩:=zz;obtain ⟨j,e,hj,q⟩:=q1;subst e;obtain ⟨u,rfl,t,rfl⟩:=yw r1;refine call_range_1 ?_;refine Calls.spliced_nil ?_;have I2:∀(t u v:Tok) (tk:Nat),Inv X pins σ H1 { s1 with heap:=s1.heap.push { cls:=.type "range",data:=.fields #[.int 0 t,.int (j:Int) u,.int 1 v] },toks:=tk }:=fun t u v tk=>I1.kept fun b o e=>cW _ e;refine call_list_range (n:=j) (I.ok.hd hc) (IsRange.new ..) (small_one (by lia) (by exact Int.NonNeg.mk (2 ^ 62-Nat.succ 0)) (by exact Int.NonNeg.mk (j+Nat.succ 4611686018427387903)) (by lia)) (by rw [rangeSize_one];split<;>lia) (by lia) fun h' tk acc c' kp hl hi=>?_;have I3:=I2 s1.toks t (s1.toks+1) (s1.toks+2);refine ⟨.ref _,_,I3.laid (t':=tk) (o:=.lst ((List.range j).map fun (i:Nat)=>V.int (i:Int))) kp (az _) ?_,rfl,q _ I3.fresh⟩;refine ⟨by rw [aD,List.length_range,sizeLine_eq];lia,acc.toList,c',?_,by simpa using hl⟩;exact XT hi
end
section
variable {Y:Cx} {K:aA} {tg:Expr}
theorem Ve (h:Y.K=K):yk Y (Q3 K):=by subst h;exact Mz
theorem As (h:Y.K=K):yk Y (Q0 K):=by subst h;exact Hj
theorem TH (h:Y.K=K):eV Y (compareOp .In) (EG K false):=by subst h;exact HR
theorem WG (h:Y.K=K):eV Y (compareOp .NotIn) (EG K true):=by subst h;exact XF
theorem Hq (hK:Y.K=K) (hc:Y.calm=true) (h:nU Y es t) (hn:(assignEach es Y.env).length=n:=by rfl) (qE:(assignEach es Y.env).findIdx? (·.1)=none:=by rfl):PG Y (.Tuple es k pos) (Qt K n t):=by
 subst hK;exact uF hc h hn qE
end
section
variable {P:Program} {w:World} {H:Hp} {h:Heap} {a C:Addr} {dx:Option Addr} {t tb:Value}
end
section
variable {X:Cx} {pins:List (Addr×Obj)} {σ:St} {H:Hp} {s:Shared} {a C:Addr} {dx:Option Addr} {t tb:Value}
end
open PySem PySem.Spec PyProof.Rows Builtin
section
variable {prog:Program} {w:World} {A:Around} {E:Value->Shared->Prop} {s:Shared} {K:aA} {x C:Addr} {ox od:Obj} {name:Str}
end
section
variable {X:Cx} {K:aA} {e:Expr} {f:Str} {pos:Pos} {ta:TE}
end
section
end
section
variable {X:Cx} {CX:mG} {k:Nat} {f:Addr} {fd:FuncData} {ps:List Str} {sp:Sp} {iY:List V} {ds:List Value} {E:XK} {x:Str} {p pos:Pos} {e:Expr} {es:List Expr} {t:TA}
end
theorem Dl:∀{xs:List V} {j:Nat} {x:V},xs.all jB=true->xs[j]?=some x->jB x=true
 | [],_,_,_,e=>by simp at e
 | y::xs,j,x,h,e=>by
  rw [List.all_cons,Bool.and_eq_true] at h
  cases j with
  | zero=>simp at e;subst e;exact h.1
  | succ j=>exact Dl h.2 (by simpa using e)
theorem TX (r1:bp xs us) (r2:bp ys vs) (f1:xs.all jB=true) (f2:ys.all jB=true) (j:Nat) (h1:j<us.toArray.size) (h2:j<vs.toArray.size):
 SeqAt.EqAt A s us.toArray[j] vs.toArray[j] (pB (xs.getD j .aS) (ys.getD j .aS)):=by
 have l1:=r1.length;have l2:=r2.length;rw [il] at h1 h2;have g1:xs[j]?=some (xs.getD j .aS):=by rw [Cg,kF (by lia)];rfl
 have g2:ys[j]?=some (ys.getD j .aS):=by rw [Cg,kF (by lia)];rfl
 obtain ⟨u,hu,ru⟩:=r1.get g1;obtain ⟨v,hv,rv⟩:=r2.get g2;have e1:us.toArray[j]=u:=by
  have:=(gQ.mp hu).2;simpa using this
 have e2:vs.toArray[j]=v:=by
  have:=(gQ.mp hv).2;simpa using this
 rw [e1,e2];exact Mv ru rv (Dl f1 g1) (Dl f2 g2)
section
variable {X:Cx} {K:aA}
end
section
variable {X:Cx} {K:aA}
end
section
variable {X:Cx} {Ri:List (Addr×Obj)} {Ex:Addr->Option Addr->St->Hp->Prop} {k:Nat} {f:Addr} {fd:FuncData} {ps:List Str} {sp:Sp} {iY:List V} {ds:List Value} {x:Str} {p pos:Pos} {e:Expr} {es:List Expr} {t:TA}
end
noncomputable def ZK (t u:TS):TS:=fun D σ H=>∀N:St->Hp->Prop,(∀aa H',u D aa H'->N aa H')->t { D with nx:=N } σ H
theorem cx {X:Cx} {st:Stmt} {rest:List Stmt} {t u:TS} (h1:PS X st t) (h2:gp X rest u):gp X (st::rest) (ZK t u):=fun pins s σ H D I h=>aZ h1 h2 pins s σ H D I (h (u D) fun _ _ z=>z)
noncomputable def zZ:R2:=fun x y H Q=>∃p xs i v,x=.ref p/\y=.int i/\H p=some (.lst xs)/\iI xs i=some v/\Q v H
noncomputable def CB:R2:=fun x y H Q=>∃p xs i v,x=.ref p/\y=.int i/\H p=some (.tup xs)/\iI xs i=some v/\Q v H
theorem dS:yk X zZ:=by
 intro value slice pins s σ H x y v u Q I rx ry zz hs;obtain ⟨p,xs,i,v',e1,e2,h,e,q⟩:=zz;exact Hj value slice pins s σ H x y v u Q I rx ry ⟨p,xs,i,v',e1,e2,ax.of h,e,q⟩ hs
theorem UC:yk X CB:=by
 intro value slice pins s σ H x y v u Q I rx ry zz hs;obtain ⟨p,xs,i,v',e1,e2,h,e,q⟩:=zz;exact Mz value slice pins s σ H x y v u Q I rx ry ⟨p,xs,i,v',e1,e2,c_.of h,e,q⟩ hs
theorem a8 {X:Cx} {a:Expr} {ta:TE} {k:Int} {j pos me} (h:PE X a ta):PE X (.Subscript a (.Constant (.int k) j me) pos) (pZ CB ta (tC (.int k))):=dh UC h aw (fun _ _=>rfl)
theorem ay (h:H p=some (.tup xs)) (e:iI xs i=some v) (q:Q v H):tC (.int i) σ H fun y H2=>CB (.ref p) y H2 Q:=⟨p,xs,i,v,rfl,rfl,h,e,q⟩
theorem jL (h:H p=some (.lst xs)) (e:iI xs i=some v) (q:Q v H):tC (.int i) σ H fun y H2=>zZ (.ref p) y H2 Q:=⟨p,xs,i,v,rfl,rfl,h,e,q⟩
theorem oR (h0:σ[j]?=some (some (.int i))) (h:H p=some (.lst xs)) (e:iI xs i=some v) (q:Q v H):rf j σ H fun y H2=>zZ (.ref p) y H2 Q:=⟨.int i,h0,p,xs,i,v,rfl,rfl,h,e,q⟩
end L2
namespace MA
noncomputable def it (f:Nat->Nat):Nat->Nat->Nat
 | 0,x=>x
 | k+1,x=>f (it f k x)
theorem yD (f:Nat->Nat) (a:Nat):∀(b:Nat) (x:Nat),it f (a+b) x=it f a (it f b x):=by
 intro b x
 induction a with
 | zero=>rw [Nat.zero_add];rfl
 | succ a ih=>rw [Nat.succ_add];show f (it f (a+b) x)=f (it f a (it f b x));rw [ih]
theorem zW (h:∀x,x<n->f x<n) (hx:x<n):∀k,it f k x<n
 | 0=>hx
 | k+1=>h _ (zW h hx k)
theorem NG (h:∀x,x<n->f x<n) (hx:x<n):∃p,1<=p/\p<=n/\it f p (it f n x)=it f n x:=by
 have nn:¬((List.range (n+1)).map fun k=>it f k x).Nodup:=fun nd=>by
  have:=List.Nodup.length_le_of_subset nd (l₂:=List.range n) (fun y hy=>by
   obtain ⟨k,_,rfl⟩:=eB.mp hy;exact List.mem_range.mpr (zW h hx k))
  simp at this;exact False.elim (j9 n this)
 have ex:∃i j,i<j/\j<=n/\it f i x=it f j x:=by
  apply fg;intro no;apply nn;rw [List.nodup_iff_pairwise_ne,List.pairwise_map];refine List.Pairwise.imp_of_mem (R:=(·<·)) (fun {a b} _ hb lN e=>no ⟨a,b,lN,?_,e⟩) List.pairwise_lt_range;have:=List.mem_range.mp hb;exact Nat.le_of_lt_succ this
 obtain ⟨i,j,ff,hj,e⟩:=ex;refine ⟨j-i,by lia,by lia,?_⟩;have e1:it f n x=it f (n-i) (it f i x):=by rw [<-yD];congr 1;lia
 have e2:it f (j-i) (it f n x)=it f (n-i) (it f j x):=by rw [<-yD,<-yD];congr 1;lia
 rw [e2,e1,e]
end MA
namespace MB
open MA
noncomputable abbrev B3:=Nat×Nat×Int
structure Rx where
 t:Nat->Int
 p:Nat->Nat
 q:Option Nat
noncomputable def put (f:Nat->α) (i:Nat) (v:α):Nat->α:=fun j=>if j=i then v else f j
noncomputable def fz (s:Rx) (x:B3):Rx:=if s.t x.1<s.t x.2.1-x.2.2 then ⟨put s.t x.1 (s.t x.2.1-x.2.2),put s.p x.1 x.2.1,some x.1⟩ else s
noncomputable def begin (s:Rx):Rx:=⟨s.t,s.p,none⟩
noncomputable def Zs (B:List B3) (s:Rx):Rx:=B.foldl fz (begin s)
noncomputable def bb (B:List B3):Nat->Rx
 | 0=>⟨fun _=>0,fun _=>0,none⟩
 | k+1=>Zs B (bb B k)
noncomputable def Co (n:Nat) (B:List B3):Prop:=∀x∈B,x.1<n/\x.2.1<n
structure Rx.In (s:Rx) (n:Nat):Prop where
 p:∀i,s.p i<n
 q:∀i,s.q=some i->i<n
theorem VR (h:s.In n) (h1:x.1<n) (h2:x.2.1<n):(fz s x).In n:=by
 unfold fz;split
 ·refine ⟨fun i=>?_,fun i e=>?_⟩
  ·show put s.p x.1 x.2.1 i<n;unfold put;split
   ·exact h2
   ·exact h.p i
  ·have:x.1=i:=eT e;lia
 ·exact h
theorem Nk:∀{B:List B3} {s:Rx},s.In n->Co n B->(B.foldl fz s).In n
 | [],_,h,_=>h
 | x::B,s,h,hb=>by
  rw [List.foldl_cons];exact Nk (VR h (hb x eD).1 (hb x eD).2) fun y hy=>hb y (gz _ hy)
theorem V1 (h:s.In n):(begin s).In n:=⟨h.p,fun _ e=>nomatch e⟩
theorem Dx (hn:0<n) (hb:Co n B):∀k,(bb B k).In n
 | 0=>⟨fun _=>hn,fun _ e=>nomatch e⟩
 | k+1=>Nk (V1 (Dx hn hb k)) hb
noncomputable def CG (f:Nat->Nat) (n x:Nat) (ring:List Nat):Prop:=∃L,1<=L/\L<=n/\ring=(List.range L).map (fun j=>it f j (it f n x))/\it f L (it f n x)=it f n x/\∀j,0<j->j<L->it f j (it f n x)≠it f n x
structure Gh where
 s:Rx
 m:Nat->Int
 τ:Nat->Nat
 r:Nat->Nat
 c:Nat
noncomputable def iQ (k:Nat) (g:Gh) (x:B3):Gh:=if g.s.t x.1<g.s.t x.2.1-x.2.2 then ⟨fz g.s x,put g.m x.1 x.2.2,put g.τ x.1 (g.c+1),put g.r x.1 k,g.c+1⟩ else g
noncomputable def Tt (B:List B3) (k:Nat) (g:Gh):Gh:=B.foldl (iQ k) { g with s:=begin g.s }
noncomputable def uN (B:List B3):Nat->Gh
 | 0=>⟨⟨fun _=>0,fun _=>0,none⟩,fun _=>0,fun _=>0,fun _=>0,0⟩
 | k+1=>Tt B (k+1) (uN B k)
theorem VQ:(iQ k g x).s=fz g.s x:=by
 unfold iQ;split
 ·rfl
 ·rename_i h
  unfold fz;rw [if_neg h]
theorem Nj:∀{B:List B3} {g:Gh},(B.foldl (iQ k) g).s=B.foldl fz g.s
 | [],_=>rfl
 | x::B,g=>by rw [List.foldl_cons,List.foldl_cons,Nj,VQ]
theorem P6:∀k,(uN B k).s=bb B k
 | 0=>rfl
 | k+1=>by
  show (B.foldl (iQ (k+1)) { uN B k with s:=begin (uN B k).s }).s=B.foldl fz (begin (bb B k));rw [Nj,P6 k]
structure Inv (B:List B3) (k:Nat) (g:Gh):Prop where
 mem:∀v,1<=g.r v->(v,g.s.p v,g.m v)∈B
 le:∀v,1<=g.r v->g.s.t v<=g.s.t (g.s.p v)-g.m v
 st:∀v,1<=g.r v->g.s.p v≠v->g.s.t v<g.s.t (g.s.p v)-g.m v\/g.τ (g.s.p v)<g.τ v
 lo:∀v,1<=g.r v->g.s.p v=v->g.m v<0
 cl:∀v,g.τ v<=g.c
 rr:∀v,g.r v<=k
 ch:∀v,1<=g.r v->g.r v<=g.r (g.s.p v)+1
 bd:∀x∈B,g.s.t x.2.1-x.2.2<=g.s.t x.1\/k<=g.r x.2.1+1
 q:∀v,g.s.q=some v->g.r v=k
theorem HY (h:Inv B k g) (hk:1<=k) (hx:x∈B):Inv B k (iQ k g x):=by
 obtain ⟨a,b,m⟩:=x
 by_cases hc:g.s.t a<g.s.t b-m
 ·have e:iQ k g (a,b,m)=⟨⟨put g.s.t a (g.s.t b-m),put g.s.p a b,some a⟩,put g.m a m,put g.τ a (g.c+1),put g.r a k,g.c+1⟩:=by
   unfold iQ;rw [if_pos hc];unfold fz;rw [if_pos hc]
  rw [e];have hb1:=(h.bd (a,b,m) hx).resolve_left (by show ¬g.s.t b-m<=g.s.t a;exact Int.not_le.mpr hc);have nK:k<=g.r b+1:=hb1;have up:∀v,g.s.t v<=put g.s.t a (g.s.t b-m) v:=fun v=>by
   unfold put;split
   ·rename_i z;rw [z];exact fV hc
   ·lia
  have IE:∀v,g.r v<=put g.r a k v:=fun v=>by
   unfold put;split
   ·rename_i z;rw [z];exact h.rr a
   ·exact Nat.le.refl
  refine ⟨fun v hv=>?_,fun v hv=>?_,fun v hv hp=>?_,fun v hv hp=>?_,fun v=>?_,fun v=>?_,fun v hv=>?_,fun y hy=>?_,fun v hv=>?_⟩
  ·by_cases e:v=a
   ·subst e;simp [put];exact hx
   ·simp only [put,if_neg e] at hv ⊢;exact h.mem v hv
  ·by_cases e:v=a
   ·subst e;have:=up b;simp only [put,if_pos] at this ⊢;lia
   ·simp only [put,if_neg e] at hv ⊢;have h1:=h.le v hv;have h2:=up (g.s.p v);simp only [put] at h2;lia
  ·by_cases e:v=a
   ·subst e;have gO:b≠v:=by simpa [put] using hp
    right;have h1:=h.cl b;simp only [put,if_pos,if_neg gO];lia
   ·simp only [put,if_neg e] at hv hp ⊢
    by_cases e2:g.s.p v=a
    ·left;have h1:=h.le v hv;rw [e2] at h1 ⊢;simp only [if_pos];lia
    ·rw [if_neg e2,if_neg e2];exact h.st v hv hp
  ·by_cases e:v=a
   ·subst e;have gO:b=v:=by simpa [put] using hp
    subst gO;simp only [put,if_pos];lia
   ·simp only [put,if_neg e] at hv hp ⊢;exact h.lo v hv hp
  ·have h1:=h.cl v;show put g.τ a (g.c+1) v<=g.c+1;unfold put;split<;>lia
  ·have h1:=h.rr v;show put g.r a k v<=k;unfold put;split<;>lia
  ·by_cases e:v=a
   ·subst e;have h2:=IE b;show put g.r v k v<=put g.r v k (put g.s.p v b v)+1;have e1:put g.r v k v=k:=by simp [put]
    have e2:put g.s.p v b v=b:=by simp [put]
    rw [e1,e2];lia
   ·have e1:put g.r a k v=g.r v:=by simp [put,e]
    have e2:put g.s.p a b v=g.s.p v:=by simp [put,e]
    show put g.r a k v<=put g.r a k (put g.s.p a b v)+1;have fG:1<=g.r v:=by rw [<-e1];exact hv
    have h1:=h.ch v fG;have h2:=IE (g.s.p v);rw [e1,e2];lia
  ·obtain ⟨a',b',m'⟩:=y;show put g.s.t a (g.s.t b-m) b'-m'<=put g.s.t a (g.s.t b-m) a'\/k<=put g.r a k b'+1
   by_cases e:b'=a
   ·right;have:put g.r a k b'=k:=by simp [put,e]
    lia
   ·have e1:put g.s.t a (g.s.t b-m) b'=g.s.t b':=by simp [put,e]
    rcases h.bd (a',b',m') hy with z | z
    ·left;have h2:=up a';rw [e1];lia
    ·right;have h2:=IE b';lia
  ·have:a=v:=eT hv;subst this;simp [put]
 ·have e:iQ k g (a,b,m)=g:=by
   unfold iQ;rw [if_neg hc]
  rw [e];exact h
noncomputable def yn (k:Nat) (g:Gh) (x:B3):Prop:=g.s.t x.2.1-x.2.2<=g.s.t x.1\/k<=g.r x.2.1
theorem W' (hr:∀v,g.r v<=k) (h:yn k g y):yn k (iQ k g x) y:=by
 obtain ⟨a,b,m⟩:=x;obtain ⟨a',b',m'⟩:=y
 by_cases hc:g.s.t a<g.s.t b-m
 ·have e:iQ k g (a,b,m)=⟨⟨put g.s.t a (g.s.t b-m),put g.s.p a b,some a⟩,put g.m a m,put g.τ a (g.c+1),put g.r a k,g.c+1⟩:=by
   unfold iQ;rw [if_pos hc];unfold fz;rw [if_pos hc]
  rw [e];show put g.s.t a (g.s.t b-m) b'-m'<=put g.s.t a (g.s.t b-m) a'\/k<=put g.r a k b'
  by_cases e:b'=a
  ·right;simp [put,e]
  ·have e1:put g.s.t a (g.s.t b-m) b'=g.s.t b':=by simp [put,e]
   have e2:put g.r a k b'=g.r b':=by simp [put,e]
   have up:g.s.t a'<=put g.s.t a (g.s.t b-m) a':=by
    unfold put;split
    ·rename_i z;rw [z];exact fV hc
    ·lia
   rcases h with z | z
   ·left;rw [e1];lia
   ·right;rw [e2];exact z
 ·have e:iQ k g (a,b,m)=g:=by
   unfold iQ;rw [if_neg hc]
  rw [e];exact h
theorem Wr:yn k (iQ k g x) x:=by
 obtain ⟨a,b,m⟩:=x
 by_cases hc:g.s.t a<g.s.t b-m
 ·have e:iQ k g (a,b,m)=⟨⟨put g.s.t a (g.s.t b-m),put g.s.p a b,some a⟩,put g.m a m,put g.τ a (g.c+1),put g.r a k,g.c+1⟩:=by
   unfold iQ;rw [if_pos hc];unfold fz;rw [if_pos hc]
  rw [e];show put g.s.t a (g.s.t b-m) b-m<=put g.s.t a (g.s.t b-m) a\/k<=put g.r a k b
  by_cases e:b=a
  ·right;simp [put,e]
  ·left;simp [put,e]
 ·have e:iQ k g (a,b,m)=g:=by
   unfold iQ;rw [if_neg hc]
  rw [e];left;show g.s.t b-m<=g.s.t a;lia
theorem HJ (hk:1<=k):∀(C:List B3) (g:Gh),(∀x∈C,x∈B)->Inv B k g->Inv B k (C.foldl (iQ k) g)
 | [],_,_,h=>h
 | x::C,_,hc,h=>HJ hk C _ (fun y hy=>hc y (gz _ hy)) (HY h hk (hc x eD))
theorem OS (hk:1<=k):∀(C:List B3) (g:Gh),(∀x∈C,x∈B)->Inv B k g->yn k g y->yn k (C.foldl (iQ k) g) y
 | [],_,_,_,h=>h
 | x::C,_,hc,hi,h=>OS hk C _ (fun y hy=>hc y (gz _ hy)) (HY hi hk (hc x eD)) (W' hi.rr h)
theorem OR (hk:1<=k):∀(C:List B3) (g:Gh),(∀x∈C,x∈B)->Inv B k g->∀y∈C,yn k (C.foldl (iQ k) g) y
 | x::C,g,hc,hi,y,hy=>by
  have ko:=HY hi hk (hc x eD);have jf:∀z∈C,z∈B:=fun z hz=>hc z (gz _ hz);rcases eS.mp hy with e | e
  ·subst e;exact OS hk C _ jf ko Wr
  ·exact OR hk C _ jf ko y e
theorem PK:∀k,Inv B (k+1) { uN B k with s:=begin (uN B k).s }
 | 0=>⟨fun v hv=>absurd hv (by show ¬1<=0;lia),fun v hv=>absurd hv (by show ¬1<=0;lia),fun v hv=>absurd hv (by show ¬1<=0;lia),fun v hv=>absurd hv (by show ¬1<=0;lia),fun v=>az _,fun _=>d9 _,fun v hv=>absurd hv (by show ¬1<=0;lia),
  fun x _=>.inr (by show 0+1<=0+1;exact Nat.le.refl),fun v hv=>by cases hv⟩
 | k+1=>by
  have h0:=PK (B:=B) k;have h1:=HJ (B:=B) (by lia) B _ (fun x hx=>hx) h0;have hd:=OR (B:=B) (by lia) B _ (fun x hx=>hx) h0;exact ⟨h1.mem,h1.le,h1.st,h1.lo,h1.cl,fun v=>Nat.le_succ_of_le (h1.rr v),h1.ch,fun x hx=>(hd x hx).elim .inl fun z=>.inr (Nat.succ_le_succ z),fun v hv=>by cases hv⟩
theorem Xu (k:Nat):Inv B (k+1) (uN B (k+1)):=HJ (B:=B) (by lia) B _ (fun x hx=>hx) (PK k)
noncomputable def rp (p:Nat->Nat) (f:Nat->Int):Nat->Nat->Int
 | 0,_=>0
 | j+1,s=>rp p f j s+f (it p j s)
theorem VT (hn:1<=n) (hb:Co n B) (hq:(bb B n).q=some x) (hr:CG (bb B n).p n x ring):
 ∃(L s:Nat) (m:Nat->Int),1<=L/\L<=n/\ring=(List.range L).map (fun j=>it (bb B n).p j s)/\it (bb B n).p L s=s/\(∀j,j<L->(it (bb B n).p j s,it (bb B n).p (j+1) s,m (it (bb B n).p j s))∈B)/\rp (bb B n).p m L s<0:=by
 obtain ⟨k,rfl⟩:∃k,n=k+1:=⟨n-1,by lia⟩;have I:=Xu (B:=B) k;have es:=P6 (B:=B) (k+1);rw [<-es] at hq hr ⊢;generalize uN B (k+1)=g at*;have gx:g.s.In (k+1):=by rw [es];exact Dx (by exact hn) hb _
 have hx:x<k+1:=gx.q x hq;have zj:g.r x=k+1:=I.q x hq;have step:∀j,j<=k->k+1<=g.r (it g.s.p j x)+j:=fun j=>by
  induction j with
  | zero=>intro _;show k+1<=g.r x+0;lia
  | succ j ih=>
   intro hj;have h1:=ih (by exact bo hj);have h2:=I.ch (it g.s.p j x) (by lia);show k+1<=g.r (g.s.p (it g.s.p j x))+(j+1);lia
 have lt:∀j,it g.s.p j x<k+1:=fun j=>zW (fun y _=>gx.p y) hx j;have among:∀j,∃i,i<=k/\it g.s.p j x=it g.s.p i x:=by
  have ex:∃i j,i<j/\j<=k+1/\it g.s.p i x=it g.s.p j x:=by
   apply fg;intro no;have nd:((List.range (k+1+1)).map fun j=>it g.s.p j x).Nodup:=by
    rw [List.nodup_iff_pairwise_ne,List.pairwise_map];refine List.Pairwise.imp_of_mem (R:=(·<·)) (fun {a b} _ hb lN e=>no ⟨a,b,lN,?_,e⟩) List.pairwise_lt_range;have:=List.mem_range.mp hb;lia
   have:=List.Nodup.length_le_of_subset nd (l₂:=List.range (k+1)) (fun y hy=>by
    obtain ⟨j,_,rfl⟩:=eB.mp hy;exact List.mem_range.mpr (lt j))
   simp at this;exact False.elim (j9 k this)
  obtain ⟨i,j,ff,hj,e⟩:=ex;intro d
  induction d with
  | zero=>exact ⟨0,d9 _,rfl⟩
  | succ d ih=>
   obtain ⟨c,hc,ec⟩:=ih
   by_cases h:c+1<=k
   ·exact ⟨c+1,h,congrArg g.s.p ec⟩
   ·
    have hck:c=k:=by lia
    subst hck;have e2:it g.s.p (c+1) x=it g.s.p (i+(c+1-j)) x:=by
     have a1:it g.s.p (c+1) x=it g.s.p (c+1-j) (it g.s.p j x):=by rw [<-yD];congr 1;omega
     have a2:it g.s.p (i+(c+1-j)) x=it g.s.p (c+1-j) (it g.s.p i x):=by rw [<-yD];congr 1;lia
     rw [a1,a2,e]
    exact ⟨i+(c+1-j),by omega,(congrArg g.s.p ec).trans e2⟩
 have wR:∀j,1<=g.r (it g.s.p j x):=fun j=>by
  obtain ⟨i,hi,e⟩:=among j;rw [e];have:=step i hi;lia
 obtain ⟨L,L1,Ln,er,eL,df⟩:=hr;have pS:∀j,1<=g.r (it g.s.p j (it g.s.p (k+1) x)):=fun j=>by rw [<-yD];exact wR _
 generalize it g.s.p (k+1) x=s at*;refine ⟨L,s,g.m,L1,Ln,er,eL,fun j _=>I.mem _ (pS j),?_⟩;have IJ:∀j,rp g.s.p g.m j s<=g.s.t (it g.s.p j s)-g.s.t s:=fun j=>by
  induction j with
  | zero=>show (0:Int)<=g.s.t s-g.s.t s;lia
  | succ j ih=>
   have h1:=I.le _ (pS j);show rp g.s.p g.m j s+g.m (it g.s.p j s)<=g.s.t (g.s.p (it g.s.p j s))-g.s.t s;lia
 by_cases hL:L=1
 ·subst hL;have h1:=I.lo s (pS 0) eL;show (0:Int)+g.m s<0;lia
 ·
  have alt:∀j,j<=L->rp g.s.p g.m j s<g.s.t (it g.s.p j s)-g.s.t s\/g.τ (it g.s.p j s)+j<=g.τ s:=fun j=>by
   induction j with
   | zero=>intro _;right;show g.τ s+0<=g.τ s;exact Nat.le.refl
   | succ j ih=>
    intro hj;have hnj:g.s.p (it g.s.p j s)≠it g.s.p j s:=fun z=>by
     have fq:∀d,it g.s.p (j+d) s=it g.s.p j s:=fun d=>by
      induction d with
      | zero=>rfl
      | succ d ih2=>show g.s.p (it g.s.p (j+d) s)=_;rw [ih2];exact z
     have e1:=fq (L-j);rw [show j+(L-j)=L by lia,eL] at e1;have e2:it g.s.p 1 s=s:=by
      show g.s.p s=s;have z':=z;rw [<-e1] at z';exact z'
     exact df 1 (by exact Nat.le.refl) (by lia) e2
    have h1:=I.le _ (pS j);rcases ih (by exact bo hj) with h2 | h2
    ·left;show rp g.s.p g.m j s+g.m (it g.s.p j s)<g.s.t (g.s.p (it g.s.p j s))-g.s.t s;lia
    ·rcases I.st _ (pS j) hnj with h3 | h3
     ·left;have h4:=IJ j;show rp g.s.p g.m j s+g.m (it g.s.p j s)<g.s.t (g.s.p (it g.s.p j s))-g.s.t s;lia
     ·right;show g.τ (g.s.p (it g.s.p j s))+(j+1)<=g.τ s;lia
  rcases alt L (az _) with h | h
  ·rw [eL] at h;lia
  ·rw [eL] at h;lia
theorem Wc {B:List B3} {p:Nat->Nat} {L s:Nat} {m:Nat->Int} (eL:it p L s=s) (hm:∀j,j<L->(it p j s,it p (j+1) s,m (it p j s))∈B) (hs:rp p m L s<0) (t:Nat->Int) (ht:∀x∈B,t x.2.1-t x.1<=x.2.2):False:=by
 have:∀j,j<=L->t (it p j s)-t s<=rp p m j s:=fun j=>by
  induction j with
  | zero=>intro _;show t s-t s<=0;lia
  | succ j ih=>
   intro hj;have h1:=ih (by exact bo hj);have h2:t (it p (j+1) s)-t (it p j s)<=m (it p j s):=ht _ (hm j (by exact hj));show t (it p (j+1) s)-t s<=rp p m j s+m (it p j s);lia
 have h:=this L (az _);rw [eL] at h;lia
theorem Wa {B:List B3} {n:Nat} (hn:1<=n) (hb:Co n B):(∃k,k<n/\(bb B (k+1)).q=none)\/((∀k,k<n->(bb B (k+1)).q≠none)/\¬∃p:Nat->Int,∀x∈B,p x.2.1-p x.1<=x.2.2):=by
 by_cases h:∃k,k<n/\(bb B (k+1)).q=none
 ·exact .inl h
 ·have lj:∀k,k<n->(bb B (k+1)).q≠none:=fun k hk e=>h ⟨k,hk,e⟩;refine .inr ⟨lj,?_⟩;rintro ⟨p,hp⟩;have hq:=lj (n-1) (by omega);rw [show n-1+1=n by lia] at hq
  cases hx:(bb B n).q with
  | none=>exact hq hx
  | some x=>
   have gx:=Dx (n:=n) (by exact hn) hb n;obtain ⟨za,h1,h2,h3⟩:=NG (fun y _=>gx.p y) (gx.q x hx);have least:∃L,1<=L/\L<=n/\it (bb B n).p L (it (bb B n).p n x)=it (bb B n).p n x/\∀j,0<j->j<L->it (bb B n).p j (it (bb B n).p n x)≠it (bb B n).p n x:=by
    have:∀d L,1<=L->L<=n->L<=d->it (bb B n).p L (it (bb B n).p n x)=it (bb B n).p n x->∃L,1<=L/\L<=n/\it (bb B n).p L (it (bb B n).p n x)=it (bb B n).p n x/\∀j,0<j->j<L->it (bb B n).p j (it (bb B n).p n x)≠it (bb B n).p n x:=by
     intro d
     induction d with
     | zero=>intro L a _ b;lia
     | succ d ih=>
      intro L a1 a2 a3 a4
      by_cases z:∀j,0<j->j<L->it (bb B n).p j (it (bb B n).p n x)≠it (bb B n).p n x
      ·exact ⟨L,a1,a2,a4,z⟩
      ·have:∃j,0<j/\j<L/\it (bb B n).p j (it (bb B n).p n x)=it (bb B n).p n x:=by
        apply fg;intro no;exact z fun j b1 b2 b3=>no ⟨j,b1,b2,b3⟩
       obtain ⟨j,b1,b2,b3⟩:=this;exact ih j b1 (by lia) (by lia) b3
    exact this n za h1 h2 h2 h3
   obtain ⟨L,l1,l2,l3,l4⟩:=least;obtain ⟨L',s,m,_,_,_,e1,e2,e3⟩:=VT (n:=n) (x:=x) hn hb hx ⟨L,l1,l2,rfl,l3,l4⟩;exact Wc e1 e2 e3 p hp
end MB
namespace Y0
open PySem L2
noncomputable def top (i:Nat):Stmt:=PySem.Challenge.pw_momentties_k17_looser_is_kept_too.main.body.getD i (.Pass ⟨0,0,0,0⟩)
noncomputable abbrev cK:Stmt:=lY (top 3) 0
noncomputable abbrev c7:Stmt:=top 5
noncomputable abbrev cz:Stmt:=top 6
noncomputable abbrev c9:Stmt:=top 7
noncomputable abbrev bG:Stmt:=top 8
noncomputable abbrev c8:Stmt:=top 9
noncomputable abbrev bE:Stmt:=top 10
noncomputable abbrev bq:Stmt:=top 12
noncomputable abbrev eG:Stmt:=top 13
noncomputable abbrev bX:Stmt:=top 16
noncomputable abbrev eY:Stmt:=top 17
noncomputable abbrev dJ:Stmt:=top 18
noncomputable abbrev dH:Stmt:=top 19
noncomputable abbrev dG:Stmt:=top 20
noncomputable abbrev dM:Stmt:=top 21
noncomputable abbrev dm:Stmt:=top 22
noncomputable abbrev br:Stmt:=top 23
noncomputable abbrev bh:Stmt:=top 24
noncomputable abbrev cO:Stmt:=lY (top 26) 0
noncomputable abbrev cf:Stmt:=lY (top 26) 1
noncomputable abbrev cL:Stmt:=lY (top 26) 2
noncomputable abbrev bY:Stmt:=lY (top 26) 3
noncomputable abbrev aY:Stmt:=lY (top 26) 4
noncomputable abbrev bj:Stmt:=lY (top 26) 5
noncomputable abbrev aV:Stmt:=lY (top 26) 6
noncomputable abbrev aR:Stmt:=lY (top 26) 7
noncomputable abbrev bP:Stmt:=lY (top 26) 8
noncomputable abbrev aP:Stmt:=lY (top 26) 9
noncomputable abbrev bx:Stmt:=top 27
noncomputable abbrev bH:Stmt:=top 28
noncomputable abbrev dF:Stmt:=top 29
noncomputable abbrev gB:Stmt:=top 30
noncomputable abbrev aN:Stmt:=top 36
noncomputable abbrev bC:Stmt:=top 37
noncomputable abbrev bz:Stmt:=top 38
noncomputable abbrev aL:Stmt:=top 39
noncomputable abbrev eK:Stmt:=lY (top 40) 0
noncomputable abbrev eJ:Stmt:=lY (top 40) 1
noncomputable abbrev dO:Stmt:=lY (top 40) 2
noncomputable abbrev cX:Stmt:=lY (top 40) 3
noncomputable abbrev iU:Stmt:=top 42
noncomputable abbrev jJ:Stmt:=top 43
noncomputable abbrev jK:Stmt:=top 44
noncomputable abbrev kS:Stmt:=top 45
noncomputable abbrev qd:Stmt:=top 46
noncomputable abbrev eZ:Stmt:=top 47
noncomputable abbrev gC:Stmt:=top 48
noncomputable abbrev qe:Stmt:=top 49
structure Fn (K:aA) (mg:Str->Option Value) (x:Str) (st:Stmt) (ps:List Str) (f:Addr) (fd:FuncData):Prop where
 F:gI K x x st f fd
 b:eW K fd ps []
 g:mg x=some (.ref f)
theorem b_ {X:Cx} {k:Nat} {f:Addr} {fd:FuncData} {ps:List Str} {sp:Sp} {x:Str} {st:Stmt} {e:Expr} {es:List Expr} {t:TA} {p pos:Pos} (G:aq X.prog X.w X.K X.mg X.base a9 k f fd ps sp) (hr:cU k X.A) (F:Fn X.K X.mg x st ps f fd) (ha:PA X (e::es) t) (hg:Gl X x:=by rfl) (my:(x==("__debug__":Str))=false:=by decide) (he:starEach (e::es) X.env=(false,eval e X.env)::starEach es X.env:=by rfl) (fe:(backTo pos (starEach es X.env)).any (·.1)=false:=by rfl):PE X (.Call (.Name x p) (e::es) [] pos) (FU sp [] E0 t):=Hn G hr hg F.g F.F.kp F.b .nil gu ha my he fe
end Y0
namespace L2
open PySem
noncomputable def cq (d:Addr) (H H':Hp):Prop:=∀b o,H b=some o->b≠d->H' b=some o
theorem cq.refl (d:Addr) (H:Hp):cq d H H:=fun _ _ e _=>e
theorem cq.trans (x:cq d H H1) (y:cq d H1 H2):cq d H H2:=fun b o e n=>y b o (x b o e n) n
theorem aH.keep (x:aH H H1):cq d H H1:=fun b o e _=>x b o e
theorem aG (h:H p=none):aH H (upd H p o):=fun b u e=>by rw [ao (aQ e h)];exact e
end L2
namespace Y0
open PySem L2
noncomputable def pI (K:aA) (H:Hp) (sa:Addr) (ns:List Int):Prop:=(∃o,H sa=some (.gG o (.lst (ns.map V.int))))\/
 ∃(o:Obj) (its:Array Value) (n:Nat),K.lookup sa=some o/\o.cls=.type "list"/\o.dict=none/\o.data=.seq its n/\its.size<=sizeLine/\bp (ns.map V.int) its.toList
theorem pI.sq {K:aA} (h:pI K H sa ns):ax K H sa (ns.map V.int):=by
 rcases h with ⟨o,h⟩ | h
 ·exact .inl (.inr ⟨o,h⟩)
 ·exact .inr h
theorem pI.same {K:aA} (h:pI K H sa ns) (k:aH H H1):pI K H1 sa ns:=by
 rcases h with ⟨o,h⟩ | h
 ·exact .inl ⟨o,k _ _ h⟩
 ·exact .inr h
theorem pI.keep {K:aA} (h:pI K H sa ns) (k:cq l H H1) (hl:H l=some (.lst xs)):pI K H1 sa ns:=by
 rcases h with ⟨o,h⟩ | h
 ·exact .inl ⟨o,k _ _ h (cQ h hl nofun)⟩
 ·exact .inr h
structure dC (K:aA) (sa:Addr) (H:Hp) (d:Addr):Prop where
 at_:∃p:Nat,H d=some (.lst [.ref sa,.int p])
 scr:∃ns:List Int,pI K H sa ns
theorem dC.same {K:aA} (x:dC K sa H d) (k:aH H H1):dC K sa H1 d:=by
 obtain ⟨⟨p,h⟩,⟨ns,r⟩⟩:=x;exact ⟨⟨p,k _ _ h⟩,⟨ns,r.same k⟩⟩
noncomputable def Al (K:aA):Sp:=fun vs H Q _=>∃d sa m,vs=[.ref d,.int m]/\dC K sa H d/\1<=m/\∀r H',0<=r->r<m->dC K sa H' d->cq d H H'->Q (.int r) H'
theorem scN:cE ["_law_dice","_law_many"] ["_law_dice","_law_many"] (aX iU):=cV
theorem tO (F:Fn K mg "_law_next" iU ["_law_dice","_law_many"] f fd) (len:mg "len"=none):aq P w K mg base a9 1 f fd ["_law_dice","_law_many"] (Al K):=by
 refine F.F.de scN fun _ A _ s H _ Q E hr h=>?_;obtain ⟨d,sa,m,rfl,D,hm,k⟩:=h;obtain ⟨⟨p,hd⟩,⟨ns,hs0⟩⟩:=id D;refine ⟨_,aZ (uG (bM g8 (dh dS (pv 0) aw) aw) (y8 (pv 0) aw yN))
  (aZ (dP (dj Mm (dh dS (pv 0) aw) (ju w9 (by rfl) len uu (bL (dh dS (pv 0) aw)))) (aE (cB aw)) dX)
  (aE (cB (bM GQ (dh Hj (dh dS (pv 0) aw) (bM iP (dh dS (pv 0) aw) aw)) (pv 1))))),?_⟩
 refine ⟨_,rfl,jL hd rfl ⟨_,_,rfl,rfl,_,rfl,_,_,_,_,rfl,rfl,hd,rfl,?_⟩⟩;have BJ:upd H d (.lst ([V.ref sa,V.int p].set 1 (.int ((p:Int)+1)))) d=some (.lst [.ref sa,.int ((p:Int)+1)]):=ai;have kp:cq d H (upd H d (.lst ([V.ref sa,V.int p].set 1 (.int ((p:Int)+1))))):=fun b o e n=>by rw [ao n];exact e
 have jQ:=hs0.keep kp hd;have RQ:=jQ.sq;have D1:dC K sa (upd H d (.lst ([V.ref sa,V.int p].set 1 (.int ((p:Int)+1))))) d:=⟨⟨p+1,BJ⟩,⟨ns,jQ⟩⟩;refine ⟨_,rfl,jL BJ rfl ⟨_,rfl,jL BJ rfl ⟨_,_,rfl,.inl RQ,_,_,rfl,rfl,_,rfl,?_⟩⟩⟩;refine hV (fun _=>?_) (fun hc=>?_)
 ·exact k 0 _ (Int.le_refl _) (by exact hm) D1 kp
 ·have bg:p<ns.length:=by
   rw [aD] at hc;simp only [yg] at hc;omega
  have ha:iI (ns.map V.int) ((p:Int)+1-1)=some (.int ns[p]):=by
   rw [show (p:Int)+1-1=((p:Nat):Int) by lia];exact kg (by rw [fv,kF bg];rfl)
  refine ⟨_,rfl,jL BJ rfl ⟨_,rfl,jL BJ rfl ⟨_,_,rfl,rfl,_,_,_,_,rfl,rfl,RQ,ha,_,rfl,_,_,rfl,rfl,(by show (0:Int)<m;exact hm),?_⟩⟩⟩;exact k _ _ (Int.emod_nonneg _ (by exact Int.ne_of_gt hm)) (Int.emod_lt_of_pos _ (by exact hm)) D1 kp
end Y0
namespace L2
open PySem
noncomputable def YL (t:TS):TS:=fun D σ H=>∃R:St->Hp->Prop,t { D with nx:=R } σ H/\∀aa H',R aa H'->D.nx aa H'
theorem yA (h:PS X st t):PS X st (YL t):=by
 intro pins s σ H D I hw;obtain ⟨R,h1,h2⟩:=hw;refine av (h pins s σ H _ I h1) fun f s1 q=>?_
 cases f with
 | next=>obtain ⟨aa,H',I',r⟩:=q;exact ⟨aa,H',I',h2 aa H' r⟩
 | brk=>exact q
 | cont=>exact q
 | ret v=>exact q
theorem Tq (h:PS X.zc st t):PS X st t:=fun pins s σ H D I hw=>
 wpAny_mono (h pins s σ H D (I.iT _) hw) (fun _ _ q=>q.dE) fun _ _ z=>False.elim z
noncomputable def fw (H:Hp) (a:Addr) (ps:List Addr) (rows:List (List Int)):Prop:=H a=some (.lst (ps.map V.ref))/\Paired (fun p r=>H p=some (.tup (r.map V.int))) ps rows
noncomputable def eF (H:Hp) (a:Addr) (rows:List (List Int)):Prop:=∃ps,fw H a ps rows
theorem gM (h:Paired F l m) (i:∀a b,F a b->G a b):Paired G l m:=Paired.xh h i
theorem fw.same (h:fw H a ps rows) (k:aH H H'):fw H' a ps rows:=⟨k _ _ h.1,gM h.2 fun _ _ e=>k _ _ e⟩
theorem fw.keep (h:fw H a ps rows) (k:cq d H H') (hd:H d=some (.lst xs)) (ne:a≠d):fw H' a ps rows:=
 ⟨k _ _ h.1 ne,gM h.2 fun _ _ e=>k _ _ e (cQ e hd nofun)⟩
theorem eF.same (h:eF H a rows) (k:aH H H'):eF H' a rows:=let ⟨ps,r⟩:=h;⟨ps,r.same k⟩
theorem eF.keep (h:eF H a rows) (k:cq d H H') (hd:H d=some (.lst xs)) (ne:a≠d):eF H' a rows:=let ⟨ps,r⟩:=h;⟨ps,r.keep k hd ne⟩
theorem fw.len (h:fw H a ps rows):ps.length=rows.length:=h.2.length
theorem fw.push (h:fw H a ps rows) (hp:H p=some (.tup (r.map V.int))):fw (upd H a (.lst (ps.map V.ref++[.ref p]))) a (ps++[p]) (rows++[r]):=by
 have na:∀q xs,H q=some (.tup xs)->q≠a:=fun q xs e=>cQ e h.1 nofun;refine ⟨by rw [ai,d_];rfl,Paired.snoc (gM h.2 fun q r e=>?_) ?_⟩
 ·rw [ao (na q _ e)];exact e
 ·rw [ao (na p _ hp)];exact hp
theorem oh (k:cq d H0 H) (h:H0 l=none):cq d H0 (upd H l o):=fun b u e n=>by
 rw [ao (aQ e h)];exact k b u e n
theorem cq.free (k:cq d H0 H) (h:H l=none) (hd:∃o,H d=some o):H0 l=none:=by
 cases q:H0 l with
 | none=>rfl
 | some o=>
  by_cases e:l=d
  ·subst e;obtain ⟨o',e'⟩:=hd;rw [h] at e';cases e'
  ·rw [k l o q e] at h;cases h
end L2
namespace Y0
open PySem L2
theorem dC.there {K:aA} (x:dC K sa H d):∃o,H d=some o:=let ⟨p,e⟩:=x.at_;⟨_,e⟩
theorem dC.upd {K:aA} (x:dC K sa H d) (hl:H l=some (.lst xs)) (hd:l≠d):dC K sa (upd H l o) d:=by
 obtain ⟨⟨p,h⟩,⟨ns,r⟩⟩:=x;exact ⟨⟨p,by rw [ao (aF hd)];exact h⟩,⟨ns,r.keep (fun b u e n=>by rw [ao n];exact e) hl⟩⟩
theorem dC.new {K:aA} (x:dC K sa H d) (hl:H l=none):dC K sa (L2.upd H l o) d:=x.same (aG hl)
noncomputable def g7 (m n t:Int):Int:=if m=0 then 0 else 1+(m-1+t) % (n-1)
noncomputable def N0:Sp:=fun vs H Q _=>∃m n t,vs=[.int m,.int n,.int t]/\2<=n/\Q (.int (g7 m n t)) H
theorem YC:cE ["_law_moment","_law_many","_law_turn"] ["_law_moment","_law_many","_law_turn"] (aX jJ):=cV
theorem qi (F:Fn K mg "_law_named" jJ ["_law_moment","_law_many","_law_turn"] f fd):aq P w K mg base a9 1 f fd ["_law_moment","_law_many","_law_turn"] N0:=by
 refine F.F.de YC fun _ A _ s H _ Q E hr h=>?_;obtain ⟨m,n,t,rfl,hn,k⟩:=h;refine ⟨_,aZ (dP (dj gr (pv 0) aw) (aE (cB aw)) dX)
  (aE (cB (bM g8 aw (bM GQ (bM g8 (bM iP (pv 0) aw) (pv 2)) (bM iP (pv 1) aw))))),?_⟩
 refine ⟨_,rfl,rfl,_,rfl,?_⟩;refine hV (fun hc=>?_) (fun hc=>?_)
 ·have e:m=0:=by simpa using hc
  have q:g7 m n t=0:=by unfold g7;rw [if_pos e]
  rw [q] at k;exact k
 ·have e:¬m=0:=by simpa using hc
  have q:g7 m n t=1+(m-1+t) % (n-1):=by unfold g7;rw [if_neg e]
  rw [q] at k;exact ⟨_,rfl,_,_,rfl,rfl,_,rfl,_,_,rfl,rfl,_,rfl,_,_,rfl,rfl,_,_,rfl,rfl,(by show (0:Int)<n-1;lia),_,_,rfl,rfl,k⟩
noncomputable def wy (n:Int) (c:Nat) (rows:List (List Int)):Prop:=∀(k:Nat) r,rows[k]?=some r->∃a l m:Int,r=[a,n-1-k,l,m]/\0<=a/\a<n-c/\1<=l/\l<=m/\m<=60
theorem wy.snoc (h:wy n c rows) (h1:0<=a) (h2:a<n-c) (h3:1<=l) (h4:l<=m) (h5:m<=60):wy n c (rows++[[a,n-1-rows.length,l,m]]):=by
 intro k r e
 by_cases hk:k<rows.length
 ·rw [r_ hk] at e;exact h k r e
 ·rw [qW (by exact mE hk)] at e;have pq:k-rows.length=0:=by
   cases q:k-rows.length with
   | zero=>rfl
   | succ z=>rw [q] at e;simp at e
  rw [pq] at e;cases e;have:k=rows.length:=by lia
  subst this;exact ⟨a,l,m,rfl,h1,h2,h3,h4,h5⟩
noncomputable def Cp (wd:Int) (rows:List (List Int)):Prop:=wd≠8->rows.length<=3/\∀r∈rows,r.getD 3 0-r.getD 2 0<wd
noncomputable def Nv (K:aA):Sp:=fun vs H Q _=>∃d sa n wd,vs=[.ref d,.int n,.int wd]/\dC K sa H d/\2<=n/\n<=8/\1<=wd/\wd<=8/\
 ∀(l:Addr) (c:Nat) rows H',(c:Int)<=n-1->rows.length=c->wy n c rows->eF H' l rows->H l=none->dC K sa H' d->cq d H H'->Cp wd rows->Q (.ref l) H'
noncomputable abbrev nF:List Str:=["_law_d","_law_many","_law_wide","_law_count","_law_falls_here","_law_k","_law_least","_law_most"]
theorem tj:cE nF ["_law_d","_law_many","_law_wide"] (aX jK):=cV
theorem qm (F:Fn K mg "_law_falls" jK ["_law_d","_law_many","_law_wide"] f fd) (FN:Fn K mg "_law_next" iU ["_law_dice","_law_many"] fN pA)
 (GN:aq P w K mg base a9 1 fN pA ["_law_dice","_law_many"] (Al K)) (min:mg "min"=none) (range:mg "range"=none):aq P w K mg base a9 2 f fd ["_law_d","_law_many","_law_wide"] (Nv K):=by
 refine F.F.de tj fun _ A _ s H _ Q E hr h=>?_;obtain ⟨d,sa,n,wd,rfl,D,xG,rR,qC,Kb,k⟩:=h;refine ⟨_,aZ (cA 3 tj.nd (b_ GN hr FN (bu (pv 0) (bM g8 (ju (yP rfl) (by rfl) min (by decide+kernel) (bu aw (bM iP (pv 1) aw))) aw))))
  (aZ (yA (dP (PW.pt (sL (dj gr (pv 2) aw) (sQ (dj gr (b_ GN hr FN (bu (pv 0) aw)) aw))))
   (aE (cA 3 tj.nd (b_ GN hr FN (bu (pv 0) (pv 1))))) dX))
  (aZ (cA 4 tj.nd (jl n_))
  (aZ (jt PassesOwn.never rfl (sW rfl range (bL (pv 3))) (bR 5 tj.nd)
   (aZ (cA 6 tj.nd (bM g8 aw (b_ GN hr FN (bu (pv 0) (pv 2)))))
   (aZ (cA 7 tj.nd (bM g8 (pv 6) (b_ GN hr FN (bu (pv 0) (pv 2)))))
   (aZ (yA (dP (PW.pt (sL (dj gr (pv 2) aw) (sQ (dj gr (b_ GN hr FN (bu (pv 0) aw)) aw))))
    (aZ (cA 6 tj.nd (bM g8 aw (b_ GN hr FN (bu (pv 0) aw))))
    (aE (cA 7 tj.nd (bM g8 (pv 6) (b_ GN hr FN (bu (pv 0) (bM iP aw (pv 6)))))))) dX))
   (aE (gK (rq sf qX se pQ (pv 4)
    (bL (dA (jw (b_ GN hr FN (bu (pv 0) (bM iP (pv 1) (pv 3)))) (bM iP (bM iP (pv 1) aw) (pv 5)) (pv 6) (pv 7)))))))))))
  (aE (cB (pv 4)))))),?_⟩
 refine ⟨_,rfl,_,rfl,_,_,rfl,rfl,_,_,rfl,_,_,rfl,rfl,d,sa,_,rfl,D,(by split<;>lia),fun c0 H1 BL xP D1 k1=>?_⟩;have Si:c0<=n-1:=by
  revert xP
  split<;>intro xP<;>lia
 have hc3:c0<=3:=by
  revert xP
  split<;>intro xP<;>lia
 refine ⟨fun aa H'=>∃c:Nat,(c:Int)<=n-1/\(wd≠8->c<=3)/\aa=[some (.ref d),some (.int n),some (.int wd),some (.int (c:Int)),none,none,none,none]/\dC K sa H' d/\cq d H H',?_,?_⟩
 ·
  refine ⟨_,rfl,rfl,_,rfl,?_⟩;refine hV (fun h8=>?_) (fun _=>?_)
  ·have h8:wd=8:=by simpa using h8
   refine ⟨_,rfl,d,sa,_,rfl,D1,by decide,fun r H2 _ _ D2 k2=>⟨rfl,_,rfl,?_⟩⟩;refine hV (fun _=>?_) (fun _=>?_)
   ·refine ⟨_,rfl,_,rfl,d,sa,_,rfl,D2,by exact fV xG,fun c H3 h0 h1 D3 k3=>⟨c.toNat,by lia,fun z=>absurd h8 z,?_,D3,(k1.trans k2).trans k3⟩⟩;rw [lR h0];rfl
   ·exact ⟨c0.toNat,by lia,fun z=>absurd h8 z,by rw [lR BL];rfl,D2,k1.trans k2⟩
  ·refine iq ?_;exact ⟨c0.toNat,by lia,fun _=>by lia,by rw [lR BL];rfl,D1,k1⟩
 ·rintro aa H2 ⟨c,hc,hcw,rfl,D2,k2⟩;refine ⟨d9 _,fun l hl=>?_⟩;have KI:H l=none:=k2.free hl D2.there;have ld:l≠d:=fun e=>by
   subst e;obtain ⟨o,q⟩:=D2.there;rw [hl] at q;cases q
  refine ⟨_,rfl,_,rfl,by exact Int.NonNeg.mk (c+Nat.succ 4611686018427387903),by lia,AA (n:=c) (fun i aa H'=>∃v1 v2 v3 ps rows,aa=[some (.ref d),some (.int n),some (.int wd),some (.int (c:Int)),some (.ref l),v1,v2,v3]/\fw H' l ps rows/\rows.length=i/\wy n c rows/\dC K sa H' d/\cq d H H'/\(wd≠8->∀r∈rows,r.getD 3 0-r.getD 2 0<wd))
   ⟨none,none,none,[],[],rfl,⟨ai,.nil⟩,rfl,(fun k r e=>by simp at e),D2.new hl,oh k2 KI,fun _ r hr=>nomatch hr⟩ ?_ ?_⟩
  ·rintro i aa H3 hi ⟨v1,v2,v3,ps,rows,rfl,R3,hlen,hF,D3,k3,m9⟩;have kl:∀{H4:Hp},cq d H3 H4->fw H4 l ps rows:=fun k4=>by
    obtain ⟨p,e⟩:=D3.at_;exact R3.keep k4 e ld
   refine ⟨_,rfl,_,rfl,d,sa,_,rfl,D3,qC,fun r1 H4 Ft Ly D4 k4=>⟨_,_,rfl,rfl,?_⟩⟩;refine ⟨_,rfl,_,rfl,_,rfl,d,sa,_,rfl,D4,qC,fun r2 H5 S0 Sz D5 k5=>⟨_,_,rfl,rfl,?_⟩⟩;refine ⟨fun aa H'=>∃a b:Int,1<=a/\a<=b/\b<=60/\(wd≠8->b-a<wd)/\aa=[some (.ref d),some (.int n),some (.int wd),some (.int (c:Int)),some (.ref l),some (.int (0+(i:Int))),some (.int a),some (.int b)]/\dC K sa H' d/\cq d H3 H',?_,?_⟩
   ·refine ⟨_,rfl,rfl,_,rfl,?_⟩;refine hV (fun h8=>?_) (fun _=>?_)
    ·have h8:wd=8:=by simpa using h8
     refine ⟨_,rfl,d,sa,_,rfl,D5,by decide,fun r H6 _ _ D6 k6=>⟨rfl,_,rfl,?_⟩⟩;refine hV (fun _=>?_) (fun _=>?_)
     ·refine ⟨_,rfl,d,sa,_,rfl,D6,by decide,fun r3 H7 h3a h3b D7 k7=>⟨_,_,rfl,rfl,?_⟩⟩;refine ⟨_,rfl,_,rfl,_,rfl,_,_,rfl,rfl,d,sa,_,rfl,D7,by lia,fun r4 H8 h4a h4b D8 k8=>⟨_,_,rfl,rfl,?_⟩⟩;exact ⟨1+r3,1+r3+r4,by lia,by lia,by lia,fun z=>absurd h8 z,rfl,D8,(((k4.trans k5).trans k6).trans k7).trans k8⟩
     ·exact ⟨1+r1,1+r1+r2,by lia,by lia,by lia,fun z=>absurd h8 z,rfl,D6,(k4.trans k5).trans k6⟩
    ·refine iq ?_;exact ⟨1+r1,1+r1+r2,by lia,by lia,by lia,fun _=>by lia,rfl,D5,k4.trans k5⟩
   ·rintro aa H6 ⟨a,b,ha,lN,hb,hba,rfl,D6,k6⟩;have R6:=kl k6;refine ⟨_,rfl,.inl ⟨rfl,_,ax.of R6.1⟩,?_⟩;refine ⟨_,rfl,_,rfl,_,rfl,_,_,rfl,rfl,d,sa,_,rfl,D6,by lia,fun r5 H7 h5a h5b D7 k7=>?_⟩;have R7:=kl (k6.trans k7);refine ⟨_,rfl,_,_,rfl,rfl,_,rfl,_,_,rfl,rfl,_,rfl,_,rfl,dc rfl,fun p hp=>?_⟩;have R8:=R7.same (aG (o:=.tup [.int r5,.int (n-1-(0+(i:Int))),.int a,.int b]) hp);refine ⟨l,_,_,rfl,rfl,R8.1,?_,?_⟩
    ·rw [aD,R8.len];exact gL (by lia)
    ·have e0:(0:Int)+(i:Int)=(rows.length:Int):=by rw [hlen];lia
     refine ⟨_,_,_,ps++[p],rows++[[r5,n-1-(0+(i:Int)),a,b]],rfl,R8.push ai,by rw [ik,hlen];rfl,?_,?_,?_,fun z r hr=>?_⟩
     ·rw [e0];exact hF.snoc h5a h5b ha lN hb
     ·exact (D7.new hp).upd R8.1 ld
     ·exact oh (oh ((k3.trans k6).trans k7) (((k3.trans k6).trans k7).free hp D7.there)) KI
     ·rcases i8.mp hr with y | y
      ·exact m9 z r y
      ·rw [iK.mp y];exact hba z
  ·rintro aa H3 ⟨v1,v2,v3,ps,rows,rfl,R3,hlen,hF,D3,k3,m9⟩;exact ⟨_,rfl,k l c rows H3 hc hlen hF ⟨ps,R3⟩ KI D3 k3 fun z=>⟨by rw [hlen];exact hcw z,m9 z⟩⟩
theorem HM {x n:Int} (h0:0<=x) (h1:x<2*n) (hn:0<n):x % n=if x<n then x else x-n:=by
 by_cases h:x<n
 ·rw [if_pos h,Int.emod_eq_of_lt h0 h]
 ·rw [if_neg h];have e:x % n=(x-n) % n:=by
   first
    | exact (Int.sub_emod_right x n).symm
    | (have:=Int.rZ (a:=x-n) (b:=n);rw [Int.sub_add_cancel] at this;exact this)
  rw [e,Int.emod_eq_of_lt (by lia) (by lia)]
theorem MS {xs:List Int} {i:Int} (h0:0<=i) (h1:i<xs.length):∃v,v∈xs/\iI (xs.map V.int) i=some (.int v):=by
 obtain ⟨j,rfl⟩:∃j:Nat,i=j:=⟨i.toNat,by lia⟩;have hi:j<xs.length:=by lia
 exact ⟨xs[j],zH hi,kg (by rw [fv,kF hi];rfl)⟩
noncomputable def u6 (n:Int) (r:List Int):Prop:=∃a b l m:Int,r=[a,b,l,m]/\0<=a/\a<n/\0<=b/\b<n/\a≠b/\-60<=l/\l<=m/\m<=60
noncomputable def MN (K:aA):Sp:=fun vs H Q _=>∃d sa n la wd,vs=[.ref d,.int n,.int la,.int wd]/\dC K sa H d/\2<=n/\n<=8/\1<=la/\la<=60/\1<=wd/\wd<=8/\
 ∀(l:Addr) rows H',rows.length<=12->(∀r∈rows,u6 n r)->eF H' l rows->H l=none->dC K sa H' d->cq d H H'->Q (.ref l) H'
noncomputable abbrev nT:List Str:=["_law_d","_law_many","_law_last","_law_wide","_law_ties_here","_law_k","_law_times","_law_count","_law_one","_law_other","_law_near","_law_least"]
theorem qc:cE nT ["_law_d","_law_many","_law_last","_law_wide"] (aX kS):=cV
theorem coT:iO (aX kS) nT (lP [(".0",.local),("_law_k",.local),("_law_next",.globalImplicit),("_law_d",.free),("_law_last",.free)]) ["_law_k","_law_d","_law_last"] [none,some 0,some 2]:=lQ
theorem ndT:(["_law_k","_law_d","_law_last"]:List Str).Nodup:=by decide+kernel
theorem tG (F:Fn K mg "_law_ties" kS ["_law_d","_law_many","_law_last","_law_wide"] f fd) (FN:Fn K mg "_law_next" iU ["_law_dice","_law_many"] fN pA)
 (GN:aq P w K mg base a9 1 fN pA ["_law_dice","_law_many"] (Al K)) (min:mg "min"=none) (max:mg "max"=none) (range:mg "range"=none):aq P w K mg base a9 2 f fd ["_law_d","_law_many","_law_last","_law_wide"] (MN K):=by
 refine F.F.de qc fun _ A _ s H _ Q E hr h=>?_;obtain ⟨d,sa,n,la,wd,rfl,D,xG,rR,lM,km,qC,_,k⟩:=h;refine ⟨_,cx (cA 4 qc.nd (jl n_))
  (cx (cA 6 qc.nd (bM uE (jl (bL aw)) (oY rfl (sW rfl range (bL (bM iP (pv 1) aw))) coT
   (fun cl ex s0 H0=>⟨bR 0 ndT,pT,b_ GN hr FN (bu (pv 1) (bM g8 (pv 2) aw))⟩))))
  (cx (cA 7 qc.nd (b_ GN hr FN (bu (pv 0) aw)))
  (cx (yA (dP (PW.pt (sL (dj gr (pv 3) aw) (sQ (dj gr (b_ GN hr FN (bu (pv 0) aw)) aw))))
   (aE (cA 7 qc.nd (b_ GN hr FN (bu (pv 0) aw)))) dX))
  (cx (jt PassesOwn.never rfl (sW rfl range (bL (pv 7))) (bR 5 qc.nd)
   (cx (cA 8 qc.nd (b_ GN hr FN (bu (pv 0) (pv 1))))
   (cx (cA 9 qc.nd (bM GQ (bM g8 (bM g8 (pv 8) aw) (b_ GN hr FN (bu (pv 0) (bM iP (pv 1) aw)))) (pv 1)))
   (cx (cA 10 qc.nd (bM iP (dh dS (pv 6) (pv 9)) (dh dS (pv 6) (pv 8))))
   (cx (yA (dP (dj gr (b_ GN hr FN (bu (pv 0) aw)) aw)
    (aE (cA 10 qc.nd (bM iP (b_ GN hr FN (bu (pv 0) (bM g8 (bM TJ aw (pv 2)) aw))) (pv 2)))) dX))
   (cx (cA 11 qc.nd (ju (HW rfl) (by rfl) max (by decide+kernel) (bu (sI sM aw) (bM iP (pv 10) (b_ GN hr FN (bu (pv 0) (bM g8 (pv 3) aw)))))))
   (aE (gK (rq sf qX se pQ (pv 4)
    (bL (dA (jw (pv 8) (pv 9) (pv 11) (ju (yP rfl) (by rfl) min (by decide+kernel) (bu aw (ju (HW rfl) (by rfl) max (by decide+kernel)
     (bu (pv 11) (bM g8 (pv 10) (b_ GN hr FN (bu (pv 0) (bM g8 (pv 3) aw))))))))))))))))))))
  (aE (cB (pv 4))))))),?_⟩
 refine fun M0 m0=>⟨d9 _,fun l hl=>m0 _ _ ?_⟩;clear m0 M0;have ld:l≠d:=fun e=>by
  subst e;obtain ⟨o,q⟩:=D.there;rw [hl] at q;cases q
 refine fun M0 m0=>⟨dc rfl,fun z hz=>?_⟩;refine ⟨_,rfl,_,_,rfl,rfl,_,rfl,by lia,by lia,fun Da cI=>?_⟩;have zl:z≠l:=aF (aQ (ai (H:=H) (a:=l) (o:=.lst [])) hz);have RI:H z=none:=by rw [ao zl] at hz;exact hz
 have L_:Da≠l:=aF (aQ (show upd (upd H l (.lst [])) z (.lst [.int 0]) l=some (.lst []) by rw [ao (aF zl),ai]) cI);have LZ:Da≠z:=aF (aQ (ai (H:=upd H l (.lst [])) (a:=z) (o:=.lst [.int 0])) cI);have uq:H Da=none:=by rw [ao LZ,ao L_] at cI;exact cI
 have nd:∀{a:Addr},H a=none->a≠d:=fun {a} e q=>by
  subst q;obtain ⟨o,q⟩:=D.there;rw [e] at q;cases q
 refine AD (n:=(n-1).toNat) (fun i aa H'=>∃v,∃ts:List Int,aa=[v,some (.ref d),some (.int la)]/\ts.length=i/\(∀t∈ts,0<=t/\t<=la)/\H' Da=some (.lst (ts.map V.int))/\H' l=some (.lst [])/\H' z=some (.lst [.int 0])/\dC K sa H' d/\cq d H H') ?_ ?_ ?_
 ·exact ⟨none,[],rfl,rfl,(fun t ht=>nomatch ht),ai,by rw [ao (aF L_),ao (aF zl),ai],by rw [ao (aF LZ),ai],((D.new hl).new hz).new cI,oh (oh (oh (cq.refl d H) hl) RI) uq⟩
 ·rintro i aa H3 hi ⟨v,ts,rfl,hlen,Kf,e1,e2,e3,D3,k3⟩;refine ⟨_,rfl,_,rfl,_,_,rfl,rfl,d,sa,_,rfl,D3,by lia,fun r H4 h0 h1 D4 k4=>?_⟩;have f1:=k4 _ _ e1 (nd uq);refine ⟨_,f1,?_,_,ts++[r],rfl,by rw [ik,hlen];rfl,fun t ht=>?_,?_,?_,?_,D4.upd f1 (nd uq),oh (k3.trans k4) uq⟩
  ·rw [aD];exact gL (by omega)
  ·rcases i8.mp ht with q | q
   ·exact Kf t q
   ·rw [iK.mp q];lia
  ·rw [ai,d_];rfl
  ·rw [ao (aF L_)];exact k4 _ _ e2 ld
  ·rw [ao (aF LZ)];exact k4 _ _ e3 (nd RI)
 ·rintro aa H3 ⟨v,ts,rfl,hlen,Kf,e1,e2,e3,D3,k3⟩;refine ⟨z,Da,_,_,rfl,rfl,e3,e1,?_,fun tl ph=>m0 _ _ ?_⟩
  ·rw [aD];exact bo (gL (by simp;omega))
  clear m0 M0;have jP:H tl=none:=k3.free ph D3.there;have QV:tl≠l:=aF (aQ e2 ph);obtain ⟨tt,lK,bg,gx⟩:∃tt:List Int,[V.int 0]++ts.map V.int=tt.map V.int/\(tt.length:Int)=n/\∀t∈tt,0<=t/\t<=la:=by
   refine ⟨0::ts,rfl,by rw [kD,hlen];omega,fun t ht=>?_⟩;rcases eS.mp ht with q | q
   ·rw [q];lia
   ·exact Kf t q
  rw [lK];have g1:upd H3 tl (.lst (tt.map V.int)) tl=some (.lst (tt.map V.int)):=ai;have g2:upd H3 tl (.lst (tt.map V.int)) l=some (.lst []):=by rw [ao (aF QV)];exact e2
  have D4:dC K sa (upd H3 tl (.lst (tt.map V.int))) d:=D3.new ph;have k4:cq d H (upd H3 tl (.lst (tt.map V.int))):=oh k3 jP;refine fun M0 m0=>⟨_,rfl,d,sa,_,rfl,D4,by decide,fun c0 H5 BL xP D5 k5=>m0 _ _ ?_⟩;clear m0 M0;have l5:=k5 _ _ g2 ld;have t5:=k5 _ _ g1 (nd jP);refine fun M0 m0=>⟨fun aa H'=>∃c:Nat,c<=12/\aa=[some (.ref d),some (.int n),some (.int la),some (.int wd),some (.ref l),none,some (.ref tl),some (.int (c:Int)),none,none,none,none]/\dC K sa H' d/\cq d H H'/\H' l=some (.lst [])/\H' tl=some (.lst (tt.map V.int)),?_,?_⟩
  ·refine ⟨_,rfl,rfl,_,rfl,?_⟩;refine hV (fun _=>?_) (fun _=>?_)
   ·refine ⟨_,rfl,d,sa,_,rfl,D5,by decide,fun r H6 _ _ D6 k6=>⟨rfl,_,rfl,?_⟩⟩;refine hV (fun _=>?_) (fun _=>?_)
    ·refine ⟨_,rfl,d,sa,_,rfl,D6,by decide,fun c H7 h0 h1 D7 k7=>⟨c.toNat,by lia,?_,D7,((k4.trans k5).trans k6).trans k7,(k6.trans k7) _ _ l5 ld,(k6.trans k7) _ _ t5 (nd jP)⟩⟩;rw [lR h0];rfl
    ·exact ⟨c0.toNat,by lia,by rw [lR BL];rfl,D6,(k4.trans k5).trans k6,k6 _ _ l5 ld,k6 _ _ t5 (nd jP)⟩
   ·refine iq ?_;exact ⟨c0.toNat,by lia,by rw [lR BL];rfl,D5,k4.trans k5,l5,t5⟩
  ·rintro aa H6 ⟨c,hc,rfl,D6,k6,l6,t6⟩;refine m0 _ _ fun M1 m1=>⟨_,rfl,_,rfl,by exact Int.NonNeg.mk (c+Nat.succ 4611686018427387903),by lia,AA (n:=c) (fun i aa H'=>∃v1 v2 v3 v4 v5 ps rows,aa=[some (.ref d),some (.int n),some (.int la),some (.int wd),some (.ref l),v1,some (.ref tl),some (.int (c:Int)),v2,v3,v4,v5]/\fw H' l ps rows/\rows.length=i/\(∀r∈rows,u6 n r)/\
    H' tl=some (.lst (tt.map V.int))/\dC K sa H' d/\cq d H H') ⟨none,none,none,none,none,[],[],rfl,⟨l6,.nil⟩,rfl,(fun r hr=>nomatch hr),t6,D6,k6⟩ ?_ ?_⟩
   ·rintro i aa H7 hi ⟨v1,v2,v3,v4,v5,ps,rows,rfl,R7,vp,af,t7,D7,k7⟩;have kl:∀{H8:Hp},cq d H7 H8->fw H8 l ps rows:=fun k8=>by
     obtain ⟨p,e⟩:=D7.at_;exact R7.keep k8 e ld
    refine fun M2 m2=>⟨_,rfl,_,rfl,d,sa,_,rfl,D7,by exact fV xG,fun o1 H8 Ft Ly D8 k8=>m2 _ _ ?_⟩;clear m2 M2;refine fun M2 m2=>⟨_,rfl,_,_,rfl,rfl,_,rfl,_,rfl,_,_,rfl,rfl,d,sa,_,rfl,D8,by lia,fun o2 H9 S0 Sz D9 k9=>⟨_,_,rfl,rfl,_,rfl,_,_,rfl,rfl,(by show (0:Int)<n;exact fV xG),m2 _ _ ?_⟩⟩;clear m2 M2;have hw:=HM (x:=o1+1+o2) (n:=n) (by lia) (by lia) (by exact fV xG);have ho:0<=(o1+1+o2) % n/\(o1+1+o2) % n<n/\o1≠(o1+1+o2) % n:=by
     rw [hw];split<;>lia
    obtain ⟨B0,ho2,EZ⟩:=ho;have t9:=(k8.trans k9) _ _ t7 (nd jP);obtain ⟨w1,Kc,ha1⟩:=MS (xs:=tt) B0 (by lia);obtain ⟨w2,Ka,ha2⟩:=MS (xs:=tt) Ft (by lia);have b1:=gx w1 Kc;have b2:=gx w2 Ka;refine fun M2 m2=>⟨_,rfl,oR rfl t9 ha1 ⟨_,rfl,oR rfl t9 ha2 ⟨_,_,rfl,rfl,m2 _ _ ?_⟩⟩⟩;clear m2 M2;refine fun M2 m2=>⟨fun aa H'=>∃nr:Int,-60<=nr/\nr<=60/\aa=[some (.ref d),some (.int n),some (.int la),some (.int wd),some (.ref l),some (.int (0+(i:Int))),some (.ref tl),some (.int (c:Int)),some (.int o1),some (.int ((o1+1+o2) % n)),some (.int nr),v5]/\dC K sa H' d/\cq d H7 H',?_,?_⟩
    ·refine ⟨_,rfl,d,sa,_,rfl,D9,by decide,fun r sj _ _ FJ vk=>⟨rfl,_,rfl,?_⟩⟩;refine hV (fun _=>?_) (fun _=>?_)
     ·refine ⟨_,rfl,_,rfl,_,_,rfl,rfl,.inl ⟨by decide,by decide⟩,_,_,rfl,rfl,d,sa,_,rfl,FJ,by lia,fun r' LX g0 Fw Ma xp=>⟨_,rfl,_,_,rfl,rfl,r'-la,by lia,by lia,rfl,Ma,((k8.trans k9).trans vk).trans xp⟩⟩
     ·exact ⟨w1-w2,by lia,by lia,rfl,FJ,(k8.trans k9).trans vk⟩
    ·rintro aa sj ⟨nr,_,hnr2,rfl,FJ,vk⟩;refine m2 _ _ fun M3 m3=>⟨_,rfl,_,rfl,_,rfl,_,rfl,_,_,rfl,rfl,d,sa,_,rfl,FJ,by lia,fun r1 LX h3a _ Ma xp=>⟨_,_,rfl,rfl,_,_,rfl,m3 _ _ ?_⟩⟩;clear m3 M3 m2 M2;obtain ⟨le,SG,le1,le2⟩:∃le,(if nr-r1> -60 then nr-r1 else-60)=le/\-60<=le/\le<=60:=⟨_,rfl,by split<;>lia,by split<;>lia⟩;rw [SG];clear SG;have R11:=kl (vk.trans xp);refine ⟨_,rfl,.inl ⟨rfl,_,ax.of R11.1⟩,?_⟩;refine ⟨_,rfl,_,rfl,_,rfl,_,rfl,_,rfl,_,rfl,_,rfl,_,_,rfl,rfl,d,sa,_,rfl,Ma,by lia,fun r2 H12 _ _ Tj EN=>⟨_,_,rfl,rfl,_,_,rfl,_,_,rfl,dc rfl,fun p hp=>?_⟩⟩;obtain ⟨mo,SE,mo1,mo2⟩:∃mo,(if (if nr+r2>le then nr+r2 else le)<60 then (if nr+r2>le then nr+r2 else le) else 60)=mo/\le<=mo/\mo<=60:=⟨_,rfl,by repeat' split<;>lia,by split<;>lia⟩;rw [SE];clear SE;have R12:=kl ((vk.trans xp).trans EN);have FG:=R12.same (aG (o:=.tup [.int o1,.int ((o1+1+o2) % n),.int le,.int mo]) hp);have kA:=((k7.trans vk).trans xp).trans EN;refine ⟨l,_,_,rfl,rfl,FG.1,?_,?_⟩
     ·rw [aD,FG.len];exact gL (by lia)
     ·refine ⟨_,_,_,_,_,ps++[p],rows++[[o1,(o1+1+o2) % n,le,mo]],rfl,FG.push ai,by rw [ik,vp];rfl,fun r hr=>?_,?_,?_,?_⟩
      ·rcases i8.mp hr with q | q
       ·exact af r q
       ·rw [iK.mp q];exact ⟨_,_,_,_,rfl,Ft,Ly,B0,ho2,EZ,le1,mo1,mo2⟩
      ·rw [ao QV,ao (aF (aQ ((((vk.trans xp).trans EN)) _ _ t7 (nd jP)) hp).symm)];exact ((vk.trans xp).trans EN) _ _ t7 (nd jP)
      ·exact (Tj.new hp).upd FG.1 ld
      ·exact oh (oh kA (kA.free hp Tj.there)) hl
   ·rintro aa H7 ⟨v1,v2,v3,v4,v5,ps,rows,rfl,R7,vp,af,_,D7,k7⟩;exact m1 _ _ ⟨_,rfl,k l rows H7 (by lia) af ⟨ps,R7⟩ hl D7 k7⟩
theorem aW {l:List α} {m:List β} {i:Nat} {a:α} (h:Paired F l m) (e:l[i]?=some a):∃b,m[i]?=some b/\F a b:=by
 induction h generalizing i with
 | nil=>simp at e
 | cons r t ih=>
  cases i with
  | zero=>simp at e;subst e;exact ⟨_,rfl,r⟩
  | succ i=>
   obtain ⟨b,h1,h2⟩:=ih (i:=i) (by simpa using e);exact ⟨b,by simpa using h1,h2⟩
theorem dC.qz {K:aA} (x:dC K sa H d) (k:cq l H H1) (hl:H l=some (.lst xs)) (hd:l≠d):dC K sa H1 d:=by
 obtain ⟨⟨p,h⟩,⟨ns,r⟩⟩:=x;exact ⟨⟨p,k _ _ h (aF hd)⟩,⟨ns,r.keep k hl⟩⟩
theorem Ox (a:cq d H H1) (b:cq l H1 H2) (hl:H l=none):cq d H H2:=fun c o e n=>b c o (a c o e n) (aQ e hl)
theorem Dv (hn:2<=n) (h0:0<=m):0<=g7 m n t/\g7 m n t<n:=by
 unfold g7;split
 ·lia
 ·have h1:=Int.emod_nonneg (m-1+t) (show n-1≠0 by lia);have h2:=Int.emod_lt_of_pos (m-1+t) (show 0<n-1 by lia);omega
theorem Ia (hn:2<=n) (h0:m≠0):0<g7 m n t:=by
 unfold g7;rw [if_neg h0];have h1:=Int.emod_nonneg (m-1+t) (show n-1≠0 by lia);omega
theorem DF (hn:2<=n) (ha:0<=a) (uo:a<n) (hb:0<=b) (dZ:b<n) (ht:0<=t) (xu:t<n) (e:g7 a n t=g7 b n t):a=b:=by
 by_cases a0:a=0
 ·by_cases b0:b=0
  ·lia
  ·have:=Ia (t:=t) hn b0;have z:g7 a n t=0:=by unfold g7;rw [if_pos a0]
   lia
 ·by_cases b0:b=0
  ·have:=Ia (t:=t) hn a0;have z:g7 b n t=0:=by unfold g7;rw [if_pos b0]
   lia
  ·unfold g7 at e;rw [if_neg a0,if_neg b0,HM (x:=a-1+t) (n:=n-1) (by lia) (by lia) (by lia),HM (x:=b-1+t) (n:=n-1) (by lia) (by lia) (by lia)] at e
   revert e
   split<;>split<;>intro e<;>lia
noncomputable def lB (n t:Int):List Int->List Int
 | [a,b,l,m]=>[g7 a n t,g7 b n t,l,m]
 | r=>r
noncomputable def Z6 (n:Int) (r:List Int):Prop:=∃a b l m:Int,r=[a,b,l,m]/\0<=a/\a<n/\0<b/\b<n/\a≠b/\1<=l/\l<=m/\m<=60
structure cv (n la:Int) (T F:List (List Int)):Prop where
 n1:1<=n
 n2:n<=8
 l1:1<=la
 l2:la<=60
 tl:T.length<=24
 fl:F.length<=7
 t:∀r∈T,u6 n r
 f:∀r∈F,Z6 n r
 one:∀(i j:Nat) r r',F[i]?=some r->F[j]?=some r'->r[1]?=r'[1]?->i=j
 own:∀r∈F,∀r'∈F,r[0]?≠r'[1]?
theorem u6.IZ (hn:2<=n) (ht:0<=t) (xu:t<n) (h:u6 n r):u6 n (lB n t r):=by
 obtain ⟨a,b,l,m,rfl,h1,h2,h3,h4,h5,h6,h7,h8⟩:=h;have ha:=Dv (t:=t) hn h1;have hb:=Dv (t:=t) hn h3;exact ⟨_,_,l,m,rfl,ha.1,ha.2,hb.1,hb.2,fun e=>h5 (DF hn h1 h2 h3 h4 ht xu e),h6,h7,h8⟩
theorem Wx {n la t:Int} {c:Nat} {T F:List (List Int)} (hn:2<=n) (rR:n<=8) (lM:1<=la) (km:la<=60) (ht:0<=t) (xu:t<n) (hT:∀r∈T,u6 n r) (xR:T.length<=12) (hc:(c:Int)<=n-1) (hlen:F.length=c) (hF:wy n c F):
 cv n la (T.map (lB n t)) (F.map (lB n t)):=by
 have at_:∀(i:Nat) r,(F.map (lB n t))[i]?=some r->∃a l m:Int,r=[g7 a n t,g7 (n-1-i) n t,l,m]/\i<c/\0<=a/\a<n-c/\1<=l/\l<=m/\m<=60:=fun i r e=>by
  rw [fv] at e
  cases q:F[i]? with
  | none=>rw [q] at e;cases e
  | some r0=>
   rw [q] at e;have hi:i<c:=by rw [<-hlen];exact (gQ.mp q).1
   obtain ⟨a,l,m,rfl,r1⟩:=hF i r0 q;cases e;exact ⟨a,l,m,rfl,hi,r1⟩
 have mem:∀r,r∈F.map (lB n t)->∃i:Nat,(F.map (lB n t))[i]?=some r:=fun r hr=>oP.mp hr;refine ⟨by exact fV hn,rR,lM,km,by rw [aD];lia,by rw [aD];lia,fun r hr=>?_,fun r hr=>?_,fun i j r r' e e' q=>?_,fun r hr r' aI=>?_⟩
 ·obtain ⟨r0,h0,rfl⟩:=eB.mp hr;exact (hT r0 h0).IZ hn ht xu
 ·obtain ⟨i,e⟩:=mem r hr;obtain ⟨a,l,m,rfl,hi,h1,h2,h3,h4,h5⟩:=at_ i r e;have ha:=Dv (t:=t) hn h1;have hb:=Dv (m:=n-1-i) (t:=t) hn (by lia);exact ⟨_,_,l,m,rfl,ha.1,ha.2,Ia hn (by lia),hb.2,fun z=>by
   have:=DF hn h1 (by lia) (by lia) (by lia) ht xu z;lia,h3,h4,h5⟩
 ·obtain ⟨a,l,m,rfl,hi,_⟩:=at_ i r e;obtain ⟨a',l',m',rfl,hj,_⟩:=at_ j r' e';have z:g7 (n-1-i) n t=g7 (n-1-j) n t:=by simpa using q
  have:=DF hn (by lia) (by lia) (by lia) (by lia) ht xu z;lia
 ·obtain ⟨i,e⟩:=mem r hr;obtain ⟨j,e'⟩:=mem r' aI;obtain ⟨a,l,m,rfl,hi,h1,h2,_⟩:=at_ i r e;obtain ⟨a',l',m',rfl,hj,_⟩:=at_ j r' e';intro q;have z:g7 a n t=g7 (n-1-j) n t:=by simpa using q
  have:=DF hn h1 (by lia) (by lia) (by lia) ht xu z;lia
theorem Cp.IZ (h:Cp wd rows) (hF:wy n0 c rows):Cp wd (rows.map (lB n t)):=fun z=>by
 obtain ⟨h1,h2⟩:=h z;refine ⟨by rw [aD];exact h1,fun r hr=>?_⟩;obtain ⟨r0,h0,rfl⟩:=eB.mp hr;obtain ⟨i,e⟩:=oP.mp h0;obtain ⟨a,l,m,e',_⟩:=hF i r0 e;have:=h2 r0 h0;subst e';exact this
noncomputable def Mi (K:aA):Sp:=fun vs H Q _=>∃d sa mo la wd,vs=[.ref d,.int mo,.int la,.int wd]/\dC K sa H d/\2<=mo/\mo<=8/\1<=la/\la<=60/\1<=wd/\wd<=8/\
 ∀(p ta fa:Addr) n l T F H',H' p=some (.tup [.int n,.int l,.ref ta,.ref fa])->eF H' ta T->eF H' fa F->cv n l T F->2<=n->n<=mo->l<=la->dC K sa H' d->cq d H H'->ta≠d->fa≠d->Cp wd F/\T.length<=12->Q (.ref p) H'
noncomputable abbrev nW:List Str:=["_law_d","_law_most","_law_last","_law_wide","_law_many","_law_falls_here","_law_ties_here","_law_turn","_law_found","_law_rows"]
theorem vc:cE nW ["_law_d","_law_most","_law_last","_law_wide"] (aX qd):=cV
noncomputable abbrev Rv:List Str:=["_law_r","_law_many","_law_turn"]
theorem coW:iO (aX qd) nW (lP [(".0",.local),("_law_r",.local),("_law_named",.globalImplicit),("_law_many",.free),("_law_turn",.free)]) Rv [none,some 4,some 7]:=lQ
theorem Yy:Rv.Nodup:=by decide+kernel
theorem wV (F:Fn K mg "_law_web" qd ["_law_d","_law_most","_law_last","_law_wide"] f fd)
 (FN:Fn K mg "_law_next" iU ["_law_dice","_law_many"] fN pA) (GN:aq P w K mg base a9 1 fN pA ["_law_dice","_law_many"] (Al K))
 (FM:Fn K mg "_law_named" jJ ["_law_moment","_law_many","_law_turn"] fM xY) (GM:aq P w K mg base a9 1 fM xY ["_law_moment","_law_many","_law_turn"] N0)
 (FF:Fn K mg "_law_falls" jK ["_law_d","_law_many","_law_wide"] fF zC) (GF:aq P w K mg base a9 2 fF zC ["_law_d","_law_many","_law_wide"] (Nv K))
 (FT:Fn K mg "_law_ties" kS ["_law_d","_law_many","_law_last","_law_wide"] fT p0) (GT:aq P w K mg base a9 2 fT p0 ["_law_d","_law_many","_law_last","_law_wide"] (MN K)):
 aq P w K mg base a9 3 f fd ["_law_d","_law_most","_law_last","_law_wide"] (Mi K):=by
 refine F.F.de vc fun _ A _ s H _ Q E hr h=>?_;obtain ⟨d,sa,mo,la,wd,rfl,D,E_,xH,lM,km,qC,Kb,k⟩:=h;have fH:cU 1 _:=hr.mono (by decide);refine ⟨_,aZ (pM (i:=4) vc.nd rfl (Or.inr rfl) (bM g8 aw (b_ GN fH FN (bu (pv 0) (bM iP (pv 1) aw)))))
  (aZ (cA 2 vc.nd (bM g8 aw (b_ GN fH FN (bu (pv 0) (pv 2)))))
  (aZ (cA 5 vc.nd (b_ GF hr FF (iw (pv 0) (pv 4) (pv 3))))
  (aZ (cA 6 vc.nd (b_ GT hr FT (jw (pv 0) (pv 4) (pv 2) (pv 3))))
  (aZ (pM (i:=7) vc.nd rfl (Or.inr rfl) (b_ GN fH FN (bu (pv 0) (pv 4))))
  (aZ (cA 8 vc.nd (jl n_))
  (aZ (jt PassesOwn.never rfl (jm (jl (bu (pv 6) (pv 5)))) (bR 9 vc.nd)
   (aE (gK (rq sf qX se pQ (pv 8)
    (bL (oY rfl (jm (pv 9)) coW (fun cl ex s0 H0=>⟨bR 0 Yy,pT,
     dA (uK (b_ GM fH FM (iw (a8 (pv 0)) (pv 1) (pv 2)))
      (uK (b_ GM fH FM (iw (a8 (pv 0)) (pv 1) (pv 2)))
      (bu (a8 (pv 0)) (a8 (pv 0)))))⟩)))))))
  (aE (cB (dA (jw (pv 4) (pv 2) (dh dS (pv 8) aw) (dh dS (pv 8) aw))))))))))),?_⟩
 refine ⟨_,rfl,_,rfl,_,_,rfl,rfl,d,sa,_,rfl,D,by lia,fun r1 H1 Ft Ly D1 k1=>⟨_,_,rfl,rfl,?_⟩⟩;refine ⟨_,rfl,_,rfl,d,sa,_,rfl,D1,by omega,fun r2 H2 S0 Sz D2 k2=>⟨_,_,rfl,rfl,?_⟩⟩;refine ⟨_,rfl,_,rfl,_,rfl,d,sa,_,_,rfl,D2,by lia,by lia,qC,Kb,fun fl c F0 H3 hc mz Lv RF Fh D3 k3 m9=>?_⟩;refine ⟨_,rfl,_,rfl,_,rfl,_,rfl,d,sa,_,_,_,rfl,D3,by lia,by lia,by lia,by lia,qC,Kb,fun tl T0 H4 xR m5 RT ph D4 k4=>?_⟩;refine ⟨_,rfl,_,rfl,d,sa,_,rfl,D4,by lia,fun t H5 Bp htb D5 k5=>?_⟩;have fld:fl≠d:=fun e=>by
  subst e;obtain ⟨o,q⟩:=D2.there;rw [Fh] at q;cases q
 have ZS:tl≠d:=fun e=>by
  subst e;obtain ⟨o,q⟩:=D3.there;rw [ph] at q;cases q
 have S_:eF H5 fl F0:=by
  obtain ⟨p,e⟩:=D3.at_;exact RF.keep (k4.trans k5) e fld
 have SY:eF H5 tl T0:=by
  obtain ⟨p,e⟩:=D4.at_;exact RT.keep k5 e ZS
 have kA:cq d H H5:=(((k1.trans k2).trans k3).trans k4).trans k5;refine ⟨d9 _,fun fo xM=>?_⟩;have L3:fo≠d:=fun e=>by
  subst e;obtain ⟨o,q⟩:=D5.there;rw [xM] at q;cases q
 have xK:H fo=none:=kA.free xM D5.there;have RF6:=S_.same (aG (o:=.lst []) xM);have RT6:=SY.same (aG (o:=.lst []) xM);have AL:tl≠fo:=by
  obtain ⟨ps,e,_⟩:=SY;exact aQ e xM
 have BQ:fl≠fo:=by
  obtain ⟨ps,e,_⟩:=S_;exact aQ e xM
 refine ⟨_,rfl,_,rfl,dc rfl,fun ll zp=>⟨ll,rfl,⟨_,ax.of ai⟩,?_⟩⟩;have xk:ll≠fo:=aF (aQ (ai (H:=H5) (a:=fo) (o:=.lst [])) zp);have K9:H5 ll=none:=by rw [ao xk] at zp;exact zp
 have KA:H ll=none:=kA.free K9 D5.there;generalize zB:upd (upd H5 fo (.lst [])) ll (.lst [V.ref tl,V.ref fl])=H7;have e7:H7 fo=some (.lst []):=by rw [<-zB,ao (aF xk),ai]
 have e7l:H7 ll=some (.lst [V.ref tl,V.ref fl]):=by rw [<-zB,ai]
 have RF7:eF H7 fl F0:=by rw [<-zB];exact RF6.same (aG zp)
 have RT7:eF H7 tl T0:=by rw [<-zB];exact RT6.same (aG zp)
 have D7:dC K sa H7 d:=by rw [<-zB];exact (D5.new xM).new zp
 have k7:cq d H H7:=by rw [<-zB];exact oh (oh kA xK) KA
 refine og (K:=K) (a:=ll) (xs:=[V.ref tl,V.ref fl]) (fun i aa H'=>∃v ls,aa=[some (.ref d),some (.int mo),some (.int (1+r2)),some (.int wd),some (.int (2+r1)),some (.ref fl),some (.ref tl),some (.int t),some (.ref fo),v]/\
  H' fo=some (.lst (ls.map V.ref))/\Paired (fun a rs=>eF H' a rs/\a≠fo/\a≠d) ls (([T0,F0].take i).map fun R=>R.map (lB (2+r1) t))/\cq fo H7 H') ⟨none,[],rfl,e7,.nil,cq.refl fo H7⟩ ?_ ?_ ?_
 ·rintro i aa H8 _ ⟨v,ls,rfl,_,_,k8⟩;exact ax.of (k8 _ _ e7l xk)
 ·rintro i x aa H8 hx ⟨v,ls,rfl,e8,y_,k8⟩;obtain ⟨a0,R0,rfl,RA,_,htk,Ki,hln⟩:∃a0 R0,x=.ref a0/\eF H8 a0 R0/\a0≠fo/\(([T0,F0].take (i+1)).map fun R=>R.map (lB (2+r1) t))=(([T0,F0].take i).map fun R=>R.map (lB (2+r1) t))++[R0.map (lB (2+r1) t)]/\
   (∀r∈R0,∃a b l m:Int,r=[a,b,l,m])/\R0.length<=12:=by
   match i,hx with
   | 0,hx=>
    cases hx;exact ⟨tl,T0,rfl,RT7.keep k8 e7 AL,AL,rfl,fun r hr=>by
     obtain ⟨a,b,l,m,e,_⟩:=m5 r hr;exact ⟨a,b,l,m,e⟩,xR⟩
   | 1,hx=>
    cases hx;exact ⟨fl,F0,rfl,RF7.keep k8 e7 BQ,BQ,rfl,fun r hr=>by
     obtain ⟨i,e⟩:=oP.mp hr;obtain ⟨a,l,m,e,_⟩:=Lv i r e;exact ⟨a,_,l,m,e⟩,by lia⟩
   | i+2,hx=>cases hx
  obtain ⟨JA,RP⟩:=RA;refine ⟨_,rfl,.inl ⟨rfl,_,ax.of e8⟩,?_⟩;refine ⟨_,rfl,a0,rfl,⟨_,ax.of RP.1⟩,fun Da cI=>?_⟩;refine uO (xs:=JA.map V.ref) (fun j aa H'=>∃v ps,aa=[v,some (.int (2+r1)),some (.int t)]/\fw H' Da ps ((R0.take j).map (lB (2+r1) t))/\aH H8 H') ?_ ?_ ?_ ?_
  ·exact ⟨none,[],rfl,⟨ai,.nil⟩,aG cI⟩
  ·rintro j aa H9 _ ⟨v,ps,rfl,_,s9⟩;exact ax.of (s9 _ _ RP.1)
  ·rintro j x aa H9 vm ⟨v,ps,rfl,R9,s9⟩;rw [fv] at vm
   cases hq:JA[j]? with
   | none=>rw [hq] at vm;cases vm
   | some q=>
    rw [hq] at vm;cases vm;obtain ⟨r,hr,iG⟩:=aW RP.2 hq;obtain ⟨a,b,l,m,rfl⟩:=Ki r (gn hr);have ug:=s9 _ _ iG;refine ⟨_,rfl,ay ug rfl ⟨_,rfl,_,rfl,_,_,_,rfl,by lia,?_⟩⟩;refine ⟨_,rfl,ay ug rfl ⟨_,rfl,_,rfl,_,_,_,rfl,by lia,?_⟩⟩;refine ⟨_,rfl,ay ug rfl ⟨_,rfl,ay ug rfl ⟨dc rfl,fun p hp=>?_⟩⟩⟩;have LU:=R9.same (aG (o:=.tup [.int (g7 a (2+r1) t),.int (g7 b (2+r1) t),.int l,.int m]) hp);have Lx:H8 Da=none:=cI;refine ⟨_,LU.1,?_,_,ps++[p],rfl,?_,fun b o e=>?_⟩
    ·rw [aD,LU.len,aD,ig];exact gL (by lia)
    ·have hj:(R0.take (j+1)).map (lB (2+r1) t)=(R0.take j).map (lB (2+r1) t)++[[g7 a (2+r1) t,g7 b (2+r1) t,l,m]]:=by
      rw [l9,hr,d_];rfl
     rw [hj];exact LU.push ai
    ·rw [ao (aQ e Lx),ao (aQ (s9 _ _ e) hp)];exact s9 _ _ e
  ·rintro aa H9 ⟨v,ps,rfl,R9,s9⟩;have e9:=s9 _ _ e8;refine ⟨fo,_,.ref Da,rfl,rfl,e9,?_,?_⟩
   ·rw [aD,y_.length,aD,ig];exact gL (by simp;lia)
   ·have vz:Da≠fo:=aF (aQ e8 cI);have Lw:Da≠d:=fun e=>by
     subst e;obtain ⟨p,q⟩:=(D7.qz k8 e7 L3).at_;rw [cI] at q;cases q
    have ku:cq fo H9 (upd H9 fo (.lst (ls.map V.ref++[.ref Da]))):=fun b o e n=>by rw [ao n];exact e
    refine ⟨_,ls++[Da],rfl,by rw [ai,d_];rfl,?_,fun b o e n=>by rw [ao n];exact s9 _ _ (k8 b o e n)⟩;rw [htk];refine Paired.snoc (gM y_ fun a rs z=>⟨(z.1.same s9).keep ku e9 z.2.1,z.2⟩) ⟨?_,vz,Lw⟩;have hl:R0.take (JA.map V.ref).length=R0:=by
     rw [aD,RP.len];exact j8
    rw [hl] at R9;exact eF.keep ⟨ps,R9⟩ ku e9 vz
 ·rintro aa H8 ⟨v,ls,rfl,e8,y_,k8⟩;have y_:Paired (fun a rs=>eF H8 a rs/\a≠fo/\a≠d) ls [T0.map (lB (2+r1) t),F0.map (lB (2+r1) t)]:=y_
  cases y_ with
  | @cons lt _ ls1 _ q1 pl9=>
   cases pl9 with
   | @cons lf _ ls2 _ q2 JB=>
    cases JB;refine ⟨_,rfl,_,rfl,_,rfl,jL e8 rfl ⟨_,rfl,jL e8 rfl ⟨dc rfl,fun p hp=>?_⟩⟩⟩;have sm:=aG (o:=.tup [.int (2+r1),.int (1+r2),.ref lt,.ref lf]) hp;exact k p lt lf _ _ _ _ _ ai (q1.1.same sm) (q2.1.same sm) (Wx (by lia) (by lia) (by lia) (by lia) Bp htb m5 xR hc mz Lv) (by lia) (by lia) (by lia) ((D7.qz k8 e7 L3).same sm) (oh (Ox k7 k8 xK) ((Ox k7 k8 xK).free hp (D7.qz k8 e7 L3).there)) q1.2.2 q2.2.2 ⟨m9.IZ Lv,by rw [aD];exact xR⟩
end Y0
namespace L2
open PySem PySem.Spec PyProof.Rows
section
theorem gI.ok1 {x qual:Str} {st:Stmt} {f:Addr} {fd:FuncData} {N ps:List Str} {k:Nat} {sp:Sp} (F:gI K x qual st f fd) (S:cE N ps (aX st)) (len:∀vs H Q E,sp vs H Q E->vs.length=ps.length)
 (gE:∀(cY:Value) (A:Around) (outer:List Env) (s:Shared) (H:Hp) (vs:List V) (Q:VK) (E:XK),cU k (A.deeper (envOfC qual (aX st) s.heap.objs.size f cY))->sp vs H Q E->
  ∃t,gp (mI (lS P w) P w K mg base N qual (aX st) f cY A outer s H E) (mX st) t/\t { nx:=fun _ H'=>Q .aS H',rt:=Q } (jb N vs) H):aq P w K mg base (lS P w) (k+1) f fd ps sp:=by
 obtain ⟨oc,od,kV,doc,pm,an,cY,ct,ou,rfl,lk,oH⟩:=F.ex;exact QL lk oH S len fun A outer s H vs Q E hr pk=>gE cY A outer s H vs Q E hr pk
theorem gI.AY {x qual:Str} {st:Stmt} {f:Addr} {fd:FuncData} {N ps:List Str} {k:Nat} {sp:Sp} (F:gI K x qual st f fd) (S:cE N ps (aX st)) (gE:∀(cY:Value) (A:Around) (outer:List Env) (s:Shared) (H:Hp) (vs:List V) (Q:VK) (E:XK),cU k (A.deeper (envOfC qual (aX st) s.heap.objs.size f cY))->sp vs H Q E->
  ∃t,gp (mI (lS P w) P w K mg base N qual (aX st) f cY A outer s H E) (mX st) t/\t { nx:=fun _ H'=>Q .aS H',rt:=Q } (jb N vs) H) (len:∀vs H Q E,sp vs H Q E->vs.length=ps.length:=by intro _ _ _ _ h;repeat (first|(obtain ⟨rfl,_⟩:=h;rfl)|obtain ⟨_,h⟩:=h)):aq P w K mg base (lS P w) (k+1) f fd ps sp:=F.ok1 S len gE
end
theorem ja {c A B:Prop} [Decidable c] (hc:c) (h:A):if decide c=true then A else B:=by
 rw [jo hc];exact mJ h
theorem kJ {c A B:Prop} [Decidable c] (hc:¬c) (h:B):if decide c=true then A else B:=by
 rw [fU hc];exact iq h
theorem QI {Q:VK} {H:Hp} {b b':Bool} (k:Q (.bl b) H) (e:b=b'):Q (.bl b') H:=e▸k
theorem Ar:∀{ns:List Int},ua (.int a) (ns.map V.int)=decide (a∈ns)
 | []=>by simp [ua]
 | n::r=>by
  have ih:=Ar (a:=a) (ns:=r);unfold ua at ih ⊢;rw [eR,List.any_cons,ih];show ((n==a) || decide (a∈r))=decide (a∈n::r)
  by_cases e:n=a
  ·subst e;simp
  ·have:¬a=n:=fun z=>e z.symm;simp [e,this]
theorem A9:∀{ns:List Int},(ns.map V.int).all jB=true
 | []=>rfl
 | n::r=>by
  rw [eR,List.all_cons,A9 (ns:=r)];rfl
theorem NV {α:Type} {xs:List α} {i:Nat} (h:i<=xs.length):(xs.drop (HT.cm xs.length 0 none)).take (HT.cm xs.length xs.length (some (i:Int))-HT.cm xs.length 0 none)=xs.take i:=by
 rw [HT.eI,HT.dN,List.drop_zero,Nat.sub_zero,Nat.min_eq_left h]
end L2
namespace Y0
open PySem L2
structure lA (mg:Str->Option Value):Prop where
 mm:∃t,mg "MOST_MOMENTS"=some (.int 8 t)
 ll:∃t,mg "LATEST_LAST"=some (.int 60 t)
 ws:∃t,mg "WIDEST_SPAN"=some (.int 60 t)
 lf:∃t,mg "LONGEST_FALL"=some (.int 60 t)
 list:mg "list"=none
noncomputable def FQ:Sp:=fun vs H Q _=>∃n a b,vs=[.int n,.int a,.int b]/\Q (.bl (decide (0<=a/\a<n/\0<=b/\b<n/\a≠b))) H
noncomputable def MI:Sp:=fun vs H Q _=>∃n la,vs=[.int n,.int la]/\1<=n/\n<=8/\1<=la/\la<=60/\Q .aS H
noncomputable def Nz:Sp:=fun vs H Q _=>∃n a T,vs=[.int n,.ref a]/\eF H a T/\(∀r∈T,u6 n r)/\Q .aS H
noncomputable def O7:Sp:=fun vs H Q _=>∃n a la T F,vs=[.int n,.ref a]/\eF H a F/\cv n la T F/\∀H',aH H H'->Q .aS H'
theorem sc2:cE ["many","one","other"] ["many","one","other"] (aX aN):=cV
theorem wW {f:Addr} {fd:FuncData} (F:Fn K mg "are_two_moments" aN ["many","one","other"] f fd):aq P w K mg base a9 1 f fd ["many","one","other"] FQ:=by
 refine F.F.de sc2 fun _ A _ s H _ Q E hr h=>?_;obtain ⟨n,a,b,rfl,k⟩:=h;refine ⟨_,aE (cB (Ae (HA mQ uB aw (pv 1) (pv 0)) (Ae (HA mQ uB aw (pv 2) (pv 0)) (Af (vQ CF (pv 1) (pv 2)))))),?_⟩;refine ⟨_,rfl,_,_,rfl,rfl,_,rfl,hV (fun h1=>⟨_,rfl,_,_,rfl,rfl,_,rfl,hV (fun h2=>⟨_,rfl,_,_,rfl,rfl,_,rfl,hV (fun h3=>⟨_,rfl,_,_,rfl,rfl,_,rfl,hV (fun h4=>⟨_,rfl,_,rfl,rfl,?_⟩) (fun h4=>?_)⟩) (fun h3=>⟨false,rfl,iq ?_⟩)⟩) (fun h2=>?_)⟩) (fun h1=>⟨false,rfl,iq ?_⟩)⟩
 all_goals simp only [yg] at*
 ·refine QI (Q:=Q) k ?_
  by_cases e:a=b
  ·subst e;simp
  ·simp [e];lia
 all_goals (refine QI (Q:=Q) k (fU fun z=>?_);omega)
theorem scS:cE ["many","last"] ["many","last"] (aX bC):=cV
theorem tL (F:Fn K mg "look_over_size" bC ["many","last"] f fd) (T:lA mg):aq P w K mg base a9 1 f fd ["many","last"] MI:=by
 obtain ⟨t1,m1⟩:=T.mm;obtain ⟨t2,m2⟩:=T.ll;refine F.F.de scS fun _ A _ s H _ Q E hr h=>?_;obtain ⟨n,la,rfl,n1,n2,l1,l2,k⟩:=h;refine ⟨_,aZ (dP (yB (O1 mQ mQ aw (pv 0) (yG (v:=.int 8) rfl m1 ⟨_,rfl⟩))) wz dX) (aE (dP (yB (O1 mQ mQ aw (pv 1) (yG (v:=.int 60) rfl m2 ⟨_,rfl⟩))) wz dX)),?_⟩;refine ⟨_,rfl,_,_,rfl,rfl,_,rfl,ja n1 ⟨_,_,rfl,rfl,_,rfl,u9 n2 ?_⟩⟩;exact ⟨_,rfl,_,_,rfl,rfl,_,rfl,ja l1 ⟨_,_,rfl,rfl,_,rfl,u9 l2 k⟩⟩
noncomputable abbrev nLT:List Str:=["many","ties","at","one","other","least","most"]
theorem vT:cE nLT ["many","ties"] (aX bz):=cV
theorem qj (F:Fn K mg "look_over_ties" bz ["many","ties"] f fd) (T:lA mg) (F2:Fn K mg "are_two_moments" aN ["many","one","other"] f2 LB)
 (G2:aq P w K mg base a9 1 f2 LB ["many","one","other"] FQ):aq P w K mg base a9 2 f fd ["many","ties"] Nz:=by
 obtain ⟨t1,m1⟩:=T.ws;refine F.F.de vT fun _ A _ s H _ Q E hr h=>?_;obtain ⟨n,a,rows,rfl,⟨ps,R⟩,af,k⟩:=h;refine ⟨_,aZ (cA 2 vT.nd aw) (aE (jt PassesOwn.never rfl (jm (pv 1))
  (uF rfl (dU (bR 3 vT.nd) (dU (bR 4 vT.nd) (dU (bR 5 vT.nd) (dU (bR 6 vT.nd) rE)))))
  (aZ (dP (yB (Ah (b_ G2 hr F2 (iw (pv 0) (pv 3) (pv 4))))) wz dX)
  (aZ (dP (yB (Pa mQ mQ mQ (sI sM (yG (v:=.int 60) rfl m1 ⟨_,rfl⟩)) (pv 5) (pv 6) (yG (v:=.int 60) rfl m1 ⟨_,rfl⟩))) wz dX)
  (aE (Hf (i:=2) vT.nd rfl (Or.inl rfl) aw G_)))))),?_⟩
 refine ⟨_,rfl,a,rfl,⟨_,ax.of R.1⟩,og (K:=K) (a:=a) (xs:=ps.map V.ref) (fun _ aa H'=>∃z v1 v2 v3 v4,aa=[some (.int n),some (.ref a),some (.int z),v1,v2,v3,v4]/\H'=H) ⟨0,none,none,none,none,rfl,rfl⟩ ?_ ?_ ?_⟩
 ·rintro i aa H' _ ⟨z,v1,v2,v3,v4,rfl,rfl⟩;exact ax.of R.1
 ·rintro i x aa H' hx ⟨z,v1,v2,v3,v4,rfl,rfl⟩;rw [fv] at hx
  cases hq:ps[i]? with
  | none=>rw [hq] at hx;cases hx
  | some q=>
   rw [hq] at hx;cases hx;obtain ⟨r,aI,iG⟩:=aW R.2 hq;obtain ⟨a',b',l,m,rfl,h1,h2,h3,h4,h5,h6,h7,h8⟩:=af r (gn aI);refine ⟨q,_,rfl,c_.of iG,rfl,_,_,rfl,_,_,rfl,_,_,rfl,_,_,rfl,rfl,?_⟩;refine ⟨_,rfl,_,rfl,_,rfl,n,a',b',rfl,_,rfl,u9 ⟨h1,h2,h3,h4,h5⟩ ?_⟩;refine ⟨_,rfl,_,rfl,_,_,rfl,rfl,_,rfl,ja (by omega) ⟨_,rfl,_,_,rfl,rfl,_,rfl,ja h7 ⟨_,_,rfl,rfl,_,rfl,u9 h8 ?_⟩⟩⟩;exact ⟨_,rfl,_,_,rfl,rfl,_,_,_,_,_,rfl,rfl⟩
 ·rintro aa H' ⟨z,v1,v2,v3,v4,rfl,rfl⟩;exact k
end Y0
namespace L2
open PySem PySem.Spec PyProof.Rows
theorem ji {b:Bool} {A B:Prop} (e:b=false) (h:B):if b=true then A else B:=by
 rw [e];exact iq h
theorem sJ {b:Bool} {A B:Prop} (e:b=true) (h:A):if b=true then A else B:=by
 rw [e];exact mJ h
theorem Dq (f:Str) (v:V):∀fs:List (Str×V),(aO f v fs).length<=fs.length+1
 | []=>az _
 | (g,x)::r=>by
  unfold aO;split
  ·exact nS _
  ·exact Nat.succ_le_succ (Dq f v r)
theorem fw.get {rows:List (List Int)} (R:fw H a ps rows) {i:Nat} (hx:(ps.map V.ref)[i]?=some x):∃q r,x=.ref q/\ps[i]?=some q/\rows[i]?=some r/\H q=some (.tup (r.map V.int)):=by
 rw [fv] at hx
 cases hq:ps[i]? with
 | none=>rw [hq] at hx;cases hx
 | some q=>
  rw [hq] at hx;cases hx;obtain ⟨r,aI,iG⟩:=Y0.aW R.2 hq;exact ⟨q,r,rfl,rfl,aI,iG⟩
end L2
namespace Y0
open PySem L2
noncomputable def su (r:List Int):Int:=r.getD 1 0
structure nV (K:aA) (mg:Str->Option Value) (C:Addr):Prop where
 cl:rd K C
 nM:lX K C "many"
 nL:lX K C "last"
 nT:lX K C "told_ties"
 nF:lX K C "told_falls"
 Bf:mg "Web"=some (.ref C)
noncomputable def nZ (n la:Int) (ta fa:Addr):List (Str×V):=aO "told_falls" (.ref fa) (aO "told_ties" (.ref ta) (aO "last" (.int la) (aO "many" (.int n) [])))
theorem k1:¬(("many":Str)="told_falls"):=by decide+kernel
theorem k2:¬(("many":Str)="told_ties"):=by decide+kernel
theorem k3:¬(("many":Str)="last"):=by decide+kernel
theorem k4:¬(("last":Str)="told_falls"):=by decide+kernel
theorem k5:¬(("last":Str)="told_ties"):=by decide+kernel
theorem k6:¬(("told_ties":Str)="told_falls"):=by decide+kernel
theorem uI (n la:Int) (ta fa:Addr):(nZ n la ta fa).lookup ("many":Str)=some (.int n):=by
 unfold nZ;rw [lJ,if_neg k1,lJ,if_neg k2,lJ,if_neg k3,lJ,if_pos rfl]
theorem UH (n la:Int) (ta fa:Addr):(nZ n la ta fa).lookup ("last":Str)=some (.int la):=by
 unfold nZ;rw [lJ,if_neg k4,lJ,if_neg k5,lJ,if_pos rfl]
theorem UI (n la:Int) (ta fa:Addr):(nZ n la ta fa).lookup ("told_ties":Str)=some (.ref ta):=by
 unfold nZ;rw [lJ,if_neg k6,lJ,if_pos rfl]
theorem NL (n la:Int) (ta fa:Addr):(nZ n la ta fa).lookup ("told_falls":Str)=some (.ref fa):=by
 unfold nZ;rw [lJ,if_pos rfl]
theorem zT (n la:Int) (ta fa:Addr) {m:Str} (h1:¬m="told_falls") (h2:¬m="told_ties") (h3:¬m="last") (h4:¬m="many"):(nZ n la ta fa).lookup m=none:=by
 unfold nZ;rw [lJ,if_neg h1,lJ,if_neg h2,lJ,if_neg h3,lJ,if_neg h4]
 all_goals rfl
noncomputable def jD (C:Addr) (H:Hp) (p:Addr) (n la:Int) (T F:List (List Int)):Prop:=∃dx ta fa,H p=some (.ins C dx (nZ n la ta fa))/\eF H ta T/\eF H fa F
theorem jD.same (h:jD C H p n la T F) (k:aH H H'):jD C H' p n la T F:=by
 obtain ⟨dx,ta,fa,e,r1,r2⟩:=h;exact ⟨dx,ta,fa,k _ _ e,r1.same k,r2.same k⟩
noncomputable def M9 (C:Addr):Sp:=fun vs H Q _=>∃p dx n la a b T F,vs=[.ref p,.int n,.int la,.ref a,.ref b]/\H p=some (.ins C dx [])/\eF H a T/\eF H b F/\cv n la T F/\
 ∀H',jD C H' p n la T F->cq p H H'->Q .aS H'
noncomputable def yy (C:Addr) (g:List (List Int)->List (List Int)->List (List Int)):Sp:=fun vs H Q _=>∃p n la T F,vs=[.ref p]/\jD C H p n la T F/\∀l H',H l=none->aH H H'->eF H' l (g T F)->Q (.ref l) H'
noncomputable abbrev Rz:List Str:=["many","falls","ends","at","one","other","least","most"]
theorem u4:cE Rz ["many","falls"] (aX aL):=cV
theorem Yi:iO (aX aL) Rz (lP [(".0",.local),("fall",.local)]) ["fall"] [none]:=lQ
theorem Ru:([x]:List Str).Nodup:=by simp
theorem o8 (F:Fn K mg "look_over_falls" aL ["many","falls"] f fd) (T:lA mg) (F2:Fn K mg "are_two_moments" aN ["many","one","other"] f2 LB)
 (G2:aq P w K mg base a9 1 f2 LB ["many","one","other"] FQ):aq P w K mg base a9 2 f fd ["many","falls"] O7:=by
 obtain ⟨t1,m1⟩:=T.lf;refine F.F.de u4 fun _ A _ s H _ Q E hr h=>?_;obtain ⟨n,a,la,TT,rows,rfl,⟨ps,R⟩,af,k⟩:=h;refine ⟨_,aZ (CZ (i:=2) u4.nd rfl rfl rfl (jm (pv 1)) Yi (fun cl ex s0 H0=>⟨bR 0 Ru,pT,a8 (pv 0)⟩))
  (aZ (cA 3 u4.nd aw) (aE (jt PassesOwn.never rfl (jm (pv 1))
  (uF rfl (dU (bR 4 u4.nd) (dU (bR 5 u4.nd) (dU (bR 6 u4.nd) (dU (bR 7 u4.nd) rE)))))
  (aZ (dP (PW.pt (uC (yB (Ah (b_ G2 hr F2 (iw (pv 0) (pv 4) (pv 5))))) (yC (Ap HR (pv 4) (pv 2) (by with_unfolding_all rfl))))) wz dX)
  (aZ (dP (PW.pt (uC (dj gr (pv 5) aw) (yC (Ap HR (pv 5) (pR wk (pv 2) pN (pO (pv 3))) (by with_unfolding_all rfl))))) wz dX)
  (aZ (dP (yB (Pa mQ mQ mQ aw (pv 6) (pv 7) (yG (v:=.int 60) rfl m1 ⟨_,rfl⟩))) wz dX)
  (aE (Hf (i:=3) u4.nd rfl (Or.inl rfl) aw G_)))))))),?_⟩
 refine ⟨_,rfl,a,rfl,⟨_,ax.of R.1⟩,fun Da cI=>?_⟩;refine uO (xs:=ps.map V.ref) (fun j aa H'=>∃v,aa=[v]/\H' Da=some (.lst (((rows.take j).map su).map V.int))/\aH H H') ?_ ?_ ?_ ?_
 ·exact ⟨none,rfl,ai,aG cI⟩
 ·rintro j aa H1 _ ⟨v,rfl,_,s1⟩;exact ax.of (s1 _ _ R.1)
 ·rintro j x aa H1 hx ⟨v,rfl,e1,s1⟩;obtain ⟨q,r,rfl,_,aI,iG⟩:=R.get hx;obtain ⟨a',b',l,m,rfl,_⟩:=af.f r (gn aI);refine ⟨_,rfl,ay (s1 _ _ iG) rfl ⟨_,e1,?_,_,rfl,?_,fun b o e=>?_⟩⟩
  ·rw [aD,aD,ig];have:=af.fl;exact gL (by lia)
  ·rw [ai,l9,aI,d_,d_];rfl
  ·rw [ao (aQ e cI)];exact s1 _ _ e
 ·rintro aa H1 ⟨v,rfl,e1,s1⟩;have hl:rows.take (ps.map V.ref).length=rows:=by
   rw [aD,R.len];exact j8
  rw [hl] at e1;have R1:=R.same s1;refine ⟨_,rfl,a,rfl,⟨_,ax.of R1.1⟩,og (K:=K) (a:=a) (xs:=ps.map V.ref) (fun i aa H'=>∃z v1 v2 v3 v4,z=(i:Int)/\aa=[some (.int n),some (.ref a),some (.ref Da),some (.int z),v1,v2,v3,v4]/\aH H1 H') ⟨0,none,none,none,none,rfl,rfl,aH.refl _⟩ ?_ ?_ ?_⟩
  ·rintro i aa H' _ ⟨z,v1,v2,v3,v4,_,rfl,s2⟩;exact ax.of (s2 _ _ R1.1)
  ·rintro i x aa H2 hx ⟨z,v1,v2,v3,v4,rfl,rfl,s2⟩;have R2:=R1.same s2;obtain ⟨q,r,rfl,_,aI,iG⟩:=R2.get hx;have dY:=gn aI;obtain ⟨a',b',l,m,e4,h1,h2,h3,h4,h5,h6,h7,h8⟩:=af.f r dY;subst e4;have e2:=s2 _ _ e1;refine ⟨q,_,rfl,c_.of iG,rfl,_,_,rfl,_,_,rfl,_,_,rfl,_,_,rfl,rfl,?_⟩;refine ⟨_,rfl,_,rfl,_,rfl,n,a',b',rfl,_,rfl,u9 ⟨h1,h2,by exact fV h3,h4,h5⟩ ?_⟩;refine ⟨_,rfl,_,rfl,Da,_,rfl,.inl (ax.of e2),rfl,A9,_,rfl,ji ?_ ?_⟩
   ·show ua _ _=false;rw [Ar];refine fU fun z=>?_;obtain ⟨r',jy,e⟩:=eB.mp z;obtain ⟨a2,b2,l2,m2,e5,_⟩:=af.f r' jy;subst e5;refine af.own _ dY _ jy ?_;have e6:b2=a':=e;show some a'=some b2;rw [e6]
   ·refine ⟨_,rfl,rfl,_,rfl,kJ (by intro z;have:=V.int.inj z;lia) ?_⟩;refine ⟨_,rfl,_,rfl,_,rfl,_,rfl,Da,_,rfl,ax.of e2,fun p hp=>⟨p,_,rfl,.inl (ax.of ai),rfl,?_,_,rfl,ji ?_ ?_⟩⟩
    ·unfold kI;rw [NV (by rw [aD,aD];exact bo (gQ.mp aI).1),<-List.map_take];exact A9
    ·show ua _ _=false;unfold kI;rw [NV (by rw [aD,aD];exact bo (gQ.mp aI).1),<-List.map_take,Ar];refine fU fun z=>?_;obtain ⟨j,hj⟩:=oP.mp z;have hji:j<i:=by
      have:=(gQ.mp hj).1;rw [ig] at this;lia
     rw [List.getElem?_take_of_lt hji,fv] at hj
     cases jy:rows[j]? with
     | none=>rw [jy] at hj;cases hj
     | some r'=>
      rw [jy] at hj;have e:su r'=b':=eT hj;obtain ⟨a2,b2,l2,m2,e5,_⟩:=af.f r' (gn jy);subst e5;have e6:b2=b':=e;have:=af.one j i _ _ jy aI (by show some b2=some b';rw [e6]);lia
    ·refine ⟨_,rfl,_,_,rfl,rfl,_,rfl,ja h6 ⟨_,rfl,_,_,rfl,rfl,_,rfl,ja h7 ⟨_,_,rfl,rfl,_,rfl,u9 h8 ?_⟩⟩⟩;exact ⟨_,rfl,_,_,rfl,rfl,_,_,_,_,_,(by show (i:Int)+1=_;lia),rfl,s2.trans (aG hp)⟩
  ·rintro aa H' ⟨z,v1,v2,v3,v4,_,rfl,s2⟩;exact k _ (s1.trans s2)
theorem scI:cE ["self","many","last","ties","falls"] ["self","many","last","ties","falls"] (aX eK):=cV
theorem tS (F:gI K "__init__" "Web.__init__" eK f fd) (T:lA mg) (TC:nV K mg C)
 (FS:Fn K mg "look_over_size" bC ["many","last"] fS L6) (GS:aq P w K mg base a9 1 fS L6 ["many","last"] MI)
 (FT:Fn K mg "look_over_ties" bz ["many","ties"] fT p0) (GT:aq P w K mg base a9 2 fT p0 ["many","ties"] Nz)
 (FF:Fn K mg "look_over_falls" aL ["many","falls"] fF zC) (GF:aq P w K mg base a9 2 fF zC ["many","falls"] O7):
 aq P w K mg base a9 3 f fd ["self","many","last","ties","falls"] (M9 C):=by
 refine F.de scI fun _ A _ s H _ Q E hr h=>?_;obtain ⟨p,dx,n,la,a,b,rT,rF,rfl,hp,RT,RF,af,k⟩:=h;have fH:cU 1 _:=hr.mono (by decide);refine ⟨_,aZ (gK (b_ GS fH FS (bu (pv 1) (pv 2))))
  (aZ (gK (b_ GT hr FT (bu (pv 1) (pv 3))))
  (aZ (gK (b_ GF hr FF (bu (pv 1) (pv 4))))
  (aZ (rA (pv 0) (pv 1) rfl) (aZ (rA (pv 0) (pv 2) rfl)
  (aZ (rA (pv 0) (uP yU (by rfl) T.list (by decide+kernel) (bL (pv 3))) rfl)
  (aE (rA (pv 0) (uP yU (by rfl) T.list (by decide+kernel) (bL (pv 4))) rfl))))))),?_⟩
 refine ⟨_,rfl,_,rfl,n,la,rfl,af.n1,af.n2,af.l1,af.l2,?_⟩;refine ⟨_,rfl,_,rfl,n,a,rT,rfl,RT,af.t,?_⟩;refine ⟨_,rfl,_,rfl,n,b,la,rT,rF,rfl,RF,af,fun H1 s1=>?_⟩;have i6:=s1 _ _ hp;have RT1:=RT.same s1;have RF1:=RF.same s1;obtain ⟨AW,Q1⟩:=RT1;obtain ⟨EI,Q2⟩:=RF1;refine ⟨_,rfl,_,rfl,p,C,dx,_,rfl,i6,TC.cl,TC.nM,(by show 0<1000;decide),?_⟩;refine ⟨_,rfl,_,rfl,p,C,dx,_,rfl,ai,TC.cl,TC.nL,(by show 1<1000;decide),?_⟩;rw [NQ];have np:∀{x:Addr} {xs:List V},H1 x=some (.lst xs)->x≠p:=fun {x xs} e=>cQ e i6 nofun;refine ⟨_,rfl,a,_,rfl,.inl (ax.of (by rw [ao (np Q1.1)];exact Q1.1)),fun l1 lM=>?_⟩;have EM:l1≠p:=aF (aQ ai lM);have KH:H1 l1=none:=by rw [ao EM] at lM;exact lM
 refine ⟨_,rfl,p,C,dx,_,rfl,(by rw [ao (aF EM),ai]),TC.cl,TC.nT,Nat.lt_of_le_of_lt (Dq _ _ _) (by show 2<1000;decide),?_⟩;generalize Ls:upd (upd (upd H1 p (.ins C dx (aO "last" (.int la) (aO "many" (.int n) [])))) l1 (.lst (AW.map V.ref))) p (.ins C dx (aO "told_ties" (.ref l1) (aO "last" (.int la) (aO "many" (.int n) []))))=H2;have ze:cq p H1 H2:=fun x o e ne=>by rw [<-Ls,ao ne,ao (aQ e KH),ao ne];exact e
 have p2:H2 p=some (.ins C dx (aO "told_ties" (.ref l1) (aO "last" (.int la) (aO "many" (.int n) [])))):=by rw [<-Ls,ai]
 have l2:H2 l1=some (.lst (AW.map V.ref)):=by rw [<-Ls,ao EM,ai]
 refine ⟨_,rfl,b,_,rfl,.inl (ax.of (ze _ _ Q2.1 (np Q2.1))),fun l3 oF=>?_⟩;have JK:l3≠p:=aF (aQ p2 oF);have l31:l3≠l1:=aF (aQ l2 oF);have KG:H1 l3=none:=by
  cases q:H1 l3 with
  | none=>rfl
  | some o=>rw [ze _ _ q JK] at oF;cases oF
 refine ⟨_,rfl,p,C,dx,_,rfl,(by rw [ao (aF JK)];exact p2),TC.cl,TC.nF,Nat.lt_of_le_of_lt (Dq _ _ _) (Nat.lt_of_le_of_lt (Nat.succ_le_succ (Dq _ _ _)) (by show 3<1000;decide)),?_⟩;generalize Fq:upd (upd H2 l3 (.lst (EI.map V.ref))) p (.ins C dx (aO "told_falls" (.ref l3) (aO "told_ties" (.ref l1) (aO "last" (.int la) (aO "many" (.int n) [])))))=H4;have JP:cq p H1 H4:=fun x o e ne=>by rw [<-Fq,ao ne,ao (aQ e KG)];exact ze _ _ e ne
 have tp:∀{x:Addr} {xs:List V},H1 x=some (.tup xs)->x≠p:=fun {x xs} e=>cQ e i6 nofun;refine k H4 ⟨dx,l1,l3,by rw [<-Fq,ai];rfl,⟨AW,?_,gM Q1.2 fun x r e=>JP _ _ e (tp e)⟩,⟨EI,?_,gM Q2.2 fun x r e=>JP _ _ e (tp e)⟩⟩ (fun x o e ne=>JP _ _ (s1 _ _ e) ne)
 ·rw [<-Fq,ao EM,ao (aF l31)];exact l2
 ·rw [<-Fq,ao JK,ai]
theorem Y7:cE ["self"] ["self"] (aX eJ):=cV
theorem Y8:cE ["self"] ["self"] (aX dO):=cV
theorem qh (F:gI K "ties" "Web.ties" eJ f fd) (T:lA mg) (TC:nV K mg C):aq P w K mg base a9 1 f fd ["self"] (yy C fun T _=>T):=by
 refine F.de Y7 fun _ A _ s H _ Q E hr h=>?_;obtain ⟨p,n,la,rT,rF,rfl,⟨dx,ta,fa,hp,⟨ps,R⟩,_⟩,k⟩:=h;refine ⟨_,aE (cB (uP yU (by rfl) T.list (by decide+kernel) (bL (fC (pv 0) rfl)))),?_⟩;refine ⟨_,rfl,p,C,dx,_,_,rfl,hp,TC.cl,TC.nT,UI _ _ _ _,ta,_,rfl,.inl (ax.of R.1),fun l hl=>?_⟩;exact k l _ hl (aG hl) ⟨ps,ai,(R.same (aG hl)).2⟩
theorem oA (F:gI K "falls" "Web.falls" dO f fd) (T:lA mg) (TC:nV K mg C):aq P w K mg base a9 1 f fd ["self"] (yy C fun _ F=>F):=by
 refine F.de Y8 fun _ A _ s H _ Q E hr h=>?_;obtain ⟨p,n,la,rT,rF,rfl,⟨dx,ta,fa,hp,_,⟨ps,R⟩⟩,k⟩:=h;refine ⟨_,aE (cB (uP yU (by rfl) T.list (by decide+kernel) (bL (fC (pv 0) rfl)))),?_⟩;refine ⟨_,rfl,p,C,dx,_,_,rfl,hp,TC.cl,TC.nF,NL _ _ _ _,fa,_,rfl,.inl (ax.of R.1),fun l hl=>?_⟩;exact k l _ hl (aG hl) ⟨ps,ai,(R.same (aG hl)).2⟩
end Y0
namespace L2
open PySem PySem.Spec PyProof.Rows
theorem pW {l l':List α} {m m':List β} (h:Paired F l m) (h':Paired F l' m'):Paired F (l++l') (m++m'):=by
 induction h with
 | nil=>exact h'
 | cons r t ih=>exact .cons r ih
theorem fw.cat (h1:fw H a ps r) (h2:fw H b qs s) (hp:H p=none):fw (upd H p (.lst (ps.map V.ref++qs.map V.ref))) p (ps++qs) (r++s):=
 ⟨by rw [ai,d_],pW (h1.same (aG hp)).2 (h2.same (aG hp)).2⟩
theorem fw.more (h:fw H l ps rows) (s:aH H0 H) (hl:H0 l=none) (hp:H p=none):
 fw (upd (upd H p (.tup (r.map V.int))) l (.lst (ps.map V.ref++[.ref p]))) l (ps++[p]) (rows++[r])/\aH H0 (upd (upd H p (.tup (r.map V.int))) l (.lst (ps.map V.ref++[.ref p])))/\upd H p (.tup (r.map V.int)) l=some (.lst (ps.map V.ref)):=by
 have R:=h.same (aG (o:=.tup (r.map V.int)) hp);refine ⟨R.push ai,fun b o e=>?_,R.1⟩;rw [ao (aQ e hl),ao (aQ (s _ _ e) hp)];exact s _ _ e
end L2
namespace Y0
open PySem L2
noncomputable def kK (la:Int):Nat->List (List Int)
 | 0=>[]
 | k+1=>kK la k++[[0,(k:Int)+1,la],[(k:Int)+1,0,0]]
theorem yR (la:Int):∀k,(kK la k).length=2*k
 | 0=>rfl
 | k+1=>by unfold kK;rw [ik,yR la k];rfl
noncomputable def Zw:List Int->List (List Int)
 | [a,b,l,m]=>[[a,b,m],[b,a,-l]]
 | _=>[]
noncomputable def jC (rows:List (List Int)):List (List Int):=(rows.map Zw).flatten
noncomputable def vK (rows:List (List Int)):Prop:=∀r∈rows,∃a b l m:Int,r=[a,b,l,m]
theorem uQ:∀{rows:List (List Int)},vK rows->(jC rows).length=2*rows.length
 | [],_=>rfl
 | r::t,h=>by
  obtain ⟨a,b,l,m,rfl⟩:=h _ eD;have ih:=uQ (rows:=t) fun r hr=>h r (gz _ hr);unfold jC at ih ⊢;rw [eR,List.flatten_cons,ik,ih,kD];show 2+2*t.length=2*(t.length+1);lia
theorem cv.lu (h:cv n la T F):vK T:=fun r hr=>by
 obtain ⟨a,b,l,m,e,_⟩:=h.t r hr;exact ⟨a,b,l,m,e⟩
theorem cv.j7 (h:cv n la T F):vK F:=fun r hr=>by
 obtain ⟨a,b,l,m,e,_⟩:=h.f r hr;exact ⟨a,b,l,m,e⟩
noncomputable def gJ (n la:Int) (T F:List (List Int)):List (List Int):=kK la (n-1).toNat++jC T++jC F
structure X_ (mg:Str->Option Value):Prop where
 range:mg "range"=none
noncomputable def MG (C:Addr):Sp:=fun vs H Q _=>∃p n la T F,vs=[.ref p]/\jD C H p n la T F/\1<=n/\n<=8/\∀l H',H l=none->aH H H'->eF H' l (kK la (n-1).toNat)->Q (.ref l) H'
noncomputable def MK:Sp:=fun vs H Q _=>∃a rows,vs=[.ref a]/\eF H a rows/\vK rows/\rows.length<=100/\∀l H',H l=none->aH H H'->eF H' l (jC rows)->Q (.ref l) H'
noncomputable def MO (C:Addr):Sp:=fun vs H Q _=>∃p a n la T F T',vs=[.ref p,.ref a]/\jD C H p n la T F/\cv n la T F/\eF H a T'/\vK T'/\T'.length<=100/\∀l H',H l=none->aH H H'->eF H' l (gJ n la T' F)->Q (.ref l) H'
noncomputable def Hc (C:Addr):Sp:=fun vs H Q _=>∃p n la T F,vs=[.ref p]/\jD C H p n la T F/\cv n la T F/\∀l H',H l=none->aH H H'->eF H' l (gJ n la T F)->Q (.ref l) H'
theorem Iu:cE ["web","bounds","moment"] ["web"] (aX c7):=cV
theorem tM (F:Fn K mg "room_bounds" c7 ["web"] f fd) (T:X_ mg) (TC:nV K mg C):aq P w K mg base a9 1 f fd ["web"] (MG C):=by
 refine F.F.de Iu fun _ A _ s H _ Q E hr h=>?_;obtain ⟨p,n,la,rT,rF,rfl,⟨dx,ta,fa,hp,_,_⟩,n1,n2,k⟩:=h;refine ⟨_,aZ (cA 1 Iu.nd (jl n_))
  (aZ (jt PassesOwn.never rfl (WI rfl T.range (bu aw (fC (pv 0) rfl))) (bR 2 Iu.nd)
   (aZ (gK (rq sf qX se pQ (pv 1) (bL (dA (iw aw (pv 2) (fC (pv 0) rfl))))))
   (aE (gK (rq sf qX se pQ (pv 1) (bL (dA (iw (pv 2) aw aw))))))))
  (aE (cB (pv 1)))),?_⟩
 refine ⟨d9 _,fun l hl=>?_⟩;have s0:=aG (o:=.lst []) hl;refine ⟨_,rfl,p,C,dx,_,_,rfl,s0 _ _ hp,TC.cl,TC.nM,uI _ _ _ _,1,n,rfl,⟨by decide,by decide,by lia,by lia⟩,?_⟩;refine AA (n:=(n-1).toNat) (fun i aa H'=>∃v ps,aa=[some (.ref p),some (.ref l),v]/\fw H' l ps (kK la i)/\aH H H') ⟨none,[],rfl,⟨ai,.nil⟩,s0⟩ ?_ ?_
 ·rintro i aa H1 hi ⟨v,ps,rfl,R1,s1⟩;have small:∀j:Nat,j<=20->j<sizeLine:=fun j hj=>gL (by lia);refine ⟨_,rfl,.inl ⟨rfl,_,ax.of R1.1⟩,_,rfl,_,rfl,p,C,dx,_,_,rfl,s1 _ _ hp,TC.cl,TC.nL,UH _ _ _ _,dc rfl,fun p1 i6=>?_⟩;obtain ⟨R2,s2,e2⟩:=R1.more (r:=[0,1+(i:Int),la]) s1 hl i6;refine ⟨l,_,_,rfl,rfl,e2,?_,?_⟩
  ·rw [aD,R1.len,yR];exact small _ (by omega)
  refine ⟨_,rfl,.inl ⟨rfl,_,ax.of R2.1⟩,_,rfl,dc rfl,fun p2 je=>?_⟩;obtain ⟨R3,s3,e3⟩:=R2.more (r:=[1+(i:Int),0,0]) s2 hl je;refine ⟨l,_,_,rfl,rfl,e3,?_,?_⟩
  ·rw [aD,R2.len,ik,yR];exact small _ (by simp;omega)
  refine ⟨_,ps++[p1]++[p2],rfl,?_,s3⟩;have e:kK la (i+1)=kK la i++[[0,1+(i:Int),la]]++[[1+(i:Int),0,0]]:=by
   rw [List.append_assoc,Int.add_comm 1 (i:Int)];rfl
  rw [e];exact R3
 ·rintro aa H1 ⟨v,ps,rfl,R1,s1⟩;exact ⟨_,rfl,k l _ hl s1 ⟨ps,R1⟩⟩
noncomputable abbrev nSb:List Str:=["spans","bounds","one","other","least","most"]
theorem yp:cE nSb ["spans"] (aX cz):=cV
theorem tJ (F:Fn K mg "span_bounds" cz ["spans"] f fd):aq P w K mg base a9 1 f fd ["spans"] MK:=by
 refine F.F.de yp fun _ A _ s H _ Q E hr h=>?_;obtain ⟨a,rows,rfl,⟨qs,R⟩,h4,hlen,k⟩:=h;refine ⟨_,aZ (cA 1 yp.nd (jl n_))
  (aZ (jt PassesOwn.never rfl (jm (pv 0))
   (uF rfl (dU (bR 2 yp.nd) (dU (bR 3 yp.nd) (dU (bR 4 yp.nd) (dU (bR 5 yp.nd) rE)))))
   (aZ (gK (rq sf qX se pQ (pv 1) (bL (dA (iw (pv 2) (pv 3) (pv 5))))))
   (aE (gK (rq sf qX se pQ (pv 1) (bL (dA (iw (pv 3) (pv 2) (sI sM (pv 4))))))))))
  (aE (cB (pv 1)))),?_⟩
 refine ⟨d9 _,fun l hl=>?_⟩;have s0:=aG (o:=.lst []) hl;refine ⟨_,rfl,a,rfl,⟨_,ax.of (s0 _ _ R.1)⟩,og (K:=K) (a:=a) (xs:=qs.map V.ref) (fun i aa H'=>∃v1 v2 v3 v4 ps,aa=[some (.ref a),some (.ref l),v1,v2,v3,v4]/\fw H' l ps (jC (rows.take i))/\aH H H') ⟨none,none,none,none,[],rfl,⟨ai,.nil⟩,s0⟩ ?_ ?_ ?_⟩
 ·rintro i aa H1 _ ⟨v1,v2,v3,v4,ps,rfl,_,s1⟩;exact ax.of (s1 _ _ R.1)
 ·rintro i x aa H1 hx ⟨v1,v2,v3,v4,ps,rfl,R1,s1⟩;obtain ⟨q,r,rfl,_,aI,iG⟩:=R.get hx;obtain ⟨a',b',le,mo,e4⟩:=h4 r (gn aI);subst e4;have hi:i<rows.length:=(gQ.mp aI).1;have oJ:vK (rows.take i):=fun r hr=>h4 r (List.mem_of_mem_take hr);have lM:(jC (rows.take i)).length<=200:=by rw [uQ oJ,ig];lia
  refine ⟨q,_,rfl,c_.of (s1 _ _ iG),rfl,_,_,rfl,_,_,rfl,_,_,rfl,_,_,rfl,rfl,?_⟩;refine ⟨_,rfl,.inl ⟨rfl,_,ax.of R1.1⟩,_,rfl,_,rfl,_,rfl,dc rfl,fun p1 i6=>?_⟩;obtain ⟨R2,s2,e2⟩:=R1.more (r:=[a',b',mo]) s1 hl i6;refine ⟨l,_,_,rfl,rfl,e2,?_,?_⟩
  ·rw [aD,R1.len];exact gL (by lia)
  refine ⟨_,rfl,.inl ⟨rfl,_,ax.of R2.1⟩,_,rfl,_,rfl,_,rfl,_,rfl,dc rfl,fun p2 je=>?_⟩;obtain ⟨R3,s3,e3⟩:=R2.more (r:=[b',a',-le]) s2 hl je;refine ⟨l,_,_,rfl,rfl,e3,?_,?_⟩
  ·rw [aD,R2.len,ik];exact gL (by simp;lia)
  refine ⟨_,_,_,_,ps++[p1]++[p2],rfl,?_,s3⟩;have e:jC (rows.take (i+1))=jC (rows.take i)++[[a',b',mo]]++[[b',a',-le]]:=by
   unfold jC;rw [l9,aI,d_,List.flatten_append,List.append_assoc];rfl
  rw [e];exact R3
 ·rintro aa H1 ⟨v1,v2,v3,v4,ps,rfl,R1,s1⟩;have hle:rows.take (qs.map V.ref).length=rows:=by
   rw [aD,R.len];exact j8
  rw [hle] at R1;exact ⟨_,rfl,k l _ hl s1 ⟨ps,R1⟩⟩
theorem Y6:cE ["web","ties"] ["web","ties"] (aX c9):=cV
theorem tE (F:Fn K mg "bounds_with" c9 ["web","ties"] f fd) (TC:nV K mg C)
 (FR:Fn K mg "room_bounds" c7 ["web"] fR L7) (GR:aq P w K mg base a9 1 fR L7 ["web"] (MG C))
 (FS:Fn K mg "span_bounds" cz ["spans"] fS L6) (GS:aq P w K mg base a9 1 fS L6 ["spans"] MK)
 (mF:jh K C "falls" fM) (bF:eW K xY ["self"] []) (GF:aq P w K mg base a9 1 fM xY ["self"] (yy C fun _ F=>F)):aq P w K mg base a9 2 f fd ["web","ties"] (MO C):=by
 refine F.F.de Y6 fun _ A _ s H _ Q E hr h=>?_;obtain ⟨p,a,n,la,rT,rF,T',rfl,W0,af,RT,Sl,xR,k⟩:=h;refine ⟨_,aE (cB (bM uE (bM uE (b_ GR hr FR (bL (pv 0))) (b_ GS hr FS (bL (pv 1))))
  (b_ GS hr FS (bL (yK (pv 0) TC.cl mF GF hr bF .nil gu))))),?_⟩
 refine ⟨_,rfl,p,n,la,rT,rF,rfl,W0,af.n1,af.n2,fun l1 H1 _ s1 R1=>?_⟩;refine ⟨_,rfl,a,T',rfl,RT.same s1,Sl,xR,fun l2 H2 _ s2 R2=>?_⟩;obtain ⟨AW,LV⟩:=R1.same s2;obtain ⟨EI,R2⟩:=R2;have e1:=LV.len;have e2:=R2.len;rw [yR] at e1;rw [uQ Sl] at e2;have n2:=af.n2;refine ⟨l1,l2,_,_,rfl,rfl,LV.1,R2.1,?_,fun l3 oF=>?_⟩
 ·rw [aD,aD];exact bo (gL (by lia))
 have R3:=LV.cat R2 oF;have s3:=aG (o:=.lst (AW.map V.ref++EI.map V.ref)) oF;have wK:=(s1.trans s2).trans s3;obtain ⟨dx,ta,fa,hp,_,_⟩:=id (W0.same wK);refine ⟨_,rfl,p,dx,_,rfl,hp,zT _ _ _ _ (by decide+kernel) (by decide+kernel) (by decide+kernel) (by decide+kernel),p,n,la,rT,rF,rfl,W0.same wK,fun l4 H4 _ s4 R4=>?_⟩;refine ⟨l4,rF,rfl,R4,af.j7,by have:=af.fl;lia,fun l5 H5 _ s5 R5=>?_⟩;have Ta:=(R3.same s4).same s5;obtain ⟨ps5,R5⟩:=R5;have e5:=R5.len;rw [uQ af.j7] at e5;have fl:=af.fl;refine ⟨l3,l5,_,_,rfl,rfl,Ta.1,R5.1,?_,fun l6 xI=>?_⟩
 ·rw [aD,aD,ik];exact bo (gL (by lia))
 have Q_:=(wK.trans s4).trans s5;exact k l6 _ (Q_.free xI) (Q_.trans (aG xI)) ⟨_,Ta.cat R5 xI⟩
theorem YE:cE ["web"] ["web"] (aX bG):=cV
theorem tF (F:Fn K mg "told_bounds" bG ["web"] f fd) (TC:nV K mg C)
 (FB:Fn K mg "bounds_with" c9 ["web","ties"] fB rX) (GB:aq P w K mg base a9 2 fB rX ["web","ties"] (MO C))
 (mT:jh K C "ties" fM) (bT:eW K xY ["self"] []) (GT:aq P w K mg base a9 1 fM xY ["self"] (yy C fun T _=>T)):aq P w K mg base a9 3 f fd ["web"] (Hc C):=by
 refine F.F.de YE fun _ A _ s H _ Q E hr h=>?_;obtain ⟨p,n,la,rT,rF,rfl,W0,af,k⟩:=h;have fH:cU 1 _:=hr.mono (by decide);refine ⟨_,aE (cB (b_ GB hr FB (bu (pv 0) (yK (pv 0) TC.cl mT GT fH bT .nil gu)))),?_⟩;obtain ⟨dx,ta,fa,hp,_,_⟩:=id W0;refine ⟨_,rfl,_,rfl,p,dx,_,rfl,hp,zT _ _ _ _ (by decide+kernel) (by decide+kernel) (by decide+kernel) (by decide+kernel),p,n,la,rT,rF,rfl,W0,fun l1 H1 _ s1 R1=>?_⟩;exact ⟨p,l1,n,la,rT,rF,rT,rfl,W0.same s1,af,R1,af.lu,by have:=af.tl;lia,fun l H' hl s' R=>k l H' (s1.free hl) (s1.trans s') R⟩
end Y0
namespace L2
open PySem PySem.Spec PyProof.Rows
section
variable {κ:Type} [DecidableEq κ]
noncomputable def fi (kvs:List (κ×V)) (k:κ):Option V:=(kvs.find? fun kv=>decide (kv.1=k)).map (·.2)
noncomputable def dR (kvs:List (κ×V)) (k:κ) (v:V):List (κ×V):=
 if (kvs.any fun kv=>decide (kv.1=k))=true then kvs.map (fun kv=>if kv.1=k then (kv.1,v) else kv) else kvs++[(k,v)]
theorem pV {p:κ×V} {r:List (κ×V)} {k:κ} (e:p.1=k):fi (p::r) k=some p.2:=by simp [fi,List.find?_cons,e]
theorem pU {p:κ×V} {r:List (κ×V)} {k:κ} (e:¬p.1=k):fi (p::r) k=fi r k:=by simp [fi,List.find?_cons,e]
theorem wu (k:κ):∀kvs:List (κ×V),(kvs.any fun kv=>decide (kv.1=k))=(fi kvs k).isSome
 | []=>rfl
 | p::r=>by
  rw [List.any_cons]
  by_cases e:p.1=k
  ·simp only [pV e,jo e,Bool.true_or,Option.isSome_some]
  ·rw [pU e,fU e,Bool.false_or];exact wu k r
theorem OF (k j:κ) (y:V):∀kvs:List (κ×V),fi (kvs.map fun kv=>if kv.1=k then (kv.1,y) else kv) j=(fi kvs j).map fun x=>if j=k then y else x
 | []=>rfl
 | p::r=>by
  have ih:=OF k j y r;rw [eR]
  by_cases h:p.1=k
  ·rw [if_pos h]
   by_cases e:p.1=j
   ·rw [pV (p:=(p.1,y)) e,pV e,Option.map_some,if_pos (e.symm.trans h)]
   ·rw [pU (p:=(p.1,y)) e,pU e,ih]
  ·rw [if_neg h]
   by_cases e:p.1=j
   ·rw [pV (p:=p) e,pV e,Option.map_some,if_neg (fun z=>h (e.trans z))]
   ·rw [pU (p:=p) e,pU e,ih]
theorem Pw (k j:κ) (y:V):∀kvs:List (κ×V),fi kvs k=none->fi (kvs++[(k,y)]) j=if j=k then some y else fi kvs j
 | [],_=>by
  by_cases e:k=j
  ·rw [if_pos e.symm];exact pV (p:=(k,y)) e
  ·rw [if_neg (fun z=>e z.symm)];exact pU (p:=(k,y)) e
 | p::r,hn=>by
  rw [List.cons_append];have hk:¬p.1=k:=fun z=>by rw [pV z] at hn;cases hn
  rw [pU hk] at hn;have ih:=Pw k j y r hn
  by_cases e:p.1=j
  ·rw [pV e,pV e,if_neg (fun z=>hk (e.trans z))]
  ·rw [pU e,pU e,ih]
theorem Ay (kvs:List (κ×V)) (k j:κ) (y:V):fi (dR kvs k y) j=if j=k then some y else fi kvs j:=by
 unfold dR
 by_cases a:(kvs.any fun kv=>decide (kv.1=k))=true
 ·rw [if_pos a,OF];rw [wu] at a
  by_cases e:j=k
  ·obtain ⟨x,hx⟩:=Option.isSome_iff_exists.mp a;rw [if_pos e,e,hx,Option.map_some,if_pos rfl]
  ·rw [if_neg e]
   cases fi kvs j with
   | none=>rfl
   | some x=>rw [Option.map_some,if_neg e]
 ·rw [if_neg a];refine Pw k j y kvs ?_;rw [wu] at a
  cases q:fi kvs k with
  | none=>rfl
  | some x=>rw [q] at a;exact (a rfl).elim
theorem yT (kvs:List (κ×V)) (k:κ) (v:V):(dR kvs k v).length<=kvs.length+1:=by
 unfold dR;split
 ·rw [aD];exact Nat.le.step Nat.le.refl
 ·rw [ik,kD,LO];exact Nat.le.refl
theorem jA.d8 (r:jA o u):o.isSome=u.isSome:=by
 cases o with
 | none=>cases u with
  | none=>rfl
  | some _=>exact (show False from r).elim
 | some _=>cases u with
  | none=>exact (show False from r).elim
  | some _=>rfl
theorem KV.val {kvs:List (κ×V)} {vs:List (κ×Value)} (r:KV kvs vs) (k:κ):jA (fi kvs k) (valueAt vs k):=by
 unfold KV at r
 induction r with
 | nil=>exact True.intro
 | @cons p q ps qs h _ ih=>
  obtain ⟨h1,h2⟩:=h
  by_cases e:p.1=k
  ·have e':q.1=k:=h1.symm.trans e;have b:valueAt (q::qs) k=some q.2:=by simp [valueAt,List.find?_cons,e']
   rw [pV e,b];exact h2
  ·have e':¬q.1=k:=fun z=>e (h1.trans z);have b:valueAt (q::qs) k=valueAt qs k:=by simp [valueAt,List.find?_cons,e']
   rw [pU e,b];exact ih
theorem KV.any (r:KV kvs vs) (k:κ):(kvs.any fun kv=>decide (kv.1=k))=vs.any fun kv=>decide (kv.1=k):=by
 unfold KV at r
 induction r with
 | nil=>rfl
 | cons h t ih=>rw [List.any_cons,List.any_cons,ih,h.1]
theorem KV.wO (r:KV kvs vs) (k:κ) (ry:bQ y u):
 KV (kvs.map fun kv=>if kv.1=k then (kv.1,y) else kv) (vs.map fun kv=>if kv.1=k then (kv.1,u) else kv):=by
 unfold KV at r ⊢
 induction r with
 | nil=>exact .nil
 | @cons p q ps qs h t ih=>
  rw [eR,eR];refine .cons ?_ ih;obtain ⟨h1,h2⟩:=h
  by_cases e:p.1=k
  ·rw [if_pos e,if_pos (h1.symm.trans e)];exact ⟨h1,ry⟩
  ·rw [if_neg e,if_neg (fun z=>e (h1.trans z))];exact ⟨h1,h2⟩
theorem KV.put (r:KV kvs vs) (k:κ) (ry:bQ y u):KV (dR kvs k y) (stored vs k u):=by
 unfold dR stored;rw [r.any k]
 by_cases e:(vs.any fun kv=>decide (kv.1=k))=true
 ·rw [if_pos e,if_pos e];exact r.wO k ry
 ·rw [if_neg e,if_neg e];exact Paired.snoc r ⟨rfl,ry⟩
theorem KV.length (r:KV kvs vs):kvs.length=vs.length:=Paired.length r
end
theorem yu {P:Program} {w:World} (r:bQ (kV k) u):(lZ P w).is k u=true:=by
 cases k with
 | inl i=>obtain ⟨t,e⟩:=(show ∃t,u=Value.int i t from r);subst e;exact X1 P w i t
 | inr x=>obtain ⟨t,e⟩:=(show ∃t,u=Value.str x t from r);subst e;exact X2 P w x t
theorem OU {P:Program} {w:World}:∀{ks:List Key} {us:List Value},bp (ks.map kV) us->ItemsAre (lZ P w) ks us
 | [],_,r=>by rw [List.map_nil] at r;cases r;exact .nil
 | k::ks,_,r=>by
  rw [eR] at r
  cases r with
  | cons h t=>exact .cons (yu h) (OU t)
noncomputable abbrev KT (H:Hp):List (List Key×V)->List (List Key×Addr×Value)->Prop:=Paired fun p q=>p.1=q.1/\H q.2.1=some (.tup (p.1.map kV))/\bQ p.2 q.2.2
theorem KT.val {H:Hp} {kvs:List (List Key×V)} {xs:List (List Key×Addr×Value)} (r:KT H kvs xs) (k:List Key):jA (fi kvs k) ((atKey xs k).map (·.2)):=by
 induction r with
 | nil=>exact True.intro
 | @cons p q ps qs h _ ih=>
  obtain ⟨h1,_,h2⟩:=h
  by_cases e:p.1=k
  ·have e':q.1=k:=h1.symm.trans e;have b:atKey (q::qs) k=some q.2:=by simp [atKey,List.find?_cons,e']
   rw [pV e,b];exact h2
  ·have e':¬q.1=k:=fun z=>e (h1.trans z);have b:atKey (q::qs) k=atKey qs k:=by simp [atKey,List.find?_cons,e']
   rw [pU e,b];exact ih
theorem KT.wO (r:KT H kvs xs) (k:List Key) (ry:bQ y u):
 KT H (kvs.map fun kv=>if kv.1=k then (kv.1,y) else kv) (xs.map (putAt k u)):=by
 induction r with
 | nil=>exact .nil
 | @cons p q ps qs h t ih=>
  rw [eR,eR];refine .cons ?_ ih;obtain ⟨h1,h2,h3⟩:=h;unfold putAt
  by_cases e:p.1=k
  ·rw [if_pos e,if_pos (h1.symm.trans e)];exact ⟨h1,h2,ry⟩
  ·rw [if_neg e,if_neg (fun z=>e (h1.trans z))];exact ⟨h1,h2,h3⟩
theorem KT.put (r:KT H kvs xs) (k:List Key) (hb:H b=some (.tup (k.map kV))) (ry:bQ y u):
 KT H (dR kvs k y) (storedH xs k b u):=by
 have e:(kvs.any fun kv=>decide (kv.1=k))=(atKey xs k).isSome:=by
  rw [wu,(r.val k).d8,Option.isSome_map]
 unfold dR storedH;rw [e]
 by_cases q:(atKey xs k).isSome=true
 ·rw [if_pos q,if_pos q];exact r.wO k ry
 ·rw [if_neg q,if_neg q];exact Paired.snoc r ⟨rfl,hb,ry⟩
theorem KT.keeps (r:KT H kvs xs) (ht:∀b ys,H b=some (.tup ys)->H' b=some (.tup ys)):KT H' kvs xs:=
 Paired.xh r fun _ _ z=>⟨z.1,ht _ _ z.2.1,z.2.2⟩
section
variable {P:Program} {w:World} {H:Hp} {h:Heap} {a:Addr}
theorem Mc (ok:eE P w H h) (e:Rd H a u):ef P w H h a u:=e.ok ok
theorem zU (ok:eE P w H h) (e:Rd H a (.dK kvs)):kvs.length<=sizeLine/\(a==sysModules)=false/\∃vs,KV kvs vs/\h.DictOf (lZ P w) a vs:=
 show ef P w H h a (.dK kvs) from Mc ok e
theorem QK (ok:eE P w H h) (e:H a=some (.dK kvs)):kvs.length<=sizeLine/\(a==sysModules)=false/\∃vs,KV kvs vs/\h.DictOf (lZ P w) a vs:=zU ok (.inl e)
theorem Ac (ok:eE P w H h) (e:H a=some (.tup (ks.map kV))):(tupleKind (lZ P w)).is h ks a:=by
 obtain ⟨_,its,r,o,h1,h2,n,h3⟩:=(show ef P w H h a (.tup (ks.map kV)) from ok a _ e);exact ⟨o,its.toArray,n,h1,h2,h3,by simpa using OU r⟩
theorem zV (ok:eE P w H h) (e:Rd H a (.dT kvs)):kvs.length<=sizeLine/\(a==sysModules)=false/\
 ∃xs,KT H kvs xs/\h.DictOfH (tupleKind (lZ P w)) a xs:=by
 obtain ⟨z,y,xs,r,o,es,ep,h1,h2,h3,h4,h5⟩:=(show ef P w H h a (.dT kvs) from Mc ok e);refine ⟨z,y,xs,r,o,es,ep,h1,h2,h3,h4,fun x hx=>?_,h5⟩;have all:∀{l:List (List Key×V)} {m:List (List Key×Addr×Value)},KT H l m->∀x∈m,(tupleKind (lZ P w)).is h x.1 x.2.1:=by
  intro l m q
  induction q with
  | nil=>intro x hx;exact nomatch hx
  | @cons p q _ qs hq _ ih=>
   intro x hx;rcases eS.mp hx with e | hx
   ·subst e;exact Ac ok (by rw [<-hq.1];exact hq.2.1)
   ·exact ih x hx
 exact all r x hx
theorem Zd (ok:eE P w H h) (e:H a=some (.dT kvs)):kvs.length<=sizeLine/\(a==sysModules)=false/\
 ∃xs,KT H kvs xs/\h.DictOfH (tupleKind (lZ P w)) a xs:=zV ok (.inl e)
end
noncomputable def fh (H:Hp) (a:Addr) (y:V) (r:Option V):Prop:=
 (∃kvs k,Rd H a (.dK kvs)/\y=kV k/\r=fi kvs k)\/∃kvs k b,Rd H a (.dT kvs)/\y=.ref b/\H b=some (.tup (k.map kV))/\r=fi kvs k
noncomputable def rg (H:Hp) (a:Addr) (y v:V) (H':Hp):Prop:=
 (∃kvs k,H a=some (.dK kvs)/\y=kV k/\kvs.length<sizeLine/\H'=upd H a (.dK (dR kvs k v)))\/
 ∃kvs k b,H a=some (.dT kvs)/\y=.ref b/\H b=some (.tup (k.map kV))/\kvs.length<sizeLine/\H'=upd H a (.dT (dR kvs k v))
theorem fh.k {H:Hp} {a:Addr} {kvs:List (Key×V)} {k:Key} (e:H a=some (.dK kvs)):fh H a (kV k) (fi kvs k):=.inl ⟨kvs,k,.inl e,rfl,rfl⟩
theorem fh.t {H:Hp} {a b:Addr} {kvs:List (List Key×V)} {k:List Key} (e:H a=some (.dT kvs)) (eb:H b=some (.tup (k.map kV))):fh H a (.ref b) (fi kvs k):=.inr ⟨kvs,k,b,.inl e,rfl,eb,rfl⟩
theorem rg.k {H:Hp} {a:Addr} {kvs:List (Key×V)} {k:Key} {v:V} (e:H a=some (.dK kvs)) (hl:kvs.length<sizeLine):rg H a (kV k) v (upd H a (.dK (dR kvs k v))):=.inl ⟨kvs,k,e,rfl,hl,rfl⟩
theorem rg.t {H:Hp} {a b:Addr} {kvs:List (List Key×V)} {k:List Key} {v:V} (e:H a=some (.dT kvs)) (eb:H b=some (.tup (k.map kV))) (hl:kvs.length<sizeLine):
 rg H a (.ref b) v (upd H a (.dT (dR kvs k v))):=.inr ⟨kvs,k,b,e,rfl,eb,hl,rfl⟩
section
variable {X:Cx} {pins:List (Addr×Obj)} {σ:St} {H:Hp} {s:Shared} {a:Addr} {y v:V} {u r:Value} {o:Option V} {A:Around} {E:Value->Shared->Prop}
theorem Inv.big (I:Inv X pins σ H s):sysModules<s.heap.objs.size:=by
 have h:mainGlobals<s.heap.objs.size:=(I.mod.glob.keeps I.bk).lt;exact Nat.lt_trans (by decide) h
theorem Wo (hu:A.units+1<cLine) (I:Inv X pins σ H s) (g:fh H a y (some v)) (ry:bQ y u) (h:∀w' s',Inv X pins σ H s'->bQ v w'->Q w' s'):
 wpAny (model X.prog X.w) A (getItem (.ref a) u) Q E s:=by
 rcases g with ⟨kvs,k,e,ey,l⟩ | ⟨kvs,k,b,e,ey,eb,l⟩
 ·subst ey;obtain ⟨_,_,vs,rel,dd⟩:=zU I.af e;obtain ⟨w',hw,tw⟩:=jA.some_of (v:=v) (o:=valueAt vs k) (by rw [l];exact rel.val k);exact wpAny_getItem_of (yu ry) dd.mapOf hw (h w' _ (I.tok _) tw)
 ·subst ey;cases (show u=Value.ref b from ry);obtain ⟨_,_,xs,rel,dd⟩:=zV I.af e;obtain ⟨w',hw,tw⟩:=jA.some_of (v:=v) (o:=(atKey xs k).map (·.2)) (by rw [l];exact rel.val k);obtain ⟨p,hp,je⟩:=Option.map_eq_some_iff.mp hw;refine wpAny_getItem_heap (tupleKind_room_in1 hu) (Ac I.af eb) dd hp ?_;rw [je];exact h w' _ (I.tok _) tw
theorem Yo (hu:A.units+1<cLine) (I:Inv X pins σ H s) (g:fh H a y o) (ry:bQ y u) (h:∀s',Inv X pins σ H s'->Q (.bool o.isSome) s'):
 wpAny (model X.prog X.w) A (compareOp .In u (.ref a)) Q E s:=by
 rcases g with ⟨kvs,k,e,ey,l⟩ | ⟨kvs,k,b,e,ey,eb,l⟩
 ·subst ey;obtain ⟨_,hd,vs,rel,dd⟩:=zU I.af e;refine wpAny_in_of (yu ry) hd dd.mapOf ?_;rw [<-(rel.val k).d8,<-l];exact h _ (I.tok _)
 ·subst ey;cases (show u=Value.ref b from ry);obtain ⟨_,hd,xs,rel,dd⟩:=zV I.af e;refine wpAny_in_heap (tupleKind_room_in1 hu) (Ac I.af eb) hd dd ?_;have q:=(rel.val k).d8;rw [Option.isSome_map] at q;rw [<-q,<-l];exact h _ (I.tok _)
theorem TR (hu:A.units+1<cLine) (I:Inv X pins σ H s) (g:fh H a y o) (ry:bQ y u) (h:∀s',Inv X pins σ H s'->Q (.bool (!o.isSome)) s'):
 wpAny (model X.prog X.w) A (compareOp .NotIn u (.ref a)) Q E s:=by
 rcases g with ⟨kvs,k,e,ey,l⟩ | ⟨kvs,k,b,e,ey,eb,l⟩
 ·subst ey;obtain ⟨_,hd,vs,rel,dd⟩:=zU I.af e;refine wpAny_notIn_of (yu ry) hd dd.mapOf ?_;rw [<-(rel.val k).d8,<-l];exact h _ (I.tok _)
 ·subst ey;cases (show u=Value.ref b from ry);obtain ⟨_,hd,xs,rel,dd⟩:=zV I.af e;refine wpAny_notIn_heap (tupleKind_room_in1 hu) (Ac I.af eb) hd dd ?_;have q:=(rel.val k).d8;rw [Option.isSome_map] at q;rw [<-q,<-l];exact h _ (I.tok _)
theorem Ht (I:Inv X pins σ H s) (mu:zJ (H a)) (hs:Heap.SameBut a s.heap h') (he:∃q,h'.get? a=some q) (new:ef X.prog X.w (upd H a ob) h' a ob):
 Inv X pins σ (upd H a ob) { s with heap:=h',toks:=t' }:=
 I.write (x:=a) (e:=a) mu (.inl rfl) (fun b _ hb z=>(hs.2 b hb).trans z) he new
theorem Mu {P:Program} {w:World} (z:kvs.length<=sizeLine) (hd:(a==sysModules)=false) (rel:KV kvs vs) (dd:h'.DictOf (lZ P w) a vs):
 ef P w H' h' a (.dK kvs):=⟨z,hd,vs,rel,dd⟩
theorem Wq (hu:A.units+1<cLine) (I:Inv X pins σ H s) (g:rg H a y v H') (ry:bQ y u) (rv:bQ v r) (h:∀s',Inv X pins σ H' s'->Q () s'):
 wpAny (model X.prog X.w) A (setItem (.ref a) u r) Q E s:=by
 rcases g with ⟨kvs,k,e,ey,l,eH⟩ | ⟨kvs,k,b,e,ey,eb,l,eH⟩
 ·subst ey eH;obtain ⟨z,hd,vs,rel,dd⟩:=QK I.af e;have hz:vs.length<=sizeLine:=by rw [<-rel.length];exact z
  have hl:(dR kvs k v).length<=sizeLine:=by have:=yT kvs k v;lia
  refine wpAny_setItem_pairs (hsz:=hz) (yu ry) dd fun h' qS hs=>h _ ?_;have he:∃q,h'.get? a=some q:=let ⟨q,_,_,hq,_⟩:=qS;⟨q,hq⟩;exact Ht I (by rw [e];exact True.intro) hs he (Mu hl hd (rel.put k rv) qS)
 ·subst ey eH;cases (show u=Value.ref b from ry);obtain ⟨z,hd,xs,rel,dd⟩:=Zd I.af e;have hz:xs.length<=sizeLine:=by rw [<-Paired.length rel];exact z
  have hl:(dR kvs k v).length<=sizeLine:=by have:=yT kvs k v;lia
  refine wpAny_setItem_heap (hsz:=hz) (tupleKind_room_in1 hu) (Ac I.af eb) dd fun h' qS hs=>h _ ?_;obtain ⟨q,es,ep,hq,h2,h3,h4,_,h5⟩:=qS;refine Ht I (by rw [e];exact True.intro) hs ⟨q,hq⟩ ⟨hl,hd,_,(rel.put k eb rv).keeps fun c ys ec=>?_,q,es,ep,hq,h2,h3,h4,h5⟩;rw [ao (cQ ec e nofun)];exact ec
end
section
variable {X:Cx} {pins:List (Addr×Obj)} {σ:St} {H:Hp} {s:Shared} {a:Addr} {kvs:List (Key×V)} {k:Key} {u:Value} {A:Around} {E:Value->Shared->Prop}
end
noncomputable def QE (i:Expr):Prop:=∀ov iv,subscripted i false ov iv=operate [ov,iv] (getItem ov iv)
theorem U_ {prog:Program} {w:World} {A:Around} {E:Value->Shared->Prop} {s:Shared} {env:Env} {value slice:Expr} {pos:Pos} {T id:String} {Q:Value->Shared->Prop}
 (hl:typeLookup (.type T) "__getitem__"=pure (some (.builtin id))) (hs:QE slice)
 (h:wpAny (model prog w) A (eval value env) (fun o au=>wpAny (model prog w) A (eval slice env) (fun i gc=>gc.TypeIs o T/\wpAny (model prog w) A (getItem o i) Q E gc) E au) E s):
 wpAny (model prog w) A (eval (.Subscript value slice pos) env) Q E s:=by
 refine Subscript_ (wpAny_mono h (fun o au bU=>wpAny_mono bU (fun i gc jO=>?_) fun _ _ x=>x) fun _ _ x=>x);obtain ⟨hT,jO⟩:=jO;unfold subscriptTail;refine ag ?_;rw [getitemInPython_of_ne hT.not_modules];refine ag (wpAny_specialOf hT hl ?_);have fin:wpAny (model prog w) A (subscripted slice false o i) (fun r jn=>wpAny (model prog w) A (letTemporaryGo value o r>>=fun _=>pure r) Q E jn) E gc:=by
  rw [hs o i];exact wpAny_operating (wpAny_mono jO (fun r jn ub=>ag (wpAny_letTemporaryGo (aU ub))) fun _ _ x=>x)
 first
  | exact aU (ag fin)
  | exact ag (aU (ag fin))
  | exact ag fin
theorem X8 (I:Inv X pins σ H s) (g:fh H a y o):s.TypeIs (.ref a) "dict":=by
 rcases g with ⟨kvs,k,e,_,_⟩ | ⟨kvs,k,b,e,_,_,_⟩
 ·obtain ⟨_,_,vs,_,dd⟩:=zU I.af e;exact dd.typeIs
 ·obtain ⟨_,_,xs,_,dd⟩:=zV I.af e;exact dd.typeIs
noncomputable def ZE (td ty:TE):TE:=fun σ H Q=>td σ H fun x H1=>ty σ H1 fun y H2=>∃a v,x=.ref a/\fh H2 a y (some v)/\Q v H2
noncomputable def YY (ty td:TE):TE:=fun σ H Q=>ty σ H fun y H1=>td σ H1 fun x H2=>∃a o,x=.ref a/\fh H2 a y o/\Q (.bl o.isSome) H2
noncomputable def Vc (ty td:TE):TE:=fun σ H Q=>ty σ H fun y H1=>td σ H1 fun x H2=>∃a o,x=.ref a/\fh H2 a y o/\Q (.bl (!o.isSome)) H2
noncomputable def Zt (td ty tv:TE):TS:=fun D σ H=>tv σ H fun v H1=>td σ H1 fun x H2=>ty σ H2 fun y H3=>∃a H4,x=.ref a/\rg H3 a y v H4/\D.nx σ H4
section
variable {X:Cx} {o i e value:Expr} {pos pos' IG:Pos} {td ty tv:TE}
theorem nc (hu:X.A.units+1<cLine) (ho:PE X o td) (hi:PE X i ty) (hs:QE i):PE X (.Subscript o i pos) (ZE td ty):=by
 intro pins s σ H Q I h;refine U_ PySem.F.slot_dict_getitem.lookup hs (av (ho pins s σ H _ I h) fun u s1 zz=>L2.eQ zz fun x H1 I1 rx q1=>av (hi pins s1 σ H1 _ I1 q1) fun iv s2 zz=>?_);obtain ⟨y,H2,I2,ry,a,v,ex,g,q2⟩:=zz;subst ex;obtain rfl:u=Value.ref a:=rx;exact ⟨X8 I2 g,Wo hu I2 g ry fun w' s3 I3 tw=>⟨v,H2,I3,tw,q2⟩⟩
theorem GU (hu:X.A.units+1<cLine) (hi:PE X i ty) (ho:PE X o td):PC X .In i o (YY ty td):=by
 intro pins s σ H Q I h;refine av (hi pins s σ H _ I h) fun iv s1 zz=>L2.eQ zz fun y H1 I1 ry q1=>av (ho pins s1 σ H1 _ I1 q1) fun u s2 zz=>?_;obtain ⟨x,H2,I2,rx,a,ov,ex,g,q2⟩:=zz;subst ex;obtain rfl:u=Value.ref a:=rx;exact Yo hu I2 g ry fun s3 I3=>⟨.bl ov.isSome,H2,I3,rfl,q2⟩
theorem Dw (hu:X.A.units+1<cLine) (hi:PE X i ty) (ho:PE X o td):PC X .NotIn i o (Vc ty td):=by
 intro pins s σ H Q I h;refine av (hi pins s σ H _ I h) fun iv s1 zz=>L2.eQ zz fun y H1 I1 ry q1=>av (ho pins s1 σ H1 _ I1 q1) fun u s2 zz=>?_;obtain ⟨x,H2,I2,rx,a,ov,ex,g,q2⟩:=zz;subst ex;obtain rfl:u=Value.ref a:=rx;exact TR hu I2 g ry fun s3 I3=>⟨.bl (!ov.isSome),H2,I3,rfl,q2⟩
theorem CY (hu:X.A.units+1<cLine) (ho:PE X o td) (hi:PE X i ty) (hv:PE X value tv) (hs:swapsWith value (some (.Subscript o i pos')) pos.line X.env=pure false):
 PS X (.Assign [.Subscript o i pos'] value pos) (Zt td ty tv):=by
 intro pins s σ H D I h;refine wpAny_Assign_Subscript (av (hv pins s σ H _ I h) fun r s1 zz=>L2.eQ zz fun v H1 I1 rv q1=>av (ho pins s1 σ H1 _ I1 q1) fun u s2 zz=>L2.eQ zz fun x H2 I2 rx q2=>av (hi pins s2 σ H2 _ I2 q2) fun iv s3 zz=>?_) hs;obtain ⟨y,H3,I3,ry,a,H4,ex,g,q3⟩:=zz;subst ex;obtain rfl:u=Value.ref a:=rx;exact Wq hu I3 g ry rv fun s4 I4=>⟨σ,H4,I4,q3⟩
end
theorem NY {P:Program} {w:World} (h:Heap) (hb:sysModules<h.objs.size):ef P w H (h.push { cls:=.type "dict",data:=.dict #[] }) h.objs.size (.dK []):=
 ⟨d9 _,beq_eq_false_iff_ne.mpr (aF (gY hb)),[],.nil,Heap.DictOf.new h⟩
theorem V4 {P:Program} {w:World} (h:Heap) (hb:sysModules<h.objs.size):ef P w H (h.push { cls:=.type "dict",data:=.dict #[] }) h.objs.size (.dT []):=
 ⟨d9 _,beq_eq_false_iff_ne.mpr (aF (gY hb)),[],.nil,_,#[],0,jZ _ rfl,⟨rfl,rfl,rfl⟩,rfl,rfl,List.nodup_nil⟩
noncomputable def T3:TE:=fun _ H Q=>∀p,H p=none->Q (.ref p) (upd H p (.dK []))
noncomputable def T4:TE:=fun _ H Q=>∀p,H p=none->Q (.ref p) (upd H p (.dT []))
section
variable {X:Cx} {pos:Pos}
theorem ON:PE X (.Dict [] [] pos) T3:=fun pins s σ H Q I h=>
 wpAny_Dict_empty ⟨.ref s.heap.objs.size,_,I.laid (a:=s.heap.objs.size) (o:=.dK []) (t':=s.toks) (fun _ _ q=>cW _ q) (az _) (NY s.heap I.big),rfl,h _ (I.af.fresh (az _))⟩
theorem VF:PE X (.Dict [] [] pos) T4:=fun pins s σ H Q I h=>
 wpAny_Dict_empty ⟨.ref s.heap.objs.size,_,I.laid (a:=s.heap.objs.size) (o:=.dT []) (t':=s.toks) (fun _ _ q=>cW _ q) (az _) (V4 s.heap I.big),rfl,h _ (I.af.fresh (az _))⟩
end
noncomputable def He:List (TE×TE)->St->Hp->(List (V×V)->Hp->Prop)->Prop
 | [],_,H,Q=>Q [] H
 | (tk,tv)::r,σ,H,Q=>tk σ H fun x H1=>tv σ H1 fun y H2=>He r σ H2 fun ps H3=>Q ((x,y)::ps) H3
noncomputable abbrev VV:List (V×V)->List (Value×Value)->Prop:=Paired fun p q=>bQ p.1 q.1/\bQ p.2 q.2
noncomputable def FH (X:Cx) (pos:Pos) (keys:List (Option Expr)) (values:List Expr) (wC:List (TE×TE)):Prop:=
 ∀(pins:List (Addr×Obj)) (s:Shared) (σ:St) (H:Hp) (Q:List (V×V)->Hp->Prop),Inv X pins σ H s->He wC σ H Q->
  wpAny (model X.prog X.w) X.A (evalPairs (pairTrees keys values X.env pos)) (fun vs s'=>∃ps H',Inv X pins σ H' s'/\VV ps vs/\Q ps H') X.xe s
theorem UR:FH X pos [] [] []:=fun pins s σ H Q I h=>pairTrees_nil_walk ⟨[],H,I,.nil,h⟩
theorem VI (hk:PE X k tk) (hv:PE X v tv) (hr:FH X pos ks vs wC):
 FH X pos (some k::ks) (v::vs) ((tk,tv)::wC):=fun pins s σ H _ I h=>
 pairTrees_cons_walk (av (hk pins s σ H _ I h) fun _ s1 zz=>L2.eQ zz fun x H1 I1 rx q1=>av (hv pins s1 σ H1 _ I1 q1) fun _ s2 zz=>L2.eQ zz fun y H2 I2 ry q2=>
  av (hr pins s2 σ H2 _ I2 q2) fun _ _ zz=>L2.eQ zz fun ps H3 I3 rel q3=>⟨(x,y)::ps,H3,I3,.cons ⟨rx,ry⟩ rel,q3⟩)
noncomputable def uD (kvs more:List (Key×V)):List (Key×V):=more.foldl (fun acc kv=>dR acc kv.1 kv.2) kvs
theorem KV.merge:∀{more:List (Key×V)} {rs:List (Key×Value)} {kvs:List (Key×V)} {vs:List (Key×Value)},KV more rs->KV kvs vs->KV (uD kvs more) (merged vs rs):=by
 intro more rs kvs vs r;unfold KV at r
 induction r generalizing kvs vs with
 | nil=>intro q;exact q
 | @cons p q _ _ h _ ih=>
  intro r0;have e:KV (dR kvs p.1 p.2) (stored vs q.1 q.2):=by
   have:=r0.put p.1 h.2;rw [<-h.1];exact this
  exact ih e
theorem Qp:∀(more kvs:List (Key×V)),(uD kvs more).length<=kvs.length+more.length
 | [],kvs=>by show kvs.length<=kvs.length+0;exact Nat.le.refl
 | p::r,kvs=>by
  have h1:=Qp r (dR kvs p.1 p.2);have h2:=yT kvs p.1 p.2;show (uD (dR kvs p.1 p.2) r).length<=_;rw [kD];lia
theorem PH {P:Program} {w:World}:∀{kvs:List (Key×V)} {ws:List (Value×Value)},VV (kvs.map fun kv=>(kV kv.1,kv.2)) ws->∃rs,Carries (lZ P w) ws rs/\KV kvs rs
 | [],_,r=>by rw [List.map_nil] at r;cases r;exact ⟨[],True.intro,.nil⟩
 | p::kvs,_,r=>by
  rw [eR] at r
  cases r with
  | @cons a b as bs h t=>
   obtain ⟨rs,c,q⟩:=PH (P:=P) (w:=w) t;obtain ⟨b1,b2⟩:=b;exact ⟨(p.1,b2)::rs,⟨yu h.1,rfl,c⟩,.cons ⟨rfl,h.2⟩ q⟩
noncomputable def ZF (wC:List (TE×TE)):TE:=fun σ H Q=>∀p,H p=none->He wC σ (upd H p (.dK [])) fun ps H2=>H2 p=some (.dK [])/\∃kvs:List (Key×V),ps=kvs.map (fun kv=>(kV kv.1,kv.2))/\kvs.length<=15/\Q (.ref p) (upd H2 p (.dK (uD [] kvs)))
theorem UN (h:FH X pos keys values wC) (bJ:keys.all (·.isSome)=true) (hl:keys.length=values.length) (h0:keys≠[])
 (h15:keys.length<=15):PE X (.Dict keys values pos) (ZF wC):=by
 intro pins s σ H Q I q;have hn:=I.af.fresh (az s.heap.objs.size);have I1:=I.laid (a:=s.heap.objs.size) (o:=.dK []) (h':=s.heap.push { cls:=.type "dict",data:=.dict #[] }) (t':=s.toks) (fun _ _ q=>cW _ q) (az _) (NY s.heap I.big);refine wpAny_Dict_walk (knd:=lZ X.prog X.w) bJ hl h0 h15 (av (h pins _ σ _ _ I1 (q _ hn)) fun ws s2 zz=>?_);obtain ⟨ps,H2,I2,rel,e,kvs,ep,lk,q2⟩:=zz;subst ep;obtain ⟨rs,c,rk⟩:=PH (P:=X.prog) (w:=X.w) rel;obtain ⟨_,hd,vs0,r0,dd⟩:=QK I2.af e;cases r0;refine ⟨rs,c,dd,fun h' qS hs=>⟨.ref s.heap.objs.size,_,?_,rfl,q2⟩⟩;have hz:(uD [] kvs).length<=sizeLine:=by
  have h1:=Qp kvs [];rw [LO] at h1;rw [sizeLine_eq];lia
 have he:∃q,h'.get? s.heap.objs.size=some q:=let ⟨q,_,_,hq,_⟩:=qS;⟨q,hq⟩;exact Ht I2 (by rw [e];exact True.intro) hs he (Mu hz hd (rk.merge .nil) qS)
structure M1 (X:Cx) (o:Expr) (m:Str) (apos:Pos) (e:Expr) (gk:Pos):Prop where
 base:attributeBase o m X.env (eval o X.env)=eval o X.env
 m9:((backTo gk (starEach [e] X.env)).all (fun x=> !x.1) && (backToKw gk (keywordEach [] X.env)).all (fun x=>x.1.isSome)
  && decide (([e]:List Expr).length+([]:List Keyword).length+(if ([]:List Keyword).isEmpty then 0 else 1)<30))=true
 line:(apos.endLine==gk.line)=true
 trees:backTo gk (starEach [e] X.env)=[(false,eval e X.env)]
section
variable {X:Cx} {pins:List (Addr×Obj)} {σ:St} {H:Hp} {s:Shared} {a:Addr} {y d:V} {u r:Value} {o:Option V} {A:Around} {E:Value->Shared->Prop}
end
section
variable {X:Cx} {o e f:Expr} {apos gk:Pos} {td ty tx:TE}
end
section
variable {X:Cx} {pins:List (Addr×Obj)} {σ:St} {H:Hp} {s:Shared} {a:Addr} {kvs:List (Key×V)} {A:Around} {E:Value->Shared->Prop}
end
section
variable {X:Cx} {pins:List (Addr×Obj)} {σ:St} {H:Hp} {s:Shared} {a:Addr} {y:V} {u:Value} {A:Around} {E:Value->Shared->Prop}
end
end L2
namespace MT
variable {n:Nat} {m:Nat->Nat->Nat->Option Int} {pt:Nat->Nat->Nat->Prop} {low:Int}
end MT
namespace MU
structure aj where
 tie:Bool
 a:Nat
 b:Nat
 v:Int
inductive Wd where
 | told | sum | aB | bf | sure | back | ar
structure Row where
 cC:aj
 word:Wd
 used:List Nat
noncomputable abbrev Key:=Bool×Nat×Nat
noncomputable def aj.key (w:aj):Key:=(w.tie,w.a,w.b)
structure St where
 rows:List Row
 best:Key->Option Nat
 bar:Option Nat
noncomputable abbrev ck:=Nat->Option (Nat×Int×Int)
noncomputable def ah (st:St) (i:Nat):Option aj:=(st.rows[i]?).map (·.cC)
noncomputable def val (st:St) (k:Key):Option Int:=(st.best k).bind fun i=>(ah st i).map (·.v)
noncomputable def dD (tie:Bool) (v u:Int):Prop:=if tie=true then v<u else u<v
theorem X5 (h1:dD b x y) (h2:dD b y z):dD b x z:=by
 unfold dD at*;cases b<;>simp_all<;>lia
theorem Ie (h1:¬dD b x y) (h2:¬dD b y z):¬dD b x z:=by
 unfold dD at*;cases b<;>simp_all<;>lia
theorem PF (h:dD b x y):¬dD b y x:=by
 unfold dD at*;cases b<;>simp_all<;>exact fV h
noncomputable def gR (st:St) (w:aj):Prop:=if w.tie=true/\w.a=w.b then w.v<0 else ∀u,val st w.key=some u->dD w.tie w.v u
noncomputable def iA (w:aj):Prop:=w.tie=true/\w.a=w.b/\w.v<0
noncomputable instance (w:aj):Decidable (iA w):=by unfold iA;infer_instance
open Classical in
noncomputable instance (st:St) (w:aj):Decidable (gR st w):=propDecidable _
noncomputable def take (st:St) (w:aj) (word:Wd) (used:List Nat):St:=
 if gR st w then { rows:=st.rows++[⟨w,word,used⟩],best:=fun k=>if k=w.key then some st.rows.length else st.best k,bar:=if st.bar=none/\iA w then some st.rows.length else st.bar } else st
noncomputable def a7 (p q:aj):Option aj:=if p.tie=true/\q.tie=true/\p.b=q.a then some ⟨true,p.a,q.b,p.v+q.v⟩ else none
noncomputable def cS (F:ck) (p:aj):Option aj:=if p.tie=true/\p.a≠p.b then (F p.b).map fun f=>⟨false,p.a,p.b,f.2.2-p.v⟩ else none
noncomputable def da (F:ck) (p:aj):Option aj:=if p.tie=true/\p.a≠p.b/\p.v<0 then (F p.a).map fun f=>⟨true,f.1,p.b,f.2.1+p.v⟩ else none
noncomputable def di (F:ck) (p:aj):Option aj:=if p.tie=false then (F p.b).map fun f=>⟨true,p.a,f.1,-min p.v f.2.1⟩ else none
noncomputable def a_ (F:ck) (p q:aj):Option aj:=if p.tie=false/\q.tie=true/\q.b=p.a/\q.a≠p.b then (F p.b).map fun f=>⟨false,q.a,p.b,min p.v f.2.2-q.v⟩ else none
noncomputable def cR (F:ck) (p:aj):Option aj:=if p.tie=false/\p.a≠p.b/\0<p.v then (F p.a).bind fun o=>(F p.b).map fun f=>⟨false,o.1,p.b,min p.v f.2.2-o.2.1⟩ else none
noncomputable def put (st:St) (o:Option aj) (word:Wd) (used:List Nat):St:=match o with
 | some w=>take st w word used
 | none=>st
noncomputable def aK (f:aj->Option aj) (word:Wd) (i:Nat) (st:St):St:=put st ((ah st i).bind f) word [i]
noncomputable def ak (f:aj->aj->Option aj) (word:Wd) (i j:Nat) (st:St):St:=put st ((ah st i).bind fun p=>(ah st j).bind fun q=>f p q) word [i,j]
noncomputable def cJ (n:Nat) (st:St) (tie:Bool) (a:Nat):List Nat:=(List.range n).filterMap fun b=>st.best (tie,a,b)
noncomputable def dr (n:Nat) (st:St) (b:Nat):List Nat:=(List.range n).filterMap fun a=>st.best (true,a,b)
noncomputable def dW (n:Nat) (F:ck) (at_ a b:Nat) (IQ:St):St:=
 let gv:=aK (cS F) .aB at_ IQ
 let aT:=aK (da F) .bf at_ gv
 let cb:=(cJ n aT true b).foldl (fun st j=>ak a7 .sum at_ j st) aT
 let cy:=(dr n cb a).foldl (fun st j=>ak a7 .sum j at_ st) cb
 (cJ n cy false b).foldl (fun st j=>ak (a_ F) .back j at_ st) cy
noncomputable def fm (n:Nat) (F:ck) (at_ a:Nat) (IQ:St):St:=
 let gv:=aK (di F) .sure at_ IQ
 let aT:=aK (cR F) .ar at_ gv
 (dr n aT a).foldl (fun st j=>ak (a_ F) .back at_ j st) aT
noncomputable def look (n:Nat) (F:ck) (at_:Nat) (st:St):St:=match ah st at_ with
 | some w=>if st.best w.key=some at_ then (if w.tie=true then dW n F at_ w.a w.b st else fm n F at_ w.a st) else st
 | none=>st
noncomputable def run (n:Nat) (F:ck) (st:St):Nat->St
 | 0=>st
 | t+1=>look n F t (run n F st t)
structure Ext (s s':St):Prop where
 rows:∃more,s'.rows=s.rows++more
 best:∀k,s'.best k=s.best k\/∃j,s'.best k=some j/\s.rows.length<=j
 bar:s.bar≠none->s'.bar≠none
structure cj (n:Nat) (s:St):Prop where
 at_:∀k i,s.best k=some i->∃w,ah s i=some w/\w.key=k
 top:∀i w,ah s i=some w->∃j,i<=j/\s.best w.key=some j
 lt:∀i w,ah s i=some w->w.a<n/\w.b<n
 ne:s.bar=none->∀i w,ah s i=some w->w.a≠w.b
 drop:s.bar=none->∀i j w w',ah s i=some w->ah s j=some w'->w.key=w'.key->i<j->dD w.tie w'.v w.v
theorem m_ {w:aj} (h:ah s i=some w):i<s.rows.length:=by
 unfold ah at h
 cases q:s.rows[i]? with
 | none=>rw [q] at h;cases h
 | some r=>exact (gQ.mp q).1
theorem bV {w:aj} (e:Ext s s') (h:ah s i=some w):ah s' i=some w:=by
 obtain ⟨more,hm⟩:=e.rows;have hi:=m_ h;unfold ah at h ⊢;rw [hm,r_ hi];exact h
theorem Ext.refl (s:St):Ext s s:=⟨⟨[],by simp⟩,fun _=>.inl rfl,fun h=>h⟩
theorem Ext.len (e:Ext s s'):s.rows.length<=s'.rows.length:=by
 obtain ⟨more,hm⟩:=e.rows;rw [hm,ik];lia
theorem Ext.trans (x:Ext a b) (y:Ext b c):Ext a c:=by
 refine ⟨?_,fun k=>?_,fun h=>y.bar (x.bar h)⟩
 ·obtain ⟨m1,h1⟩:=x.rows;obtain ⟨m2,h2⟩:=y.rows;exact ⟨m1++m2,by rw [h2,h1,List.append_assoc]⟩
 ·rcases y.best k with h | ⟨j,h,hj⟩
  ·rcases x.best k with h' | ⟨j,h',hj⟩
   ·exact .inl (h.trans h')
   ·exact .inr ⟨j,h.trans h',hj⟩
  ·exact .inr ⟨j,h,eC x.len hj⟩
theorem Ax (st:St) (w:aj) (word:Wd) (used:List Nat):Ext st (take st w word used):=by
 unfold take;split
 ·refine ⟨⟨_,rfl⟩,fun k=>?_,fun h=>?_⟩
  ·show (if k=w.key then some st.rows.length else st.best k)=_\/∃j,(if k=w.key then some st.rows.length else st.best k)=some j/\_
   by_cases e:k=w.key
   ·rw [if_pos e];exact .inr ⟨_,rfl,az _⟩
   ·rw [if_neg e];exact .inl rfl
  ·show (if st.bar=none/\iA w then some st.rows.length else st.bar)≠none;rw [if_neg fun z=>h z.1];exact h
 ·exact Ext.refl st
theorem yO {w:aj} (h:ah ⟨rows++[r],best,bar⟩ i=some w):(i<rows.length/\(rows[i]?).map (·.cC)=some w)\/(i=rows.length/\w=r.cC):=by
 unfold ah at h
 by_cases c:i<rows.length
 ·left;refine ⟨c,?_⟩;have h:((rows++[r])[i]?).map (·.cC)=some w:=h
  rwa [r_ c] at h
 ·right;have h:((rows++[r])[i]?).map (·.cC)=some w:=h;rw [qW (by exact mE c)] at h
  cases q:i-rows.length with
  | zero=>rw [q] at h;exact ⟨by lia,by cases h;rfl⟩
  | succ z=>rw [q] at h;cases h
theorem Pp {w:aj} (g:cj n st) (ha:w.a<n) (hb:w.b<n) (hw:w.tie=false->w.a≠w.b):cj n (take st w word used):=by
 unfold take;split
 next hn=>
  have old:∀{i u},ah st i=some u->ah { rows:=st.rows++[⟨w,word,used⟩],best:=fun k=>if k=w.key then some st.rows.length else st.best k,bar:=if st.bar=none/\iA w then some st.rows.length else st.bar } i=some u:=fun {i u} h=>by
   have hi:=m_ h;unfold ah at h ⊢;rw [r_ hi];exact h
  have new:ah { rows:=st.rows++[⟨w,word,used⟩],best:=fun k=>if k=w.key then some st.rows.length else st.best k,bar:=if st.bar=none/\iA w then some st.rows.length else st.bar } st.rows.length=some w:=by
   unfold ah;rw [qW (az _),Nat.sub_self];rfl
  have nb:(if st.bar=none/\iA w then some st.rows.length else st.bar)=none->st.bar=none/\¬iA w:=fun h=>by
   by_cases c:st.bar=none/\iA w
   ·rw [if_pos c] at h;cases h
   ·rw [if_neg c] at h;exact ⟨h,fun z=>c ⟨h,z⟩⟩
  have QQ:¬iA w->w.a≠w.b:=fun hb e=>by
   cases ht:w.tie with
   | false=>exact hw ht e
   | true=>
    unfold gR at hn;rw [if_pos ⟨ht,e⟩] at hn;exact hb ⟨ht,e,hn⟩
  refine ⟨fun k i h=>?_,fun i u h=>?_,fun i u h=>?_,fun h0 i u h=>?_,fun h0 i j u u' h h' hk ff=>?_⟩
  ·have h:(if k=w.key then some st.rows.length else st.best k)=some i:=h
   by_cases c:k=w.key
   ·rw [if_pos c] at h;cases h;exact ⟨w,new,c.symm⟩
   ·rw [if_neg c] at h;obtain ⟨u,hu,hk⟩:=g.at_ k i h;exact ⟨u,old hu,hk⟩
  ·show ∃j,i<=j/\(if u.key=w.key then some st.rows.length else st.best u.key)=some j;rcases yO h with ⟨hi,hu⟩ | ⟨hi,rfl⟩
   ·by_cases c:u.key=w.key
    ·rw [if_pos c];exact ⟨_,bo hi,rfl⟩
    ·rw [if_neg c];exact g.top i u hu
   ·rw [if_pos rfl];exact ⟨_,Nat.le_of_eq hi,rfl⟩
  ·rcases yO h with ⟨_,hu⟩ | ⟨_,rfl⟩
   ·exact g.lt i u hu
   ·exact ⟨ha,hb⟩
  ·obtain ⟨b0,b1⟩:=nb h0;rcases yO h with ⟨_,hu⟩ | ⟨_,rfl⟩
   ·exact g.ne b0 i u hu
   ·exact QQ b1
  ·obtain ⟨b0,b1⟩:=nb h0;rcases yO h' with ⟨hj,kj⟩ | ⟨hj,e'⟩
   ·rcases yO h with ⟨_,hu⟩ | ⟨hi,_⟩
    ·exact g.drop b0 i j u u' hu kj hk ff
    ·lia
   ·have e':u'=w:=e';rw [e'] at hk ⊢;rcases yO h with ⟨hi,hu⟩ | ⟨hi,_⟩
    ·
     have hu:ah st i=some u:=hu;obtain ⟨j0,hij0,dq⟩:=g.top i u hu;obtain ⟨u0,EU,hk0⟩:=g.at_ _ _ dq;have hv:val st w.key=some u0.v:=by
      unfold val;have hk:u.key=w.key:=hk;rw [<-hk,dq];show (ah st j0).map (·.v)=_;rw [EU];rfl
     unfold gR at hn;rw [if_neg fun z=>QQ b1 z.2] at hn;have h1:=hn _ hv;have ht:u.tie=w.tie:=congrArg Prod.fst hk;rw [ht]
     by_cases c:i=j0
     ·subst c;rw [hu] at EU;cases EU;exact h1
     ·have h2:=g.drop b0 i j0 u u0 hu EU hk0.symm (by lia);rw [ht] at h2;exact X5 h1 h2
    ·lia
 next=>exact g
theorem rH (st:St) (o:Option aj) (word:Wd) (used:List Nat):Ext st (put st o word used):=by
 cases o with
 | none=>exact Ext.refl st
 | some w=>exact Ax st w word used
noncomputable def Imp (s s':St):Prop:=Ext s s'/\∀k u,k.2.1≠k.2.2->val s k=some u->∃u',val s' k=some u'/\¬dD k.1 u u'
theorem yV (b:Bool) (u:Int):¬dD b u u:=by unfold dD;split<;>exact Int.not_lt.mpr (Int.le_refl u)
theorem Imp.refl (s:St):Imp s s:=⟨Ext.refl s,fun k u _ h=>⟨u,h,yV _ _⟩⟩
theorem Imp.trans (x:Imp a b) (y:Imp b c):Imp a c:=by
 refine ⟨x.1.trans y.1,fun k u hk h=>?_⟩;obtain ⟨u1,h1,n1⟩:=x.2 k u hk h;obtain ⟨u2,h2,n2⟩:=y.2 k u1 hk h1;exact ⟨u2,h2,Ie n1 n2⟩
theorem oZ {w:aj} (h:s.best k=some i) (hw:ah s i=some w):val s k=some w.v:=by
 unfold val;rw [h];show (ah s i).map (·.v)=_;rw [hw];rfl
theorem Ds {w:aj} (h:gR st w):val (take st w word used) w.key=some w.v/\ah (take st w word used) st.rows.length=some w/\(take st w word used).rows.length=st.rows.length+1:=by
 have e:take st w word used={ rows:=st.rows++[⟨w,word,used⟩],best:=fun k=>if k=w.key then some st.rows.length else st.best k,bar:=if st.bar=none/\iA w then some st.rows.length else st.bar }:=by
  unfold take;rw [if_pos h]
 have hw:ah (take st w word used) st.rows.length=some w:=by
  rw [e];unfold ah;rw [qW (az _),Nat.sub_self];rfl
 refine ⟨oZ (i:=st.rows.length) (by rw [e];show (if w.key=w.key then some st.rows.length else st.best w.key)=_;rw [if_pos rfl]) hw,hw,?_⟩;rw [e];show (st.rows++[_]).length=_;rw [ik];rfl
theorem wq {w:aj} (h:¬gR st w):take st w word used=st:=by
 unfold take;rw [if_neg h]
theorem WV {w:aj} (hk:k≠w.key) (h:val st k=some u):val (take st w word used) k=some u:=by
 by_cases c:gR st w
 ·have e:=Ax st w word used;unfold val at h ⊢;have hb:(take st w word used).best k=st.best k:=by
   unfold take;rw [if_pos c];show (if k=w.key then some st.rows.length else st.best k)=_;rw [if_neg hk]
  rw [hb]
  cases q:st.best k with
  | none=>rw [q] at h;cases h
  | some i=>
   rw [q] at h;have h:(ah st i).map (·.v)=some u:=h;show (ah (take st w word used) i).map (·.v)=some u
   cases q2:ah st i with
   | none=>rw [q2] at h;cases h
   | some r=>rw [bV e q2];rw [q2] at h;exact h
 ·rw [wq c];exact h
theorem OC (st:St) (w:aj) (word:Wd) (used:List Nat):Imp st (take st w word used):=by
 refine ⟨Ax st w word used,fun k u hk h=>?_⟩
 by_cases c:k=w.key
 ·by_cases hn:gR st w
  ·have h2:=hn;unfold gR at h2;have:¬(w.tie=true/\w.a=w.b):=fun z=>hk (by rw [c];exact z.2);rw [if_neg this] at h2;have h3:=h2 u (by rw [<-c];exact h);refine ⟨w.v,by rw [c];exact (Ds hn).1,fun z=>?_⟩;rw [c] at z;exact PF h3 z
  ·rw [wq hn];exact ⟨u,h,yV _ _⟩
 ·exact ⟨u,WV c h,yV _ _⟩
theorem DH {w:aj} (h:w.a≠w.b):∃u,val (take st w word used) w.key=some u/\¬dD w.tie w.v u:=by
 by_cases c:gR st w
 ·exact ⟨w.v,(Ds c).1,yV _ _⟩
 ·rw [wq c];unfold gR at c;rw [if_neg fun z=>h z.2] at c;have c:=Classical.not_forall.mp c;obtain ⟨u,hu⟩:=c;have hu:=Classical.not_imp.mp hu;exact ⟨u,hu.1,hu.2⟩
theorem Pn {w:aj} (h:iA w):(take st w word used).bar≠none:=by
 have hn:gR st w:=by
  unfold gR;rw [if_pos ⟨h.1,h.2.1⟩];exact h.2.2
 unfold take;rw [if_pos hn];show (if st.bar=none/\iA w then some st.rows.length else st.bar)≠none
 by_cases c:st.bar=none
 ·rw [if_pos ⟨c,h⟩];simp
 ·rw [if_neg fun z=>c z.1];exact c
theorem NC (st:St) (o:Option aj) (word:Wd) (used:List Nat):Imp st (put st o word used):=by
 cases o with
 | none=>exact Imp.refl st
 | some w=>exact OC st w word used
theorem dz (hf:∀s j,Imp s (f s j)):∀(l:List Nat) (s:St),Imp s (l.foldl f s)
 | [],s=>Imp.refl s
 | j::l,s=>(hf s j).trans (dz hf l (f s j))
theorem f_ (f:aj->Option aj) (word:Wd) (i:Nat) (s:St):Imp s (aK f word i s):=NC ..
theorem cH (f:aj->aj->Option aj) (word:Wd) (i j:Nat) (s:St):Imp s (ak f word i j s):=NC ..
theorem XC (n:Nat) (F:ck) (at_ a b:Nat) (s:St):Imp s (dW n F at_ a b s):=
 ((((f_ _ _ _ _).trans (f_ _ _ _ _)).trans (dz (fun _ _=>cH ..) _ _)).trans (dz (fun _ _=>cH ..) _ _)).trans (dz (fun _ _=>cH ..) _ _)
theorem XE (n:Nat) (F:ck) (at_ a:Nat) (s:St):Imp s (fm n F at_ a s):=
 ((f_ _ _ _ _).trans (f_ _ _ _ _)).trans (dz (fun _ _=>cH ..) _ _)
theorem uR (n:Nat) (F:ck) (at_:Nat) (s:St):Imp s (look n F at_ s):=by
 unfold look;split
 ·split
  ·split
   ·exact XC ..
   ·exact XE ..
  ·exact Imp.refl s
 ·exact Imp.refl s
structure g_ (n:Nat) (F:ck) (most:Int):Prop where
 lt:∀e f,F e=some f->f.1<n/\e<n
 own:∀e f,F e=some f->F f.1=none
 num:∀e f,F e=some f->1<=f.2.1/\f.2.1<=f.2.2/\f.2.2<=most
noncomputable def sk (n:Nat) (w:aj):Prop:=w.a<n/\w.b<n/\(w.tie=false->w.a≠w.b)
theorem HB (g:cj n st) (h:∀w,o=some w->sk n w):cj n (put st o word used):=by
 cases o with
 | none=>exact g
 | some w=>exact Pp g (h w rfl).1 (h w rfl).2.1 (h w rfl).2.2
theorem mV (g:cj n s) (hf:∀p w,p.a<n->p.b<n->f p=some w->sk n w):cj n (aK f word i s):=by
 refine HB g fun w h=>?_
 cases q:ah s i with
 | none=>rw [q] at h;cases h
 | some p=>
  rw [q] at h;have:=g.lt i p q;exact hf p w this.1 this.2 h
theorem we (g:cj n s) (hf:∀p q w,p.a<n->p.b<n->q.a<n->q.b<n->f p q=some w->sk n w):cj n (ak f word i j s):=by
 refine HB g fun w h=>?_
 cases e1:ah s i with
 | none=>rw [e1] at h;cases h
 | some p=>
  rw [e1] at h;have h:(ah s j).bind (fun q=>f p q)=some w:=h
  cases e2:ah s j with
  | none=>rw [e2] at h;cases h
  | some q=>
   rw [e2] at h;have h1:=g.lt i p e1;have h2:=g.lt j q e2;exact hf p q w h1.1 h1.2 h2.1 h2.2 h
theorem uS (hf:∀s j,cj n s->cj n (f s j)):∀(l:List Nat) (s:St),cj n s->cj n (l.foldl f s)
 | [],_,g=>g
 | j::l,s,g=>uS hf l (f s j) (hf s j g)
theorem Aq (p q w:aj) (h1:p.a<n) (_:p.b<n) (_:q.a<n) (h4:q.b<n) (h:a7 p q=some w):sk n w:=by
 unfold a7 at h;split at h
 ·cases h;exact ⟨h1,h4,fun z=>nomatch z⟩
 ·cases h
theorem Au (p w:aj) (h1:p.a<n) (h2:p.b<n) (h:cS F p=some w):sk n w:=by
 unfold cS at h;split at h
 next c=>
  cases q:F p.b with
  | none=>rw [q] at h;cases h
  | some f=>rw [q] at h;cases h;exact ⟨h1,h2,fun _=>c.2⟩
 ·cases h
theorem Aw (hF:g_ n F most) (p w:aj) (_:p.a<n) (h2:p.b<n) (h:da F p=some w):sk n w:=by
 unfold da at h;split at h
 ·cases q:F p.a with
  | none=>rw [q] at h;cases h
  | some f=>rw [q] at h;cases h;exact ⟨(hF.lt _ _ q).1,h2,fun z=>nomatch z⟩
 ·cases h
theorem Dr (hF:g_ n F most) (p w:aj) (h1:p.a<n) (_:p.b<n) (h:di F p=some w):sk n w:=by
 unfold di at h;split at h
 ·cases q:F p.b with
  | none=>rw [q] at h;cases h
  | some f=>rw [q] at h;cases h;exact ⟨h1,(hF.lt _ _ q).1,fun z=>nomatch z⟩
 ·cases h
theorem Hw (p q w:aj) (_:p.a<n) (h2:p.b<n) (h3:q.a<n) (_:q.b<n) (h:a_ F p q=some w):sk n w:=by
 unfold a_ at h;split at h
 next c=>
  cases e:F p.b with
  | none=>rw [e] at h;cases h
  | some f=>rw [e] at h;cases h;exact ⟨h3,h2,fun _=>c.2.2.2⟩
 ·cases h
theorem Dz (hF:g_ n F most) (p w:aj) (_:p.a<n) (h2:p.b<n) (h:cR F p=some w):sk n w:=by
 unfold cR at h;split at h
 ·cases e:F p.a with
  | none=>rw [e] at h;cases h
  | some o=>
   rw [e] at h;have h:(F p.b).map (fun f=>(⟨false,o.1,p.b,min p.v f.2.2-o.2.1⟩:aj))=some w:=h
   cases e2:F p.b with
   | none=>rw [e2] at h;cases h
   | some f=>
    rw [e2] at h;cases h;refine ⟨(hF.lt _ _ e).1,h2,fun _ z=>?_⟩;have z:o.1=p.b:=z;have:=hF.own _ _ e;rw [z,e2] at this;cases this
 ·cases h
theorem WB (hF:g_ n F most) (g:cj n s):cj n (look n F at_ s):=by
 unfold look;split
 ·split
  ·split
   ·refine uS (fun _ _ g=>we g Hw) _ _ (uS (fun _ _ g=>we g Aq) _ _ (uS (fun _ _ g=>we g Aq) _ _ (mV (mV g Au) (Aw hF))))
   ·exact uS (fun _ _ g=>we g Hw) _ _ (mV (mV g (Dr hF)) (Dz hF))
  ·exact g
 ·exact g
theorem yL (hF:g_ n F most) (g:cj n s):∀t,cj n (run n F s t)
 | 0=>g
 | t+1=>WB hF (yL hF g t)
noncomputable def Add (C:aj->Prop) (s s':St):Prop:=∀i w,s.rows.length<=i->ah s' i=some w->C w
theorem Add.refl (s:St):Add C s s:=fun i w h e=>absurd (m_ e) (by exact Nat.not_lt_of_le h)
theorem Add.trans (x:Add C a b) (e:Ext b c) (y:Add C b c):Add C a c:=fun i w h hw=>by
 by_cases hi:i<b.rows.length
 ·have:∃w',ah b i=some w':=⟨_,by unfold ah;rw [kF hi];rfl⟩;obtain ⟨w',ki⟩:=this;have:=bV e ki;rw [hw] at this;cases this;exact x i w h ki
 ·exact y i w (by exact mE hi) hw
theorem OB {w:aj} (h:C w):Add C s (take s w word used):=fun i u hi hu=>by
 by_cases c:gR s w
 ·obtain ⟨_,h1,h2⟩:=Ds (word:=word) (used:=used) c;have:=m_ hu;have e:i=s.rows.length:=by lia
  rw [e,h1] at hu;cases hu;exact h
 ·rw [wq c] at hu;exact absurd (m_ hu) (by exact Nat.not_lt_of_le hi)
theorem rG (h:∀w,o=some w->C w):Add C s (put s o word used):=by
 cases o with
 | none=>exact Add.refl s
 | some w=>exact OB (h w rfl)
theorem v_ (hp:ah s i=some p) (h:∀w,f p=some w->C w):Add C s (aK f word i s):=rG fun w e=>by rw [hp] at e;exact h w e
theorem F_ (hp:ah s i=some p) (hq:ah s j=some q) (h:∀w,f p q=some w->C w):Add C s (ak f word i j s):=rG fun w e=>by
 rw [hp] at e;have e:(ah s j).bind (fun q=>f p q)=some w:=e;rw [hq] at e;exact h w e
theorem w4 (hf:∀s j,Imp s (f s j)):∀(l:List Nat) (s0 s:St),Imp s0 s->(∀j∈l,∀s1,Imp s0 s1->Add C s1 (f s1 j))->Add C s (l.foldl f s)
 | [],_,s,_,_=>Add.refl s
 | j::l,s0,s,h0,h=>(h j eD s h0).trans (dz hf l (f s j)).1 (w4 hf l s0 (f s j) (h0.trans (hf s j)) fun k hk=>h k (gz _ hk))
theorem HX (hf:∀s j,Imp s (f s j)):∀(l:List Nat) (s:St) (j:Nat),j∈l->∃s1,Imp s s1/\Imp (f s1 j) (l.foldl f s)
 | [],_,_,h=>nomatch h
 | k::l,s,j,h=>by
  rcases eS.mp h with e | h
  ·subst e;exact ⟨s,Imp.refl s,dz hf l (f s j)⟩
  ·obtain ⟨s1,h1,h2⟩:=HX hf l (f s k) j h;exact ⟨s1,(hf s k).trans h1,h2⟩
theorem HP (h:j∈cJ n st tie a):∃b,b<n/\st.best (tie,a,b)=some j:=by
 obtain ⟨b,hb,e⟩:=List.mem_filterMap.mp h;exact ⟨b,List.mem_range.mp hb,e⟩
theorem DK (h:j∈dr n st b):∃a,a<n/\st.best (true,a,b)=some j:=by
 obtain ⟨a,ha,e⟩:=List.mem_filterMap.mp h;exact ⟨a,List.mem_range.mp ha,e⟩
theorem Az (g:cj n s) (h:val s k=some u):∃i w,s.best k=some i/\ah s i=some w/\w.key=k/\w.v=u:=by
 unfold val at h
 cases q:s.best k with
 | none=>rw [q] at h;cases h
 | some i=>
  obtain ⟨w,hw,hk⟩:=g.at_ k i q;rw [q] at h;have h:(ah s i).map (·.v)=some u:=h;rw [hw] at h;exact ⟨i,w,rfl,hw,hk,eT h⟩
theorem iD {w:aj} {t:Bool} {a b:Nat} (h:w.key=(t,a,b)):w.tie=t/\w.a=a/\w.b=b:=by
 unfold aj.key at h;exact ⟨congrArg Prod.fst h,congrArg (fun z=>z.2.1) h,congrArg (fun z=>z.2.2) h⟩
theorem rC (g:cj n s) (hb:s.bar=none) (h:val s (t,a,b)=some u):a≠b/\a<n/\b<n:=by
 obtain ⟨i,w,_,hw,hk,_⟩:=Az g h;obtain ⟨_,h2,h3⟩:=iD hk;have h4:=g.ne hb i w hw;have h5:=g.lt i w hw;rw [h2,h3] at h4;rw [h2,h3] at h5;exact ⟨h4,h5⟩
theorem NN {n:Nat} {F:ck} {most:Int} (hF:g_ n F most) {s:St} (g:cj n s) {at_ a b c:Nat} {p:aj} {u:Int} (hp:ah s at_=some p) (pt:p.tie=true) (pa:p.a=a) (pb:p.b=b) (hu:val s (true,b,c)=some u) (xQ:b≠c) (hc:c<n):
 (a≠c->∃x,x<=p.v+u/\val (dW n F at_ a b s) (true,a,c)=some x)/\(a=c->p.v+u<0->(dW n F at_ a b s).bar≠none):=by
 have i2:Imp s (aK (da F) .bf at_ (aK (cS F) .aB at_ s)):=(f_ _ _ _ _).trans (f_ _ _ _ _);have g2:cj n (aK (da F) .bf at_ (aK (cS F) .aB at_ s)):=mV (mV g Au) (Aw hF);unfold dW;dsimp only;generalize aK (da F) .bf at_ (aK (cS F) .aB at_ s)=s2 at*;obtain ⟨u2,zg,nb⟩:=i2.2 (true,b,c) u xQ hu;have hle:u2<=u:=by
  unfold dD at nb;simp at nb;exact nb
 obtain ⟨j,q,hj,hq,hqk,hqv⟩:=Az g2 zg;obtain ⟨qt,qa,qb⟩:=iD hqk;have dY:j∈cJ n s2 true b:=List.mem_filterMap.mpr ⟨c,List.mem_range.mpr hc,hj⟩;obtain ⟨s3,i3,RH⟩:=HX (f:=fun st j=>ak a7 .sum at_ j st) (fun _ _=>cH ..) _ s2 j dY;have lh:=bV (i2.1.trans i3.1) hp;have hq3:=bV i3.1 hq;have hw:a7 p q=some ⟨true,a,c,p.v+u2⟩:=by
  unfold a7;rw [if_pos ⟨pt,qt,by rw [pb,qa]⟩,pa,qb,hqv]
 have hd:ak a7 .sum at_ j s3=take s3 ⟨true,a,c,p.v+u2⟩ .sum [at_,j]:=by
  unfold ak;rw [lh];show put s3 ((ah s3 j).bind fun q=>a7 p q) .sum [at_,j]=_;rw [hq3];show put s3 (a7 p q) .sum [at_,j]=_;rw [hw];rfl
 rw [hd] at RH;have iZ:=RH.trans ((dz (f:=fun st j=>ak a7 .sum j at_ st) (fun _ _=>cH ..) (dr n ((cJ n s2 true b).foldl (fun st j=>ak a7 .sum at_ j st) s2) a) _).trans (dz (f:=fun st j=>ak (a_ F) .back j at_ st) (fun _ _=>cH ..) (cJ n ((dr n ((cJ n s2 true b).foldl (fun st j=>ak a7 .sum at_ j st) s2) a).foldl (fun st j=>ak a7 .sum j at_ st) ((cJ n s2 true b).foldl (fun st j=>ak a7 .sum at_ j st) s2)) false b) _));refine ⟨fun vy=>?_,fun vy bg=>?_⟩
 ·obtain ⟨x,hx,nx⟩:=DH (st:=s3) (word:=.sum) (used:=[at_,j]) (w:=⟨true,a,c,p.v+u2⟩) vy;obtain ⟨y,hy,ny⟩:=iZ.2 (true,a,c) x vy hx;refine ⟨y,?_,hy⟩;unfold dD at nx ny;simp at nx ny;lia
 ·exact iZ.1.bar (Pn ⟨rfl,vy,by show p.v+u2<0;lia⟩)
theorem OG (hF:g_ n F most) (g:cj n s) (hp:ah s at_=some p) (pt:p.tie=false) (pa:p.a=a)
 (hB:∀x v,val (fm n F at_ a s) (true,x,a)=some v->-B<=v) (Fs:0<=B) (bw:(fm n F at_ a s).bar=none):
 Add (fun w=>(w.tie=true->-most<=w.v)/\(w.tie=false->w.v<=most+B)) s (fm n F at_ a s):=by
 unfold fm at hB bw ⊢;dsimp only at hB bw ⊢;have g1:cj n (aK (di F) .sure at_ s):=mV g (Dr hF);have i1:Imp s (aK (di F) .sure at_ s):=f_ _ _ _ _;have A1:Add (fun w=>(w.tie=true->-most<=w.v)/\(w.tie=false->w.v<=most+B)) s (aK (di F) .sure at_ s):=v_ hp fun w e=>by
  unfold di at e;rw [if_pos pt] at e
  cases q:F p.b with
  | none=>rw [q] at e;cases e
  | some f=>
   rw [q] at e;cases e;have:=hF.num _ _ q;refine ⟨fun _=>?_,nofun⟩
   show-most<=-min p.v f.2.1
   lia
 generalize aK (di F) .sure at_ s=s1 at*;have i6:=bV i1.1 hp;have g2:cj n (aK (cR F) .ar at_ s1):=mV g1 (Dz hF);have i2:Imp s1 (aK (cR F) .ar at_ s1):=f_ _ _ _ _;have A2:Add (fun w=>(w.tie=true->-most<=w.v)/\(w.tie=false->w.v<=most+B)) s1 (aK (cR F) .ar at_ s1):=v_ i6 fun w e=>by
  unfold cR at e;split at e
  ·cases q:F p.a with
   | none=>rw [q] at e;cases e
   | some o=>
    rw [q] at e;have e:(F p.b).map (fun f=>(⟨false,o.1,p.b,min p.v f.2.2-o.2.1⟩:aj))=some w:=e
    cases q2:F p.b with
    | none=>rw [q2] at e;cases e
    | some f=>
     rw [q2] at e;cases e;have h1:=hF.num _ _ q;have h2:=hF.num _ _ q2;refine ⟨nofun,fun _=>?_⟩;show min p.v f.2.2-o.2.1<=most+B;omega
  ·cases e
 generalize aK (cR F) .ar at_ s1=s2 at*;have je:=bV i2.1 i6;have i3:Imp s2 ((dr n s2 a).foldl (fun st j=>ak (a_ F) .back at_ j st) s2):=dz (fun _ _=>cH ..) _ _;have b2:=fg fun z=>i3.1.bar z bw;have A3:Add (fun w=>(w.tie=true->-most<=w.v)/\(w.tie=false->w.v<=most+B)) s2 ((dr n s2 a).foldl (fun st j=>ak (a_ F) .back at_ j st) s2):=w4 (f:=fun st j=>ak (a_ F) .back at_ j st) (fun _ _=>cH ..) _ s2 s2 (Imp.refl _) fun j hj sx hx=>by
  obtain ⟨c,_,dq⟩:=DK hj;obtain ⟨q,hq,hk⟩:=g2.at_ _ _ dq;obtain ⟨_,qa,qb⟩:=iD hk;have wQ:=g2.ne b2 j q hq;rw [qa,qb] at wQ;obtain ⟨v',fG,nb⟩:=i3.2 (true,c,a) q.v wQ (oZ dq hq);have uj:=hB c v' fG;unfold dD at nb;simp at nb;refine F_ (bV hx.1 je) (bV hx.1 hq) fun w e=>?_;unfold a_ at e;split at e
  ·cases z:F p.b with
   | none=>rw [z] at e;cases e
   | some f=>
    rw [z] at e;cases e;have h2:=hF.num _ _ z;refine ⟨nofun,fun _=>?_⟩;show min p.v f.2.2-q.v<=most+B;lia
  ·cases e
 exact (A1.trans i2.1 A2).trans i3.1 A3
theorem NJ (t:Nat):∀d,Imp (run n F s t) (run n F s (t+d))
 | 0=>Imp.refl _
 | d+1=>(NJ t d).trans (uR n F (t+d) _)
theorem sU (h:t<=t'):Imp (run n F s t) (run n F s t'):=by
 have:=NJ (n:=n) (F:=F) (s:=s) t (t'-t)
 rwa [show t+(t'-t)=t' by lia] at this
section
variable {n:Nat} {F:ck} {most:Int} {s0:St}
noncomputable def pt (n:Nat) (F:ck) (s0:St) (t a b:Nat):Prop:=∃w,ah (run n F s0 t) t=some w/\w.tie=true/\w.a=a/\w.b=b/\(run n F s0 t).best (true,a,b)=some t
theorem Dn {w:aj} (hw:ah s t=some w) (ht:w.tie=true) (ha:w.a=a) (hb:w.b=b) (dq:s.best (true,a,b)=some t):look n F t s=dW n F t a b s:=by
 unfold look;rw [hw];have hk:w.key=(true,a,b):=by unfold aj.key;rw [ht,ha,hb]
 dsimp only;rw [hk,if_pos dq,if_pos ht,ha,hb]
theorem Hm (g:cj n s) (g':cj n s') (e:Ext s s') (h:val s' k≠val s k):∃j w,s.rows.length<=j/\ah s' j=some w/\w.key=k/\val s' k=some w.v:=by
 rcases e.best k with hb | ⟨j,hj,hlen⟩
 ·exfalso;apply h;unfold val;rw [hb]
  cases q:s.best k with
  | none=>rfl
  | some i=>
   show (ah s' i).map (·.v)=(ah s i).map (·.v);obtain ⟨w,hw,_⟩:=g.at_ k i q;rw [hw,bV e hw]
 ·obtain ⟨w,hw,hk⟩:=g'.at_ k j hj;exact ⟨j,w,hlen,hw,hk,oZ hj hw⟩
theorem OQ (h:t<=t') (g:cj n (run n F s0 t)) (hi:(run n F s0 t).best k=some i) (hj:(run n F s0 t').best k=some j):i<=j:=by
 rcases (sU (n:=n) (F:=F) (s:=s0) h).1.best k with e | ⟨j',e,hl⟩
 ·rw [e,hi] at hj;cases hj;exact az _
 ·rw [e] at hj;cases hj;obtain ⟨w,hw,_⟩:=g.at_ k i hi;exact eC (bo (m_ hw)) hl
theorem X6 (h:t<=t') (g:cj n (run n F s0 t)) (g':cj n (run n F s0 t')) (bw:(run n F s0 t').bar=none) (hi:(run n F s0 t).best k=some i) (hj:(run n F s0 t').best k=some j) (df:i≠j):val (run n F s0 t') k≠val (run n F s0 t) k:=by
 obtain ⟨w,hw,hk⟩:=g.at_ k i hi;obtain ⟨w',ki,pq⟩:=g'.at_ k j hj;have hle:=OQ h g hi hj;have:=g'.drop bw i j w w' (bV (sU h).1 hw) ki (hk.trans pq.symm) (by lia);rw [oZ hi hw,oZ hj ki];intro e;have e:w'.v=w.v:=eT e;rw [e] at this;exact yV _ _ this
end
variable {n:Nat} {F:ck} {most:Int} {s0:St}
theorem HQ (hp:ah s t=some p) (ht:p.tie=false) (hb:s.best p.key=some t):look n F t s=fm n F t p.a s:=by
 unfold look;rw [hp];dsimp only;rw [if_pos hb,if_neg (by rw [ht];decide)]
theorem OW (hp:ah s t=some p) (hb:s.best p.key≠some t):look n F t s=s:=by
 unfold look;rw [hp];dsimp only;rw [if_neg hb]
end MU
namespace MH
theorem G':∀(M N:Nat) (f:Nat->Nat),(∀i,i<N->f i<M)->(∀i j,i<j->j<N->f i≠f j)->N<=M
 | 0,N,f,h,_=>by
  cases N with
  | zero=>exact az _
  | succ N=>exact absurd (h 0 (Nat.succ_pos _)) (sd _)
 | M+1,N,f,h,hi=>by
  by_cases c:∃p,p<N/\f p=M
  ·obtain ⟨p,hp,ep⟩:=c;have k:=G' M (N-1) (fun i=>f (if i<p then i else i+1)) (fun i ko=>by
    have h1:(if i<p then i else i+1)<N:=by split<;>lia
    have h2:=h _ h1;have h3:f (if i<p then i else i+1)≠M:=fun z=>by
     by_cases c:i<p
     ·rw [if_pos c] at z;exact hi i p c hp (z.trans ep.symm)
     ·rw [if_neg c] at z;exact hi p (i+1) (by lia) (by lia) (ep.trans z.symm)
    show f (if i<p then i else i+1)<M;lia) (fun i j ff hj=>by
    show f (if i<p then i else i+1)≠f (if j<p then j else j+1);refine hi _ _ ?_ ?_
    ·split<;>split<;>lia
    ·split<;>lia)
   lia
  ·have k:=G' M N f (fun i ko=>by
    have h1:=h i ko;have h2:f i≠M:=fun z=>c ⟨i,ko,z⟩;lia) hi
   exact Nat.le.step k
open Classical in
noncomputable def cnt (P:Nat->Prop):Nat->Nat
 | 0=>0
 | N+1=>cnt P N+if P N then 1 else 0
theorem oX {P:Nat->Prop} (h:P N):cnt P (N+1)=cnt P N+1:=by
 rw [cnt,if_pos h]
theorem sP {P:Nat->Prop} (h:¬P N):cnt P (N+1)=cnt P N:=by
 rw [cnt,if_neg h,Nat.add_zero]
theorem NS (P:Nat->Prop):∀N,∃e:Nat->Nat,(∀i,i<cnt P N->P (e i)/\e i<N)/\∀i j,i<j->j<cnt P N->e i<e j
 | 0=>⟨fun i=>i,fun i h=>absurd h (sd _),fun i j _ h=>absurd h (sd _)⟩
 | N+1=>by
  obtain ⟨e,h1,h2⟩:=NS P N
  by_cases c:P N
  ·have ec:cnt P (N+1)=cnt P N+1:=oX c;refine ⟨fun i=>if i<cnt P N then e i else N,fun i _=>?_,fun i j ff hj=>?_⟩
   ·by_cases d:i<cnt P N
    ·show P (if i<cnt P N then e i else N)/\(if i<cnt P N then e i else N)<N+1;rw [if_pos d];have:=h1 i d;exact ⟨this.1,by lia⟩
    ·show P (if i<cnt P N then e i else N)/\(if i<cnt P N then e i else N)<N+1;rw [if_neg d];exact ⟨c,by exact Nat.le.refl⟩
   ·show (if i<cnt P N then e i else N)<(if j<cnt P N then e j else N);rw [if_pos (show i<cnt P N by lia)]
    by_cases d:j<cnt P N
    ·rw [if_pos d];exact h2 i j ff d
    ·rw [if_neg d];exact (h1 i (by lia)).2
  ·have ec:cnt P (N+1)=cnt P N:=sP c;rw [ec];exact ⟨e,fun i hi=>⟨(h1 i hi).1,by have:=(h1 i hi).2;exact Nat.le.step this⟩,h2⟩
theorem Z8 {P:Nat->Prop} (code:Nat->Nat) (h:∀i,i<N->P i->code i<M) (hi:∀i j,i<j->j<N->P i->P j->code i≠code j):cnt P N<=M:=by
 obtain ⟨e,h1,h2⟩:=NS P N;exact G' M (cnt P N) (fun i=>code (e i)) (fun i z=>h _ (h1 i z).2 (h1 i z).1) fun i j ff hj=>hi _ _ (h2 i j ff hj) (h1 j hj).2 (h1 i (by lia)).1 (h1 j hj).1
theorem FY {P Q R:Nat->Prop} (h:∀i,P i->Q i\/R i):∀N,cnt P N<=cnt Q N+cnt R N
 | 0=>az _
 | N+1=>by
  have ih:=FY h N;have hq:cnt Q N<=cnt Q (N+1):=by
   by_cases c:Q N
   ·rw [oX c];exact Nat.le.step Nat.le.refl
   ·rw [sP c];exact Nat.le.refl
  have hr:cnt R N<=cnt R (N+1):=by
   by_cases c:R N
   ·rw [oX c];exact Nat.le.step Nat.le.refl
   ·rw [sP c];exact Nat.le.refl
  by_cases c:P N
  ·rw [oX c];rcases h N c with q | q
   ·rw [oX q];lia
   ·rw [oX q];lia
  ·rw [sP c];lia
theorem yI:∀(N:Nat) (l:List Nat),l.Nodup->(∀z∈l,z<N)->l.length<=N
 | 0,l,_,h=>by
  cases l with
  | nil=>exact az _
  | cons x t=>exact absurd (h x eD) (sd _)
 | N+1,l,hn,h=>by
  by_cases c:N∈l
  ·have k:=yI N (l.erase N) (hn.erase N) (fun z hz=>by
    have h1:=h z (List.mem_of_mem_erase hz);have h2:z≠N:=fun e=>by
     rw [e] at hz;exact (hn.mem_erase_iff.mp hz).1 rfl
    lia)
   rw [List.length_erase_of_mem c] at k;lia
  ·have k:=yI N l hn (fun z hz=>by
    have h1:=h z hz;have h2:z≠N:=fun e=>c (e▸hz);lia)
   exact Nat.le.step k
end MH
set_option linter.unusedVariables false
namespace MH
structure Bd (n:Nat) (L most:Int) (T:Nat) (len:Nat->Nat) (m w:Nat->Nat->Nat->Option Int) (pt pw:Nat->Nat->Nat->Prop):Prop where
 n8:n<=8
 L0:0<=L
 Be:0<=most
 go:∀t,t<T->t<len t
 xl:∀t,t<T->len t<=len (t+1)
 lt:∀t a b v,t<=T->m t a b=some v->a<n/\b<n/\a≠b
 known:∀t a b,t<T->pt t a b->∃v,m t a b=some v
 iS:∀t a b,t<T->pw t a b->a<n/\b<n/\a≠b/\∃v,w t a b=some v
 mono:∀t a b v,t<T->m t a b=some v->∃v',v'<=v/\m (t+1) a b=some v'
 AH:∀t a b v,t<T->w t a b=some v->∃v',v<=v'/\w (t+1) a b=some v'
 told:∀i,0<i->i<n->(∃v,v<=L/\m 0 0 i=some v)/\∃v,v<=0/\m 0 i 0=some v
 uT:∀a b,w 0 a b=none
 sum:∀t a b c v u,t<T->pt t a b->m t a b=some v->m t b c=some u->a≠c->∃x,x<=v+u/\m (t+1) a c=some x
 bar:∀t a b v u,t<T->pt t a b->m t a b=some v->m t b a=some u->0<=v+u
 one:∀t a b a' b',t<T->pt t a b->pt t a' b'->a=a'/\b=b'
 JD:∀t a b a' b',t<T->pw t a b->pw t a' b'->a=a'/\b=b'
 apart:∀t a b a' b',t<T->pt t a b->¬pw t a' b'
 cause:∀t a b,t<T->m (t+1) a b≠m t a b->(∃c v q y,pt t a c/\c≠b/\m t a c=some v/\m t c b=some q/\m (t+1) a b=some y/\v+q<=y)\/(∃c,pt t c b/\c≠a)\/∃e y,pw t a e/\m (t+1) a b=some y/\-most<=y
 aB:∀t a b e v v',t<T->pt t a b->m t a b=some v->t<=e->e<T->pw e a b->w e a b=some v'->1-v<=v'
 pX:∀t a b B,t<T->0<=B->(∀x y v,m (t+1) x y=some v->-B<=v)->w (t+1) a b≠w t a b->∃y,w (t+1) a b=some y/\y<=most+B
 grow:∀t,t<T->len (t+1)<=len t+20
 v9:∀t,t<T->(∀a b,¬pt t a b)->len (t+1)<=len t+8
 vA:∀t,t<T->(∀a b,¬pt t a b)->(∀a b,¬pw t a b)->len (t+1)=len t
 fq:∀t0 t a b v,t<=T->len t0<=t->t0<=t->m t0 a b=some v->m t a b=some v->∃s,s<t/\pt s a b/\m s a b=some v
 drop:∀t t' a b v v',t<t'->t'<T->pt t a b->pt t' a b->m t a b=some v->m t' a b=some v'->v'<v
 uU:∀t t' a b v v',t<t'->t'<T->pw t a b->pw t' a b->w t a b=some v->w t' a b=some v'->v<v'
 once:∀t t' a b,t<t'->t'<T->pt t a b->pt t' a b->len t<=t'
 nh:∀t t' a b,t<t'->t'<T->pw t a b->pw t' a b->len t<=t'
section
variable {n:Nat} {L most:Int} {T:Nat} {len:Nat->Nat} {m w:Nat->Nat->Nat->Option Int} {pt pw:Nat->Nat->Nat->Prop}
noncomputable def Kn (m:Nat->Nat->Nat->Option Int) (t a b:Nat) (x:Int):Prop:=∃v,v<=x/\m t a b=some v
theorem Kn.le (h:Kn m t a b x) (hx:x<=y):Kn m t a b y:=by
 obtain ⟨v,h1,h2⟩:=h;exact ⟨v,by lia,h2⟩
theorem Bd.n9 (R:Bd n L most T len m w pt pw) (h:m t a b=some v):∀d,t+d<=T->∃v',v'<=v/\m (t+d) a b=some v'
 | 0,_=>⟨v,Int.le_refl _,h⟩
 | d+1,hd=>by
  obtain ⟨v1,h1,e1⟩:=R.n9 h d (by exact bo hd);obtain ⟨v2,h2,e2⟩:=R.mono _ _ _ _ (by exact hd) e1;exact ⟨v2,by lia,e2⟩
theorem Bd.kW (R:Bd n L most T len m w pt pw) (h:m t a b=some v) (ht:t<=t') (hT:t'<=T):∃v',v'<=v/\m t' a b=some v':=by
 obtain ⟨v',h1,h2⟩:=R.n9 h (t'-t) (by lia);rw [show t+(t'-t)=t' by lia] at h2;exact ⟨v',h1,h2⟩
theorem Bd.kn (R:Bd n L most T len m w pt pw) (h:Kn m t a b x) (ht:t<=t') (hT:t'<=T):Kn m t' a b x:=by
 obtain ⟨v,h1,h2⟩:=h;obtain ⟨v',h3,h4⟩:=R.kW h2 ht hT;exact ⟨v',by lia,h4⟩
theorem Bd.same (R:Bd n L most T len m w pt pw) (h:m t a b=some v) (h':m t' a b=some v) (h1:t<=s) (h2:s<=t') (hT:t'<=T):m s a b=some v:=by
 obtain ⟨v1,l1,e1⟩:=R.kW h h1 (by lia);obtain ⟨v2,l2,e2⟩:=R.kW e1 h2 hT;rw [h'] at e2;cases e2;rw [e1,show v1=v by lia]
noncomputable def gW (m:Nat->Nat->Nat->Option Int) (t x:Nat):Int:=(m t x 0).getD 0
theorem Bd.cP (R:Bd n L most T len m w pt pw) (hx:0<x) (hn:x<n) (ht:t<=T):m t x 0=some (gW m t x)/\gW m t x<=0:=by
 obtain ⟨v,h1,h2⟩:=(R.told x hx hn).2;obtain ⟨v',h3,h4⟩:=R.kW h2 (d9 t) ht;unfold gW;rw [h4];exact ⟨rfl,by show v'<=0;lia⟩
theorem Bd.d0 (R:Bd n L most T len m w pt pw) (hx:0<x) (hn:x<n) (ht:t<T):gW m (t+1) x<=gW m t x:=by
 obtain ⟨v,h1,h2⟩:=R.mono _ _ _ _ ht (R.cP hx hn (bo ht)).1;have:=(R.cP (t:=t+1) hx hn ht).1;rw [h2] at this;have:=eT this;lia
theorem Bd.nz (R:Bd n L most T len m w pt pw) (hx:0<x) (hn:x<n) (ht:t<=T):Kn m t 0 x L:=by
 obtain ⟨v,h1,h2⟩:=(R.told x hx hn).1;exact R.kn ⟨v,h1,h2⟩ (d9 t) ht
noncomputable def lT (n:Nat) (L:Int) (m:Nat->Nat->Nat->Option Int) (t x:Nat):Prop:= -L<=gW m t x/\∀z,0<z->z<n->z≠x->Kn m t x z (gW m t x+max L (-gW m t z))
noncomputable def yq (n:Nat) (m:Nat->Nat->Nat->Option Int) (t x:Nat) (l:List Nat):Prop:=l.Nodup/\x∈l/\(∀z∈l,0<z/\z<n)/\∀z∈l,z≠x->Kn m t x z (gW m t x-gW m t z)
theorem lT.next (R:Bd n L most T len m w pt pw) (hx:0<x) (hn:x<n) (ht:t<T) (h:lT n L m t x) (e:m (t+1) x 0=m t x 0):lT n L m (t+1) x:=by
 have er:gW m (t+1) x=gW m t x:=by unfold gW;rw [e]
 refine ⟨by rw [er];exact h.1,fun z h1 h2 h3=>?_⟩;have hz:=R.d0 h1 h2 ht;rw [er];exact (R.kn (h.2 z h1 h2 h3) (nS t) ht).le (by omega)
theorem yq.next (R:Bd n L most T len m w pt pw) (ht:t<T) (h:yq n m t x l) (e:m (t+1) x 0=m t x 0):yq n m (t+1) x l:=by
 have er:gW m (t+1) x=gW m t x:=by unfold gW;rw [e]
 obtain ⟨h1,h2,h3,h4⟩:=h;refine ⟨h1,h2,h3,fun z hz df=>?_⟩;have:=R.d0 (h3 z hz).1 (h3 z hz).2 ht;rw [er];exact (R.kn (h4 z hz df) (nS t) ht).le (by lia)
theorem lT.AI (R:Bd n L most T len m w pt pw) (hx:0<x) (hn:x<n) (h:lT n L m s x):∀d,s+d<=T->m (s+d) x 0=m s x 0->lT n L m (s+d) x
 | 0,_,_=>h
 | d+1,hd,e=>by
  have h1:=(R.cP (t:=s) hx hn (by lia)).1;have h2:m (s+(d+1)) x 0=some (gW m s x):=e.trans h1;have h3:=R.same h1 h2 (s:=s+d) (by lia) (by exact Nat.le.step Nat.le.refl) hd;exact lT.next R (t:=s+d) hx hn (by exact hd) (lT.AI R hx hn h d (by exact bo hd) (h3.trans h1.symm)) (h2.trans h3.symm)
theorem Bd.looked (R:Bd n L most T len m w pt pw) (hs:s<T) (h:pt s x 0) (hx:0<x) (hn:x<n) (e:m (s+1) x 0=m s x 0):lT n L m (s+1) x:=by
 obtain ⟨h1,_⟩:=R.cP (t:=s) hx hn (bo hs);have er:gW m (s+1) x=gW m s x:=by unfold gW;rw [e]
 obtain ⟨p,i6,je⟩:=R.nz hx hn (bo hs);have hb:=R.bar _ _ _ _ _ hs h h1 je;refine ⟨by rw [er];lia,fun z z1 z2 z3=>?_⟩;obtain ⟨q,EV,x9⟩:=R.nz z1 z2 (bo hs);obtain ⟨y,hy,ey⟩:=R.sum _ _ _ _ _ _ hs h h1 x9 (aF z3);refine ⟨y,?_,ey⟩;rw [er];lia
theorem Bd.wG (R:Bd n L most T len m w pt pw) (hx:0<x) (hn:x<n) (ht:t<=T) (h0:len t0<=t) (h1:t0<=t) (e:m t x 0=m t0 x 0):lT n L m t x:=by
 have hr:=(R.cP (t:=t) hx hn ht).1;obtain ⟨s,hs,hp,hv⟩:=R.fq t0 t x 0 _ ht h0 h1 (e.symm.trans hr) hr;have e1:=R.same hv hr (s:=s+1) (by exact Nat.le.step Nat.le.refl) (by exact hs) ht;have hf:=R.looked (by lia) hp hx hn (e1.trans hv.symm);have:=lT.AI R hx hn hf (t-(s+1)) (by lia);rw [show s+1+(t-(s+1))=t by omega] at this;exact this (hr.trans e1.symm)
theorem Bd.over (R:Bd n L most T len m w pt pw) (ht:t<T) (hx:0<x) (hn:x<n) (hc:c≠0) (hp:pt t x c) (hv:m t x c=some v) (hq:m t c 0=some q) (hy:m (t+1) x 0=some y) (hle:v+q<=y) (df:m (t+1) x 0≠m t x 0):
 c<n/\c≠x/\gW m t c=q/\gW m (t+1) x=v+q/\gW m (t+1) x<gW m t x/\gW m (t+1) c<=q:=by
 obtain ⟨_,l2,l3⟩:=R.lt _ _ _ _ (bo ht) hv;have iV:=(R.cP (t:=t) (x:=c) (by lia) l2 (bo ht)).1;rw [hq] at iV;have eq:=eT iV;obtain ⟨z,hz,ez⟩:=R.sum _ _ _ _ _ _ ht hp hv hq (show x≠0 by exact Nat.ne_of_gt hx);rw [hy] at ez;have RJ:=(R.cP (t:=t+1) hx hn ht).1;rw [hy] at RJ;have ey:=eT RJ;have mq:=(R.cP (t:=t) hx hn (bo ht)).1;have hmn:=R.d0 hx hn ht;have Fm:=R.d0 (x:=c) (by lia) l2 ht;refine ⟨l2,aF l3,eq.symm,by lia,?_,by lia⟩;have:gW m (t+1) x≠gW m t x:=fun z=>df (by rw [mq,hy,<-z,ey]);lia
theorem Bd.qf (R:Bd n L most T len m w pt pw) (ht:t<T) (hx:0<x) (hn:x<n) (hc:c≠0) (hp:pt t x c) (hv:m t x c=some v) (hq:m t c 0=some q) (hy:m (t+1) x 0=some y) (hle:v+q<=y) (df:m (t+1) x 0≠m t x 0) (h:lT n L m t c):lT n L m (t+1) x:=by
 obtain ⟨Fm,Lc,eq,er,bg,xP⟩:=R.over ht hx hn hc hp hv hq hy hle df;obtain ⟨f1,f2⟩:=h;obtain ⟨u,hu,eu⟩:=f2 x hx hn (aF Lc);have hb:=R.bar _ _ _ _ _ ht hp hv eu;rw [eq] at hu;refine ⟨by lia,fun z h1 h2 h3=>?_⟩;have hz:=R.d0 h1 h2 ht
 by_cases e:z=c
 ·subst e;obtain ⟨v',fG,LF⟩:=R.mono _ _ _ _ ht hv;exact ⟨v',by omega,LF⟩
 ·obtain ⟨u',kj,LG⟩:=f2 z h1 h2 e;obtain ⟨x',mq,Fy⟩:=R.sum _ _ _ _ _ _ ht hp hv LG (aF h3);rw [eq] at kj;exact ⟨x',by omega,Fy⟩
theorem Bd.ot (R:Bd n L most T len m w pt pw) (ht:t<T) (hx:0<x) (hn:x<n) (hc:c≠0) (hp:pt t x c) (hv:m t x c=some v) (hq:m t c 0=some q) (hy:m (t+1) x 0=some y) (hle:v+q<=y) (df:m (t+1) x 0≠m t x 0) (h:yq n m t c l):yq n m (t+1) x (x::l):=by
 obtain ⟨Fm,Lc,eq,er,bg,xP⟩:=R.over ht hx hn hc hp hv hq hy hle df;obtain ⟨g1,g2,g3,g4⟩:=h;have hxl:x∉l:=fun z=>by
  obtain ⟨u,hu,eu⟩:=g4 x z (aF Lc);have hb:=R.bar _ _ _ _ _ ht hp hv eu;rw [eq] at hu;lia
 refine ⟨List.nodup_cons.mpr ⟨hxl,g1⟩,eD,fun z hz=>?_,fun z hz ui=>?_⟩
 ·rcases eS.mp hz with rfl | hz
  ·exact ⟨hx,hn⟩
  ·exact g3 z hz
 ·rcases eS.mp hz with e | hz
  ·exact absurd e ui
  ·have hzr:=R.d0 (g3 z hz).1 (g3 z hz).2 ht
   by_cases e:z=c
   ·subst e;obtain ⟨v',fG,LF⟩:=R.mono _ _ _ _ ht hv;exact ⟨v',by lia,LF⟩
   ·obtain ⟨u',kj,LG⟩:=g4 z hz e;obtain ⟨x',mq,Fy⟩:=R.sum _ _ _ _ _ _ ht hp hv LG (aF ui);rw [eq] at kj;exact ⟨x',by lia,Fy⟩
noncomputable def gen (len:Nat->Nat):Nat->Nat
 | 0=>0
 | g+1=>len (gen len g)
noncomputable def vM (n:Nat) (most:Int) (m:Nat->Nat->Nat->Option Int) (pt:Nat->Nat->Nat->Prop) (t:Nat):Prop:=(∃c,pt t c 0)\/∃x y,0<x/\x<n/\m (t+1) x 0=some y/\m (t+1) x 0≠m t x 0/\-most<=y
noncomputable def vH (n:Nat) (L:Int) (m:Nat->Nat->Nat->Option Int) (k t0 t:Nat):Prop:=∀x,0<x->x<n->lT n L m t x\/∃l,yq n m t x l/\(k+1<=l.length\/(k<=l.length/\m t x 0=m t0 x 0))
theorem Bd.oK (R:Bd n L most T len m w pt pw) (ht:t<T) (hs:¬vM n most m pt t) (h:vH n L m k t0 t):vH n L m k t0 (t+1):=fun x hx hn=>by
 by_cases e:m (t+1) x 0=m t x 0
 ·rcases h x hx hn with f | ⟨l,c,hl⟩
  ·exact .inl (f.next R hx hn ht e)
  ·refine .inr ⟨l,c.next R ht e,?_⟩;rcases hl with hl | ⟨hl,e0⟩
   ·exact .inl hl
   ·exact .inr ⟨hl,e.trans e0⟩
 ·rcases R.cause t x 0 ht e with ⟨c,v,q,y,hp,hc,hv,hq,hy,hle⟩ | ⟨c,hp,_⟩ | ⟨e',y,_,hy,uj⟩
  ·obtain ⟨Fm,_⟩:=R.over ht hx hn hc hp hv hq hy hle e;rcases h c (by lia) Fm with f | ⟨l,ch,hl⟩
   ·exact .inl (R.qf ht hx hn hc hp hv hq hy hle e f)
   ·refine .inr ⟨x::l,R.ot ht hx hn hc hp hv hq hy hle e ch,.inl ?_⟩;rw [kD];rcases hl with hl | ⟨hl,_⟩<;>lia
  ·exact absurd (.inl ⟨c,hp⟩) hs
  ·exact absurd (.inr ⟨x,y,hx,hn,hy,e,uj⟩) hs
theorem Bd.lz (R:Bd n L most T len m w pt pw) (hs:∀t,t0<=t->t<len t0->¬vM n most m pt t) (h:vH n L m k t0 t0):∀d,t0+d<=T->t0+d<=len t0->vH n L m k t0 (t0+d)
 | 0,_,_=>h
 | d+1,h1,h2=>R.oK (t:=t0+d) (by exact h1) (hs (t0+d) (by lia) (by exact h2)) (R.lz hs h d (by exact bo h1) (by exact bo h2))
theorem Bd.oM (R:Bd n L most T len m w pt pw) (h0:t0<=len t0) (hT:len t0<=T) (hs:∀t,t0<=t->t<len t0->¬vM n most m pt t) (h:vH n L m k t0 t0):vH n L m (k+1) (len t0) (len t0):=fun x hx hn=>by
 have:=R.lz hs h (len t0-t0) (by lia) (by lia);rw [show t0+(len t0-t0)=len t0 by lia] at this;rcases this x hx hn with f | ⟨l,c,hl⟩
 ·exact .inl f
 ·rcases hl with hl | ⟨_,e⟩
  ·exact .inr ⟨l,c,.inr ⟨hl,rfl⟩⟩
  ·exact .inl (R.wG hx hn hT (az _) h0 e)
theorem Bd.jV (R:Bd n L most T len m w pt pw) (h:gen len g<=T) (h2:gen len (g+1)<=T):gen len g<=gen len (g+1):=by
 by_cases c:gen len g=T
 ·rw [c];show T<=len (gen len g);rw [c];have:gen len (g+1)=len T:=by show len (gen len g)=_;rw [c]
  by_cases z:T=0
  ·lia
  ·have h3:=R.go (T-1) (by lia);have h4:=R.xl (T-1) (by lia);rw [show T-1+1=T by lia] at h4;omega
 ·exact bo (R.go _ (by lia))
theorem Bd.l7 (R:Bd n L most T len m w pt pw):∀k,gen len (g+k)<=T->(∀i,i<=k->gen len (g+i)<=T)->(∀t,gen len g<=t->t<gen len (g+k)->¬vM n most m pt t)->(∀i,i<=k->gen len g<=gen len (g+i))->(∀i,i<k->gen len (g+i)<=gen len (g+k))->vH n L m (k+1) (gen len (g+k)) (gen len (g+k))
 | 0,_,_,_,_,_=>fun x hx hn=>.inr ⟨[x],⟨List.nodup_cons.mpr ⟨by simp,List.nodup_nil⟩,eD,fun z hz=>by rw [iK.mp hz];exact ⟨hx,hn⟩,fun z hz df=>absurd (iK.mp hz) df⟩,.inr ⟨az _,rfl⟩⟩
 | k+1,hT,hle,hs,hm,hu=>by
  have h1:gen len (g+k)<=gen len (g+(k+1)):=hu k (by exact Nat.le.refl);have ih:=R.l7 (g:=g) k (hle k (by exact Nat.le.step Nat.le.refl)) (fun i hi=>hle i (by exact Nat.le.step hi)) (fun t a b=>hs t a (by lia)) (fun i hi=>hm i (by exact Nat.le.step hi)) (fun i hi=>by
   have h2:∀j,j<=k-i->gen len (g+i)<=gen len (g+(i+j)):=fun j=>by
    induction j with
    | zero=>intro _;exact az _
    | succ j ih=>
     intro hj;exact eC (ih (by exact bo hj)) (R.jV (g:=g+(i+j)) (hle (i+j) (by lia)) (hle (i+j+1) (by lia)))
   have:=h2 (k-i) (az _)
   rwa [show i+(k-i)=k by lia] at this)
  exact R.oM (t0:=gen len (g+k)) h1 hT (fun t a b=>hs t (by have:=hm k (by exact Nat.le.step Nat.le.refl);lia) b) ih
end
end MH
set_option maxRecDepth 4000
namespace MH
theorem wc {P:Nat->Prop} (Rl:Nat->Nat->Prop) (h:∀i,i<N->P i->∃c,c<M/\Rl i c) (hi:∀i j c,i<j->j<N->P i->P j->Rl i c->Rl j c->False):cnt P N<=M:=by
 classical
 refine Z8 (fun i=>if z:∃c,c<M/\Rl i c then Classical.choose z else 0) (fun i hN hP=>?_) (fun i j ff hN hP Su e=>?_)
 ·have z:=h i hN hP;show (if z:∃c,c<M/\Rl i c then Classical.choose z else 0)<M;rw [dif_pos z];exact (Classical.choose_spec z).1
 ·have z1:=h i (by lia) hP;have z2:=h j hN Su;have e:(if z:∃c,c<M/\Rl i c then Classical.choose z else 0)=(if z:∃c,c<M/\Rl j c then Classical.choose z else 0):=e;rw [dif_pos z1,dif_pos z2] at e;have h1:=(Classical.choose_spec z1).2;have h2:=(Classical.choose_spec z2).2;rw [<-e] at h2;exact hi i j _ ff hN hP Su h1 h2
theorem MZ {P:Nat->Prop}:∀{N:Nat},(∀i,i<N->P i)->cnt P N=N
 | 0,_=>rfl
 | N+1,h=>by rw [oX (h N (by exact Nat.le.refl)),MZ fun i hi=>h i (by exact Nat.le.step hi)]
theorem dec {k a r a' r':Nat} (hr:r<k) (aI:r'<k) (h:a*k+r=a'*k+r'):a=a'/\r=r':=by
 have hk:0<k:=by lia
 have e1:(a*k+r) / k=a:=by rw [Nat.add_comm,Nat.add_mul_div_right _ _ hk,Nat.div_eq_of_lt hr,Nat.zero_add]
 have e2:(a'*k+r') / k=a':=by rw [Nat.add_comm,Nat.add_mul_div_right _ _ hk,Nat.div_eq_of_lt aI,Nat.zero_add]
 rw [h,e2] at e1;subst e1;exact ⟨rfl,by lia⟩
theorem enc {k a r N:Nat} (ha:a<N) (hr:r<k):a*k+r<N*k:=by
 have h1:(a+1)*k<=N*k:=Nat.mul_le_mul_right _ ha;rw [Nat.add_mul,Nat.one_mul] at h1;lia
noncomputable def kc (a b:Nat):Nat:=a*7+if b<a then b else b-1
noncomputable def N8 (a b:Nat):Prop:=a<8/\b<8/\a≠b
theorem oW (h:N8 a b):kc a b<56:=by
 obtain ⟨h1,h2,h3⟩:=h;unfold kc;split<;>lia
theorem uA {a b a' b':Nat} (h:N8 a b) (h':N8 a' b') (e:kc a b=kc a' b'):a=a'/\b=b':=by
 obtain ⟨h1,h2,h3⟩:=h;obtain ⟨h4,h5,h6⟩:=h';unfold kc at e;obtain ⟨e1,e2⟩:=dec (show (if b<a then b else b-1)<7 by split<;>omega) (show (if b'<a' then b' else b'-1)<7 by split<;>omega) e;subst e1;refine ⟨rfl,?_⟩;split at e2<;>split at e2<;>lia
section
variable {n l mo T:Nat} {len:Nat->Nat} {m w:Nat->Nat->Nat->Option Int} {pt pw:Nat->Nat->Nat->Prop}
theorem Bd.m6 (R:Bd n L most T len m w pt pw):∀d,t0+d<=T->len (t0+d)<=len t0+20*cnt (fun i=>∃a b,pt (t0+i) a b) d+8*cnt (fun i=>∃a b,pw (t0+i) a b) d
 | 0,_=>by show len t0<=_;exact Nat.le.refl
 | d+1,h=>by
  have ih:=R.m6 (t0:=t0) d (by exact bo h);have hT:t0+d<T:=by exact h
  show len (t0+d+1)<=_
  by_cases c:∃a b,pt (t0+d) a b
  ·rw [oX c];have h1:=R.grow (t0+d) hT;have h2:cnt (fun i=>∃a b,pw (t0+i) a b) d<=cnt (fun i=>∃a b,pw (t0+i) a b) (d+1):=by
    by_cases z:∃a b,pw (t0+d) a b
    ·rw [oX z];exact Nat.le.step Nat.le.refl
    ·rw [sP z];exact Nat.le.refl
   lia
  ·rw [sP c];have c':∀a b,¬pt (t0+d) a b:=fun a b z=>c ⟨a,b,z⟩
   by_cases z:∃a b,pw (t0+d) a b
   ·rw [oX z];have:=R.v9 (t0+d) hT c';lia
   ·rw [sP z];have:=R.vA (t0+d) hT c' fun a b q=>z ⟨a,b,q⟩;lia
theorem Bd.qx (R:Bd n L most T len m w pt pw):∀d,t+d<=T->len t<=len (t+d)
 | 0,_=>az _
 | d+1,h=>eC (R.qx d (by exact bo h)) (R.xl (t+d) (by exact h))
theorem Bd.eN (R:Bd n L most T len m w pt pw) (h:t<=t') (hT:t'<=T):len t<=len t':=by
 have:=R.qx (t:=t) (t'-t) (by lia)
 rwa [show t+(t'-t)=t' by lia] at this
theorem Bd.n6 (R:Bd n L most T len m w pt pw) (hT:t0+d<=T) (hl:t0+d<=len t0):len (t0+d)<=len t0+1568:=by
 have h:=R.m6 d hT;have h8:=R.n8;have c1:cnt (fun i=>∃a b,pt (t0+i) a b) d<=56:=by
  refine wc (fun i c=>∃a b,pt (t0+i) a b/\N8 a b/\c=kc a b) (fun i hi hP=>?_) (fun i j c ff hj _ _ h1 h2=>?_)
  ·obtain ⟨a,b,hp⟩:=hP;obtain ⟨v,hv⟩:=R.known _ _ _ (show t0+i<T by lia) hp;obtain ⟨l1,l2,l3⟩:=R.lt _ _ _ _ (show t0+i<=T by lia) hv;have q:N8 a b:=⟨by lia,by lia,l3⟩;exact ⟨_,oW q,a,b,hp,q,rfl⟩
  ·obtain ⟨a,b,hp,hb,e1⟩:=h1;obtain ⟨a',b',gO,dZ,e2⟩:=h2;obtain ⟨rfl,rfl⟩:=uA hb dZ (e1.symm.trans e2);have:=R.once _ _ _ _ (show t0+i<t0+j by lia) (by lia) hp gO;have:=R.eN (show t0<=t0+i by lia) (by lia);lia
 have c2:cnt (fun i=>∃a b,pw (t0+i) a b) d<=56:=by
  refine wc (fun i c=>∃a b,pw (t0+i) a b/\N8 a b/\c=kc a b) (fun i hi hP=>?_) (fun i j c ff hj _ _ h1 h2=>?_)
  ·obtain ⟨a,b,hp⟩:=hP;obtain ⟨l1,l2,l3,_⟩:=R.iS _ _ _ (show t0+i<T by lia) hp;have q:N8 a b:=⟨by lia,by lia,l3⟩;exact ⟨_,oW q,a,b,hp,q,rfl⟩
  ·obtain ⟨a,b,hp,hb,e1⟩:=h1;obtain ⟨a',b',gO,dZ,e2⟩:=h2;obtain ⟨rfl,rfl⟩:=uA hb dZ (e1.symm.trans e2);have:=R.nh _ _ _ _ (show t0+i<t0+j by lia) (by lia) hp gO;have:=R.eN (show t0<=t0+i by lia) (by lia);lia
 lia
theorem Bd.gens (R:Bd n L most T len m w pt pw):∀N,((∀i,i<=N->gen len i<=T)/\len (gen len N)<=len 0+1568*N)\/len T<=len 0+1568*N
 | 0=>.inl ⟨fun i hi=>by rw [show i=0 by lia];exact d9 _,az _⟩
 | N+1=>by
  rcases R.gens N with ⟨h,hl⟩ | h
  ·have h0:=h N (az _)
   by_cases c:gen len (N+1)<=T
   ·refine .inl ⟨fun i hi=>?_,?_⟩
    ·by_cases e:i=N+1
     ·rw [e];exact c
     ·exact h i (by lia)
    ·have h1:=R.jV h0 c;have:=R.n6 (t0:=gen len N) (d:=gen len (N+1)-gen len N) (by lia) (by show _<=gen len (N+1);lia);rw [show gen len N+(gen len (N+1)-gen len N)=gen len (N+1) by lia] at this;rw [Nat.mul_succ,<-Nat.add_assoc];exact eC this (Nat.add_le_add_right hl _)
   ·right;have:=R.n6 (t0:=gen len N) (d:=T-gen len N) (by lia) (by show _<=gen len (N+1);lia);rw [show gen len N+(T-gen len N)=T by lia] at this;rw [Nat.mul_succ,<-Nat.add_assoc];exact eC this (Nat.add_le_add_right hl _)
  ·right;rw [Nat.mul_succ,<-Nat.add_assoc];exact eC h (Nat.le_add_right _ _)
theorem Bd.cG (R:Bd n L most T len m w pt pw) (h:∀i,i<=N->gen len i<=T):∀j,i+j<=N->gen len i<=gen len (i+j)
 | 0,_=>az _
 | j+1,hj=>eC (R.cG h j (by exact bo hj)) (R.jV (g:=i+j) (h (i+j) (by exact bo hj)) (h (i+j+1) (by omega)))
theorem Bd.narrow (R:Bd n (l:Int) (mo:Int) T len m w pt pw) (hg:∀i,i<=g+7->gen len i<=T) (hs:∀t,gen len g<=t->t<gen len (g+7)->¬vM n (mo:Int) m pt t):∀a b,a<n->b<n->a≠b->Kn m (gen len (g+7)) a b (l:Int):=by
 have hT:=hg (g+7) (az _);have c:=R.l7 (g:=g) 7 hT (fun i hi=>hg _ (by lia)) hs (fun i hi=>R.cG hg i (by lia)) (fun i hi=>by
  have:=R.cG hg (i:=g+i) (7-i) (by lia)
  rwa [show g+i+(7-i)=g+7 by lia] at this)
 have h8:=R.n8;have BS:∀x,0<x->x<n->lT n (l:Int) m (gen len (g+7)) x:=fun x hx hn=>by
  rcases c x hx hn with f | ⟨ls,⟨c1,_,c3,_⟩,hl⟩
  ·exact f
  ·exfalso;have:=yI 8 (0::ls) (List.nodup_cons.mpr ⟨fun z=>by have:=(c3 0 z).1;exact False.elim (j9 0 this),c1⟩) (fun z hz=>by
    rcases eS.mp hz with e | hz
    ·lia
    ·have:=(c3 z hz).2;lia)
   rw [kD] at this;lia
 intro a b ha hb lN
 by_cases e:a=0
 ·subst e;exact R.nz (by lia) hb hT
 ·by_cases e':b=0
  ·subst e';obtain ⟨h1,h2⟩:=R.cP (t:=gen len (g+7)) (by lia) ha hT;exact ⟨_,by lia,h1⟩
  ·have h1:=(BS a (by lia) ha).2 b (by lia) hb (aF lN);have h2:=(BS b (by lia) hb).1;have h3:=(R.cP (t:=gen len (g+7)) (x:=a) (by lia) ha hT).2;exact h1.le (by lia)
theorem Bd.quiet (R:Bd n (l:Int) (mo:Int) T len m w pt pw) {N:Nat} (hN:N=7*(l+1)+7*(mo+1)+1) (hg:∀i,i<=7*N->gen len i<=T):∃b,b<N/\∀t,gen len (7*b)<=t->t<gen len (7*b+7)->¬vM n (mo:Int) m pt t:=by
 refine fg fun hn=>?_;have hs:∀b,b<N->∃t,gen len (7*b)<=t/\t<gen len (7*b+7)/\vM n (mo:Int) m pt t:=fun b hb=>by
  refine fg fun h=>hn ⟨b,hb,fun t h1 h2 h3=>h ⟨t,h1,h2,h3⟩⟩
 have h8:=R.n8;have tT:∀{b t},b<N->t<gen len (7*b+7)->t<T:=fun {b t} hb ht=>by
  have:=hg (7*b+7) (by lia);lia
 have key:=wc (P:=fun _=>True) (N:=N) (M:=7*(l+1)+7*(mo+1)) (fun b c=>∃t,gen len (7*b)<=t/\t<gen len (7*b+7)/\((∃x r,pt t (x+1) 0/\x<7/\r<l+1/\m t (x+1) 0=some (-(r:Int))/\c=x*(l+1)+r)\/
  ∃x r,x<7/\r<mo+1/\m (t+1) (x+1) 0=some (-(r:Int))/\m (t+1) (x+1) 0≠m t (x+1) 0/\c=7*(l+1)+(x*(mo+1)+r))) (fun b hb _=>by
  obtain ⟨t,h1,h2,h3⟩:=hs b hb;have ht:=tT hb h2;rcases h3 with ⟨x,hp⟩ | ⟨x,y,hx,hxn,hy,df,uj⟩
  ·obtain ⟨v,hv⟩:=R.known _ _ _ ht hp;obtain ⟨l1,_,l3⟩:=R.lt _ _ _ _ (bo ht) hv;obtain ⟨e1,e2⟩:=R.cP (t:=t) (x:=x) (by lia) l1 (bo ht);rw [hv] at e1;have e1:=eT e1;obtain ⟨p,i6,je⟩:=R.nz (t:=t) (x:=x) (by lia) l1 (bo ht);have hb:=R.bar _ _ _ _ _ ht hp hv je;have hr:(-v).toNat<l+1:=by lia
   obtain ⟨x,rfl⟩:∃z,x=z+1:=⟨x-1,by lia⟩;exact ⟨x*(l+1)+(-v).toNat,by have:=enc (a:=x) (N:=7) (show x<7 by lia) hr;lia,t,h1,h2,.inl ⟨x,(-v).toNat,hp,by lia,hr,by rw [hv];congr 1;lia,rfl⟩⟩
  ·obtain ⟨e1,e2⟩:=R.cP (t:=t+1) hx hxn (show t+1<=T by exact ht);rw [hy] at e1;have e1:=eT e1;have hr:(-y).toNat<mo+1:=by lia
   obtain ⟨x,rfl⟩:∃z,x=z+1:=⟨x-1,by lia⟩;exact ⟨7*(l+1)+(x*(mo+1)+(-y).toNat),by have:=enc (a:=x) (N:=7) (show x<7 by lia) hr;lia,t,h1,h2,.inr ⟨x,(-y).toNat,by lia,hr,by rw [hy];congr 1;lia,df,rfl⟩⟩)
  (fun b b' c z9 dZ _ _ h1 h2=>by
   obtain ⟨t,_,t2,h1⟩:=h1;obtain ⟨t',ZZ,QX,h2⟩:=h2;have lK:t<t':=by
    have:=R.cG hg (i:=7*b+7) (7*b'-(7*b+7)) (by omega);rw [show 7*b+7+(7*b'-(7*b+7))=7*b' by omega] at this;lia
   have Sn:=tT dZ QX;rcases h1 with ⟨x,r,hp,hx,hr,hv,e1⟩ | ⟨x,r,_,hr,hv,_,e1⟩
   ·rcases h2 with ⟨x',r',gO,mq,aI,fG,e2⟩ | ⟨x',r',_,_,_,_,e2⟩
    ·obtain ⟨rfl,rfl⟩:=dec hr aI (e1.symm.trans e2);have:=R.drop _ _ _ _ _ _ lK Sn hp gO hv fG;lia
    ·have:=enc (a:=x) (N:=7) hx hr;lia
   ·rcases h2 with ⟨x',r',_,mq,aI,_,e2⟩ | ⟨x',r',mq,aI,fG,ui,e2⟩
    ·have:=enc (a:=x') (N:=7) mq aI;lia
    ·obtain ⟨rfl,rfl⟩:=dec hr aI (show x*(mo+1)+r=x'*(mo+1)+r' by lia);have:=R.same hv fG (s:=t') (by exact lK) (by exact Nat.le.step Nat.le.refl) (by exact Sn);exact ui (fG.trans this.symm))
 rw [MZ fun i _=>trivial] at key;lia
end
section
variable {n l mo T:Nat} {len:Nat->Nat} {m w:Nat->Nat->Nat->Option Int} {pt pw:Nat->Nat->Nat->Prop}
theorem Bd.xV (R:Bd n L most T len m w pt pw) (ht:t<T):∃g,(∀i,i<=g->gen len i<=t)/\t<gen len (g+1):=by
 have key:∀N,(∀i,i<=N->gen len i<=t/\i<=gen len i)\/∃g,(∀i,i<=g->gen len i<=t)/\t<gen len (g+1):=by
  intro N
  induction N with
  | zero=>exact .inl fun i hi=>by rw [show i=0 by lia];exact ⟨d9 _,d9 _⟩
  | succ N ih=>
   rcases ih with h | h
   ·by_cases c:gen len (N+1)<=t
    ·refine .inl fun i hi=>?_
     by_cases e:i=N+1
     ·rw [e];have h1:=h N (az _);have h2:gen len N<gen len (N+1):=R.go (gen len N) (by lia);exact ⟨c,by lia⟩
     ·exact h i (by lia)
    ·exact .inr ⟨N,fun i hi=>(h i hi).1,by lia⟩
   ·exact .inr h
 rcases key (t+1) with h | h
 ·have:=h (t+1) (az _);omega
 ·exact h
theorem Bd.m7 (R:Bd n L most T len m w pt pw) (h:∀i,i<=g'->gen len i<=t) (ht:t<=T) (hg:g<=g'):gen len g<=gen len g':=by
 have:=R.cG (N:=g') (fun i hi=>eC (h i hi) ht) (i:=g) (g'-g) (by lia)
 rwa [show g+(g'-g)=g' by lia] at this
theorem Bd.kM (R:Bd n L most T len m w pt pw) (hB:0<=B) (hT:t<=T) (h:∀x y v,m t x y=some v->-B<=v):∀s,s<=t->∀a b v,w s a b=some v->v<=most+B
 | 0,_,a,b,v,e=>by rw [R.uT] at e;cases e
 | s+1,hs,a,b,v,e=>by
  by_cases c:w (s+1) a b=w s a b
  ·exact R.kM hB hT h s (by exact bo hs) a b v (c▸e)
  ·obtain ⟨y,h1,h2⟩:=R.pX s a b B (by lia) hB (fun x y v' e'=>by
    obtain ⟨v2,l2,e2⟩:=R.kW e' hs hT;have:=h x y v2 e2;lia) c
   rw [e] at h1;cases h1;exact h2
theorem Bd.AQ (R:Bd n (l:Int) (mo:Int) T len m w pt pw) (hg:∀i,i<=g+1->gen len i<=T) (hk:∀a b,a<n->b<n->a≠b->Kn m (gen len g) a b (l:Int))
 (hq:∀τ,gen len g<=τ->τ<gen len (g+1)->(∀a b,¬pt τ a b)/\∀a b,m (τ+1) a b=m τ a b) (h1:gen len g<=t) (h2:t<gen len (g+1)) (hp:pw t a b) (hv:w t a b=some v):1-(l:Int)<=v/\v<=(mo:Int)+l:=by
 have hT:=hg (g+1) (az _);have Ff:=R.jV (hg g (by exact Nat.le.step Nat.le.refl)) hT;have same:∀x y d,gen len g+d<=gen len (g+1)->m (gen len g+d) x y=m (gen len g) x y:=fun x y d=>by
  induction d with
  | zero=>intro _;rfl
  | succ d ih=>exact fun hd=>((hq (gen len g+d) (by lia) (by exact hd)).2 x y).trans (ih (by exact bo hd))
 have qJ:∀x y,m (gen len (g+1)) x y=m (gen len g) x y:=fun x y=>by
  have:=same x y (gen len (g+1)-gen len g) (by lia)
  rwa [show gen len g+(gen len (g+1)-gen len g)=gen len (g+1) by lia] at this
 have seen:∀x y q,m (gen len (g+1)) x y=some q->∃s,s<gen len g/\pt s x y/\m s x y=some q:=fun x y q iV=>by
  obtain ⟨s,hs,hp,hv⟩:=R.fq (gen len g) (gen len (g+1)) x y q hT (az _) Ff ((qJ x y).symm.trans iV) iV;refine ⟨s,?_,hp,hv⟩;refine fg fun c=>?_;exact (hq s (by exact mE c) hs).1 x y hp
 have kn:∀x y,x<n->y<n->x≠y->Kn m (gen len (g+1)) x y (l:Int):=fun x y hx hy pf=>R.kn (hk x y hx hy pf) Ff hT;have low:∀x y q,m (gen len (g+1)) x y=some q->-(l:Int)<=q:=fun x y q iV=>by
  obtain ⟨x1,x2,x3⟩:=R.lt _ _ _ _ hT iV;obtain ⟨q',Fd,e'⟩:=kn y x x2 x1 (aF x3);obtain ⟨s,hs,ps,vs⟩:=seen x y q iV;obtain ⟨s',vn,e_,QS⟩:=seen y x q' e';rcases Nat.lt_trichotomy s s' with c | c | c
  ·have:=R.same vs iV (s:=s') (by exact bo c) (by lia) hT;have:=R.bar _ _ _ _ _ (by lia) e_ QS this;lia
  ·subst c;have:=(R.one _ _ _ _ _ (by lia) ps e_).1;exact False.elim (x3 this)
  ·have:=R.same QS e' (s:=s) (by exact bo c) (by lia) hT;have:=R.bar _ _ _ _ _ (by lia) ps vs this;lia
 refine ⟨?_,R.kM (Int.natCast_nonneg l) hT (fun x y v e=>low x y v e) t (by exact bo h2) a b v hv⟩;obtain ⟨p1,p2,p3,_⟩:=R.iS _ _ _ (by lia) hp;obtain ⟨q,Fd,e'⟩:=kn a b p1 p2 p3;obtain ⟨s,hs,ps,vs⟩:=seen a b q e';have:=R.aB _ _ _ _ _ _ (by lia) ps vs (show s<=t by lia) (by lia) hp hv;lia
theorem Bd.after (R:Bd n (l:Int) (mo:Int) T len m w pt pw) (Sd:∀i,i<=g1->gen len i<=T) (hk:∀a b,a<n->b<n->a≠b->Kn m (gen len g1) a b (l:Int)):
 len T<=len (gen len g1)+20*(56*(2*l+1))+8*((56*(2*l+1)+56*(mo+l+1))*56+(56*(mo+2*l+1)+56)):=by
 have h1:=Sd g1 (az _);have h8:=R.n8;have g:=R.m6 (t0:=gen len g1) (T-gen len g1) (by lia);rw [show gen len g1+(T-gen len g1)=T by lia] at g;have kn:∀t x y,gen len g1<=t->t<=T->x<n->y<n->x≠y->Kn m t x y (l:Int):=fun t x y ht hT hx hy pf=>R.kn (hk x y hx hy pf) ht hT;have tie:∀t a b,gen len g1<=t->t<T->pt t a b->∃r,a<8/\N8 a b/\r<2*l+1/\m t a b=some ((r:Int)-l):=fun t a b h h' hp=>by
  obtain ⟨v,hv⟩:=R.known _ _ _ h' hp;obtain ⟨l1,l2,l3⟩:=R.lt _ _ _ _ (bo h') hv;obtain ⟨v1,hle,e1⟩:=kn t a b h (bo h') l1 l2 l3;rw [hv] at e1;cases e1;obtain ⟨u,hu,eu⟩:=kn t b a h (bo h') l2 l1 (aF l3);have:=R.bar _ _ _ _ _ h' hp hv eu;exact ⟨(v+l).toNat,by lia,⟨by lia,by lia,l3⟩,by lia,by rw [hv];congr 1;lia⟩
 have c1:cnt (fun i=>∃a b,pt (gen len g1+i) a b) (T-gen len g1)<=56*(2*l+1):=by
  refine wc (fun i c=>∃a b r,pt (gen len g1+i) a b/\a<8/\N8 a b/\r<2*l+1/\m (gen len g1+i) a b=some ((r:Int)-l)/\c=kc a b*(2*l+1)+r) (fun i hi hP=>?_) (fun i j c ff hj _ _ z1 z2=>?_)
  ·obtain ⟨a,b,hp⟩:=hP;obtain ⟨r,x1,x2,x3,x4⟩:=tie _ a b (Nat.le_add_right _ _) (by lia) hp;exact ⟨_,enc (oW x2) x3,a,b,r,hp,x1,x2,x3,x4,rfl⟩
  ·obtain ⟨a,b,r,hp,_,x2,x3,x4,e1⟩:=z1;obtain ⟨a',b',r',gO,y1,y2,y3,y4,e2⟩:=z2;obtain ⟨ek,rfl⟩:=dec x3 y3 (e1.symm.trans e2);obtain ⟨rfl,rfl⟩:=uA x2 y2 ek;have:=R.drop _ _ _ _ _ _ (show gen len g1+i<gen len g1+j by lia) (by omega) hp gO x4 y4;lia
 have c2:cnt (fun i=>∃a b,pw (gen len g1+i) a b) (T-gen len g1)<=(56*(2*l+1)+56*(mo+l+1))*56+(56*(mo+2*l+1)+56):=by
  let Ga:Nat->Nat->Prop:=fun t g=>(∀i,i<=g->gen len i<=t)/\t<gen len (g+1)/\gen len (g+1)<=T
  let St:Nat->Prop:=fun τ=>(∃a b,pt τ a b)\/∃a b,m (τ+1) a b≠m τ a b
  have up:∀{t g},gen len g1<=t->t<T->(∀i,i<=g->gen len i<=t)->t<gen len (g+1)->g1<=g:=fun {t g} h _ _ z2=>by
   refine fg fun c=>?_;have:=R.cG Sd (i:=g+1) (g1-(g+1)) (by lia);rw [show g+1+(g1-(g+1))=g1 by omega] at this;lia
  have s1:=FY (P:=fun i=>∃a b,pw (gen len g1+i) a b/\gen len g1+i<T) (Q:=fun i=>(∃a b,pw (gen len g1+i) a b)/\∃g,Ga (gen len g1+i) g/\∃τ,gen len g<=τ/\τ<gen len (g+1)/\St τ)
   (R:=fun i=>(∃a b,pw (gen len g1+i) a b)/\((∃g,Ga (gen len g1+i) g/\∀τ,gen len g<=τ->τ<gen len (g+1)->¬St τ)\/∃g,gen len g<=gen len g1+i/\T<gen len (g+1))) (fun i hP=>by
    obtain ⟨a,b,hp,hT⟩:=hP;obtain ⟨g,z1,z2⟩:=R.xV hT
    by_cases c:gen len (g+1)<=T
    ·by_cases d:∃τ,gen len g<=τ/\τ<gen len (g+1)/\St τ
     ·exact .inl ⟨⟨a,b,hp⟩,g,⟨z1,z2,c⟩,d⟩
     ·exact .inr ⟨⟨a,b,hp⟩,.inl ⟨g,⟨z1,z2,c⟩,fun τ y1 y2 y3=>d ⟨τ,y1,y2,y3⟩⟩⟩
    ·exact .inr ⟨⟨a,b,hp⟩,.inr ⟨g,z1 g (az _),by lia⟩⟩) (T-gen len g1)
  have s0:cnt (fun i=>∃a b,pw (gen len g1+i) a b) (T-gen len g1)=cnt (fun i=>∃a b,pw (gen len g1+i) a b/\gen len g1+i<T) (T-gen len g1):=by
   have:∀N,N<=T-gen len g1->cnt (fun i=>∃a b,pw (gen len g1+i) a b) N=cnt (fun i=>∃a b,pw (gen len g1+i) a b/\gen len g1+i<T) N:=fun N=>by
    induction N with
    | zero=>intro _;rfl
    | succ N ih=>
     intro hN
     by_cases c:∃a b,pw (gen len g1+N) a b
     ·obtain ⟨a,b,hp⟩:=c;rw [oX ⟨a,b,hp⟩,oX (P:=fun i=>∃a b,pw (gen len g1+i) a b/\gen len g1+i<T) ⟨a,b,hp,by lia⟩,ih (by exact bo hN)]
     ·rw [sP c,sP (P:=fun i=>∃a b,pw (gen len g1+i) a b/\gen len g1+i<T) fun ⟨a,b,hp,_⟩=>c ⟨a,b,hp⟩,ih (by exact bo hN)]
   exact this _ (az _)
  have s2:=FY (P:=fun i=>(∃a b,pw (gen len g1+i) a b)/\((∃g,Ga (gen len g1+i) g/\∀τ,gen len g<=τ->τ<gen len (g+1)->¬St τ)\/∃g,gen len g<=gen len g1+i/\T<gen len (g+1)))
   (Q:=fun i=>(∃a b,pw (gen len g1+i) a b)/\∃g,Ga (gen len g1+i) g/\∀τ,gen len g<=τ->τ<gen len (g+1)->¬St τ) (R:=fun i=>(∃a b,pw (gen len g1+i) a b)/\∃g,gen len g<=gen len g1+i/\T<gen len (g+1)) (fun i hP=>hP.2.elim (fun z=>.inl ⟨hP.1,z⟩) fun z=>.inr ⟨hP.1,z⟩) (T-gen len g1)
  have xo:∀{t a b},t<T->pw t a b->a<8/\N8 a b:=fun {t a b} h hp=>by
   obtain ⟨x1,x2,x3,_⟩:=R.iS _ _ _ h hp;exact ⟨by lia,by lia,by lia,x3⟩
  have d3:cnt (fun i=>(∃a b,pw (gen len g1+i) a b)/\∃g,gen len g<=gen len g1+i/\T<gen len (g+1)) (T-gen len g1)<=56:=by
   refine wc (fun i c=>∃a b,pw (gen len g1+i) a b/\a<8/\N8 a b/\c=kc a b) (fun i hi hP=>?_) (fun i j c ff hj hP _ z1 z2=>?_)
   ·obtain ⟨⟨a,b,hp⟩,_⟩:=hP;obtain ⟨x1,x2⟩:=xo (show gen len g1+i<T by lia) hp;exact ⟨_,oW x2,a,b,hp,x1,x2,rfl⟩
   ·obtain ⟨_,g,z3,z4⟩:=hP;obtain ⟨a,b,hp,_,x2,e1⟩:=z1;obtain ⟨a',b',gO,y1,y2,e2⟩:=z2;obtain ⟨rfl,rfl⟩:=uA x2 y2 (e1.symm.trans e2);have q1:=R.nh _ _ _ _ (show gen len g1+i<gen len g1+j by lia) (by omega) hp gO;have q2:gen len (g+1)<=len (gen len g1+i):=R.eN z3 (by omega);omega
  have d2:cnt (fun i=>(∃a b,pw (gen len g1+i) a b)/\∃g,Ga (gen len g1+i) g/\∀τ,gen len g<=τ->τ<gen len (g+1)->¬St τ) (T-gen len g1)<=56*(mo+2*l+1):=by
   refine wc (fun i c=>∃a b r,pw (gen len g1+i) a b/\a<8/\N8 a b/\r<mo+2*l+1/\w (gen len g1+i) a b=some ((r:Int)+1-l)/\c=kc a b*(mo+2*l+1)+r) (fun i _ hP=>?_) (fun i j c ff _ _ _ z1 z2=>?_)
   ·obtain ⟨⟨a,b,hp⟩,g,⟨z1,z2,z3⟩,z4⟩:=hP;have hT:gen len g1+i<T:=by lia
    obtain ⟨x1,x2⟩:=xo hT hp;obtain ⟨_,_,_,v,hv⟩:=R.iS _ _ _ hT hp;have KS:=up (Nat.le_add_right _ _) hT z1 z2;have Sb:∀i,i<=g+1->gen len i<=T:=fun k pq=>by
     by_cases e:k=g+1
     ·rw [e];exact z3
     ·have:=z1 k (by lia);lia
    have hle:gen len g1<=gen len g:=R.m7 z1 (bo hT) KS;obtain ⟨y1,y2⟩:=R.AQ Sb (fun x y hx hy pf=>kn _ x y hle (Sb g (by exact Nat.le.step Nat.le.refl)) hx hy pf) (fun τ q1 q2=>⟨fun x y gO=>z4 τ q1 q2 (.inl ⟨x,y,gO⟩),fun x y=>fg fun hc=>z4 τ q1 q2 (.inr ⟨x,y,hc⟩)⟩) (z1 g (az _)) z2 hp hv;have hr:(v-1+l).toNat<mo+2*l+1:=by lia
    exact ⟨_,enc (oW x2) hr,a,b,_,hp,x1,x2,hr,by rw [hv];congr 1;lia,rfl⟩
   ·obtain ⟨a,b,r,hp,_,x2,x3,x4,e1⟩:=z1;obtain ⟨a',b',r',gO,y1,y2,y3,y4,e2⟩:=z2;obtain ⟨ek,rfl⟩:=dec x3 y3 (e1.symm.trans e2);obtain ⟨rfl,rfl⟩:=uA x2 y2 ek;have:=R.uU _ _ _ _ _ _ (show gen len g1+i<gen len g1+j by lia) (by omega) hp gO x4 y4;lia
  have d1:cnt (fun i=>(∃a b,pw (gen len g1+i) a b)/\∃g,Ga (gen len g1+i) g/\∃τ,gen len g<=τ/\τ<gen len (g+1)/\St τ) (T-gen len g1)<=(56*(2*l+1)+56*(mo+l+1))*56:=by
   refine wc (fun i c=>∃g τ a b cg,Ga (gen len g1+i) g/\gen len g<=τ/\τ<gen len (g+1)/\pw (gen len g1+i) a b/\a<8/\N8 a b/\c=cg*56+kc a b/\
    ((∃x y r,pt τ x y/\x<8/\N8 x y/\r<2*l+1/\m τ x y=some ((r:Int)-l)/\cg=kc x y*(2*l+1)+r)\/
     ∃x y r,x<8/\N8 x y/\r<mo+l+1/\m (τ+1) x y=some ((r:Int)-mo)/\m (τ+1) x y≠m τ x y/\cg=56*(2*l+1)+(kc x y*(mo+l+1)+r))) (fun i _ hP=>?_) (fun i j c ff _ _ _ z1 z2=>?_)
   ·obtain ⟨⟨a,b,hp⟩,g,hG,τ,t1,t2,qE⟩:=hP;have hT:gen len g1+i<T:=by lia
    obtain ⟨x1,x2⟩:=xo hT hp;have KS:=up (Nat.le_add_right _ _) hT hG.1 hG.2.1;have hle:gen len g1<=gen len g:=R.m7 hG.1 (bo hT) KS;have ES:τ<T:=by have:=hG.2.2;lia
    have tc:∀x y,pt τ x y->∃cg,cg<56*(2*l+1)+56*(mo+l+1)/\∃x y r,pt τ x y/\x<8/\N8 x y/\r<2*l+1/\m τ x y=some ((r:Int)-l)/\cg=kc x y*(2*l+1)+r:=fun x y jz=>by
     obtain ⟨r,q1,q2,q3,q4⟩:=tie τ x y (by lia) ES jz;refine ⟨_,?_,x,y,r,jz,q1,q2,q3,q4,rfl⟩;have:=enc (oW q2) q3;lia
    have fin:∀cg,cg<56*(2*l+1)+56*(mo+l+1)->cg*56+kc a b<(56*(2*l+1)+56*(mo+l+1))*56:=fun cg hc=>enc hc (oW x2)
    by_cases c:∃x y,pt τ x y
    ·obtain ⟨x,y,jz⟩:=c;obtain ⟨cg,hc,rest⟩:=tc x y jz;exact ⟨_,fin cg hc,g,τ,a,b,cg,hG,t1,t2,hp,x1,x2,rfl,.inl rest⟩
    ·rcases qE with ⟨x,y,jz⟩ | ⟨x,y,df⟩
     ·exact absurd ⟨x,y,jz⟩ c
     ·rcases R.cause τ x y ES df with ⟨c',v,q,y',jz,_⟩ | ⟨c',jz,_⟩ | ⟨e',y',_,hy,uj⟩
      ·exact absurd ⟨x,c',jz⟩ c
      ·exact absurd ⟨c',y,jz⟩ c
      ·obtain ⟨l1,l2,l3⟩:=R.lt _ _ _ _ (show τ+1<=T by exact ES) hy;obtain ⟨v1,hle1,e1⟩:=kn (τ+1) x y (by lia) (by exact ES) l1 l2 l3;rw [hy] at e1;cases e1;have hr:(y'+mo).toNat<mo+l+1:=by lia
       refine ⟨_,fin (56*(2*l+1)+(kc x y*(mo+l+1)+(y'+mo).toNat)) ?_,g,τ,a,b,_,hG,t1,t2,hp,x1,x2,rfl,.inr ⟨x,y,_,by lia,⟨by lia,by lia,l3⟩,hr,by rw [hy];congr 1;lia,df,rfl⟩⟩;have:=enc (oW ⟨by lia,by lia,l3⟩) hr;lia
   ·obtain ⟨g,τ,a,b,cg,hG,_,t2,hp,_,x2,e1,hcg⟩:=z1;obtain ⟨g',zO,a',b',cg',Lu,ZZ,QX,gO,y1,y2,e2,BK⟩:=z2;obtain ⟨ec,ek⟩:=dec (oW x2) (oW y2) (e1.symm.trans e2);obtain ⟨rfl,rfl⟩:=uA x2 y2 ek;subst ec;have hT:gen len g1+j<T:=by lia
    have Mb:τ<T:=by have:=hG.2.2;lia
    have zN:zO<T:=by have:=Lu.2.2;lia
    have eτ:τ=zO:=by
     rcases hcg with ⟨x,y,r,p1,_,p3,p4,p5,p6⟩ | ⟨x,y,r,_,p3,p4,p5,pn,p6⟩
     ·rcases BK with ⟨x',y',r',q1,q2,q3,q4,q5,q6⟩ | ⟨x',y',r',_,_,_,_,_,q6⟩
      ·obtain ⟨ek,rfl⟩:=dec p4 q4 (p6.symm.trans q6);obtain ⟨rfl,rfl⟩:=uA p3 q3 ek;rcases Nat.lt_trichotomy τ zO with c | c | c
       ·have:=R.drop _ _ _ _ _ _ c zN p1 q1 p5 q5;lia
       ·exact c
       ·have:=R.drop _ _ _ _ _ _ c Mb q1 p1 q5 p5;lia
      ·have:=enc (oW p3) p4;lia
     ·rcases BK with ⟨x',y',r',_,_,q3,q4,_,q6⟩ | ⟨x',y',r',q2,q3,q4,q5,qn,q6⟩
      ·have:=enc (oW q3) q4;lia
      ·obtain ⟨ek,rfl⟩:=dec p4 q4 (show kc x y*(mo+l+1)+r=kc x' y'*(mo+l+1)+r' by lia);obtain ⟨rfl,rfl⟩:=uA p3 q3 ek;rcases Nat.lt_trichotomy τ zO with c | c | c
       ·have:=R.same p5 q5 (s:=zO) (by exact c) (by exact Nat.le.step Nat.le.refl) (by exact zN);exact absurd (q5.trans this.symm) qn
       ·exact c
       ·have:=R.same q5 p5 (s:=τ) (by exact c) (by exact Nat.le.step Nat.le.refl) (by exact Mb);exact absurd (p5.trans this.symm) pn
    subst eτ;have q1:=R.nh _ _ _ _ (show gen len g1+i<gen len g1+j by lia) hT hp gO;have q2:gen len (g+1)<=len (gen len g1+i):=R.eN (hG.1 g (az _)) (by lia);have q3:gen len (g'+1)<=gen len (g+1):=by
     refine fg fun c=>?_;have Ff:g<g':=by
      refine fg fun d=>?_;have e0:∀k,k<=g+1->gen len k<=T:=fun k pq=>by
       by_cases e:k=g+1
       ·rw [e];exact hG.2.2
       ·have:=hG.1 k (by lia);lia
      have:=R.cG e0 (i:=g'+1) (g+1-(g'+1)) (by omega);rw [show g'+1+(g+1-(g'+1))=g+1 by omega] at this;exact c this
     have:=R.m7 (g:=g+1) Lu.1 (bo hT) (by exact Ff);lia
    have:=Lu.2.1;lia
  rw [s0];exact eC s1 (Nat.add_le_add d1 (eC s2 (Nat.add_le_add d2 d3)))
 have m1:=Nat.mul_le_mul_left 20 c1;have m2:=Nat.mul_le_mul_left 8 c2;exact eC g (Nat.add_le_add (Nat.add_le_add_left m1 _) m2)
theorem Bd.rows (R:Bd n (l:Int) (mo:Int) T len m w pt pw):len T<=len 0+1568*(7*(7*(l+1)+7*(mo+1)+1))+20*(56*(2*l+1))+8*((56*(2*l+1)+56*(mo+l+1))*56+(56*(mo+2*l+1)+56)):=by
 rcases R.gens (7*(7*(l+1)+7*(mo+1)+1)) with ⟨h1,h2⟩ | h
 ·obtain ⟨b,hb,hs⟩:=R.quiet rfl h1;have hg:∀i,i<=7*b+7->gen len i<=T:=fun i hi=>h1 i (by lia);have k:=R.after (g1:=7*b+7) hg (R.narrow hg hs);have e:=R.cG h1 (i:=7*b+7) (7*(7*(l+1)+7*(mo+1)+1)-(7*b+7)) (by omega);rw [show 7*b+7+(7*(7*(l+1)+7*(mo+1)+1)-(7*b+7))=7*(7*(l+1)+7*(mo+1)+1) by omega] at e;have k2:=R.eN e (h1 _ (az _));exact eC k (Nat.add_le_add_right (Nat.add_le_add_right (eC k2 h2) _) _)
 ·exact eC h (eC (Nat.le_add_right _ _) (Nat.le_add_right _ _))
end
end MH
namespace MU
variable {n:Nat} {F:ck} {most:Int} {s0:St}
theorem HI (hF:g_ n F most) (g:cj n s) (hp:ah s at_=some p) (pa:p.a=a) (pb:p.b=b) (bw:(dW n F at_ a b s).bar=none):
 Add (fun w=>(w.tie=true->(w.a=a/\w.b≠b/\∃q,val s (true,b,w.b)=some q/\w.v=p.v+q)\/(w.b=b/\w.a≠a))/\(w.tie=false->w.v<=most-p.v/\∃f,F w.b=some f)) s (dW n F at_ a b s):=by
 unfold dW at bw ⊢;dsimp only at bw ⊢;generalize hC:(fun w:aj=>(w.tie=true->(w.a=a/\w.b≠b/\∃q,val s (true,b,w.b)=some q/\w.v=p.v+q)\/(w.b=b/\w.a≠a))/\(w.tie=false->w.v<=most-p.v/\∃f,F w.b=some f))=C;have g1:cj n (aK (cS F) .aB at_ s):=mV g Au;have i1:Imp s (aK (cS F) .aB at_ s):=f_ _ _ _ _;have T1:Add (fun w=>w.tie=true->w.b=b) s (aK (cS F) .aB at_ s):=v_ hp fun w e ht=>by
  unfold cS at e;split at e
  ·cases q:F p.b with
   | none=>rw [q] at e;cases e
   | some f=>rw [q] at e;cases e;cases ht
  ·cases e
 have A1:Add C s (aK (cS F) .aB at_ s):=v_ hp fun w e=>by
  subst hC;unfold cS at e;split at e
  ·cases q:F p.b with
   | none=>rw [q] at e;cases e
   | some f=>
    rw [q] at e;cases e;have:=hF.num _ _ q;exact ⟨nofun,fun _=>⟨by show f.2.2-p.v<=_;lia,f,q⟩⟩
  ·cases e
 generalize aK (cS F) .aB at_ s=s1 at*;have i6:=bV i1.1 hp;have g2:cj n (aK (da F) .bf at_ s1):=mV g1 (Aw hF);have i2:Imp s1 (aK (da F) .bf at_ s1):=f_ _ _ _ _;have T2:Add (fun w=>w.tie=true->w.b=b) s1 (aK (da F) .bf at_ s1):=v_ i6 fun w e _=>by
  unfold da at e;split at e
  ·cases q:F p.a with
   | none=>rw [q] at e;cases e
   | some f=>rw [q] at e;cases e;exact pb
  ·cases e
 have A2:Add C s1 (aK (da F) .bf at_ s1):=v_ i6 fun w e=>by
  subst hC;unfold da at e;split at e
  ·cases q:F p.a with
   | none=>rw [q] at e;cases e
   | some f=>
    rw [q] at e;cases e;refine ⟨fun _=>.inr ⟨pb,fun z=>?_⟩,nofun⟩;have z:f.1=a:=z;have:=hF.own _ _ q;rw [z,<-pa,q] at this;cases this
  ·cases e
 generalize aK (da F) .bf at_ s1=s2 at*;have je:=bV i2.1 i6;have T12:=T1.trans i2.1 T2;have Bh:∀z,z≠b->val s2 (true,b,z)=val s (true,b,z):=fun z hz=>fg fun hc=>by
  obtain ⟨j,w,hj,hw,hk,_⟩:=Hm g g2 (i1.1.trans i2.1) hc;obtain ⟨kt,_,kb⟩:=iD hk;have:=T12 j w hj hw kt;exact hz (kb.symm.trans this)
 have i3:Imp s2 ((cJ n s2 true b).foldl (fun st j=>ak a7 .sum at_ j st) s2):=dz (fun _ _=>cH ..) _ _;have g3:cj n ((cJ n s2 true b).foldl (fun st j=>ak a7 .sum at_ j st) s2):=uS (fun _ _ g=>we g Aq) _ _ g2;have i4:=dz (f:=fun st j=>ak a7 .sum j at_ st) (fun _ _=>cH ..) (dr n ((cJ n s2 true b).foldl (fun st j=>ak a7 .sum at_ j st) s2) a) ((cJ n s2 true b).foldl (fun st j=>ak a7 .sum at_ j st) s2);have i5:=dz (f:=fun st j=>ak (a_ F) .back j at_ st) (fun _ _=>cH ..) (cJ n ((dr n ((cJ n s2 true b).foldl (fun st j=>ak a7 .sum at_ j st) s2) a).foldl (fun st j=>ak a7 .sum j at_ st) ((cJ n s2 true b).foldl (fun st j=>ak a7 .sum at_ j st) s2)) false b) ((dr n ((cJ n s2 true b).foldl (fun st j=>ak a7 .sum at_ j st) s2) a).foldl (fun st j=>ak a7 .sum j at_ st) ((cJ n s2 true b).foldl (fun st j=>ak a7 .sum at_ j st) s2));have b4:=fg fun z=>i5.1.bar z bw;have b3:=fg fun z=>i4.1.bar z b4;have b2:=fg fun z=>i3.1.bar z b3;have A3:Add C s2 ((cJ n s2 true b).foldl (fun st j=>ak a7 .sum at_ j st) s2):=w4 (f:=fun st j=>ak a7 .sum at_ j st) (fun _ _=>cH ..) _ s2 s2 (Imp.refl _) fun j hj sx hx=>by
  subst hC;obtain ⟨c,_,dq⟩:=HP hj;obtain ⟨q,hq,hk⟩:=g2.at_ _ _ dq;obtain ⟨_,qa,qb⟩:=iD hk;have wQ:=g2.ne b2 j q hq;refine F_ (bV hx.1 je) (bV hx.1 hq) fun w e=>?_;unfold a7 at e;split at e
  ·cases e;have Le:c≠b:=fun z=>wQ (by rw [qa,qb,z]);refine ⟨fun _=>.inl ⟨pa,fun z=>wQ (by rw [qa];exact z.symm),q.v,?_,rfl⟩,nofun⟩;show val s (true,b,q.b)=_;rw [qb,<-Bh c Le];exact oZ dq hq
  ·cases e
 generalize (cJ n s2 true b).foldl (fun st j=>ak a7 .sum at_ j st) s2=s3 at*;have lh:=bV i3.1 je;have A4:Add C s3 ((dr n s3 a).foldl (fun st j=>ak a7 .sum j at_ st) s3):=w4 (f:=fun st j=>ak a7 .sum j at_ st) (fun _ _=>cH ..) _ s3 s3 (Imp.refl _) fun j hj sx hx=>by
  subst hC;obtain ⟨c,_,dq⟩:=DK hj;obtain ⟨q,hq,hk⟩:=g3.at_ _ _ dq;obtain ⟨_,_,qb⟩:=iD hk;have wQ:=g3.ne b3 j q hq;refine F_ (bV hx.1 hq) (bV hx.1 lh) fun w e=>?_;unfold a7 at e;split at e
  ·cases e;exact ⟨fun _=>.inr ⟨pb,fun z=>wQ (by rw [qb];exact z)⟩,nofun⟩
  ·cases e
 generalize (dr n s3 a).foldl (fun st j=>ak a7 .sum j at_ st) s3=s4 at*;have EY:=bV i4.1 lh;have A5:Add C s4 ((cJ n s4 false b).foldl (fun st j=>ak (a_ F) .back j at_ st) s4):=w4 (f:=fun st j=>ak (a_ F) .back j at_ st) (fun _ _=>cH ..) _ s4 s4 (Imp.refl _) fun j _ sx hx=>rG fun w e=>by
  subst hC
  cases e1:ah sx j with
  | none=>rw [e1] at e;cases e
  | some q=>
   rw [e1] at e;have e:(ah sx at_).bind (fun p=>a_ F q p)=some w:=e;rw [bV hx.1 EY] at e;have e:a_ F q p=some w:=e;unfold a_ at e;split at e
   ·cases z:F q.b with
    | none=>rw [z] at e;cases e
    | some f=>
     rw [z] at e;cases e;have:=hF.num _ _ z;exact ⟨nofun,fun _=>⟨by show min q.v f.2.2-p.v<=_;lia,f,z⟩⟩
   ·cases e
 exact (((A1.trans i2.1 A2).trans i3.1 A3).trans i4.1 A4).trans i5.1 A5
theorem WW:Add (fun w=>w.tie=false->∃f,F w.b=some f) s (fm n F at_ a s):=by
 unfold fm;dsimp only;have A1:Add (fun w:aj=>w.tie=false->∃f,F w.b=some f) s (aK (di F) .sure at_ s):=rG fun w e ht=>by
  cases q:ah s at_ with
  | none=>rw [q] at e;cases e
  | some p=>
   rw [q] at e;have e:di F p=some w:=e;unfold di at e;split at e
   ·cases z:F p.b with
    | none=>rw [z] at e;cases e
    | some f=>rw [z] at e;cases e;cases ht
   ·cases e
 have i1:Imp s (aK (di F) .sure at_ s):=f_ _ _ _ _;generalize aK (di F) .sure at_ s=s1 at*;have A2:Add (fun w:aj=>w.tie=false->∃f,F w.b=some f) s1 (aK (cR F) .ar at_ s1):=rG fun w e ht=>by
  cases q:ah s1 at_ with
  | none=>rw [q] at e;cases e
  | some p=>
   rw [q] at e;have e:cR F p=some w:=e;unfold cR at e;split at e
   ·cases z:F p.a with
    | none=>rw [z] at e;cases e
    | some o=>
     rw [z] at e;have e:(F p.b).map (fun f=>(⟨false,o.1,p.b,min p.v f.2.2-o.2.1⟩:aj))=some w:=e
     cases z2:F p.b with
     | none=>rw [z2] at e;cases e
     | some f=>rw [z2] at e;cases e;exact ⟨f,z2⟩
   ·cases e
 have i2:Imp s1 (aK (cR F) .ar at_ s1):=f_ _ _ _ _;generalize aK (cR F) .ar at_ s1=s2 at*;have A3:Add (fun w:aj=>w.tie=false->∃f,F w.b=some f) s2 ((dr n s2 a).foldl (fun st j=>ak (a_ F) .back at_ j st) s2):=w4 (f:=fun st j=>ak (a_ F) .back at_ j st) (fun _ _=>cH ..) _ s2 s2 (Imp.refl _) fun j _ sx _=>rG fun w e ht=>by
  cases q1:ah sx at_ with
  | none=>rw [q1] at e;cases e
  | some p=>
   rw [q1] at e;have e:(ah sx j).bind (fun q=>a_ F p q)=some w:=e
   cases q2:ah sx j with
   | none=>rw [q2] at e;cases e
   | some q=>
    rw [q2] at e;have e:a_ F p q=some w:=e;unfold a_ at e;split at e
    ·cases z:F p.b with
     | none=>rw [z] at e;cases e
     | some f=>rw [z] at e;cases e;exact ⟨f,z⟩
    ·cases e
 have i3:Imp s2 ((dr n s2 a).foldl (fun st j=>ak (a_ F) .back at_ j st) s2):=dz (fun _ _=>cH ..) _ _;exact (A1.trans i2.1 A2).trans i3.1 A3
theorem gS (st:St) (o:Option aj) (word:Wd) (used:List Nat):(put st o word used).rows.length<=st.rows.length+1:=by
 cases o with
 | none=>exact nS _
 | some w=>
  show (take st w word used).rows.length<=_
  by_cases c:gR st w
  ·rw [(Ds c).2.2];exact az _
  ·rw [wq c];exact nS _
theorem pP (hf:∀s j,(f s j).rows.length<=s.rows.length+1):∀(l:List Nat) (s:St),(l.foldl f s).rows.length<=s.rows.length+l.length
 | [],s=>az _
 | j::l,s=>by
  have h1:=pP hf l (f s j);have h2:=hf s j;rw [kD];show (l.foldl f (f s j)).rows.length<=_;lia
theorem Du:(cJ n st tie a).length<=n:=by
 have:=List.length_filterMap_le (fun b=>st.best (tie,a,b)) (List.range n);rw [List.length_range] at this;exact this
theorem DJ:(dr n st b).length<=n:=by
 have:=List.length_filterMap_le (fun a=>st.best (true,a,b)) (List.range n);rw [List.length_range] at this;exact this
theorem Vq:(dW n F at_ a b s).rows.length<=s.rows.length+(2+3*n):=by
 unfold dW;dsimp only;have h1:(aK (cS F) .aB at_ s).rows.length<=s.rows.length+1:=gS _ _ _ _;generalize aK (cS F) .aB at_ s=s1 at*;have h2:(aK (da F) .bf at_ s1).rows.length<=s1.rows.length+1:=gS _ _ _ _;generalize aK (da F) .bf at_ s1=s2 at*;have h3:=pP (f:=fun st j=>ak a7 .sum at_ j st) (fun _ _=>gS _ _ _ _) (cJ n s2 true b) s2;have k3:=Du (n:=n) (tie:=true) (st:=s2) (a:=b);generalize (cJ n s2 true b).foldl (fun st j=>ak a7 .sum at_ j st) s2=s3 at*;have h4:=pP (f:=fun st j=>ak a7 .sum j at_ st) (fun _ _=>gS _ _ _ _) (dr n s3 a) s3;have k4:=DJ (n:=n) (st:=s3) (b:=a);generalize (dr n s3 a).foldl (fun st j=>ak a7 .sum j at_ st) s3=s4 at*;have h5:=pP (f:=fun st j=>ak (a_ F) .back j at_ st) (fun _ _=>gS _ _ _ _) (cJ n s4 false b) s4;have k5:=Du (n:=n) (tie:=false) (st:=s4) (a:=b);lia
theorem Wu:(fm n F at_ a s).rows.length<=s.rows.length+(2+n):=by
 unfold fm;dsimp only;have h1:(aK (di F) .sure at_ s).rows.length<=s.rows.length+1:=gS _ _ _ _;generalize aK (di F) .sure at_ s=s1 at*;have h2:(aK (cR F) .ar at_ s1).rows.length<=s1.rows.length+1:=gS _ _ _ _;generalize aK (cR F) .ar at_ s1=s2 at*;have h3:=pP (f:=fun st j=>ak (a_ F) .back at_ j st) (fun _ _=>gS _ _ _ _) (dr n s2 a) s2;have k3:=DJ (n:=n) (st:=s2) (b:=a);lia
theorem VC (h8:n<=8):(look n F at_ s).rows.length<=s.rows.length+26:=by
 unfold look;split
 ·split
  ·split
   ·exact eC Vq (by lia)
   ·exact eC Wu (by lia)
  ·lia
 ·lia
theorem Vi {x y k:Nat} (pf:x≠y):(if x<k+1 then 1 else 0)+(if y<k+1 then 1 else 0)<=(if x<k then 1 else 0)+(if y<k then 1 else 0)+1/\(¬(k=x\/k=y)->(if x<k+1 then 1 else 0)+(if y<k+1 then 1 else 0)=(if x<k then 1 else 0)+(if y<k then 1 else 0)):=by
 have one:∀z,k≠z->(if z<k+1 then 1 else 0)=(if z<k then 1 else 0):=fun z h=>by
  by_cases c:z<k
  ·rw [if_pos c,if_pos (Nat.lt_succ_of_lt c)]
  ·rw [if_neg c,if_neg (by lia)]
 by_cases a:k=x
 ·subst a;rw [one y pf,if_pos (Nat.lt_succ_self k),if_neg (j9 k)];exact ⟨by lia,fun h=>absurd (.inl rfl) h⟩
 ·rw [one x a]
  by_cases b:k=y
  ·subst b;rw [if_pos (Nat.lt_succ_self k),if_neg (j9 k)];exact ⟨az _,fun h=>absurd (.inr rfl) h⟩
  ·rw [one y b];exact ⟨nS _,fun _=>rfl⟩
theorem AF {f:St->Nat->St} {g:Nat->Option Nat} {s0:St} {x y:Nat} (pf:x≠y) (hi:∀s j,Imp s (f s j)) (hf:∀s j,(f s j).rows.length<=s.rows.length+1) (hq:∀c j s,c=x\/c=y->g c=some j->Imp s0 s->(f s j).bar=none->(f s j).rows.length<=s.rows.length):
 ∀k,(((List.range k).filterMap g).foldl f s0).bar=none->(((List.range k).filterMap g).foldl f s0).rows.length+((if x<k then 1 else 0)+(if y<k then 1 else 0))<=s0.rows.length+k
 | 0,_=>az _
 | k+1,h=>by
  rw [List.range_succ,List.filterMap_append,List.foldl_append] at h ⊢;have i0:Imp s0 (((List.range k).filterMap g).foldl f s0):=dz hi _ _;have ih:=AF pf hi hf hq k;obtain ⟨l1,l2⟩:=Vi (k:=k) pf;generalize (if x<k then 1 else 0)+(if y<k then 1 else 0)=A at*;generalize (if x<k+1 then 1 else 0)+(if y<k+1 then 1 else 0)=B at*;generalize ((List.range k).filterMap g).foldl f s0=s at*
  cases hg:g k with
  | none=>
   rw [show [k].filterMap g=[] by rw [List.filterMap_cons,hg];rfl] at h ⊢;have ih:=ih h;show s.rows.length+_<=_;lia
  | some j=>
   rw [show [k].filterMap g=[j] by rw [List.filterMap_cons,hg];rfl] at h ⊢;have h:(f s j).bar=none:=h;have hs:s.bar=none:=fg fun c=>(hi s j).1.bar c h;have h1:=hf s j;show (f s j).rows.length+_<=_
   by_cases c:k=x\/k=y
   ·have:=hq k j s c hg i0 h;lia
   ·have:=l2 c;lia
theorem Dy (g:cj n st) (hb:st.bar=none) (h:st.best (t,a,a)=some j):False:=by
 obtain ⟨w,h1,h2⟩:=g.at_ _ _ h;obtain ⟨_,e1,e2⟩:=iD h2;exact g.ne hb j w h1 (e1.trans e2.symm)
theorem OX {w:aj} (ht:w.tie=true) (e:w.a=w.b) (h:(take st w word used).bar=none):(take st w word used).rows.length<=st.rows.length:=by
 by_cases c:gR st w
 ·refine absurd h ?_;unfold take;rw [if_pos c];have c':=c;unfold gR at c';rw [if_pos ⟨ht,e⟩] at c';show (if st.bar=none/\iA w then some st.rows.length else st.bar)≠none
  by_cases z:st.bar=none
  ·rw [if_pos ⟨z,ht,e,c'⟩];exact fun h=>nomatch h
  ·rw [if_neg fun q=>z q.1];exact z
 ·rw [wq c];exact az _
theorem Dj (h1:ah s i=some p) (h2:ah s j=some q):ak f word i j s=put s (f p q) word [i,j]:=by
 unfold ak;rw [h1,h2];rfl
variable {at_:Nat} {p:aj} {s:St}
theorem VY (g:cj n s) (hp:ah s at_=some p) (pt:p.tie=true) (hn:s.bar=none) (hb:((cJ n s true p.b).foldl (fun st j=>ak a7 .sum at_ j st) s).bar=none):((cJ n s true p.b).foldl (fun st j=>ak a7 .sum at_ j st) s).rows.length+2<=s.rows.length+n:=by
 have hl:=g.lt _ _ hp;have h:=AF (f:=fun st j=>ak a7 .sum at_ j st) (g:=fun c=>s.best (true,p.b,c)) (s0:=s) (x:=p.a) (y:=p.b) (g.ne hn _ _ hp) (fun _ _=>cH ..) (fun _ _=>gS _ _ _ _) (fun c j s' hc hj i dZ=>by
  have hj:s.best (true,p.b,c)=some j:=hj;rcases hc with rfl | rfl
  ·obtain ⟨q,h1,h2⟩:=g.at_ _ _ hj;obtain ⟨q1,q2,q3⟩:=iD h2;have e:=Dj (f:=a7) (word:=.sum) (bV i.1 hp) (bV i.1 h1);have e2:a7 p q=some ⟨true,p.a,q.b,p.v+q.v⟩:=if_pos ⟨pt,q1,q2.symm⟩;rw [e2] at e;have dZ:(ak a7 .sum at_ j s').bar=none:=dZ;show (ak a7 .sum at_ j s').rows.length<=_;rw [e] at dZ ⊢;exact OX (w:=⟨true,p.a,q.b,p.v+q.v⟩) rfl q3.symm dZ
  ·exact (Dy g hn hj).elim) n hb
 rw [if_pos hl.1,if_pos hl.2] at h;exact h
theorem VZ (g:cj n s) (hp:ah s at_=some p) (pt:p.tie=true) (hn:s.bar=none) (hb:((dr n s p.a).foldl (fun st j=>ak a7 .sum j at_ st) s).bar=none):((dr n s p.a).foldl (fun st j=>ak a7 .sum j at_ st) s).rows.length+2<=s.rows.length+n:=by
 have hl:=g.lt _ _ hp;have h:=AF (f:=fun st j=>ak a7 .sum j at_ st) (g:=fun c=>s.best (true,c,p.a)) (s0:=s) (x:=p.a) (y:=p.b) (g.ne hn _ _ hp) (fun _ _=>cH ..) (fun _ _=>gS _ _ _ _) (fun c j s' hc hj i dZ=>by
  have hj:s.best (true,c,p.a)=some j:=hj;rcases hc with rfl | rfl
  ·exact (Dy g hn hj).elim
  ·obtain ⟨q,h1,h2⟩:=g.at_ _ _ hj;obtain ⟨q1,q2,q3⟩:=iD h2;have e:=Dj (f:=a7) (word:=.sum) (bV i.1 h1) (bV i.1 hp);have e2:a7 q p=some ⟨true,q.a,p.b,q.v+p.v⟩:=if_pos ⟨q1,pt,q3⟩;rw [e2] at e;have dZ:(ak a7 .sum j at_ s').bar=none:=dZ;show (ak a7 .sum j at_ s').rows.length<=_;rw [e] at dZ ⊢;exact OX (w:=⟨true,q.a,p.b,q.v+p.v⟩) rfl q2 dZ) n hb
 rw [if_pos hl.1,if_pos hl.2] at h;exact h
theorem Wk (g:cj n s) (hp:ah s at_=some p) (hn:s.bar=none) (hb:((cJ n s false p.b).foldl (fun st j=>ak (a_ F) .back j at_ st) s).bar=none):((cJ n s false p.b).foldl (fun st j=>ak (a_ F) .back j at_ st) s).rows.length+2<=s.rows.length+n:=by
 have hl:=g.lt _ _ hp;have h:=AF (f:=fun st j=>ak (a_ F) .back j at_ st) (g:=fun c=>s.best (false,p.b,c)) (s0:=s) (x:=p.a) (y:=p.b) (g.ne hn _ _ hp) (fun _ _=>cH ..) (fun _ _=>gS _ _ _ _) (fun c j s' hc hj i _=>by
  have hj:s.best (false,p.b,c)=some j:=hj;rcases hc with rfl | rfl
  ·obtain ⟨q,h1,h2⟩:=g.at_ _ _ hj;obtain ⟨_,_,q3⟩:=iD h2;have e:=Dj (f:=a_ F) (word:=.back) (bV i.1 h1) (bV i.1 hp);have e2:a_ F q p=none:=if_neg fun z=>z.2.2.2 q3.symm;rw [e2] at e;show (ak (a_ F) .back j at_ s').rows.length<=_;rw [e];exact az _
  ·exact (Dy g hn hj).elim) n hb
 rw [if_pos hl.1,if_pos hl.2] at h;exact h
theorem Wl (g:cj n s) (hp:ah s at_=some p) (hn:s.bar=none) (hb:((dr n s p.a).foldl (fun st j=>ak (a_ F) .back at_ j st) s).bar=none):((dr n s p.a).foldl (fun st j=>ak (a_ F) .back at_ j st) s).rows.length+2<=s.rows.length+n:=by
 have hl:=g.lt _ _ hp;have h:=AF (f:=fun st j=>ak (a_ F) .back at_ j st) (g:=fun c=>s.best (true,c,p.a)) (s0:=s) (x:=p.a) (y:=p.b) (g.ne hn _ _ hp) (fun _ _=>cH ..) (fun _ _=>gS _ _ _ _) (fun c j s' hc hj i _=>by
  have hj:s.best (true,c,p.a)=some j:=hj;rcases hc with rfl | rfl
  ·exact (Dy g hn hj).elim
  ·obtain ⟨q,h1,h2⟩:=g.at_ _ _ hj;obtain ⟨_,q2,_⟩:=iD h2;have e:=Dj (f:=a_ F) (word:=.back) (bV i.1 hp) (bV i.1 h1);have e2:a_ F p q=none:=if_neg fun z=>z.2.2.2 q2;rw [e2] at e;show (ak (a_ F) .back at_ j s').rows.length<=_;rw [e];exact az _) n hb
 rw [if_pos hl.1,if_pos hl.2] at h;exact h
theorem V_ (hF:g_ n F most) (g:cj n s) (hp:ah s at_=some p) (pt:p.tie=true) (hb:(dW n F at_ p.a p.b s).bar=none):(dW n F at_ p.a p.b s).rows.length+4<=s.rows.length+3*n:=by
 unfold dW at hb ⊢;dsimp only at hb ⊢;have h1:(aK (cS F) .aB at_ s).rows.length<=s.rows.length+1:=gS _ _ _ _;have g1:cj n (aK (cS F) .aB at_ s):=mV g Au;have p1:=bV (f_ (cS F) .aB at_ s).1 hp;generalize aK (cS F) .aB at_ s=s1 at*;have h2:(aK (da F) .bf at_ s1).rows.length<=s1.rows.length+1:=gS _ _ _ _;have g2:cj n (aK (da F) .bf at_ s1):=mV g1 (Aw hF);have p2:=bV (f_ (da F) .bf at_ s1).1 p1;generalize aK (da F) .bf at_ s1=s2 at*;have h3:=VY g2 p2 pt;have i3:Imp s2 ((cJ n s2 true p.b).foldl (fun st j=>ak a7 .sum at_ j st) s2):=dz (fun _ _=>cH ..) _ _;have g3:cj n ((cJ n s2 true p.b).foldl (fun st j=>ak a7 .sum at_ j st) s2):=uS (fun _ _ g=>we g Aq) _ _ g2;generalize (cJ n s2 true p.b).foldl (fun st j=>ak a7 .sum at_ j st) s2=s3 at*;have p3:=bV i3.1 p2;have h4:=VZ g3 p3 pt;have i4:Imp s3 ((dr n s3 p.a).foldl (fun st j=>ak a7 .sum j at_ st) s3):=dz (fun _ _=>cH ..) _ _;have g4:cj n ((dr n s3 p.a).foldl (fun st j=>ak a7 .sum j at_ st) s3):=uS (fun _ _ g=>we g Aq) _ _ g3;generalize (dr n s3 p.a).foldl (fun st j=>ak a7 .sum j at_ st) s3=s4 at*;have p4:=bV i4.1 p3;have i5:Imp s4 ((cJ n s4 false p.b).foldl (fun st j=>ak (a_ F) .back j at_ st) s4):=dz (fun _ _=>cH ..) _ _;have b4:s4.bar=none:=fg fun c=>i5.1.bar c hb;have b3:s3.bar=none:=fg fun c=>i4.1.bar c b4;have b2:s2.bar=none:=fg fun c=>i3.1.bar c b3;have h5:=Wk g4 p4 b4 hb;lia
theorem P0 (hF:g_ n F most) (g:cj n s) (hp:ah s at_=some p) (hb:(fm n F at_ p.a s).bar=none):(fm n F at_ p.a s).rows.length<=s.rows.length+n:=by
 unfold fm at hb ⊢;dsimp only at hb ⊢;have h1:(aK (di F) .sure at_ s).rows.length<=s.rows.length+1:=gS _ _ _ _;have g1:cj n (aK (di F) .sure at_ s):=mV g (Dr hF);have p1:=bV (f_ (di F) .sure at_ s).1 hp;generalize aK (di F) .sure at_ s=s1 at*;have h2:(aK (cR F) .ar at_ s1).rows.length<=s1.rows.length+1:=gS _ _ _ _;have g2:cj n (aK (cR F) .ar at_ s1):=mV g1 (Dz hF);have p2:=bV (f_ (cR F) .ar at_ s1).1 p1;generalize aK (cR F) .ar at_ s1=s2 at*;have i3:Imp s2 ((dr n s2 p.a).foldl (fun st j=>ak (a_ F) .back at_ j st) s2):=dz (fun _ _=>cH ..) _ _;have b2:s2.bar=none:=fg fun c=>i3.1.bar c hb;have h3:=Wl g2 p2 b2 hb;lia
noncomputable def pw (n:Nat) (F:ck) (s0:St) (t a b:Nat):Prop:=∃w,ah (run n F s0 t) t=some w/\w.tie=false/\w.a=a/\w.b=b/\(run n F s0 t).best (false,a,b)=some t
theorem step (n:Nat) (F:ck) (s0:St) (hl:t<(run n F s0 t).rows.length):
 (∃p,ah (run n F s0 t) t=some p/\p.tie=true/\pt n F s0 t p.a p.b/\run n F s0 (t+1)=dW n F t p.a p.b (run n F s0 t))\/
 (∃p,ah (run n F s0 t) t=some p/\p.tie=false/\pw n F s0 t p.a p.b/\run n F s0 (t+1)=fm n F t p.a (run n F s0 t))\/
 ((∀a b,¬pt n F s0 t a b)/\(∀a b,¬pw n F s0 t a b)/\run n F s0 (t+1)=run n F s0 t):=by
 obtain ⟨p,hp⟩:∃p,ah (run n F s0 t) t=some p:=⟨_,by unfold ah;rw [kF hl];rfl⟩;have hl:run n F s0 (t+1)=look n F t (run n F s0 t):=rfl
 by_cases hb:(run n F s0 t).best p.key=some t
 ·cases vf:p.tie with
  | true=>
   have nK:(run n F s0 t).best (true,p.a,p.b)=some t:=by rw [<-hb];unfold aj.key;rw [vf]
   exact .inl ⟨p,hp,vf,⟨p,hp,vf,rfl,rfl,nK⟩,hl.trans (Dn hp vf rfl rfl nK)⟩
  | false=>
   have nK:(run n F s0 t).best (false,p.a,p.b)=some t:=by rw [<-hb];unfold aj.key;rw [vf]
   exact .inr (.inl ⟨p,hp,vf,⟨p,hp,vf,rfl,rfl,nK⟩,hl.trans (HQ hp vf hb)⟩)
 ·refine .inr (.inr ⟨fun a b h=>?_,fun a b h=>?_,hl.trans (OW hp hb)⟩)
  ·obtain ⟨w,h1,h2,h3,h4,h5⟩:=h;rw [hp] at h1;cases h1;exact hb (by unfold aj.key;rw [h2,h3,h4];exact h5)
  ·obtain ⟨w,h1,h2,h3,h4,h5⟩:=h;rw [hp] at h1;cases h1;exact hb (by unfold aj.key;rw [h2,h3,h4];exact h5)
variable {n:Nat} {F:ck} {most:Int} {s0:St}
theorem rL (e:Ext s s') {w:aj} (hi:i<s.rows.length) (h:ah s' i=some w):ah s i=some w:=by
 obtain ⟨p,hp⟩:∃p,ah s i=some p:=⟨_,by unfold ah;rw [kF hi];rfl⟩;rw [bV e hp] at h;cases h;exact hp
theorem O5 (hF:g_ n F most) (g0:cj n s0) (w0:∀a b,val s0 (false,a,b)=none) (hl:∀t,t<T->t<(run n F s0 t).rows.length) (hb:∀t,t<=T->(run n F s0 t).bar=none):∀t,t<=T->∀i w,ah (run n F s0 t) i=some w->w.tie=false->∃f,F w.b=some f
 | 0,_,i,w,h,ht=>by
  obtain ⟨j,_,hj⟩:=g0.top i w h;obtain ⟨u,hu,_⟩:=g0.at_ _ _ hj;have:=oZ hj hu;have hk:w.key=(false,w.a,w.b):=by unfold aj.key;rw [ht]
  rw [hk,w0] at this;cases this
 | t+1,hT,i,w,h,ht=>by
  have ih:=O5 hF g0 w0 hl hb t (by exact bo hT);have gd:=yL hF g0 t
  by_cases hi:i<(run n F s0 t).rows.length
  ·exact ih i w (rL (uR n F t (run n F s0 t)).1 hi h) ht
  ·rcases step n F s0 (hl t (by exact hT)) with ⟨p,hp,_,_,e⟩ | ⟨p,hp,_,_,e⟩ | ⟨_,_,e⟩
   ·have bw:=hb (t+1) hT;rw [e] at bw h;exact ((HI hF gd hp rfl rfl bw i w (by exact mE hi) h).2 ht).2
   ·rw [e] at h;exact WW i w (by exact mE hi) h ht
   ·rw [e] at h;exact absurd (m_ h) (by omega)
theorem Wv (hp:ah s at_=some p):Add (fun w=>w.tie=true->w.a=p.a) s (fm n F at_ p.a s):=by
 unfold fm;dsimp only;have A1:Add (fun w:aj=>w.tie=true->w.a=p.a) s (aK (di F) .sure at_ s):=v_ hp fun w e ht=>by
  unfold di at e;split at e
  ·cases z:F p.b with
   | none=>rw [z] at e;cases e
   | some f=>rw [z] at e;cases e;rfl
  ·cases e
 have i1:Imp s (aK (di F) .sure at_ s):=f_ _ _ _ _;generalize aK (di F) .sure at_ s=s1 at*;have A2:Add (fun w:aj=>w.tie=true->w.a=p.a) s1 (aK (cR F) .ar at_ s1):=rG fun w e ht=>by
  cases q:ah s1 at_ with
  | none=>rw [q] at e;cases e
  | some p=>
   rw [q] at e;have e:cR F p=some w:=e;unfold cR at e;split at e
   ·cases z:F p.a with
    | none=>rw [z] at e;cases e
    | some o=>
     rw [z] at e;have e:(F p.b).map (fun f=>(⟨false,o.1,p.b,min p.v f.2.2-o.2.1⟩:aj))=some w:=e
     cases z2:F p.b with
     | none=>rw [z2] at e;cases e
     | some f=>rw [z2] at e;cases e;cases ht
   ·cases e
 have i2:Imp s1 (aK (cR F) .ar at_ s1):=f_ _ _ _ _;generalize aK (cR F) .ar at_ s1=s2 at*;have A3:Add (fun w:aj=>w.tie=true->w.a=p.a) s2 ((dr n s2 p.a).foldl (fun st j=>ak (a_ F) .back at_ j st) s2):=w4 (f:=fun st j=>ak (a_ F) .back at_ j st) (fun _ _=>cH ..) _ s2 s2 (Imp.refl _) fun j _ sx _=>rG fun w e ht=>by
  cases q1:ah sx at_ with
  | none=>rw [q1] at e;cases e
  | some p=>
   rw [q1] at e;have e:(ah sx j).bind (fun q=>a_ F p q)=some w:=e
   cases q2:ah sx j with
   | none=>rw [q2] at e;cases e
   | some q=>
    rw [q2] at e;have e:a_ F p q=some w:=e;unfold a_ at e;split at e
    ·cases z:F p.b with
     | none=>rw [z] at e;cases e
     | some f=>rw [z] at e;cases e;cases ht
    ·cases e
 have i3:Imp s2 ((dr n s2 p.a).foldl (fun st j=>ak (a_ F) .back at_ j st) s2):=dz (fun _ _=>cH ..) _ _;exact (A1.trans i2.1 A2).trans i3.1 A3
theorem Tu {l mo:Nat} (h8:n<=8) (hF:g_ n F (mo:Int)) (g0:cj n s0) (told:∀i,0<i->i<n->(∃v,v<=(l:Int)/\val s0 (true,0,i)=some v)/\∃v,v<=0/\val s0 (true,i,0)=some v) (w0:∀a b,val s0 (false,a,b)=none)
 {T:Nat} (hl:∀t,t<T->t<(run n F s0 t).rows.length) (hb:∀t,t<=T->(run n F s0 t).bar=none):
 MH.Bd n (l:Int) (mo:Int) T (fun t=>(run n F s0 t).rows.length) (fun t a b=>val (run n F s0 t) (true,a,b)) (fun t a b=>val (run n F s0 t) (false,a,b)) (pt n F s0) (pw n F s0):=by
 have gd:=yL hF g0;have gh:∀t a b,pt n F s0 t a b->∃w,ah (run n F s0 t) t=some w/\w.tie=true/\w.a=a/\w.b=b/\val (run n F s0 t) (true,a,b)=some w.v/\run n F s0 (t+1)=dW n F t a b (run n F s0 t):=fun t a b ⟨w,h1,h2,h3,h4,h5⟩=>⟨w,h1,h2,h3,h4,oZ h5 h1,Dn h1 h2 h3 h4 h5⟩;have jU:∀t a b,pw n F s0 t a b->∃w,ah (run n F s0 t) t=some w/\w.tie=false/\w.a=a/\w.b=b/\val (run n F s0 t) (false,a,b)=some w.v/\(run n F s0 t).best (false,a,b)=some t:=fun t a b ⟨w,h1,h2,h3,h4,h5⟩=>⟨w,h1,h2,h3,h4,oZ h5 h1,h5⟩;have ends:=O5 hF g0 w0 hl hb;have wm:∀t a b v,t<T->val (run n F s0 t) (false,a,b)=some v->∃v',v<=v'/\val (run n F s0 (t+1)) (false,a,b)=some v':=fun t a b v ht h=>by
  have df:=(rC (gd t) (hb t (by exact bo ht)) h).1;obtain ⟨u',h1,h2⟩:=(uR n F t (run n F s0 t)).2 (false,a,b) v df h;refine ⟨u',?_,h1⟩;unfold dD at h2;simp at h2;exact h2
 have ZM:∀t a b v,val (run n F s0 t) (false,a,b)=some v->∀d,t+d<=T->∃v',v<=v'/\val (run n F s0 (t+d)) (false,a,b)=some v':=fun t a b v h d=>by
  induction d with
  | zero=>exact fun _=>⟨v,Int.le_refl _,h⟩
  | succ d ih=>
   intro hd;obtain ⟨v1,h1,e1⟩:=ih (by exact bo hd);obtain ⟨v2,h2,e2⟩:=wm (t+d) a b v1 (by exact hd) e1;exact ⟨v2,by lia,e2⟩
 have once:∀(k:Key) (t t':Nat) (x x':aj),t<t'->ah (run n F s0 t) t=some x->ah (run n F s0 t') t'=some x'->x'.key=k->(run n F s0 t).best k=some t->(run n F s0 t).rows.length<=t':=fun k t t' x x' lK _ mq hk dq=>by
  refine fg fun c=>?_;have h1:=rL (sU (n:=n) (F:=F) (s:=s0) (bo lK)).1 (by lia) mq;obtain ⟨j,hj,qL⟩:=(gd t).top t' x' h1;rw [hk,dq] at qL;cases qL;lia
 exact
 { n8:=h8
   L0:=Int.natCast_nonneg _
   Be:=Int.natCast_nonneg _
   go:=hl
   xl:=fun t _=>(uR n F t (run n F s0 t)).1.len
   lt:=fun t a b v ht h=>by
    obtain ⟨x1,x2,x3⟩:=rC (gd t) (hb t ht) h;exact ⟨x2,x3,x1⟩
   known:=fun t a b _ h=>by
    obtain ⟨w,_,_,_,_,h5,_⟩:=gh t a b h;exact ⟨w.v,h5⟩
   iS:=fun t a b ht h=>by
    obtain ⟨w,_,_,_,_,h5,_⟩:=jU t a b h;obtain ⟨x1,x2,x3⟩:=rC (gd t) (hb t (by exact bo ht)) h5;exact ⟨x2,x3,x1,w.v,h5⟩
   mono:=fun t a b v ht h=>by
    have df:=(rC (gd t) (hb t (by exact bo ht)) h).1;obtain ⟨u',h1,h2⟩:=(uR n F t (run n F s0 t)).2 (true,a,b) v df h;refine ⟨u',?_,h1⟩;unfold dD at h2;simp at h2;exact h2
   AH:=wm
   told:=told
   uT:=w0
   sum:=fun t a b c v u ht h hv hu vy=>by
    obtain ⟨w,h1,h2,h3,h4,h5,h6⟩:=gh t a b h;have hv:val (run n F s0 t) (true,a,b)=some v:=hv;rw [hv] at h5;cases h5;have xQ:=rC (gd t) (hb t (by exact bo ht)) hu;obtain ⟨x,hx,ex⟩:=(NN hF (gd t) h1 h2 h3 h4 hu xQ.1 xQ.2.2).1 vy;refine ⟨x,hx,?_⟩;show val (run n F s0 (t+1)) _=_;rw [h6];exact ex
   bar:=fun t a b v u ht h hv hu=>by
    obtain ⟨w,h1,h2,h3,h4,h5,h6⟩:=gh t a b h;have hv:val (run n F s0 t) (true,a,b)=some v:=hv;rw [hv] at h5;cases h5;have xQ:=rC (gd t) (hb t (by exact bo ht)) hu;refine fg fun hc=>?_;have:=(NN hF (gd t) h1 h2 h3 h4 hu xQ.1 xQ.2.2).2 rfl (by lia);rw [<-h6] at this;exact this (hb (t+1) ht)
   one:=fun t a b a' b' _ h h'=>by
    obtain ⟨w,h1,_,h3,h4,_⟩:=gh t a b h;obtain ⟨w',lO,_,qO,oJ,_⟩:=gh t a' b' h';rw [h1] at lO;cases lO;exact ⟨h3.symm.trans qO,h4.symm.trans oJ⟩
   JD:=fun t a b a' b' _ h h'=>by
    obtain ⟨w,h1,_,h3,h4,_⟩:=jU t a b h;obtain ⟨w',lO,_,qO,oJ,_⟩:=jU t a' b' h';rw [h1] at lO;cases lO;exact ⟨h3.symm.trans qO,h4.symm.trans oJ⟩
   apart:=fun t a b a' b' _ h h'=>by
    obtain ⟨w,h1,h2,_⟩:=gh t a b h;obtain ⟨w',lO,nN,_⟩:=jU t a' b' h';rw [h1] at lO;cases lO;rw [h2] at nN;cases nN
   cause:=fun t a b ht h=>by
    have h:val (run n F s0 (t+1)) (true,a,b)≠val (run n F s0 t) (true,a,b):=h;obtain ⟨j,w,hj,hw,hk,hv⟩:=Hm (gd t) (gd (t+1)) (uR n F t (run n F s0 t)).1 (k:=(true,a,b)) h;obtain ⟨kt,ka,kb⟩:=iD hk;have hv:val (run n F s0 (t+1)) (true,a,b)=some w.v:=hv;have bw:=hb (t+1) ht;rcases step n F s0 (hl t ht) with ⟨p,hp,md,jz,e⟩ | ⟨p,hp,md,zk,e⟩ | ⟨_,_,e⟩
    ·have hw:ah (run n F s0 (t+1)) j=some w:=hw;rw [e] at hw bw;rcases (HI hF (gd t) hp rfl rfl bw j w hj hw).1 kt with ⟨h1,h2,q,hq,hwv⟩ | ⟨h1,h2⟩
     ·rw [ka] at h1;rw [kb] at h2 hq;subst h1;obtain ⟨w',k1,_,_,_,k5,_⟩:=gh t _ _ jz;rw [hp] at k1;cases k1;exact .inl ⟨p.b,p.v,q,w.v,jz,aF h2,k5,hq,hv,by lia⟩
     ·rw [kb] at h1;rw [ka] at h2;subst h1;exact .inr (.inl ⟨p.a,jz,aF h2⟩)
    ·
     have hw:ah (run n F s0 (t+1)) j=some w:=hw;have g':cj n (fm n F t p.a (run n F s0 t)):=by rw [<-e];exact gd (t+1)
     have qN:=bw;rw [e] at hw qN;obtain ⟨B,Fs,hB⟩:∃B:Int,0<=B/\∀x v,val (fm n F t p.a (run n F s0 t)) (true,x,p.a)=some v->-B<=v:=by
      have:∀k,∃B:Int,0<=B/\∀x v,x<k->val (fm n F t p.a (run n F s0 t)) (true,x,p.a)=some v->-B<=v:=by
       intro k
       induction k with
       | zero=>exact ⟨0,Int.le_refl _,fun x v hx=>absurd hx (sd _)⟩
       | succ k ih=>
        obtain ⟨B,h0,h1⟩:=ih
        cases q:val (fm n F t p.a (run n F s0 t)) (true,k,p.a) with
        | none=>
         refine ⟨B,h0,fun x v hx hv=>?_⟩
         by_cases e:x=k
         ·rw [e,q] at hv;cases hv
         ·exact h1 x v (by lia) hv
        | some u=>
         refine ⟨max B (-u),by lia,fun x v hx hv=>?_⟩
         by_cases e:x=k
         ·rw [e,q] at hv;cases hv;lia
         ·have:=h1 x v (by lia) hv;lia
      obtain ⟨B,h0,h1⟩:=this n;exact ⟨B,h0,fun x v hv=>h1 x v (rC g' qN hv).2.1 hv⟩
     have uj:=(OG hF (gd t) hp md rfl hB Fs qN j w hj hw).1 kt;have own:w.a=p.a:=by
      have:=Wv (F:=F) (n:=n) hp j w hj hw kt;exact this
     rw [ka] at own;subst own;exact .inr (.inr ⟨p.b,w.v,zk,hv,uj⟩)
    ·have hw:ah (run n F s0 (t+1)) j=some w:=hw;rw [e] at hw;exact absurd (m_ hw) (by exact Nat.not_lt_of_le hj)
   aB:=fun t a b e v v' ht h hv hte heT zk fG=>by
    obtain ⟨w,h1,h2,h3,h4,h5,h6⟩:=gh t a b h;have hv:val (run n F s0 t) (true,a,b)=some v:=hv;rw [hv] at h5;cases h5;obtain ⟨x,k1,k2,k3,k4,_⟩:=jU e a b zk;obtain ⟨f,hf⟩:=ends e (by exact bo heT) e x k1 k2;rw [k4] at hf;have df:=(rC (gd t) (hb t (by exact bo ht)) hv).1;have Kz:=hF.num _ _ hf;have hd:aK (cS F) .aB t (run n F s0 t)=take (run n F s0 t) ⟨false,a,b,f.2.2-w.v⟩ .aB [t]:=by
     unfold aK;rw [h1];show put _ (cS F w) _ _=_;unfold cS;rw [if_pos ⟨h2,by rw [h3,h4];exact df⟩,h4,hf,h3];rfl
    obtain ⟨u,hu,nu⟩:=DH (st:=run n F s0 t) (word:=.aB) (used:=[t]) (w:=⟨false,a,b,f.2.2-w.v⟩) df;have iz:Imp (aK (cS F) .aB t (run n F s0 t)) (dW n F t a b (run n F s0 t)):=by
     unfold dW;dsimp only;exact (((f_ _ _ _ _).trans (dz (fun _ _=>cH ..) _ _)).trans (dz (fun _ _=>cH ..) _ _)).trans (dz (fun _ _=>cH ..) _ _)
    rw [hd] at iz;obtain ⟨u2,zg,Ro⟩:=iz.2 (false,a,b) u df hu;rw [<-h6] at zg;have ud:t+1<=e\/t=e:=by lia
    rcases ud with ud | ud
    ·obtain ⟨u3,l3,e3⟩:=ZM (t+1) a b u2 zg (e-(t+1)) (by lia);rw [show t+1+(e-(t+1))=e by lia] at e3;have fG:val (run n F s0 e) (false,a,b)=some v':=fG;rw [fG] at e3;cases e3;unfold dD at nu Ro;simp at nu Ro;lia
    ·subst ud;rw [h1] at k1;cases k1;rw [h2] at k2;cases k2
   pX:=fun t a b B ht Fs hB h=>by
    have h:val (run n F s0 (t+1)) (false,a,b)≠val (run n F s0 t) (false,a,b):=h;obtain ⟨j,w,hj,hw,hk,hv⟩:=Hm (gd t) (gd (t+1)) (uR n F t (run n F s0 t)).1 (k:=(false,a,b)) h;obtain ⟨kt,_⟩:=iD hk;have hv:val (run n F s0 (t+1)) (false,a,b)=some w.v:=hv;have hw:ah (run n F s0 (t+1)) j=some w:=hw;have bw:=hb (t+1) ht;refine ⟨w.v,hv,?_⟩;rcases step n F s0 (hl t ht) with ⟨p,hp,md,jz,e⟩ | ⟨p,hp,md,zk,e⟩ | ⟨_,_,e⟩
    ·have hpv: -B<=p.v:=by
      obtain ⟨w',k1,_,_,_,k5,_⟩:=gh t _ _ jz;rw [hp] at k1;cases k1;have df:=(rC (gd t) (hb t (by exact bo ht)) k5).1;obtain ⟨u',q1,q2⟩:=(uR n F t (run n F s0 t)).2 (true,p.a,p.b) p.v df k5;have:=hB p.a p.b u' q1;unfold dD at q2;simp at q2;lia
     rw [e] at hw bw;have:=((HI hF (gd t) hp rfl rfl bw j w hj hw).2 kt).1;lia
    ·have hB':∀x v,val (fm n F t p.a (run n F s0 t)) (true,x,p.a)=some v->-B<=v:=fun x v hx=>by
      rw [<-e] at hx;exact hB x p.a v hx
     rw [e] at hw bw;exact (OG hF (gd t) hp md rfl hB' Fs bw j w hj hw).2 kt
    ·rw [e] at hw;exact absurd (m_ hw) (by exact Nat.not_lt_of_le hj)
   grow:=fun t ht=>by
    have dZ:=hb (t+1) ht;rcases step n F s0 (hl t ht) with ⟨p,hp,md,_,e⟩ | ⟨p,hp,_,_,e⟩ | ⟨_,_,e⟩
    ·have:=V_ hF (gd t) hp md (by rw [<-e];exact dZ);show (run n F s0 (t+1)).rows.length<=(run n F s0 t).rows.length+20;rw [e];lia
    ·have:=P0 hF (gd t) hp (by rw [<-e];exact dZ);show (run n F s0 (t+1)).rows.length<=(run n F s0 t).rows.length+20;rw [e];lia
    ·show (run n F s0 (t+1)).rows.length<=_;rw [e];exact Nat.le_add_right _ _
   v9:=fun t ht lj=>by
    rcases step n F s0 (hl t ht) with ⟨p,_,_,jz,_⟩ | ⟨p,hp,_,_,e⟩ | ⟨_,_,e⟩
    ·exact absurd jz (lj _ _)
    ·have:=P0 hF (gd t) hp (by rw [<-e];exact hb (t+1) ht);show (run n F s0 (t+1)).rows.length<=(run n F s0 t).rows.length+8;rw [e];lia
    ·show (run n F s0 (t+1)).rows.length<=_;rw [e];exact Nat.le_add_right _ _
   vA:=fun t ht lj hnw=>by
    rcases step n F s0 (hl t ht) with ⟨p,_,_,jz,_⟩ | ⟨p,_,_,zk,_⟩ | ⟨_,_,e⟩
    ·exact absurd jz (lj _ _)
    ·exact absurd zk (hnw _ _)
    ·show (run n F s0 (t+1)).rows.length=_;rw [e]
   fq:=fun t0 t a b v ht h0 h1 hv fG=>by
    have hv:val (run n F s0 t0) (true,a,b)=some v:=hv;have fG:val (run n F s0 t) (true,a,b)=some v:=fG;obtain ⟨j,w,hj,hw,hk,_⟩:=Az (gd t0) hv;obtain ⟨j',w',jS,ki,pq,J'⟩:=Az (gd t) fG;have ejj:j=j':=fg fun c=>X6 h1 (gd t0) (gd t) (hb t ht) hj jS c (fG.trans hv.symm);subst ejj;obtain ⟨_,_⟩:=iD hk;have RY:=m_ hw;have KN:j<t:=by
     lia
    obtain ⟨p,hp⟩:∃p,ah (run n F s0 j) j=some p:=⟨_,by unfold ah;rw [kF (hl j (by lia))];rfl⟩;have je:=bV (sU (n:=n) (F:=F) (s:=s0) (bo KN)).1 hp;rw [ki] at je;cases je;obtain ⟨kt',ka',kb'⟩:=iD pq;obtain ⟨i,hi,nK⟩:=(gd j).top j w' hp;rw [pq] at nK;have:=OQ (bo KN) (gd j) nK jS;have e:i=j:=by lia
    rw [e] at nK;exact ⟨j,KN,⟨w',hp,kt',ka',kb',nK⟩,by show val (run n F s0 j) (true,a,b)=some v;rw [oZ nK hp,J']⟩
   drop:=fun t t' a b v v' lK hT h h' hv fG=>by
    obtain ⟨w,h1,h2,h3,h4,h5,_⟩:=gh t a b h;obtain ⟨w',lO,nN,qO,oJ,BP,_⟩:=gh t' a b h';have hv:val (run n F s0 t) (true,a,b)=some v:=hv;have fG:val (run n F s0 t') (true,a,b)=some v':=fG;rw [hv] at h5;rw [fG] at BP;cases h5;cases BP;have:=(gd t').drop (hb t' (by exact bo hT)) t t' w w' (bV (sU (bo lK)).1 h1) lO (by unfold aj.key;rw [h2,h3,h4,nN,qO,oJ]) lK;unfold dD at this;rw [h2] at this;simp at this;exact this
   uU:=fun t t' a b v v' lK hT h h' hv fG=>by
    obtain ⟨w,h1,h2,h3,h4,h5,_⟩:=jU t a b h;obtain ⟨w',lO,nN,qO,oJ,BP,_⟩:=jU t' a b h';have hv:val (run n F s0 t) (false,a,b)=some v:=hv;have fG:val (run n F s0 t') (false,a,b)=some v':=fG;rw [hv] at h5;rw [fG] at BP;cases h5;cases BP;have:=(gd t').drop (hb t' (by exact bo hT)) t t' w w' (bV (sU (bo lK)).1 h1) lO (by unfold aj.key;rw [h2,h3,h4,nN,qO,oJ]) lK;unfold dD at this;rw [h2] at this;simp at this;exact this
   once:=fun t t' a b lK _ h h'=>by
    obtain ⟨w,h1,_⟩:=gh t a b h;obtain ⟨w',lO,nN,qO,oJ,_,_⟩:=gh t' a b h';obtain ⟨_,_,_,_,_,h5⟩:=h;exact once (true,a,b) t t' w w' lK h1 lO (by unfold aj.key;rw [nN,qO,oJ]) h5
   nh:=fun t t' a b lK _ h h'=>by
    obtain ⟨w,h1,_,_,_,_,h5⟩:=jU t a b h;obtain ⟨w',lO,nN,qO,oJ,_,_⟩:=jU t' a b h';exact once (false,a,b) t t' w w' lK h1 lO (by unfold aj.key;rw [nN,qO,oJ]) h5 }
variable {n:Nat} {F:ck} {s0:St}
theorem XA (h8:n<=8) (hF:g_ n F ((60:Nat):Int)) (g0:cj n s0) (told:∀i,0<i->i<n->(∃v,v<=((60:Nat):Int)/\val s0 (true,0,i)=some v)/\∃v,v<=0/\val s0 (true,i,0)=some v) (w0:∀a b,val s0 (false,a,b)=none) (h0:s0.rows.length<=1000):
 ∃T,((run n F s0 T).rows.length<=T\/(run n F s0 T).bar≠none)/\(∀t,t<T->t<(run n F s0 t).rows.length/\(run n F s0 t).bar=none)/\∀t,t<=T->(run n F s0 t).rows.length<=16000000:=by
 have key:∀T,(∀t,t<T->t<(run n F s0 t).rows.length/\(run n F s0 t).bar=none)->(run n F s0 T).rows.length<=15900000+26:=fun T h=>by
  cases T with
  | zero=>exact eC h0 (by decide)
  | succ T=>
   have b:=(Tu (l:=60) (mo:=60) h8 hF g0 told w0 (T:=T) (fun t ht=>(h t (by exact Nat.le.step ht)).1) (fun t ht=>(h t (by lia)).2)).rows;have b:(run n F s0 T).rows.length<=(run n F s0 0).rows.length+1568*(7*(7*(60+1)+7*(60+1)+1))+20*(56*(2*60+1))+8*((56*(2*60+1)+56*(60+60+1))*56+(56*(60+2*60+1)+56)):=b;have e0:(run n F s0 0).rows.length=s0.rows.length:=rfl;have l:=VC (n:=n) (F:=F) (at_:=T) (s:=run n F s0 T) h8;have l:(run n F s0 (T+1)).rows.length<=(run n F s0 T).rows.length+26:=l;rw [e0] at b;lia
 have hex:∃T,(run n F s0 T).rows.length<=T\/(run n F s0 T).bar≠none:=fg fun hn=>by
  have all:∀t,t<(run n F s0 t).rows.length/\(run n F s0 t).bar=none:=fun t=>⟨fg fun c=>hn ⟨t,.inl (by exact mE c)⟩,fg fun c=>hn ⟨t,.inr c⟩⟩;have h1:=key 16000000 fun t _=>all t;have h2:=(all 16000000).1;lia
 have least:∀N,(∃T,T<=N/\((run n F s0 T).rows.length<=T\/(run n F s0 T).bar≠none)/\∀t,t<T->t<(run n F s0 t).rows.length/\(run n F s0 t).bar=none)\/∀t,t<=N->t<(run n F s0 t).rows.length/\(run n F s0 t).bar=none:=fun N=>by
  induction N with
  | zero=>
   by_cases c:(run n F s0 0).rows.length<=0\/(run n F s0 0).bar≠none
   ·exact .inl ⟨0,az _,c,fun t ht=>absurd ht (sd _)⟩
   ·refine .inr fun t ht=>?_;rw [show t=0 by lia];exact ⟨fg fun z=>c (.inl (by exact mE z)),fg fun z=>c (.inr z)⟩
  | succ N ih=>
   rcases ih with ⟨T,h1,h2,h3⟩ | h
   ·exact .inl ⟨T,by exact Nat.le.step h1,h2,h3⟩
   ·by_cases c:(run n F s0 (N+1)).rows.length<=N+1\/(run n F s0 (N+1)).bar≠none
    ·exact .inl ⟨N+1,az _,c,fun t ht=>h t (by exact Nat.le_of_lt_succ ht)⟩
    ·refine .inr fun t ht=>?_
     by_cases e:t=N+1
     ·rw [e];exact ⟨fg fun z=>c (.inl (by lia)),fg fun z=>c (.inr z)⟩
     ·exact h t (by lia)
 obtain ⟨T0,m5⟩:=hex;rcases least T0 with ⟨T,_,h2,h3⟩ | h
 ·exact ⟨T,h2,h3,fun t ht=>eC (key t fun s hs=>h3 s (by lia)) (by lia)⟩
 ·have:=h T0 (az _);rcases m5 with z | z
  ·omega
  ·exact absurd this.2 z
end MU
set_option maxRecDepth 100000
namespace L2
theorem QM {c A B:Prop} [Decidable c] (hc:¬c) (h:A):if (!decide c)=true then A else B:=by
 rw [fU hc];exact mJ h
end L2
namespace Y0
open PySem L2
noncomputable def lW (tie:Bool):Str:=if tie=true then "tie" else "wait"
noncomputable def lF (x:MU.aj):List V:=[.str (lW x.tie),.int (x.a:Int),.int (x.b:Int),.int x.v]
noncomputable def ir (H:Hp) (q:Addr) (x:MU.aj):Prop:=H q=some (.tup (lF x))
theorem ir.same (h:ir H q x) (s:aH H H'):ir H' q x:=s _ _ h
structure mR (H:Hp) (d:Addr) (F:MU.ck):Prop where
 at_:∃kvs:List (Key×V),H d=some (.dK kvs)/\(kvs.length<=100/\∀kv∈kvs,∃e:Nat,kv.1=Sum.inl (e:Int))/\(∀e:Nat,F e=none->fi kvs (.inl (e:Int))=none)/\∀(e:Nat) f,F e=some f->∃p,fi kvs (.inl (e:Int))=some (.ref p)/\H p=some (.tup [.int (f.1:Int),.int f.2.1,.int f.2.2])
theorem mR.same (h:mR H d F) (s:aH H H'):mR H' d F:=by
 obtain ⟨kvs,h1,h2,h3,h4⟩:=h.at_;refine ⟨kvs,s _ _ h1,h2,h3,fun e f hf=>?_⟩;obtain ⟨p,q1,q2⟩:=h4 e f hf;exact ⟨p,q1,s _ _ q2⟩
noncomputable def mM (H:Hp) (Q:VK) (o:Option MU.aj):Prop:=(o=none->∀H',aH H H'->Q .aS H')/\∀x,o=some x->∀r H',H r=none->aH H H'->ir H' r x->Q (.ref r) H'
theorem mM.no (h:mM H Q o) (e:o=none):Q .aS H:=h.1 e H (aH.refl _)
theorem mM.yes (h:mM H Q o) (e:o=some x) (hr:H r=none):Q (.ref r) (upd H r (.tup (lF x))):=h.2 x e r _ hr (aG hr) ai
theorem sE {a b:Nat}:decide (V.int (a:Int)=V.int (b:Int))=decide (a=b):=decide_eq_decide.mpr ⟨fun q=>Int.ofNat.inj (V.int.inj q),fun q=>by rw [q]⟩
structure Im (mg:Str->Option Value):Prop where
 min:mg "min"=none
noncomputable def MC:Sp:=fun vs H Q _=>∃d q F x,vs=[.ref d,.ref q]/\mR H d F/\ir H q x/\x.tie=true/\mM H Q (MU.cS F x)
noncomputable def MJ:Sp:=fun vs H Q _=>∃d q F x,vs=[.ref d,.ref q]/\mR H d F/\ir H q x/\x.tie=true/\mM H Q (MU.da F x)
noncomputable def Mh:Sp:=fun vs H Q _=>∃p q x y,vs=[.ref p,.ref q]/\ir H p x/\ir H q y/\x.tie=true/\y.tie=true/\mM H Q (MU.a7 x y)
noncomputable def ML:Sp:=fun vs H Q _=>∃d q F x fa,vs=[.ref d,.ref q]/\mR H d F/\ir H q x/\x.tie=false/\F x.b=some fa/\mM H Q (MU.di F x)
noncomputable def M6:Sp:=fun vs H Q _=>∃d p q F x y fa,vs=[.ref d,.ref p,.ref q]/\mR H d F/\ir H p x/\ir H q y/\x.tie=false/\y.tie=true/\F x.b=some fa/\mM H Q (MU.a_ F x y)
noncomputable def Nt:Sp:=fun vs H Q _=>∃d q F x fa,vs=[.ref d,.ref q]/\mR H d F/\ir H q x/\x.tie=false/\F x.b=some fa/\mM H Q (MU.cR F x)
noncomputable def M7:Sp:=fun vs H Q _=>∃q x,vs=[.ref q]/\ir H q x/\Q (.bl (decide (MU.iA x))) H
theorem Q7:cE ["falls","tie","end"] ["falls","tie"] (aX dJ):=cV
theorem tQ (F:Fn K mg "by_late" dJ ["falls","tie"] f fd):aq P w K mg base a9 1 f fd ["falls","tie"] MC:=by
 refine F.F.de Q7 fun _ A _ s H _ Q E hr h=>?_;obtain ⟨d,q,Fa,x,rfl,FA,hw,ht,G⟩:=h;have hu:=lV hr;refine ⟨_,aZ (cA 2 Q7.nd (a8 (pv 1)))
  (aZ (dP (PW.pt (uC (vZ (Dw hu (pv 2) (pv 0)) (by with_unfolding_all rfl)) (yC (dj gr (a8 (pv 1)) (pv 2))))) (aE (cB mY)) dX)
  (aE (cB (dA (jw eX (a8 (pv 1)) (pv 2) (bM iP (a8 (nc hu (pv 0) (pv 2) (fun _ _=>rfl))) (a8 (pv 1)))))))),?_⟩
 obtain ⟨kvs,hd,_,f0,f1⟩:=FA.at_;refine ⟨_,rfl,ay hw rfl ⟨_,rfl,_,rfl,d,_,rfl,fh.k (k:=Sum.inl (x.b:Int)) hd,_,rfl,?_⟩⟩
 cases hf:Fa x.b with
 | none=>
  rw [f0 _ hf];refine mJ (G.no ?_);unfold MU.cS;rw [hf];split<;>rfl
 | some fa=>
  obtain ⟨p,e1,e2⟩:=f1 _ _ hf;rw [e1];refine iq ⟨_,rfl,ay hw rfl ⟨_,rfl,rfl,_,rfl,?_⟩⟩;rw [sE]
  by_cases c:x.a=x.b
  ·refine ja c (G.no ?_);unfold MU.cS;rw [if_neg fun z=>z.2 c]
  ·refine kJ c ?_;have hg:MU.cS Fa x=some ⟨false,x.a,x.b,fa.2.2-x.v⟩:=by
    unfold MU.cS;rw [if_pos ⟨ht,c⟩,hf];rfl
   refine ⟨_,rfl,ay hw rfl ⟨_,rfl,_,rfl,_,rfl,d,_,rfl,e1▸fh.k (k:=Sum.inl (x.b:Int)) hd,?_⟩⟩;refine ay e2 rfl ⟨_,rfl,ay hw rfl ⟨_,_,rfl,rfl,dc rfl,fun r aI=>G.yes hg aI⟩⟩
theorem Md:cE ["falls","tie","end"] ["falls","tie"] (aX dH):=cV
theorem tK (F:Fn K mg "by_soon" dH ["falls","tie"] f fd):aq P w K mg base a9 1 f fd ["falls","tie"] MJ:=by
 refine F.F.de Md fun _ A _ s H _ Q E hr h=>?_;obtain ⟨d,q,Fa,x,rfl,FA,hw,ht,G⟩:=h;have hu:=lV hr;refine ⟨_,aZ (cA 2 Md.nd (a8 (pv 1)))
  (aZ (dP (PW.pt (uC (vZ (Dw hu (pv 2) (pv 0)) (by with_unfolding_all rfl)) (uC (dj gr (a8 (pv 1)) (pv 2)) (yC (dj Zm (a8 (pv 1)) aw))))) (aE (cB mY)) dX)
  (aE (cB (dA (jw eX (a8 (nc hu (pv 0) (pv 2) (fun _ _=>rfl))) (a8 (pv 1)) (bM g8 (a8 (nc hu (pv 0) (pv 2) (fun _ _=>rfl))) (a8 (pv 1)))))))),?_⟩
 obtain ⟨kvs,hd,_,f0,f1⟩:=FA.at_;refine ⟨_,rfl,ay hw rfl ⟨_,rfl,_,rfl,d,_,rfl,fh.k (k:=Sum.inl (x.a:Int)) hd,_,rfl,?_⟩⟩
 cases hf:Fa x.a with
 | none=>
  rw [f0 _ hf];refine mJ (G.no ?_);unfold MU.da;rw [hf];split<;>rfl
 | some fa=>
  obtain ⟨p,e1,e2⟩:=f1 _ _ hf;rw [e1];refine iq ⟨_,rfl,ay hw rfl ⟨_,rfl,rfl,_,rfl,?_⟩⟩;rw [sE]
  by_cases c:x.b=x.a
  ·refine ja c (G.no ?_);unfold MU.da;rw [if_neg fun z=>z.2.1 c.symm]
  ·refine kJ c ⟨_,rfl,ay hw rfl ⟨_,_,rfl,rfl,_,rfl,?_⟩⟩
   by_cases c2:x.v<0
   ·refine kJ (by exact Int.not_le.mpr c2) ?_;have hg:MU.da Fa x=some ⟨true,fa.1,x.b,fa.2.1+x.v⟩:=by
     unfold MU.da;rw [if_pos ⟨ht,fun z=>c z.symm,c2⟩,hf];rfl
    refine ⟨_,rfl,_,rfl,d,_,rfl,e1▸fh.k (k:=Sum.inl (x.a:Int)) hd,?_⟩;refine ay e2 rfl ⟨_,rfl,ay hw rfl ⟨_,rfl,_,rfl,d,_,rfl,e1▸fh.k (k:=Sum.inl (x.a:Int)) hd,?_⟩⟩;refine ay e2 rfl ⟨_,rfl,ay hw rfl ⟨_,_,rfl,rfl,dc rfl,fun r aI=>G.yes hg aI⟩⟩
   ·refine ja (by lia) (G.no ?_);unfold MU.da;rw [if_neg fun z=>c2 z.2.2]
theorem Tx:cE ["first","second"] ["first","second"] (aX eY):=cV
theorem wX (F:Fn K mg "by_sum" eY ["first","second"] f fd):aq P w K mg base a9 1 f fd ["first","second"] Mh:=by
 refine F.F.de Tx fun _ A _ s H _ Q E hr h=>?_;obtain ⟨p,q,x,y,rfl,hx,hy,tx,ty,G⟩:=h;refine ⟨_,aZ (dP (dj CF (a8 (pv 0)) (a8 (pv 1))) (aE (cB mY)) dX)
  (aE (cB (dA (jw eX (a8 (pv 0)) (a8 (pv 1)) (bM g8 (a8 (pv 0)) (a8 (pv 1))))))),?_⟩
 refine ⟨_,rfl,ay hx rfl ⟨_,rfl,ay hy rfl ⟨rfl,_,rfl,?_⟩⟩⟩;rw [sE]
 by_cases c:x.b=y.a
 ·refine u9 c ?_;have hg:MU.a7 x y=some ⟨true,x.a,y.b,x.v+y.v⟩:=if_pos ⟨tx,ty,c⟩;exact ⟨_,rfl,ay hx rfl ⟨_,rfl,ay hy rfl ⟨_,rfl,ay hx rfl ⟨_,rfl,ay hy rfl ⟨_,_,rfl,rfl,dc rfl,fun r aI=>G.yes hg aI⟩⟩⟩⟩⟩
 ·exact QM c (G.no (if_neg fun z=>c z.2.2))
theorem GC {a b:Int}:(if b<a then b else a)=min a b:=by
 rw [Int.min_def]
 by_cases c:b<a
 ·rw [if_pos c,if_neg (by exact Int.not_le.mpr c)]
 ·rw [if_neg c,if_pos (by lia)]
theorem Nm:cE ["falls","wait","fall"] ["falls","wait"] (aX dG):=cV
theorem tI (F:Fn K mg "by_sure" dG ["falls","wait"] f fd) (T:Im mg):aq P w K mg base a9 1 f fd ["falls","wait"] ML:=by
 refine F.F.de Nm fun _ A _ s H _ Q E hr h=>?_;obtain ⟨d,q,Fa,x,fa,rfl,FA,hw,ht,hf,G⟩:=h;have hu:=lV hr;refine ⟨_,aZ (cA 2 Nm.nd (nc hu (pv 0) (a8 (pv 1)) (fun _ _=>rfl)))
  (aE (cB (dA (jw eX (a8 (pv 1)) (a8 (pv 2)) (sI sM (ju (yP rfl) (by rfl) T.min (by decide+kernel) (bu (a8 (pv 1)) (a8 (pv 2))))))))),?_⟩
 obtain ⟨kvs,hd,_,_,f1⟩:=FA.at_;obtain ⟨p,e1,e2⟩:=f1 _ _ hf;have hg:MU.di Fa x=some ⟨true,x.a,fa.1,-min x.v fa.2.1⟩:=by
  unfold MU.di;rw [if_pos ht,hf];rfl
 refine ⟨_,rfl,_,rfl,ay hw rfl ⟨d,_,rfl,e1▸fh.k (k:=Sum.inl (x.b:Int)) hd,?_⟩⟩;refine ⟨_,rfl,ay hw rfl ⟨_,rfl,ay e2 rfl ⟨_,rfl,ay hw rfl ⟨_,rfl,ay e2 rfl ⟨_,_,rfl,_,rfl,dc rfl,fun r aI=>?_⟩⟩⟩⟩⟩;have:=G.yes hg aI;rw [GC];exact this
theorem Nl:cE ["falls","wait","tie","end"] ["falls","wait","tie"] (aX dM):=cV
theorem tX (F:Fn K mg "by_back" dM ["falls","wait","tie"] f fd) (T:Im mg):aq P w K mg base a9 1 f fd ["falls","wait","tie"] M6:=by
 refine F.F.de Nl fun _ A _ s H _ Q E hr h=>?_;obtain ⟨d,p,q,Fa,x,y,fa,rfl,FA,hx,hy,tx,ty,hf,G⟩:=h;have hu:=lV hr;refine ⟨_,aZ (cA 3 Nl.nd (a8 (pv 1)))
  (aZ (dP (PW.pt (uC (dj CF (a8 (pv 2)) (a8 (pv 1))) (yC (dj gr (a8 (pv 2)) (pv 3))))) (aE (cB mY)) dX)
  (aE (cB (dA (jw eX (a8 (pv 2)) (pv 3) (bM iP (ju (yP rfl) (by rfl) T.min (by decide+kernel) (bu (a8 (pv 1)) (a8 (nc hu (pv 0) (pv 3) (fun _ _=>rfl))))) (a8 (pv 2)))))))),?_⟩
 obtain ⟨kvs,hd,_,_,f1⟩:=FA.at_;obtain ⟨pp,e1,e2⟩:=f1 _ _ hf;refine ⟨_,rfl,ay hx rfl ⟨_,rfl,ay hy rfl ⟨_,rfl,ay hx rfl ⟨rfl,_,rfl,?_⟩⟩⟩⟩;rw [sE]
 by_cases c:y.b=x.a
 ·refine u9 c ⟨_,rfl,ay hy rfl ⟨_,rfl,rfl,_,rfl,?_⟩⟩;rw [sE]
  by_cases c2:y.a=x.b
  ·exact ja c2 (G.no (if_neg fun z=>z.2.2.2 c2))
  ·refine kJ c2 ?_;have hg:MU.a_ Fa x y=some ⟨false,y.a,x.b,min x.v fa.2.2-y.v⟩:=by
    unfold MU.a_;rw [if_pos ⟨tx,ty,c,c2⟩,hf];rfl
   refine ⟨_,rfl,ay hy rfl ⟨_,rfl,_,rfl,ay hx rfl ⟨_,rfl,_,rfl,d,_,rfl,e1▸fh.k (k:=Sum.inl (x.b:Int)) hd,?_⟩⟩⟩;refine ay e2 rfl ⟨_,_,rfl,_,rfl,ay hy rfl ⟨_,_,rfl,rfl,dc rfl,fun r aI=>?_⟩⟩;have:=G.yes hg aI;rw [GC];exact this
 ·exact QM c (G.no (if_neg fun z=>c z.2.2.1))
theorem HE:cE ["falls","wait","end","other"] ["falls","wait"] (aX dm):=cV
theorem qp (F:Fn K mg "by_cross" dm ["falls","wait"] f fd) (T:Im mg):aq P w K mg base a9 1 f fd ["falls","wait"] Nt:=by
 refine F.F.de HE fun _ A _ s H _ Q E hr h=>?_;obtain ⟨d,q,Fa,x,fa,rfl,FA,hw,ht,hf,G⟩:=h;have hu:=lV hr;refine ⟨_,aZ (cA 2 HE.nd (a8 (pv 1)))
  (aZ (dP (PW.pt (uC (vZ (Dw hu (a8 (pv 1)) (pv 0)) (by with_unfolding_all rfl)) (uC (dj gr (a8 (pv 1)) (pv 2)) (yC (dj mQ (a8 (pv 1)) aw))))) (aE (cB mY)) dX)
  (aZ (cA 3 HE.nd (nc hu (pv 0) (a8 (pv 1)) (fun _ _=>rfl)))
  (aE (cB (dA (jw eX (a8 (pv 3)) (pv 2) (bM iP (ju (yP rfl) (by rfl) T.min (by decide+kernel) (bu (a8 (pv 1)) (a8 (nc hu (pv 0) (pv 2) (fun _ _=>rfl))))) (a8 (pv 3))))))))),?_⟩
 obtain ⟨kvs,hd,_,f0,f1⟩:=FA.at_;obtain ⟨pp,e1,e2⟩:=f1 _ _ hf;refine ⟨_,rfl,ay hw rfl ⟨_,rfl,ay hw rfl ⟨_,rfl,d,_,rfl,fh.k (k:=Sum.inl (x.a:Int)) hd,_,rfl,?_⟩⟩⟩
 cases ho:Fa x.a with
 | none=>
  rw [f0 _ ho];refine mJ (G.no ?_);unfold MU.cR;rw [ho];split<;>rfl
 | some oa=>
  obtain ⟨po,o1,o2⟩:=f1 _ _ ho;rw [o1];refine iq ⟨_,rfl,ay hw rfl ⟨_,rfl,rfl,_,rfl,?_⟩⟩;rw [sE]
  by_cases c:x.a=x.b
  ·refine ja c (G.no ?_);unfold MU.cR;rw [if_neg fun z=>z.2.1 c]
  ·refine kJ c ⟨_,rfl,ay hw rfl ⟨_,_,rfl,rfl,_,rfl,?_⟩⟩
   by_cases c2:0<x.v
   ·refine kJ (by exact Int.not_le.mpr c2) ?_;have hg:MU.cR Fa x=some ⟨false,oa.1,x.b,min x.v fa.2.2-oa.2.1⟩:=by
     unfold MU.cR;rw [if_pos ⟨ht,c,c2⟩,ho,hf];rfl
    refine ⟨_,rfl,_,rfl,ay hw rfl ⟨d,_,rfl,o1▸fh.k (k:=Sum.inl (x.a:Int)) hd,?_⟩⟩;refine ⟨_,rfl,ay o2 rfl ⟨_,rfl,_,rfl,ay hw rfl ⟨_,rfl,_,rfl,d,_,rfl,e1▸fh.k (k:=Sum.inl (x.b:Int)) hd,?_⟩⟩⟩;refine ay e2 rfl ⟨_,_,rfl,_,rfl,ay o2 rfl ⟨_,_,rfl,rfl,dc rfl,fun r aI=>?_⟩⟩;have:=G.yes hg aI;rw [GC];exact this
   ·refine ja (by lia) (G.no ?_);unfold MU.cR;rw [if_neg fun z=>c2 z.2.2]
theorem Tw:cE ["what"] ["what"] (aX bh):=cV
theorem Dm:decide (V.str (lW t)=V.str "tie")=t:=by
 cases t
 ·exact fU fun q=>absurd (V.str.inj q) (by decide+kernel)
 ·exact jo rfl
theorem tW (F:Fn K mg "bars_every_hand" bh ["what"] f fd):aq P w K mg base a9 1 f fd ["what"] M7:=by
 refine F.F.de Tw fun _ A _ s H _ Q E hr h=>?_;obtain ⟨q,x,rfl,hw,k⟩:=h;refine ⟨_,aE (cB (Ae (vQ gr (a8 (pv 0)) eX) (Ae (vQ gr (a8 (pv 0)) (a8 (pv 0))) (Af (vQ uB (a8 (pv 0)) aw))))),?_⟩;have eb:∀b:Bool,b=decide (MU.iA x)->Q (.bl b) H:=fun b e=>by rw [e];exact k
 refine ⟨_,rfl,ay hw rfl ⟨rfl,_,rfl,?_⟩⟩;rw [Dm]
 cases ht:x.tie with
 | false=>exact iq (eb _ (fU fun z=>by have:=z.1;rw [ht] at this;cases this).symm)
 | true=>
  refine mJ ⟨_,rfl,ay hw rfl ⟨_,rfl,ay hw rfl ⟨rfl,_,rfl,?_⟩⟩⟩;rw [sE]
  by_cases c:x.a=x.b
  ·refine ja c ⟨_,rfl,ay hw rfl ⟨_,_,rfl,rfl,eb _ ?_⟩⟩;exact decide_eq_decide.mpr ⟨fun z=>⟨ht,c,z⟩,fun z=>z.2.2⟩
  ·exact kJ c (eb _ (fU fun z=>c z.2.1).symm)
noncomputable def Mx:List Int->Option (Nat×Int×Int)
 | [a,_,l,m]=>some (a.toNat,l,m)
 | _=>none
noncomputable def dk (F:List (List Int)):MU.ck:=fun e=>(F.find? fun r=>decide (r[1]?=some (e:Int))).bind Mx
theorem Qm {F:List (List Int)} {e:Nat} (h:∀r∈F,r[1]?≠some (e:Int)):dk F e=none:=by
 unfold dk;have:(F.find? fun r=>decide (r[1]?=some (e:Int)))=none:=List.find?_eq_none.mpr fun r hr=>by simpa using h r hr
 rw [this];rfl
theorem cv.find {n la:Int} {T F:List (List Int)} (h:cv n la T F) {e:Nat} {f:Nat×Int×Int} (hf:dk F e=some f):∃a l m:Int,[a,(e:Int),l,m]∈F/\f=(a.toNat,l,m)/\0<=a/\a<n/\0<(e:Int)/\(e:Int)<n/\a≠(e:Int)/\1<=l/\l<=m/\m<=60:=by
 unfold dk at hf
 cases q:F.find? fun r=>decide (r[1]?=some (e:Int)) with
 | none=>rw [q] at hf;cases hf
 | some r=>
  rw [q] at hf;have hf:Mx r=some f:=hf;have hm:=List.mem_of_find?_eq_some q;have hp:=List.find?_some q;obtain ⟨a,b,l,m,rfl,x1,x2,x3,x4,x5,x6,x7,x8⟩:=h.f r hm;have hb:some b=some (e:Int):=of_decide_eq_true hp;cases hb;cases hf;exact ⟨a,l,m,hm,rfl,x1,x2,x3,x4,x5,x6,x7,x8⟩
theorem cv.ie {n la:Int} {T F:List (List Int)} (h:cv n la T F) {a l m:Int} {e:Nat} (hm:[a,(e:Int),l,m]∈F):dk F e=some (a.toNat,l,m):=by
 obtain ⟨i,hi⟩:=oP.mp hm;unfold dk
 cases q:F.find? fun r=>decide (r[1]?=some (e:Int)) with
 | none=>
  have:=List.find?_eq_none.mp q _ hm;simp at this
 | some r=>
  have RW:=List.mem_of_find?_eq_some q;obtain ⟨j,hj⟩:=oP.mp RW;have hp:r[1]?=some (e:Int):=of_decide_eq_true (List.find?_some (p:=fun r=>decide (r[1]?=some (e:Int))) q);have ij:=h.one i j _ _ hi hj (by rw [hp];rfl);subst ij;rw [hi] at hj;cases hj;rfl
theorem cv.nO {n:Nat} {la:Int} {T F:List (List Int)} (h:cv (n:Int) la T F):MU.g_ n (dk F) ((60:Nat):Int):=by
 refine ⟨fun e f hf=>?_,fun e f hf=>?_,fun e f hf=>?_⟩
 ·obtain ⟨a,l,m,_,rfl,_,x2,x3,x4,_⟩:=h.find hf;exact ⟨by show a.toNat<n;lia,by lia⟩
 ·obtain ⟨a,l,m,hm,rfl,x1,_⟩:=h.find hf;refine Qm fun r hr=>?_;have:=h.own _ hm r hr;show r[1]?≠some ((a.toNat:Nat):Int);rw [show ((a.toNat:Nat):Int)=a by lia];exact fun z=>this z.symm
 ·obtain ⟨a,l,m,_,rfl,_,_,_,_,_,x6,x7,x8⟩:=h.find hf;exact ⟨x6,x7,x8⟩
theorem Wb {kvs:List (Key×V)} {k:Key} {v:V} {kv:Key×V} (h:kv∈dR kvs k v):kv.1=k\/∃qy∈kvs,kv.1=qy.1:=by
 unfold dR at h;split at h
 ·obtain ⟨qy,h0,rfl⟩:=eB.mp h;refine .inr ⟨qy,h0,?_⟩;split<;>rfl
 ·rcases i8.mp h with h | h
  ·exact .inr ⟨kv,h,rfl⟩
  ·rw [iK.mp h];exact .inl rfl
noncomputable def Nq (C:Addr):Sp:=fun vs H Q _=>∃p n la T F,vs=[.ref p]/\jD C H p n la T F/\cv n la T F/\∀d H',H d=none->aH H H'->mR H' d (dk F)->Q (.ref d) H'
noncomputable abbrev nBe:List Str:=["web","found","one","other","least","most"]
theorem yo:cE nBe ["web"] (aX bX):=cV
theorem qu {f C fF:Addr} {fd zC:FuncData} (F:Fn K mg "falls_by_end" bX ["web"] f fd) (TC:nV K mg C) (mF:jh K C "falls" fF) (bF:eW K zC ["self"] []) (GF:aq P w K mg base a9 1 fF zC ["self"] (yy C fun _ F=>F)):
 aq P w K mg base a9 2 f fd ["web"] (Nq C):=by
 refine F.F.de yo fun _ A _ s H _ Q E hr h=>?_;obtain ⟨p,n,la,rT,rF,rfl,W0,af,k⟩:=h;have hu:=lV hr;refine ⟨_,cx (cA 1 yo.nd ON)
  (cx (jt PassesOwn.never rfl (jm (yK (pv 0) TC.cl mF GF hr bF .nil gu))
   (uF rfl (dU (bR 2 yo.nd) (dU (bR 3 yo.nd) (dU (bR 4 yo.nd) (dU (bR 5 yo.nd) rE)))))
   (aE (CY hu (pv 1) (pv 3) (dA (iw (pv 2) (pv 4) (pv 5))) rfl)))
  (aE (cB (pv 1)))),?_⟩
 refine fun N1 c1 d hd=>c1 _ _ ?_;have s1:=aG (o:=.dK []) hd;have e1:upd H d (.dK []) d=some (.dK []):=ai;generalize upd H d (.dK [])=H1 at*;obtain ⟨dx,ta,fa,ep,_,_⟩:=id W0;have nf:(nZ n la ta fa).lookup ("falls":Str)=none:=zT _ _ _ _ (by decide+kernel) (by decide+kernel) (by decide+kernel) (by decide+kernel);refine fun N2 c2=>⟨_,rfl,p,dx,_,rfl,s1 _ _ ep,nf,p,n,la,rT,rF,rfl,W0.same s1,fun l H2 _ s2 R2=>?_⟩;obtain ⟨qs,R⟩:=R2;have R:fw H2 l qs rF:=R;refine ⟨l,rfl,⟨_,ax.of R.1⟩,?_⟩;have fl:=af.fl;have uk:H2 d=some (.dK []):=s2 _ _ e1;have hdH:H d=none:=hd;refine og (K:=K) (a:=l) (xs:=qs.map V.ref) (fun i aa H'=>∃v1 v2 v3 v4 kvs,aa=[some (.ref p),some (.ref d),v1,v2,v3,v4]/\H' d=some (.dK kvs)/\(kvs.length<=i/\∀kv∈kvs,∃e:Nat,kv.1=Sum.inl (e:Int))/\(∀e:Nat,(∀r∈rF.take i,r[1]?≠some (e:Int))->fi kvs (.inl (e:Int))=none)/\
  (∀a b le mo:Int,[a,b,le,mo]∈rF.take i->∃q,fi kvs (.inl b)=some (.ref q)/\H' q=some (.tup [.int a,.int le,.int mo]))/\∀b o,H2 b=some o->b≠d->H' b=some o)
  ⟨none,none,none,none,[],rfl,uk,⟨az _,fun kv h=>nomatch h⟩,(fun e _=>rfl),(fun a b le mo h=>by simp at h),fun b o e _=>e⟩ ?_ ?_ ?_
 ·rintro i aa H3 _ ⟨v1,v2,v3,v4,kvs,rfl,_,_,_,_,kp⟩;exact ax.of (kp _ _ R.1 (cQ R.1 uk nofun))
 ·rintro i x aa H3 hx ⟨v1,v2,v3,v4,kvs,rfl,ed,⟨hlen,mx⟩,h0,h1,kp⟩;obtain ⟨q,r,rfl,_,aI,iG⟩:=R.get hx;obtain ⟨a',b',le,mo,rfl,_,_,x3,_⟩:=af.f r (gn aI);have hi:i<rF.length:=(gQ.mp aI).1;refine ⟨q,_,rfl,c_.of (kp _ _ iG (cQ iG uk nofun)),rfl,_,_,rfl,_,_,rfl,_,_,rfl,_,_,rfl,rfl,?_⟩;refine ⟨_,rfl,_,rfl,_,rfl,dc rfl,fun t ht=>?_⟩;have td:t≠d:=aF (aQ ed ht);refine ⟨_,rfl,_,rfl,d,_,rfl,rg.k (k:=Sum.inl b') (by rw [ao (aF td)];exact ed) (gL (by lia)),?_⟩;have tk:rF.take (i+1)=rF.take i++[[a',b',le,mo]]:=by rw [l9,aI];rfl
  refine ⟨_,_,_,_,_,rfl,ai,⟨eC (yT _ _ _) (by lia),fun kv eA=>?_⟩,fun e he=>?_,fun a b l2 m2 hm=>?_,fun b o e ne=>?_⟩
  ·rcases Wb eA with z | ⟨qy,z0,z⟩
   ·exact ⟨b'.toNat,by rw [z,lR (by exact fV x3)]⟩
   ·rw [z];exact mx qy z0
  ·rw [tk] at he;have df:b'≠(e:Int):=fun z=>he [a',b',le,mo] (kE _ eD) (by rw [<-z];rfl);rw [Ay,if_neg (fun z=>df (Sum.inl.inj z).symm)];exact h0 e fun r hr=>he r (iL _ hr)
  ·rw [tk] at hm;rcases i8.mp hm with hm | hm
   ·have z9:b≠b':=fun z=>by
     obtain ⟨j,hj⟩:=oP.mp hm;have RY:j<i:=by
      have:=(gQ.mp hj).1;rw [ig] at this;lia
     have jS:rF[j]?=some [a,b,l2,m2]:=by
      rw [List.getElem?_take] at hj;rw [if_pos RY] at hj;exact hj
     have:=af.one j i _ _ jS aI (by rw [z];rfl);lia
    obtain ⟨q',EV,x9⟩:=h1 a b l2 m2 hm;refine ⟨q',by rw [Ay,if_neg (fun z=>z9 (Sum.inl.inj z))];exact EV,?_⟩;rw [ao (cQ x9 ed nofun),ao (aQ x9 ht)];exact x9
   ·have hm:=iK.mp hm;cases hm;refine ⟨t,by rw [Ay,if_pos rfl],?_⟩;rw [ao td,ai]
  ·rw [ao ne,ao (aQ (kp _ _ e ne) ht)];exact kp _ _ e ne
 ·rintro aa H3 ⟨v1,v2,v3,v4,kvs,rfl,ed,hlen,h0,h1,kp⟩;have hle:rF.take (qs.map V.ref).length=rF:=by rw [aD,R.len];exact j8
  rw [hle] at h0 h1;rw [aD,R.len] at hlen;refine c2 _ _ ⟨_,rfl,k d H3 hd (fun b o e=>kp _ _ (s2 _ _ (s1 _ _ e)) (aQ e hdH)) ⟨kvs,ed,by lia,fun e he=>h0 e fun r hr z=>?_,fun e f hf=>?_⟩⟩
  ·obtain ⟨a',b',le,mo,rfl,_⟩:=af.f r hr;have z:some b'=some (e:Int):=z;cases z;rw [af.ie hr] at he;cases he
  ·obtain ⟨a,l',m',hm,rfl,x1,_⟩:=af.find hf;obtain ⟨q,EV,x9⟩:=h1 _ _ _ _ hm;refine ⟨q,EV,?_⟩;rw [x9];show some (HO.tup [.int a,.int l',.int m'])=some (HO.tup [.int ((a.toNat:Nat):Int),.int l',.int m']);rw [show ((a.toNat:Nat):Int)=a by lia]
end Y0
namespace L2
open PySem PySem.Spec PyProof.Rows
noncomputable def vW:List Value->List Str->Bool
 | [],[]=>true
 | .str x _::vs,s::ss=>decide (x=s) && vW vs ss
 | _,_=>false
theorem PQ:∀{vs:List Value} {ss:List Str},vW vs ss=true->bp (ss.map V.str) vs
 | [],[],_=>.nil
 | .str x t::vs,s::ss,h=>by
  have h:(decide (x=s) && vW vs ss)=true:=h;rw [Bool.and_eq_true,yg] at h;obtain ⟨e,h2⟩:=h;subst e;exact .cons ⟨t,rfl⟩ (PQ h2)
 | [],_::_,h=>by cases h
 | .none::_,_,h=>nomatch (show false=true from h)
 | .bool _::_,_,h=>nomatch (show false=true from h)
 | .int _ _::_,_,h=>nomatch (show false=true from h)
 | .float _ _::_,_,h=>nomatch (show false=true from h)
 | .str _ _::_,[],h=>nomatch (show false=true from h)
 | .bytes _ _::_,_,h=>nomatch (show false=true from h)
 | .ref _::_,_,h=>nomatch (show false=true from h)
 | .builtin _::_,_,h=>nomatch (show false=true from h)
 | .type _::_,_,h=>nomatch (show false=true from h)
 | .ellipsis::_,_,h=>nomatch (show false=true from h)
 | .notImplemented::_,_,h=>nomatch (show false=true from h)
noncomputable def NP (K:aA) (ss:List Str):Value->Bool
 | .ref b=>match K.lookup b with
  | some o=>(o.cls==.type "tuple") && (match o.data with
   | .seq its _=>decide (its.size<=sizeLine) && vW its.toList ss
   | _=>false)
  | none=>false
 | _=>false
theorem PX {K:aA} {ss:List Str} {v:Value} (h:NP K ss v=true):∃b,v=.ref b/\∀H,c_ K H b (ss.map V.str):=by
 cases v with
 | ref b=>
  refine ⟨b,rfl,fun H=>.inr ?_⟩
  have h:(match K.lookup b with
   | some o=>(o.cls==.type "tuple") && (match o.data with
    | .seq its _=>decide (its.size<=sizeLine) && vW its.toList ss
    | _=>false)
   | none=>false)=true:=h
  cases q:K.lookup b with
  | none=>rw [q] at h;cases h
  | some o=>
   rw [q] at h
   have h:((o.cls==.type "tuple") && (match o.data with
    | .seq its _=>decide (its.size<=sizeLine) && vW its.toList ss
    | _=>false))=true:=h
   rw [Bool.and_eq_true] at h;obtain ⟨h1,h2⟩:=h
   cases d:o.data with
   | seq its n=>
    rw [d] at h2;have h2:(decide (its.size<=sizeLine) && vW its.toList ss)=true:=h2;rw [Bool.and_eq_true,yg] at h2;exact ⟨o,its,n,rfl,beq_iff_eq.mp h1,d,h2.1,PQ h2.2⟩
   | _=>rw [d] at h2;cases h2
 | _=>cases h
noncomputable abbrev Ik (K:aA) (a:Addr) (D:List (Str×List Str)):Prop:=KTD.tabLook (fun d v=>NP K d v) (fun b=>List.lookup b K) a D=true
section
variable {prog:Program} {w:World} {A:Around} {E:Value->Shared->Prop} {s:Shared} {a:Addr} {δ:Type} {R:δ->Value->Prop} {D:List (Str×δ)} {k:Str} {tk:Tok}
theorem X7 (T:KTD.TabOf R s.heap a D) (h1:∀d v,KTD.datumAt k D=some d->R d v->Q (some v) { s with toks:=s.toks+1 }) (h2:KTD.datumAt k D=none->Q none { s with toks:=s.toks+1 }):
 wpAny (model prog w) A (dictGet a (.str k tk)) Q E s:=by
 obtain ⟨_,o,es,ep,ho,_,hd,hr⟩:=T;unfold dictGet
 try with_reducible refine wpAny_holding ?_
 refine ag (wpAny_pyHash_str (ag (KTD.kt_dictFind_strs (s:={ s with toks:=s.toks+1 }) ho hd (by obtain ⟨l⟩:=es;simpa using hr.exact) ?_)));have hq:Q (findBy (fun k v=>v.isStr k) es k) { s with toks:=s.toks+1 }:=by
  have hf:findBy (fun k v=>v.isStr k) es k=(es.toList.find? fun e=>e.key.isStr k).map (·.val):=by
   obtain ⟨l⟩:=es;simp [findBy]
  rw [hf]
  cases iH:KTD.datumAt k D with
  | some d=>obtain ⟨v,hv,Fh⟩:=hr.find_some iH;rw [hv];exact h1 d v iH Fh
  | none=>rw [hr.find_none iH];exact h2 iH
 rw [findBy_of_findIdx?] at hq
 cases hi:es.findIdx? fun e=>e.key.isStr k with
 | none=>rw [hi] at hq;exact aU hq
 | some i=>rw [hi] at hq;exact ag (wpAny_dictEntries (s:={ s with toks:=s.toks+1 }) ho hd (aU hq))
theorem Xg:MeetsIn prog w (Builtin.«dict.get» ⟨[.ref a,.str k tk],[]⟩) (fun _ R' s=>KTD.TabOf R s.heap a D/\(∀d v,KTD.datumAt k D=some d->R d v->R' (.ok (.ret v)) { s with toks:=s.toks+1 })/\(KTD.datumAt k D=none->R' (.ok (.ret .none)) { s with toks:=s.toks+1 })):=
 .of_wp fun A R' s ⟨T,h1,h2⟩=>by
  show wpAny _ _ (dictGet a (.str k tk)>>=_) _ _ s;refine ag (X7 T (fun d v ha hv=>aU ⟨v,rfl,h1 d v ha hv⟩) fun hn=>?_);show wpAny _ _ (Builtin.Dict.missed a (.str k tk)>>=_) _ _ _;exact ag (wpAny_missed_other T.1 (aU ⟨.none,rfl,h2 hn⟩))
end
noncomputable def Vp (K:aA) (D:List (Str×List Str)) (td ty:TE):TE:=fun σ H Q=>td σ H fun x H1=>∃a,x=.ref a/\Ik K a D/\ty σ H1 fun y H2=>∃z,y=.str z/\(∀ss,KTD.datumAt z D=some ss->∀b,(∀H',c_ K H' b (ss.map V.str))->Q (.ref b) H2)/\(KTD.datumAt z D=none->Q .aS H2)
theorem WH (ho:PE X o td) (he:PE X e ty) (m:M1 X o "get" apos e gk):PE X (.Call (.Attribute o "get" apos) [e] [] gk) (Vp X.K D td ty):=by
 intro pins s σ H Q I h;refine wpAny_Call_method m.base m.m9 m.line PySem.F.plainAttrs_dict PySem.F.slot_dict_get PySem.F.type_dict_get (av (ho pins s σ H _ I h) fun u s1 zz=>?_);obtain ⟨x,H1,I1,rx,a,ex,d,q1⟩:=zz;subst ex;obtain rfl:u=Value.ref a:=rx;have T:KTD.TabOf (fun (ss:List Str) v=>∃b,v=Value.ref b/\∀H,c_ X.K H b (ss.map V.str)) s1.heap a D:=KTD.tab_of_look (fun d v z=>PX z) I1.gN d;obtain ⟨_,ob,es,ep,RV,hc,_⟩:=id T;refine ⟨⟨ob,RV,hc.1⟩,fun b e=>?_,?_⟩
 ·injection e with e
  subst e;exact ⟨ob,RV,hc.2.1⟩
 rw [m.trees];refine Calls.callWith_builtin rfl (Calls.evalArgs_plain (Calls.spliced_cons (av (he pins s1 σ H1 _ I1 q1) fun iv s2 zz=>Calls.spliced_nil ?_)));obtain ⟨y,H2,I2,ry,z,ey,g1,g2⟩:=zz;subst ey;obtain ⟨t,rfl⟩:=ry;have T2:KTD.TabOf (fun (ss:List Str) v=>∃b,v=Value.ref b/\∀H,c_ X.K H b (ss.map V.str)) s2.heap a D:=KTD.tab_of_look (fun d v z=>PX z) I2.gN d;refine call_meetsIn PySem.F.slot_dict_get (show s2.TypeIs (.ref a) "dict" from ?_) PySem.F.entry_dict_get (PySem.F.args_dict_get_2 _ _) (Xg (D:=D)) ⟨T2,fun ss v ha hv=>?_,fun hn=>?_⟩
 ·obtain ⟨_,ob2,_,_,Kw,Si,_⟩:=id T2;exact ⟨ob2,Kw,Si.1⟩
 ·obtain ⟨b,rfl,hb⟩:=hv;exact ⟨.ref b,H2,I2.tok _,rfl,g1 ss ha b hb⟩
 ·exact ⟨.aS,H2,I2.tok _,rfl,g2 hn⟩
section
variable {X:Cx} {K:aA}
end
section
variable {X:Cx} {K:aA}
noncomputable def Ts (K:aA):R2:=fun x y H Q=>∃p q xs,x=.ref p/\y=.ref q/\ax K H p xs/\ax K H q []/\Q (.bl (!xs.isEmpty)) H
theorem Hz (hK:X.K=K) (hu:X.A.units+64<cLine):eV X (compareOp .NotEq) (Ts K):=by
 subst hK;intro pins s σ H x y v u Q I rx ry h;obtain ⟨p,q,xs,rfl,rfl,h1,h2,hq⟩:=h;cases rx;cases ry;obtain ⟨us,r1,p1,_⟩:=I.list h1;obtain ⟨vs,r2,p2,_⟩:=I.list h2;have l1:=r1.length;have l2:=r2.length;have v0:vs=[]:=LQ.mp l2.symm;subst v0
 cases xs with
 | nil=>
  have u0:us=[]:=LQ.mp l1.symm;subst u0;exact SeqAt.RcNeAt.lists (e:=fun _=>true) p1.isList p2.isList rfl (by lia) (fun j h1 _=>absurd h1 (sd _)) _ _ _ _ ⟨.bl _,H,I,rfl,hq⟩
 | cons a t=>
  refine SeqAt.RcNeAt.lists_lengths p1.isList p2.isList ?_ (by lia) _ _ _ _ ⟨.bl _,H,I,rfl,hq⟩;rw [il,<-l1];rfl
end
noncomputable def yr (xs ys:List V):Bool:=((List.range (min xs.length ys.length)).all fun j=>pB (xs.getD j .aS) (ys.getD j .aS)) && xs.length==ys.length
theorem V5:∀{x:V},jB x=true->pB x x=true
 | .aS,_=>rfl
 | .bl b,_=>(pC b:(b==b)=true)
 | .int i,_=>(pC i:(i==i)=true)
 | .str s,_=>(pC s:(s==s)=true)
 | .oN _,h=>by cases h
 | .xX _,h=>by cases h
 | .ref _,h=>by cases h
 | .ty _,h=>by cases h
theorem Qb (f:xs.all jB=true):yr xs xs=true:=by
 unfold yr;rw [pC,Bool.and_true,yh];intro j hj;have hj:=List.mem_range.mp hj;rw [Nat.min_self] at hj;have g:xs[j]?=some (xs.getD j .aS):=by rw [Cg,kF hj];rfl
 exact V5 (Dl f g)
section
variable {X:Cx}
end
noncomputable def y9:V->Bool
 | .int _=>true
 | .str _=>true
 | _=>false
theorem Xs:∀{xs:List V},xs.all y9=true->xs.all jB=true:=fun {xs} h=>yh.mpr fun x hx=>by
 have:=yh.mp h x hx;cases x<;>first | rfl | cases this
theorem TY (h:y9 x=true) (h':y9 y=true):pB x y=true↔x=y:=by
 cases x with
 | int i=>cases y with
  | int j=>show (i==j)=true↔_;rw [beq_iff_eq,V.int.injEq]
  | str s=>exact ⟨nofun,nofun⟩
  | _=>cases h'
 | str s=>cases y with
  | int j=>exact ⟨nofun,nofun⟩
  | str s'=>show (s==s')=true↔_;rw [beq_iff_eq,V.str.injEq]
  | _=>cases h'
 | _=>cases h
theorem WK (h:xs.all y9=true) (h':ys.all y9=true):yr xs ys=true↔xs=ys:=by
 refine ⟨fun e=>?_,fun e=>by rw [e];exact Qb (Xs h')⟩;unfold yr at e;rw [Bool.and_eq_true,yh,beq_iff_eq] at e;obtain ⟨e1,e2⟩:=e;refine List.ext_getElem e2 fun i h1 h2=>?_;have:=e1 i (List.mem_range.mpr (by lia));rw [Cg,Cg,kF h1,kF h2] at this;exact (TY (yh.mp h _ (zH h1)) (yh.mp h' _ (zH h2))).mp this
section
variable {X:Cx} {K:aA}
noncomputable def Zp (K:aA):R2:=fun x y H Q=>∃p q xs ys,x=.ref p/\y=.ref q/\c_ K H p xs/\c_ K H q ys/\xs.all jB=true/\ys.all jB=true/\Q (.bl (!yr xs ys)) H
theorem Vm (hK:X.K=K) (hu:X.A.units+64<cLine):eV X (compareOp .NotEq) (Zp K):=by
 subst hK;intro pins s σ H x y v u Q I rx ry h;obtain ⟨p,q,xs,ys,rfl,rfl,h1,h2,f1,f2,hq⟩:=h;cases rx;cases ry;obtain ⟨us,r1,p1,_⟩:=I.tuple h1;obtain ⟨vs,r2,p2,_⟩:=I.tuple h2;have l1:=r1.length;have l2:=r2.length;refine SeqAt.RcNeAt.tuples p1 p2 (by lia) (TX r1 r2 f1 f2) _ _ _ _ ⟨.bl _,H,I,rfl,?_⟩;rw [il,il,<-l1,<-l2];exact hq
end
open PySem
theorem DC:∀{ss:List Str},(ss.map V.str).all jB=true
 | []=>rfl
 | s::r=>by
  rw [eR,List.all_cons,DC (ss:=r)];rfl
end L2
namespace Y0
open PySem L2
seal L2.PE L2.PA L2.PT L2.PS L2.gp L2.PG L2.nU L2.PI L2.PO
noncomputable abbrev yz:List (Str×List Str):=[("sum",["tie","tie"]),("late",["tie"]),("soon",["tie"]),("sure",["wait"]),("back",["wait","tie"]),("cross",["wait"])]
structure yi (K:aA) (mg:Str->Option Value):Prop where
 at_:∃u,mg "USED_KINDS"=some (.ref u)/\Ik K u yz
 tuple:mg "tuple"=none
noncomputable def kf (xs:List MU.aj):List Str:=xs.map fun x=>lW x.tie
inductive oS (F:MU.ck):Str->List MU.aj->Option MU.aj->Prop
 | sum (x y:MU.aj) (hx:x.tie=true) (hy:y.tie=true):oS F "sum" [x,y] (MU.a7 x y)
 | aB (x:MU.aj) (hx:x.tie=true):oS F "late" [x] (MU.cS F x)
 | bf (x:MU.aj) (hx:x.tie=true):oS F "soon" [x] (MU.da F x)
 | sure (x:MU.aj) (fa:Nat×Int×Int) (hx:x.tie=false) (hf:F x.b=some fa):oS F "sure" [x] (MU.di F x)
 | back (x y:MU.aj) (fa:Nat×Int×Int) (hx:x.tie=false) (hy:y.tie=true) (hf:F x.b=some fa):oS F "back" [x,y] (MU.a_ F x y)
 | ar (x:MU.aj) (fa:Nat×Int×Int) (hx:x.tie=false) (hf:F x.b=some fa):oS F "cross" [x] (MU.cR F x)
theorem oS.kinds (h:oS F word xs o):PyProof.Rows.KTD.datumAt word yz=some (kf xs)/\xs.length<=2:=by
 cases h with
 | sum x y hx hy=>refine ⟨?_,az _⟩;unfold kf;rw [eR,eR,List.map_nil,hx,hy];decide+kernel
 | aB x hx=>refine ⟨?_,nS 1⟩;unfold kf;rw [eR,List.map_nil,hx];decide+kernel
 | bf x hx=>refine ⟨?_,nS 1⟩;unfold kf;rw [eR,List.map_nil,hx];decide+kernel
 | sure x fa hx hf=>refine ⟨?_,nS 1⟩;unfold kf;rw [eR,List.map_nil,hx];decide+kernel
 | back x y fa hx hy hf=>refine ⟨?_,az _⟩;unfold kf;rw [eR,eR,List.map_nil,hx,hy];decide+kernel
 | ar x fa hx hf=>refine ⟨?_,nS 1⟩;unfold kf;rw [eR,List.map_nil,hx];decide+kernel
noncomputable def TN (H:Hp) (l:Addr) (ps:List Addr) (xs:List MU.aj):Prop:=H l=some (.lst (ps.map V.ref))/\Paired (ir H) ps xs
noncomputable def Mis (word:Str) (xs:List MU.aj):Prop:=xs.length<=2/\∃ks,PyProof.Rows.KTD.datumAt word yz=some ks/\ks≠kf xs
noncomputable def P8:Sp:=fun vs H Q _=>∃d word ul ps F xs o,vs=[.ref d,.str word,.ref ul]/\mR H d F/\TN H ul ps xs/\(oS F word xs o\/o=none/\Mis word xs)/\mM H Q o
theorem OA:∀{xs ys:List Str},xs.map V.str=ys.map V.str->xs=ys
 | [],[],_=>rfl
 | x::xs,y::ys,h=>by
  rw [eR,eR,List.cons.injEq,V.str.injEq] at h;rw [h.1,OA h.2]
 | [],_::_,h=>by cases h
 | _::_,[],h=>by cases h
theorem PJ {ss:List Str}:(ss.map V.str).all y9=true:=by rw [List.all_map];exact yh.mpr fun _ _=>rfl
theorem mM.same (g:mM H Q o) (s:aH H H1):mM H1 Q o:=⟨fun e H' s'=>g.1 e H' (s.trans s'),fun x e r H' hr s' h=>g.2 x e r H' (s.free hr) (s.trans s') h⟩
theorem YG:cE ["falls","word","used"] ["falls","word","used"] (aX br):=cV
theorem Ym:iO (aX br) ["falls","word","used"] (lP [(".0",.local),("what",.local)]) ["what"] [none]:=lQ
theorem YR:(["what"]:List Str).Nodup:=by decide+kernel
theorem mj (F:Fn K mg "what_follows" br ["falls","word","used"] f fd) (T:yi K mg)
 (F1:Fn K mg "by_sum" eY ["first","second"] f1 d1) (G1:aq P w K mg base a9 1 f1 d1 ["first","second"] Mh)
 (F2:Fn K mg "by_late" dJ ["falls","tie"] f2 d2) (G2:aq P w K mg base a9 1 f2 d2 ["falls","tie"] MC)
 (F3:Fn K mg "by_soon" dH ["falls","tie"] f3 d3) (G3:aq P w K mg base a9 1 f3 d3 ["falls","tie"] MJ)
 (F4:Fn K mg "by_sure" dG ["falls","wait"] f4 d4) (G4:aq P w K mg base a9 1 f4 d4 ["falls","wait"] ML)
 (F5:Fn K mg "by_back" dM ["falls","wait","tie"] f5 d5) (G5:aq P w K mg base a9 1 f5 d5 ["falls","wait","tie"] M6)
 (F6:Fn K mg "by_cross" dm ["falls","wait"] f6 d6) (G6:aq P w K mg base a9 1 f6 d6 ["falls","wait"] Nt):
 aq P w K mg base a9 2 f fd ["falls","word","used"] P8:=by
 obtain ⟨u,mU,IK⟩:=T.at_;refine F.F.de YG fun _ A _ s H _ Q E hr h=>?_;obtain ⟨d,word,ul,ps,Fa,xs,o,rfl,FA,⟨zf,Ko⟩,ask,G⟩:=h;refine ⟨_,cx (dP (dj (Vm (K:=K) rfl hr.units) (uP Qq (by rfl) T.tuple (by decide+kernel) (bL (oY rfl (jm (pv 2)) Ym (fun cl ex s0 H0=>⟨bR 0 YR,pT,a8 (pv 0)⟩))))
  (WH (D:=yz) (yG (v:=.ref u) rfl mU rfl) (pv 1) ⟨rfl,rfl,rfl,rfl⟩)) (aE (cB mY)) dX)
  (cx (dP (dj gr (pv 1) eX) (aE (cB (b_ G1 hr F1 (bu (dh dS (pv 2) aw) (dh dS (pv 2) aw))))) dX)
  (cx (dP (dj gr (pv 1) eX) (aE (cB (b_ G2 hr F2 (bu (pv 0) (dh dS (pv 2) aw))))) dX)
  (cx (dP (dj gr (pv 1) eX) (aE (cB (b_ G3 hr F3 (bu (pv 0) (dh dS (pv 2) aw))))) dX)
  (cx (dP (dj gr (pv 1) eX) (aE (cB (b_ G4 hr F4 (bu (pv 0) (dh dS (pv 2) aw))))) dX)
  (cx (dP (dj gr (pv 1) eX) (aE (cB (b_ G5 hr F5 (iw (pv 0) (dh dS (pv 2) aw) (dh dS (pv 2) aw))))) dX)
  (aE (cB (b_ G6 hr F6 (bu (pv 0) (dh dS (pv 2) aw)))))))))),?_⟩
 obtain ⟨ks,hk,km,ask⟩:∃ks,PyProof.Rows.KTD.datumAt word yz=some ks/\xs.length<=2/\(ks=kf xs/\oS Fa word xs o\/ks≠kf xs/\o=none):=by
  rcases ask with a | ⟨rfl,h1,ks,h2,h3⟩
  ·exact ⟨_,a.kinds.1,a.kinds.2,.inl ⟨rfl,a⟩⟩
  ·exact ⟨ks,h2,h1,.inr ⟨h3,rfl⟩⟩
 have hlen:ps.length=xs.length:=Paired.length Ko;refine fun N1 c1=>⟨_,rfl,ul,rfl,⟨_,ax.of zf⟩,fun Da cI=>?_⟩;refine uO (xs:=ps.map V.ref) (fun j aa H'=>∃v,aa=[v]/\H' Da=some (.lst ((kf (xs.take j)).map V.str))/\aH H H') ⟨none,rfl,ai,aG cI⟩ ?_ ?_ ?_
 ·rintro j aa H2 _ ⟨v,rfl,_,s2⟩;exact ax.of (s2 _ _ zf)
 ·rintro j x aa H2 hx ⟨v,rfl,e2,s2⟩;rw [fv] at hx
  cases q:ps[j]? with
  | none=>rw [q] at hx;cases hx
  | some p=>
   rw [q] at hx;cases hx;obtain ⟨x,vm,hw⟩:=aW Ko q;have hj:j<xs.length:=(gQ.mp vm).1;refine ⟨_,rfl,ay (s2 _ _ hw) rfl ⟨_,e2,?_,_,rfl,?_,fun b o e=>?_⟩⟩
   ·unfold kf;rw [aD,aD,ig];exact gL (by lia)
   ·unfold kf;rw [ai,l9,vm,d_,d_];rfl
   ·rw [ao (aQ e cI)];exact s2 _ _ e
 rintro aa H2 ⟨v,rfl,e2,s2⟩;have bJ:xs.take (ps.map V.ref).length=xs:=by rw [aD,hlen];exact j8
 rw [bJ] at e2;refine ⟨Da,_,rfl,.inl ⟨ax.of e2,fun t ht=>?_⟩⟩;have s3:=s2.trans (aG (o:=.tup ((kf xs).map V.str)) ht);have e3:upd H2 t (.tup ((kf xs).map V.str)) t=some (.tup ((kf xs).map V.str)):=ai;generalize upd H2 t (.tup ((kf xs).map V.str))=H3 at*;refine ⟨u,rfl,IK,_,rfl,word,rfl,fun ss RO b hb=>?_,fun hn=>by rw [hk] at hn;cases hn⟩;rw [hk] at RO;cases RO;refine ⟨t,b,_,_,rfl,rfl,c_.of e3,hb H3,DC,DC,_,rfl,?_⟩;rcases ask with ⟨rfl,ask⟩ | ⟨ne,rfl⟩
 case inr=>
  refine sJ ?_ ((G.same s3).1 rfl _ (aH.refl _));show (!yr ((kf xs).map V.str) (ks.map V.str))=true;rw [Bool.not_eq_true'];exact LP.mpr fun z=>ne (OA ((WK PJ PJ).mp z)).symm
 refine ji (by rw [Qb DC];rfl) (c1 _ _ ?_);clear c1 N1;have yl:=FA.same s3;have zM:=G.same s3;have kY:=s3 _ _ zf;have oC:Paired (ir H3) ps xs:=gM Ko fun p x e=>e.same s3
 cases ask with
 | sum x y hx hy=>
  cases oC with
  | cons w1 r=>cases r with
   | cons w2 r=>cases r
                refine fun N1 _=>⟨_,rfl,rfl,_,rfl,sJ (by decide+kernel) ?_⟩;exact ⟨_,rfl,jL kY (kg (j:=0) rfl) ⟨_,rfl,jL kY (kg (j:=1) rfl) ⟨_,_,x,y,rfl,w1,w2,hx,hy,zM⟩⟩⟩
 | aB x hx=>
  cases oC with
  | cons w1 r=>cases r
               refine fun N1 c1=>⟨_,rfl,rfl,_,rfl,ji (by decide+kernel) (c1 _ _ ?_)⟩;refine fun N1 _=>⟨_,rfl,rfl,_,rfl,sJ (by decide+kernel) ?_⟩;exact ⟨_,rfl,_,rfl,jL kY (kg (j:=0) rfl) ⟨d,_,Fa,x,rfl,yl,w1,hx,zM⟩⟩
 | bf x hx=>
  cases oC with
  | cons w1 r=>cases r
               refine fun N1 c1=>⟨_,rfl,rfl,_,rfl,ji (by decide+kernel) (c1 _ _ ?_)⟩;refine fun N1 c1=>⟨_,rfl,rfl,_,rfl,ji (by decide+kernel) (c1 _ _ ?_)⟩;refine fun N1 _=>⟨_,rfl,rfl,_,rfl,sJ (by decide+kernel) ?_⟩;exact ⟨_,rfl,_,rfl,jL kY (kg (j:=0) rfl) ⟨d,_,Fa,x,rfl,yl,w1,hx,zM⟩⟩
 | sure x fa hx hf=>
  cases oC with
  | cons w1 r=>cases r
               refine fun N1 c1=>⟨_,rfl,rfl,_,rfl,ji (by decide+kernel) (c1 _ _ ?_)⟩;refine fun N1 c1=>⟨_,rfl,rfl,_,rfl,ji (by decide+kernel) (c1 _ _ ?_)⟩;refine fun N1 c1=>⟨_,rfl,rfl,_,rfl,ji (by decide+kernel) (c1 _ _ ?_)⟩;refine fun N1 _=>⟨_,rfl,rfl,_,rfl,sJ (by decide+kernel) ?_⟩;exact ⟨_,rfl,_,rfl,jL kY (kg (j:=0) rfl) ⟨d,_,Fa,x,fa,rfl,yl,w1,hx,hf,zM⟩⟩
 | back x y fa hx hy hf=>
  cases oC with
  | cons w1 r=>cases r with
   | cons w2 r=>cases r
                refine fun N1 c1=>⟨_,rfl,rfl,_,rfl,ji (by decide+kernel) (c1 _ _ ?_)⟩;refine fun N1 c1=>⟨_,rfl,rfl,_,rfl,ji (by decide+kernel) (c1 _ _ ?_)⟩;refine fun N1 c1=>⟨_,rfl,rfl,_,rfl,ji (by decide+kernel) (c1 _ _ ?_)⟩;refine fun N1 c1=>⟨_,rfl,rfl,_,rfl,ji (by decide+kernel) (c1 _ _ ?_)⟩;refine fun N1 _=>⟨_,rfl,rfl,_,rfl,sJ (by decide+kernel) ?_⟩;exact ⟨_,rfl,_,rfl,jL kY (kg (j:=0) rfl) ⟨_,rfl,jL kY (kg (j:=1) rfl) ⟨d,_,_,Fa,x,y,fa,rfl,yl,w1,w2,hx,hy,hf,zM⟩⟩⟩
 | ar x fa hx hf=>
  cases oC with
  | cons w1 r=>cases r
               refine fun N1 c1=>⟨_,rfl,rfl,_,rfl,ji (by decide+kernel) (c1 _ _ ?_)⟩;refine fun N1 c1=>⟨_,rfl,rfl,_,rfl,ji (by decide+kernel) (c1 _ _ ?_)⟩;refine fun N1 c1=>⟨_,rfl,rfl,_,rfl,ji (by decide+kernel) (c1 _ _ ?_)⟩;refine fun N1 c1=>⟨_,rfl,rfl,_,rfl,ji (by decide+kernel) (c1 _ _ ?_)⟩;refine fun N1 c1=>⟨_,rfl,rfl,_,rfl,ji (by decide+kernel) (c1 _ _ ?_)⟩;exact ⟨_,rfl,_,rfl,jL kY (kg (j:=0) rfl) ⟨d,_,Fa,x,fa,rfl,yl,w1,hx,hf,zM⟩⟩
end Y0
namespace L2
open PySem
theorem ng (h:¬g=f):aO f v ((g,x)::r)=(g,x)::aO f v r:=if_neg h
theorem VM:aO f v ((f,x)::r)=(f,v)::r:=if_pos rfl
end L2
namespace Y0
open PySem L2
seal L2.PE L2.PA L2.PT L2.PS L2.gp L2.PG L2.nU L2.PI L2.PO
structure oV (K:aA) (mg:Str->Option Value) (C:Addr):Prop where
 cl:rd K C
 nM:lX K C "many"
 nB:lX K C "by_end"
 nR:lX K C "rows"
 nE:lX K C "best"
 nX:lX K C "bar"
 len:mg "len"=none
 range:mg "range"=none
noncomputable def iN (n:Nat) (be rl bd:Addr) (bar:V):List (Str×V):=[("many",.int (n:Int)),("by_end",.ref be),("rows",.ref rl),("best",.ref bd),("bar",bar)]
theorem cl1:(("by_end":Str)=="many")=false:=by decide+kernel
theorem cl2:(("rows":Str)=="many")=false:=by decide+kernel
theorem cl3:(("rows":Str)=="by_end")=false:=by decide+kernel
theorem cl4:(("best":Str)=="many")=false:=by decide+kernel
theorem cl5:(("best":Str)=="by_end")=false:=by decide+kernel
theorem cl6:(("best":Str)=="rows")=false:=by decide+kernel
theorem cl7:(("bar":Str)=="many")=false:=by decide+kernel
theorem cl8:(("bar":Str)=="by_end")=false:=by decide+kernel
theorem cl9:(("bar":Str)=="rows")=false:=by decide+kernel
theorem Yc:(("bar":Str)=="best")=false:=by decide+kernel
section
variable {n:Nat} {be rl bd:Addr} {bar:V}
theorem Ms:(iN n be rl bd bar).lookup ("many":Str)=some (.int (n:Int)):=by unfold iN;rw [gm,pC]
theorem QJ:(iN n be rl bd bar).lookup ("by_end":Str)=some (.ref be):=by unfold iN;rw [gm,cl1,gm,pC]
theorem sO:(iN n be rl bd bar).lookup ("rows":Str)=some (.ref rl):=by unfold iN;rw [gm,cl2,gm,cl3,gm,pC]
theorem rz:(iN n be rl bd bar).lookup ("best":Str)=some (.ref bd):=by unfold iN;rw [gm,cl4,gm,cl5,gm,cl6,gm,pC]
theorem Cw:(iN n be rl bd bar).lookup ("bar":Str)=some bar:=by unfold iN;rw [gm,cl7,gm,cl8,gm,cl9,gm,Yc,gm,pC]
theorem nY {m:Str} (h1:(m=="many")=false:=by decide+kernel) (h2:(m=="by_end")=false:=by decide+kernel) (h3:(m=="rows")=false:=by decide+kernel) (h4:(m=="best")=false:=by decide+kernel) (h5:(m=="bar")=false:=by decide+kernel):(iN n be rl bd bar).lookup m=none:=by
 unfold iN;rw [gm,h1,gm,h2,gm,h3,gm,h4,gm,h5];rfl
theorem Zy:aO "bar" v (iN n be rl bd bar)=iN n be rl bd v:=by
 unfold iN;rw [ng (by decide+kernel),ng (by decide+kernel),ng (by decide+kernel),ng (by decide+kernel),VM]
end
noncomputable def Iy:Option Nat->V
 | none=>.aS
 | some i=>.int (i:Int)
noncomputable def lG:MU.Wd->Str
 | .told=>"told"
 | .sum=>"sum"
 | .aB=>"late"
 | .bf=>"soon"
 | .sure=>"sure"
 | .back=>"back"
 | .ar=>"cross"
noncomputable def cw (k:MU.Key):List Key:=[.inr (lW k.1),.inl (k.2.1:Int),.inl (k.2.2:Int)]
theorem OV (h:lW a=lW b):a=b:=by
 revert h
 cases a<;>cases b<;>decide+kernel
theorem Oy (h:cw k=cw k'):k=k':=by
 obtain ⟨t,a,b⟩:=k;obtain ⟨t',a',b'⟩:=k';unfold cw at h
 injection h with h1 h
 injection h with h2 h
 injection h with h3 _
 have e1:=OV (Sum.inr.inj h1);have e2:=Int.ofNat.inj (Sum.inl.inj h2);have e3:=Int.ofNat.inj (Sum.inl.inj h3);have e1:t=t':=e1;have e2:a=a':=e2;have e3:b=b':=e3;rw [e1,e2,e3]
noncomputable def pH (H:Hp) (q:Addr) (r:MU.Row):Prop:=∃pw pu,H q=some (.tup [.ref pw,.str (lG r.word),.ref pu])/\ir H pw r.cC/\H pu=some (.tup (r.used.map fun i:Nat=>V.int (i:Int)))
theorem pH.same (h:pH H q r) (s:aH H H'):pH H' q r:=by
 obtain ⟨pw,pu,h1,h2,h3⟩:=h;exact ⟨pw,pu,s _ _ h1,s _ _ h2,s _ _ h3⟩
structure fY (C:Addr) (H:Hp) (p be rl bd:Addr) (n:Nat) (F:MU.ck) (st:MU.St):Prop where
 ins:∃dx,H p=some (.ins C dx (iN n be rl bd (Iy st.bar)))
 ie:mR H be F
 rows:∃qs,H rl=some (.lst (qs.map V.ref))/\Paired (pH H) qs st.rows
 best:∃kvs,H bd=some (.dT kvs)/\(kvs.length<=st.rows.length/\∀kv∈kvs,∃k:MU.Key,kv.1=cw k)/\∀k:MU.Key,fi kvs (cw k)=(st.best k).map fun i:Nat=>V.int (i:Int)
theorem fY.same (h:fY C H p be rl bd n F st) (s:aH H H'):fY C H' p be rl bd n F st:=by
 obtain ⟨⟨dx,h1⟩,h2,⟨qs,h3,h4⟩,⟨kvs,h5,h6,h7⟩⟩:=h;exact ⟨⟨dx,s _ _ h1⟩,h2.same s,⟨qs,s _ _ h3,gM h4 fun q r e=>e.same s⟩,⟨kvs,s _ _ h5,h6,h7⟩⟩
noncomputable def dw (p rl bd:Addr) (H H':Hp):Prop:=∀b o,H b=some o->b≠p->b≠rl->b≠bd->H' b=some o
theorem dw.of (s:aH H H'):dw p rl bd H H':=fun b o e _ _ _=>s _ _ e
theorem dw.trans (a:dw p rl bd H H1) (b:dw p rl bd H1 H2):dw p rl bd H H2:=fun c o e h1 h2 h3=>b c o (a c o e h1 h2 h3) h1 h2 h3
open Classical in
noncomputable def ME (C:Addr):Sp:=fun vs H Q _=>∃p be rl bd q n F st x,vs=[.ref p,.ref q]/\fY C H p be rl bd n F st/\MU.cj n st/\ir H q x/\∀H',aH H H'->Q (.bl (decide (MU.gR st x))) H'
theorem Dc (h:Paired (pH H) qs rows) {i:Nat} (hx:(rows[i]?).map (·.cC)=some x):∃q r pw pu,qs[i]?=some q/\rows[i]?=some r/\r.cC=x/\H q=some (.tup [.ref pw,.str (lG r.word),.ref pu])/\ir H pw x/\H pu=some (.tup (r.used.map fun i:Nat=>V.int (i:Int))):=by
 cases hr:rows[i]? with
 | none=>rw [hr] at hx;cases hx
 | some r=>
  rw [hr] at hx;have hx:some r.cC=some x:=hx;cases hx;have hl:=Paired.length h;have hi:=(gQ.mp hr).1;obtain ⟨q,hq⟩:∃q,qs[i]?=some q:=⟨_,kF (by lia)⟩;obtain ⟨r',aI,⟨pw,pu,e1,e2,e3⟩⟩:=aW h hq;rw [hr] at aI;cases aI;exact ⟨q,r,pw,pu,hq,rfl,rfl,e1,e2,e3⟩
theorem IA:kI (lF x) none (some 3)=(cw x.key).map kV:=by
 unfold kI lF;rw [HT.eI,show (some (3:Int))=some ((3:Nat):Int) from rfl,HT.dN];rfl
theorem GG:¬(HT.cm (lF x).length 0 none=0/\HT.cm (lF x).length (lF x).length (some 3)=(lF x).length):=fun z=>by
 have h:=z.2;rw [show (some (3:Int))=some ((3:Nat):Int) from rfl,HT.dN] at h;have e:(lF x).length=4:=rfl;rw [e] at h;cases h
theorem Ir:cE ["self","what","key","known"] ["self","what"] (aX cf):=cV
theorem tP (F:gI K "is_news" "Closing.is_news" cf f fd) (T:oV K mg C):aq P w K mg base a9 1 f fd ["self","what"] (ME C):=by
 refine F.de Ir fun _ A _ s H _ Q E hr h=>?_;obtain ⟨p,be,rl,bd,q,n,Fa,st,x,rfl,c,g,hw,k⟩:=h;have hu:=lV hr;refine ⟨_,cx (dP (PW.pt (sL (dj gr (a8 (pv 1)) eX) (sQ (dj gr (a8 (pv 1)) (a8 (pv 1))))))
  (aE (cB (vQ uB (a8 (pv 1)) aw))) dX)
  (cx (cA 2 Ir.nd (pR CK (pv 1) pN (pO aw)))
  (cx (dP (vZ (Dw hu (pv 2) (fC (pv 0) rfl)) (by with_unfolding_all rfl)) (aE (cB zX)) dX)
  (cx (cA 3 Ir.nd (a8 (dh dS (fC (pv 0) rfl) (nc hu (fC (pv 0) rfl) (pv 2) (fun _ _=>rfl)))))
  (aE (cB (OO (dj gr (a8 (pv 1)) eX) (vQ uB (a8 (pv 1)) (a8 (pv 3))) (vQ Mm (a8 (pv 1)) (a8 (pv 3))))))))),?_⟩
 obtain ⟨dx,hp⟩:=c.ins;obtain ⟨qs,gw,cp⟩:=c.rows;obtain ⟨kvs,fQ,_,eA⟩:=c.best;have kb:∀(H':Hp) (b:Bool),aH H H'->(b=true↔MU.gR st x)->Q (.bl b) H':=fun H' b s' e=>by
  have:=k H' s';have e2:b=decide (MU.gR st x):=by
   by_cases z:MU.gR st x
   ·rw [e.mpr z];simp [z]
   ·cases b with
    | true=>exact absurd (e.mp rfl) z
    | false=>simp [z]
  rw [e2];exact this
 refine fun N1 c1=>⟨_,rfl,ay hw rfl ⟨rfl,_,rfl,?_⟩⟩;rw [Dm];have rest:¬(x.tie=true/\x.a=x.b)->N1 (L2.jb ["self","what","key","known"] [.ref p,.ref q]) H:=fun lj=>by
  refine c1 _ _ ?_;refine fun N2 c2=>⟨_,rfl,_,rfl,q,_,rfl,c_.of hw,GG,fun kt mw=>c2 _ _ ?_⟩;rw [IA];have s1:=aG (o:=.tup ((cw x.key).map kV)) mw;have e1:upd H kt (.tup ((cw x.key).map kV)) kt=some (.tup ((cw x.key).map kV)):=ai;generalize upd H kt (.tup ((cw x.key).map kV))=H1 at*;have dg:=fh.t (k:=cw x.key) (s1 _ _ fQ) e1;rw [eA] at dg;refine fun N3 c3=>⟨_,rfl,_,rfl,p,C,dx,_,_,rfl,s1 _ _ hp,T.cl,T.nE,rz,bd,_,rfl,dg,_,rfl,?_⟩;have nw:MU.gR st x↔∀u,MU.val st x.key=some u->MU.dD x.tie x.v u:=by
   unfold MU.gR;rw [if_neg lj]
  cases hb:st.best x.key with
  | none=>
   refine mJ (kb H1 true s1 ⟨fun _=>nw.mpr fun u kj=>?_,fun _=>rfl⟩);unfold MU.val at kj;rw [hb] at kj;cases kj
  | some i=>
   rw [hb] at dg;refine iq (c3 _ _ ?_);obtain ⟨u,RM,_⟩:=g.at_ _ _ hb;obtain ⟨q',r,pw,pu,g1,_,_,g4,g5,_⟩:=Dc cp RM;have iH:iI (qs.map V.ref) (i:Int)=some (.ref q'):=kg (by rw [fv,g1];rfl);refine fun N4 c4=>⟨_,rfl,p,C,dx,_,_,rfl,s1 _ _ hp,T.cl,T.nR,sO,_,rfl,p,C,dx,_,_,rfl,s1 _ _ hp,T.cl,T.nE,rz,_,rfl,bd,_,rfl,dg,?_⟩;refine ⟨rl,_,_,_,rfl,rfl,s1 _ _ gw,iH,ay (s1 _ _ g4) rfl (c4 _ _ ?_)⟩;have hv:=MU.oZ hb RM;refine ⟨_,rfl,ay (s1 _ _ hw) rfl ⟨rfl,_,rfl,?_⟩⟩;rw [Dm];have Rn:MU.gR st x↔MU.dD x.tie x.v u.v:=nw.trans ⟨fun z=>z _ hv,fun z u' kj=>by rw [hv] at kj;cases kj;exact z⟩
   cases ht:x.tie with
   | true=>
    refine mJ ⟨_,rfl,ay (s1 _ _ hw) rfl ⟨_,rfl,ay (s1 _ _ g5) rfl ⟨_,_,rfl,rfl,kb _ _ s1 ?_⟩⟩⟩;rw [Rn,ht,yg];unfold MU.dD;rw [if_pos rfl]
   | false=>
    refine iq ⟨_,rfl,ay (s1 _ _ hw) rfl ⟨_,rfl,ay (s1 _ _ g5) rfl ⟨_,_,rfl,rfl,kb _ _ s1 ?_⟩⟩⟩;rw [Rn,ht,yg];unfold MU.dD;rw [if_neg (by decide)]
 cases ht:x.tie with
 | false=>exact iq (iq (rest fun z=>by rw [ht] at z;cases z.1))
 | true=>
  refine mJ ⟨_,rfl,ay hw rfl ⟨_,rfl,ay hw rfl ⟨rfl,_,rfl,?_⟩⟩⟩;rw [sE]
  by_cases e:x.a=x.b
  ·refine ja e ⟨_,rfl,ay hw rfl ⟨_,_,rfl,rfl,kb H _ (aH.refl _) ?_⟩⟩;rw [yg];unfold MU.gR;rw [if_pos ⟨ht,e⟩]
  ·exact kJ e (rest fun z=>e z.2)
noncomputable def Hb (C:Addr):Sp:=fun vs H Q _=>∃p be rl bd q pu n F st x wd us,vs=[.ref p,.ref q,.str (lG wd),.ref pu]/\fY C H p be rl bd n F st/\MU.cj n st/\ir H q x/\H pu=some (.tup (us.map fun i:Nat=>V.int (i:Int)))/\st.rows.length<=16500000/\
 ∀H',fY C H' p be rl bd n F (MU.take st x wd us)->dw p rl bd H H'->Q .aS H'
theorem MW:decide (Iy o=V.aS)=decide (o=none):=by
 cases o with
 | none=>rfl
 | some i=>exact (fU fun z=>nomatch z).trans (fU fun z=>nomatch z).symm
theorem V' (h:MU.gR st x):MU.take st x wd us={ rows:=st.rows++[⟨x,wd,us⟩],best:=fun k=>if k=x.key then some st.rows.length else st.best k,bar:=if st.bar=none/\MU.iA x then some st.rows.length else st.bar }:=by
 unfold MU.take;rw [if_pos h]
theorem VE {kvs:List (List Key×V)} {k:List Key} {v:V} {kv:List Key×V} (h:kv∈dR kvs k v):kv.1=k\/∃qy∈kvs,kv.1=qy.1:=by
 unfold dR at h;split at h
 ·obtain ⟨qy,h0,rfl⟩:=eB.mp h;refine .inr ⟨qy,h0,?_⟩;split<;>rfl
 ·rcases i8.mp h with h | h
  ·exact .inr ⟨kv,h,rfl⟩
  ·rw [iK.mp h];exact .inl rfl
theorem Ak (h:n<=16500000):n<sizeLine:=Nat.lt_of_le_of_lt h (by decide)
theorem YD:cE ["self","what","word","used"] ["self","what","word","used"] (aX cL):=cV
theorem tH {f C fN fB:Addr} {fd pA rX:FuncData} (F:gI K "take" "Closing.take" cL f fd) (T:oV K mg C)
 (mN:jh K C "is_news" fN) (bN:eW K pA ["self","what"] []) (GN:aq P w K mg base a9 1 fN pA ["self","what"] (ME C))
 (FB:Fn K mg "bars_every_hand" bh ["what"] fB rX) (GB:aq P w K mg base a9 1 fB rX ["what"] M7):aq P w K mg base a9 2 f fd ["self","what","word","used"] (Hb C):=by
 refine F.de YD fun _ A _ s H _ Q E hr h=>?_;obtain ⟨p,be,rl,bd,q,pu,n,Fa,st,x,wd,us,rfl,c,g,hw,Bw,hlen,k⟩:=h;have hu:=lV hr;refine ⟨_,aE (dP (Ah (jF (pv 0) T.cl mN GN hr bN .nil gu (bL (pv 1))))
  (cx (CY hu (fC (pv 0) rfl) (pR CK (pv 1) pN (pO aw)) (ju w9 (by rfl) T.len uu (bL (fC (pv 0) rfl))) rfl)
  (cx (yA (dP (PW.pt (sL (dj GJ (fC (pv 0) rfl) mY) (sQ (Ah (b_ GB hr FB (bL (pv 1))))))) (aE (rA (pv 0) (ju w9 (by rfl) T.len uu (bL (fC (pv 0) rfl))) rfl)) dX))
  (aE (gK (rq sf qX se pQ (fC (pv 0) rfl) (bL (dA (iw (pv 1) (pv 2) (pv 3))))))))) dX),?_⟩
 obtain ⟨dx,hp⟩:=c.ins;refine ⟨_,rfl,p,dx,_,rfl,hp,nY,_,rfl,p,be,rl,bd,q,n,Fa,st,x,rfl,c,g,hw,fun H1 s1=>⟨_,rfl,?_⟩⟩
 by_cases hn:MU.gR st x
 ·refine sJ (by simp [hn]) ?_;have c1:=c.same s1;have qC:=s1 _ _ hw;have Kp:=s1 _ _ Bw;obtain ⟨vD,i6⟩:=c1.ins;obtain ⟨qs,gw,cp⟩:=c1.rows;obtain ⟨kvs,fQ,vq,eA⟩:=c1.best;have xy:qs.length=st.rows.length:=Paired.length cp;refine fun N2 c2=>⟨_,rfl,p,C,vD,_,_,rfl,i6,T.cl,T.nR,sO,rl,_,rfl,.inl (ax.of gw),_,rfl,p,C,vD,_,_,rfl,i6,T.cl,T.nE,rz,_,rfl,_,rfl,q,_,rfl,c_.of qC,GG,fun kt mw=>?_⟩;rw [IA,aD,xy];have s2:=aG (o:=.tup ((cw x.key).map kV)) mw;have e2:upd H1 kt (.tup ((cw x.key).map kV)) kt=some (.tup ((cw x.key).map kV)):=ai;generalize upd H1 kt (.tup ((cw x.key).map kV))=H2 at*;refine ⟨bd,_,rfl,rg.t (k:=cw x.key) (s2 _ _ fQ) e2 (Ak (by have:=vq.1;lia)),c2 _ _ ?_⟩;have k3:∀b o,H1 b=some o->b≠bd->upd H2 bd (.dT (dR kvs (cw x.key) (.int (st.rows.length:Int)))) b=some o:=fun b o e ne=>by
   rw [ao ne];exact s2 _ _ e
  have e3:upd H2 bd (.dT (dR kvs (cw x.key) (.int (st.rows.length:Int)))) bd=some (.dT (dR kvs (cw x.key) (.int (st.rows.length:Int)))):=ai;generalize upd H2 bd (.dT (dR kvs (cw x.key) (.int (st.rows.length:Int))))=H3 at*;clear c2 N2;have zb:p≠bd:=cQ i6 fQ nofun;have Rb:rl≠bd:=cQ gw fQ nofun;have wU:p≠rl:=cQ i6 gw nofun;have lh:=k3 _ _ i6 zb;have ue:=k3 _ _ gw Rb;have hw3:=k3 _ _ qC (cQ qC fQ nofun);refine fun N4 c4=>⟨fun aa H'=>aa=L2.jb ["self","what","word","used"] [.ref p,.ref q,.str (lG wd),.ref pu]/\(∃dx',H' p=some (.ins C dx' (iN n be rl bd (Iy (if st.bar=none/\MU.iA x then some st.rows.length else st.bar)))))/\∀b o,H3 b=some o->b≠p->H' b=some o,?_,?_⟩
  ·refine ⟨_,rfl,p,C,vD,_,_,rfl,lh,T.cl,T.nX,Cw,rfl,_,rfl,?_⟩;rw [MW]
   by_cases hb:st.bar=none
   ·refine ja hb ⟨_,rfl,q,x,rfl,hw3,_,rfl,?_⟩
    by_cases hB:MU.iA x
    ·refine ja hB ?_;refine ⟨_,rfl,p,C,vD,_,_,rfl,lh,T.cl,T.nR,sO,rl,_,rfl,.inl (ax.of ue),_,rfl,p,C,vD,_,rfl,lh,T.cl,T.nX,by show 5<1000;decide,rfl,⟨vD,?_⟩,fun b o e ne=>?_⟩
     ·rw [ai,Zy,if_pos ⟨hb,hB⟩,aD,xy];rfl
     ·rw [ao ne];exact e
    ·refine kJ hB ⟨rfl,⟨vD,?_⟩,fun b o e _=>e⟩;rw [if_neg fun z=>hB z.2];exact lh
   ·refine kJ hb (iq ⟨rfl,⟨vD,?_⟩,fun b o e _=>e⟩);rw [if_neg fun z=>hb z.1];exact lh
  ·rintro aa H4 ⟨rfl,⟨SM,EY⟩,k4⟩;refine c4 _ _ ?_;have xw:=k4 _ _ ue (aF wU);refine ⟨_,rfl,p,C,SM,_,_,rfl,EY,T.cl,T.nR,sO,.inl ⟨rfl,_,ax.of xw⟩,_,rfl,_,rfl,_,rfl,dc rfl,fun rt Kl=>?_⟩;have s5:=aG (o:=.tup [.ref q,.str (lG wd),.ref pu]) Kl;have e5:upd H4 rt (.tup [.ref q,.str (lG wd),.ref pu]) rt=some (.tup [.ref q,.str (lG wd),.ref pu]):=ai;generalize upd H4 rt (.tup [.ref q,.str (lG wd),.ref pu])=H5 at*;refine ⟨rl,_,_,rfl,rfl,s5 _ _ xw,by rw [aD,xy];exact Ak (by omega),?_⟩;have k6:∀b o,H5 b=some o->b≠rl->upd H5 rl (.lst (qs.map V.ref++[.ref rt])) b=some o:=fun b o e ne=>by rw [ao ne];exact e
   have e6:upd H5 rl (.lst (qs.map V.ref++[.ref rt])) rl=some (.lst ((qs++[rt]).map V.ref)):=by rw [ai,d_];rfl
   generalize upd H5 rl (.lst (qs.map V.ref++[.ref rt]))=H6 at*;have all:∀b o,H1 b=some o->b≠p->b≠rl->b≠bd->H6 b=some o:=fun b o e n1 n2 n3=>k6 _ _ (s5 _ _ (k4 _ _ (k3 _ _ e n3) n1)) n2;have tup:∀b xs,H1 b=some (.tup xs)->H6 b=some (.tup xs):=fun b xs e=>all _ _ e (cQ e i6 nofun) (cQ e gw nofun) (cQ e fQ nofun);refine k H6 ?_ fun b o e n1 n2 n3=>all _ _ (s1 _ _ e) n1 n2 n3;rw [V' hn];refine ⟨⟨SM,k6 _ _ (s5 _ _ EY) wU⟩,?_,⟨qs++[rt],e6,?_⟩,⟨_,k6 _ _ (s5 _ _ (k4 _ _ e3 (aF zb))) (aF Rb),?_,fun kk=>?_⟩⟩
   ·obtain ⟨BR,f1,f2,f3,f4⟩:=c1.ie.at_;refine ⟨BR,all _ _ f1 (cQ f1 i6 nofun) (cQ f1 gw nofun) (cQ f1 fQ nofun),f2,f3,fun e f hf=>?_⟩;obtain ⟨pp,q1,q2⟩:=f4 e f hf;exact ⟨pp,q1,tup _ _ q2⟩
   ·refine pW (gM cp fun qq r e=>?_) (.cons ?_ .nil)
    ·obtain ⟨pw,EH,r1,r2,r3⟩:=e;exact ⟨pw,EH,tup _ _ r1,tup _ _ r2,tup _ _ r3⟩
    ·exact ⟨q,pu,k6 _ _ e5 (cQ e5 (s5 _ _ xw) nofun),tup _ _ qC,tup _ _ Kp⟩
   ·refine ⟨?_,fun kv KJ=>?_⟩
    ·show (dR kvs (cw x.key) _).length<=(st.rows++[_]).length;have:=yT kvs (cw x.key) (.int (st.rows.length:Int));have:=vq.1;rw [ik];show _<=st.rows.length+1;lia
    ·rcases VE KJ with z | z
     ·exact ⟨x.key,z⟩
     ·obtain ⟨qy,h0,e0⟩:=z;obtain ⟨k0,e1⟩:=vq.2 qy h0;exact ⟨k0,e0.trans e1⟩
   ·show fi (dR kvs (cw x.key) _) (cw kk)=(if kk=x.key then some st.rows.length else st.best kk).map _;rw [Ay]
    by_cases ek:kk=x.key
    ·rw [if_pos (by rw [ek]),if_pos ek];rfl
    ·rw [if_neg fun z=>ek (Oy z),if_neg ek];exact eA kk
 ·refine ji (by simp [hn]) (k H1 ?_ (dw.of s1));rw [MU.wq hn];exact c.same s1
end Y0
namespace L2
open PySem PySem.Spec PyProof.Rows
theorem NU {js:List (Option Nat)} {g:TG} {tc:TT} {te:TE} {σ:St} {H:Hp} {D:Addr} {Q:VK} {K:aA} {a:Addr} {xs:List V} (Pv:Nat->St->Hp->Prop) (h0:Pv 0 (rB js σ) (upd H D (.lst []))) (hl:∀i aa H',i<=xs.length->Pv i aa H'->c_ K H' a xs)
 (hs:∀i x aa H',xs[i]?=some x->Pv i aa H'->g x aa H' fun ee H3=>tc ee H3 fun ok H4=>if ok=true then te ee H4 fun y H5=>∃ys,H5 D=some (.lst ys)/\ys.length<sizeLine/\Pv (i+1) ee (upd H5 D (.lst (ys++[y]))) else Pv (i+1) ee H4)
 (hd:∀aa H',Pv xs.length aa H'->Q (.ref D) H'):
 yE js g tc te σ Q (zK K a) H D:=by
 refine ⟨fun i m σ H=>m=xs.length-i/\i<=xs.length/\Pv i σ H,⟨xs.length,by simp,d9 _,h0⟩,?_⟩;rintro i m aa H' ⟨rfl,hi,p⟩
 by_cases bg:i<xs.length
 ·refine .inr ⟨⟨xs,_,hl i aa H' hi p,kF bg⟩,Pv (i+1),fun i9 H2 p'=>⟨xs.length-(i+1),by omega,rfl,bg,p'⟩,fun x H2 y=>?_⟩;obtain ⟨e,y⟩:=y;subst e;exact hs i x aa _ (y xs (hl i aa _ hi p)) p
 ·have e:i=xs.length:=by lia
  subst e;exact .inl ⟨⟨xs,hl _ aa H' hi p,az _⟩,hd aa H' p⟩
theorem uL {Y:Cx} {K:aA} {e:Expr} {f:Str} {pos:Pos} {ta:TE} (hK:Y.K=K) (he:PE Y e ta) (hb:attributeBase e f Y.env (eval e Y.env)=eval e Y.env):PE Y (.Attribute e f pos) (QA K ta f):=by
 subst hK;exact fC he hb
end L2
namespace Y0
open PySem L2
seal L2.PE L2.PA L2.PT L2.PS L2.gp L2.PG L2.nU L2.PI L2.PO
noncomputable def CL (C:Addr):Sp:=fun vs H Q _=>∃p be rl bd pu n F st wd us xs o,vs=[.ref p,.str (lG wd),.ref pu]/\fY C H p be rl bd n F st/\MU.cj n st/\H pu=some (.tup (us.map fun i:Nat=>V.int (i:Int)))/\Paired (fun i x=>MU.ah st i=some x) us xs/\oS F (lG wd) xs o/\st.rows.length<=16500000/\
 ∀H',fY C H' p be rl bd n F (MU.put st o wd us)->dw p rl bd H H'->Q .aS H'
theorem Q4:cE ["self","word","used","what"] ["self","word","used"] (aX bY):=cV
theorem Ye:iO (aX bY) ["self","word","used","what"] (lP [(".0",.local),("number",.local),("self",.free)]) ["number","self"] [none,some 0]:=lQ
theorem YT:(["number","self"]:List Str).Nodup:=by decide+kernel
theorem tU {f C fT fW:Addr} {fd p0 vC:FuncData} (F:gI K "draw" "Closing.draw" bY f fd) (T:oV K mg C)
 (mT:jh K C "take" fT) (bT:eW K p0 ["self","what","word","used"] []) (GT:aq P w K mg base a9 2 fT p0 ["self","what","word","used"] (Hb C))
 (FW:Fn K mg "what_follows" br ["falls","word","used"] fW vC) (GW:aq P w K mg base a9 2 fW vC ["falls","word","used"] P8):aq P w K mg base a9 3 f fd ["self","word","used"] (CL C):=by
 refine F.de Q4 fun _ A _ s H _ Q E hr h=>?_;obtain ⟨p,be,rl,bd,pu,n,Fa,st,wd,us,xs,o,rfl,c,g,Bw,RL,ask,hlen,k⟩:=h;refine ⟨_,cx (cA 3 Q4.nd (b_ GW hr FW (iw (fC (pv 0) rfl) (pv 1) (oY rfl (GV (pv 2)) Ye (fun cl ex s0 H0=>⟨bR 0 YT,pT,a8 (dh dS (uL (K:=K) rfl (pv 1) rfl) (pv 0))⟩)))))
  (aE (dP (dj Ng (pv 3) mY) (aE (gK (jF (pv 0) T.cl mT GT hr bT .nil gu (iw (pv 3) (pv 1) (pv 2))))) dX)),?_⟩
 obtain ⟨dx,hp⟩:=c.ins;obtain ⟨qs,gw,cp⟩:=c.rows;obtain ⟨_,xr⟩:=ask.kinds;have zf:us.length=xs.length:=Paired.length RL;refine fun N1 c1=>⟨_,rfl,p,C,dx,_,_,rfl,hp,T.cl,T.nB,QJ,_,rfl,_,rfl,pu,rfl,⟨_,c_.of Bw⟩,fun Da cI=>?_⟩;refine NU (xs:=us.map fun i:Nat=>V.int (i:Int)) (fun j aa H'=>∃v ps,aa=[v,some (.ref p)]/\H' Da=some (.lst (ps.map V.ref))/\Paired (ir H') ps (xs.take j)/\aH H H') ⟨none,[],rfl,ai,.nil,aG cI⟩ ?_ ?_ ?_
 ·rintro j aa H2 _ ⟨v,ps,rfl,_,_,s2⟩;exact c_.of (s2 _ _ Bw)
 ·rintro j x aa H2 hx ⟨v,ps,rfl,e2,jd,s2⟩;rw [fv] at hx
  cases q:us[j]? with
  | none=>rw [q] at hx;cases hx
  | some i=>
   rw [q] at hx;cases hx;obtain ⟨y,rP,hy⟩:=aW RL q;obtain ⟨q',r,pw,EH,g1,_,_,g4,g5,_⟩:=Dc cp hy;have iH:iI (qs.map V.ref) (i:Int)=some (.ref q'):=kg (by rw [fv,g1];rfl);have hj:j<xs.length:=(gQ.mp rP).1;have fe:ps.length=min j xs.length:=by rw [Paired.length jd,ig]
   refine ⟨_,rfl,p,C,dx,_,_,rfl,s2 _ _ hp,T.cl,T.nR,sO,oR rfl (s2 _ _ gw) iH (ay (s2 _ _ g4) rfl ⟨_,e2,?_,_,ps++[pw],rfl,?_,?_,fun b o e=>?_⟩)⟩
   ·rw [aD,fe];exact gL (by lia)
   ·rw [ai,d_];rfl
   ·have et:xs.take (j+1)=xs.take j++[y]:=by rw [l9,rP];rfl
    rw [et];have keep:∀b x,ir H2 b x->ir (upd H2 Da (.lst (ps.map V.ref++[.ref pw]))) b x:=fun b x e=>by
     unfold ir;rw [ao (cQ e e2 nofun)];exact e
    exact pW (gM jd fun b x e=>keep b x e) (.cons (keep _ _ (s2 _ _ g5)) .nil)
   ·rw [ao (aQ e cI)];exact s2 _ _ e
 rintro aa H2 ⟨v,ps,rfl,e2,jd,s2⟩;have bJ:xs.take (us.map fun i:Nat=>V.int (i:Int)).length=xs:=by rw [aD,zf];exact j8
 rw [bJ] at jd;have c2:=c.same s2;refine ⟨be,_,Da,ps,Fa,xs,o,rfl,c2.ie,⟨e2,jd⟩,.inl ask,fun ho H3 s3=>c1 _ _ ?_,fun x ho r H3 _ s3 hw=>c1 _ _ ?_⟩
 ·refine ⟨_,rfl,rfl,_,rfl,ji rfl ?_⟩;refine k H3 ?_ (dw.of (s2.trans s3));rw [ho];exact c2.same s3
 ·refine ⟨_,rfl,rfl,_,rfl,sJ rfl ?_⟩;have c3:=c2.same s3;have kT:=s2.trans s3;refine ⟨_,rfl,p,dx,_,rfl,kT _ _ hp,nY,_,rfl,_,rfl,_,rfl,p,be,rl,bd,r,pu,n,Fa,st,x,wd,us,rfl,c3,g,hw,kT _ _ Bw,hlen,fun H4 c4 k4=>?_⟩;refine k H4 ?_ ((dw.of kT).trans k4);rw [ho];exact c4
noncomputable def fj (l:List Nat):List V:=l.map fun i:Nat=>V.int (i:Int)
noncomputable def Ny (C:Addr):Sp:=fun vs H Q _=>∃(p be rl bd:Addr) (n:Nat) (F:MU.ck) (st:MU.St) (t:Bool) (a:Nat),vs=[.ref p,.str (lW t),.int (a:Int)]/\fY C H p be rl bd n F st/\n<=8/\∀l H',H l=none->aH H H'->H' l=some (.lst (fj (MU.cJ n st t a)))->Q (.ref l) H'
noncomputable def Iw (C:Addr):Sp:=fun vs H Q _=>∃(p be rl bd:Addr) (n:Nat) (F:MU.ck) (st:MU.St) (b:Nat),vs=[.ref p,.int (b:Int)]/\fY C H p be rl bd n F st/\n<=8/\∀l H',H l=none->aH H H'->H' l=some (.lst (fj (MU.dr n st b)))->Q (.ref l) H'
theorem DR:(List.range (n+1)).filterMap f=(List.range n).filterMap f++(f n).toList:=by
 rw [List.range_succ,List.filterMap_append]
 cases h:f n with
 | none=>simp [h]
 | some x=>simp [h]
theorem Y9:cE ["self","kind","a"] ["self","kind","a"] (aX aY):=cV
theorem Yh:iO (aX aY) ["self","kind","a"] (lP [(".0",.local),("b",.local),("a",.free),("kind",.free),("self",.free)]) ["b","a","kind","self"] [none,some 2,some 1,some 0]:=lQ
theorem YW:(["b","a","kind","self"]:List Str).Nodup:=by decide+kernel
theorem qk {f C:Addr} {fd:FuncData} (F:gI K "known_of" "Closing.known_of" aY f fd) (T:oV K mg C):aq P w K mg base a9 1 f fd ["self","kind","a"] (Ny C):=by
 refine F.de Y9 fun _ A _ s H _ Q E hr h=>?_;obtain ⟨p,be,rl,bd,n,Fa,st,t,a,rfl,c,h8,k⟩:=h;have hu:=lV hr;refine ⟨_,aE (cB (oY rfl (sW rfl T.range (bL (fC (pv 0) rfl))) Yh (fun cl ex s0 H0=>⟨bR 0 YW,Ao (vZ (GU hu (dA (iw (pv 2) (pv 1) (pv 0))) (uL (K:=K) rfl (pv 3) rfl)) (by with_unfolding_all rfl)),nc hu (uL (K:=K) rfl (pv 3) rfl) (dA (iw (pv 2) (pv 1) (pv 0))) (fun _ _=>rfl)⟩))),?_⟩;obtain ⟨dx,hp⟩:=c.ins;obtain ⟨kvs,fQ,_,eA⟩:=c.best;refine ⟨_,rfl,p,C,dx,_,_,rfl,hp,T.cl,T.nM,Ms,_,rfl,by exact Int.NonNeg.mk (n+Nat.succ 4611686018427387903),by lia,fun Da cI=>?_⟩;refine AD (n:=((n:Int)).toNat) (fun i aa H'=>∃v,aa=[v,some (.int (a:Int)),some (.str (lW t)),some (.ref p)]/\H' Da=some (.lst (fj ((List.range i).filterMap fun b=>st.best (t,a,b))))/\aH H H') ⟨none,rfl,ai,aG cI⟩ ?_ ?_
 ·rintro i aa H2 hi ⟨v,rfl,e2,s2⟩;have gx:i<n:=by exact hi
  have ei:((0:Int)+(i:Int))=(i:Int):=by lia
  refine ⟨_,rfl,_,rfl,_,rfl,dc rfl,fun kt mw=>?_⟩;rw [ei];have s3:=aG (o:=.tup ((cw (t,a,i)).map kV)) mw;have e3:upd H2 kt (.tup ((cw (t,a,i)).map kV)) kt=some (.tup ((cw (t,a,i)).map kV)):=ai;have ek:(HO.tup [V.str (lW t),V.int (a:Int),V.int (i:Int)])=.tup ((cw (t,a,i)).map kV):=rfl;rw [ek];generalize upd H2 kt (.tup ((cw (t,a,i)).map kV))=H3 at*;have kT:=s2.trans s3;have dg:=fh.t (k:=cw (t,a,i)) (kT _ _ fQ) e3;rw [eA] at dg;refine ⟨_,rfl,p,C,dx,_,_,rfl,kT _ _ hp,T.cl,T.nE,rz,bd,_,rfl,dg,_,rfl,?_⟩;have fl:((List.range i).filterMap fun b=>st.best (t,a,b)).length<=i:=by
   have:=List.length_filterMap_le (fun b=>st.best (t,a,b)) (List.range i);rw [List.length_range] at this;exact this
  cases hb:st.best (t,a,i) with
  | none=>
   refine iq ⟨_,rfl,?_,kT⟩;rw [DR,hb];show H3 Da=some (.lst (fj (_++[])));rw [List.append_nil];exact s3 _ _ e2
  | some j=>
   rw [hb] at dg;refine mJ ?_;refine ⟨_,rfl,p,C,dx,_,_,rfl,kT _ _ hp,T.cl,T.nE,rz,_,rfl,_,rfl,_,rfl,dc rfl,fun xn xJ=>?_⟩;have s4:=aG (o:=.tup ((cw (t,a,i)).map kV)) xJ;have e4:upd H3 xn (.tup ((cw (t,a,i)).map kV)) xn=some (.tup ((cw (t,a,i)).map kV)):=ai;rw [ek];generalize upd H3 xn (.tup ((cw (t,a,i)).map kV))=H4 at*;have AS:=kT.trans s4;have BZ:=fh.t (k:=cw (t,a,i)) (AS _ _ fQ) e4;rw [eA,hb] at BZ;refine ⟨bd,_,rfl,BZ,_,s4 _ _ (s3 _ _ e2),?_,_,rfl,?_,fun b o e=>?_⟩
   ·unfold fj;rw [aD];exact gL (by lia)
   ·rw [ai,DR,hb];unfold fj;rw [d_];rfl
   ·rw [ao (aQ e cI)];exact AS _ _ e
 ·rintro aa H2 ⟨v,rfl,e2,s2⟩;exact k Da H2 cI s2 e2
theorem YF:cE ["self","b"] ["self","b"] (aX bj):=cV
theorem Yk:iO (aX bj) ["self","b"] (lP [(".0",.local),("a",.local),("b",.free),("self",.free)]) ["a","b","self"] [none,some 1,some 0]:=lQ
theorem Yx:(["a","b","self"]:List Str).Nodup:=by decide+kernel
theorem o4 {f C:Addr} {fd:FuncData} (F:gI K "ties_to" "Closing.ties_to" bj f fd) (T:oV K mg C):aq P w K mg base a9 1 f fd ["self","b"] (Iw C):=by
 refine F.de YF fun _ A _ s H _ Q E hr h=>?_;obtain ⟨p,be,rl,bd,n,Fa,st,b0,rfl,c,h8,k⟩:=h;have hu:=lV hr;refine ⟨_,aE (cB (oY rfl (sW rfl T.range (bL (fC (pv 0) rfl))) Yk (fun cl ex s0 H0=>⟨bR 0 Yx,Ao (vZ (GU hu (dA (iw eX (pv 0) (pv 1))) (uL (K:=K) rfl (pv 2) rfl)) (by with_unfolding_all rfl)),nc hu (uL (K:=K) rfl (pv 2) rfl) (dA (iw eX (pv 0) (pv 1))) (fun _ _=>rfl)⟩))),?_⟩;obtain ⟨dx,hp⟩:=c.ins;obtain ⟨kvs,fQ,_,eA⟩:=c.best;refine ⟨_,rfl,p,C,dx,_,_,rfl,hp,T.cl,T.nM,Ms,_,rfl,by exact Int.NonNeg.mk (n+Nat.succ 4611686018427387903),by lia,fun Da cI=>?_⟩;refine AD (n:=((n:Int)).toNat) (fun i aa H'=>∃v,aa=[v,some (.int (b0:Int)),some (.ref p)]/\H' Da=some (.lst (fj ((List.range i).filterMap fun a=>st.best (true,a,b0))))/\aH H H') ⟨none,rfl,ai,aG cI⟩ ?_ ?_
 ·rintro i aa H2 hi ⟨v,rfl,e2,s2⟩;have gx:i<n:=by exact hi
  have ei:((0:Int)+(i:Int))=(i:Int):=by lia
  refine ⟨_,rfl,_,rfl,dc rfl,fun kt mw=>?_⟩;rw [ei];have s3:=aG (o:=.tup ((cw (true,i,b0)).map kV)) mw;have e3:upd H2 kt (.tup ((cw (true,i,b0)).map kV)) kt=some (.tup ((cw (true,i,b0)).map kV)):=ai;have ek:(HO.tup [V.str "tie",V.int (i:Int),V.int (b0:Int)])=.tup ((cw (true,i,b0)).map kV):=rfl;rw [ek];generalize upd H2 kt (.tup ((cw (true,i,b0)).map kV))=H3 at*;have kT:=s2.trans s3;have dg:=fh.t (k:=cw (true,i,b0)) (kT _ _ fQ) e3;rw [eA] at dg;refine ⟨_,rfl,p,C,dx,_,_,rfl,kT _ _ hp,T.cl,T.nE,rz,bd,_,rfl,dg,_,rfl,?_⟩;have fl:((List.range i).filterMap fun a=>st.best (true,a,b0)).length<=i:=by
   have:=List.length_filterMap_le (fun a=>st.best (true,a,b0)) (List.range i);rw [List.length_range] at this;exact this
  cases hb:st.best (true,i,b0) with
  | none=>
   refine iq ⟨_,rfl,?_,kT⟩;rw [DR,hb];show H3 Da=some (.lst (fj (_++[])));rw [List.append_nil];exact s3 _ _ e2
  | some j=>
   rw [hb] at dg;refine mJ ?_;refine ⟨_,rfl,p,C,dx,_,_,rfl,kT _ _ hp,T.cl,T.nE,rz,_,rfl,_,rfl,dc rfl,fun xn xJ=>?_⟩;have s4:=aG (o:=.tup ((cw (true,i,b0)).map kV)) xJ;have e4:upd H3 xn (.tup ((cw (true,i,b0)).map kV)) xn=some (.tup ((cw (true,i,b0)).map kV)):=ai;rw [ek];generalize upd H3 xn (.tup ((cw (true,i,b0)).map kV))=H4 at*;have AS:=kT.trans s4;have BZ:=fh.t (k:=cw (true,i,b0)) (AS _ _ fQ) e4;rw [eA,hb] at BZ;refine ⟨bd,_,rfl,BZ,_,s4 _ _ (s3 _ _ e2),?_,_,rfl,?_,fun b o e=>?_⟩
   ·unfold fj;rw [aD];exact gL (by lia)
   ·rw [ai,DR,hb];unfold fj;rw [d_];rfl
   ·rw [ao (aQ e cI)];exact AS _ _ e
 ·rintro aa H2 ⟨v,rfl,e2,s2⟩;exact k Da H2 cI s2 e2
end Y0
namespace MU
noncomputable def Z5 (F:ck) (st:St):Prop:=∀i w,ah st i=some w->w.tie=false->∃f,F w.b=some f
structure jg (n:Nat) (F:ck) (st:St):Prop where
 good:cj n st
 ends:Z5 F st
noncomputable def vJ (n:Nat) (F:ck) (w:aj):Prop:=sk n w/\(w.tie=false->∃f,F w.b=some f)
variable {n:Nat} {F:ck} {most:Int} {st:St}
theorem jg.put (h:jg n F st) (ho:∀w,o=some w->vJ n F w):jg n F (put st o wd us):=by
 refine ⟨HB h.good fun w e=>(ho w e).1,fun i w hw ht=>?_⟩
 by_cases hi:i<st.rows.length
 ·exact h.ends i w (rL (rH _ _ _ _) hi hw) ht
 ·exact (rG (C:=fun w=>w.tie=false->∃f,F w.b=some f) (fun w e=>(ho w e).2) i w (by exact mE hi) hw) ht
theorem MP {p q w:aj} (h1:p.a<n) (h2:q.b<n) (h:a7 p q=some w):vJ n F w:=by
 unfold a7 at h;split at h
 ·cases h;exact ⟨⟨h1,h2,fun z=>nomatch z⟩,fun z=>nomatch z⟩
 ·cases h
theorem Vg {p w:aj} (h1:p.a<n) (h2:p.b<n) (h:cS F p=some w):vJ n F w:=by
 refine ⟨Au p w h1 h2 h,fun _=>?_⟩;unfold cS at h;split at h
 ·cases q:F p.b with
  | none=>rw [q] at h;cases h
  | some f=>rw [q] at h;cases h;exact ⟨f,q⟩
 ·cases h
theorem U' (hF:g_ n F most) {p w:aj} (h1:p.a<n) (h2:p.b<n) (h:da F p=some w):vJ n F w:=by
 refine ⟨Aw hF p w h1 h2 h,fun ht=>?_⟩;unfold da at h;split at h
 ·cases q:F p.a with
  | none=>rw [q] at h;cases h
  | some f=>rw [q] at h;cases h;cases ht
 ·cases h
theorem Va (hF:g_ n F most) {p w:aj} (h1:p.a<n) (h2:p.b<n) (h:di F p=some w):vJ n F w:=by
 refine ⟨Dr hF p w h1 h2 h,fun ht=>?_⟩;unfold di at h;split at h
 ·cases q:F p.b with
  | none=>rw [q] at h;cases h
  | some f=>rw [q] at h;cases h;cases ht
 ·cases h
theorem MV {p q w:aj} (h1:p.a<n) (h2:p.b<n) (h3:q.a<n) (h4:q.b<n) (h:a_ F p q=some w):vJ n F w:=by
 refine ⟨Hw p q w h1 h2 h3 h4 h,fun _=>?_⟩;unfold a_ at h;split at h
 ·cases e:F p.b with
  | none=>rw [e] at h;cases h
  | some f=>rw [e] at h;cases h;exact ⟨f,e⟩
 ·cases h
theorem V3 (hF:g_ n F most) {p w:aj} (h1:p.a<n) (h2:p.b<n) (h:cR F p=some w):vJ n F w:=by
 refine ⟨Dz hF p w h1 h2 h,fun _=>?_⟩;unfold cR at h;split at h
 ·cases e:F p.a with
  | none=>rw [e] at h;cases h
  | some o=>
   rw [e] at h;have h:(F p.b).map (fun f=>(⟨false,o.1,p.b,min p.v f.2.2-o.2.1⟩:aj))=some w:=h
   cases e2:F p.b with
   | none=>rw [e2] at h;cases h
   | some f=>rw [e2] at h;cases h;exact ⟨f,e2⟩
 ·cases h
theorem Cy (h:ah st i=some x):aK f wd i st=put st (f x) wd [i]:=by
 unfold aK;rw [h];rfl
theorem C0 (h:ah st i=some x) (h':ah st j=some y):ak f wd i j st=put st (f x y) wd [i,j]:=by
 unfold ak;rw [h];show put st ((ah st j).bind fun q=>f x q) wd [i,j]=_;rw [h'];rfl
theorem DD {l:List Nat} {i j:Nat} (h:l[i]?=some j):(l.take (i+1)).foldl f st=f ((l.take i).foldl f st) j:=by
 rw [l9,h,List.foldl_append];rfl
end MU
namespace Y0
open PySem L2
seal L2.PE L2.PA L2.PT L2.PS L2.gp L2.PG L2.nU L2.PI L2.PO
section
variable {C p be rl bd:Addr} {n:Nat} {F:MU.ck} {st:MU.St} {σ:L2.St} {H:Hp} {Q:VK} {E:XK}
theorem DZ {at_:Nat} {i:Nat} (h1:σ[i]?=some (some (.int (at_:Int)))) (k:∀t,H t=none->R [.ref t] (upd H t (.tup ([at_].map fun i:Nat=>V.int (i:Int))))):j_ (IB (j_ (rf i) pG)) pG σ H R:=
 ⟨_,h1,dc rfl,fun t ht=>k t ht⟩
theorem D_ {a b:Nat} {i j:Nat} (h1:σ[i]?=some (some (.int (a:Int)))) (h2:σ[j]?=some (some (.int (b:Int)))) (k:∀t,H t=none->R [.ref t] (upd H t (.tup ([a,b].map fun i:Nat=>V.int (i:Int))))):j_ (IB (j_ (rf i) (j_ (rf j) pG))) pG σ H R:=
 ⟨_,h1,_,h2,dc rfl,fun t ht=>k t ht⟩
theorem uM (hw:word=lG wd) (h0:σ[0]?=some (some (.ref p))) (c:fY C H p be rl bd n F st) (g:MU.cj n st)
 (hu:∀R:List V->Hp->Prop,(∀t,H t=none->R [.ref t] (upd H t (.tup (us.map fun i:Nat=>V.int (i:Int)))))->tu σ H R) (hx:Paired (fun i x=>MU.ah st i=some x) us xs) (ask:oS F (lG wd) xs o) (hlen:st.rows.length<=16500000)
 (k:∀H',fY C H' p be rl bd n F (MU.put st o wd us)->dw p rl bd H H'->Q .aS H'):FV C "draw" (CL C) [] E (rf 0) (j_ (tC (.str word)) tu) σ H Q:=by
 subst hw;obtain ⟨dx,hp⟩:=c.ins;refine ⟨_,h0,p,dx,_,rfl,hp,nY,?_⟩;refine hu _ fun t ht=>?_;have s1:=aG (o:=.tup (us.map fun i:Nat=>V.int (i:Int))) ht;exact ⟨p,be,rl,bd,t,n,F,st,wd,us,xs,o,rfl,c.same s1,g,ai,hx,ask,hlen,fun H' c' k'=>k H' c' ((dw.of s1).trans k')⟩
end
theorem fY.apart (c:fY C H p be rl bd n F st) (h:H la=none):la≠p/\la≠rl/\la≠bd:=by
 obtain ⟨dx,hp⟩:=c.ins;obtain ⟨qs,gw,_⟩:=c.rows;obtain ⟨kvs,fQ,_⟩:=c.best;exact ⟨aF (aQ hp h),aF (aQ gw h),aF (aQ fQ h)⟩
noncomputable def P9 (C:Addr):Sp:=fun vs H Q _=>∃(p be rl bd:Addr) (n:Nat) (F:MU.ck) (st:MU.St) (at_:Nat) (x:MU.aj),vs=[.ref p,.int (at_:Int),.int (x.a:Int),.int (x.b:Int)]/\fY C H p be rl bd n F st/\MU.jg n F st/\MU.g_ n F ((60:Nat):Int)/\MU.ah st at_=some x/\x.tie=true/\n<=8/\st.rows.length<=16000000/\
 ∀H',fY C H' p be rl bd n F (MU.dW n F at_ x.a x.b st)->MU.jg n F (MU.dW n F at_ x.a x.b st)->dw p rl bd H H'->Q .aS H'
noncomputable def PN (C:Addr):Sp:=fun vs H Q _=>∃(p be rl bd:Addr) (n:Nat) (F:MU.ck) (st:MU.St) (at_:Nat) (x:MU.aj),vs=[.ref p,.int (at_:Int),.int (x.a:Int)]/\fY C H p be rl bd n F st/\MU.jg n F st/\MU.g_ n F ((60:Nat):Int)/\MU.ah st at_=some x/\x.tie=false/\n<=8/\st.rows.length<=16000000/\
 ∀H',fY C H' p be rl bd n F (MU.fm n F at_ x.a st)->MU.jg n F (MU.fm n F at_ x.a st)->dw p rl bd H H'->Q .aS H'
noncomputable abbrev nFt:List Str:=["self","at","a","b","number"]
theorem DX:cE nFt ["self","at","a","b"] (aX aV):=cV
noncomputable abbrev nFw:List Str:=["self","at","a","number"]
theorem Q5:cE nFw ["self","at","a"] (aX aR):=cV
theorem kU (F:gI K "draw_from_wait" "Closing.draw_from_wait" aR f fd) (T:oV K mg C)
 (mD:jh K C "draw" fD) (bD:eW K LA ["self","word","used"] []) (GD:aq P w K mg base a9 3 fD LA ["self","word","used"] (CL C))
 (mZ:jh K C "ties_to" fZ) (bZ:eW K L4 ["self","b"] []) (GZ:aq P w K mg base a9 1 fZ L4 ["self","b"] (Iw C)):aq P w K mg base a9 4 f fd ["self","at","a"] (PN C):=by
 refine F.de Q5 fun _ A _ s H _ Q E hr h=>?_;obtain ⟨p,be,rl,bd,n,Fa,st,at_,x,rfl,c,S,hF,hx,ht,h8,hlen,k⟩:=h;have fH:cU 1 _:=hr.mono (by decide);refine ⟨_,cx (gK (jF (pv 0) T.cl mD GD hr bD .nil gu (bu eX (dA (bL (pv 1))))))
  (cx (gK (jF (pv 0) T.cl mD GD hr bD .nil gu (bu eX (dA (bL (pv 1))))))
  (aE (jt PassesOwn.never rfl (jm (jF (pv 0) T.cl mZ GZ fH bZ .nil gu (bL (pv 2)))) (bR 3 Q5.nd)
   (aE (gK (jF (pv 0) T.cl mD GD hr bD .nil gu (bu eX (dA (bu (pv 1) (pv 3)))))))))),?_⟩
 obtain ⟨xa,xb⟩:=S.good.lt _ _ hx;obtain ⟨fa,zy⟩:=S.ends _ _ hx ht;have d1:MU.aK (MU.di Fa) .sure at_ st=MU.put st (MU.di Fa x) .sure [at_]:=MU.Cy hx;have S1:MU.jg n Fa (MU.put st (MU.di Fa x) .sure [at_]):=S.put fun w e=>MU.Va hF xa xb e;have uc:MU.ah (MU.put st (MU.di Fa x) .sure [at_]) at_=some x:=MU.bV (MU.rH _ _ _ _) hx;have l1:=MU.gS st (MU.di Fa x) .sure [at_];have goal:MU.fm n Fa at_ x.a st=(MU.dr n (MU.aK (MU.cR Fa) .ar at_ (MU.aK (MU.di Fa) .sure at_ st)) x.a).foldl (fun st j=>MU.ak (MU.a_ Fa) .back at_ j st) (MU.aK (MU.cR Fa) .ar at_ (MU.aK (MU.di Fa) .sure at_ st)):=rfl;rw [d1] at goal;refine fun N1 c1=>uM (wd:=.sure) rfl rfl c S.good (fun R z=>DZ rfl z) (.cons hx .nil) (.sure x fa ht zy) (by lia) fun H1 C1 k1=>c1 _ _ ?_;generalize MU.put st (MU.di Fa x) .sure [at_]=gv at*;clear c1 N1;have d2:MU.aK (MU.cR Fa) .ar at_ gv=MU.put gv (MU.cR Fa x) .ar [at_]:=MU.Cy uc;have S2:MU.jg n Fa (MU.put gv (MU.cR Fa x) .ar [at_]):=S1.put fun w e=>MU.V3 hF xa xb e;have xr:MU.ah (MU.put gv (MU.cR Fa x) .ar [at_]) at_=some x:=MU.bV (MU.rH _ _ _ _) uc;have l2:=MU.gS gv (MU.cR Fa x) .ar [at_];rw [d2] at goal;refine fun N2 c2=>uM (wd:=.ar) rfl rfl C1 S1.good (fun R z=>DZ rfl z) (.cons uc .nil) (.ar x fa ht zy) (by lia) fun H2 C2 k2=>c2 _ _ ?_;generalize MU.put gv (MU.cR Fa x) .ar [at_]=aT at*;clear c2 N2;have k02:=k1.trans k2;obtain ⟨dx,hp⟩:=C2.ins;refine ⟨_,rfl,p,dx,_,rfl,hp,nY,_,rfl,p,be,rl,bd,n,Fa,aT,x.a,rfl,C2,h8,fun la H3 qH s3 e3=>?_⟩;obtain ⟨n1,n2,n3⟩:=C2.apart qH;have C3:=C2.same s3;refine ⟨la,rfl,⟨_,ax.of e3⟩,?_⟩;have dY:∀j∈MU.dr n aT x.a,∃y,MU.ah aT j=some y/\y.tie=true/\y.a<n/\y.b<n:=fun j hj=>by
  obtain ⟨cc,_,hb⟩:=MU.DK hj;obtain ⟨y,hy,hk⟩:=S2.good.at_ _ _ hb;obtain ⟨q1,_⟩:=MU.iD hk;exact ⟨y,hy,q1,S2.good.lt _ _ hy⟩
 have tl:=MU.DJ (n:=n) (st:=aT) (b:=x.a);generalize MU.dr n aT x.a=L at*;refine og (K:=K) (a:=la) (xs:=fj L) (fun i aa H'=>∃v,aa=[some (.ref p),some (.int (at_:Int)),some (.int (x.a:Int)),v]/\fY C H' p be rl bd n Fa ((L.take i).foldl (fun st j=>MU.ak (MU.a_ Fa) .back at_ j st) aT)/\MU.jg n Fa ((L.take i).foldl (fun st j=>MU.ak (MU.a_ Fa) .back at_ j st) aT)/\MU.Ext aT ((L.take i).foldl (fun st j=>MU.ak (MU.a_ Fa) .back at_ j st) aT)/\dw p rl bd H3 H') ⟨none,rfl,C3,S2,MU.Ext.refl _,dw.of (aH.refl _)⟩ ?_ ?_ ?_
 ·rintro i aa H4 _ ⟨v,rfl,_,_,_,k4⟩;exact ax.of (k4 _ _ e3 n1 n2 n3)
 ·rintro i y aa H4 hy ⟨v,rfl,C4,S4,x4,k4⟩;unfold fj at hy;rw [fv] at hy
  cases q:L[i]? with
  | none=>rw [q] at hy;cases hy
  | some j=>
   rw [q] at hy;cases hy;obtain ⟨y,rP,yt,ya,yb⟩:=dY j (gn q);have fl:=MU.pP (f:=fun st j=>MU.ak (MU.a_ Fa) .back at_ j st) (fun _ _=>MU.gS _ _ _ _) (L.take i) aT;rw [ig] at fl;rw [MU.DD q];have qB:=MU.bV x4 xr;have pe:=MU.bV x4 rP;have e4:MU.ak (MU.a_ Fa) .back at_ j ((L.take i).foldl (fun st j=>MU.ak (MU.a_ Fa) .back at_ j st) aT)=MU.put ((L.take i).foldl (fun st j=>MU.ak (MU.a_ Fa) .back at_ j st) aT) (MU.a_ Fa x y) .back [at_,j]:=MU.C0 qB pe;rw [e4];generalize (L.take i).foldl (fun st j=>MU.ak (MU.a_ Fa) .back at_ j st) aT=cy at*;refine uM (wd:=.back) rfl rfl C4 S4.good (fun R z=>D_ rfl rfl z) (.cons qB (.cons pe .nil)) (.back x y fa ht yt zy) (by lia) fun H5 C5 k5=>⟨_,rfl,C5,S4.put fun w e=>MU.MV xa xb ya yb e,x4.trans (MU.rH _ _ _ _),k4.trans k5⟩
 ·rintro aa H4 ⟨v,rfl,C4,S4,x4,k4⟩;have bJ:L.take (fj L).length=L:=by unfold fj;rw [aD];exact j8
  rw [bJ,<-goal] at C4 S4;exact k H4 C4 S4 ((k02.trans (dw.of s3)).trans k4)
theorem mi (F:gI K "draw_from_tie" "Closing.draw_from_tie" aV f fd) (T:oV K mg C)
 (mD:jh K C "draw" fD) (bD:eW K LA ["self","word","used"] []) (GD:aq P w K mg base a9 3 fD LA ["self","word","used"] (CL C))
 (mZ:jh K C "ties_to" fZ) (bZ:eW K L4 ["self","b"] []) (GZ:aq P w K mg base a9 1 fZ L4 ["self","b"] (Iw C))
 (mK:jh K C "known_of" fK) (bK:eW K L8 ["self","kind","a"] []) (GK:aq P w K mg base a9 1 fK L8 ["self","kind","a"] (Ny C)):aq P w K mg base a9 4 f fd ["self","at","a","b"] (P9 C):=by
 refine F.de DX fun _ A _ s H _ Q E hr h=>?_;obtain ⟨p,be,rl,bd,n,Fa,st,at_,x,rfl,c,S,hF,hx,ht,h8,hlen,k⟩:=h;have fH:cU 1 _:=hr.mono (by decide);refine ⟨_,cx (gK (jF (pv 0) T.cl mD GD hr bD .nil gu (bu eX (dA (bL (pv 1))))))
  (cx (gK (jF (pv 0) T.cl mD GD hr bD .nil gu (bu eX (dA (bL (pv 1))))))
  (cx (jt PassesOwn.never rfl (jm (jF (pv 0) T.cl mK GK fH bK .nil gu (bu eX (pv 3)))) (bR 4 DX.nd)
   (aE (gK (jF (pv 0) T.cl mD GD hr bD .nil gu (bu eX (dA (bu (pv 1) (pv 4))))))))
  (cx (jt PassesOwn.never rfl (jm (jF (pv 0) T.cl mZ GZ fH bZ .nil gu (bL (pv 2)))) (bR 4 DX.nd)
   (aE (gK (jF (pv 0) T.cl mD GD hr bD .nil gu (bu eX (dA (bu (pv 4) (pv 1))))))))
  (aE (jt PassesOwn.never rfl (jm (jF (pv 0) T.cl mK GK fH bK .nil gu (bu eX (pv 3)))) (bR 4 DX.nd)
   (aE (gK (jF (pv 0) T.cl mD GD hr bD .nil gu (bu eX (dA (bu (pv 4) (pv 1)))))))))))),?_⟩
 obtain ⟨xa,xb⟩:=S.good.lt _ _ hx;have d1:MU.aK (MU.cS Fa) .aB at_ st=MU.put st (MU.cS Fa x) .aB [at_]:=MU.Cy hx;have S1:MU.jg n Fa (MU.put st (MU.cS Fa x) .aB [at_]):=S.put fun w e=>MU.Vg xa xb e;have uc:MU.ah (MU.put st (MU.cS Fa x) .aB [at_]) at_=some x:=MU.bV (MU.rH _ _ _ _) hx;have l1:=MU.gS st (MU.cS Fa x) .aB [at_];generalize lr:MU.dW n Fa at_ x.a x.b st=fin at*;unfold MU.dW at lr;dsimp only at lr;rw [d1] at lr;refine fun N1 c1=>uM (wd:=.aB) rfl rfl c S.good (fun R z=>DZ rfl z) (.cons hx .nil) (.aB x ht) (by lia) fun H1 C1 k1=>c1 _ _ ?_;generalize MU.put st (MU.cS Fa x) .aB [at_]=gv at*;clear c1 N1;have d2:MU.aK (MU.da Fa) .bf at_ gv=MU.put gv (MU.da Fa x) .bf [at_]:=MU.Cy uc;have S2:MU.jg n Fa (MU.put gv (MU.da Fa x) .bf [at_]):=S1.put fun w e=>MU.U' hF xa xb e;have xr:MU.ah (MU.put gv (MU.da Fa x) .bf [at_]) at_=some x:=MU.bV (MU.rH _ _ _ _) uc;have l2:=MU.gS gv (MU.da Fa x) .bf [at_];rw [d2] at lr;refine fun N2 c2=>uM (wd:=.bf) rfl rfl C1 S1.good (fun R z=>DZ rfl z) (.cons uc .nil) (.bf x ht) (by lia) fun H2 C2 k2=>c2 _ _ ?_;generalize MU.put gv (MU.da Fa x) .bf [at_]=aT at*;clear c2 N2;have kA:=k1.trans k2;clear k1 k2;have v4:∃v:Option V,(none:Option V)=v:=⟨_,rfl⟩;obtain ⟨_,_⟩:=v4;refine fun N3 c3=>?_;obtain ⟨dx,hp⟩:=C2.ins;refine ⟨_,rfl,p,dx,_,rfl,hp,nY,_,rfl,p,be,rl,bd,n,Fa,aT,true,x.b,rfl,C2,h8,fun la H3 qH s3 e3=>?_⟩;obtain ⟨n1,n2,n3⟩:=C2.apart qH;have C3:=C2.same s3;refine ⟨la,rfl,⟨_,ax.of e3⟩,?_⟩;have dY:∀j∈MU.cJ n aT true x.b,∃y,MU.ah aT j=some y/\y.tie=true/\y.a<n/\y.b<n:=fun j hj=>by
  obtain ⟨cc,_,hb⟩:=MU.HP hj;obtain ⟨y,hy,hk⟩:=S2.good.at_ _ _ hb;obtain ⟨q1,_⟩:=MU.iD hk;exact ⟨y,hy,q1,S2.good.lt _ _ hy⟩
 have tl:(MU.cJ n aT true x.b).length<=n:=MU.Du;generalize MU.cJ n aT true x.b=L at*;refine og (K:=K) (a:=la) (xs:=fj L) (fun i aa H'=>∃v,aa=[some (.ref p),some (.int (at_:Int)),some (.int (x.a:Int)),some (.int (x.b:Int)),v]/\fY C H' p be rl bd n Fa ((L.take i).foldl (fun st j=>MU.ak MU.a7 .sum at_ j st) aT)/\MU.jg n Fa ((L.take i).foldl (fun st j=>MU.ak MU.a7 .sum at_ j st) aT)/\MU.Ext aT ((L.take i).foldl (fun st j=>MU.ak MU.a7 .sum at_ j st) aT)/\dw p rl bd H3 H') ⟨_,rfl,C3,S2,MU.Ext.refl _,dw.of (aH.refl _)⟩ ?_ ?_ ?_
 ·rintro i aa H4 _ ⟨v,rfl,_,_,_,k4⟩;exact ax.of (k4 _ _ e3 n1 n2 n3)
 ·rintro i y aa H4 hy ⟨v,rfl,C4,S4,x4,k4⟩;unfold fj at hy;rw [fv] at hy
  cases q:L[i]? with
  | none=>rw [q] at hy;cases hy
  | some j=>
   rw [q] at hy;cases hy;obtain ⟨y,rP,yt,_,yb⟩:=dY j (gn q);have fl:=MU.pP (f:=fun st j=>MU.ak MU.a7 .sum at_ j st) (fun _ _=>MU.gS _ _ _ _) (L.take i) aT;rw [ig] at fl;rw [MU.DD q];have qB:=MU.bV x4 xr;have pe:=MU.bV x4 rP;have e4:MU.ak MU.a7 .sum at_ j ((L.take i).foldl (fun st j=>MU.ak MU.a7 .sum at_ j st) aT)=MU.put ((L.take i).foldl (fun st j=>MU.ak MU.a7 .sum at_ j st) aT) (MU.a7 x y) .sum [at_,j]:=MU.C0 qB pe;rw [e4];generalize (L.take i).foldl (fun st j=>MU.ak MU.a7 .sum at_ j st) aT=cy at*;refine uM (wd:=.sum) rfl rfl C4 S4.good (fun R z=>D_ rfl rfl z) (.cons qB (.cons pe .nil)) (.sum x y ht yt) (by lia) fun H5 C5 k5=>⟨_,rfl,C5,S4.put fun w e=>MU.MP xa yb e,x4.trans (MU.rH _ _ _ _),k4.trans k5⟩
 rintro aa H4 ⟨v1,rfl,C5,S5,x1,k4⟩;have bJ:L.take (fj L).length=L:=by unfold fj;rw [aD];exact j8
 rw [bJ] at C5 S5 x1;refine c3 _ _ ?_;have kB:=(kA.trans (dw.of s3)).trans k4;have RK:=MU.bV x1 xr;have lenB:(L.foldl (fun st j=>MU.ak MU.a7 .sum at_ j st) aT).rows.length<=st.rows.length+(2+1*n):=by
  have:=MU.pP (f:=fun st j=>MU.ak MU.a7 .sum at_ j st) (fun _ _=>MU.gS _ _ _ _) L aT;lia
 generalize L.foldl (fun st j=>MU.ak MU.a7 .sum at_ j st) aT=cb at*;clear dY tl e3 n1 n2 n3 C3 qH s3 k4 bJ x1 hp c3 N3;refine fun N4 c4=>?_;obtain ⟨dx,hp⟩:=C5.ins;refine ⟨_,rfl,p,dx,_,rfl,hp,nY,_,rfl,p,be,rl,bd,n,Fa,cb,x.a,rfl,C5,h8,fun la H3 qH s3 e3=>?_⟩;obtain ⟨n1,n2,n3⟩:=C5.apart qH;have C3:=C5.same s3;refine ⟨la,rfl,⟨_,ax.of e3⟩,?_⟩;have dY:∀j∈MU.dr n cb x.a,∃y,MU.ah cb j=some y/\y.tie=true/\y.a<n/\y.b<n:=fun j hj=>by
  obtain ⟨cc,_,hb⟩:=MU.DK hj;obtain ⟨y,hy,hk⟩:=S5.good.at_ _ _ hb;obtain ⟨q1,_⟩:=MU.iD hk;exact ⟨y,hy,q1,S5.good.lt _ _ hy⟩
 have tl:(MU.dr n cb x.a).length<=n:=MU.DJ;generalize MU.dr n cb x.a=L at*;refine og (K:=K) (a:=la) (xs:=fj L) (fun i aa H'=>∃v,aa=[some (.ref p),some (.int (at_:Int)),some (.int (x.a:Int)),some (.int (x.b:Int)),v]/\fY C H' p be rl bd n Fa ((L.take i).foldl (fun st j=>MU.ak MU.a7 .sum j at_ st) cb)/\MU.jg n Fa ((L.take i).foldl (fun st j=>MU.ak MU.a7 .sum j at_ st) cb)/\MU.Ext cb ((L.take i).foldl (fun st j=>MU.ak MU.a7 .sum j at_ st) cb)/\dw p rl bd H3 H') ⟨_,rfl,C3,S5,MU.Ext.refl _,dw.of (aH.refl _)⟩ ?_ ?_ ?_
 ·rintro i aa H4 _ ⟨v,rfl,_,_,_,k4⟩;exact ax.of (k4 _ _ e3 n1 n2 n3)
 ·rintro i y aa H4 hy ⟨v,rfl,C4,S4,x4,k4⟩;unfold fj at hy;rw [fv] at hy
  cases q:L[i]? with
  | none=>rw [q] at hy;cases hy
  | some j=>
   rw [q] at hy;cases hy;obtain ⟨y,rP,yt,ya,_⟩:=dY j (gn q);have fl:=MU.pP (f:=fun st j=>MU.ak MU.a7 .sum j at_ st) (fun _ _=>MU.gS _ _ _ _) (L.take i) cb;rw [ig] at fl;rw [MU.DD q];have qB:=MU.bV x4 RK;have pe:=MU.bV x4 rP;have e4:MU.ak MU.a7 .sum j at_ ((L.take i).foldl (fun st j=>MU.ak MU.a7 .sum j at_ st) cb)=MU.put ((L.take i).foldl (fun st j=>MU.ak MU.a7 .sum j at_ st) cb) (MU.a7 y x) .sum [j,at_]:=MU.C0 pe qB;rw [e4];generalize (L.take i).foldl (fun st j=>MU.ak MU.a7 .sum j at_ st) cb=cy at*;refine uM (wd:=.sum) rfl rfl C4 S4.good (fun R z=>D_ rfl rfl z) (.cons pe (.cons qB .nil)) (.sum y x yt ht) (by lia) fun H5 C5 k5=>⟨_,rfl,C5,S4.put fun w e=>MU.MP ya xb e,x4.trans (MU.rH _ _ _ _),k4.trans k5⟩
 rintro aa H4 ⟨v2,rfl,C6,S6,x2,k4⟩;have bJ:L.take (fj L).length=L:=by unfold fj;rw [aD];exact j8
 rw [bJ] at C6 S6 x2;refine c4 _ _ ?_;have kC:=(kB.trans (dw.of s3)).trans k4;have JZ:=MU.bV x2 RK;have lenC:(L.foldl (fun st j=>MU.ak MU.a7 .sum j at_ st) cb).rows.length<=st.rows.length+(2+2*n):=by
  have:=MU.pP (f:=fun st j=>MU.ak MU.a7 .sum j at_ st) (fun _ _=>MU.gS _ _ _ _) L cb;lia
 generalize L.foldl (fun st j=>MU.ak MU.a7 .sum j at_ st) cb=gU at*;clear dY tl e3 n1 n2 n3 C3 qH s3 k4 bJ x2 hp c4 N4;obtain ⟨dx,hp⟩:=C6.ins;refine ⟨_,rfl,p,dx,_,rfl,hp,nY,_,rfl,p,be,rl,bd,n,Fa,gU,false,x.b,rfl,C6,h8,fun la H3 qH s3 e3=>?_⟩;obtain ⟨n1,n2,n3⟩:=C6.apart qH;have C3:=C6.same s3;refine ⟨la,rfl,⟨_,ax.of e3⟩,?_⟩;have dY:∀j∈MU.cJ n gU false x.b,∃y,MU.ah gU j=some y/\y.tie=false/\y.a<n/\y.b<n:=fun j hj=>by
  obtain ⟨cc,_,hb⟩:=MU.HP hj;obtain ⟨y,hy,hk⟩:=S6.good.at_ _ _ hb;obtain ⟨q1,_⟩:=MU.iD hk;exact ⟨y,hy,q1,S6.good.lt _ _ hy⟩
 have tl:(MU.cJ n gU false x.b).length<=n:=MU.Du;generalize MU.cJ n gU false x.b=L at*;refine og (K:=K) (a:=la) (xs:=fj L) (fun i aa H'=>∃v,aa=[some (.ref p),some (.int (at_:Int)),some (.int (x.a:Int)),some (.int (x.b:Int)),v]/\fY C H' p be rl bd n Fa ((L.take i).foldl (fun st j=>MU.ak (MU.a_ Fa) .back j at_ st) gU)/\MU.jg n Fa ((L.take i).foldl (fun st j=>MU.ak (MU.a_ Fa) .back j at_ st) gU)/\MU.Ext gU ((L.take i).foldl (fun st j=>MU.ak (MU.a_ Fa) .back j at_ st) gU)/\dw p rl bd H3 H') ⟨_,rfl,C3,S6,MU.Ext.refl _,dw.of (aH.refl _)⟩ ?_ ?_ ?_
 ·rintro i aa H4 _ ⟨v,rfl,_,_,_,k4⟩;exact ax.of (k4 _ _ e3 n1 n2 n3)
 ·rintro i y aa H4 hy ⟨v,rfl,C4,S4,x4,k4⟩;unfold fj at hy;rw [fv] at hy
  cases q:L[i]? with
  | none=>rw [q] at hy;cases hy
  | some j=>
   rw [q] at hy;cases hy;obtain ⟨y,rP,yt,ya,yb⟩:=dY j (gn q);have fl:=MU.pP (f:=fun st j=>MU.ak (MU.a_ Fa) .back j at_ st) (fun _ _=>MU.gS _ _ _ _) (L.take i) gU;rw [ig] at fl;rw [MU.DD q];have qB:=MU.bV x4 JZ;have pe:=MU.bV x4 rP;have e4:MU.ak (MU.a_ Fa) .back j at_ ((L.take i).foldl (fun st j=>MU.ak (MU.a_ Fa) .back j at_ st) gU)=MU.put ((L.take i).foldl (fun st j=>MU.ak (MU.a_ Fa) .back j at_ st) gU) ((MU.a_ Fa) y x) .back [j,at_]:=MU.C0 pe qB;rw [e4];obtain ⟨yf,hyf⟩:=S4.ends _ _ pe yt;generalize (L.take i).foldl (fun st j=>MU.ak (MU.a_ Fa) .back j at_ st) gU=cy at*;refine uM (wd:=.back) rfl rfl C4 S4.good (fun R z=>D_ rfl rfl z) (.cons pe (.cons qB .nil)) (.back y x yf yt ht hyf) (by lia) fun H5 C5 k5=>⟨_,rfl,C5,S4.put fun w e=>MU.MV ya yb xa xb e,x4.trans (MU.rH _ _ _ _),k4.trans k5⟩
 ·rintro aa H4 ⟨v,rfl,C4,S4,x4,k4⟩;have bJ:L.take (fj L).length=L:=by unfold fj;rw [aD];exact j8
  rw [bJ,lr] at C4 S4;exact k H4 C4 S4 ((kC.trans (dw.of s3)).trans k4)
structure vU (n:Nat) (F:MU.ck) (s0:MU.St) (T:Nat):Prop where
 end_:(MU.run n F s0 T).rows.length<=T\/(MU.run n F s0 T).bar≠none
 first:∀t,t<T->t<(MU.run n F s0 t).rows.length/\(MU.run n F s0 t).bar=none
 m9:∀t,t<=T->(MU.run n F s0 t).rows.length<=16000000
noncomputable def Me (C:Addr):Sp:=fun vs H Q _=>∃(p be rl bd:Addr) (n:Nat) (F:MU.ck) (s0:MU.St) (T:Nat),vs=[.ref p]/\fY C H p be rl bd n F s0/\MU.jg n F s0/\MU.g_ n F ((60:Nat):Int)/\n<=8/\vU n F s0 T/\
 ∀H',fY C H' p be rl bd n F (MU.run n F s0 T)->MU.jg n F (MU.run n F s0 T)->dw p rl bd H H'->Q .aS H'
theorem DV:cE ["self","at","what"] ["self"] (aX bP):=cV
theorem ml (F:gI K "draw_all" "Closing.draw_all" bP f fd) (T:oV K mg C)
 (mT:jh K C "draw_from_tie" fT) (bT:eW K p0 ["self","at","a","b"] []) (GT:aq P w K mg base a9 4 fT p0 ["self","at","a","b"] (P9 C))
 (mW:jh K C "draw_from_wait" fW) (bW:eW K vC ["self","at","a"] []) (GW:aq P w K mg base a9 4 fW vC ["self","at","a"] (PN C)):aq P w K mg base a9 5 f fd ["self"] (Me C):=by
 refine F.de DV fun _ A _ s H _ Q E hr h=>?_;obtain ⟨p,be,rl,bd,n,Fa,s0,Te,rfl,c,S,hF,h8,hE,k⟩:=h;have hu:=lV hr;refine ⟨_,cx (cA 1 DV.nd aw)
  (aE (O0 PassesOwn.never (PW.pt (sL (dj uB (pv 1) (ju w9 (by rfl) T.len uu (bL (fC (pv 0) rfl)))) (sQ (dj GJ (fC (pv 0) rfl) mY))))
   (cx (cA 2 DV.nd (a8 (dh dS (fC (pv 0) rfl) (pv 1))))
   (cx (yA (dP (dj gr (nc hu (fC (pv 0) rfl) (pR CK (pv 2) pN (pO aw)) (fun _ _=>rfl)) (pv 1))
    (aE (dP (dj gr (a8 (pv 2)) eX)
     (aE (gK (jF (pv 0) T.cl mT GT hr bT .nil gu (iw (pv 1) (a8 (pv 2)) (a8 (pv 2))))))
     (aE (gK (jF (pv 0) T.cl mW GW hr bW .nil gu (bu (pv 1) (a8 (pv 2)))))))) dX))
   (aE (Hf (i:=1) DV.nd rfl (Or.inl rfl) aw G_)))))),?_⟩
 refine fun N1 c1=>c1 _ _ ?_;refine ⟨fun m aa H'=>∃t v,t+m=Te/\aa=[some (.ref p),some (.int (t:Int)),v]/\fY C H' p be rl bd n Fa (MU.run n Fa s0 t)/\MU.jg n Fa (MU.run n Fa s0 t)/\dw p rl bd H H',⟨Te,0,none,by lia,rfl,c,S,dw.of (aH.refl _)⟩,?_⟩;rintro m aa H1 ⟨t,v,htm,rfl,C1,S1,k1⟩;obtain ⟨dx,hp⟩:=C1.ins;obtain ⟨qs,gw,cp⟩:=C1.rows;obtain ⟨kvs,fQ,vq,eA⟩:=C1.best;have xy:qs.length=(MU.run n Fa s0 t).rows.length:=Paired.length cp;refine ⟨_,rfl,_,rfl,p,C,dx,_,_,rfl,hp,T.cl,T.nR,sO,rl,_,rfl,.inl (ax.of gw),_,_,rfl,rfl,_,rfl,?_⟩;rw [aD,xy];have qR:∀b,(MU.run n Fa s0 t).rows.length<=t\/(MU.run n Fa s0 t).bar≠none->b=false->if b=true then (∃N:L2.St->Hp->Prop,(∀aa H',N aa H'->∃m',m'<m/\∃t v,t+m'=Te/\aa=[some (.ref p),some (.int (t:Int)),v]/\fY C H' p be rl bd n Fa (MU.run n Fa s0 t)/\MU.jg n Fa (MU.run n Fa s0 t)/\dw p rl bd H H')/\False) else Q .aS H1:=fun b qE hb=>by
  have e:t=Te:=fg fun z=>by
   have:=hE.first t (by lia);rcases qE with y | y
   ·lia
   ·exact y this.2
  rw [if_neg (by rw [hb];decide)];rw [e] at C1 S1;exact k H1 C1 S1 k1
 by_cases bg:t<(MU.run n Fa s0 t).rows.length
 ·refine ja (by lia) ⟨_,rfl,p,C,dx,_,_,rfl,hp,T.cl,T.nX,Cw,rfl,_,rfl,?_⟩;rw [MW]
  by_cases hb:(MU.run n Fa s0 t).bar=none
  ·refine ja hb ?_;have htT:t<Te:=fg fun z=>by
    have e:t=Te:=by lia
    rcases hE.end_ with y | y
    ·rw [<-e] at y;lia
    ·rw [<-e] at y;exact y hb
   refine ⟨fun aa H'=>∃m',m'<m/\∃t v,t+m'=Te/\aa=[some (.ref p),some (.int (t:Int)),v]/\fY C H' p be rl bd n Fa (MU.run n Fa s0 t)/\MU.jg n Fa (MU.run n Fa s0 t)/\dw p rl bd H H',fun aa H' z=>z,?_⟩;obtain ⟨x,hx⟩:∃x,MU.ah (MU.run n Fa s0 t) t=some x:=⟨_,by unfold MU.ah;rw [kF bg];rfl⟩;obtain ⟨q',r,pw,pu,g1,_,_,g4,g5,_⟩:=Dc cp hx;have iH:iI (qs.map V.ref) (t:Int)=some (.ref q'):=kg (by rw [fv,g1];rfl);refine fun N2 c2=>⟨_,rfl,p,C,dx,_,_,rfl,hp,T.cl,T.nR,sO,oR rfl gw iH (ay g4 rfl (c2 _ _ ?_))⟩;clear c2 N2;refine fun N3 c3=>⟨fun aa H'=>aa=[some (.ref p),some (.int (t:Int)),some (.ref pw)]/\fY C H' p be rl bd n Fa (MU.run n Fa s0 (t+1))/\MU.jg n Fa (MU.run n Fa s0 (t+1))/\dw p rl bd H1 H',?_,?_⟩
   ·refine ⟨_,rfl,p,C,dx,_,_,rfl,hp,T.cl,T.nE,rz,_,rfl,_,rfl,pw,_,rfl,c_.of g5,GG,fun kt mw=>?_⟩;rw [IA];have s3:=aG (o:=.tup ((cw x.key).map kV)) mw;have e3:upd H1 kt (.tup ((cw x.key).map kV)) kt=some (.tup ((cw x.key).map kV)):=ai;generalize upd H1 kt (.tup ((cw x.key).map kV))=H3 at*;obtain ⟨j,_,qL⟩:=S1.good.top t x hx;have dg:=fh.t (k:=cw x.key) (s3 _ _ fQ) e3;rw [eA,qL] at dg;have C3:=C1.same s3;have m9:=hE.m9 t (by exact bo htT);have hl:MU.run n Fa s0 (t+1)=MU.look n Fa t (MU.run n Fa s0 t):=rfl;refine ⟨bd,_,rfl,dg,_,rfl,rfl,_,rfl,?_⟩;rw [sE]
    by_cases e:j=t
    ·rw [e] at qL;refine ja e ⟨_,rfl,ay (s3 _ _ g5) rfl ⟨rfl,_,rfl,?_⟩⟩;rw [Dm]
     cases ht:x.tie with
     | true=>
      have el:=MU.Dn (n:=n) (F:=Fa) hx ht rfl rfl (by rw [<-qL];unfold MU.aj.key;rw [ht]);rw [hl,el];refine mJ ⟨_,rfl,p,dx,_,rfl,s3 _ _ hp,nY,_,rfl,_,rfl,ay (s3 _ _ g5) rfl ⟨_,rfl,ay (s3 _ _ g5) rfl ?_⟩⟩;exact ⟨p,be,rl,bd,n,Fa,_,t,x,rfl,C3,S1,hF,hx,ht,h8,m9,fun H4 C4 S4 k4=>⟨rfl,C4,S4,(dw.of s3).trans k4⟩⟩
     | false=>
      have el:=MU.HQ (n:=n) (F:=Fa) hx ht qL;rw [hl,el];refine iq ⟨_,rfl,p,dx,_,rfl,s3 _ _ hp,nY,_,rfl,_,rfl,ay (s3 _ _ g5) rfl ?_⟩;exact ⟨p,be,rl,bd,n,Fa,_,t,x,rfl,C3,S1,hF,hx,ht,h8,m9,fun H4 C4 S4 k4=>⟨rfl,C4,S4,(dw.of s3).trans k4⟩⟩
    ·have el:=MU.OW (n:=n) (F:=Fa) hx (by rw [qL];exact fun z=>e (eT z));rw [hl,el];exact kJ e ⟨rfl,C3,S1,dw.of s3⟩
   ·rintro aa H4 ⟨rfl,C4,S4,k4⟩;refine c3 _ _ ⟨_,rfl,_,_,rfl,rfl,m-1,by lia,t+1,some (.ref pw),by lia,?_,C4,S4,k1.trans k4⟩;show [some (V.ref p),some (V.int ((t:Int)+1)),some (V.ref pw)]=[some (V.ref p),some (V.int ((t+1:Nat):Int)),some (V.ref pw)];rfl
  ·have:=qR false (.inr hb) rfl;exact kJ hb this
 ·have:=qR false (.inl (by lia)) rfl;exact kJ (by lia) (iq this)
end Y0
namespace MU
noncomputable def empty:St:=⟨[],fun _=>none,none⟩
noncomputable def lE (rows:List aj) (st:St):St:=rows.foldl (fun st w=>take st w .told []) st
variable {n:Nat} {F:ck} {st:St}
theorem H_:cj n empty:=by
 have nw:∀i w,ah empty i≠some w:=fun i w h=>by
  unfold ah empty at h;simp at h
 exact ⟨fun k i h=>(nomatch h),fun i w h=>absurd h (nw i w),fun i w h=>absurd h (nw i w),fun _ i w h=>absurd h (nw i w),fun _ i j w w' h=>absurd h (nw i w)⟩
noncomputable def Il (n:Nat) (w:aj):Prop:=w.a<n/\w.b<n/\w.tie=true
theorem DI:∀(rows:List aj) (st:St),cj n st->(∀w∈rows,Il n w)->cj n (lE rows st)
 | [],_,g,_=>g
 | w::r,st,g,h=>DI r _ (Pp g (h w eD).1 (h w eD).2.1 fun z=>by rw [(h w eD).2.2] at z;cases z) fun w' ki=>h w' (gz _ ki)
theorem Pu:∀(rows:List aj) (st:St),Imp st (lE rows st)
 | [],st=>Imp.refl st
 | w::r,st=>(OC st w _ _).trans (Pu r _)
theorem HS:∀(rows:List aj) (st:St),(lE rows st).rows.length<=st.rows.length+rows.length
 | [],st=>az _
 | w::r,st=>by
  have h1:=HS r (take st w .told []);have h2:=gS st (some w) .told [];have h2:(take st w .told []).rows.length<=st.rows.length+1:=h2;rw [kD];show (lE r (take st w .told [])).rows.length<=_;lia
theorem Ic:∀(rows:List aj) (st:St),(∀i w,ah st i=some w->w.tie=true)->(∀w∈rows,Il n w)->∀i w,ah (lE rows st) i=some w->w.tie=true
 | [],_,h,_=>h
 | w::r,st,h,hw=>Ic r _ (fun i u hu=>by
  by_cases hi:i<st.rows.length
  ·exact h i u (rL (Ax _ _ _ _) hi hu)
  ·exact OB (C:=fun u=>u.tie=true) (hw w eD).2.2 i u (by exact mE hi) hu) fun w' ki=>hw w' (gz _ ki)
theorem DQ:∀(rows:List aj) (st:St) (w:aj),w∈rows->w.a≠w.b->∃u,val (lE rows st) w.key=some u/\¬dD w.tie w.v u
 | [],_,w,h,_=>nomatch h
 | x::r,st,w,h,df=>by
  rcases eS.mp h with e | h
  ·subst e;obtain ⟨u,hu,nu⟩:=DH (st:=st) (w:=w) (word:=.told) (used:=[]) df;obtain ⟨u',kj,JE⟩:=(Pu r (take st w .told [])).2 w.key u df hu;exact ⟨u',kj,Ie nu JE⟩
  ·exact DQ r _ w h df
theorem P_:∀i w,ah empty i=some w->w.tie=true:=fun i w h=>by
 unfold ah empty at h;simp at h
theorem Vk (g:cj n st) (h:∀i w,ah st i=some w->w.tie=true) (a b:Nat):val st (false,a,b)=none:=by
 unfold val
 cases q:st.best (false,a,b) with
 | none=>rfl
 | some i=>
  obtain ⟨w,hw,hk⟩:=g.at_ _ _ q;have:=h i w hw;have e:=(iD hk).1;rw [this] at e;cases e
end MU
namespace Y0
open PySem L2
seal L2.PE L2.PA L2.PT L2.PS L2.gp L2.PG L2.nU L2.PI L2.PO
noncomputable def hX:List Int->MU.aj
 | [a,b,v]=>⟨true,a.toNat,b.toNat,v⟩
 | _=>⟨true,0,0,0⟩
noncomputable def DT (n:Int) (rows:List (List Int)):Prop:=∀r∈rows,∃a b v:Int,r=[a,b,v]/\0<=a/\a<n/\0<=b/\b<n/\a≠b
theorem P5:∀{k:Nat} {n:Int},(k:Int)+1<=n->DT n (kK la k)
 | 0,_,_=>fun r hr=>nomatch hr
 | k+1,n,h=>fun r hr=>by
  unfold kK at hr;rcases i8.mp hr with hr | hr
  ·exact P5 (k:=k) (by exact fV h) r hr
  ·rcases eS.mp hr with rfl | hr
   ·exact ⟨0,(k:Int)+1,la,rfl,by exact Int.NonNeg.mk (0+0),by lia,by exact Int.NonNeg.mk (k+1+0),by exact h,by lia⟩
   ·rw [iK.mp hr];exact ⟨(k:Int)+1,0,0,rfl,by exact Int.NonNeg.mk (k+1+0),by exact h,by exact Int.NonNeg.mk (0+0),by lia,by lia⟩
theorem Pk (h:∀r∈rows,∃a b l m:Int,r=[a,b,l,m]/\0<=a/\a<n/\0<=b/\b<n/\a≠b):DT n (jC rows):=fun r hr=>by
 unfold jC at hr;obtain ⟨x,hx,zj⟩:=List.mem_flatten.mp hr;obtain ⟨y,hy,rfl⟩:=eB.mp hx;obtain ⟨a,b,l,m,rfl,h1,h2,h3,h4,h5⟩:=h y hy;rcases eS.mp zj with rfl | zj
 ·exact ⟨a,b,m,rfl,h1,h2,h3,h4,h5⟩
 ·rw [iK.mp zj];exact ⟨b,a,-l,rfl,h3,h4,h1,h2,aF h5⟩
theorem cv.kX (h:cv n la T F):DT n (gJ n la T F):=fun r hr=>by
 unfold gJ at hr;have n1:=h.n1;rcases i8.mp hr with hr | hr
 ·rcases i8.mp hr with hr | hr
  ·exact P5 (by omega) r hr
  ·exact Pk (fun r hr=>by obtain ⟨a,b,l,m,e,x1,x2,x3,x4,x5,_⟩:=h.t r hr;exact ⟨a,b,l,m,e,x1,x2,x3,x4,x5⟩) r hr
 ·exact Pk (fun r hr=>by obtain ⟨a,b,l,m,e,x1,x2,x3,x4,x5,_⟩:=h.f r hr;exact ⟨a,b,l,m,e,x1,x2,by exact fV x3,x4,x5⟩) r hr
theorem PB (h:cv n la T F):(gJ n la T F).length<=100:=by
 unfold gJ;rw [ik,ik,yR,uQ h.lu,uQ h.j7];have:=h.tl;have:=h.fl;have:=h.n2;lia
noncomputable def lD (n la:Int) (T F:List (List Int)):MU.St:=MU.lE ((gJ n la T F).map hX) MU.empty
theorem vX {n:Nat} {rows:List (List Int)} (h:DT (n:Int) rows):∀w∈rows.map hX,MU.Il n w:=fun w hw=>by
 obtain ⟨r,hr,rfl⟩:=eB.mp hw;obtain ⟨a,b,v,rfl,h1,h2,_,h4,_⟩:=h r hr;exact ⟨by show a.toNat<n;lia,by show b.toNat<n;lia,rfl⟩
theorem HU {n:Nat} {la:Int} {T F:List (List Int)} (h:cv (n:Int) la T F):MU.jg n (dk F) (lD n la T F):=by
 have g:=MU.DI ((gJ (n:Int) la T F).map hX) MU.empty MU.H_ (vX h.kX);refine ⟨g,fun i w hw ht=>?_⟩;have:=MU.Ic (n:=n) _ _ MU.P_ (vX h.kX) i w hw;rw [ht] at this;cases this
theorem Av:∀{k:Nat},i<k->[0,(i:Int)+1,la]∈kK la k/\[(i:Int)+1,0,0]∈kK la k
 | 0,h=>absurd h (sd _)
 | k+1,h=>by
  unfold kK
  by_cases e:i=k
  ·subst e;exact ⟨kE _ eD,kE _ (gz _ eD)⟩
  ·obtain ⟨h1,h2⟩:=Av (la:=la) (i:=i) (k:=k) (by lia);exact ⟨iL _ h1,iL _ h2⟩
theorem PD {n:Nat} {la:Int} {T F:List (List Int)} (h:cv (n:Int) la T F) (qH:la<=60):∃Te,vU n (dk F) (lD n la T F) Te:=by
 have g:=MU.DI ((gJ (n:Int) la T F).map hX) MU.empty MU.H_ (vX h.kX);have IH:=MU.Ic (n:=n) _ _ MU.P_ (vX h.kX);have n1:=h.n1;have n2:=h.n2;have hl:=MU.HS ((gJ (n:Int) la T F).map hX) MU.empty;have hs:=PB h;rw [aD] at hl;have hl:(lD n la T F).rows.length<=0+(gJ (n:Int) la T F).length:=hl;have told:∀i,0<i->i<n->(∃v,v<=((60:Nat):Int)/\MU.val (lD n la T F) (true,0,i)=some v)/\∃v,v<=0/\MU.val (lD n la T F) (true,i,0)=some v:=fun i h1 h2=>by
  have hk:i-1<((n:Int)-1).toNat:=by lia
  obtain ⟨m1,m2⟩:=Av (la:=la) hk;have ei:((i-1:Nat):Int)+1=(i:Int):=by lia
  rw [ei] at m1 m2;have in1:(⟨true,0,i,la⟩:MU.aj)∈(gJ (n:Int) la T F).map hX:=eB.mpr ⟨_,iL _ (iL _ m1),rfl⟩;have in2:(⟨true,i,0,0⟩:MU.aj)∈(gJ (n:Int) la T F).map hX:=eB.mpr ⟨_,iL _ (iL _ m2),rfl⟩;obtain ⟨u1,v1,w1⟩:=MU.DQ _ MU.empty _ in1 (by show 0≠i;lia);obtain ⟨u2,v2,w2⟩:=MU.DQ _ MU.empty _ in2 (by show i≠0;exact Nat.ne_of_gt h1);unfold MU.dD at w1 w2;simp at w1 w2;exact ⟨⟨u1,by lia,v1⟩,⟨u2,w2,v2⟩⟩
 obtain ⟨Te,e1,e2,e3⟩:=MU.XA (n:=n) (F:=dk F) (s0:=lD n la T F) (by lia) h.nO g told (MU.Vk g IH) (by lia);exact ⟨Te,e1,e2,e3⟩
noncomputable def Nr (C CW:Addr):Sp:=fun vs H Q _=>∃(p wb dx:Addr) (n:Nat) (la:Int) (T F:List (List Int)),vs=[.ref p,.ref wb]/\H p=some (.ins C dx [])/\jD CW H wb (n:Int) la T F/\cv (n:Int) la T F/\
 ∀H' be rl bd,fY C H' p be rl bd n (dk F) (lD n la T F)->H be=none->H rl=none->H bd=none->cq p H H'->Q .aS H'
noncomputable abbrev nCi:List Str:=["self","web","a","b","most"]
theorem DW:cE nCi ["self","web"] (aX cO):=cV
theorem km1:¬(("many":Str)="by_end"):=by decide+kernel
theorem km2:¬(("many":Str)="rows"):=by decide+kernel
theorem km3:¬(("by_end":Str)="rows"):=by decide+kernel
theorem km4:¬(("many":Str)="best"):=by decide+kernel
theorem km5:¬(("by_end":Str)="best"):=by decide+kernel
theorem km6:¬(("rows":Str)="best"):=by decide+kernel
theorem km7:¬(("many":Str)="bar"):=by decide+kernel
theorem km8:¬(("by_end":Str)="bar"):=by decide+kernel
theorem km9:¬(("rows":Str)="bar"):=by decide+kernel
theorem km0:¬(("best":Str)="bar"):=by decide+kernel
theorem Zx {n:Nat}:aO "bar" v (aO "best" (.ref bd) (aO "rows" (.ref rl) (aO "by_end" (.ref be) (aO "many" (.int (n:Int)) []))))=iN n be rl bd v:=by
 have s1:aO "by_end" (V.ref be) [(("many":Str),V.int (n:Int))]=[(("many":Str),V.int (n:Int)),("by_end",.ref be)]:=by rw [ng km1];rfl
 have s2:aO "rows" (V.ref rl) [(("many":Str),V.int (n:Int)),("by_end",.ref be)]=[(("many":Str),V.int (n:Int)),("by_end",.ref be),("rows",.ref rl)]:=by rw [ng km2,ng km3];rfl
 have s3:aO "best" (V.ref bd) [(("many":Str),V.int (n:Int)),("by_end",.ref be),("rows",.ref rl)]=[(("many":Str),V.int (n:Int)),("by_end",.ref be),("rows",.ref rl),("best",.ref bd)]:=by rw [ng km4,ng km5,ng km6];rfl
 have s4:aO "bar" v [(("many":Str),V.int (n:Int)),("by_end",.ref be),("rows",.ref rl),("best",.ref bd)]=iN n be rl bd v:=by rw [ng km7,ng km8,ng km9,ng km0];rfl
 show aO "bar" v (aO "best" (.ref bd) (aO "rows" (.ref rl) (aO "by_end" (.ref be) [(("many":Str),V.int (n:Int))])))=_;rw [s1,s2,s3,s4]
theorem qr (F:gI K "__init__" "Closing.__init__" cO f fd) (T:oV K mg C) (TC:nV K mg CW)
 (mT:jh K C "take" fT) (bT:eW K p0 ["self","what","word","used"] []) (GT:aq P w K mg base a9 2 fT p0 ["self","what","word","used"] (Hb C))
 (FE:Fn K mg "falls_by_end" bX ["web"] fE L9) (GE:aq P w K mg base a9 2 fE L9 ["web"] (Nq CW))
 (FB:Fn K mg "told_bounds" bG ["web"] fB rX) (GB:aq P w K mg base a9 3 fB rX ["web"] (Hc CW)):aq P w K mg base a9 4 f fd ["self","web"] (Nr C CW):=by
 refine F.de DW fun _ A _ s H _ Q E hr h=>?_;obtain ⟨p,wb,dx,n,la,rT,rF,rfl,hp,W0,af,k⟩:=h;have jy:cU 2 _:=hr.mono (by decide);have Bu:cU 3 _:=hr;refine ⟨_,cx (rA (pv 0) (fC (pv 1) rfl) rfl)
  (cx (rA (pv 0) (b_ GE jy FE (bL (pv 1))) rfl)
  (cx (rA (pv 0) (jl n_) rfl)
  (cx (rA (pv 0) VF rfl)
  (cx (rA (pv 0) mY rfl)
  (aE (jt PassesOwn.never rfl (jm (b_ GB Bu FB (bL (pv 1))))
   (uF rfl (dU (bR 2 DW.nd) (dU (bR 3 DW.nd) (dU (bR 4 DW.nd) rE))))
   (aE (gK (jF (pv 0) T.cl mT GT jy bT .nil gu (iw (dA (jw eX (pv 2) (pv 3) (pv 4))) eX (dA n_))))))))))),?_⟩
 obtain ⟨ID,QN,QR,ET,QP,QO⟩:=id W0;have pw:p≠wb:=fun z=>by
  rw [z,ET] at hp;have:=HO.ins.inj (eT hp);exact absurd this.2.2 (fun z=>by unfold nZ aO at z;cases z)
 refine fun N1 c1=>⟨_,rfl,wb,CW,ID,_,_,rfl,ET,TC.cl,TC.nM,uI _ _ _ _,_,rfl,p,C,dx,_,rfl,hp,T.cl,T.nM,by show 0<1000;decide,c1 _ _ ?_⟩;have kp:∀{Hx:Hp} {fs:List (Str×V)} {o:HO},Hx p=some (.ins C dx fs)->cq p Hx (upd Hx p o):=fun {Hx fs o} _ b o' e' ne=>by rw [ao ne];exact e'
 have k1:cq p H (upd H p (.ins C dx (aO "many" (.int (n:Int)) []))):=kp hp;have p1:upd H p (.ins C dx (aO "many" (.int (n:Int)) [])) p=some (.ins C dx (aO "many" (.int (n:Int)) [])):=ai;generalize upd H p (.ins C dx (aO "many" (.int (n:Int)) []))=H1 at*;clear c1 N1;have W1:jD CW H1 wb (n:Int) la rT rF:=⟨ID,QN,QR,k1 _ _ ET (aF pw),by
  obtain ⟨ps,R⟩:=QP;exact ⟨ps,k1 _ _ R.1 (cQ R.1 hp nofun),gM R.2 fun _ _ e=>k1 _ _ e (cQ e hp nofun)⟩,by
  obtain ⟨ps,R⟩:=QO;exact ⟨ps,k1 _ _ R.1 (cQ R.1 hp nofun),gM R.2 fun _ _ e=>k1 _ _ e (cQ e hp nofun)⟩⟩
 refine fun N2 c2=>⟨_,rfl,wb,(n:Int),la,rT,rF,rfl,W1,af,fun be H2 rW s2 FA2=>⟨_,rfl,p,C,dx,_,rfl,s2 _ _ p1,T.cl,T.nB,by show 1<1000;decide,c2 _ _ ?_⟩⟩;have k2:cq p H2 (upd H2 p (.ins C dx (aO "by_end" (.ref be) (aO "many" (.int (n:Int)) [])))):=kp (s2 _ _ p1);have p2:upd H2 p (.ins C dx (aO "by_end" (.ref be) (aO "many" (.int (n:Int)) []))) p=some (.ins C dx (aO "by_end" (.ref be) (aO "many" (.int (n:Int)) []))):=ai;have Rj:=s2 _ _ p1;have yl:mR (upd H2 p (.ins C dx (aO "by_end" (.ref be) (aO "many" (.int (n:Int)) [])))) be (dk rF):=by
  obtain ⟨BR,f1,f2,f3,f4⟩:=FA2.at_;refine ⟨BR,k2 _ _ f1 (cQ f1 Rj nofun),f2,f3,fun e f hf=>?_⟩;obtain ⟨pp,q1,q2⟩:=f4 e f hf;exact ⟨pp,q1,k2 _ _ q2 (cQ q2 Rj nofun)⟩
 generalize upd H2 p (.ins C dx (aO "by_end" (.ref be) (aO "many" (.int (n:Int)) [])))=H3 at*;clear c2 N2;have K3:cq p H H3:=fun b o e ne=>k2 _ _ (s2 _ _ (k1 _ _ e ne)) ne;have free:∀{Hx:Hp} {b:Addr},cq p H Hx->Hx b=none->b≠p->H b=none:=fun {Hx b} kk e ne=>by
  cases q:H b with
  | none=>rfl
  | some o=>rw [kk _ _ q ne] at e;cases e
 have beH:H be=none:=free k1 rW (aF (aQ p1 rW));refine fun N3 c3=>⟨d9 _,fun rl gw=>⟨_,rfl,p,C,dx,_,rfl,aG gw _ _ p2,T.cl,T.nR,by show 2<1000;decide,c3 _ _ ?_⟩⟩;have s4:=aG (o:=.lst []) gw;have r4:upd H3 rl (.lst []) rl=some (.lst []):=ai;have FA4:=yl.same s4;have p4:=s4 _ _ p2;generalize upd H3 rl (.lst [])=H4 at*;have wU:p≠rl:=aQ p2 gw;have EF:H rl=none:=free K3 gw (aF wU);have k5:cq p H4 (upd H4 p (.ins C dx (aO "rows" (.ref rl) (aO "by_end" (.ref be) (aO "many" (.int (n:Int)) []))))):=kp p4;have p5:upd H4 p (.ins C dx (aO "rows" (.ref rl) (aO "by_end" (.ref be) (aO "many" (.int (n:Int)) [])))) p=some (.ins C dx (aO "rows" (.ref rl) (aO "by_end" (.ref be) (aO "many" (.int (n:Int)) [])))):=ai;have r5:=k5 _ _ r4 (aF wU);generalize upd H4 p (.ins C dx (aO "rows" (.ref rl) (aO "by_end" (.ref be) (aO "many" (.int (n:Int)) []))))=H5 at*;clear c3 N3;have K5:cq p H H5:=fun b o e ne=>k5 _ _ (s4 _ _ (K3 _ _ e ne)) ne;refine fun N4 c4 bd fQ=>⟨_,rfl,p,C,dx,_,rfl,aG fQ _ _ p5,T.cl,T.nE,by show 3<1000;decide,c4 _ _ ?_⟩;have s6:=aG (o:=.dT []) fQ;have b6:upd H5 bd (.dT []) bd=some (.dT []):=ai;have p6:=s6 _ _ p5;have r6:=s6 _ _ r5;generalize upd H5 bd (.dT [])=H6 at*;have zb:p≠bd:=aQ p5 fQ;have F7:H bd=none:=free K5 fQ (aF zb);have k7:cq p H6 (upd H6 p (.ins C dx (aO "best" (.ref bd) (aO "rows" (.ref rl) (aO "by_end" (.ref be) (aO "many" (.int (n:Int)) [])))))):=kp p6;have p7:upd H6 p (.ins C dx (aO "best" (.ref bd) (aO "rows" (.ref rl) (aO "by_end" (.ref be) (aO "many" (.int (n:Int)) []))))) p=some (.ins C dx (aO "best" (.ref bd) (aO "rows" (.ref rl) (aO "by_end" (.ref be) (aO "many" (.int (n:Int)) []))))):=ai;have r7:=k7 _ _ r6 (aF wU);have b7:=k7 _ _ b6 (aF zb);generalize upd H6 p (.ins C dx (aO "best" (.ref bd) (aO "rows" (.ref rl) (aO "by_end" (.ref be) (aO "many" (.int (n:Int)) [])))))=H7 at*;clear c4 N4;refine fun N5 c5=>⟨_,rfl,p,C,dx,_,rfl,p7,T.cl,T.nX,by show 4<1000;decide,c5 _ _ ?_⟩;rw [Zx];have k8:cq p H7 (upd H7 p (.ins C dx (iN n be rl bd .aS))):=kp p7;have p8:upd H7 p (.ins C dx (iN n be rl bd .aS)) p=some (.ins C dx (iN n be rl bd .aS)):=ai;have r8:=k8 _ _ r7 (aF wU);have b8:=k8 _ _ b7 (aF zb);generalize upd H7 p (.ins C dx (iN n be rl bd .aS))=H8 at*;clear c5 N5;have JQ:cq p H4 H8:=fun b o e ne=>k8 _ _ (k7 _ _ (s6 _ _ (k5 _ _ e ne)) ne) ne;have K8:cq p H H8:=fun b o e ne=>JQ _ _ (s4 _ _ (K3 _ _ e ne)) ne;have FA8:mR H8 be (dk rF):=by
  obtain ⟨BR,f1,f2,f3,f4⟩:=FA4.at_;refine ⟨BR,JQ _ _ f1 (cQ f1 p4 nofun),f2,f3,fun e f hf=>?_⟩;obtain ⟨pp,q1,q2⟩:=f4 e f hf;exact ⟨pp,q1,JQ _ _ q2 (cQ q2 p4 nofun)⟩
 have C8:fY C H8 p be rl bd n (dk rF) MU.empty:=⟨⟨dx,p8⟩,FA8,⟨[],r8,.nil⟩,⟨[],b8,⟨az _,fun _ z=>nomatch z⟩,fun k=>rfl⟩⟩;have W8:jD CW H8 wb (n:Int) la rT rF:=⟨ID,QN,QR,K8 _ _ ET (aF pw),by
  obtain ⟨ps,R⟩:=QP;exact ⟨ps,K8 _ _ R.1 (cQ R.1 hp nofun),gM R.2 fun _ _ e=>K8 _ _ e (cQ e hp nofun)⟩,by
  obtain ⟨ps,R⟩:=QO;exact ⟨ps,K8 _ _ R.1 (cQ R.1 hp nofun),gM R.2 fun _ _ e=>K8 _ _ e (cQ e hp nofun)⟩⟩
 refine ⟨_,rfl,wb,(n:Int),la,rT,rF,rfl,W8,af,fun l H9 hl s9 R9=>?_⟩;obtain ⟨qs,R⟩:=R9;have C9:=C8.same s9;obtain ⟨n1,n2,n3⟩:=C8.apart hl;have idx:=af.kX;have sh:=PB af;refine ⟨l,rfl,⟨_,ax.of R.1⟩,?_⟩;have stays:∀{H':Hp},dw p rl bd H9 H'->H' l=some (.lst (qs.map V.ref)):=fun kk=>kk _ _ R.1 n1 n2 n3;obtain ⟨dx9,p9⟩:=C9.ins;obtain ⟨q9,r9,_⟩:=C9.rows;obtain ⟨kv9,b9,_⟩:=C9.best;have gA:∀{H':Hp} {b:Addr} {xs:List V},dw p rl bd H9 H'->H9 b=some (.tup xs)->H' b=some (.tup xs):=fun kk e=>kk _ _ e (cQ e p9 nofun) (cQ e r9 nofun) (cQ e b9 nofun);generalize hB:gJ (n:Int) la rT rF=B at*;refine og (K:=K) (a:=l) (xs:=qs.map V.ref) (fun i aa H'=>∃v2 v3 v4,aa=[some (.ref p),some (.ref wb),v2,v3,v4]/\fY C H' p be rl bd n (dk rF) (MU.lE ((B.take i).map hX) MU.empty)/\dw p rl bd H9 H') ⟨none,none,none,rfl,C9,dw.of (aH.refl _)⟩ ?_ ?_ ?_
 ·rintro i aa H' _ ⟨v2,v3,v4,rfl,_,kk⟩;exact ax.of (stays kk)
 ·rintro i y aa sj hy ⟨v2,v3,v4,rfl,Cs,kk⟩;obtain ⟨q,r,rfl,_,aI,iG⟩:=R.get hy;obtain ⟨a,b,v,rfl,x1,_,x3,_⟩:=idx r (gn aI);have hi:i<B.length:=(gQ.mp aI).1;refine ⟨q,_,rfl,c_.of (gA kk iG),rfl,_,_,rfl,_,_,rfl,_,_,rfl,rfl,?_⟩;obtain ⟨LL,p10⟩:=Cs.ins;have gi:=MU.DI ((B.take i).map hX) MU.empty (MU.H_ (n:=n)) (vX fun r hr=>idx r (List.mem_of_mem_take hr));have li:=MU.HS ((B.take i).map hX) MU.empty;rw [aD,ig] at li;have li:(MU.lE ((B.take i).map hX) MU.empty).rows.length<=0+min i B.length:=li;have et:MU.lE ((B.take (i+1)).map hX) MU.empty=MU.take (MU.lE ((B.take i).map hX) MU.empty) (hX [a,b,v]) .told []:=by
   unfold MU.lE;rw [l9,aI,d_,List.foldl_append];rfl
  rw [et];generalize MU.lE ((B.take i).map hX) MU.empty=sti at*;refine ⟨_,rfl,p,LL,_,rfl,p10,nY,_,rfl,_,rfl,_,rfl,dc rfl,fun t ht=>⟨d9 _,fun u kj=>?_⟩⟩;have wL:=aG (o:=.tup [V.str "tie",V.int a,V.int b,V.int v]) ht;have ZN:ir (upd sj t (.tup [V.str "tie",V.int a,V.int b,V.int v])) t (hX [a,b,v]):=by
   unfold ir;rw [ai];show some (HO.tup [V.str "tie",V.int a,V.int b,V.int v])=some (HO.tup [V.str "tie",V.int ((a.toNat:Nat):Int),V.int ((b.toNat:Nat):Int),V.int v]);rw [show ((a.toNat:Nat):Int)=a by lia,show ((b.toNat:Nat):Int)=b by lia]
  generalize upd sj t (.tup [V.str "tie",V.int a,V.int b,V.int v])=LX at*;have om:=aG (o:=.tup []) kj;refine ⟨p,be,rl,bd,t,u,n,_,_,hX [a,b,v],.told,[],rfl,(Cs.same wL).same om,gi,ZN.same om,ai,by lia,fun H13 C13 k13=>⟨_,_,_,rfl,C13,?_⟩⟩;exact (kk.trans (dw.of (wL.trans om))).trans k13
 ·rintro aa sj ⟨v2,v3,v4,rfl,Cs,kk⟩;have bJ:B.take (qs.map V.ref).length=B:=by rw [aD,R.len];exact j8
  rw [bJ] at Cs;refine k sj be rl bd ?_ beH EF F7 fun b o e ne=>kk _ _ (s9 _ _ (K8 _ _ e ne)) ne (aQ e EF) (aQ e F7);unfold lD;rw [hB];exact Cs
end Y0
namespace L2
open PySem PySem.Spec PyProof.Rows
section
variable {prog:Program} {w:World} {A:Around} {E:Value->Shared->Prop} {s:Shared}
theorem VO (hd:(d==sysModules)=false) (ho:s.heap.get? d=some o) (hc:o.ExactDict) (BI:o.data=.dict es ep)
 (hQ:Q (.ref s.heap.objs.size) { s with heap:=s.heap.push { cls:=.type "dict_keyiterator",data:=.fields #[.ref d,.int 0 0,.int es.size 0,.int ep 0] } }):
 wpAny (model prog w) A (pyIter (.ref d)) Q E s:=by
 have hT:s.TypeIs (.ref d) "dict":=⟨o,ho,hc.1⟩;refine wpAny_pyIter_slot hT F.slot_dict_iter (wpAny_call_entry F.slot_dict_iter hT F.entry_dict_iter ?_ (F.args_dict_iter_1 _));unfold Builtin.«dict.__iter__» Builtin.Dict.dictSlotNone;refine ag (ag (wpAny_notOrdered_dict hT (show wpAny _ _ (pure (Value.ref d)) _ _ s from aU ?_)));refine (show wpAny _ _ (Builtin.Dict.showsAll d>>=_) _ _ s from ?_);unfold Builtin.Dict.showsAll;rw [if_neg (by rw [hd];exact fu)];refine ag (aU (ag (wpAny_dictEntries ho BI (ag (wpAny_dictEpoch ho BI (ag (wpAny_newObj_type (aU ⟨_,rfl,"dict_keyiterator",_,⟨_,jZ _ rfl,rfl⟩,F.slot_dict_keyiterator_next.lookup,?_⟩))))))));simpa [rawInt] using hQ
theorem VP (hit:s.heap.IsKeyIter it d i es.size ep) (Bz:s.heap.get? d=some od) (uk:od.data=.dict es ep) (hx:es[i]?=some e)
 (hQ:∀h',h'.IsKeyIter it d (i+1) es.size ep->Heap.SameBut it s.heap h'->Q (some e.key) { s with heap:=h' }):wpAny (model prog w) A (pyNext (.ref it)) Q E s:=by
 obtain ⟨o,ho,hc,hd⟩:=id hit;unfold pyNext;refine ag (wpAny_attempt (wpAny_callSpecial?_slot (name:=Str.ofString "__next__") hit.typeIs F.slot_dict_keyiterator_next (wpAny_call_entry F.slot_dict_keyiterator_next hit.typeIs F.entry_dict_keyiterator_next ?_ (F.args_dict_keyiterator_next_1 _))));refine ag (aU (ag (ag ?_)))
 first | refine ag (wpAny_typeNameOfWhole_keyiter hit.typeIs (aU (ag (wpAny_fieldsOf ho hd ?_)))) | refine ag (wpAny_typeNameOf_keyiter hit.typeIs (aU (ag (wpAny_fieldsOf ho hd ?_))))
 rw [show Builtin.Dict_items.ownsTuple "dict_keyiterator"=false by decide,if_neg fu];refine (show wpAny _ _ (if (Value.ref d==Value.none)=true then _ else _) _ _ s from ?_);rw [if_neg (show ¬((Value.ref d==Value.none)=true) from fu)];refine ag (aU (ag (wpAny_dictEntries Bz uk ?_)));rw [if_neg (by simp)];refine ag (aU (ag (wpAny_dictEpoch Bz uk ?_)));rw [if_neg (by simp)];refine aU ?_;dsimp only;rw [if_neg (show ¬((i:Int)<0) from Int.not_lt.mpr (Int.natCast_nonneg i)),i7,hx];dsimp only;refine ag ?_
 first | refine ag (wpAny_typeNameOfWhole_keyiter hit.typeIs (aU (ag (wpAny_isOneOf_keyiter hit.typeIs ?_)))) | refine ag (wpAny_typeNameOf_keyiter hit.typeIs (aU (ag (wpAny_isOneOf_keyiter hit.typeIs ?_))))
 refine (show wpAny _ _ (setField (.ref it) 1 (rawInt ((i:Int)+1))>>=_) _ _ s from ag (wpAny_setField ho hd (by simp) ?_));have BB:(s.heap.update it (Obj.mapFields (·.setIfInBounds 1 (rawInt ((i:Int)+1))))).IsKeyIter it d (i+1) es.size ep:=
  ⟨_,Heap.get?_update_self _ ho (Obj.isFreed_of_fields (Obj.data_mapFields hd _)),(Obj.cls_mapFields ..).trans hc,by rw [Obj.data_mapFields hd];simp [rawInt]⟩
 refine ag (wpAny_holding (ag (wpAny_isOneOf_keyiter (s:={ s with heap:=s.heap.update it (Obj.mapFields (·.setIfInBounds 1 (rawInt ((i:Int)+1)))) }) BB.typeIs (show wpAny _ _ (pure e.key) _ _ _ from aU (aU ⟨_,rfl,aU (hQ _ BB (Heap.SameBut.update ..))⟩)))))
theorem UW (q:Hd A s.heap) (hit:s.heap.IsKeyIter it d i es.size ep) (Bz:s.heap.get? d=some od) (uk:od.data=.dict es ep) (hx:es.size<=i)
 (hQ:∀h',Heap.ExtBut it s.heap h'->Q none { s with heap:=h' }):wpAny (model prog w) A (pyNext (.ref it)) Q E s:=by
 obtain ⟨o,ho,hc,hd⟩:=id hit;unfold pyNext;refine ag (wpAny_attempt (wpAny_callSpecial?_slot (name:=Str.ofString "__next__") hit.typeIs F.slot_dict_keyiterator_next (wpAny_call_entry F.slot_dict_keyiterator_next hit.typeIs F.entry_dict_keyiterator_next ?_ (F.args_dict_keyiterator_next_1 _))));refine ag (aU (ag (ag ?_)))
 first | refine ag (wpAny_typeNameOfWhole_keyiter hit.typeIs (aU (ag (wpAny_fieldsOf ho hd ?_)))) | refine ag (wpAny_typeNameOf_keyiter hit.typeIs (aU (ag (wpAny_fieldsOf ho hd ?_))))
 rw [show Builtin.Dict_items.ownsTuple "dict_keyiterator"=false by decide,if_neg fu];refine (show wpAny _ _ (if (Value.ref d==Value.none)=true then _ else _) _ _ s from ?_);rw [if_neg (show ¬((Value.ref d==Value.none)=true) from fu)];refine ag (aU (ag (wpAny_dictEntries Bz uk ?_)));rw [if_neg (by simp)];refine ag (aU (ag (wpAny_dictEpoch Bz uk ?_)));rw [if_neg (by simp)];refine aU ?_;dsimp only;rw [if_neg (show ¬((i:Int)<0) from Int.not_lt.mpr (Int.natCast_nonneg i)),i7,Array.getElem?_eq_none hx];dsimp only;refine ag ?_
 first | refine ag (wpAny_typeNameOfWhole_keyiter hit.typeIs (aU ?_)) | refine ag (wpAny_typeNameOf_keyiter hit.typeIs (aU ?_))
 refine (show wpAny _ _ (setField (.ref it) 0 .none>>=_) _ _ s from ag (wpAny_setField ho hd (by simp) ?_));have other:∀b o,b≠it->s.heap.get? b=some o->(s.heap.update it (Obj.mapFields (·.setIfInBounds 0 Value.none))).get? b=some o:=fun b o hb e=>(Heap.get?_update_other _ _ (aF hb)).trans e;refine Dd (A:=A.in1) (s:={ s with heap:=s.heap.update it (Obj.mapFields (·.setIfInBounds 0 Value.none)) }) (Hd.keep (A:=A.in1) q fun b C dx t tb e=>other b _ (fun z=>?_) e) fun e h' kk te=>?_
 ·rw [z,ho] at e;cases e;cases hc
 ·refine ag (wpAny_mono (CU (s0:=s) (fun b o hb z=>kk b o (other b o hb z)) te hQ) (fun b s' z=>?_) fun _ _ z=>z);obtain ⟨rfl,z⟩:=z;exact aU z
end
section
variable {X:Cx} {pins:List (Addr×Obj)} {σ:St} {H:Hp} {s:Shared} {a:Addr} {o:Obj} {u:HO}
theorem Inv.freeze (I:Inv X pins σ H s) (hu:H a=some u) (mu:zJ (some u)) (ho:s.heap.get? a=some o):Inv X pins σ (upd H a (.gG o u)) s:=by
 have xf:∀b xs,H b=some (.tup xs)->b≠a:=fun b xs r z=>by subst z;rw [hu] at r;cases r;exact mu
 have tY:∀b y,H b=some (.own y)->b≠a:=fun b y r z=>by subst z;rw [hu] at r;cases r;exact mu
 exact I.write (h':=s.heap) (t':=s.toks) (x:=a) (e:=a) (by rw [hu];exact mu) (.inl rfl) (fun b v _ e=>e) ⟨o,ho⟩
  ⟨ho,(I.af a u hu).fq (fun b v _ e=>e) (fun b e=>by rw [ao (tY b a e)];exact e) fun b xs e=>by rw [ao (xf b xs e)];exact e⟩
theorem Inv.II (I:Inv X pins σ H s) (hu:H a=some (.gG o u)) (h0:∀o u,X.gq a≠some (.gG o u)):Inv X pins σ (upd H a u) s:=by
 have ne:∀{b:Addr} {x:Option HO},H b=x->(∀o u,x≠some (.gG o u))->b≠a:=fun {b x} e hx z=>by subst z;rw [hu] at e;exact hx _ _ e.symm
 have st:∀b v,ef X.prog X.w H s.heap b v->ef X.prog X.w (upd H a u) s.heap b v:=fun b v x=>
  x.fq (fun c v _ e=>e) (fun c e=>by rw [ao (ne e fun _ _ z=>nomatch z)];exact e) fun c xs e=>by rw [ao (ne e fun _ _ z=>nomatch z)];exact e
 refine ⟨I.ok,I.os,I.bare,⟨I.base.keep,I.base.slot,fun b v q n hx=>?_,I.base.there,fun b xs q=>?_,fun b ob v q=>?_,fun b ps q=>?_⟩,I.loc,I.cell,?_,fun x c e=>?_,fun p hp=>?_,fun b v q=>?_,I.len⟩
 ·have e:=I.base.free b v q n hx;rw [ao (ne e fun _ _ z=>nomatch z)];exact e
 ·have e:=I.base.gA b xs q;rw [ao (ne e fun _ _ z=>nomatch z)];exact e
 ·have e:=I.base.gj b ob v q;rw [ao (fun z=>by subst z;exact h0 ob v q)];exact e
 ·obtain ⟨more,e⟩:=I.base.iu b ps q;exact ⟨more,by rw [ao (ne e fun _ _ z=>nomatch z)];exact e⟩
 ·rw [ao (ne I.free fun _ _ z=>nomatch z)];exact I.free
 ·rw [ao (ne (I.cD x c e) fun _ _ z=>nomatch z)];exact I.cD x c e
 ·obtain ⟨p1,p2,p3⟩:=I.pin p hp;exact ⟨p1,by rw [ao (ne p2 fun _ _ z=>nomatch z)];exact p2,p3⟩
 ·by_cases hb:b=a
  ·subst hb;rw [ai] at q;cases q;exact st b u (I.af b _ hu).2
  ·rw [ao hb] at q;exact st b v (I.af b v q)
end
noncomputable def ZL (gq:Hp) (t:TE):TE:=fun σ H Q=>t σ H fun x H1=>∃a o u,H1 a=some (.gG o u)/\(∀o u,gq a≠some (.gG o u))/\Q x (upd H1 a u)
theorem UO (he:PE X e t):PE X e (ZL X.gq t):=by
 intro pins s σ H Q I h;refine av (he pins s σ H _ I h) fun v s1 zz=>?_;obtain ⟨x,H1,I1,r1,q1⟩:=zz;obtain ⟨a,o,u,e1,e2,q⟩:=q1;exact ⟨x,_,I1.II e1 e2,r1,q⟩
noncomputable def LW (a:Addr) (o:Obj) (kvs:List (List Key×V)):It:=
 ⟨fun i H=>H a=some (.gG o (.dT kvs))/\i<kvs.length,fun i H x H'=>H'=H/\∃q k v,x=.ref q/\kvs[i]?=some (k,v)/\H q=some (.tup (k.map kV)),fun i H=>H a=some (.gG o (.dT kvs))/\kvs.length<=i⟩
theorem OY {α β:Type} {F:α->β->Prop} {l:List α} {m:List β} (h:Paired F l m) {i:Nat} {x:α} (hx:l[i]?=some x):∃y,m[i]?=some y/\F x y:=by
 induction h generalizing i with
 | nil=>simp at hx
 | cons r _ ih=>
  cases i with
  | zero=>simp at hx;subst hx;exact ⟨_,rfl,r⟩
  | succ i=>simpa using ih (by simpa using hx)
theorem Qi:∀{l:List (α×β)} {m:List (α×γ)},Paired F l m->(∀p q,F p q->p.1=q.1)->l.map (·.1)=m.map (·.1)
 | _,_,.nil,_=>rfl
 | _,_,.cons r t,h=>by rw [eR,eR,Qi t h,h _ _ r]
theorem N_ {X:Cx} {pins:List (Addr×Obj)} {σ:St} {H:Hp} {s:Shared} {a:Addr} {o:Obj} {kvs:List (List Key×V)} {es:Array DictEntry} {ep:Nat} (I:Inv X pins σ H s) (h:H a=some (.gG o (.dT kvs))) (hd:o.data=.dict es ep):
 s.heap.get? a=some o/\es.size=kvs.length/\∀(i:Nat) (k:List Key) (v:V),kvs[i]?=some (k,v)->∃(e:DictEntry) (q:Addr),es[i]?=some e/\e.key=Value.ref q/\H q=some (.tup (k.map kV)):=by
 obtain ⟨ho,_,_,xs,hp,o',BX,Fz,lL,hc,z8,he,hn⟩:=(show ef X.prog X.w H s.heap a (.gG o (.dT kvs)) from I.af a _ h);rw [ho] at lL;cases lL;rw [hd] at z8;cases z8;refine ⟨ho,?_,fun i k v hx=>?_⟩
 ·rw [<-qY,he,aD,Paired.length hp]
 ·obtain ⟨x,mq,_,r2,_⟩:=OY hp hx;refine ⟨_,x.2.1,by rw [<-Array.getElem?_toList,he,fv,mq];rfl,rfl,?_⟩;exact r2
theorem Xm {P:Program} {w:World} {K:aA} {tg:Expr} (a it:Addr) (o:Obj) (kvs:List (List Key×V)) {es:Array DictEntry} {ep:Nat} (hd:o.data=.dict es ep):
 vO P w K tg (LW a o kvs) [it] it (fun i h=>h.IsKeyIter it a i es.size ep) where
 mem:=by simp
 obj:=fun i h st b hb=>by
  have e:b=it:=by simpa using hb
  subst e;obtain ⟨o,e,_,d⟩:=st;exact ⟨o,e,fun v z=>by rw [d] at z;cases z⟩
 keep:=fun i h h' st k=>st.at fun o e=>k it (by simp) o e
 item:=by
  intro X hP hw hK _ i pins s σ H E I hf st hg;subst hP hw hK;obtain ⟨zw,hi⟩:=hg;obtain ⟨ho,_,iH⟩:=N_ I zw hd;obtain ⟨⟨k,v⟩,hx⟩:∃p,kvs[i]?=some p:=⟨kvs[i],by simp [hi]⟩;obtain ⟨e,q,he,hk,hq⟩:=iH i k v hx;obtain ⟨f0,f1,_,f3,f4,f5⟩:=hf it (by simp);refine VP st ho hd he fun h' ae sb=>?_;have I1:Inv X pins σ H { s with heap:=h' }:=I.turned (t':=s.toks) (fun b o hb e=>(sb.2 b hb).trans e) f0 f1 f3 f4 f5;rw [hk];exact ⟨_,rfl,letGo_keyiter (s':={ s with heap:=h' }) ae ⟨.ref q,H,I1,rfl,⟨rfl,q,k,v,rfl,hx,hq⟩,ae,fun b hb=>(hf b hb).1⟩⟩
 done:=by
  intro X hP hw hK hc i pins s σ H E I hf st hg;subst hP hw hK;obtain ⟨zw,hi⟩:=hg;obtain ⟨ho,hsz,_⟩:=N_ I zw hd;obtain ⟨f0,f1,_,f3,f4,f5⟩:=hf it (by simp);exact UW (zY hc I) st ho hd (by lia) fun h' eb=>⟨rfl,I.turned (t':=s.toks) (fun b o hb e=>eb b o hb e) f0 f1 f3 f4 f5⟩
 self:=fun _ _ _ _ _ st h=>wpAny_pyIter_keyiter st h
section
variable {X:Cx} {tg:Expr}
noncomputable def Zf (td:TE):TI:=fun σ H R=>td σ H fun x H1=>∃a kvs,x=.ref a/\H1 a=some (.dT kvs)/\((kvs.map (·.1)).Nodup->∀o,R (LW a o kvs) (upd H1 a (.gG o (.dT kvs))))
theorem UQ {d:Expr} {td:TE} (hl:PE X d td):PI X tg d (Zf td):=by
 intro pins s σ H R I h;refine av (hl pins s σ H _ I h) fun v s1 zz=>?_;obtain ⟨x,H1,I1,r1,q1⟩:=zz;obtain ⟨a,kvs,e,hq,q⟩:=q1;subst e;cases r1;obtain ⟨_,hs,xs,hp,o,es,ep,ho,hc,hd,_,hn⟩:=(show ef X.prog X.w H1 s1.heap a (.dT kvs) from I1.af a _ hq);have oE:(kvs.map (·.1)).Nodup:=by rw [Qi hp fun _ _ z=>z.1];exact hn
 refine VO hs ho hc hd ?_;have I2:=I1.freeze hq trivial ho;refine ⟨s1.heap.objs.size,[s1.heap.objs.size],_,_,_,rfl,I2.kept (t':=s1.toks) fun b o e=>cW _ e,Xm a _ o kvs hd,⟨_,jZ _ rfl,rfl,rfl⟩,fun b hb=>?_,q oE o⟩;have e:b=s1.heap.objs.size:=by simpa using hb
 subst e;exact I2.qP (az _) (I2.af.fresh (az _))
end
theorem Wn (Pv:Nat->St->Hp->Prop) (h0:Pv 0 (rB js σ) (upd H D (.lst [])))
 (hl:∀i aa H',i<=kvs.length->Pv i aa H'->H' a=some (.gG o (.dT kvs)))
 (hs:∀i k v q aa H',kvs[i]?=some (k,v)->H' q=some (.tup (k.map kV))->Pv i aa H'->g (.ref q) aa H' fun ee H3=>tc ee H3 fun ok H4=>if ok=true then te ee H4 fun y H5=>∃ys,H5 D=some (.lst ys)/\ys.length<sizeLine/\Pv (i+1) ee (upd H5 D (.lst (ys++[y]))) else Pv (i+1) ee H4)
 (hd:∀aa H',Pv kvs.length aa H'->Q (.ref D) H'):
 yE js g tc te σ Q (LW a o kvs) H D:=by
 refine ⟨fun i m σ H=>m=kvs.length-i/\i<=kvs.length/\Pv i σ H,⟨kvs.length,by simp,d9 _,h0⟩,?_⟩;rintro i m aa H' ⟨rfl,hi,p⟩
 by_cases bg:i<kvs.length
 ·refine .inr ⟨⟨hl i aa H' hi p,bg⟩,Pv (i+1),fun i9 H2 p'=>⟨kvs.length-(i+1),by omega,rfl,bg,p'⟩,fun x H2 y=>?_⟩;obtain ⟨e,q,k,v,rfl,hx,hq⟩:=y;subst e;exact hs i k v q aa _ hx hq p
 ·have e:i=kvs.length:=by lia
  subst e;exact .inl ⟨⟨hl _ aa H' hi p,az _⟩,hd aa H' p⟩
end L2
namespace TS
open PySem PyProof PyProof.Rows
noncomputable def xW:Bool->Keyed->Array Keyed->Nat->Nat->Nat->StateT SortSt Sem (Option Nat):=sortPriv% PySem.Builtin.gallop
class SK where
 num:Keyed->Int
 ok:Keyed->Prop
 kind:SortKind
noncomputable def N [SK] (p:Keyed):Int:=SK.num p
noncomputable def ft [SK] (p:Keyed):Prop:=SK.ok p
noncomputable def Kk [SK] (xs:Array Keyed) (i:Nat):Int:=match xs[i]? with
 | some p=>N p
 | none=>0
class gH [SK] (prog:Program) (w:World) (A:Around) (E:Value->Shared->Prop) (s:Shared):Prop where
 lt:∀{st:SortSt} {p q:Keyed} {Q:Option Bool->SortSt->Prop},kindOf st=SK.kind->ft p->ft q->Q (some (decide (N p<N q))) st->wpS (model prog w) A E s (lt' p q) Q st
section
variable [SK]
theorem wa (h:xs[i]?=ys[j]?):Kk xs i=Kk ys j:=by unfold Kk;rw [h]
theorem Vz (hs:src<xs.size) (hd:d<=src) (k:Nat):
 Kk (bubble xs src d) k=if k=src-d then Kk xs src else if src-d<k/\k<=src then Kk xs (k-1) else Kk xs k:=by
 have e:=getElem?_bubble hs d hd k
 by_cases h1:k=src-d
 ·rw [if_pos h1] at*;exact wa e
 rw [if_neg h1] at*
 by_cases h2:src-d<k/\k<=src
 ·rw [if_pos h2] at*;exact wa e
 ·rw [if_neg h2] at*;exact wa e
theorem Dh (hj:j<=xs.size) (k:Nat):Kk (mirror xs i j ((j-i) / 2)) k=if i<=k/\k<j then Kk xs (i+j-1-k) else Kk xs k:=by
 have e:=getElem?_mirror_all (i:=i) hj k
 by_cases h1:i<=k/\k<j
 ·rw [if_pos h1] at*;exact wa e
 ·rw [if_neg h1] at*;exact wa e
theorem Ig (hj:j<=xs.size) (he:∀k,i<=k->k<j->Kk xs k=Kk xs (j-1)) (k:Nat):Kk (mirror xs i j ((j-i) / 2)) k=Kk xs k:=by
 rw [Dh hj];split
 ·rename_i h;rw [he k h.1 h.2,he (i+j-1-k) (by omega) (by omega)]
 ·rfl
end
noncomputable def dB (left:Bool) (kv x:Int):Bool:=if left then decide (x<kv) else !decide (kv<x)
theorem A0 (h:x<=y) (hy:dB l kv y=true):dB l kv x=true:=by
 unfold dB at*;cases l<;>simp_all<;>lia
theorem MX (h:x<=y) (hy:dB l kv x=false):dB l kv y=false:=by
 cases e:dB l kv y with
 | false=>rfl
 | true=>rw [A0 h e] at hy;exact hy
section
variable [SK] {prog:Program} {w:World} {A:Around} {E:Value->Shared->Prop} {s:Shared} [gH prog w A E s] {st:SortSt}
theorem iR (he:a[i]?=some p) (h:Q p st):
 wpS (model prog w) A E s (elem' a i) Q st:=by
 rw [elem'_eq,he];exact wpS_pure h
theorem z_ (hk:kindOf st=SK.kind) (hp:ft p) (hq:ft q)
 (h:Q (some (decide (N p<N q))) st):wpS (model prog w) A E s (lt' p q) Q st:=gH.lt hk hp hq h
theorem Ai (hk:kindOf st=SK.kind)
 (he:a[i]?=some p) (hp:ft p) (hq:ft key) (h:Q (some (dB l (N key) (N p))) st):
 wpS (model prog w) A E s (do
  let x <-elem' a i
  if l=true then lt' x key else do
   let r <-lt' key x
   pure (Option.map (fun x=> !x) r)) Q st:=by
 refine wpS_bind (iR he ?_);cases l
 ·exact wpS_bind (z_ hk hq hp (wpS_pure h))
 ·exact z_ hk hp hq h
theorem jE (hI:∀p,p∈a.toList->ft p) (hi:i<a.size):∃p,a[i]?=some p/\ft p/\Kk a i=N p:=
 ⟨a[i],getElem?_pos _ i hi,hI _ (by simp),by unfold Kk;rw [getElem?_pos a i hi]⟩
noncomputable abbrev FO:=Option (Option Nat)×Nat×Nat
theorem PZ {P:Nat->Bool} {n lo hi:Nat} {f:Nat->FO->StateT SortSt Sem (ForInStep FO)}
 (hP:∀i j,i<=j->j<n->P j=true->P i=true)
 (hf:∀x lo hi,hi<=n->∀Q:ForInStep FO->SortSt->Prop,(hi<=lo->Q (.done (none,lo,hi)) st)->
  (lo<hi->P (lo+(hi-lo) / 2)=true->Q (.yield (none,lo+(hi-lo) / 2+1,hi)) st)->
  (lo<hi->P (lo+(hi-lo) / 2)=false->Q (.yield (none,lo,lo+(hi-lo) / 2)) st)->
  wpS (model prog w) A E s (f x (none,lo,hi)) Q st)
 (uj:lo<=hi) (hhi:hi<=n) (h1:∀i,i<lo->P i=true) (h2:∀i,hi<=i->i<n->P i=false):
 wpS (model prog w) A E s (forIn [:n] ((none,lo,hi):FO) f)
  (fun c ae=>ae=st/\∃k,c=(none,k,k)/\k<=n/\(∀i,i<k->P i=true)/\(∀i,k<=i->i<n->P i=false)) st:=by
 refine wpS_forRange
  (I:=fun x c ae=>ae=st/\∃lo hi,c=(none,lo,hi)/\lo<=hi/\hi<=n/\hi-lo<=n-x/\
   (∀i,i<lo->P i=true)/\(∀i,hi<=i->i<n->P i=false))
  ?_ ?_ ⟨rfl,lo,hi,rfl,uj,hhi,by lia,h1,h2⟩
 ·rintro x c ae _ hx ⟨rfl,lo,hi,rfl,a1,a2,a3,a4,a5⟩;refine hf x lo hi a2 _ (fun kr=>?_) (fun bg hm=>?_) (fun bg hm=>?_)
  ·obtain rfl:lo=hi:=by lia
   exact ⟨rfl,lo,rfl,a2,a4,a5⟩
  ·exact ⟨rfl,_,hi,rfl,by lia,a2,by omega,fun i ko=>hP i _ (by lia) (by lia) hm,a5⟩
  ·refine ⟨rfl,lo,_,rfl,by lia,by lia,by omega,a4,fun i ko gx=>?_⟩
   cases e:P i with
   | false=>rfl
   | true=>rw [hP _ i ko gx e] at hm;exact hm
 ·rintro c ae ⟨rfl,lo,hi,rfl,a1,a2,a3,a4,a5⟩;obtain rfl:lo=hi:=by simp at a3;lia
  exact ⟨rfl,lo,rfl,a2,a4,a5⟩
theorem CM (hk:kindOf st=SK.kind)
 (hI:∀p,p∈a.toList->ft p) (hq:ft key) (hn:b+n<=a.size) (hs:∀i j,i<=j->j<n->Kk a (b+i)<=Kk a (b+j)) (hh:hint<n)
 (h:∀k,k<=n->(∀i,i<k->dB l (N key) (Kk a (b+i))=true)->(∀i,k<=i->i<n->dB l (N key) (Kk a (b+i))=false)->Q (some k) st):
 wpS (model prog w) A E s (xW l key a b n hint) Q st:=by
 refine wpS_bind ?_;obtain ⟨p,e1,e2,e3⟩:=jE hI (i:=b+hint) (by lia);refine Ai hk e1 e2 hq ?_;rw [<-e3]
 cases e:dB l (N key) (Kk a (b+hint)) with
 | true=>
  dsimp only;rw [if_pos rfl];refine wpS_bind (wpS_mono (wpS_forRange
   (I:=fun x c ae=>ae=st/\∃lo d7,c=(none,lo,d7)/\lo<d7/\x<d7/\hint+lo<n/\dB l (N key) (Kk a (b+(hint+lo)))=true)
   (Q:=fun c ae=>ae=st/\∃lo d7,c=(none,lo,d7)/\lo<d7/\hint+lo<n/\dB l (N key) (Kk a (b+(hint+lo)))=true/\
    (hint+d7<n->dB l (N key) (Kk a (b+(hint+d7)))=false))
   ?_ ?_ ⟨rfl,0,1,rfl,by exact Nat.le.refl,by exact Nat.le.refl,by omega,e⟩) ?_)
  ·rintro x c ae _ _ ⟨rfl,lo,d7,rfl,a1,a2,a3,a4⟩;dsimp only
   by_cases kr:d7>=n-hint
   ·rw [if_pos kr];exact wpS_pure ⟨rfl,lo,d7,rfl,a1,a3,a4,fun h=>absurd h (by lia)⟩
   ·rw [if_neg kr];obtain ⟨p,e1,e2,e3⟩:=jE hI (i:=b+(hint+d7)) (by lia);refine wpS_bind (Ai hk e1 e2 hq ?_);rw [<-e3]
    cases e':dB l (N key) (Kk a (b+(hint+d7))) with
    | true=>exact wpS_pure ⟨rfl,d7,2*d7+1,rfl,by lia,by lia,by lia,e'⟩
    | false=>exact wpS_pure ⟨rfl,lo,d7,rfl,a1,a3,a4,fun _=>e'⟩
  ·rintro c ae ⟨rfl,lo,d7,rfl,a1,a2,a3,a4⟩;exact ⟨rfl,lo,d7,rfl,a1,a3,a4,fun h=>absurd h (by simp at a2;lia)⟩
  ·rintro c ae ⟨rfl,lo,d7,rfl,a1,a3,a4,a5⟩;dsimp only;refine wpS_bind (wpS_mono (PZ (P:=fun i=>dB l (N key) (Kk a (b+i))) (fun i j ff hj e=>A0 (hs i j ff hj) e)
    ?_ (by omega) (by omega) (fun i hi=>?_) (fun i hi gx=>?_)) ?_)
   ·intro _ lo hi hhn Q' c1 c2 c3;dsimp only
    by_cases kr:lo>=hi
    ·rw [if_pos kr];exact wpS_pure (c1 kr)
    ·rw [if_neg kr];obtain ⟨p,e1,e2,e3⟩:=jE hI (i:=b+(lo+(hi-lo) / 2)) (by lia);refine wpS_bind (Ai hk e1 e2 hq ?_);rw [<-e3]
     cases e':dB l (N key) (Kk a (b+(lo+(hi-lo) / 2))) with
     | true=>exact wpS_pure (c2 (by lia) e')
     | false=>exact wpS_pure (c3 (by lia) e')
   ·exact A0 (hs i (hint+lo) (by lia) (by omega)) a4
   ·exact MX (hs (hint+d7) i (by omega) (by omega)) (a5 (by lia))
   ·rintro c ae ⟨rfl,k,rfl,b1,b2,b3⟩;exact wpS_pure (h k b1 b2 b3)
 | false=>
  dsimp only;rw [if_neg (by decide)];refine wpS_bind (wpS_mono (wpS_forRange
   (I:=fun x c ae=>ae=st/\∃lo d7,c=(none,lo,d7)/\lo<d7/\x<d7/\lo<=hint/\dB l (N key) (Kk a (b+(hint-lo)))=false)
   (Q:=fun c ae=>ae=st/\∃lo d7,c=(none,lo,d7)/\lo<d7/\lo<=hint/\dB l (N key) (Kk a (b+(hint-lo)))=false/\
    (d7<=hint->dB l (N key) (Kk a (b+(hint-d7)))=true))
   ?_ ?_ ⟨rfl,0,1,rfl,by exact Nat.le.refl,by exact Nat.le.refl,by lia,e⟩) ?_)
  ·rintro x c ae _ _ ⟨rfl,lo,d7,rfl,a1,a2,a3,a4⟩;dsimp only
   by_cases kr:d7>=hint+1
   ·rw [if_pos kr];exact wpS_pure ⟨rfl,lo,d7,rfl,a1,a3,a4,fun h=>absurd h (by exact Nat.not_le_of_lt kr)⟩
   ·rw [if_neg kr];obtain ⟨p,e1,e2,e3⟩:=jE hI (i:=b+(hint-d7)) (by lia);refine wpS_bind (Ai hk e1 e2 hq ?_);rw [<-e3]
    cases e':dB l (N key) (Kk a (b+(hint-d7))) with
    | true=>exact wpS_pure ⟨rfl,lo,d7,rfl,a1,a3,a4,fun _=>e'⟩
    | false=>exact wpS_pure ⟨rfl,d7,2*d7+1,rfl,by lia,by lia,by lia,e'⟩
  ·rintro c ae ⟨rfl,lo,d7,rfl,a1,a2,a3,a4⟩;exact ⟨rfl,lo,d7,rfl,a1,a3,a4,fun h=>absurd h (by simp at a2;lia)⟩
  ·rintro c ae ⟨rfl,lo,d7,rfl,a1,a3,a4,a5⟩;dsimp only;refine wpS_bind (wpS_mono (PZ (P:=fun i=>dB l (N key) (Kk a (b+i))) (fun i j ff hj e=>A0 (hs i j ff hj) e)
    ?_ (by omega) (by lia) (fun i hi=>?_) (fun i hi gx=>?_)) ?_)
   ·intro _ lo hi hhn Q' c1 c2 c3;dsimp only
    by_cases kr:lo>=hi
    ·rw [if_pos kr];exact wpS_pure (c1 kr)
    ·rw [if_neg kr];obtain ⟨p,e1,e2,e3⟩:=jE hI (i:=b+(lo+(hi-lo) / 2)) (by lia);refine wpS_bind (Ai hk e1 e2 hq ?_);rw [<-e3]
     cases e':dB l (N key) (Kk a (b+(lo+(hi-lo) / 2))) with
     | true=>exact wpS_pure (c2 (by lia) e')
     | false=>exact wpS_pure (c3 (by lia) e')
   ·exact A0 (hs i (hint-d7) (by omega) (by lia)) (a5 (by omega))
   ·exact MX (hs (hint-lo) i (by omega) (by omega)) a4
   ·rintro c ae ⟨rfl,k,rfl,b1,b2,b3⟩;exact wpS_pure (h k b1 b2 b3)
end
structure Iv (r:Keyed->Keyed->Prop) (W O X Y:List Keyed):Prop where
 perm:(O++(X++Y)).Perm W
 IS:O.Pairwise r
 sx:X.Pairwise r
 sy:Y.Pairwise r
 lx:∀p∈O,∀q∈X,r p q
 ly:∀p∈O,∀q∈Y,r p q
noncomputable def Out (r:Keyed->Keyed->Prop) (W R:List Keyed):Prop:=R.Perm W/\R.Pairwise r
theorem Iv.symm {r W O X Y} (h:Iv r W O X Y):Iv r W O Y X:=
 ⟨((List.perm_append_comm (l₁:=Y) (l₂:=X)).append_left O).trans h.perm,h.IS,h.sy,h.sx,h.ly,h.lx⟩
theorem Iv.kQ {r W O u v Y} (h:Iv r W O (u++v) Y) (hc:∀p∈u,∀q∈Y,r p q):Iv r W (O++u) v Y:=by
 have hp:=List.pairwise_append.mp h.sx;refine ⟨by simpa [List.append_assoc] using h.perm,?_,hp.2.1,h.sy,?_,?_⟩
 ·exact List.pairwise_append.mpr ⟨h.IS,hp.1,fun p gO q hq=>h.lx p gO q (iL _ hq)⟩
 ·intro p gO q hq;rcases i8.mp gO with h' | h'
  ·exact h.lx p h' q (kE _ hq)
  ·exact hp.2.2 p h' q hq
 ·intro p gO q hq;rcases i8.mp gO with h' | h'
  ·exact h.ly p h' q hq
  ·exact hc p h' q hq
theorem Iv.nj {r W O X u v} (h:Iv r W O X (u++v)) (hc:∀p∈u,∀q∈X,r p q):Iv r W (O++u) X v:=(h.symm.kQ hc).symm
theorem Iv.fin {r W O X Y R} (h:Iv r W O X Y) (hp:R.Perm (X++Y)) (hs:R.Pairwise r):Out r W (O++R):=by
 refine ⟨(hp.append_left O).trans h.perm,List.pairwise_append.mpr ⟨h.IS,hs,fun p gO q hq=>?_⟩⟩;rcases i8.mp (hp.mem_iff.mp hq) with h' | h'
 ·exact h.lx p gO q h'
 ·exact h.ly p gO q h'
section
variable [SK]
noncomputable def le (p q:Keyed):Prop:=N p<=N q
noncomputable def ge (p q:Keyed):Prop:=N q<=N p
theorem yS {a:Array Keyed} {i k:Nat} (h:i+k<=a.size):a.toList.drop i=(a.extract i (i+k)).toList++a.toList.drop (i+k):=by
 rw [Array.toList_extract,List.extract_eq_take_drop,Nat.add_sub_cancel_left,<-List.drop_drop,List.take_append_drop]
theorem Ph {a:Array Keyed} {i:Nat} {p:Keyed} (h:a[i]?=some p):a.toList.drop i=[p]++a.toList.drop (i+1):=by
 obtain ⟨hi,rfl⟩:=Array.getElem?_eq_some_iff.mp h;rw [List.drop_eq_getElem_cons (by simpa using hi)];simp
theorem An (h:p∈(a.extract i j).toList):∃m,i<=m/\m<j/\m<a.size/\Kk a m=N p:=by
 obtain ⟨m,hm,e⟩:=F8 h;simp only [qY,Array.size_extract] at hm;refine ⟨i+m,by lia,by omega,by omega,?_⟩;have:a[i+m]?=some p:=by
  rw [getElem?_pos a (i+m) (by omega)];simp only [Array.getElem_toList,Array.getElem_extract] at e;rw [e]
 unfold Kk;rw [this]
theorem sN (h:a[i]?=some p):Kk a i=N p:=by unfold Kk;rw [h]
theorem mH (hs:a.toList.Pairwise le) (ff:i<=j) (hj:j<a.size):Kk a i<=Kk a j:=by
 rcases Nat.lt_or_eq_of_le ff with h | rfl
 ·have e1:=getElem?_pos a i (by lia);have e2:=getElem?_pos a j hj;rw [sN e1,sN e2];have:=Cf.mp hs i j (by simp;omega) (by simp;omega) h;exact (by simpa using this:le a[i] a[j])
 ·exact Int.le_refl _
theorem sS (h:p∈a.toList.drop i):∃m,i<=m/\m<a.size/\Kk a m=N p:=by
 obtain ⟨m,hm,e⟩:=F8 h;simp only [vE,qY] at hm;refine ⟨i+m,by lia,by omega,sN ?_⟩;rw [getElem?_pos a (i+m) (by omega)];simpa using e
theorem sT (h:p∈a.toList.take i):∃m,m<i/\m<a.size/\Kk a m=N p:=by
 obtain ⟨m,hm,e⟩:=F8 h;simp only [ig,qY] at hm;refine ⟨m,by lia,by lia,sN ?_⟩;rw [getElem?_pos a m (by lia)];simpa using e
section lo
variable {a b out:Array Keyed} {ia ib:Nat} {W:List Keyed}
noncomputable abbrev Fv (W:List Keyed) (a b out:Array Keyed) (ia ib:Nat):Prop:=Iv le W out.toList (a.toList.drop ia) (b.toList.drop ib)
theorem Fv.wN (h:Fv W a b out ia ib) {k:Nat} (hk:ia+k<=a.size) (hc:∀p∈(a.extract ia (ia+k)).toList,∀q∈b.toList.drop ib,le p q):
 Fv W a b (out++a.extract ia (ia+k)) (ia+k) ib:=by
 unfold Fv at*;rw [yS hk] at h;rw [pD];exact h.kQ hc
theorem Fv.wM (h:Fv W a b out ia ib) {k:Nat} (hk:ib+k<=b.size) (hc:∀p∈(b.extract ib (ib+k)).toList,∀q∈a.toList.drop ia,le p q):
 Fv W a b (out++b.extract ib (ib+k)) ia (ib+k):=by
 unfold Fv at*;rw [yS hk] at h;rw [pD];exact h.nj hc
theorem Fv.oz (h:Fv W a b out ia ib) {p:Keyed} (e:a[ia]?=some p) (hc:∀q∈b.toList.drop ib,le p q):Fv W a b (out.push p) (ia+1) ib:=by
 unfold Fv at*;rw [Ph e] at h;rw [Array.toList_push];exact h.kQ (by simpa using hc)
theorem Fv.ow (h:Fv W a b out ia ib) {p:Keyed} (e:b[ib]?=some p) (hc:∀q∈a.toList.drop ia,le p q):Fv W a b (out.push p) ia (ib+1):=by
 unfold Fv at*;rw [Ph e] at h;rw [Array.toList_push];exact h.nj (by simpa using hc)
theorem C_ (a:Array Keyed) (i:Nat):(a.extract i a.size).toList=a.toList.drop i:=by
 rw [Array.toList_extract,List.extract_eq_take_drop];exact List.take_of_length_le (by simp)
theorem Fv.iX (h:Fv W a b out ia ib) (he:ia=a.size\/ib=b.size):Out le W (out++a.extract ia a.size++b.extract ib b.size).toList:=by
 rw [pD,pD,C_,C_,List.append_assoc];refine h.fin (List.Perm.refl _) ?_;rcases he with rfl | rfl
 ·rw [List.drop_of_length_le (by simp)];exact h.sy
 ·rw [show b.toList.drop b.size=[] from List.drop_of_length_le (by simp),List.append_nil];exact h.sx
theorem Fv.jY (h:Fv W a b out ia ib) (hc:∀p∈b.toList.drop ib,∀q∈a.toList.drop ia,le p q):Out le W (out++b.extract ib b.size++a.extract ia a.size).toList:=by
 rw [pD,pD,C_,C_,List.append_assoc];exact h.fin List.perm_append_comm (List.pairwise_append.mpr ⟨h.sy,h.sx,hc⟩)
end lo
section hi
variable {a b out:Array Keyed} {na nb:Nat} {W:List Keyed}
noncomputable abbrev Bv (W:List Keyed) (a b out:Array Keyed) (na nb:Nat):Prop:=Iv ge W out.toList (a.toList.take na).reverse (b.toList.take nb).reverse
theorem PU (h:i<=n):(a.toList.take n).reverse=(a.extract i n).reverse.toList++(a.toList.take i).reverse:=by
 rw [Array.toList_reverse,Array.toList_extract,List.extract_eq_take_drop,<-List.reverse_append];congr 1;rw [<-List.drop_take,]
 conv=>lhs;rw [<-List.take_append_drop i (a.toList.take n)]
 rw [List.take_take,Nat.min_eq_left h]
theorem Po (h:a[i]?=some p):(a.toList.take (i+1)).reverse=[p]++(a.toList.take i).reverse:=by
 obtain ⟨hi,rfl⟩:=Array.getElem?_eq_some_iff.mp h;rw [List.take_succ_eq_append_getElem (by simpa using hi),List.reverse_append];simp
theorem Bv.wN (h:Bv W a b out na nb) (hi:i<=na) (hc:∀p∈(a.extract i na).toList,∀q∈b.toList.take nb,ge p q):
 Bv W a b (out++(a.extract i na).reverse) i nb:=by
 unfold Bv at*;rw [PU hi] at h;rw [pD];exact h.kQ (by simpa using hc)
theorem Bv.wM (h:Bv W a b out na nb) (hi:i<=nb) (hc:∀p∈(b.extract i nb).toList,∀q∈a.toList.take na,ge p q):
 Bv W a b (out++(b.extract i nb).reverse) na i:=by
 unfold Bv at*;rw [PU hi] at h;rw [pD];exact h.nj (by simpa using hc)
theorem Bv.oz (h:Bv W a b out (na+1) nb) (e:a[na]?=some p) (hc:∀q∈b.toList.take nb,ge p q):Bv W a b (out.push p) na nb:=by
 unfold Bv at*;rw [Po e] at h;rw [Array.toList_push];exact h.kQ (by simpa using hc)
theorem Bv.ow (h:Bv W a b out na (nb+1)) (e:b[nb]?=some p) (hc:∀q∈a.toList.take na,ge p q):Bv W a b (out.push p) na nb:=by
 unfold Bv at*;rw [Po e] at h;rw [Array.toList_push];exact h.nj (by simpa using hc)
theorem Dk (a:Array Keyed) (i:Nat):(a.extract 0 i).toList=a.toList.take i:=by
 rw [Array.toList_extract,List.extract_eq_take_drop];simp
theorem Out.rev (h:Out ge W R):Out le W R.reverse:=⟨(List.reverse_perm R).trans h.1,List.pairwise_reverse.mpr h.2⟩
theorem Bv.iX (h:Bv W a b out na nb) (he:na=0\/nb=0):Out le W (a.extract 0 na++b.extract 0 nb++out.reverse).toList:=by
 have:(a.extract 0 na++b.extract 0 nb++out.reverse).toList=(out.toList++((b.toList.take nb).reverse++(a.toList.take na).reverse)).reverse:=by
  rw [pD,pD,Dk,Dk,Array.toList_reverse];simp
 rw [this];refine (h.fin List.perm_append_comm ?_).rev;rcases he with rfl | rfl
 ·simpa using h.sy
 ·simpa using h.sx
theorem Bv.jY (h:Bv W a b out na nb) (hc:∀p∈a.toList.take na,∀q∈b.toList.take nb,ge p q):Out le W (b.extract 0 nb++a.extract 0 na++out.reverse).toList:=by
 have:(b.extract 0 nb++a.extract 0 na++out.reverse).toList=(out.toList++((a.toList.take na).reverse++(b.toList.take nb).reverse)).reverse:=by
  rw [pD,pD,Dk,Dk,Array.toList_reverse];simp
 rw [this];exact (h.fin (List.Perm.refl _) (List.pairwise_append.mpr ⟨h.sx,h.sy,by simpa using hc⟩)).rev
end hi
end
noncomputable def mlo:Array Keyed->Array Keyed->StateT SortSt Sem (Array Keyed):=sortPriv% PySem.Builtin.mergeLo
noncomputable def mhi:Array Keyed->Array Keyed->StateT SortSt Sem (Array Keyed):=sortPriv% PySem.Builtin.mergeHi
structure Sm (st ae:SortSt):Prop where
 kind:kindOf ae=kindOf st
 arr:arrOf ae=arrOf st
 pend:pendingOf ae=pendingOf st
 fail:failedOf ae=failedOf st
theorem Sm.refl (st:SortSt):Sm st st:=⟨rfl,rfl,rfl,rfl⟩
noncomputable def smg:Nat->StateT SortSt Sem Unit:=sortPriv% PySem.Builtin.setMinGallop
section
variable [SK] {prog:Program} {w:World} {A:Around} {E:Value->Shared->Prop} {s:Shared} [gH prog w A E s] {st p_:SortSt} {a b:Array Keyed}
theorem eh (hc:c) (h:wpS (model prog w) A E s m Q st):
 wpS (model prog w) A E s (@ite _ c inst m n) Q st:=by rw [if_pos hc];exact h
theorem eg (hc:¬c) (h:wpS (model prog w) A E s n Q st):
 wpS (model prog w) A E s (@ite _ c inst m n) Q st:=by rw [if_neg hc];exact h
theorem CO (hm:Sm p_ st) (h:∀ae,Sm p_ ae->Q () ae):wpS (model prog w) A E s (smg g) Q st:=
 wpS_modify (h _ ⟨hm.kind,hm.arr,hm.pend,hm.fail⟩)
theorem Qu (hk:kindOf st=SK.kind)
 (hI:∀p,p∈a.toList->ft p) (hs:a.toList.Pairwise le) (hq:ft key) (hi:i<a.size)
 (h:∀k,i+k<=a.size->(∀m,i<=m->m<i+k->dB l (N key) (Kk a m)=true)->(∀m,i+k<=m->m<a.size->dB l (N key) (Kk a m)=false)->Q (some k) st):
 wpS (model prog w) A E s (xW l key a i (a.size-i) 0) Q st:=by
 refine CM hk hI hq (by lia) (fun x y pf hy=>mH hs (by lia) (by lia)) (by omega) fun k h1 h2 h3=>?_;refine h k (by lia) (fun m m1 m2=>?_) (fun m m1 m2=>?_)
 ·have:=h2 (m-i) (by lia);rwa [show i+(m-i)=m by lia] at this
 ·have:=h3 (m-i) (by lia) (by omega);rwa [show i+(m-i)=m by lia] at this
noncomputable def SQ {β:Type} (Q I:β->SortSt->Prop):ForInStep β->SortSt->Prop
 | .done c,st=>Q c st
 | .yield c,st=>I c st
theorem rJ (I:Nat->β->SortSt->Prop)
 (qD:∀i c st,i<n->I i c st->wpS (model prog w) A E s (f i c) (SQ Q (I (i+1))) st)
 (qJ:∀c st,I n c st->Q c st) (h:I 0 c st):wpS (model prog w) A E s (forIn [:n] c f) Q st:=
 wpS_forRange I (fun i c st _ hi hI=>wpS_mono (qD i c st hi hI) fun r ae h'=>by cases r<;>exact h')
  (fun c st h'=>qJ c st (by rwa [Nat.max_eq_right (d9 _)] at h')) h
theorem UL (hW:W=a.toList++b.toList) (hk:kindOf st=SK.kind)
 (ha:∀p,p∈a.toList->ft p) (hb:∀p,p∈b.toList->ft p) (sa:a.toList.Pairwise le) (sb:b.toList.Pairwise le)
 (na:0<a.size) (nb:0<b.size) (h0:Kk b 0<=Kk a 0) (hl:Kk b (b.size-1)<=Kk a (a.size-1))
 (h:∀r ae,Sm st ae->Out le W r.toList->Q r ae):wpS (model prog w) A E s (mlo a b) Q st:=by
 have fJ:∀{i j:Nat},i+1=a.size->∀p∈b.toList.drop j,∀q∈a.toList.drop i,le p q:=by
  intro i j hi p hp q hq;obtain ⟨x,_,x2,x3⟩:=sS hp;obtain ⟨y,y1,y2,y3⟩:=sS hq;unfold le;rw [<-x3,<-y3,show y=a.size-1 by lia];exact jq (mH sb (by lia) (by omega)) hl
 let J:Array Keyed->Nat->Nat->SortSt->Prop:=fun out ia ib ae=>Fv W a b out ia ib/\ia+1<a.size/\ib<b.size/\Sm st ae
 let F:Array Keyed->SortSt->Prop:=fun r ae=>Out le W r.toList/\Sm st ae
 refine wpS_bind (wpS_lift (wpAny_rule ⟨rfl,?_⟩));obtain ⟨y0,e0,_,k0⟩:=jE hb (i:=0) nb;refine wpS_bind (iR e0 ?_);have jb:Fv W a b #[y0] 0 1:=by
  have:Fv W a b #[] 0 0:=⟨by simp [hW],List.Pairwise.nil,sa,sb,by simp,by simp⟩;refine this.ow e0 fun q hq=>?_;obtain ⟨m,_,m2,m3⟩:=sS hq;unfold le;rw [<-m3,<-k0];exact jq h0 (mH sa (d9 _) m2)
 by_cases c1:1=b.size
 ·refine eh (c:=(1==b.size)=true) (by simpa using c1) ?_;exact wpS_pure (h _ _ (Sm.refl st) (jb.iX (.inr c1)))
 refine eg (c:=(1==b.size)=true) (by simpa using c1) ?_
 by_cases c2:0+1=a.size
 ·refine eh (c:=(0+1==a.size)=true) (by simpa using c2) ?_;exact wpS_pure (h _ _ (Sm.refl st) (jb.jY (fJ c2)))
 refine eg (c:=(0+1==a.size)=true) (by simpa using c2) ?_;refine wpS_bind (wpS_get ?_);refine wpS_bind (wpS_mono (rJ
  (I:=fun x c ae=>∃out ia ib mg,c=(none,out,ia,ib,mg)/\J out ia ib ae/\x<=ia+ib)
  (Q:=fun c ae=>∃r,c.1=some r/\F r ae) ?outer ?xc ⟨_,_,_,_,rfl,⟨jb,by lia,by lia,Sm.refl st⟩,by exact Nat.le.step Nat.le.refl⟩) ?post)
 case post=>
  rintro ⟨c1,c2⟩ ae ⟨r,rfl,hF⟩;exact wpS_pure (h r ae hF.2 hF.1)
 case xc=>
  rintro c ae ⟨out,ia,ib,mg,rfl,⟨_,j2,j3,_⟩,hx⟩;exfalso;lia
 case outer=>
  rintro x c ae hx ⟨out,ia,ib,mg,rfl,hJ,JX⟩;generalize ht0:ia+ib=t0 at JX;refine wpS_bind (wpS_mono (rJ
   (I:=fun x c ae=>∃out ia ib ac bc,c=(none,out,ia,ib,ac,bc)/\J out ia ib ae/\t0+x<=ia+ib)
   (Q:=fun c ae=>(∃r,c.1=some r/\F r ae)\/∃out ia ib ac bc,c=(none,out,ia,ib,ac,bc)/\J out ia ib ae/\t0+1<=ia+ib)
   ?one ?mf ⟨out,ia,ib,0,0,rfl,hJ,by lia⟩) ?two)
  case mf=>
   rintro c ae ⟨out,ia,ib,ac,bc,rfl,j,mq⟩;exact .inr ⟨out,ia,ib,ac,bc,rfl,j,by omega⟩
  case one=>
   rintro x' c ae _ ⟨out,ia,ib,ac,bc,rfl,⟨j1,j2,j3,j4⟩,mq⟩;obtain ⟨y,ey,iy,ky⟩:=jE hb (i:=ib) j3;obtain ⟨z,ez,iz,kz⟩:=jE ha (i:=ia) (by exact bo j2);refine wpS_bind (iR ey (wpS_bind (iR ez (wpS_bind (z_ (j4.kind.trans hk) iy iz ?_)))))
   by_cases bg:N y<N z
   ·rw [jo bg];refine wpS_bind (iR ey ?_);have qA:=j1.ow ey (fun q hq=>by
     obtain ⟨m,m1,m2,m3⟩:=sS hq;unfold le;rw [<-m3];exact jq (fV bg) (kz▸mH sa m1 m2))
    by_cases c3:ib+1=b.size
    ·refine eh (c:=(ib+1==b.size)=true) (by simpa using c3) ?_;exact wpS_pure (.inl ⟨_,rfl,qA.iX (.inr c3),j4⟩)
    refine eg (c:=(ib+1==b.size)=true) (by simpa using c3) ?_;have jj:J (out.push y) ia (ib+1) ae:=⟨qA,j2,by lia,j4⟩
    by_cases c4:bc+1>=mg
    ·refine eh c4 ?_;exact wpS_pure (.inr ⟨_,ia,ib+1,_,_,rfl,jj,by lia⟩)
    ·refine eg c4 ?_;exact wpS_pure ⟨_,ia,ib+1,_,_,rfl,jj,by lia⟩
   ·rw [fU bg];refine wpS_bind (iR ez ?_);have qA:=j1.oz ez (fun q hq=>by
     obtain ⟨m,m1,m2,m3⟩:=sS hq;unfold le;rw [<-m3];exact jq (Int.not_lt.mp bg) (ky▸mH sb m1 m2))
    by_cases c3:ia+1+1=a.size
    ·refine eh (c:=(ia+1+1==a.size)=true) (by simpa using c3) ?_;exact wpS_pure (.inl ⟨_,rfl,qA.jY (fJ c3),j4⟩)
    refine eg (c:=(ia+1+1==a.size)=true) (by simpa using c3) ?_;have jj:J (out.push z) (ia+1) ib ae:=⟨qA,by lia,j3,j4⟩
    by_cases c4:ac+1>=mg
    ·refine eh c4 ?_;exact wpS_pure (.inr ⟨_,ia+1,ib,_,_,rfl,jj,by lia⟩)
    ·refine eg c4 ?_;exact wpS_pure ⟨_,ia+1,ib,_,_,rfl,jj,by lia⟩
  case two=>
   rintro ⟨c1,c2⟩ aT (⟨r,rfl,hF⟩ | ⟨out,ia,ib,ac,bc,e,Lr,ht⟩)
   ·exact wpS_pure ⟨r,rfl,hF⟩
   cases e;refine wpS_bind (wpS_lift (wpAny_rule ⟨rfl,?_⟩));refine wpS_bind (wpS_mono (rJ
    (I:=fun _ c ae=>∃out ia ib mg ac bc,c=(none,out,ia,ib,mg,ac,bc)/\J out ia ib ae/\t0+1<=ia+ib)
    (Q:=fun c ae=>(∃r,c.1=some r/\F r ae)\/∃out ia ib mg ac bc,c=(none,out,ia,ib,mg,ac,bc)/\J out ia ib ae/\t0+1<=ia+ib)
    ?xW ?m8 ⟨_,_,_,_,_,_,rfl,Lr,ht⟩) ?three)
   case m8=>exact fun c ae hh=>.inr hh
   case three=>
    rintro ⟨c1,c2⟩ cb (⟨r,rfl,hF⟩ | ⟨out,ia,ib,mg,ac,bc,e,⟨j1,j2,j3,j4⟩,ht⟩)
    ·exact wpS_pure ⟨r,rfl,hF⟩
    cases e;exact wpS_bind (CO j4 fun cy rO=>wpS_pure ⟨out,ia,ib,_,rfl,⟨j1,j2,j3,rO⟩,by lia⟩)
   case xW=>
    rintro x' c cb _ ⟨out,ia,ib,mg,ac,bc,rfl,⟨j1,j2,j3,j4⟩,ht⟩
    extract_lets-underBinder+onlyGivenNames _ tD _ ia1 _ ib1 _ mg1 _ ac1 bc1 jp
    let R:ForInStep (Option (Array Keyed)×Array Keyed×Nat×Nat×Nat×Nat×Nat)->SortSt->Prop:=
     SQ (fun c ae=>(∃r,c.1=some r/\F r ae)\/∃out ia ib mg ac bc,c=(none,out,ia,ib,mg,ac,bc)/\J out ia ib ae/\t0+1<=ia+ib)
      (fun c ae=>∃out ia ib mg ac bc,c=(none,out,ia,ib,mg,ac,bc)/\J out ia ib ae/\t0+1<=ia+ib)
    have nH:∀(u:Unit) (g:Nat),wpS (model prog w) A E s (jp u g) R cb:=by
     intro _ g;refine wpS_bind (CO j4 fun cy rO=>?_);obtain ⟨y,ey,iy,ky⟩:=jE hb (i:=ib) j3;refine wpS_bind (iR ey (wpS_bind (Qu (rO.kind.trans hk) ha sa iy (i:=ia) (by exact bo j2) fun k g1 g2 g3=>?_)));dsimp-zeta only
     extract_lets-underBinder+onlyGivenNames ac2 xq
     have oB:=j1.wN g1 (fun p hp q hq=>by
      obtain ⟨m,m1,m2,_,m4⟩:=An hp;obtain ⟨m',n1,n2,n3⟩:=sS hq;have:=g2 m m1 m2;unfold le;rw [<-m4,<-n3];exact jq (by simpa [dB] using this) (ky▸mH sb n1 n2))
     have iW:∀(u:Unit) (out:Array Keyed) (i:Nat),Fv W a b out i ib->i+1<a.size->ia<=i->(∀m,i<=m->m<a.size->N y<Kk a m)->
      wpS (model prog w) A E s (xq u out i) R cy:=by
      intro _ out i f1 f2 f3 f4;refine wpS_bind (iR ey ?_);have f5:=f1.ow ey (fun q hq=>by
       obtain ⟨m',n1,n2,n3⟩:=sS hq;unfold le;rw [<-n3];exact fV (f4 m' n1 n2))
      by_cases c3:ib+1=b.size
      ·refine eh (c:=(ib+1==b.size)=true) (by simpa using c3) ?_;exact wpS_pure (.inl ⟨_,rfl,f5.iX (.inr c3),rO⟩)
      refine eg (c:=(ib+1==b.size)=true) (by simpa using c3) ?_;obtain ⟨z,ez,iz,kz⟩:=jE ha (i:=i) (by exact bo f2);refine wpS_bind (iR ez (wpS_bind (Qu (rO.kind.trans hk) hb sb iz (i:=ib+1) (by lia) fun k' Fw Lz Fu=>?_)));dsimp-zeta only
      extract_lets-underBinder+onlyGivenNames bc2 JR
      have jx:=f5.wM Fw (fun p hp q hq=>by
       obtain ⟨m,m1,m2,_,m4⟩:=An hp;obtain ⟨m',n1,n2,n3⟩:=sS hq;have:=Lz m m1 m2;unfold le;rw [<-m4,<-n3];exact jq (fV (by simpa [dB] using this)) (kz▸mH sa n1 n2))
      have qI:∀(u:Unit) (out:Array Keyed) (j:Nat),Fv W a b out i j->j<b.size->ib+1<=j->(∀m,j<=m->m<b.size->N z<=Kk b m)->
       wpS (model prog w) A E s (JR u out j) R cy:=by
       intro _ out j d1 d2 d3 d4;refine wpS_bind (iR ez ?_);have d5:=d1.oz ez (fun q hq=>by
        obtain ⟨m',n1,n2,n3⟩:=sS hq;unfold le;rw [<-n3];exact d4 m' n1 n2)
       by_cases c4:i+1+1=a.size
       ·refine eh (c:=(i+1+1==a.size)=true) (by simpa using c4) ?_;exact wpS_pure (.inl ⟨_,rfl,d5.jY (fJ c4),rO⟩)
       refine eg (c:=(i+1+1==a.size)=true) (by simpa using c4) ?_;have jj:J (out.push z) (i+1) j cy:=⟨d5,by lia,d2,rO⟩
       by_cases c5:(decide (k<7) && decide (k'<7))=true
       ·refine eh c5 ?_;exact wpS_pure (.inr ⟨_,i+1,j,_,_,_,rfl,jj,by lia⟩)
       ·refine eg c5 ?_;exact wpS_pure ⟨_,i+1,j,_,_,_,rfl,jj,by lia⟩
      by_cases c4:k'>0
      ·refine eh c4 ?_
       by_cases c5:ib+1+k'=b.size
       ·refine eh (c:=(ib+1+k'==b.size)=true) (by simpa using c5) ?_;exact wpS_pure (.inl ⟨_,rfl,jx.iX (.inr c5),rO⟩)
       refine eg (c:=(ib+1+k'==b.size)=true) (by simpa using c5) ?_;exact qI () _ (ib+1+k') jx (by lia) (by lia) fun m m1 m2=>by simpa [dB] using Fu m m1 m2
      ·refine eg c4 ?_;obtain rfl:k'=0:=by lia
       exact qI () _ (ib+1) f5 (by lia) (by exact Nat.le.refl) fun m m1 m2=>by simpa [dB] using Fu m m1 m2
     by_cases c4:k>0
     ·refine eh c4 ?_
      by_cases c5:ia+k+1=a.size
      ·refine eh (c:=(ia+k+1==a.size)=true) (by simpa using c5) ?_;exact wpS_pure (.inl ⟨_,rfl,oB.jY (fJ c5),rO⟩)
      refine eg (c:=(ia+k+1==a.size)=true) (by simpa using c5) ?_
      by_cases c6:ia+k=a.size
      ·refine eh (c:=(ia+k==a.size)=true) (by simpa using c6) ?_;exact wpS_pure (.inl ⟨_,rfl,oB.iX (.inl c6),rO⟩)
      refine eg (c:=(ia+k==a.size)=true) (by simpa using c6) ?_;exact iW () _ (ia+k) oB (by lia) (by lia) fun m m1 m2=>by simpa [dB] using g3 m m1 m2
     ·refine eg c4 ?_;obtain rfl:k=0:=by lia
      exact iW () _ ia j1 (by omega) (by exact Nat.le.refl) fun m m1 m2=>by simpa [dB] using g3 m m1 m2
    by_cases c5:mg>1
    ·refine eh c5 ?_;exact nH () (mg-1)
    ·refine eg c5 ?_;exact nH () mg
end
section
variable [SK] {prog:Program} {w:World} {A:Around} {E:Value->Shared->Prop} {s:Shared} [gH prog w A E s] {st p_:SortSt} {a b:Array Keyed}
theorem Qv (hk:kindOf st=SK.kind)
 (hI:∀p,p∈a.toList->ft p) (hs:a.toList.Pairwise le) (hq:ft key) (hn:n<=a.size) (h0:0<n)
 (h:∀k,k<=n->(∀m,m<k->dB l (N key) (Kk a m)=true)->(∀m,k<=m->m<n->dB l (N key) (Kk a m)=false)->Q (some k) st):
 wpS (model prog w) A E s (xW l key a 0 n (n-1)) Q st:=by
 refine CM hk hI hq (by lia) (fun x y pf hy=>mH hs (by lia) (by lia)) (by omega) fun k h1 h2 h3=>?_;refine h k h1 (fun m m1=>?_) (fun m m1 m2=>?_)
 ·have:=h2 m m1;rwa [Nat.zero_add] at this
 ·have:=h3 m m1 m2;rwa [Nat.zero_add] at this
theorem UK (hW:W=a.toList++b.toList) (hk:kindOf st=SK.kind)
 (ha:∀p,p∈a.toList->ft p) (hb:∀p,p∈b.toList->ft p) (sa:a.toList.Pairwise le) (sb:b.toList.Pairwise le)
 (pa:0<a.size) (pb:0<b.size) (h0:Kk b 0<=Kk a 0) (hl:Kk b (b.size-1)<=Kk a (a.size-1))
 (h:∀r ae,Sm st ae->Out le W r.toList->Q r ae):wpS (model prog w) A E s (mhi a b) Q st:=by
 have jT:∀{i j:Nat},j=1->∀p∈a.toList.take i,∀q∈b.toList.take j,ge p q:=by
  intro i j hj p hp q hq;obtain ⟨x,_,x2,x3⟩:=sT hp;obtain ⟨y,y1,_,y3⟩:=sT hq;unfold ge;rw [<-x3,<-y3,show y=0 by lia];exact jq h0 (mH sa (by lia) (by omega))
 let J:Array Keyed->Nat->Nat->SortSt->Prop:=fun out na nb ae=>Bv W a b out na nb/\0<na/\na<=a.size/\1<nb/\nb<=b.size/\Sm st ae
 let F:Array Keyed->SortSt->Prop:=fun r ae=>Out le W r.toList/\Sm st ae
 refine wpS_bind (wpS_lift (wpAny_rule ⟨rfl,?_⟩));obtain ⟨y0,e0,_,k0⟩:=jE ha (i:=a.size-1) (by omega);refine wpS_bind (iR e0 ?_);have jb:Bv W a b #[y0] (a.size-1) b.size:=by
  have:Bv W a b #[] (a.size-1+1) b.size:=by
   rw [show a.size-1+1=a.size by lia];unfold Bv;rw [List.take_of_length_le (by simp),List.take_of_length_le (by simp)];refine ⟨?_,List.Pairwise.nil,List.pairwise_reverse.mpr sa,List.pairwise_reverse.mpr sb,by simp,by simp⟩;rw [hW];exact (List.reverse_perm _).append (List.reverse_perm _)
  refine this.oz e0 fun q hq=>?_;obtain ⟨m,m1,_,m3⟩:=sT hq;unfold ge;rw [<-m3,<-k0];exact jq (mH sb (by lia) (by omega)) hl
 by_cases c1:a.size-1=0
 ·refine eh (c:=(a.size-1==0)=true) (by simpa using c1) ?_;exact wpS_pure (h _ _ (Sm.refl st) (jb.iX (.inl c1)))
 refine eg (c:=(a.size-1==0)=true) (by simpa using c1) ?_
 by_cases c2:b.size=1
 ·refine eh (c:=(b.size==1)=true) (by simpa using c2) ?_;exact wpS_pure (h _ _ (Sm.refl st) (jb.jY (jT c2)))
 refine eg (c:=(b.size==1)=true) (by simpa using c2) ?_;refine wpS_bind (wpS_get ?_);refine wpS_bind (wpS_mono (rJ
  (I:=fun x c ae=>∃na nb out mg,c=(none,na,nb,out,mg)/\J out na nb ae/\na+nb+x<=a.size+b.size)
  (Q:=fun c ae=>∃r,c.1=some r/\F r ae) ?outer ?xc ⟨a.size-1,b.size,_,_,rfl,⟨jb,by lia,by omega,by lia,by exact Nat.le.refl,Sm.refl st⟩,by lia⟩) ?post)
 case post=>
  rintro ⟨c1,c2⟩ ae ⟨r,rfl,hF⟩;exact wpS_pure (h r ae hF.2 hF.1)
 case xc=>
  rintro c ae ⟨na,nb,out,mg,rfl,⟨_,j2,_⟩,hx⟩;exfalso;lia
 case outer=>
  rintro x c ae _ ⟨na,nb,out,mg,rfl,hJ,JX⟩;obtain ⟨t0,ht0⟩:∃t0,na+nb=t0:=⟨_,rfl⟩;refine wpS_bind (wpS_mono (rJ
   (I:=fun x c ae=>∃na nb out ac bc,c=(none,na,nb,out,ac,bc)/\J out na nb ae/\na+nb+x<=t0)
   (Q:=fun c ae=>(∃r,c.1=some r/\F r ae)\/∃na nb out ac bc,c=(none,na,nb,out,ac,bc)/\J out na nb ae/\na+nb+1<=t0)
   ?one ?mf ⟨na,nb,out,0,0,rfl,hJ,by lia⟩) ?two)
  case mf=>
   rintro c ae ⟨na,nb,out,ac,bc,rfl,j,mq⟩;exact .inr ⟨na,nb,out,ac,bc,rfl,j,by lia⟩
  case one=>
   rintro x' c ae _ ⟨na,nb,out,ac,bc,rfl,⟨j1,j2,j3,j4,j5,j6⟩,mq⟩;obtain ⟨y,ey,iy,ky⟩:=jE hb (i:=nb-1) (by lia);obtain ⟨z,ez,iz,kz⟩:=jE ha (i:=na-1) (by lia);refine wpS_bind (iR ey (wpS_bind (iR ez (wpS_bind (z_ (j6.kind.trans hk) iy iz ?_)))))
   by_cases bg:N y<N z
   ·rw [jo bg];refine wpS_bind (iR ez ?_);have qA:Bv W a b (out.push z) (na-1) nb:=Bv.oz (by rwa [show na-1+1=na by lia]) ez (fun q hq=>by
     obtain ⟨m,m1,_,m3⟩:=sT hq;unfold ge;rw [<-m3];exact jq (ky▸mH sb (by lia) (by lia)) (fV bg))
    by_cases c3:na-1=0
    ·refine eh (c:=(na-1==0)=true) (by simpa using c3) ?_;exact wpS_pure (.inl ⟨_,rfl,qA.iX (.inl c3),j6⟩)
    refine eg (c:=(na-1==0)=true) (by simpa using c3) ?_;have jj:J (out.push z) (na-1) nb ae:=⟨qA,by lia,by lia,j4,j5,j6⟩
    by_cases c4:ac+1>=mg
    ·refine eh c4 ?_;exact wpS_pure (.inr ⟨na-1,nb,_,_,_,rfl,jj,by lia⟩)
    ·refine eg c4 ?_;exact wpS_pure ⟨na-1,nb,_,_,_,rfl,jj,by lia⟩
   ·rw [fU bg];refine wpS_bind (iR ey ?_);have qA:Bv W a b (out.push y) na (nb-1):=Bv.ow (by rwa [show nb-1+1=nb by lia]) ey (fun q hq=>by
     obtain ⟨m,m1,_,m3⟩:=sT hq;unfold ge;rw [<-m3];exact jq (kz▸mH sa (by lia) (by lia)) (Int.not_lt.mp bg))
    by_cases c3:nb-1=1
    ·refine eh (c:=(nb-1==1)=true) (by simpa using c3) ?_;exact wpS_pure (.inl ⟨_,rfl,qA.jY (jT c3),j6⟩)
    refine eg (c:=(nb-1==1)=true) (by simpa using c3) ?_;have jj:J (out.push y) na (nb-1) ae:=⟨qA,j2,j3,by lia,by lia,j6⟩
    by_cases c4:bc+1>=mg
    ·refine eh c4 ?_;exact wpS_pure (.inr ⟨na,nb-1,_,_,_,rfl,jj,by lia⟩)
    ·refine eg c4 ?_;exact wpS_pure ⟨na,nb-1,_,_,_,rfl,jj,by lia⟩
  case two=>
   rintro ⟨c1,c2⟩ aT (⟨r,rfl,hF⟩ | ⟨na,nb,out,ac,bc,e,Lr,ht⟩)
   ·exact wpS_pure ⟨r,rfl,hF⟩
   cases e;refine wpS_bind (wpS_lift (wpAny_rule ⟨rfl,?_⟩));refine wpS_bind (wpS_mono (rJ
    (I:=fun _ c ae=>∃na nb out mg ac bc,c=(none,na,nb,out,mg,ac,bc)/\J out na nb ae/\na+nb+1<=t0)
    (Q:=fun c ae=>(∃r,c.1=some r/\F r ae)\/∃na nb out mg ac bc,c=(none,na,nb,out,mg,ac,bc)/\J out na nb ae/\na+nb+1<=t0)
    ?xW ?m8 ⟨_,_,_,_,_,_,rfl,Lr,ht⟩) ?three)
   case m8=>exact fun c ae hh=>.inr hh
   case three=>
    rintro ⟨c1,c2⟩ cb (⟨r,rfl,hF⟩ | ⟨na,nb,out,mg,ac,bc,e,⟨j1,j2,j3,j4,j5,j6⟩,ht⟩)
    ·exact wpS_pure ⟨r,rfl,hF⟩
    cases e;exact wpS_bind (CO j6 fun cy rN=>wpS_pure ⟨na,nb,out,_,rfl,⟨j1,j2,j3,j4,j5,rN⟩,by lia⟩)
   case xW=>
    rintro x' c cb _ ⟨na,nb,out,mg,ac,bc,rfl,⟨j1,j2,j3,j4,j5,j6⟩,ht⟩
    extract_lets-underBinder+onlyGivenNames _ na1 _ nb1 _ tD _ mg1 _ ac1 bc1 jp
    let R:ForInStep (Option (Array Keyed)×Nat×Nat×Array Keyed×Nat×Nat×Nat)->SortSt->Prop:=
     SQ (fun c ae=>(∃r,c.1=some r/\F r ae)\/∃na nb out mg ac bc,c=(none,na,nb,out,mg,ac,bc)/\J out na nb ae/\na+nb+1<=t0)
      (fun c ae=>∃na nb out mg ac bc,c=(none,na,nb,out,mg,ac,bc)/\J out na nb ae/\na+nb+1<=t0)
    have nH:∀(u:Unit) (g:Nat),wpS (model prog w) A E s (jp u g) R cb:=by
     intro _ g;refine wpS_bind (CO j6 fun cy rN=>?_);obtain ⟨y,ey,iy,ky⟩:=jE hb (i:=nb-1) (by omega);refine wpS_bind (iR ey (wpS_bind (Qv (rN.kind.trans hk) ha sa iy (n:=na) j3 j2 fun k g1 g2 g3=>?_)));dsimp-zeta only
     extract_lets-underBinder+onlyGivenNames kk ac2 xq
     have oB:=j1.wN g1 (fun p hp q hq=>by
      obtain ⟨m,m1,m2,_,m4⟩:=An hp;obtain ⟨m',n1,_,n3⟩:=sT hq;have:=g3 m m1 m2;unfold ge;rw [<-m4,<-n3];exact jq (ky▸mH sb (i:=m') (j:=nb-1) (by omega) (by omega)) (fV (by simpa [dB] using this)))
     have iW:∀(u:Unit) (i:Nat) (out:Array Keyed),Bv W a b out i nb->0<i->i<=na->(∀m,m<i->Kk a m<=N y)->
      wpS (model prog w) A E s (xq u i out) R cy:=by
      intro _ i out f1 f2 f3 f4;refine wpS_bind (iR ey ?_);have f5:Bv W a b (out.push y) i (nb-1):=Bv.ow (by rwa [show nb-1+1=nb by omega]) ey (fun q hq=>by
       obtain ⟨m',n1,_,n3⟩:=sT hq;unfold ge;rw [<-n3];exact f4 m' n1)
      by_cases c3:nb-1=1
      ·refine eh (c:=(nb-1==1)=true) (by simpa using c3) ?_;exact wpS_pure (.inl ⟨_,rfl,f5.jY (jT c3),rN⟩)
      refine eg (c:=(nb-1==1)=true) (by simpa using c3) ?_;obtain ⟨z,ez,iz,kz⟩:=jE ha (i:=i-1) (by omega);refine wpS_bind (iR ez (wpS_bind (Qv (rN.kind.trans hk) hb sb iz (n:=nb-1) (by omega) (by omega) fun k' Fw Lz Fu=>?_)));dsimp-zeta only
      extract_lets-underBinder+onlyGivenNames JO bc2 JR
      have jx:=f5.wM Fw (fun p hp q hq=>by
       obtain ⟨m,m1,m2,_,m4⟩:=An hp;obtain ⟨m',n1,_,n3⟩:=sT hq;have:=Fu m m1 m2;unfold ge;rw [<-m4,<-n3];exact jq (kz▸mH sa (i:=m') (j:=i-1) (by omega) (by omega)) (by simpa [dB] using this))
      have qI:∀(u:Unit) (j:Nat) (out:Array Keyed),Bv W a b out i j->1<j->j<=nb-1->(∀m,m<j->Kk b m<=N z)->
       wpS (model prog w) A E s (JR u j out) R cy:=by
       intro _ j out d1 d2 d3 d4;refine wpS_bind (iR ez ?_);have d5:Bv W a b (out.push z) (i-1) j:=Bv.oz (by rwa [show i-1+1=i by omega]) ez (fun q hq=>by
        obtain ⟨m',n1,_,n3⟩:=sT hq;unfold ge;rw [<-n3];exact d4 m' n1)
       by_cases c4:i-1=0
       ·refine eh (c:=(i-1==0)=true) (by simpa using c4) ?_;exact wpS_pure (.inl ⟨_,rfl,d5.iX (.inl c4),rN⟩)
       refine eg (c:=(i-1==0)=true) (by simpa using c4) ?_;have jj:J (out.push z) (i-1) j cy:=⟨d5,by lia,by omega,d2,by omega,rN⟩
       by_cases c5:(decide (na-k<7) && decide (nb-1-k'<7))=true
       ·refine eh c5 ?_;exact wpS_pure (.inr ⟨i-1,j,_,_,_,_,rfl,jj,by omega⟩)
       ·refine eg c5 ?_;exact wpS_pure ⟨i-1,j,_,_,_,_,rfl,jj,by omega⟩
      have hz:∀m,m<k'->Kk b m<=N z:=fun m m1=>fV (by simpa [dB] using Lz m m1)
      by_cases c4:nb-1-k'>0
      ·refine eh c4 ?_
       by_cases c5:k'=1
       ·refine eh (c:=(k'==1)=true) (by simpa using c5) ?_;exact wpS_pure (.inl ⟨_,rfl,jx.jY (jT c5),rN⟩)
       refine eg (c:=(k'==1)=true) (by simpa using c5) ?_
       by_cases c6:k'=0
       ·refine eh (c:=(k'==0)=true) (by simpa using c6) ?_;exact wpS_pure (.inl ⟨_,rfl,jx.iX (.inr c6),rN⟩)
       refine eg (c:=(k'==0)=true) (by simpa using c6) ?_;exact qI () k' _ jx (by lia) (by omega) hz
      ·refine eg c4 ?_;obtain rfl:k'=nb-1:=by omega
       exact qI () (nb-1) _ f5 (by omega) (by omega) hz
     have hy:∀m,m<k->Kk a m<=N y:=fun m m1=>by simpa [dB] using g2 m m1
     by_cases c4:na-k>0
     ·refine eh c4 ?_
      by_cases c5:k=0
      ·refine eh (c:=(k==0)=true) (by simpa using c5) ?_;exact wpS_pure (.inl ⟨_,rfl,oB.iX (.inl c5),rN⟩)
      refine eg (c:=(k==0)=true) (by simpa using c5) ?_;exact iW () k _ oB (by lia) (by omega) hy
     ·refine eg c4 ?_;obtain rfl:k=na:=by omega
      exact iW () k _ j1 (by omega) (by omega) hy
    by_cases c5:mg>1
    ·refine eh c5 ?_;exact nH () (mg-1)
    ·refine eg c5 ?_;exact nH () mg
end
section
variable [SK]
noncomputable def eU (xs:Array Keyed) (a b:Nat):Prop:=∀i j,a<=i->i<=j->j<b->Kk xs i<=Kk xs j
theorem P4 (sa:Nat):∀(l:List Keyed) (n:Nat) (xs:Array Keyed),sa+n+l.length<=xs.size->
 ((l.zipIdx n).foldl (fun a (pj:Keyed×Nat)=>a.setIfInBounds (sa+pj.2) pj.1) xs).toList
   =xs.toList.take (sa+n)++(l++xs.toList.drop (sa+n+l.length))
 | [],n,xs,_=>by simp
 | p::t,n,xs,h=>by
  simp only [kD] at h;rw [List.zipIdx_cons,List.foldl_cons,P4 sa t (n+1) _ (by simp;lia)];simp only [Array.toList_setIfInBounds];rw [show sa+(n+1)=sa+n+1 by exact Eq.refl (sa+(n+1)),List.drop_set_of_lt (by lia),kD,
   show sa+n+1+t.length=sa+n+(t.length+1) by lia]
  have:(xs.toList.set (sa+n) p).take (sa+n+1)=xs.toList.take (sa+n)++[p]:=by
   rw [List.take_succ_eq_append_getElem (by simp;lia),List.take_set_of_le (az _)];simp
  rw [this];simp
section seg
variable {xs ys:Array Keyed} {a b:Nat} {M:List Keyed}
theorem Zv (h:ys.toList=xs.toList.take a++(M++xs.toList.drop (a+M.length))) (hs:a+M.length<=xs.size):
 (∀m,m<a\/a+M.length<=m->Kk ys m=Kk xs m)/\∀m,(hm:m<M.length)->Kk ys (a+m)=N M[m]:=by
 have hl:(xs.toList.take a).length=a:=by simp;lia
 refine ⟨fun m hm=>?_,fun m hm=>?_⟩
 ·refine wa ?_;rw [<-Array.getElem?_toList,<-Array.getElem?_toList,h];rcases hm with hm | hm
  ·rw [r_ (by lia),List.getElem?_take_of_lt hm]
  ·rw [qW (by lia),hl,qW (by lia),List.getElem?_drop];congr 1;lia
 ·refine sN ?_;rw [<-Array.getElem?_toList,h,qW (by lia),hl,Nat.add_sub_cancel_left,r_ hm,kF hm]
theorem VW (h:ys.toList=xs.toList.take a++(M++xs.toList.drop (a+M.length))) (hM:M.Perm (xs.extract a b).toList) (hb:b<=xs.size) (lN:a<=b):ys.Perm xs:=by
 have hl:M.length=b-a:=by rw [hM.length_eq];simp;lia
 refine Array.perm_iff_toList_perm.mpr ?_;rw [h];have e:xs.toList=xs.toList.take a++((xs.extract a b).toList++xs.toList.drop (a+M.length)):=by
  conv=>lhs;rw [<-List.take_append_drop a xs.toList]
  congr 1;have:=yS (a:=xs) (i:=a) (k:=b-a) (by lia);rw [show a+(b-a)=b by omega] at this;rw [this,show a+M.length=b by lia]
 conv=>rhs;rw [e]
 exact (hM.append_right _).append_left _
end seg
structure Bs (a₀:Array Keyed) (st:SortSt):Prop where
 perm:(arrOf st).Perm a₀
 kind:kindOf st=SK.kind
 fail:failedOf st=none
theorem Bs.size {a₀:Array Keyed} {st:SortSt} (h:Bs a₀ st):(arrOf st).size=a₀.size:=h.perm.size_eq
theorem Bs.nums {a₀:Array Keyed} {st:SortSt} (h:Bs a₀ st) (h0:∀p,p∈a₀.toList->ft p):∀p,p∈(arrOf st).toList->ft p:=
 fun p hp=>h0 p ((Array.perm_iff_toList_perm.mp h.perm).mem_iff.mp hp)
theorem OM (hs:eU xs a b) (hb:b<=xs.size):(xs.extract a b).toList.Pairwise le:=by
 rw [Cf];intro i j hi hj ff;simp only [qY,Array.size_extract] at hi hj;simp only [Array.getElem_toList,Array.getElem_extract];have:=hs (a+i) (a+j) (by lia) (by lia) (by lia);rw [sN (getElem?_pos xs (a+i) (by lia)),sN (getElem?_pos xs (a+j) (by lia))] at this;exact this
theorem Cv (hm:a+m<b) (_hb:b<=xs.size):Kk (xs.extract a b) m=Kk xs (a+m):=by
 refine wa ?_;rw [Array.getElem?_extract,if_pos (by lia)]
end
section
variable [SK] {prog:Program} {w:World} {A:Around} {E:Value->Shared->Prop} {s:Shared} [gH prog w A E s] {st:SortSt} {a₀:Array Keyed}
theorem Vw (h:Q ⟨⟩ ae):wpS (model prog w) A E s (set ae:StateT SortSt Sem PUnit) Q st:=by
 unfold wpS;rw [StateT.run_set];exact aU ⟨rfl,h⟩
theorem UJ (h0:∀p,p∈a₀.toList->ft p) (hB:Bs a₀ st)
 (hp:pendingOf st=(L++(sa,na,p)::(sb,nb,p')::T).toArray) (hi:i=L.length) (hadj:sb=sa+na) (K1:1<=na) (hnb:1<=nb)
 (hsz:sb+nb<=a₀.size) (s1:eU (arrOf st) sa sb) (s2:eU (arrOf st) sb (sb+nb))
 (h:∀ae,Bs a₀ ae->pendingOf ae=(L++(sa,na+nb,p)::T).toArray->eU (arrOf ae) sa (sb+nb)->
  (∀m,m<sa\/sb+nb<=m->Kk (arrOf ae) m=Kk (arrOf st) m)->Q true ae):
 wpS (model prog w) A E s (mergeAt' i) Q st:=by
 subst hi;have hI:=hB.nums h0;have Bt:=hB.size;refine wpS_bind (wpS_get ?_);have g1:(pendingOf st)[L.length]?=some (sa,na,p):=by rw [hp];simp
 have g2:(pendingOf st)[L.length+1]?=some (sb,nb,p'):=by rw [hp];simp
 have g3:((pendingOf st).setIfInBounds L.length (sa,na+nb,p)).eraseIdxIfInBounds (L.length+1)=(L++(sa,na+nb,p)::T).toArray:=by
  rw [hp];apply Array.toList_inj.mp;simp [List.eraseIdx_append_of_length_le]
 refine (show ((pendingOf st)[L.length]?,(pendingOf st)[L.length+1]?)=(some (sa,na,p),some (sb,nb,p')) by rw [g1,g2]).symm▸?_;refine wpS_bind (Vw (g3.symm▸?_));refine (fun (H:∀gv:SortSt,gv=SortSt.mk' (kindOf st) (arrOf st) ((L++(sa,na+nb,p)::T).toArray) (gallopOf st) (failedOf st)->
  wpS (model prog w) A E s _ Q gv)=>H _ rfl) ?_
 intro gv e1;have b1:Bs a₀ gv:=by rw [e1];exact ⟨hB.perm,hB.kind,hB.fail⟩
 have x1:arrOf gv=arrOf st:=by rw [e1]
 have p1:pendingOf gv=(L++(sa,na+nb,p)::T).toArray:=by rw [e1]
 have keep:eU (arrOf st) sa (sb+nb)->Q true gv:=fun hs=>h gv b1 p1 (by rw [x1];exact hs) (fun m _=>by rw [x1]);clear e1;obtain ⟨y,ey,iy,ky⟩:=jE hI (i:=sb) (by lia);refine wpS_bind (iR ey (wpS_bind (CM (a:=arrOf st) b1.kind hI iy (n:=na) (by lia) (fun i j ff hj=>s1 _ _ (by lia) (by lia) (by lia)) (by exact K1)
  fun k k1 k2 k3=>?_)))
 have ze:∀m,sa<=m->m<sa+k->Kk (arrOf st) m<=Kk (arrOf st) sb:=fun m m1 m2=>by
  have:=k2 (m-sa) (by lia);rw [show sa+(m-sa)=m by lia] at this;rw [ky];simpa [dB] using this
 have RE:∀m,sa+k<=m->m<sb->Kk (arrOf st) sb<Kk (arrOf st) m:=fun m m1 m2=>by
  have:=k3 (m-sa) (by lia) (by lia);rw [show sa+(m-sa)=m by lia] at this;rw [ky];simpa [dB] using this
 dsimp-zeta only
 by_cases c1:na-k=0
 ·refine eh (c:=(na-k==0)=true) (by simpa using c1) ?_;refine wpS_pure (keep fun i j h1 h2 h3=>?_)
  by_cases hj:j<sb
  ·exact s1 i j h1 h2 hj
  by_cases hi:sb<=i
  ·exact s2 i j hi h2 h3
  exact jq (ze i h1 (by lia)) (s2 sb j (az _) (by lia) h3)
 refine eg (c:=(na-k==0)=true) (by simpa using c1) ?_;obtain ⟨z,ez,iz,kz⟩:=jE hI (i:=sa+k+(na-k)-1) (by lia);have esb:sa+k+(na-k)-1=sb-1:=by lia
 refine wpS_bind (iR ez (wpS_bind (CM (a:=arrOf st) b1.kind hI iz (b:=sb) (n:=nb) (by lia) (fun i j ff hj=>s2 _ _ (by lia) (by lia) (by lia)) (by omega)
  fun jc q1 q2 q3=>?_)))
 rw [esb] at kz;have Rg:∀m,sb<=m->m<sb+jc->Kk (arrOf st) m<Kk (arrOf st) (sb-1):=fun m m1 m2=>by
  have:=q2 (m-sb) (by lia);rw [show sb+(m-sb)=m by lia] at this;rw [kz];simpa [dB] using this
 have Rf:∀m,sb+jc<=m->m<sb+nb->Kk (arrOf st) (sb-1)<=Kk (arrOf st) m:=fun m m1 m2=>by
  have:=q3 (m-sb) (by lia) (by lia);rw [show sb+(m-sb)=m by lia] at this;rw [kz];simpa [dB] using this
 dsimp-zeta only
 by_cases c2:jc=0
 ·refine eh (c:=(jc==0)=true) (by simpa using c2) ?_;refine wpS_pure (keep fun i j h1 h2 h3=>?_)
  by_cases hj:j<sb
  ·exact s1 i j h1 h2 hj
  by_cases hi:sb<=i
  ·exact s2 i j hi h2 h3
  exact jq (s1 i (sb-1) h1 (by lia) (by lia)) (Rf j (by lia) h3)
 refine eg (c:=(jc==0)=true) (by simpa using c2) ?_
 extract_lets-underBinder+onlyGivenNames x y' jp
 have Z_:x.size=na-k:=by show ((arrOf st).extract (sa+k) sb).size=_;rw [Array.size_extract];lia
 have Z':y'.size=jc:=by show ((arrOf st).extract sb (sb+jc)).size=_;rw [Array.size_extract];lia
 have hx:∀q,q∈x.toList->ft q:=fun q hq=>hI q (by
  have:q∈((arrOf st).extract (sa+k) sb).toList:=hq;rw [Array.toList_extract,List.extract_eq_take_drop] at this;exact List.mem_of_mem_drop (List.mem_of_mem_take this))
 have hy:∀q,q∈y'.toList->ft q:=fun q hq=>hI q (by
  have:q∈((arrOf st).extract sb (sb+jc)).toList:=hq;rw [Array.toList_extract,List.extract_eq_take_drop] at this;exact List.mem_of_mem_drop (List.mem_of_mem_take this))
 have ox:x.toList.Pairwise le:=OM (xs:=arrOf st) (fun i j h1 h2 h3=>s1 i j (by lia) h2 h3) (by lia);have oy:y'.toList.Pairwise le:=OM (xs:=arrOf st) (fun i j h1 h2 h3=>s2 i j h1 h2 (by lia)) (by lia);have hf:Kk y' 0<=Kk x 0:=by
  show Kk ((arrOf st).extract sb (sb+jc)) 0<=Kk ((arrOf st).extract (sa+k) sb) 0;rw [Cv (by lia) (by lia),Cv (by lia) (by lia)];exact fV (RE _ (by exact Nat.le.refl) (by lia))
 have hl:Kk y' (y'.size-1)<=Kk x (x.size-1):=by
  rw [Z_,Z'];show Kk ((arrOf st).extract sb (sb+jc)) _<=Kk ((arrOf st).extract (sa+k) sb) _;rw [Cv (by lia) (by lia),Cv (by lia) (by lia),show sa+k+(na-k-1)=sb-1 by lia];exact fV (Rg _ (by lia) (by lia))
 have hW:x.toList++y'.toList=((arrOf st).extract (sa+k) (sb+jc)).toList:=by
  have e1:=yS (a:=(arrOf st)) (i:=sa+k) (k:=na-k) (by omega);have e2:=yS (a:=(arrOf st)) (i:=sb) (k:=jc) (by lia);have e3:=yS (a:=(arrOf st)) (i:=sa+k) (k:=na-k+jc) (by omega);rw [show sa+k+(na-k)=sb by omega] at e1;rw [show sa+k+(na-k+jc)=sb+jc by omega] at e3;rw [e2] at e1;rw [e3,<-List.append_assoc] at e1;exact (List.append_cancel_right e1).symm
 have nH:∀r aT,Sm gv aT->Out le (x.toList++y'.toList) r.toList->wpS (model prog w) A E s (jp r) Q aT:=by
  intro r aT hm hO;rw [hW] at hO;have rl:r.toList.length=na-k+jc:=by rw [hO.1.length_eq];simp;lia
  refine wpS_bind (wpS_modify (wpS_bind (wpS_get (wpS_pure ?_))));have hY:=P4 (sa+k) r.toList 0 (arrOf aT) (by rw [hm.arr,x1];omega);rw [hm.arr,x1,Nat.add_zero] at hY;have xT:=Zv hY (by omega);have hP:=VW hY hO.1 (by lia) (by lia);have dY:∀m,sa+k<=m->m<sb+jc->∀v,v=Kk (List.foldl (fun a (pj:Keyed×Nat)=>a.setIfInBounds (sa+k+pj.2) pj.1) (arrOf st) (r.toList.zipIdx 0)) m->Kk (arrOf st) sb<=v/\v<=Kk (arrOf st) (sb-1):=by
   rintro m m1 m2 v rfl;have:=xT.2 (m-(sa+k)) (by omega);rw [show sa+k+(m-(sa+k))=m by lia] at this;rw [this];obtain ⟨m',n1,n2,_,n4⟩:=An (hO.1.mem_iff.mp (zH (l:=r.toList) (n:=m-(sa+k)) (by lia)));rw [<-n4]
   by_cases hc:m'<sb
   ·exact ⟨fV (RE m' n1 hc),s1 _ _ (by lia) (by lia) (by lia)⟩
   ·exact ⟨s2 _ _ (by exact Nat.le.refl) (by lia) (by lia),fV (Rg m' (by lia) n2)⟩
  have BE:(failedOf aT).isNone=true:=by rw [hm.fail,b1.fail];rfl
  have vv:List.foldl (fun a x=>match x with | (p,j)=>a.setIfInBounds (sa+k+j) p) (arrOf aT) r.toList.zipIdx
   =List.foldl (fun a (pj:Keyed×Nat)=>a.setIfInBounds (sa+k+pj.2) pj.1) (arrOf st) (r.toList.zipIdx 0):=by rw [hm.arr,x1]
  generalize List.foldl (fun a (pj:Keyed×Nat)=>a.setIfInBounds (sa+k+pj.2) pj.1) (arrOf st) (r.toList.zipIdx 0)=Y at vv hY xT hP dY;refine (show Q (failedOf aT).isNone (SortSt.mk' (kindOf aT) (List.foldl (fun a x=>match x with | (p,j)=>a.setIfInBounds (sa+k+j) p) (arrOf aT) r.toList.zipIdx) (pendingOf aT) (gallopOf aT) (failedOf aT)) from ?_);rw [vv,BE];refine h _ ⟨hP.trans hB.perm,hm.kind.trans b1.kind,hm.fail.trans b1.fail⟩ (hm.pend.trans p1) ?_ ?_
  ·show eU Y sa (sb+nb);have tD:∀m,m<sa+k->Kk Y m=Kk (arrOf st) m:=fun m m1=>xT.1 m (.inl m1);have t8:∀m,sb+jc<=m->Kk Y m=Kk (arrOf st) m:=fun m m1=>xT.1 m (.inr (by omega));intro i j h1 h2 h3
   by_cases i1:i<sa+k
   ·rw [tD i i1]
    by_cases j1:j<sa+k
    ·rw [tD j j1];exact s1 i j h1 h2 (by lia)
    have:=ze i h1 i1
    by_cases j2:j<sb+jc
    ·exact jq this (dY j (by lia) j2 _ rfl).1
    ·rw [t8 j (by lia)];exact jq this (s2 _ _ (az _) (by lia) h3)
   by_cases i2:i<sb+jc
   ·by_cases j2:j<sb+jc
    ·rcases Nat.lt_or_eq_of_le h2 with ff | rfl
     ·have e1:=xT.2 (i-(sa+k)) (by omega);have e2:=xT.2 (j-(sa+k)) (by lia);rw [show sa+k+(i-(sa+k))=i by lia] at e1;rw [show sa+k+(j-(sa+k))=j by lia] at e2;rw [e1,e2];exact Cf.mp hO.2 _ _ _ _ (by lia)
     ·exact Int.le_refl _
    ·rw [t8 j (by lia)];exact jq (dY i (by lia) i2 _ rfl).2 (Rf j (by lia) h3)
   ·rw [t8 i (by lia),t8 j (by lia)];exact s2 i j (by lia) h2 h3
  ·intro m RW;exact xT.1 m (by omega)
 by_cases c3:na-k<=jc
 ·refine eh c3 ?_;exact wpS_bind (UL rfl b1.kind hx hy ox oy (by lia) (by lia) hf hl fun r aT hm hO=>nH r aT hm hO)
 ·refine eg c3 ?_;exact wpS_bind (UK rfl b1.kind hx hy ox oy (by lia) (by lia) hf hl fun r aT hm hO=>nH r aT hm hO)
end
section
variable [SK]
noncomputable def Dec (xs:Array Keyed) (a b:Nat):Prop:=∀i j,a<=i->i<=j->j<b->Kk xs j<=Kk xs i
structure Go (a₀:Array Keyed) (lo:Nat) (st ae:SortSt):Prop where
 base:Bs a₀ ae
 pend:pendingOf ae=pendingOf st
 low:∀m,m<lo->Kk (arrOf ae) m=Kk (arrOf st) m
theorem Go.refl {a₀:Array Keyed} {lo:Nat} {st:SortSt} (h:Bs a₀ st):Go a₀ lo st st:=⟨h,rfl,fun _ _=>rfl⟩
theorem Go.put {a₀:Array Keyed} {lo:Nat} {st ae:SortSt} (h:Go a₀ lo st ae) {xs:Array Keyed} (hp:xs.Perm (arrOf ae)) (hl:∀m,m<lo->Kk xs m=Kk (arrOf ae) m):
 Go a₀ lo st (setArr ae xs):=⟨⟨hp.trans h.base.perm,h.base.kind,h.base.fail⟩,h.pend,fun m hm=>(hl m hm).trans (h.low m hm)⟩
theorem eU.snoc (h:eU xs a b) (hl:a<b->Kk xs (b-1)<=Kk xs b):eU xs a (b+1):=by
 intro i j h1 h2 h3
 by_cases hj:j<b
 ·exact h i j h1 h2 hj
 obtain rfl:j=b:=by lia
 by_cases hi:i=j
 ·rw [hi];exact Int.le_refl _
 ·exact jq (h i (j-1) h1 (by lia) (by lia)) (hl (by lia))
theorem Dec.snoc (h:Dec xs a b) (hl:a<b->Kk xs b<=Kk xs (b-1)):Dec xs a (b+1):=by
 intro i j h1 h2 h3
 by_cases hj:j<b
 ·exact h i j h1 h2 hj
 obtain rfl:j=b:=by lia
 by_cases hi:i=j
 ·rw [hi];exact Int.le_refl _
 ·exact jq (hl (by lia)) (h i (j-1) h1 (by lia) (by lia))
theorem eU.one (xs:Array Keyed) (a:Nat):eU xs a (a+1):=fun i j h1 h2 h3=>by
 obtain rfl:i=j:=by lia
 exact Int.le_refl _
theorem Dec.rev (h:Dec xs a b) (hb:b<=xs.size):eU (mirror xs a b ((b-a) / 2)) a b:=by
 intro i j h1 h2 h3;rw [Dh hb,Dh hb,if_pos ⟨h1,by lia⟩,if_pos ⟨by lia,h3⟩];exact h _ _ (by omega) (by omega) (by omega)
end
section
variable [SK] {prog:Program} {w:World} {A:Around} {E:Value->Shared->Prop} {s:Shared} [gH prog w A E s] {st:SortSt} {a₀:Array Keyed}
theorem Dt (I:Nat->β->SortSt->Prop) (han:a<=n)
 (qD:∀i c st,a<=i->i<n->I i c st->wpS (model prog w) A E s (f i c) (SQ Q (I (i+1))) st)
 (qJ:∀c st,I n c st->Q c st) (h:I a c st):wpS (model prog w) A E s (forIn [a:n] c f) Q st:=
 wpS_forRange I (fun i c st hai hi hI=>wpS_mono (qD i c st hai hi hI) fun r ae h'=>by cases r<;>exact h')
  (fun c st h'=>qJ c st (by rwa [Nat.max_eq_right han] at h')) h
theorem yx (h0:∀p,p∈a₀.toList->ft p) (hB:Bs a₀ st) (hi:i<a₀.size) (hj:j<a₀.size)
 (h:Q (some (decide (Kk (arrOf st) i<Kk (arrOf st) j))) st):wpS (model prog w) A E s (ltAt' i j) Q st:=by
 have hI:=hB.nums h0;obtain ⟨p,e1,i1,k1⟩:=jE hI (i:=i) (by rw [hB.size];exact hi);obtain ⟨q,e2,i2,k2⟩:=jE hI (i:=j) (by rw [hB.size];exact hj);rw [ltAt'_eq];refine wpS_bind (wpS_get (wpS_bind (iR e1 (wpS_bind (iR e2 (z_ hB.kind i1 i2 ?_))))))
 rwa [k1,k2] at h
theorem Wy {lo gD:Nat} {Q:Option Nat->SortSt->Prop} (h0:∀p,p∈a₀.toList->ft p) (hB:Bs a₀ st) (hn:lo+gD<=a₀.size) (h1:1<=gD)
 (h:∀m ae,1<=m->m<=gD->Go a₀ lo st ae->eU (arrOf ae) lo (lo+m)->Q (some m) ae):
 wpS (model prog w) A E s (countRun' lo gD) Q st:=by
 refine wpS_bind (wpS_mono (Dt
  (I:=fun x c ae=>ae=st/\c=(none,x)/\eU (arrOf st) lo (lo+x))
  (Q:=fun c ae=>ae=st/\∃n,c=(none,n)/\1<=n/\n<=gD/\eU (arrOf st) lo (lo+n)/\(n=gD\/Kk (arrOf st) (lo+n)<Kk (arrOf st) (lo+n-1)))
  h1 ?_ ?_ ⟨rfl,rfl,eU.one _ _⟩) ?_)
 ·rintro x c ae uc xr ⟨rfl,rfl,hs⟩;refine wpS_bind (yx h0 hB (by show lo+x<_;lia) (by show lo+x-1<_;omega) ?_)
  by_cases bg:Kk (arrOf ae) (lo+x)<Kk (arrOf ae) (lo+x-1)
  ·rw [jo bg];exact wpS_pure ⟨rfl,x,rfl,uc,by exact bo xr,hs,.inr bg⟩
  ·rw [fU bg];exact wpS_pure ⟨rfl,rfl,hs.snoc fun _=>Int.not_lt.mp bg⟩
 ·rintro c ae ⟨rfl,rfl,hs⟩;exact ⟨rfl,gD,rfl,h1,az _,hs,.inl rfl⟩
 rintro c ae ⟨rfl,n,rfl,n1,n2,hs,hor⟩;refine (fun (H:wpS (model prog w) A E s (ite ((n==gD)=true) _ _) Q ae)=>H) ?_
 by_cases c1:n=gD
 ·rw [if_pos (by simpa using c1)];exact wpS_pure (h n _ n1 n2 (Go.refl hB) hs)
 rw [if_neg (by simpa using c1)];have bg:=hor.resolve_left c1
 extract_lets-underBinder+onlyGivenNames jp
 have nH:∀u aT,Go a₀ lo ae aT->Dec (arrOf aT) lo (lo+(n+1))->wpS (model prog w) A E s (jp u) Q aT:=by
  intro _ aT hg hd;refine wpS_bind (wpS_lift (wpAny_rule ⟨rfl,?_⟩));refine wpS_bind (wpS_mono (Dt
   (I:=fun x c cb=>∃jN,c=(none,x,jN)/\Go a₀ lo ae cb/\Dec (arrOf cb) lo (lo+x)/\jN+1<=x/\∀i,lo+x-(jN+1)<=i->i<lo+x->Kk (arrOf cb) i=Kk (arrOf cb) (lo+x-1))
   (Q:=fun c cb=>∃x jN,c=(none,x,jN)/\n+1<=x/\x<=gD/\Go a₀ lo ae cb/\Dec (arrOf cb) lo (lo+x)/\jN+1<=x/\∀i,lo+x-(jN+1)<=i->i<lo+x->Kk (arrOf cb) i=Kk (arrOf cb) (lo+x-1))
   (show n+1<=gD by lia) ?_ ?_ ⟨0,rfl,hg,hd,by exact Nat.le.step n1,fun i i1 i2=>by congr 1;lia⟩) ?_)
  ·rintro x c cb x1 x2 ⟨jN,rfl,hg,hd,hq,he⟩;have hsz:lo+x<=(arrOf cb).size:=by rw [hg.base.size];lia
   refine wpS_bind (yx h0 hg.base (by show lo+x<_;lia) (by show lo+x-1<_;omega) ?_)
   by_cases bg:Kk (arrOf cb) (lo+x)<Kk (arrOf cb) (lo+x-1)
   ·rw [jo bg];dsimp only;rw [if_pos rfl]
    by_cases qG:jN>0
    ·rw [if_pos qG];have hK:=Ig (i:=lo+x-(jN+1)) hsz he;refine wpS_bind (wpS_reverse (wpS_pure ⟨0,rfl,hg.put (mirror_perm _ _ _ _) (fun m _=>hK m),?_,by lia,fun i i1 i2=>by congr 1;lia⟩));intro i j i1 i2 i3;show Kk (mirror (arrOf cb) _ _ _) j<=Kk (mirror (arrOf cb) _ _ _) i;rw [hK,hK];exact (hd.snoc fun _=>fV bg) i j i1 i2 (by omega)
    ·rw [if_neg qG];exact wpS_pure ⟨0,rfl,hg,hd.snoc fun _=>fV bg,by lia,fun i i1 i2=>by congr 1;lia⟩
   ·rw [fU bg];dsimp only;rw [if_neg (by decide)];refine wpS_bind (yx h0 hg.base (by omega) (by lia) ?_)
    by_cases Sa:Kk (arrOf cb) (lo+x-1)<Kk (arrOf cb) (lo+x)
    ·rw [jo Sa];exact wpS_pure ⟨x,jN,rfl,by omega,by exact bo x2,hg,hd,hq,he⟩
    ·rw [fU Sa];have heq:Kk (arrOf cb) (lo+x)=Kk (arrOf cb) (lo+x-1):=by lia
     refine wpS_pure ⟨jN+1,rfl,hg,hd.snoc fun _=>by lia,by lia,fun i i1 i2=>?_⟩;rw [show lo+(x+1)-1=lo+x by exact Eq.refl (lo+(x+1)-1)]
     by_cases hi:i=lo+x
     ·rw [hi]
     ·rw [heq];exact he i (by lia) (by lia)
  ·rintro c cb ⟨jN,rfl,hg,hd,hq,he⟩;exact ⟨gD,jN,rfl,by lia,az _,hg,hd,hq,he⟩
  rintro c cb ⟨x,jN,rfl,_,x2,hg,hd,hq,he⟩;have hsz:lo+x<=(arrOf cb).size:=by rw [hg.base.size];lia
  refine (fun (H:wpS (model prog w) A E s _ Q cb)=>H) ?_
  extract_lets-underBinder+onlyGivenNames r0 _ xx nn
  dsimp-zeta only [r0]
  extract_lets-underBinder+onlyGivenNames xq
  have iW:∀u cy,Go a₀ lo ae cy->Dec (arrOf cy) lo (lo+x)->wpS (model prog w) A E s (xq u) Q cy:=by
   intro _ cy hg hd;have hsz:lo+x<=(arrOf cy).size:=by rw [hg.base.size];lia
   refine wpS_bind (wpS_reverse ?_);have Fg:Go a₀ lo ae (setArr cy (mirror (arrOf cy) lo (lo+x) ((lo+x-lo) / 2))):=
    hg.put (mirror_perm _ _ _ _) (fun m hm=>by rw [Dh hsz,if_neg (by lia)])
   have Kj:eU (arrOf (setArr cy (mirror (arrOf cy) lo (lo+x) ((lo+x-lo) / 2)))) lo (lo+x):=hd.rev hsz;refine (fun (H:∀kR,Go a₀ lo ae kR->eU (arrOf kR) lo (lo+x)->wpS (model prog w) A E s _ Q kR)=>H _ Fg Kj) ?_;intro kR Fg Kj;refine wpS_bind (wpS_mono (Dt
    (I:=fun y c u_=>u_=kR/\c=(none,y)/\eU (arrOf kR) lo (lo+y))
    (Q:=fun c u_=>u_=kR/\∃y,c=(none,y)/\1<=y/\y<=gD/\eU (arrOf kR) lo (lo+y)) x2 ?_ ?_ ⟨rfl,rfl,Kj⟩) ?_)
   ·rintro y c u_ y1 y2 ⟨rfl,rfl,hs⟩;refine wpS_bind (yx h0 Fg.base (by show lo+y<_;lia) (by show lo+y-1<_;omega) ?_)
    by_cases bg:Kk (arrOf u_) (lo+y)<Kk (arrOf u_) (lo+y-1)
    ·rw [jo bg];exact wpS_pure ⟨rfl,y,rfl,by lia,by exact bo y2,hs⟩
    ·rw [fU bg];exact wpS_pure ⟨rfl,rfl,hs.snoc fun _=>Int.not_lt.mp bg⟩
   ·rintro c u_ ⟨rfl,rfl,hs⟩;exact ⟨rfl,gD,rfl,h1,az _,hs⟩
   ·rintro c u_ ⟨rfl,y,rfl,y1,y2,hs⟩;exact wpS_pure (h y _ y1 y2 Fg hs)
  by_cases qG:jN>0
  ·refine eh (c:=jN>0) qG ?_;have hK:=Ig (i:=lo+x-(jN+1)) hsz he;refine wpS_bind (wpS_reverse (iW () _ (hg.put (mirror_perm _ _ _ _) (fun m _=>hK m)) ?_));intro i j i1 i2 i3;show Kk (mirror (arrOf cb) _ _ _) j<=Kk (mirror (arrOf cb) _ _ _) i;rw [hK,hK];exact hd i j i1 i2 i3
  ·refine eg (c:=jN>0) qG ?_;exact iW () _ hg hd
 have hsz:lo+n<=(arrOf ae).size:=by rw [hB.size];lia
 by_cases c2:n>1
 ·refine eh (c:=n>1) c2 ?_;refine wpS_bind (yx h0 hB (by lia) (by show lo+n-1<_;omega) ?_)
  by_cases hr:Kk (arrOf ae) lo<Kk (arrOf ae) (lo+n-1)
  ·rw [jo hr];exact wpS_pure (h n _ n1 n2 (Go.refl hB) hs)
  ·rw [fU hr];have bJ:∀k,lo<=k->k<lo+n->Kk (arrOf ae) k=Kk (arrOf ae) (lo+n-1):=fun k k1 k2=>by
    have a1:=hs lo k (az _) k1 k2;have a2:=hs k (lo+n-1) k1 (by lia) (by omega);lia
   have hK:=Ig hsz bJ;refine wpS_bind (wpS_reverse (nH () _ ((Go.refl hB).put (mirror_perm _ _ _ _) (fun m _=>hK m)) ?_));have hd:Dec (arrOf ae) lo (lo+n):=fun i j i1 i2 i3=>by rw [bJ i i1 (by lia),bJ j (by lia) i3];exact Int.le_refl _
   intro i j i1 i2 i3;show Kk (mirror (arrOf ae) _ _ _) j<=Kk (mirror (arrOf ae) _ _ _) i;rw [hK,hK];exact (hd.snoc fun _=>fV bg) i j i1 i2 (by omega)
 ·refine eg (c:=n>1) c2 ?_;obtain rfl:n=1:=by lia
  have hd:Dec (arrOf ae) lo (lo+1):=fun i j i1 i2 i3=>by
   obtain rfl:i=j:=by lia
   exact Int.le_refl _
  exact nH () _ (Go.refl hB) (hd.snoc fun _=>fV bg)
end
section
variable [SK] {prog:Program} {w:World} {A:Around} {E:Value->Shared->Prop} {s:Shared} [gH prog w A E s] {st:SortSt} {a₀:Array Keyed}
theorem Vx {lo n ok:Nat} (h0:∀p,p∈a₀.toList->ft p) (hB:Bs a₀ st) (hn:lo+n<=a₀.size) (h1:1<=ok) (af:ok<=n)
 (hs:eU (arrOf st) lo (lo+ok)) (h:∀ae,Go a₀ lo st ae->eU (arrOf ae) lo (lo+n)->Q true ae):
 wpS (model prog w) A E s (binarySort' lo n ok) Q st:=by
 refine wpS_bind (wpS_mono (Dt
  (I:=fun k c ae=>c=(none,())/\Go a₀ lo st ae/\eU (arrOf ae) lo (lo+k))
  (Q:=fun c ae=>c=(none,())/\Go a₀ lo st ae/\eU (arrOf ae) lo (lo+n)) (show max ok 1<=n by lia) ?_ ?_
  ⟨rfl,Go.refl hB,by rw [Nat.max_eq_left h1];exact hs⟩) ?_)
 ·rintro k c ae _ k2 ⟨rfl,hg,vn⟩;have hsz:lo+k<(arrOf ae).size:=by rw [hg.base.size];lia
  refine wpS_bind (wpS_mono (rJ
   (I:=fun x c aT=>aT=ae/\∃l r,c=(none,l,r)/\l<=r/\r<=k/\r-l<=k-x/\(∀i,i<l->Kk (arrOf ae) (lo+i)<=Kk (arrOf ae) (lo+k))/\
    ∀i,r<=i->i<k->Kk (arrOf ae) (lo+k)<=Kk (arrOf ae) (lo+i))
   (Q:=fun c aT=>aT=ae/\∃l,c=(none,l,l)/\l<=k/\(∀i,i<l->Kk (arrOf ae) (lo+i)<=Kk (arrOf ae) (lo+k))/\
    ∀i,l<=i->i<k->Kk (arrOf ae) (lo+k)<=Kk (arrOf ae) (lo+i)) ?_ ?_ ⟨rfl,0,k,rfl,by lia,by exact Nat.le.refl,by exact Nat.le.refl,fun i hi=>by exact False.elim (sd i hi),fun i i1 i2=>by lia⟩) ?_)
  ·rintro x c aT hx ⟨rfl,l,r,rfl,a1,a2,a3,a4,a5⟩;dsimp only
   by_cases kr:l>=r
   ·rw [if_pos kr];obtain rfl:l=r:=by lia
    exact wpS_pure ⟨rfl,l,rfl,a2,a4,a5⟩
   rw [if_neg kr];generalize hm:(l+r) / 2=m;refine wpS_bind (yx h0 hg.base (i:=lo+k) (j:=lo+m) (by lia) (by lia) ?_)
   by_cases bg:Kk (arrOf aT) (lo+k)<Kk (arrOf aT) (lo+m)
   ·rw [jo bg];refine wpS_pure ⟨rfl,l,m,rfl,by lia,by lia,by omega,a4,fun i i1 i2=>?_⟩;exact jq (fV bg) (vn _ _ (by lia) (by lia) (by lia))
   ·rw [fU bg];refine wpS_pure ⟨rfl,m+1,r,rfl,by lia,by omega,by omega,fun i i1=>?_,a5⟩;exact jq (vn _ (lo+m) (by lia) (by lia) (by lia)) (Int.not_lt.mp bg)
  ·rintro c aT ⟨rfl,l,r,rfl,a1,a2,a3,a4,a5⟩;obtain rfl:l=r:=by lia
   exact ⟨rfl,l,rfl,a2,a4,a5⟩
  ·rintro c aT ⟨rfl,l,rfl,a2,a4,a5⟩;refine (fun (H:wpS (model prog w) A E s (do moveDown' (lo+k) (lo+l);pure (ForInStep.yield (none,()))) _ aT)=>H) ?_;rw [moveDown'_eq];have zA:=fun m=>Vz (d:=lo+k-(lo+l)) hsz (by omega) m;refine wpS_bind (wpS_modify (wpS_pure ⟨rfl,hg.put (bubble_perm _ _ _) (fun m hm=>?_),?_⟩))
   ·rw [zA,if_neg (by omega),if_neg (by omega)]
   ·intro i j i1 i2 i3;show Kk (bubble (arrOf aT) (lo+k) (lo+k-(lo+l))) i<=Kk (bubble (arrOf aT) (lo+k) (lo+k-(lo+l))) j;have low:∀m,lo<=m->m<lo+l->Kk (arrOf aT) m<=Kk (arrOf aT) (lo+k):=fun m m1 m2=>by
     have:=a4 (m-lo) (by lia);rwa [show lo+(m-lo)=m by lia] at this
    have high:∀m,lo+l<=m->m<lo+k->Kk (arrOf aT) (lo+k)<=Kk (arrOf aT) m:=fun m m1 m2=>by
     have:=a5 (m-lo) (by lia) (by lia);rwa [show lo+(m-lo)=m by lia] at this
    rw [zA,zA]
    repeat' split
    all_goals first
     | (exfalso;omega)
     | exact Int.le_refl _
     | exact low _ (by omega) (by omega)
     | exact high _ (by omega) (by lia)
     | exact vn _ _ (by omega) (by lia) (by lia)
 ·rintro c ae ⟨hc,hg,vn⟩;exact ⟨hc,hg,vn⟩
 ·rintro c ae ⟨rfl,hg,vn⟩;exact wpS_pure (h ae hg vn)
end
noncomputable def Run [SK] (xs:Array Keyed):Nat->List (Nat×Nat×Nat)->Nat->Prop
 | s,[],e=>s=e
 | s,r::t,e=>r.1=s/\1<=r.2.1/\eU xs s (s+r.2.1)/\Run xs (s+r.2.1) t e
section run
variable [SK] {X Y:Array Keyed}
theorem Run.le:∀{rs s e},Run X s rs e->s+rs.length<=e
 | [],s,e,h=>by unfold Run at h;simp;lia
 | r::t,s,e,⟨_,h1,_,h2⟩=>by have:=h2.le;simp only [kD];lia
theorem Run.congr:∀{rs s e},Run X s rs e->(∀m,s<=m->m<e->Kk Y m=Kk X m)->Run Y s rs e
 | [],_,_,h,_=>h
 | r::t,s,e,⟨h0,h1,h2,h3⟩,hk=>by
  have:=h3.le;refine ⟨h0,h1,fun i j a1 a2 a3=>?_,h3.congr fun m m1 m2=>hk m (by lia) m2⟩;rw [hk i a1 (by lia),hk j (by lia) (by lia)];exact h2 i j a1 a2 a3
theorem Run.app:∀{l r s e},Run X s (l++r) e↔∃m,Run X s l m/\Run X m r e
 | [],r,s,e=>⟨fun h=>⟨s,rfl,h⟩,fun ⟨m,h1,h2⟩=>by unfold Run at h1;subst h1;exact h2⟩
 | a::l,r,s,e=>⟨fun ⟨h0,h1,h2,h3⟩=>by
  obtain ⟨m,a1,a2⟩:=Run.app.mp h3;exact ⟨m,⟨h0,h1,h2,a1⟩,a2⟩,fun ⟨m,⟨h0,h1,h2,h3⟩,h4⟩=>⟨h0,h1,h2,Run.app.mpr ⟨m,h3,h4⟩⟩⟩
theorem Run.same:∀{rs dQ s e},Run X s rs e->rs.map (fun r=>(r.1,r.2.1))=dQ.map (fun r=>(r.1,r.2.1))->Run X s dQ e
 | [],[],_,_,h,_=>h
 | a::t,b::t',s,e,⟨h0,h1,h2,h3⟩,hm=>by
  simp only [eR,List.cons.injEq,Prod.mk.injEq] at hm;obtain ⟨⟨e1,e2⟩,e3⟩:=hm;refine ⟨e1▸h0,e2▸h1,e2▸h2,?_⟩;rw [<-e2];exact h3.same e3
 | [],_::_,_,_,_,hm=>by simp at hm
 | _::_,[],_,_,_,hm=>by simp at hm
end run
theorem Qh {α β:Type} {f:α->α} {g:α->β} (h:∀x,g (f x)=g x):∀(l:List α) (i:Nat),(l.modify i f).map g=l.map g
 | [],i=>by simp
 | a::t,0=>by simp [h]
 | a::t,i+1=>by simp [Qh h t i]
section
variable [SK] {prog:Program} {w:World} {A:Around} {E:Value->Shared->Prop} {s:Shared} [gH prog w A E s] {st:SortSt} {a₀:Array Keyed}
structure Pd (a₀:Array Keyed) (lo:Nat) (rs:List (Nat×Nat×Nat)) (st:SortSt):Prop where
 base:Bs a₀ st
 pend:pendingOf st=rs.toArray
 run:Run (arrOf st) 0 rs lo
 top:lo<=a₀.size
theorem NM {lo i:Nat} (h0:∀p,p∈a₀.toList->ft p) (hP:Pd a₀ lo rs st) (hi:i+1<rs.length)
 (h:∀dQ ae,Pd a₀ lo dQ ae->dQ.length+1=rs.length->(∀m,lo<=m->Kk (arrOf ae) m=Kk (arrOf st) m)->Q true ae):
 wpS (model prog w) A E s (mergeAt' i) Q st:=by
 obtain ⟨L,r1,r2,T,e,hL⟩:∃L r1 r2 T,rs=L++r1::r2::T/\i=L.length:=by
  refine ⟨rs.take i,rs[i],rs[i+1],rs.drop (i+2),?_,by simp;lia⟩;rw [<-List.drop_eq_getElem_cons,<-List.drop_eq_getElem_cons,List.take_append_drop]
 obtain ⟨sa,na,p⟩:=r1;obtain ⟨sb,nb,p'⟩:=r2;have hr:=hP.run;rw [e] at hr;obtain ⟨m,hl,rfl,b1,b2,rfl,c1,c2,ht⟩:=Run.app.mp hr;dsimp only at b1 b2 c1 c2 ht;have t1:=ht.le;have t2:=hP.top;refine UJ h0 hP.base (e▸hP.pend) hL rfl b1 c1 (by lia) b2 c2 fun ae d1 d2 d3 d4=>?_;refine h _ ae ⟨d1,d2,Run.app.mpr ⟨sa,hl.congr fun m _ m2=>d4 m (.inl m2),rfl,by show 1<=na+nb;lia,?_,?_⟩,t2⟩ (by rw [e];simp;exact Eq.refl (L.length+(T.length+1)+1))
  (fun m m1=>d4 m (.inr (by lia)))
 ·show eU _ sa (sa+(na+nb));rw [<-Nat.add_assoc];exact d3
 ·show Run _ (sa+(na+nb)) T lo;rw [<-Nat.add_assoc];exact ht.congr fun m m1 _=>d4 m (.inr m1)
theorem Vy {Q:Unit->SortSt->Prop} (h0:∀p,p∈a₀.toList->ft p) (hB:Bs a₀ st) (hp:pendingOf st= #[]) (h2:2<=a₀.size)
 (h:∀ae,(arrOf ae).Perm a₀->failedOf ae=none->eU (arrOf ae) 0 a₀.size->Q () ae):wpS (model prog w) A E s sortRuns' Q st:=by
 refine wpS_bind (wpS_get ?_);have Bt:=hB.size;refine wpS_bind (wpS_mono (rJ
  (I:=fun x c ae=>∃lo rs,c=(none,lo)/\Pd a₀ lo rs ae/\(x<=lo\/lo=a₀.size))
  (Q:=fun c ae=>∃rs,c=(none,a₀.size)/\Pd a₀ a₀.size rs ae) ?big ?ye ⟨0,[],rfl,⟨hB,hp,rfl,d9 _⟩,.inl (az _)⟩) ?after)
 case ye=>
  rintro c ae ⟨lo,rs,rfl,hP,hx⟩;have:=hP.top
  change (arrOf st).size<=lo\/lo=a₀.size at hx
  obtain rfl:lo=a₀.size:=by lia
  exact ⟨rs,rfl,hP⟩
 case big=>
  rintro x c ae _ ⟨lo,rs,rfl,hP,JX⟩;refine (fun (H:wpS (model prog w) A E s (ite (lo>=(arrOf st).size) _ _) _ ae)=>H) ?_
  by_cases c1:lo>=(arrOf st).size
  ·rw [if_pos c1];have:=hP.top;obtain rfl:lo=a₀.size:=by lia
   exact wpS_pure ⟨rs,rfl,hP⟩
  rw [if_neg c1];refine wpS_bind (Wy h0 hP.base (by show lo+((arrOf st).size-lo)<=_;lia) (by show 1<=(arrOf st).size-lo;lia) fun m aT m1 m2 hg hs=>?_)
  change m<=(arrOf st).size-lo at m2
  change Go a₀ lo ae aT at hg
  change eU (arrOf aT) lo (lo+m) at hs
  have Fp:Pd a₀ lo rs aT:=⟨hg.base,hg.pend.trans hP.pend,hP.run.congr fun m _ m2=>hg.low m m2,hP.top⟩;refine (fun (H:wpS (model prog w) A E s _ _ aT)=>H) ?_;dsimp-zeta only
  extract_lets-underBinder+onlyGivenNames n0 jp
  have nH:∀(u:Unit) n cb,1<=n->lo+n<=a₀.size->Pd a₀ lo rs cb->eU (arrOf cb) lo (lo+n)->
   wpS (model prog w) A E s (jp u n) (SQ (fun c ae=>∃rs,c=(none,a₀.size)/\Pd a₀ a₀.size rs ae)
    (fun c ae=>∃lo rs,c=(none,lo)/\Pd a₀ lo rs ae/\(x+1<=lo\/lo=a₀.size))) cb:=by
   intro u n cb n1 n2 Ss k_;refine wpS_bind (wpS_get ?_)
   extract_lets-underBinder+onlyGivenNames xq
   have iW:∀(u:Unit) cy dQ,Pd a₀ lo dQ cy->eU (arrOf cy) lo (lo+n)->
    wpS (model prog w) A E s (xq u) (SQ (fun c ae=>∃rs,c=(none,a₀.size)/\Pd a₀ a₀.size rs ae)
     (fun c ae=>∃lo rs,c=(none,lo)/\Pd a₀ lo rs ae/\(x+1<=lo\/lo=a₀.size))) cy:=by
    intro u cy dQ gP rQ;refine wpS_bind (wpS_modify (wpS_pure ⟨lo+n,dQ++[(lo,n,0)],rfl,⟨⟨gP.base.perm,gP.base.kind,gP.base.fail⟩,?_,?_,n2⟩,by lia⟩))
    ·show (pendingOf cy).push (lo,n,0)=_;rw [gP.pend];simp
    ·exact Run.app.mpr ⟨lo,gP.run,rfl,n1,rQ,rfl⟩
   cases hb:(pendingOf cb).back? with
   | none=>
    exact iW () cb rs Ss k_
   | some r=>
    obtain ⟨s1,l1,p1⟩:=r;refine wpS_bind (wpS_mono (rJ
     (I:=fun _ c cy=>c=(none,())/\∃dQ,Pd a₀ lo dQ cy/\eU (arrOf cy) lo (lo+n))
     (Q:=fun c cy=>c=(none,())/\∃dQ,Pd a₀ lo dQ cy/\eU (arrOf cy) lo (lo+n)) ?_ (fun c cy hh=>hh) ⟨rfl,rs,Ss,k_⟩) ?_)
    ·rintro x' c cy _ ⟨rfl,dQ,gP,rQ⟩;refine wpS_bind (wpS_get ?_);have hsz:(pendingOf cy).size=dQ.length:=by rw [gP.pend];simp
     dsimp only
     by_cases c2:(pendingOf cy).size>1
     ·rw [if_pos c2]
      cases hq:(pendingOf cy)[(pendingOf cy).size-2]? with
      | none=>exact wpS_pure ⟨rfl,dQ,gP,rQ⟩
      | some r=>
       obtain ⟨x1,x2,Rm⟩:=r;dsimp only;split
       ·exact wpS_pure ⟨rfl,dQ,gP,rQ⟩
       ·refine wpS_bind (NM h0 gP (by show (pendingOf cy).size-2+1<_;lia) fun IW kR Lp _ hk=>?_);refine wpS_pure ⟨rfl,IW,Lp,fun i j i1 i2 i3=>?_⟩;rw [hk i i1,hk j (by lia)];exact rQ i j i1 i2 i3
     ·rw [if_neg c2];exact wpS_pure ⟨rfl,dQ,gP,rQ⟩
    ·rintro c cy ⟨rfl,dQ,gP,rQ⟩;refine wpS_bind (wpS_modify (iW () _ (dQ.modify (dQ.length-1) fun r=>(r.1,r.2.1,power' (arrOf st).size (2*s1+l1) (2*s1+l1+l1+n) (arrOf st).size)) ⟨⟨gP.base.perm,gP.base.kind,gP.base.fail⟩,?_,?_,gP.top⟩ rQ))
     ·refine (fun (H:(pendingOf cy).modify ((pendingOf cy).size-1) (fun r=>(r.1,r.2.1,power' (arrOf st).size (2*s1+l1) (2*s1+l1+l1+n) (arrOf st).size))=_)=>H) ?_;rw [gP.pend];apply Array.toList_inj.mp;simp
     ·exact gP.run.same (Qh (f:=fun r=>(r.1,r.2.1,power' (arrOf st).size (2*s1+l1) (2*s1+l1+l1+n) (arrOf st).size)) (fun _=>rfl) _ _).symm
  by_cases c2:m<minRun' (arrOf st).size (arrOf st).size 0
  ·refine eh (c:=m<minRun' (arrOf st).size (arrOf st).size 0) c2 ?_;refine wpS_bind (wpS_lift (wpAny_rule ⟨rfl,?_⟩));refine wpS_bind (Vx h0 hg.base (n:=min ((arrOf st).size-lo) (minRun' (arrOf st).size (arrOf st).size 0)) (by lia) m1 (by omega) hs fun cb KU k_=>?_);exact nH () (min ((arrOf st).size-lo) (minRun' (arrOf st).size (arrOf st).size 0)) cb (by omega) (by lia) ⟨KU.base,KU.pend.trans Fp.pend,Fp.run.congr fun m _ m2=>KU.low m m2,Fp.top⟩ k_
  ·refine eg (c:=m<minRun' (arrOf st).size (arrOf st).size 0) c2 ?_;exact nH () m aT m1 (by lia) Fp hs
 case after=>
  rintro c ae ⟨rs,rfl,hP⟩;refine (fun (H:wpS (model prog w) A E s _ Q ae)=>H) ?_;dsimp only;have hlen:=hP.run.le;refine wpS_bind (wpS_mono (rJ
   (I:=fun x c cy=>c=(none,())/\∃dQ,Pd a₀ a₀.size dQ cy/\(dQ.length+x<=a₀.size\/dQ.length<=1))
   (Q:=fun c cy=>c=(none,())/\∃dQ,Pd a₀ a₀.size dQ cy/\dQ.length<=1) ?_ ?_ ⟨rfl,rs,hP,.inl (by lia)⟩) ?_)
  ·rintro x' c cy _ ⟨rfl,dQ,gP,Fc⟩;refine wpS_bind (wpS_get ?_);have hsz:(pendingOf cy).size=dQ.length:=by rw [gP.pend];simp
   by_cases c2:(pendingOf cy).size<=1
   ·rw [if_pos c2];exact wpS_pure ⟨rfl,dQ,gP,by lia⟩
   rw [if_neg c2];refine wpS_bind (NM h0 gP ?_ fun IW kR Lp Fb _=>wpS_pure ⟨rfl,IW,Lp,by lia⟩);have key:∀j,j<=(pendingOf cy).size-2->j+1<dQ.length:=by lia
   refine key _ ?_
   repeat' split
   all_goals first
    | exact az _
    | exact Nat.sub_le _ _
  ·rintro c cy ⟨rfl,dQ,gP,Fc⟩
   change dQ.length+(arrOf st).size<=a₀.size\/dQ.length<=1 at Fc
   exact ⟨rfl,dQ,gP,by lia⟩
  ·rintro c cy ⟨rfl,dQ,gP,Fc⟩;refine wpS_pure (h cy gP.base.perm gP.base.fail ?_);have hr:=gP.run
   match dQ,Fc,hr with
   | [],_,hr=>unfold Run at hr;lia
   | [r],_,⟨_,_,e1,e2⟩=>
    unfold Run at e2;intro i j i0 i1 i2;exact e1 i j i0 i1 (by lia)
end
section
variable {prog:Program} {w:World} {k:Type} [DecidableEq k] {knd:KeyKind prog w k} {A:Around} {E:Value->Shared->Prop} {s:Shared}
theorem XJ (hh:A.handled=none) (hd:(d==sysModules)=false) (hm:s.heap.DictAt knd d kvs ep) (hn:kvs.length<=sizeLine)
 (hQ:∀s' acc,(∀b o,s.heap.get? b=some o->s'.heap.get? b=some o)->s'.gens=s.gens->s'.drawn=s.drawn->s'.os=s.os->s.toks<=s'.toks->
  ItemsOf (fun i v=>∃key x,kvs[i]?=some (key,x)/\knd.is key v=true) acc kvs.length->Q acc.toList s'):wpAny (model prog w) A (collect (.ref d)) Q E s:=by
 let L:Obj:={ cls:=.type "list",data:=.seq ([]:List Value).toArray }
 have BG:=hm.lt_size;have Lo:s.heap.objs.size≠d:=Nat.ne_of_gt BG;unfold collect;refine ag (wpAny_runValue (codeAny_builtin F.entry_proto_collect ?_));rw [Around.under_plainId F.plain_proto_collect _];refine (show wpAny _ A.in1 (newList []>>=fun l=>again (.builtin "list.__iadd__" ⟨[l,.ref d],[]⟩)) _ _ s from ag (wpAny_newObj_type (aU ⟨plainId_quiet F.plain_list_iadd _,codeAny_builtin F.entry_list_iadd ?_⟩)));rw [Around.under_plainId F.plain_list_iadd _];have E_:(s.heap.push L).DictAt knd d kvs ep:=hm.push _;have hT:({ s with heap:=s.heap.push L }:Shared).TypeIs (.ref d) "dict":=E_.dictOf.typeIs (s:={ s with heap:=s.heap.push L });have hS:(s.heap.push L).get? s.heap.objs.size=some L:=jZ _ rfl;refine (show wpAny _ A.in1 (Builtin.List.listExtendWith (.ref s.heap.objs.size) (.ref d) (.ref s.heap.objs.size)) _ _ { s with heap:=s.heap.push L } from ?_);unfold Builtin.List.listExtendWith;refine ag (wpAny_typeOf hT ?_);rw [if_neg (by rw [show Builtin.List.listSameRef (.ref s.heap.objs.size) (.ref d)=false by simp [Builtin.List.listSameRef,Lo]];decide)];refine ag (wpAny_pyIter_dict hd E_ (ag (wpAny_holding ?_)));unfold Builtin.List.listLengthHint
 let I:Addr:=(s.heap.push L).objs.size
 let h2:Heap:=(s.heap.push L).push { cls:=.type "dict_keyiterator",data:=.fields #[.ref d,.int 0 0,.int kvs.length 0,.int ep 0] }
 have xH:h2.DictAt knd d kvs ep:=E_.push _;have Ll:({ s with heap:=h2 }:Shared).TypeIs (.ref d) "dict":=xH.dictOf.typeIs (s:={ s with heap:=h2 });refine ag (wpAny_specialOf (name:=Str.ofString "__len__") Ll F.slot_dict_len.lookup ?_);generalize KP:("dict.__len__":String)=RG
 (fail_if_success (clear KP RG))
 wp_delta
 rw [show splitId RG=some ("dict","__len__") from by subst KP;decide+kernel];subst KP;refine ag (wpAny_isInstance (b:=true) Ll (by rw [isSubtype_type];kernel_rfl) ?_);rw [if_neg (by decide)];refine (fun (H:wpAny (model prog w) A.in1 (ite _ _ _) _ _ _)=>H) ?_;rw [if_pos (by decide+kernel)];refine ag (wpAny_typeOf Ll (aU ?_));rw [if_pos (by decide+kernel)]
 let S:Addr:=s.heap.objs.size
 have So:S≠I:=gY (show s.heap.objs.size<(s.heap.push L).objs.size by rw [size_push'];exact Nat.lt_succ_self _);have hdI:d≠I:=gY (show d<(s.heap.push L).objs.size by rw [size_push'];exact Nat.lt_succ_of_lt BG);have Sr:h2.get? S=some L:=cW _ hS;have Sq:=Heap.get?_update_self (Obj.mapSeq (·.push Value.none)) Sr rfl;have hS4:=Heap.get?_update_self (Obj.mapSeq (·.pop)) Sq rfl;have JC:∀b o,b≠S->h2.get? b=some o->((h2.update S (Obj.mapSeq (·.push Value.none))).update S (Obj.mapSeq (·.pop))).get? b=some o:=
  fun b o hb e=>(Heap.get?_update_other _ _ (aF hb)).trans ((Heap.get?_update_other _ _ (aF hb)).trans e)
 have W:=(Walks.dictKeys (knd:=knd) (prog:=prog) (w:=w) (A:=A.in1) hh I d hdI kvs ep).toS;have KO:h2.IsKeyIter I d 0 kvs.length ep:=⟨_,jZ _ rfl,rfl,rfl⟩;refine ag (wpAny_rule (ag (show wpAny _ A.in1 (updateSeq S (·.push .none)>>=fun _=>updateSeq S (·.pop)) _ _ { s with heap:=h2 } from ag (wpAny_updateSeq (s:={ s with heap:=h2 }) Sr rfl (wpAny_updateSeq (s:={ s with heap:=h2.update S (Obj.mapSeq (·.push Value.none)) }) Sq rfl ?_)))));refine aU ⟨plainId_quiet F.plain_extend_loop _,codeAny_extend_loopS W hn S (fun z=>(eS.mp z).elim So fun z=>Lo (iK.mp z)) _ kvs.length 0 _ _ _ rfl (d9 _)
  ⟨KO.at fun o e=>JC _ _ (aF So) e,xH.at' fun o e=>JC _ _ (aF Lo) e⟩ hS4 (ItemsOf.nil _) fun s' acc c B2 hS' Lk=>?_⟩
 refine (show wpAny _ A (load S>>=_) _ _ s' from ag (wpAny_load hS' (aU (hQ s' acc (fun b o e=>?_) B2.gens B2.drawn B2.os B2.toks Lk))));have hb:b<s.heap.objs.size:=dt e;refine B2.heap b o (fun z=>?_) (JC b o (gY hb) (cW _ (cW _ e)));rcases eS.mp z with z | z
 ·exact gY hb z
 ·have z:=iK.mp z;have e2:I=s.heap.objs.size+1:=size_push' _ _;exact j9 _ (i_ hb (by rw [z,e2];exact nS _))
end
theorem OI (vs:List Value):(vs.toArray.zip vs.toArray).toList=vs.map fun v=>(v,v):=by
 rw [Array.toList_zip];show vs.zip vs=_
 induction vs with
 | nil=>rfl
 | cons v r ih=>simp [ih]
section
variable [SK] {prog:Program} {w:World} {A:Around} {E:Value->Shared->Prop} {s:Shared}
theorem TK (hp:X.Perm (vs.toArray.zip vs.toArray)) (hs:eU X 0 (vs.toArray.zip vs.toArray).size):
 (X.map (·.2)).toList.Perm vs/\(X.map (·.2)).toList.Pairwise fun u v=>N (u,u)<=N (v,v):=by
 have fe:=Array.perm_iff_toList_perm.mp hp;rw [OI] at fe;have hsz:X.size=(vs.toArray.zip vs.toArray).size:=hp.size_eq;have vw:∀p∈X.toList,p=(p.2,p.2):=fun p hm=>by
  obtain ⟨v,_,rfl⟩:=eB.mp (fe.mem_iff.mp hm);rfl
 rw [Array.toList_map];refine ⟨by simpa [List.map_map,Function.comp_def] using fe.map (·.2),?_⟩;rw [List.pairwise_map,Cf];intro i j hi hj ff;have ko:i<X.size:=by simpa using hi
 have jS:j<X.size:=by simpa using hj
 have:=hs i j (d9 _) (bo ff) (hsz▸jS);rw [sN (getElem?_pos X i ko),sN (getElem?_pos X j jS)] at this;rw [<-vw _ (zH hi),<-vw _ (zH hj)];exact this
theorem XW {P:PySem.Fin->Shared->Prop} (ho:s.heap.get? a=some (seqObj "list" vs.toArray n)) (hz:vs.length<=sizeLine)
 (lq:2<=vs.length->∀(h':Heap) (Q:SortKind->Shared->Prop),(∀b o,b≠a->s.heap.get? b=some o->h'.get? b=some o)->Q SK.kind { s with heap:=h' }->
  wpAny (model prog w) A (keyKind' vs.toArray) Q E { s with heap:=h' })
 (bg:∀h':Heap,(∀b o,b≠a->s.heap.get? b=some o->h'.get? b=some o)->gH prog w A E { s with heap:=h' })
 (af:∀v∈vs,ft (v,v))
 (h:∀out:Array Value,out.toList.Perm vs->(out.toList.Pairwise fun u v=>N (u,u)<=N (v,v))->P (.done (.ret .none)) { s with heap:=sortedHeap s.heap a vs out }):
 wpAny (model prog w) A (Builtin.«list.sort» ⟨[.ref a],[]⟩) P E s:=by
 rw [list_sort_plain];obtain ⟨e1,B0⟩:∃e1,(s.heap.update a (Obj.mapSeq fun _=> #[])).get? a=some (seqObj "list" #[] e1):=⟨_,get?_update_seq ho (fun _=> #[])⟩
 let h3:Heap:=((s.heap.update a (Obj.mapSeq fun _=> #[])).push (seqObj "tuple" vs.toArray 0)).push (seqObj "list" #[] 0)
 have keep:∀b o,b≠a->s.heap.get? b=some o->h3.get? b=some o:=fun b o hb e=>
  cW _ (cW _ ((Heap.get?_update_other _ _ (aF hb)).trans e))
 have EZ:h3.get? a=some (seqObj "list" #[] e1):=cW _ (cW _ B0);have hsz:vs.toArray.size=vs.length:=by simp
 refine ag (listItems_at ho rfl (ag (listUpdate_at ho rfl (ag (seqEpoch_at B0 rfl (ag (wpAny_newTuple (ag (wpAny_newList (wpAny_holding ?_) (d9 _))) hz)))) (by rw [hsz];exact hz) (d9 _))));have fin:∀ae:SortSt,(arrOf ae).Perm (vs.toArray.zip vs.toArray)->failedOf ae=none->eU (arrOf ae) 0 (vs.toArray.zip vs.toArray).size->
  wpAny (model prog w) A (do
   let touched:=(<-seqEpoch a) !=e1
   Builtin.List.listUpdate (.ref a) fun _=>(arrOf ae).map (·.2)
   if let some e:=failedOf ae then rule "list.sort.comparison-raised";throw e
   if touched then rule "list.sort.modified";raiseError "ValueError" "list modified during sort"
   ret .none) P E { s with heap:=h3 }:=by
  intro ae hp hf hs;obtain ⟨o1,o2⟩:=TK hp hs;refine ag (seqEpoch_at EZ rfl (ag (listUpdate_at EZ rfl ?_ (d9 _) ?_)))
  ·rw [hf];simp only [bne_self_eq_false,Bool.false_eq_true,if_false];exact aU (h _ o1 o2)
  ·have:=o1.length_eq;rw [qY] at this;exact Nat.le_succ_of_le (this▸hz)
 refine (show wpAny (model prog w) A _ P E { s with heap:=h3 } from ?_)
 by_cases h2:vs.toArray.size<2
 ·dsimp only;rw [if_pos h2,if_pos h2];refine ag (aU ?_);rw [StateT.run_pure];refine ag (aU (fin (SortSt.mk' general' (vs.toArray.zip vs.toArray) #[] 7 none) (Array.Perm.refl _) rfl ?_));intro i j _ ff hj;obtain rfl:i=j:=by simp at hj;lia
  exact Int.le_refl _
 ·dsimp only;rw [if_neg h2,if_neg h2];refine ag (lq (by lia) h3 _ keep ?_);have:=bg h3 keep;refine ag (wpAny_mono (Vy (s:={ s with heap:=h3 }) (a₀:=vs.toArray.zip vs.toArray) (st:=SortSt.mk' SK.kind (vs.toArray.zip vs.toArray) #[] 7 none)
   (Q:=fun _ ae=>(arrOf ae).Perm (vs.toArray.zip vs.toArray)/\failedOf ae=none/\eU (arrOf ae) 0 (vs.toArray.zip vs.toArray).size)
   (fun p hp=>?_) ⟨Array.Perm.refl _,rfl,rfl⟩ rfl (by simp;lia) fun ae a1 a2 a3=>⟨a1,a2,a3⟩) ?_ fun _ _ e=>e)
  ·rw [OI] at hp;obtain ⟨v,hv,rfl⟩:=eB.mp hp;exact af v hv
  ·rintro ⟨⟨⟩,ae⟩ s' ⟨rfl,hp,hf,hs⟩;exact fin ae hp hf hs
end
section
variable {prog:Program} {w:World} {A:Around} {E:Value->Shared->Prop} {s:Shared}
theorem PM {x:Value} {Q:Value->Shared->Prop} {R:Shared->List Value->Prop}
 (hc:wpAny (model prog w) A.in1 (collect x) (fun vs s1=>R s1 vs) E s)
 (h:∀s1 vs,R s1 vs->wpAny (model prog w) A.in1 (newList vs>>=fun l=>holding [l] (call (.builtin "list.sort") [l])>>=fun _=>ret l) (fun fin s'=>∃r,fin=.done (.ret r)/\Q r s') E s1):
 wpAny (model prog w) A (call (.builtin "sorted") [x]) Q E s:=by
 refine Calls.call_function_entry kind_sorted plain_sorted entry_sorted (args_sorted1 _) ?_;unfold Builtin.«sorted»;refine ag (m:=checkCount "sorted" 1 1 _) (aU ?_);refine ag (wpAny_mono hc (fun vs s1 hr=>h s1 vs hr) fun _ _ e=>e)
end
@[reducible] noncomputable def AR:SK:=⟨fun p=>numOf p.1,fun p=>∃n t,p.1=.int n t,oneType'⟩
theorem ltI {w:World}: @gH AR prog w A E s:=by
 refine @gH.mk AR prog w A E s ?_;rintro st p q Q hk ⟨n,t,hp⟩ ⟨n',t',hq⟩ h;have e1: @N AR p=n:=by show numOf p.1=n;rw [hp];rfl
 have e2: @N AR q=n':=by show numOf q.1=n';rw [hq];rfl
 rw [e1,e2] at h;rw [lt'_eq,hp,hq];refine wpS_bind (wpS_get ?_);rw [show kindOf st=oneType' from hk,keyLt'_oneType];exact wpS_bind (wpS_lift (wpAny_attempt (oneLt_int ⟨rfl,wpS_pure h⟩)))
theorem Zk {w:World} (hI:IntsAre vs ns) (h2:2<=vs.length) (h:Q oneType' s):wpAny (model prog w) A (keyKind' vs.toArray) Q E s:=by
 match vs,h2,hI with
 | ZP::ZO::r,_,hI=>rw [keyKind_ints hI];exact aU h
section
variable [SK] {prog:Program} {w:World} {A:Around} {E:Value->Shared->Prop} {s:Shared}
theorem O6 {vs:List Value} {Q:Value->Shared->Prop} (hz:vs.length<=sizeLine)
 (lq:2<=vs.length->∀(A:Around) (E:Value->Shared->Prop) (h':Heap) (Q:SortKind->Shared->Prop),(∀b o,s.heap.get? b=some o->h'.get? b=some o)->Q SK.kind { s with heap:=h' }->
  wpAny (model prog w) A (keyKind' vs.toArray) Q E { s with heap:=h' })
 (bg:∀(A:Around) (E:Value->Shared->Prop) (h':Heap),(∀b o,s.heap.get? b=some o->h'.get? b=some o)->gH prog w A E { s with heap:=h' })
 (af:∀v∈vs,ft (v,v))
 (h:∀(out:Array Value) (h':Heap),out.toList.Perm vs->(out.toList.Pairwise fun u v=>N (u,u)<=N (v,v))->(∀b o,s.heap.get? b=some o->h'.get? b=some o)->
  (∃e,h'.get? s.heap.objs.size=some (seqObj "list" out e))->Q (.ref s.heap.objs.size) { s with heap:=h' }):
 wpAny (model prog w) A (newList vs>>=fun l=>holding [l] (call (.builtin "list.sort") [l])>>=fun _=>ret l) (fun fin s'=>∃r,fin=.done (.ret r)/\Q r s') E s:=by
 let h1:Heap:=s.heap.push (seqObj "list" vs.toArray 0)
 have xF:h1.get? s.heap.objs.size=some (seqObj "list" vs.toArray 0):=jZ _ rfl;have up:∀(h':Heap),(∀b o,b≠s.heap.objs.size->h1.get? b=some o->h'.get? b=some o)->∀b o,s.heap.get? b=some o->h'.get? b=some o:=fun h' hk b o e=>
  hk b o (gY (dt e)) (cW _ e)
 refine ag (wpAny_newList ?_ hz);refine ag (wpAny_holding (wpAny_call_entry (s:={ s with heap:=h1 }) slot_list_sort ⟨_,xF,rfl⟩ entry_list_sort (XW xF hz (fun h2 h' Q hk hq=>lq h2 _ _ h' Q (up h' hk) hq) (fun h' hk=>bg _ _ h' (up h' hk)) af fun out o1 o2=>⟨_,rfl,?_⟩) (args_list_sort _)));refine aU ⟨_,rfl,h out _ o1 o2 (fun b o e=>?_) (sortedHeap_at xF)⟩;have hb:b<s.heap.objs.size:=dt e;rw [sortedHeap_old (gY hb) (show b<h1.objs.size by show b<(s.heap.push _).objs.size;rw [size_push'];exact Nat.lt_succ_of_lt hb)];exact cW _ e
end
end TS
namespace L2
open PySem PySem.Spec PyProof.Rows TS
theorem Ow:∀{us:List Value} {ns:List Int},us.length=ns.length->(∀(j:Nat) v i,us[j]?=some v->ns[j]?=some i->∃t,v=.int i t)->IntsAre us ns
 | [],[],_,_=>.nil
 | u::us,n::ns,hl,h=>by
  obtain ⟨t,rfl⟩:=h 0 u n rfl rfl;exact .cons _ _ (Ow (by simpa using hl) fun j v i e1 e2=>h (j+1) v i (by simpa using e1) (by simpa using e2))
 | [],_::_,hl,_=>by simp at hl
 | _::_,[],hl,_=>by simp at hl
theorem AB:∀{us:List Value} {ns:List Int},IntsAre us ns->us.map numOf=ns/\∀u∈us,∃n t,u=.int n t
 | _,_,.nil=>⟨rfl,fun _ h=>nomatch h⟩
 | _,_,.cons n t h=>by
  obtain ⟨a,b⟩:=AB h;refine ⟨by rw [eR,a];rfl,fun u hu=>?_⟩;rcases eS.mp hu with rfl | hu
  ·exact ⟨n,t,rfl⟩
  ·exact b u hu
theorem Py:∀{us:List Value},(∀u∈us,∃n t,u=.int n t)->bp ((us.map numOf).map V.int) us
 | [],_=>.nil
 | u::us,h=>by
  obtain ⟨n,t,rfl⟩:=h u eD;exact .cons ⟨t,rfl⟩ (Py fun v hv=>h v (gz _ hv))
theorem Inv.at_ (I:Inv X pins σ H s) (k:∀b o,s.heap.get? b=some o->s1.heap.get? b=some o) (hg:s1.gens=s.gens) (hd:s1.drawn=s.drawn) (ho:s1.os=s.os):Inv X pins σ H s1:=by
 have e:s1={ s with heap:=s1.heap,toks:=s1.toks }:=by
  obtain ⟨h1,g1,d1,t1,o1⟩:=s1;cases hg;cases hd;cases ho;rfl
 rw [e];exact I.kept (t':=s1.toks) k
section
variable {X:Cx}
theorem XH (hc:X.calm=true):rn X (.builtin "sorted") (fun xs H Q=>∃(p:Addr) (kvs:List (Key×V)) (ns:List Int),xs=[.ref p]/\H p=some (.dK kvs)/\kvs.map (·.1)=ns.map Sum.inl/\
 ∀(l:Addr) (o_:List Int),H l=none->o_.Perm ns->o_.Pairwise (·<=·)->Q (.ref l) (upd H l (.lst (o_.map V.int)))):=by
 intro pins s σ H xs us Q I r h;obtain ⟨p,kvs,ns,rfl,hp,nG,q⟩:=h;obtain ⟨u,rfl,ru⟩:=yw r;cases ru;obtain ⟨hz,hs,vs,hv,hD⟩:=(show ef X.prog X.w H s.heap p (.dK kvs) from I.af p _ hp);obtain ⟨ep,iH⟩:=hD.dictAt;have hlv:kvs.length=vs.length:=Paired.length hv;have hln:kvs.length=ns.length:=by have:=congrArg List.length nG;simpa using this
 refine PM (R:=fun s1 us=>Inv X pins σ H s1/\(∀b o,s.heap.get? b=some o->s1.heap.get? b=some o)/\IntsAre us ns) (XJ (I.ok.hd hc) hs iH (by lia) fun s1 acc k hg hd ho _ hi=>?_) ?_
 ·refine ⟨I.at_ k hg hd ho,k,Ow (by rw [qY,hi.1];lia) fun j v i e1 e2=>?_⟩;obtain ⟨key,x,g1,g2⟩:=hi.2 j v (by simpa using e1);have hk:(kvs.map (·.1))[j]?=some (Sum.inl i):=by rw [nG,fv,e2];rfl
  rw [fv] at hk
  cases eA:kvs[j]? with
  | none=>rw [eA] at hk;cases hk
  | some kv=>
   rw [eA] at hk;obtain ⟨y,hy,ey,_⟩:=OY hv eA;rw [g1] at hy;cases hy;have e:kv.1=Sum.inl i:=eT hk;rw [e] at ey;subst ey;rcases rM (show vV (Sum.inl i) v=true from g2) with ⟨i',t,e3,rfl⟩ | ⟨x',t,e3,rfl⟩
   ·cases e3;exact ⟨t,rfl⟩
   ·cases e3
 ·rintro s1 us ⟨I1,_,hI⟩;have zf:us.length=ns.length:=by rw [<-(AB hI).1];simp
  refine @O6 AR X.prog X.w _ _ s1 us _ (by lia) (fun h2 A E h' Q _ hq=>Zk (s:={ s1 with heap:=h' }) hI h2 hq) (fun A E h' _=>ltI) (fun v hv=>?_) fun out h' o1 o2 k2 he=>?_
  ·obtain ⟨n,t,e⟩:=(AB hI).2 v hv;exact ⟨n,t,e⟩
  ·obtain ⟨e,he⟩:=he;have bJ:∀u∈out.toList,∃n t,u=Value.int n t:=fun u hu=>(AB hI).2 u (o1.mem_iff.mp hu);have fr:H s1.heap.objs.size=none:=I1.af.fresh (az _);have qF:(out.toList.map numOf).Perm ns:=by rw [<-(AB hI).1];exact o1.map numOf
   refine ⟨.ref s1.heap.objs.size,_,I1.laid (t':=s1.toks) k2 (az _) (show ef X.prog X.w _ h' _ (.lst ((out.toList.map numOf).map V.int)) from ⟨?_,out.toList,e,Py bJ,by rw [he]⟩),rfl,q _ _ fr qF ?_⟩
   ·rw [aD,qF.length_eq];lia
   ·rw [List.pairwise_map];exact o2
end
noncomputable def uV (a b m:Int):HO:=.tup [.int a,.int b,.int m]
noncomputable def zG (H:Hp):Value->Int
 | .ref q=>match H q with
  | some (.tup [.int a,.int b,_])=>a*64+b
  | _=>0
 | _=>0
@[reducible] noncomputable def vb (H:Hp) (g:Int->Int->Int):SK:=
 ⟨fun p=>zG H p.1,fun p=>∃q a b,p.1=.ref q/\H q=some (uV a b (g a b))/\0<=a/\a<64/\0<=b/\b<64,tuples' true⟩
theorem CT (h:H q=some (uV a b m)):zG H (.ref q)=a*64+b:=by
 show (match H q with | some (.tup [.int a,.int b,_])=>a*64+b | _=>0)=_;rw [h];rfl
section
variable {prog:Program} {w:World} {A:Around} {E:Value->Shared->Prop} {s:Shared} {H:Hp} {g:Int->Int->Int}
noncomputable def vN (H:Hp) (h:Heap):Prop:=∀q a b m,H q=some (uV a b m)->∃t1 t2 t3 o n,h.get? q=some o/\o.cls=.type "tuple"/\o.data=.seq #[.int a t1,.int b t2,.int m t3] n
theorem vN.keep (x:vN H h) (k:∀b o,h.get? b=some o->h'.get? b=some o):vN H h':=fun q a b m e=>
 let ⟨t1,t2,t3,o,n,e1,e2⟩:=x q a b m e;⟨t1,t2,t3,o,n,k _ _ e1,e2⟩
theorem Vs {P:Program} {w:World} (ok:eE P w H h):vN H h:=fun q a b m e=>by
 obtain ⟨_,its,hv,o,e1,e2,n,e3⟩:=(show ef P w H h q (uV a b m) from ok q _ e);rcases hv with _ | ⟨⟨t1,rfl⟩,hv⟩;rcases hv with _ | ⟨⟨t2,rfl⟩,hv⟩;rcases hv with _ | ⟨⟨t3,rfl⟩,hv⟩;cases hv;exact ⟨t1,t2,t3,o,n,e1,e2,e3⟩
theorem ltT (ht:vN H s.heap): @gH (vb H g) prog w A E s:=by
 refine @gH.mk (vb H g) prog w A E s ?_;rintro st p q Q hk ⟨x,a,b,hp,hx,_,_,b0,b1⟩ ⟨y,a',b',hq,hy,a0',a1',b0',b1'⟩ h;have e1: @N (vb H g) p=a*64+b:=by show zG H p.1=_;rw [hp,CT hx]
 have e2: @N (vb H g) q=a'*64+b':=by show zG H q.1=_;rw [hq,CT hy]
 rw [e1,e2] at h;obtain ⟨t1,t2,t3,ox,n,ox1,_,ox2⟩:=ht x _ _ _ hx;obtain ⟨u1,u2,u3,oy,n',oy1,_,oy2⟩:=ht y _ _ _ hy;rw [lt'_eq,hp,hq];refine wpS_bind (wpS_get ?_);rw [show kindOf st=tuples' true from hk];refine wpS_bind (wpS_lift (wpAny_attempt (PySem.W.kat_lt ox1 ox2 oy1 oy2 ?_)));show PySem.W.KatLex prog w A true (decide (3<3)) _ [(.int a t1,.int a' u1),(.int b t2,.int b' u2),(.int (g a b) t3,.int (g a' b') u3)] 0 s;refine PySem.W.kat_cons (wpAny_eqBool_int (PySem.W.kat_go (fun e=>PySem.W.kat_yes ?_) fun e=>PySem.W.kat_no ?_))
 ·have ea:a=a':=by simpa using e
  subst ea;refine PySem.W.kat_cons (wpAny_eqBool_int (PySem.W.kat_go (fun e=>PySem.W.kat_yes ?_) fun e=>PySem.W.kat_no ?_))
  ·have eb:b=b':=by simpa using e
   subst eb;refine PySem.W.kat_cons (wpAny_eqBool_int (PySem.W.kat_go (fun _=>PySem.W.kat_yes (PySem.W.kat_nil ⟨rfl,wpS_pure ?_⟩)) fun e=>absurd e (by simp)));have:decide (a*64+b<a*64+b)=decide (3<3):=by simp
   rw [<-this];exact h
  ·have:decide (a*64+b<a*64+b')=decide (b<b'):=by
    by_cases hb:b<b'
    ·rw [jo hb,jo (by lia)]
    ·rw [fU hb,fU (by lia)]
   rw [this] at h;exact PySem.W.kat_one _ _ (lt_int (show _ from ⟨rfl,wpS_pure h⟩))
 ·have ea:a≠a':=by simpa using e
  have:decide (a*64+b<a'*64+b')=decide (a<a'):=by
   by_cases hb:a<a'
   ·rw [jo hb,jo (by lia)]
   ·rw [fU hb,fU (by lia)]
  rw [this] at h;exact oneLt_int ⟨rfl,wpS_pure h⟩
theorem Zl (ht:vN H s.heap) {vs:List Value} {Q:SortKind->Shared->Prop} (hv:∀v∈vs,@ft (vb H g) (v,v)) (h2:2<=vs.length) (h:Q (tuples' true) s):wpAny (model prog w) A (keyKind' vs.toArray) Q E s:=by
 have key:∀l:List Value,(∀v∈l,@ft (vb H g) (v,v))->∃fs,PySem.W.KatTups s.heap l fs/\fs.length=l.length/\∀f∈fs,∃n t,f=Value.int n t:=by
  intro l
  induction l with
  | nil=>exact fun _=>⟨[],PySem.W.KatTups.nil,rfl,fun _ h=>nomatch h⟩
  | cons v r ih=>
   intro hl;obtain ⟨fs,k1,k2,k3⟩:=ih fun v hv=>hl v (gz _ hv);obtain ⟨q,a,b,e,hq,_⟩:=hl v eD;obtain rfl:v=.ref q:=e;obtain ⟨t1,t2,t3,o,n,e1,e2,e3⟩:=ht q _ _ _ hq;refine ⟨.int a t1::fs,PySem.W.KatTups.cons e1 e2 e3 rfl k1,by simp [k2],fun f hf=>?_⟩;rcases eS.mp hf with rfl | hf
   ·exact ⟨a,t1,rfl⟩
   ·exact k3 f hf
 obtain ⟨fs,k1,k2,k3⟩:=key vs hv;exact PySem.W.kat_kind (T:=.type "int") k1 (by lia) (fun v hv=>by obtain ⟨n,t,rfl⟩:=k3 v hv;exact PySem.W.Looks.of_pure rfl) (by decide) h
end
section
variable {X:Cx}
theorem NF:∀{ps:List Addr} {us:List Value},bp (ps.map V.ref) us->us=ps.map Value.ref
 | [],_,.nil=>rfl
 | p::ps,_,.cons r t=>by
  have e:=NF t;cases r;rw [eR,e]
theorem Pz:∀(ps:List Addr),bp (ps.map V.ref) (ps.map Value.ref)
 | []=>.nil
 | p::ps=>.cons rfl (Pz ps)
theorem XI:rn X (.builtin "sorted") (fun xs H Q=>∃(p:Addr) (ps:List Addr) (g:Int->Int->Int),xs=[.ref p]/\H p=some (.lst (ps.map V.ref))/\
 (∀q∈ps,∃a b,H q=some (uV a b (g a b))/\0<=a/\a<64/\0<=b/\b<64)/\
 ∀(l:Addr) (e_:List Addr),H l=none->e_.Perm ps->(e_.Pairwise fun x y=>zG H (.ref x)<=zG H (.ref y))->Q (.ref l) (upd H l (.lst (e_.map V.ref)))):=by
 intro pins s σ H xs us Q I r h;obtain ⟨p,ps,g,rfl,hp,jd,q⟩:=h;obtain ⟨u,rfl,ru⟩:=yw r;cases ru;obtain ⟨hz,its,n,rv,e0⟩:=(show ef X.prog X.w H s.heap p (.lst (ps.map V.ref)) from I.af p _ hp);rw [aD] at hz;obtain rfl:=NF rv;refine PM (R:=fun s1 us=>Inv X pins σ H s1/\us=ps.map Value.ref) (collect_list (vs:=ps.map Value.ref) ⟨_,e0,rfl,n,rfl⟩ ⟨I.at_ (s1:={ s with heap:=_ }) (fun b o e=>?_) rfl rfl rfl,rfl⟩ (by simpa using hz)) ?_
 ·have hb:b<s.heap.objs.size:=dt e;rw [Heap.get?_update_ne _ _ _ _ (gY hb)];exact cW _ e
 ·rintro s1 us ⟨I1,rfl⟩;have ht:vN H s1.heap:=Vs I1.af;have af:∀v∈ps.map Value.ref,@ft (vb H g) (v,v):=fun v hv=>by
   obtain ⟨x,hx,rfl⟩:=eB.mp hv;obtain ⟨a,b,h1,h2⟩:=jd x hx;exact ⟨x,a,b,rfl,h1,h2⟩
  refine @O6 (vb H g) X.prog X.w _ _ s1 _ _ (by simpa using hz) (fun h2 A E h' Q hk hq=>Zl (s:={ s1 with heap:=h' }) (ht.keep hk) af h2 hq) (fun A E h' hk=>ltT (s:={ s1 with heap:=h' }) (ht.keep hk)) af fun out h' o1 o2 k2 he=>?_;obtain ⟨e,he⟩:=he;obtain ⟨e_,lg⟩:∃e_:List Addr,out.toList=e_.map Value.ref:=by
   have:∀l:List Value,(∀v∈l,v∈ps.map Value.ref)->∃e_:List Addr,l=e_.map Value.ref:=by
    intro l
    induction l with
    | nil=>exact fun _=>⟨[],rfl⟩
    | cons v r ih=>
     intro hl;obtain ⟨e_,e⟩:=ih fun v hv=>hl v (gz _ hv);obtain ⟨x,_,e1⟩:=eB.mp (hl v eD);exact ⟨x::e_,by rw [eR,e,e1]⟩
   exact this _ fun v hv=>o1.mem_iff.mp hv
  rw [lg] at o1 o2;have hinj:Function.Injective Value.ref:=fun a b e=>by cases e;rfl
  have qF:e_.Perm ps:=by
   have:=o1.map (fun v:Value=>match v with | .ref a=>a | _=>0);simpa [List.map_map,Function.comp_def] using this
  have fr:H s1.heap.objs.size=none:=I1.af.fresh (az _);refine ⟨.ref s1.heap.objs.size,_,I1.laid (t':=s1.toks) k2 (az _) (show ef X.prog X.w _ h' _ (.lst (e_.map V.ref)) from ⟨?_,out.toList,e,by rw [lg];exact Pz e_,by rw [he]⟩),rfl,q _ _ fr qF ?_⟩
  ·rw [aD,qF.length_eq];exact hz
  ·rw [List.pairwise_map] at o2;exact o2
end
open PySem PySem.Spec PyProof.Rows
noncomputable def Zr:V->Option Int->Option Int->Hp->VK->Prop:=fun x lo hi H Q=>∃a xs,x=.ref a/\H a=some (.tup xs)/\
 ¬(HT.cm xs.length 0 lo=0/\HT.cm xs.length xs.length hi=xs.length)/\∀p,H p=none->Q (.ref p) (upd H p (.tup (kI xs lo hi)))
theorem UZ:FD X Zr:=by
 intro pins s σ H x v vl vu lo hi sl Q I rx hs pl pu h;obtain ⟨a,xs,e,h1,h2,q⟩:=h;exact CK pins s σ H x v vl vu lo hi sl Q I rx hs pl pu ⟨a,xs,e,c_.of h1,h2,q⟩
end L2
namespace Y0
open PySem L2
seal L2.PE L2.PA L2.PT L2.PS L2.gp L2.PG L2.nU L2.PI L2.PO
noncomputable abbrev vF:=Nat×Nat×Int
noncomputable def iM (H:Hp) (q:Addr) (x:vF):Prop:=H q=some (uV x.1 x.2.1 x.2.2)
theorem iM.same (h:iM H q x) (s:aH H H'):iM H' q x:=s _ _ h
noncomputable def uy (H:Hp) (q:Addr):vF:=match H q with
 | some (.tup [.int a,.int b,.int v])=>(a.toNat,b.toNat,v)
 | _=>(0,0,0)
theorem M_ (h:iM H q x):uy H q=x:=by
 unfold uy;rw [h];obtain ⟨a,b,v⟩:=x;rfl
theorem OD:∀{ps:List Addr} {L:List vF},Paired (iM H) ps L->L=ps.map (uy H)
 | _,_,.nil=>rfl
 | _,_,.cons r t=>by rw [eR,<-OD t,M_ r]
theorem NO:∀{ps:List Addr},(∀q∈ps,iM H q (uy H q))->Paired (iM H) ps (ps.map (uy H))
 | [],_=>.nil
 | q::_,h=>.cons (h q eD) (NO fun r hr=>h r (gz _ hr))
theorem Qf:∀{l:List α} {m:List β},Paired F l m->∀x∈l,∃y∈m,F x y
 | _,_,.nil,_,h=>nomatch h
 | _,_,.cons r t,x,h=>by
  rcases eS.mp h with rfl | h
  ·exact ⟨_,eD,r⟩
  ·obtain ⟨y,hy,ry⟩:=Qf t x h;exact ⟨y,gz _ hy,ry⟩
noncomputable def vR (st:MU.St) (t:Bool) (k:MU.Key):Option vF:=if k.1=t then (MU.val st k).map fun v=>(k.2.1,k.2.2,v) else none
structure DS (st:MU.St) (t:Bool) (L:List vF):Prop where
 up:L.Pairwise fun x y=>((x.1:Int)*64+x.2.1)<=((y.1:Int)*64+y.2.1)
 has:∀a b v,(a,b,v)∈L↔MU.val st (t,a,b)=some v
 once:(L.map fun x=>(x.1,x.2.1)).Nodup
noncomputable def M8 (C:Addr):Sp:=fun vs H Q _=>∃(p be rl bd:Addr) (n:Nat) (F:MU.ck) (st:MU.St) (t:Bool),vs=[.ref p,.str (lW t)]/\fY C H p be rl bd n F st/\MU.cj n st/\n<=8/\st.rows.length<=16500000/\
 ∀l H' ps L,H l=none->aH H H'->H' l=some (.lst (ps.map V.ref))->Paired (iM H') ps L->DS st t L->Q (.ref l) H'
theorem Vf {kvs:List (List Key×V)} (h:∀kv∈kvs,∃k:MU.Key,kv.1=cw k):∃ks:List MU.Key,kvs.map (·.1)=ks.map cw:=by
 induction kvs with
 | nil=>exact ⟨[],rfl⟩
 | cons kv r ih=>
  obtain ⟨ks,e⟩:=ih fun kv eA=>h kv (gz _ eA);obtain ⟨k,e1⟩:=h kv eD;exact ⟨k::ks,by rw [eR,eR,e,e1]⟩
theorem Yn:kI (lF x) (some 1) none=[V.int (x.a:Int),V.int (x.b:Int),V.int x.v]:=by
 unfold kI lF;rw [HT.eI,show (some (1:Int))=some ((1:Nat):Int) from rfl,HT.dN];rfl
theorem TF:¬(HT.cm (lF x).length 0 (some 1)=0/\HT.cm (lF x).length (lF x).length none=(lF x).length):=fun z=>by
 have h:=z.1;rw [show (some (1:Int))=some ((1:Nat):Int) from rfl,HT.dN] at h;have e:(lF x).length=4:=rfl;rw [e] at h;cases h
theorem Qn:∀{l:List α},(l.map f).Nodup->l.Nodup
 | [],_=>List.nodup_nil
 | a::l,h=>by
  rw [eR,List.nodup_cons] at h;exact List.nodup_cons.mpr ⟨fun z=>h.1 (List.mem_map_of_mem z),Qn h.2⟩
theorem Zj:decide (V.str (lW a)=V.str (lW b))=decide (a=b):=decide_eq_decide.mpr ⟨fun q=>OV (V.str.inj q),fun q=>by rw [q]⟩
theorem Y5:cE ["self","kind"] ["self","kind"] (aX aP):=cV
theorem Yd:iO (aX aP) ["self","kind"] (lP [(".0",.local),("key",.local),("kind",.free),("self",.free)]) ["key","kind","self"] [none,some 1,some 0]:=lQ
theorem YS:(["key","kind","self"]:List Str).Nodup:=by decide+kernel
theorem tV {f C:Addr} {fd:FuncData} (F:gI K "best_drawn" "Closing.best_drawn" aP f fd) (T:oV K mg C) (hS:mg "sorted"=none):aq P w K mg base a9 1 f fd ["self","kind"] (M8 C):=by
 refine F.de Y5 fun _ A _ s H _ Q E hr h=>?_;obtain ⟨p,be,rl,bd,n,Fa,st,t,rfl,c,g,h8,hlen,k⟩:=h;have hu:=lV hr;refine ⟨_,aE (cB (ju XI (by rfl) hS PyProof.Rows.boot_sorted (bL (UO (oY rfl (UQ (fC (pv 0) rfl)) Yd (fun cl ex s0 H0=>⟨bR 0 YS,Ao (dj gr (a8 (pv 0)) (pv 1)),pR UZ (a8 (dh dS (uL (K:=K) rfl (pv 2) rfl) (nc hu (uL (K:=K) rfl (pv 2) rfl) (pv 0) (fun _ _=>rfl)))) (pO aw) pN⟩)))))),?_⟩;obtain ⟨dx,hp⟩:=c.ins;obtain ⟨qs,gw,cp⟩:=c.rows;obtain ⟨kvs,fQ,vq,eA⟩:=c.best;obtain ⟨ks,B8⟩:=Vf vq.2;have hkn:kvs.length=ks.length:=by have:=congrArg List.length B8;simpa using this
 refine ⟨_,rfl,p,C,dx,_,_,rfl,hp,T.cl,T.nE,rz,bd,kvs,rfl,fQ,fun oE o Da cI=>?_⟩;rw [B8] at oE;have knd:ks.Nodup:=Qn oE;have known:∀kk∈ks,∃j x,st.best kk=some j/\MU.ah st j=some x/\x.key=kk:=fun kk hk=>by
  have:(fi kvs (cw kk)).isSome=true:=by
   rw [<-wu];have hm:cw kk∈kvs.map (·.1):=by rw [B8];exact List.mem_map_of_mem hk
   obtain ⟨kv,h1,h2⟩:=eB.mp hm;exact List.any_eq_true.mpr ⟨kv,h1,by simpa using h2⟩
  rw [eA] at this
  cases hb:st.best kk with
  | none=>rw [hb] at this;cases this
  | some j=>
   obtain ⟨x,h1,h2⟩:=g.at_ _ _ hb;exact ⟨j,x,rfl,h1,h2⟩
 have SV:bd≠p:=cQ fQ hp nofun;have bdr:bd≠rl:=cQ fQ gw nofun;have Ti:Da≠bd:=fun z=>by rw [z,ai] at cI;cases cI
 have Sw:H Da=none:=by rwa [ao Ti] at cI
 refine Wn (a:=bd) (o:=o) (kvs:=kvs) (fun i aa H'=>∃v ps L,aa=[v,some (.str (lW t)),some (.ref p)]/\H' Da=some (.lst (ps.map V.ref))/\Paired (iM H') ps L/\L=(ks.take i).filterMap (vR st t)/\ps.length<=i/\H' bd=some (.gG o (.dT kvs))/\∀b x,H b=some x->b≠bd->H' b=some x)
  ⟨none,[],[],rfl,ai,.nil,rfl,d9 _,by rw [ao (aF Ti),ai],fun b x e ne=>by rw [ao (aQ e Sw),ao ne];exact e⟩ ?_ ?_ ?_
 ·rintro i aa H2 _ ⟨v,ps,L,rfl,_,_,_,_,e,_⟩;exact e
 ·rintro i kx vx q aa H2 hi hq ⟨v,ps,L,rfl,e2,jd,hL,fe,eb,kp⟩;obtain ⟨kk,KL,rfl⟩:∃kk,ks[i]?=some kk/\kx=cw kk:=by
   have:=congrArg (fun l=>l[i]?) B8;simp only [fv,hi] at this
   cases hk:ks[i]? with
   | none=>rw [hk] at this;cases this
   | some kk=>rw [hk] at this;exact ⟨kk,rfl,eT this⟩
  have hil:i<ks.length:=(gQ.mp KL).1;have et:ks.take (i+1)=ks.take i++[kk]:=by rw [l9,KL];rfl
  obtain ⟨tt,a,b⟩:=kk;obtain ⟨j,x,qL,hx,hxk⟩:=known _ (gn KL);have Kd:MU.val st (tt,a,b)=some x.v:=by unfold MU.val;rw [qL];show (MU.ah st j).map _=_;rw [hx];rfl
  refine ⟨_,rfl,ay hq rfl ⟨_,rfl,rfl,_,rfl,?_⟩⟩;refine (show if decide (V.str (lW tt)=V.str (lW t))=true then _ else _ from ?_);rw [Zj]
  by_cases ht:tt=t
  ·refine ja ht ?_;obtain ⟨q',r,pw,pu,g1,_,_,g4,g5,_⟩:=Dc cp hx;have iH:iI (qs.map V.ref) (j:Int)=some (.ref q'):=kg (by rw [fv,g1];rfl);have dg:fh H2 bd (.ref q) (some (.int (j:Int))):=.inr ⟨kvs,_,q,.inr ⟨o,eb⟩,rfl,hq,by rw [eA,qL];rfl⟩;have AJ:∀{b:Addr} {xs:List V},H b=some (.tup xs)->H2 b=some (.tup xs):=fun e=>kp _ _ e (cQ e fQ nofun);refine ⟨_,rfl,p,C,dx,_,_,rfl,kp _ _ hp (aF SV),T.cl,T.nR,sO,_,rfl,p,C,dx,_,_,rfl,kp _ _ hp (aF SV),T.cl,T.nE,rz,_,rfl,bd,_,rfl,dg,rl,_,_,_,rfl,rfl,kp _ _ gw (aF bdr),iH,ay (AJ g4) rfl ⟨_,rfl,pw,_,rfl,AJ g5,TF,fun kt mw=>?_⟩⟩;rw [Yn];have RX:=MU.iD hxk;have e3:upd H2 kt (.tup [V.int (x.a:Int),V.int (x.b:Int),V.int x.v]) kt=some (.tup [V.int (x.a:Int),V.int (x.b:Int),V.int x.v]):=ai;have s3:=aG (o:=.tup [V.int (x.a:Int),V.int (x.b:Int),V.int x.v]) mw;generalize upd H2 kt (.tup [V.int (x.a:Int),V.int (x.b:Int),V.int x.v])=H3 at*;have nP:=s3 _ _ e2;have nD:∀{b:Addr} {o:HO},H3 b=some o->o≠.lst (ps.map V.ref)->upd H3 Da (.lst (ps.map V.ref++[.ref kt])) b=some o:=fun {b o} e ne=>by rw [ao (cQ e nP ne)];exact e
   have keep:∀b y,iM H2 b y->iM (upd H3 Da (.lst (ps.map V.ref++[.ref kt]))) b y:=fun b y e=>nD (s3 _ _ e) nofun;refine ⟨_,nP,?_,_,ps++[kt],L++[(a,b,x.v)],rfl,?_,?_,?_,?_,?_,fun b' y e ne=>?_⟩
   ·rw [aD];have:=vq.1;exact Nat.lt_of_le_of_lt (show ps.length<=16500000 by lia) (by decide)
   ·rw [ai,d_];rfl
   ·refine pW (gM jd keep) (.cons ?_ .nil);have:iM H3 kt (a,b,x.v):=by
     unfold iM uV;rw [e3,RX.2.1,RX.2.2]
    exact nD this nofun
   ·rw [et,List.filterMap_append,hL];have:vR st t (tt,a,b)=some (a,b,x.v):=by
     unfold vR;rw [if_pos ht,Kd];rfl
    simp [this]
   ·rw [ik];show ps.length+1<=i+1;lia
   ·exact nD (s3 _ _ eb) nofun
   ·rw [ao (aQ e Sw)];exact s3 _ _ (kp _ _ e ne)
  ·refine kJ ht ⟨_,ps,L,rfl,e2,jd,?_,by exact Nat.le.step fe,eb,kp⟩;rw [et,List.filterMap_append,hL];have:vR st t (tt,a,b)=none:=if_neg ht;simp [this]
 ·rintro aa H2 ⟨v,ps,L,rfl,e2,jd,hL,fe,eb,kp⟩;refine ⟨bd,o,_,eb,fun o u z=>?_,?_⟩
  ·have z:H bd=some (.gG o u):=z;rw [fQ] at z;cases z
  have s3:aH H (upd H2 bd (.dT kvs)):=fun b x e=>by
   by_cases hb:b=bd
   ·subst hb;rw [fQ] at e;cases e;exact ai
   ·rw [ao hb];exact kp _ _ e hb
  have nb:∀{b:Addr} {x:HO},H2 b=some x->x≠.gG o (.dT kvs)->upd H2 bd (.dT kvs) b=some x:=fun {b x} e ne=>by rw [ao (cQ e eb ne)];exact e
  have e3:=nb e2 nofun;have Bx:Paired (iM (upd H2 bd (.dT kvs))) ps L:=gM jd fun b y e=>nb e nofun;generalize upd H2 bd (.dT kvs)=H3 at*;have bJ:ks.take kvs.length=ks:=by rw [hkn];exact j8
  rw [bJ] at hL;have JS:∀a b v,(a,b,v)∈L↔MU.val st (t,a,b)=some v:=fun a b v=>by
   rw [hL,List.mem_filterMap]
   constructor
   ·rintro ⟨kk,hk,e⟩;unfold vR at e
    by_cases mw:kk.1=t
    ·rw [if_pos mw] at e
     cases hv:MU.val st kk with
     | none=>rw [hv] at e;cases e
     | some v'=>
      rw [hv] at e;cases e;obtain ⟨t',a',b'⟩:=kk;cases mw;exact hv
    ·rw [if_neg mw] at e;cases e
   ·intro hv;have hb:∃j,st.best (t,a,b)=some j:=by
     unfold MU.val at hv
     cases hq:st.best (t,a,b) with
     | none=>rw [hq] at hv;cases hv
     | some j=>exact ⟨j,rfl⟩
    obtain ⟨j,hj⟩:=hb;have:(fi kvs (cw (t,a,b))).isSome=true:=by rw [eA,hj];rfl
    rw [<-wu] at this;obtain ⟨kv,h1,h2⟩:=List.any_eq_true.mp this;have hm:cw (t,a,b)∈ks.map cw:=by rw [<-B8];exact eB.mpr ⟨kv,h1,by simpa using h2⟩
    obtain ⟨kk,h3,h4⟩:=eB.mp hm;refine ⟨(t,a,b),Oy h4▸h3,?_⟩;unfold vR;rw [if_pos rfl,hv];rfl
  have small:∀q∈ps,∃x∈L,iM H3 q x/\x.1<8/\x.2.1<8:=fun q hq=>by
   obtain ⟨x,hx,uf⟩:=Qf Bx q hq;refine ⟨x,hx,uf,?_⟩;obtain ⟨a,b,v⟩:=x;have hv:=(JS a b v).mp hx;unfold MU.val at hv
   cases hq:st.best (t,a,b) with
   | none=>rw [hq] at hv;cases hv
   | some j=>
    obtain ⟨w',h1,h2⟩:=g.at_ _ _ hq;have h3:=g.lt _ _ h1;have h4:=MU.iD h2;exact ⟨by show a<8;have:=h4.2.1;lia,by show b<8;have:=h4.2.2;lia⟩
  refine ⟨Da,ps,fun a b=>(MU.val st (t,a.toNat,b.toNat)).getD 0,rfl,e3,fun q hq=>?_,fun l e_ hl qF Ke=>?_⟩
  ·obtain ⟨⟨a,b,v⟩,hx,uf,ha,hb⟩:=small q hq;refine ⟨a,b,?_,by exact Int.NonNeg.mk (a+0),by lia,by exact Int.NonNeg.mk (b+0),by lia⟩;show H3 q=some (uV a b ((MU.val st (t,((a:Int)).toNat,((b:Int)).toNat)).getD 0));rw [i7,i7,(JS a b v).mp hx];exact uf
  ·have KD:H l=none:=by
    cases q:H l with
    | none=>rfl
    | some x=>rw [s3 _ _ q] at hl;cases hl
   have s4:=aG (o:=.lst (e_.map V.ref)) hl;have xO:∀q∈e_,iM H3 q (uy H3 q):=fun q hq=>by
    obtain ⟨x,_,uf,_⟩:=small q (qF.mem_iff.mp hq);rw [M_ uf];exact uf
   have Lq:(e_.map (uy H3)).Perm L:=by rw [OD Bx];exact qF.map _
   refine k l _ e_ (e_.map (uy H3)) KD (s3.trans s4) ai (gM (NO xO) fun q x e=>e.same s4) ⟨?_,fun a b v=>?_,?_⟩
   ·rw [List.pairwise_map];refine List.Pairwise.imp_of_mem (fun {x y} hx hy e=>?_) Ke;rw [CT (xO x hx),CT (xO y hy)] at e;exact e
   ·rw [Lq.mem_iff];exact JS a b v
   ·refine ((Lq.map _).nodup_iff).mpr ?_;rw [hL];unfold List.Nodup;rw [List.pairwise_map];refine List.Pairwise.filterMap _ (fun a a' df b hb b' dZ e=>df ?_) knd;unfold vR at hb dZ
    by_cases h1:a.1=t
    ·by_cases h2:a'.1=t
     ·rw [if_pos h1] at hb;rw [if_pos h2] at dZ
      cases hv:MU.val st a with
      | none=>rw [hv] at hb;cases hb
      | some v1=>
       cases fG:MU.val st a' with
       | none=>rw [fG] at dZ;cases dZ
       | some v2=>
        rw [hv] at hb;rw [fG] at dZ;cases hb;cases dZ;have e:(a.2.1,a.2.2)=(a'.2.1,a'.2.2):=e;exact Prod.ext (h1.trans h2.symm) e
     ·rw [if_neg h2] at dZ;cases dZ
    ·rw [if_neg h1] at hb;cases hb
end Y0
namespace L2
open PySem PySem.Spec PyProof.Rows
theorem HV:rn X (.builtin "len") (fun xs H Q=>∃p ys,xs=[.ref p]/\H p=some (.lst ys)/\Q (.int ys.length) H):=by
 intro pins s σ H xs us Q I r h;obtain ⟨p,ys,e,h1,q⟩:=h;exact w9 pins s σ H xs us Q I r ⟨p,ys,e,.inl (ax.of h1),q⟩
end L2
namespace Y0
open PySem L2
theorem FZ {qs:List Addr} {i:Nat}:kI (qs.map V.ref) none (some (i:Int))=(qs.take i).map V.ref:=by
 unfold kI;rw [HT.dN,HT.eI,List.drop_zero,Nat.sub_zero,List.map_take];rw [<-List.take_eq_take_min]
theorem Hy {qs:List Addr} {i:Nat}:kI (qs.map V.ref) (some (i:Int)) none=(qs.drop i).map V.ref:=by
 unfold kI;rw [HT.dN,HT.eI,List.map_drop,aD]
 by_cases h:i<=qs.length
 ·rw [Nat.min_eq_left h];exact List.take_of_length_le (by rw [vE,aD];lia)
 ·rw [Nat.min_eq_right (by lia),List.drop_of_length_le (by rw [aD];lia),List.drop_of_length_le (by rw [aD];lia)];exact List.take_nil
theorem zev:∀{l:List α} {m:List β} (n:Nat),Paired F l m->Paired F (l.take n) (m.take n)
 | _,_,0,_=>.nil
 | _,_,_+1,.nil=>.nil
 | _,_,n+1,.cons r t=>.cons r (zev n t)
theorem DP:∀{l:List α} {m:List β} (n:Nat),Paired F l m->Paired F (l.drop n) (m.drop n)
 | _,_,0,h=>h
 | _,_,_+1,.nil=>.nil
 | _,_,n+1,.cons _ t=>DP n t
theorem OE (k:cq d H H') (hd:H d=some (.lst ys)) (h:H q=some (.tup xs)):H' q=some (.tup xs):=k _ _ h (cQ h hd nofun)
end Y0
namespace MU
noncomputable def iB (st:St):Prop:=(∀(i:Nat) (r:Row),st.rows[i]?=some r->r.used.length<=2/\∀j∈r.used,j<i)/\∀b,st.bar=some b->∃r,st.rows[b]?=some r/\iA r.cC
theorem Pq {w:aj} (h:iB st) (hu:us.length<=2/\∀j∈us,j<st.rows.length):iB (take st w word us):=by
 unfold take;split
 ·refine ⟨fun i r hr=>?_,fun b hb=>?_⟩
  ·have hr:(st.rows++[⟨w,word,us⟩])[i]?=some r:=hr
   by_cases hi:i<st.rows.length
   ·rw [r_ hi] at hr;exact h.1 i r hr
   ·rw [qW (by exact mE hi)] at hr
    cases hk:i-st.rows.length with
    | zero=>
     rw [hk] at hr;cases hr;exact ⟨hu.1,fun j hj=>by have:=hu.2 j hj;lia⟩
    | succ k=>rw [hk] at hr;cases hr
  ·have hb:(if st.bar=none/\iA w then some st.rows.length else st.bar)=some b:=hb;show ∃r,(st.rows++[(⟨w,word,us⟩:Row)])[b]?=some r/\iA r.cC
   by_cases hc:st.bar=none/\iA w
   ·rw [if_pos hc] at hb;cases hb;exact ⟨_,by rw [qW (az _),Nat.sub_self];rfl,hc.2⟩
   ·rw [if_neg hc] at hb;obtain ⟨r,hr,hB⟩:=h.2 b hb;exact ⟨r,by rw [r_ (gQ.mp hr).1];exact hr,hB⟩
 ·exact h
theorem O2 (h:iB st) (hu:∀x,o=some x->us.length<=2/\∀j∈us,j<st.rows.length):iB (put st o word us):=by
 cases o with
 | none=>exact h
 | some x=>exact Pq h (hu x rfl)
theorem DM (h:iB st):iB (aK f word i st):=by
 refine O2 h fun x hx=>⟨by show 1<=2;exact Nat.le.step Nat.le.refl,fun j hj=>?_⟩
 cases hw:ah st i with
 | none=>rw [hw] at hx;cases hx
 | some y=>rw [iK.mp hj];exact m_ hw
theorem DN (h:iB st):iB (ak f word i j st):=by
 refine O2 h fun x hx=>⟨az 2,fun k hk=>?_⟩
 cases hw:ah st i with
 | none=>rw [hw] at hx;cases hx
 | some y=>
  rw [hw] at hx
  cases ki:ah st j with
  | none=>rw [show ((some y).bind fun p=>(ah st j).bind fun q=>f p q)=(ah st j).bind fun q=>f y q from rfl,ki] at hx;cases hx
  | some z=>
   rcases eS.mp hk with rfl | hk
   ·exact m_ hw
   ·rw [iK.mp hk];exact m_ ki
theorem yQ {α:Type} {g:St->α->St} (hg:∀st a,iB st->iB (g st a)):∀(l:List α) (st:St),iB st->iB (l.foldl g st)
 | [],_,h=>h
 | a::l,st,h=>yQ hg l _ (hg st a h)
theorem PV (rows:List aj) (st:St) (h:iB st):iB (lE rows st):=yQ (fun st w h=>Pq h ⟨d9 _,fun j hj=>absurd hj (by simp)⟩) rows st h
theorem Qa:iB empty:=⟨fun i r h=>by simp [empty] at h,fun b h=>by simp [empty] at h⟩
theorem XD {n:Nat} {F:ck} {at_ a b:Nat} {st:St} (h:iB st):iB (dW n F at_ a b st):=
 yQ (fun _ _ h=>DN h) _ _ (yQ (fun _ _ h=>DN h) _ _ (yQ (fun _ _ h=>DN h) _ _ (DM (DM h))))
theorem XU {n:Nat} {F:ck} {at_ a:Nat} {st:St} (h:iB st):iB (fm n F at_ a st):=
 yQ (fun _ _ h=>DN h) _ _ (DM (DM h))
theorem HD (h:iB st):∀t,iB (run n F st t)
 | 0=>h
 | t+1=>by
  have ih:=HD (n:=n) (F:=F) h t;show iB (look n F t (run n F st t));unfold look;split
  ·split
   ·split
    ·exact XD ih
    ·exact XU ih
   ·exact ih
  ·exact ih
end MU
namespace L2
open PySem PySem.Spec PyProof.Rows
noncomputable def Cm (hi:Int) (n:Nat):It:=⟨fun i _=>i<n,fun i H x H'=>H'=H/\x=.int (hi-i),fun i _=>n<=i⟩
theorem XO {w:World} {lo:Int} {i n:Nat} (hi:i<n) (st:IsRangeIter s.heap it (lo-(i:Nat)) ((n:Int)-(i:Nat)) (-1))
 (hQ:∀(t:Tok) h' tk,IsRangeIter h' it (lo-((i+1:Nat):Int)) ((n:Int)-((i+1:Nat):Int)) (-1)->(∀b o,b∉[it]->s.heap.get? b=some o->h'.get? b=some o)->Q (some (.int (lo-(i:Nat)) t)) { s with heap:=h',toks:=tk }):
 wpAny (model prog w) A (pyNext (.ref it)) Q E s:=by
 refine wpAny_pyNext_range_item st (by lia) fun h' ae sb=>?_;refine hQ _ h' _ ?_ fun b o hb e=>sb.extBut b o (fun z=>hb (by simp [z])) e;have e1:lo-((i+1:Nat):Int)=lo-(i:Int)+ -1:=by lia
 have e2:(n:Int)-((i+1:Nat):Int)=(n:Int)-(i:Int)-1:=by lia
 rw [e1,e2];exact ae
theorem Xl {P:Program} {w:World} {K:aA} {tg:Expr} (it:Addr) (lo:Int) (n:Nat):vO P w K tg (Cm lo n) [it] it (fun i h=>IsRangeIter h it (lo-(i:Nat)) ((n:Int)-(i:Nat)) (-1)) where
 mem:=by simp
 obj:=fun i h st b hb=>by
  have e:b=it:=by simpa using hb
  subst e;exact ⟨_,st,fun v z=>by
   have z':Data.fields _=Data.cell v:=z;cases z'⟩
 keep:=fun i h h' st k=>k it (by simp) _ st
 item:=by
  intro X hP hw hK _ i pins s σ H E I hf st hg;subst hP hw hK;obtain ⟨f0,f1,_,f3,f4,f5⟩:=hf it (by simp);refine XO hg st fun t h' tk ae kk=>?_;have I1:Inv X pins σ H { s with heap:=h',toks:=tk }:=I.turned (fun b o hb e=>kk b o (by simpa using hb) e) f0 f1 f3 f4 f5;exact ⟨_,rfl,CA (s:={ s with heap:=h',toks:=tk }) (n:="range_iterator") ae rfl rfl (by decide) ⟨.int (lo-i),H,I1,⟨t,rfl⟩,⟨rfl,rfl⟩,ae,fun b hb=>(hf b hb).1⟩⟩
 done:=by
  intro X hP hw hK hc i pins s σ H E I hf st hg;subst hP hw hK;obtain ⟨f0,f1,_,f3,f4,f5⟩:=hf it (by simp);exact Qo (zY hc I) st (by have:n<=i:=hg;lia) fun h' eb=>⟨rfl,I.turned (t':=s.toks) (fun b o hb e=>eb b o hb e) f0 f1 f3 f4 f5⟩
 self:=fun _ _ _ _ _ st h=>wpAny_pyIter_rangeiter st h
theorem V6 {lo:Int} {n:Nat} {g:TG} {tb:TS} {D:uv} {σ:St} {H:Hp} (Pv:Nat->St->Hp->Prop) (h0:Pv 0 σ H)
 (hs:∀i σ H,i<n->Pv i σ H->g (.int (lo-i)) σ H fun i9 H2=>tb { D with nx:=Pv (i+1),ct:=Pv (i+1),bk:=D.nx } i9 H2) (hd:∀σ H,Pv n σ H->D.nx σ H):
 ∃W:Nat->Nat->St->Hp->Prop,(∃m,W 0 m σ H)/\∀i m σ H,W i m σ H->
  ((Cm lo n).stop i H/\D.nx σ H)\/((Cm lo n).go i H/\∃N:St->Hp->Prop,(∀aa H',N aa H'->∃m',m'<m/\W (i+1) m' aa H')/\∀x H',(Cm lo n).wA i H x H'->g x σ H' fun i9 H2=>tb { D with nx:=N,ct:=N,bk:=D.nx } i9 H2):=by
 refine ⟨fun i m σ H=>m=n-i/\i<=n/\Pv i σ H,⟨n,by simp,d9 _,h0⟩,?_⟩;rintro i m σ H ⟨rfl,hi,p⟩
 by_cases bg:i<n
 ·refine .inr ⟨bg,Pv (i+1),fun aa H' p'=>⟨n-(i+1),by omega,rfl,bg,p'⟩,fun x H' y=>?_⟩;obtain ⟨e,y⟩:=y;subst e y;exact hs i σ _ bg p
 ·have e:i=n:=by lia
  subst e;exact .inl ⟨az _,hd σ H p⟩
theorem Np (n:Nat):Builtin.Range.rangeSize ((n:Int)-1) (-1) (-1)=(n:Int):=by
 unfold Builtin.Range.rangeSize;rw [if_neg (by decide)]
 by_cases h:0<n
 ·rw [if_pos (by lia)];show ((n:Int)-1- -1-1) / 1+1=n;rw [Int.ediv_one];lia
 ·rw [if_neg (by lia)];lia
theorem VX {n:Nat} (h:n<=20000000):Builtin.Range.small ((n:Int)-1) (-1) (-1)=true:=by
 unfold Builtin.Range.small;rw [Np];simp [Builtin.Range.rangeFitsLong];lia
section
variable {X:Cx} {tg:Expr}
noncomputable def iDn (ta:TA):TI:=fun σ H R=>ta σ H fun vs H1=>∃n:Nat,vs=[.int ((n:Int)-1),.int (-1),.int (-1)]/\n<=20000000/\R (Cm ((n:Int)-1) n) H1
theorem WJ (hg:Gl X "range") (hm:X.mg "range"=none) (ha:PA X [a,b,c] ta) (hs:starEach [a,b,c] X.env=[(false,eval a X.env),(false,eval b X.env),(false,eval c X.env)]:=by rfl) (jQ:starEach [b,c] X.env=[(false,eval b X.env),(false,eval c X.env)]:=by rfl):
 PI X tg (.Call (.Name "range" p) [a,b,c] [] pos) (iDn ta):=by
 intro pins s σ H R I h;refine Call_ (vY I hg hm boot_range (PyProof.Rows.callWith_type1 (av (ha pos pins s σ H _ I h) fun us s1 zz=>?_) (by rw [hs,jQ]) (by rw [jQ];rfl)));obtain ⟨vs,H1,I1,r1,q1⟩:=zz;obtain ⟨n,e,hn,q⟩:=q1;subst e
 cases r1 with
 | cons r rr=>
  cases rr with
  | cons r' rr=>
   cases rr with
   | cons AV rr=>
    cases rr;obtain ⟨t,rfl⟩:=r;obtain ⟨t',rfl⟩:=r';obtain ⟨EC,rfl⟩:=AV;refine call_range_3 (by decide) ?_ (Or.inl (PyProof.noPylong_small (by lia)));refine wpAny_pyIter_range (IsRange.new ..) (VX hn) ?_;have I2:Inv X pins σ H1 { s1 with heap:=s1.heap.push { cls:=.type "range",data:=.fields #[.int ((n:Int)-1) t,.int (-1) t',.int (-1) EC] },toks:=s1.toks }:=I1.kept fun b o e=>cW _ e;refine ⟨(s1.heap.push { cls:=.type "range",data:=.fields #[.int ((n:Int)-1) t,.int (-1) t',.int (-1) EC] }).objs.size,[(s1.heap.push { cls:=.type "range",data:=.fields #[.int ((n:Int)-1) t,.int (-1) t',.int (-1) EC] }).objs.size],_,_,H1,rfl,
     I2.kept (t':=s1.toks) fun b o e=>cW _ e,Xl _ ((n:Int)-1) n,?_,fun b hb=>?_,q⟩
    ·show IsRangeIter _ _ (((n:Int)-1)-((0:Nat):Int)) ((n:Int)-((0:Nat):Int)) (-1);rw [show ((n:Int)-1)-((0:Nat):Int)=(n:Int)-1 by lia,show (n:Int)-((0:Nat):Int)=Builtin.Range.rangeSize ((n:Int)-1) (-1) (-1) by rw [Np];lia];exact jZ _ rfl
    ·have e:b=(s1.heap.push { cls:=.type "range",data:=.fields #[.int ((n:Int)-1) t,.int (-1) t',.int (-1) EC] }).objs.size:=by simpa using hb
     subst e;exact I2.qP (az _) (I2.af.fresh (az _))
end
end L2
namespace Y0
open PySem L2
seal L2.PE L2.PA L2.PT L2.PS L2.gp L2.PG L2.nU L2.PI L2.PO
noncomputable def QH (rows:List MU.Row):Prop:=∀(i:Nat) (r:MU.Row),rows[i]?=some r->r.used.length<=2/\∀j∈r.used,j<i
structure Ij (rows:List MU.Row) (last:Nat) (ns:List Nat):Prop where
 up:ns.Pairwise (·<·)
 le:∀i∈ns,i<=last
 has:last∈ns
 uses:∀i∈ns,∀r,rows[i]?=some r->∀j∈r.used,j∈ns
 why:∀i∈ns,i=last\/∃k∈ns,∃r,rows[k]?=some r/\i∈r.used
structure NI (rows:List MU.Row) (last:Nat) (P:Nat->Prop) (ks:List Nat):Prop where
 once:ks.Nodup
 le:∀k∈ks,k<=last
 has:last∈ks
 why:∀i∈ks,i=last\/∃k∈ks,∃r,rows[k]?=some r/\i∈r.used
 fin:∀k∈ks,P k->∀r,rows[k]?=some r->∀j∈r.used,j∈ks
noncomputable def vP (ks:List Nat) (j:Nat):List Nat:=if j∈ks then ks else ks++[j]
theorem rK:k∈vP ks j↔k∈ks\/k=j:=by
 unfold vP;split
 ·exact ⟨.inl,fun h=>h.elim id fun e=>e▸‹j∈ks›⟩
 ·simp
theorem NI.add {P:Nat->Prop} (h:NI rows last P ks) (hm:m∈ks) (hr:rows[m]?=some r) (hj:j∈r.used) (zu:j<=m) (hP:¬P j):NI rows last P (vP ks j):=by
 refine ⟨?_,fun k hk=>?_,rK.mpr (.inl h.has),fun i hi=>?_,fun k hk hp r' aI j' jS=>?_⟩
 ·unfold vP;split
  ·exact h.once
  ·rename_i hn
   exact List.nodup_append.mpr ⟨h.once,List.nodup_cons.mpr ⟨nofun,List.nodup_nil⟩,fun a ha b hb e=>hn (by rw [iK.mp hb] at e;rw [<-e];exact ha)⟩
 ·rcases rK.mp hk with hk | rfl
  ·exact h.le k hk
  ·have:=h.le m hm;lia
 ·rcases rK.mp hi with hi | rfl
  ·rcases h.why i hi with e | ⟨k,hk,r',h1,h2⟩
   ·exact .inl e
   ·exact .inr ⟨k,rK.mpr (.inl hk),r',h1,h2⟩
  ·exact .inr ⟨m,rK.mpr (.inl hm),r,hr,hj⟩
 ·rcases rK.mp hk with hk | rfl
  ·exact rK.mpr (.inl (h.fin k hk hp r' aI j' jS))
  ·exact absurd hp hP
noncomputable def sC (ks:List Nat):List Key:=ks.map fun i:Nat=>Sum.inl (i:Int)
theorem HL {ks:List Nat} {j:Nat}:(Sum.inl (j:Int):Key)∈sC ks↔j∈ks:=by
 unfold sC;rw [eB]
 constructor
 ·rintro ⟨k,hk,e⟩;have:=Int.ofNat.inj (Sum.inl.inj e);exact this▸hk
 ·exact fun h=>⟨j,h,rfl⟩
theorem VA {ks:List Nat} {j:Nat} (h:kvs.map (·.1)=sC ks):(dR kvs (Sum.inl (j:Int)) v).map (·.1)=sC (vP ks j):=by
 have hm:(kvs.any fun kv=>decide (kv.1=Sum.inl (j:Int)))=true↔j∈ks:=by
  rw [List.any_eq_true,<-HL,<-h,eB]
  constructor
  ·rintro ⟨kv,h1,h2⟩;exact ⟨kv,h1,by simpa using h2⟩
  ·rintro ⟨kv,h1,h2⟩;exact ⟨kv,h1,by simpa using h2⟩
 unfold dR vP
 by_cases hj:j∈ks
 ·rw [if_pos (hm.mpr hj),if_pos hj,<-h,List.map_map];refine List.map_congr_left fun kv _=>?_;show (if kv.1=Sum.inl (j:Int) then (kv.1,v) else kv).1=kv.1;split<;>rfl
 ·rw [if_neg (fun z=>hj (hm.mp z)),if_neg hj,d_,h];unfold sC;rw [d_];rfl
theorem Xp {ks:List Nat} {j:Nat} (h:kvs.map (·.1)=sC ks):(fi kvs (Sum.inl (j:Int))).isSome=decide (j∈ks):=by
 rw [<-wu]
 by_cases hj:j∈ks
 ·rw [jo hj];have:(Sum.inl (j:Int):Key)∈kvs.map (·.1):=by rw [h];exact HL.mpr hj
  obtain ⟨kv,h1,h2⟩:=eB.mp this;exact List.any_eq_true.mpr ⟨kv,h1,by simpa using h2⟩
 ·rw [fU hj];refine List.any_eq_false.mpr fun kv h1=>?_;intro z;have:(Sum.inl (j:Int):Key)∈kvs.map (·.1):=eB.mpr ⟨kv,h1,by simpa using z⟩;rw [h] at this;exact hj (HL.mp this)
noncomputable def MD:Sp:=fun vs H Q _=>∃(rl:Addr) (qs:List Addr) (rows:List MU.Row) (last:Nat),vs=[.ref rl,.int (last:Int)]/\H rl=some (.lst (qs.map V.ref))/\Paired (pH H) qs rows/\QH rows/\last<rows.length/\rows.length<=16500000/\
 ∀l H' ns,H l=none->aH H H'->H' l=some (.lst (fj ns))->Ij rows last ns->Q (.ref l) H'
noncomputable abbrev nNn:List Str:=["rows","last","needed","at","number"]
theorem DY:cE nNn ["rows","last"] (aX bx):=cV
theorem o5 (F:Fn K mg "numbers_needed" bx ["rows","last"] f fd) (hR:mg "range"=none) (hS:mg "sorted"=none):aq P w K mg base a9 1 f fd ["rows","last"] MD:=by
 refine F.F.de DY fun _ A _ s H _ Q E hr h=>?_;obtain ⟨rl,qs,rows,last,rfl,gw,cp,hU,fJ,hlen,k⟩:=h;have hu:=lV hr;refine ⟨_,cx (cA 2 DY.nd (UN (VI (pv 1) zX UR) rfl rfl (by simp) (by simp)))
  (cx (jt PassesOwn.never rfl (WJ rfl hR (iw (pv 1) (sI sM aw) (sI sM aw))) (bR 3 DY.nd)
   (aE (dP (vZ (GU hu (pv 3) (pv 2)) (by with_unfolding_all rfl))
    (aE (jt PassesOwn.never rfl (GV (a8 (dh dS (pv 0) (pv 3)))) (bR 4 DY.nd)
     (aE (CY hu (pv 2) (pv 4) zX rfl)))) dX)))
  (aE (cB (ju (XH rfl) (by rfl) hS PyProof.Rows.boot_sorted (bL (pv 2)))))),?_⟩
 refine fun N1 c1 d hd=>⟨_,rfl,ai,[(Sum.inl (last:Int),.bl true)],rfl,by simp,c1 _ _ ?_⟩;rw [NQ];have xy:qs.length=rows.length:=Paired.length cp;have e1:upd H d (.dK (uD [] [(Sum.inl (last:Int),.bl true)])) d=some (.dK [(Sum.inl (last:Int),.bl true)]):=ai;have s1:=aG (o:=.dK (uD [] [(Sum.inl (last:Int),.bl true)])) hd;generalize upd H d (.dK (uD [] [(Sum.inl (last:Int),.bl true)]))=H1 at*;clear c1 N1;have ev:[V.int (last:Int),V.int (-1),V.int (-1)]=[V.int (((last+1:Nat):Int)-1),V.int (-1),V.int (-1)]:=by rw [show ((last+1:Nat):Int)-1=(last:Int) by lia]
 refine fun N2 c2=>⟨_,rfl,_,rfl,_,rfl,last+1,ev,by lia,?_⟩;refine V6 (fun i aa H'=>∃v3 v4 kvs ks,aa=[some (.ref rl),some (.int (last:Int)),some (.ref d),v3,v4]/\H' d=some (.dK kvs)/\kvs.map (·.1)=sC ks/\NI rows last (fun k=>last<k+i) ks/\∀b o,H b=some o->H' b=some o)
  ⟨none,none,_,[last],rfl,e1,rfl,⟨List.nodup_cons.mpr ⟨nofun,List.nodup_nil⟩,fun k hk=>by rw [iK.mp hk];exact az _,iK.mpr rfl,fun k hk=>.inl (iK.mp hk),fun k hk hp=>by have:=iK.mp hk;lia⟩,fun b o e=>s1 _ _ e⟩ ?_ ?_
 ·rintro i aa H2 hi ⟨v3,v4,kvs,ks,rfl,ed,eA,hN,kp⟩;obtain ⟨at_,iH⟩:∃at_,at_+i=last:=⟨last-i,by lia⟩;have ex:V.int ((((last+1:Nat):Int)-1)-(i:Int))=V.int (at_:Int):=by rw [show (((last+1:Nat):Int)-1)-(i:Int)=(at_:Int) by lia]
  rw [ex];have dg:fh H2 d (.int (at_:Int)) (fi kvs (Sum.inl (at_:Int))):=fh.k (k:=Sum.inl (at_:Int)) ed;refine ⟨_,rfl,_,rfl,d,_,rfl,dg,_,rfl,?_⟩;rw [Xp eA]
  by_cases gx:at_∈ks
  ·refine ja gx ?_;obtain ⟨q,hq⟩:∃q,qs[at_]?=some q:=⟨_,kF (by lia)⟩;obtain ⟨r,aI,pw,pu,g4,_,g6⟩:=aW cp hq;have Lj:iI (qs.map V.ref) (at_:Int)=some (.ref q):=kg (by rw [fv,hq];rfl);refine ⟨_,rfl,oR rfl (kp _ _ gw) Lj (ay (kp _ _ g4) rfl ⟨pu,rfl,⟨_,c_.of (kp _ _ g6)⟩,?_⟩)⟩;refine T_ (K:=K) (a:=pu) (xs:=r.used.map fun i:Nat=>V.int (i:Int)) (fun m aa H'=>∃v4 kvs ks,aa=[some (.ref rl),some (.int (last:Int)),some (.ref d),some (.int (at_:Int)),v4]/\H' d=some (.dK kvs)/\kvs.map (·.1)=sC ks/\NI rows last (fun k=>last<k+i) ks/\at_∈ks/\(∀j∈r.used.take m,j∈ks)/\∀b o,H b=some o->H' b=some o)
    ⟨v4,kvs,ks,rfl,ed,eA,hN,gx,fun j hj=>by simp at hj,kp⟩ ?_ ?_ ?_
   ·rintro m aa H3 _ ⟨_,_,_,rfl,_,_,_,_,_,Bg⟩;exact c_.of (Bg _ _ g6)
   ·rintro m x aa H3 hx ⟨v4,kvs,ks,rfl,ed,eA,hN,gx,hm,Bg⟩;rw [fv] at hx
    cases hj:r.used[m]? with
    | none=>rw [hj] at hx;cases hx
    | some j=>
     rw [hj] at hx;cases hx;have zu:=gn hj;have hja:=(hU at_ r aI).2 j zu;have hl:kvs.length<=last+1:=by
      have h1:=congrArg List.length eA;unfold sC at h1;rw [aD,aD] at h1;have:=MH.yI (last+1) ks hN.once fun z hz=>by have:=hN.le z hz;lia
      lia
     refine ⟨_,rfl,_,rfl,d,_,rfl,rg.k (k:=Sum.inl (j:Int)) ed (Ak (by lia)),?_⟩;refine ⟨_,_,vP ks j,rfl,ai,VA eA,hN.add gx aI zu (bo hja) (by lia),rK.mpr (.inl gx),fun j' jS=>?_,fun b o e=>?_⟩
     ·rw [l9,hj] at jS;rcases i8.mp jS with jS | jS
      ·exact rK.mpr (.inl (hm j' jS))
      ·exact rK.mpr (.inr (by simpa using jS))
     ·rw [ao (aQ e hd)];exact Bg _ _ e
   ·rintro aa H3 ⟨v4,kvs,ks,rfl,ed,eA,hN,gx,hm,Bg⟩;have bJ:r.used.take (r.used.map fun i:Nat=>V.int (i:Int)).length=r.used:=by rw [aD];exact j8
    rw [bJ] at hm;refine ⟨_,_,kvs,ks,rfl,ed,eA,⟨hN.once,hN.le,hN.has,hN.why,fun k hk hp r' jy j hj=>?_⟩,Bg⟩
    by_cases e:k=at_
    ·subst e;rw [aI] at jy;cases jy;exact hm j hj
    ·exact hN.fin k hk (by lia) r' jy j hj
  ·refine kJ gx ⟨_,_,kvs,ks,rfl,ed,eA,⟨hN.once,hN.le,hN.has,hN.why,fun k hk hp r' jy j hj=>?_⟩,kp⟩;exact hN.fin k hk (by have:k≠at_:=fun e=>gx (e▸hk);lia) r' jy j hj
 ·rintro aa H2 ⟨v3,v4,kvs,ks,rfl,ed,eA,hN,kp⟩;refine c2 _ _ ⟨_,rfl,d,kvs,ks.map fun i:Nat=>(i:Int),rfl,ed,by rw [eA,List.map_map];rfl,fun l o_ hl qF Ke=>?_⟩;have KD:H l=none:=by
   cases q:H l with
   | none=>rfl
   | some x=>rw [kp _ _ q] at hl;cases hl
  have BN:∀{l:List Int},(∀z∈l,0<=z)->(l.map Int.toNat).map (fun i:Nat=>(i:Int))=l:=fun {l} h=>by
   rw [List.map_map]
   conv=>rhs;rw [<-List.map_id l]
   exact List.map_congr_left fun z hz=>lR (h z hz)
  have hnn:∀z∈o_,0<=z:=fun z hz=>by
   obtain ⟨k,_,rfl⟩:=eB.mp (qF.mem_iff.mp hz);exact Int.NonNeg.mk (k+0)
  have xA:(o_.map Int.toNat).Perm ks:=by
   have:=qF.map Int.toNat;rw [List.map_map] at this;have e:ks.map (Int.toNat ∘ fun i:Nat=>(i:Int))=ks:=by
    conv=>rhs;rw [<-List.map_id ks]
    exact List.map_congr_left fun z _=>i7 z
   rw [e] at this;exact this
  have s3:aH H (upd H2 l (.lst (o_.map V.int))):=fun b o e=>by rw [ao (aQ (kp _ _ e) hl)];exact kp _ _ e
  refine k l _ (o_.map Int.toNat) KD s3 ?_ ⟨?_,fun i hi=>hN.le i (xA.mem_iff.mp hi),xA.mem_iff.mpr hN.has,fun i hi r' aI j hj=>?_,fun i hi=>?_⟩
  ·rw [ai];unfold fj;have e:o_.map V.int=(o_.map Int.toNat).map fun i:Nat=>V.int (i:Int):=by
    conv=>lhs;rw [<-BN hnn]
    rw [List.map_map];rfl
   rw [e]
  ·have oE:(o_.map Int.toNat).Nodup:=xA.nodup_iff.mpr hN.once;have h1:(o_.map Int.toNat).Pairwise (·<=·):=by
    rw [List.pairwise_map];exact Ke.imp fun h=>Int.toNat_le_toNat h
   exact h1.imp₂ (fun a b h h'=>Nat.lt_of_le_of_ne h h') oE
  ·have ko:=xA.mem_iff.mp hi;have:=hN.le i ko;exact xA.mem_iff.mpr (hN.fin i ko (by lia) r' aI j hj)
  ·rcases hN.why i (xA.mem_iff.mp hi) with e | ⟨k',pq,r',h1,h2⟩
   ·exact .inl e
   ·exact .inr ⟨k',xA.mem_iff.mpr pq,r',h1,h2⟩
noncomputable def yJ (rows:List MU.Row) (ns:List Nat) (i:Nat):Option MU.Row:=(rows[i]?).map fun r=>⟨r.cC,r.word,r.used.map fun j=>ns.idxOf j⟩
noncomputable def Nh (rows:List MU.Row) (ns:List Nat):List MU.Row:=ns.filterMap (yJ rows ns)
theorem Z9 {ns:List Nat} {m x:Nat} (hn:ns.Nodup) (h:ns[m]?=some x):ns.idxOf x=m:=by
 obtain ⟨hm,rfl⟩:=gQ.mp h;exact List.Nodup.idxOf_getElem hn m hm
theorem Wt {ns:List Nat} (h:ns.Pairwise (·<·)):ns.Nodup:=h.imp fun h=>gY h
theorem Vt {ns:List Nat} (h:ns.Pairwise (·<·)) {m x j:Nat} (hx:ns[m]?=some x) (hj:j∈ns) (bg:j<x):j∈ns.take m:=by
 obtain ⟨i,hi,e⟩:=F8 hj;obtain ⟨hm,e'⟩:=gQ.mp hx;have him:i<m:=fg fun z=>by
  rcases Nat.lt_or_eq_of_le (mE z) with z | z
  ·have:=Cf.mp h m i hm hi z;lia
  ·subst z;lia
 rw [<-e];exact List.mem_take_iff_getElem.mpr ⟨i,by lia,rfl⟩
noncomputable def N7:Sp:=fun vs H Q _=>∃(rl:Addr) (qs:List Addr) (rows:List MU.Row) (last:Nat),vs=[.ref rl,.int (last:Int)]/\H rl=some (.lst (qs.map V.ref))/\Paired (pH H) qs rows/\QH rows/\last<rows.length/\rows.length<=16500000/\
 ∀l H' ns ps,H l=none->aH H H'->Ij rows last ns->H' l=some (.lst (ps.map V.ref))->Paired (pH H') ps (Nh rows ns)->Q (.ref l) H'
noncomputable abbrev Ry:List Str:=["rows","last","places","paper","number","row"]
theorem zQ:cE Ry ["rows","last"] (aX bH):=cV
theorem Yj:iO (aX bH) Ry (lP [(".0",.local),("used",.local),("places",.free)]) ["used","places"] [none,some 2]:=lQ
theorem Yw:(["used","places"]:List Str).Nodup:=by decide+kernel
theorem mh (F:Fn K mg "paper_up_to" bH ["rows","last"] f fd) (hL:mg "len"=none) (hT:mg "tuple"=none)
 (FN:Fn K mg "numbers_needed" bx ["rows","last"] fN pA) (GN:aq P w K mg base a9 1 fN pA ["rows","last"] MD):aq P w K mg base a9 2 f fd ["rows","last"] N7:=by
 refine F.F.de zQ fun _ A _ s H _ Q E hr h=>?_;obtain ⟨rl,qs,rows,last,rfl,gw,cp,hU,fJ,hlen,k⟩:=h;have hu:=lV hr;refine ⟨_,cx (pM (i:=2) zQ.nd rfl (Or.inr rfl) ON)
  (cx (cA 3 zQ.nd (jl n_))
  (cx (jt PassesOwn.never rfl (jm (b_ GN hr FN (bu (pv 0) (pv 1)))) (bR 4 zQ.nd)
   (cx (cA 5 zQ.nd (dh dS (pv 0) (pv 4)))
   (cx (CY hu (pv 2) (pv 4) (ju w9 (by rfl) hL uu (bL (pv 3))) rfl)
   (aE (gK (rq sf qX se pQ (pv 3) (bL (dA (iw (a8 (pv 5)) (a8 (pv 5)) (uP Qq (by rfl) hT (by decide+kernel) (bL (oY rfl (GV (a8 (pv 5))) Yj (fun cl ex s0 H0=>⟨bR 0 Yw,pT,nc hu (pv 1) (pv 0) (fun _ _=>rfl)⟩)))))))))))))
  (aE (cB (pv 3))))),?_⟩
 refine fun N1 c1 d hd=>c1 _ _ ?_;have s1:=aG (o:=.dK []) hd;have e1:upd H d (.dK []) d=some (.dK []):=ai;generalize upd H d (.dK [])=H1 at*;clear c1 N1;refine fun N2 c2=>⟨d9 _,fun pl fe=>c2 _ _ ?_⟩;have s2:=aG (o:=.lst []) fe;have e2:upd H1 pl (.lst []) pl=some (.lst []):=ai;have Rh:H pl=none:=by
  cases q:H pl with
  | none=>rfl
  | some x=>rw [s1 _ _ q] at fe;cases fe
 have SN:d≠pl:=aQ e1 fe;generalize upd H1 pl (.lst [])=H2 at*;clear c2 N2;have EE:=s1.trans s2;have xy:qs.length=rows.length:=Paired.length cp;refine fun N3 c3=>⟨_,rfl,_,rfl,rl,qs,rows,last,rfl,EE _ _ gw,gM cp fun q r e=>e.same EE,hU,fJ,hlen,fun l H3 ns hl s3 el hN=>?_⟩;have oE:=Wt hN.up;have zo:ns.length<=last+1:=MH.yI (last+1) ns oE fun z hz=>by have:=hN.le z hz;lia
 have kT:=EE.trans s3;have ed3:=s3 _ _ (s2 _ _ e1);have ep3:=s3 _ _ e2;have lH:H l=none:=by
  cases q:H l with
  | none=>rfl
  | some x=>rw [EE _ _ q] at hl;cases hl
 have ld:l≠d:=aF (aQ (s2 _ _ e1) hl);have lp:l≠pl:=aF (aQ e2 hl);refine ⟨l,rfl,⟨_,ax.of el⟩,?_⟩;refine og (K:=K) (a:=l) (xs:=fj ns) (fun m aa H'=>∃v4 v5 kvs ps,aa=[some (.ref rl),some (.int (last:Int)),some (.ref d),some (.ref pl),v4,v5]/\H' d=some (.dK kvs)/\kvs.length<=m/\
  (∀j:Nat,j∈ns.take m->fi kvs (Sum.inl (j:Int))=some (.int (ns.idxOf j:Int)))/\H' pl=some (.lst (ps.map V.ref))/\ps.length=m/\Paired (pH H') ps ((ns.take m).filterMap (yJ rows ns))/\H' l=some (.lst (fj ns))/\aH H H')
  ⟨none,none,[],[],rfl,ed3,az _,fun j hj=>by simp at hj,ep3,rfl,.nil,el,kT⟩ ?_ ?_ ?_
 ·rintro m aa H4 _ ⟨_,_,_,_,rfl,_,_,_,_,_,_,e,_⟩;exact ax.of e
 ·rintro m x aa H4 hx ⟨v4,v5,kvs,ps,rfl,ed,vq,eA,ep,xC,jd,SH,s4⟩;unfold fj at hx;rw [fv] at hx
  cases hj:ns[m]? with
  | none=>rw [hj] at hx;cases hx
  | some num=>
   rw [hj] at hx;cases hx;have hmn:m<ns.length:=(gQ.mp hj).1;have Kz:=hN.le num (gn hj);obtain ⟨q,hq⟩:∃q,qs[num]?=some q:=⟨_,kF (by lia)⟩;obtain ⟨r,aI,pw,pu,g4,g5,g6⟩:=aW cp hq;have iH:iI (qs.map V.ref) (num:Int)=some (.ref q):=kg (by rw [fv,hq];rfl);refine fun N5 c5=>⟨_,rfl,oR rfl (s4 _ _ gw) iH (c5 _ _ ?_)⟩;clear c5 N5;refine fun N6 c6=>⟨_,rfl,pl,_,rfl,.inl (ax.of ep),_,rfl,_,rfl,d,_,rfl,rg.k (k:=Sum.inl (num:Int)) ed (Ak (by lia)),c6 _ _ ?_⟩;rw [aD,xC];clear c6 N6;have kd:∀{b:Addr} {o:HO},H4 b=some o->b≠d->upd H4 d (.dK (dR kvs (Sum.inl (num:Int)) (.int (m:Int)))) b=some o:=fun e ne=>by rw [ao ne];exact e
   have SJ:upd H4 d (.dK (dR kvs (Sum.inl (num:Int)) (.int (m:Int)))) d=some (.dK (dR kvs (Sum.inl (num:Int)) (.int (m:Int)))):=ai;have s5:aH H (upd H4 d (.dK (dR kvs (Sum.inl (num:Int)) (.int (m:Int))))):=fun b o e=>kd (s4 _ _ e) (aQ e hd);have SD:=kd ep (aF SN);have eQ:=kd SH ld;have Kr:Paired (pH (upd H4 d (.dK (dR kvs (Sum.inl (num:Int)) (.int (m:Int)))))) ps ((ns.take m).filterMap (yJ rows ns)):=gM jd fun q r ⟨pw,pu,h1,h2,h3⟩=>
    ⟨pw,pu,kd h1 (cQ h1 ed nofun),kd h2 (cQ h2 ed nofun),kd h3 (cQ h3 ed nofun)⟩
   generalize upd H4 d (.dK (dR kvs (Sum.inl (num:Int)) (.int (m:Int))))=H5 at*;have et:ns.take (m+1)=ns.take m++[num]:=by rw [l9,hj];rfl
   have B7:∀j:Nat,j∈ns.take (m+1)->fi (dR kvs (Sum.inl (num:Int)) (.int (m:Int))) (Sum.inl (j:Int))=some (.int (ns.idxOf j:Int)):=fun j jS=>by
    rw [Ay]
    by_cases e:j=num
    ·subst e;rw [if_pos rfl,Z9 oE hj]
    ·rw [if_neg (show ¬((Sum.inl (j:Int):Key)=Sum.inl (num:Int)) from fun z=>e (Int.ofNat.inj (Sum.inl.inj z)))];rw [et] at jS;rcases i8.mp jS with h | h
     ·exact eA j h
     ·exact absurd (iK.mp h) e
   have zg:=hU num r aI;refine ⟨_,rfl,.inl ⟨rfl,_,ax.of SD⟩,_,rfl,ay (s5 _ _ g4) rfl ⟨_,rfl,ay (s5 _ _ g4) rfl ⟨_,rfl,ay (s5 _ _ g4) rfl ⟨pu,rfl,⟨_,c_.of (s5 _ _ g6)⟩,fun Da cI=>?_⟩⟩⟩⟩;refine NU (xs:=r.used.map fun i:Nat=>V.int (i:Int)) (fun a aa H'=>∃v,aa=[v,some (.ref d)]/\H' Da=some (.lst (((r.used.take a).map fun j=>ns.idxOf j).map fun i:Nat=>V.int (i:Int)))/\aH H5 H') ⟨none,rfl,ai,aG cI⟩ ?_ ?_ ?_
   ·rintro a aa H6 _ ⟨v,rfl,_,s6⟩;exact c_.of (s6 _ _ (s5 _ _ g6))
   ·rintro a x aa H6 hx ⟨v,rfl,e6,s6⟩;rw [fv] at hx
    cases rS:r.used[a]? with
    | none=>rw [rS] at hx;cases hx
    | some j=>
     rw [rS] at hx;cases hx;have zu:=gn rS;have hjn:=hN.uses num (gn hj) r aI j zu;have gx:j∈ns.take (m+1):=by rw [et];exact iL _ (Vt hN.up hj hjn (zg.2 j zu))
     have dg:fh H6 d (.int (j:Int)) (some (.int (ns.idxOf j:Int))):=by
      have:=fh.k (k:=Sum.inl (j:Int)) (s6 _ _ SJ);rw [B7 j gx] at this;exact this
     refine ⟨_,rfl,_,rfl,d,_,rfl,dg,_,e6,?_,_,rfl,?_,fun b o e=>?_⟩
     ·rw [aD,aD,ig];exact gL (by lia)
     ·rw [ai,l9,rS,d_,d_];rfl
     ·rw [ao (aQ e cI)];exact s6 _ _ e
   ·rintro aa H6 ⟨v,rfl,e6,s6⟩;have bJ:r.used.take (r.used.map fun i:Nat=>V.int (i:Int)).length=r.used:=by rw [aD];exact j8
    rw [bJ] at e6;refine ⟨Da,_,rfl,.inl ⟨ax.of e6,fun tu htu=>⟨dc rfl,fun rt Kl=>?_⟩⟩⟩;have s7:=aG (o:=.tup ((r.used.map fun j=>ns.idxOf j).map fun i:Nat=>V.int (i:Int))) htu;have e7:upd H6 tu (.tup ((r.used.map fun j=>ns.idxOf j).map fun i:Nat=>V.int (i:Int))) tu=some (.tup ((r.used.map fun j=>ns.idxOf j).map fun i:Nat=>V.int (i:Int))):=ai;generalize upd H6 tu (.tup ((r.used.map fun j=>ns.idxOf j).map fun i:Nat=>V.int (i:Int)))=H7 at*;have s8:=aG (o:=.tup [.ref pw,.str (lG r.word),.ref tu]) Kl;have e8:upd H7 rt (.tup [.ref pw,.str (lG r.word),.ref tu]) rt=some (.tup [.ref pw,.str (lG r.word),.ref tu]):=ai;generalize upd H7 rt (.tup [.ref pw,.str (lG r.word),.ref tu])=H8 at*;have vd:=(s6.trans s7).trans s8;have SA:=vd _ _ SD;refine ⟨pl,_,_,rfl,rfl,SA,by rw [aD,xC];exact Ak (by lia),?_⟩;have kp:∀{b:Addr} {o:HO},H8 b=some o->b≠pl->upd H8 pl (.lst (ps.map V.ref++[.ref rt])) b=some o:=fun e ne=>by rw [ao ne];exact e
    have tup:∀{b:Addr} {xs:List V},H8 b=some (.tup xs)->upd H8 pl (.lst (ps.map V.ref++[.ref rt])) b=some (.tup xs):=fun e=>kp e (cQ e SA nofun);refine ⟨_,_,_,ps++[rt],rfl,kp (vd _ _ SJ) SN,eC (yT _ _ _) (by lia),B7,?_,by rw [ik,xC];rfl,?_,kp (vd _ _ eQ) lp,fun b o e=>kp (vd _ _ (s5 _ _ e)) (aQ e Rh)⟩
    ·rw [ai,d_];rfl
    ·rw [et,List.filterMap_append];refine pW (gM Kr fun q r' ⟨pw',EH,h1,h2,h3⟩=>⟨pw',EH,tup (vd _ _ h1),tup (vd _ _ h2),tup (vd _ _ h3)⟩) ?_;have er:yJ rows ns num=some ⟨r.cC,r.word,r.used.map fun j=>ns.idxOf j⟩:=by unfold yJ;rw [aI];rfl
     rw [show [num].filterMap (yJ rows ns)=[⟨r.cC,r.word,r.used.map fun j=>ns.idxOf j⟩] by simp [er]];exact .cons ⟨pw,tu,tup e8,tup (vd _ _ (s5 _ _ g5)),tup (s8 _ _ e7)⟩ .nil
 ·rintro aa H4 ⟨v4,v5,kvs,ps,rfl,_,_,_,ep,_,jd,SH,s4⟩;have bJ:ns.take (fj ns).length=ns:=by unfold fj;rw [aD];exact j8
  rw [bJ] at jd;exact c3 _ _ ⟨_,rfl,k pl H4 ns ps Rh s4 hN ep jd⟩
noncomputable def uH (F:MU.ck) (x:vF):Bool:=match F x.2.1 with
 | some f=>decide (f.2.1<x.2.2) && decide (x.2.2<=f.2.2)
 | none=>false
noncomputable def N9:Sp:=fun vs H Q _=>∃(d q:Addr) (F:MU.ck) (x:vF) (f:Nat×Int×Int),vs=[.ref d,.ref q]/\mR H d F/\iM H q x/\F x.2.1=some f/\Q (.bl (uH F x)) H
theorem Q6:cE ["by_end","wait","fall"] ["by_end","wait"] (aX dF):=cV
theorem o9 (F:Fn K mg "is_told" dF ["by_end","wait"] f fd):aq P w K mg base a9 1 f fd ["by_end","wait"] N9:=by
 refine F.F.de Q6 fun _ A _ s H _ Q E hr h=>?_;obtain ⟨d,q,Fa,x,fa,rfl,FA,hw,hf,k⟩:=h;have hu:=lV hr;refine ⟨_,aZ (cA 2 Q6.nd (nc hu (pv 0) (a8 (pv 1)) (fun _ _=>rfl)))
  (aE (cB (HA uB mQ (a8 (pv 2)) (a8 (pv 1)) (a8 (pv 2))))),?_⟩
 obtain ⟨kvs,hd,hl,f0,f1⟩:=FA.at_;obtain ⟨p,e1,e2⟩:=f1 _ _ hf;have ev:uH Fa x=(decide (fa.2.1<x.2.2) && decide (x.2.2<=fa.2.2)):=by unfold uH;rw [hf]
 rw [ev] at k;refine ⟨_,rfl,_,rfl,ay hw rfl ⟨d,_,rfl,e1▸fh.k (k:=Sum.inl (x.2.1:Int)) hd,?_⟩⟩;refine ⟨_,rfl,ay e2 rfl ⟨_,rfl,ay hw rfl ⟨_,_,rfl,rfl,_,rfl,?_⟩⟩⟩
 by_cases c:fa.2.1<x.2.2
 ·rw [jo c] at k;refine ja c ⟨_,rfl,ay e2 rfl ⟨_,_,rfl,rfl,?_⟩⟩;exact k
 ·rw [fU c] at k;exact kJ c k
noncomputable def Z7 (H:Hp) (r:Addr) (st:MU.St) (F:MU.ck):Prop:=∃lt lw ps qs L M,H r=some (.tup [.str "rule",.ref lt,.ref lw])/\H lt=some (.lst (ps.map V.ref))/\Paired (iM H) ps L/\DS st true L/\
 H lw=some (.lst (qs.map V.ref))/\Paired (iM H) qs (M.filter (uH F))/\DS st false M
noncomputable def TL (H:Hp) (r:Addr) (st:MU.St) (b:Nat):Prop:=∃l ns ps,H r=some (.tup [.str "paper",.ref l])/\H l=some (.lst (ps.map V.ref))/\Paired (pH H) ps (Nh st.rows ns)/\Ij st.rows b ns
noncomputable def h_ (n:Nat) (la:Int) (T F:List (List Int)) (Te:Nat):MU.St:=MU.run n (dk F) (lD n la T F) Te
noncomputable def Ha (CW:Addr):Sp:=fun vs H Q _=>∃(wb:Addr) (n:Nat) (la:Int) (T F:List (List Int)) (Te:Nat),vs=[.ref wb]/\jD CW H wb (n:Int) la T F/\cv (n:Int) la T F/\vU n (dk F) (lD n la T F) Te/\
 ∀r H',H r=none->aH H H'->(∀b,(h_ n la T F Te).bar=some b->TL H' r (h_ n la T F Te) b->Q (.ref r) H')/\((h_ n la T F Te).bar=none->Z7 H' r (h_ n la T F Te) (dk F)->Q (.ref r) H')
theorem Iq:cE ["web","closing","waits"] ["web"] (aX gB):=cV
theorem Yg:iO (aX gB) ["web","closing","waits"] (lP [(".0",.local),("wait",.local),("is_told",.globalImplicit),("closing",.free)]) ["wait","closing"] [none,some 1]:=lQ
theorem YV:(["wait","closing"]:List Str).Nodup:=by decide+kernel
theorem tR (F:Fn K mg "kept" gB ["web"] f fd) (T:oV K mg C) (M:Mk K C fI) (hC:mg "Closing"=some (.ref C))
 (bI:eW K BU ["self","web"] []) (GI:aq P w K mg base a9 4 fI BU ["self","web"] (Nr C CW))
 (mA:jh K C "draw_all" fA) (bA:eW K fdA ["self"] []) (GA:aq P w K mg base a9 5 fA fdA ["self"] (Me C))
 (mB:jh K C "best_drawn" fB) (bB:eW K rX ["self","kind"] []) (GB:aq P w K mg base a9 1 fB rX ["self","kind"] (M8 C))
 (FP:Fn K mg "paper_up_to" bH ["rows","last"] fP fdP) (GP:aq P w K mg base a9 2 fP fdP ["rows","last"] N7)
 (FT:Fn K mg "is_told" dF ["by_end","wait"] fT p0) (GT:aq P w K mg base a9 1 fT p0 ["by_end","wait"] N9):aq P w K mg base a9 6 f fd ["web"] (Ha CW):=by
 refine F.F.de Iq fun _ A _ s H _ Q E hr h=>?_;obtain ⟨wb,n,la,rT,rF,Te,rfl,W0,af,hE,k⟩:=h;have fH:cU 1 _:=hr.mono (by decide);have jy:cU 2 _:=hr.mono (by decide);refine ⟨_,cx (pM (i:=1) Iq.nd rfl (Or.inr rfl) (Ho M GI hr rfl hC bI .nil gu (bL (pv 0))))
  (cx (gK (yK (pv 1) T.cl mA GA hr bA .nil gu))
  (cx (dP (dj Ng (fC (pv 1) rfl) mY) (aE (cB (dA (bu eX (b_ GP jy FP (bu (fC (pv 1) rfl) (fC (pv 1) rfl))))))) dX)
  (cx (CZ (i:=2) Iq.nd rfl rfl rfl (jm (jF (pv 1) T.cl mB GB fH bB .nil gu (bL eX))) Yg (fun cl ex s0 H0=>⟨bR 0 YV,Ao (Ah (b_ GT fH FT (bu (uL (K:=K) rfl (pv 1) rfl) (pv 0)))),pv 0⟩))
  (aE (cB (dA (iw eX (jF (pv 1) T.cl mB GB fH bB .nil gu (bL eX)) (pv 2)))))))),?_⟩
 have n2:=af.n2;refine fun N1 c1=>⟨_,rfl,fun p dx hp Fj _=>?_⟩;have W1:jD CW (upd (upd H dx (.own p)) p (.ins C dx [])) wb (n:Int) la rT rF:=W0.same fun b o e=>by rw [ao (aQ e hp),ao (aQ e Fj)];exact e
 have vj:∀b o,H b=some o->upd (upd H dx (.own p)) p (.ins C dx []) b=some o:=fun b o e=>by rw [ao (aQ e hp),ao (aQ e Fj)];exact e
 refine ⟨p,wb,dx,n,la,rT,rF,rfl,ai,W1,af,fun H2 be rl bd c2 _ gw fQ k2=>⟨rfl,c1 _ _ ?_⟩⟩;have s2:aH H H2:=fun b o e=>k2 _ _ (vj _ _ e) (aQ e hp);have vh:∀{b:Addr},upd (upd H dx (.own p)) p (.ins C dx []) b=none->H b=none:=fun {b} e=>by
  cases q:H b with
  | none=>rfl
  | some x=>rw [vj _ _ q] at e;cases e
 have EF:=vh gw;have F7:=vh fQ;clear c1 N1;obtain ⟨LK,je⟩:=c2.ins;refine fun N2 SS=>⟨_,rfl,p,LK,_,rfl,je,nY,p,be,rl,bd,n,_,_,Te,rfl,c2,HU af,af.nO,by lia,hE,fun H3 c3 S3 k3=>SS _ _ ?_⟩;clear SS;have mz:MU.run n (dk rF) (lD n la rT rF) Te=h_ n la rT rF Te:=rfl;rw [mz] at c3 S3;have s3:aH H H3:=fun b o e=>k3 _ _ (s2 _ _ e) (aQ e hp) (aQ e EF) (aQ e F7);have hU:MU.iB (h_ n la rT rF Te):=MU.HD (MU.PV _ _ MU.Qa) Te;have m9:(h_ n la rT rF Te).rows.length<=16000000:=hE.m9 Te (az _);generalize h_ n la rT rF Te=st at*;obtain ⟨zF,lh⟩:=c3.ins;obtain ⟨qs,ue,cp⟩:=c3.rows;refine fun N3 SR=>⟨_,rfl,p,C,zF,_,_,rfl,lh,T.cl,T.nX,Cw,rfl,_,rfl,?_⟩;have vi:∀{H':Hp} {b:Addr},aH H H'->H' b=none->H b=none:=fun {H' b} ss e=>by
  cases q:H b with
  | none=>rfl
  | some x=>rw [ss _ _ q] at e;cases e
 cases bw:st.bar with
 | some b=>
  obtain ⟨r0,Km,_⟩:=hU.2 b bw;have hb:=(gQ.mp Km).1;refine sJ rfl ⟨_,rfl,p,C,zF,_,_,rfl,lh,T.cl,T.nR,sO,_,rfl,p,C,zF,_,_,rfl,lh,T.cl,T.nX,Cw,rl,qs,st.rows,b,by rw [bw];rfl,ue,cp,hU.1,hb,by lia,fun l H4 ns ps _ s4 hN el jd=>⟨dc rfl,fun r aI=>?_⟩⟩;have s5:=aG (o:=.tup [.str "paper",.ref l]) aI;have ED:=(s3.trans s4).trans s5;exact (k r _ (vi (s3.trans s4) aI) ED).1 b bw ⟨l,ns,ps,ai,s5 _ _ el,gM jd fun q r e=>e.same s5,hN⟩
 | none=>
  refine ji rfl (SR _ _ ?_);clear SR N3;have ER:∀{tt:Bool} {L:List vF},DS st tt L->L.length<=64/\∀x∈L,∃w',w'.tie=tt/\w'.b=x.2.1/\∃j,MU.ah st j=some w':=fun {tt L} hB=>by
   have mem:∀x∈L,∃w',w'.tie=tt/\w'.a=x.1/\w'.b=x.2.1/\∃j,MU.ah st j=some w':=fun x hx=>by
    obtain ⟨a,b,v⟩:=x;have hv:=(hB.has a b v).mp hx;unfold MU.val at hv
    cases hq:st.best (tt,a,b) with
    | none=>rw [hq] at hv;cases hv
    | some j=>
     obtain ⟨w',h1,h2⟩:=S3.good.at_ _ _ hq;have h4:=MU.iD h2;exact ⟨w',h4.1,h4.2.1,h4.2.2,j,h1⟩
   refine ⟨?_,fun x hx=>?_⟩
   ·have oE:(L.map fun x=>x.1*8+x.2.1).Nodup:=by
     have h0:=hB.once;unfold List.Nodup at h0 ⊢;rw [List.pairwise_map] at h0 ⊢;refine List.Pairwise.imp_of_mem (fun {x y} hx hy e z=>e ?_) h0;obtain ⟨w1,_,_,b1,j1,e1⟩:=mem x hx;obtain ⟨w2,_,_,b2,j2,e2⟩:=mem y hy;have l1:=S3.good.lt _ _ e1;have l2:=S3.good.lt _ _ e2;exact Prod.ext (by show x.1=y.1;lia) (by show x.2.1=y.2.1;lia)
    have:=MH.yI 64 _ oE fun z hz=>by
     obtain ⟨x,hx,rfl⟩:=eB.mp hz;obtain ⟨w1,_,a1,b1,j1,e1⟩:=mem x hx;have l1:=S3.good.lt _ _ e1;show x.1*8+x.2.1<64;lia
    rwa [aD] at this
   ·obtain ⟨w1,h1,_,h2,h3⟩:=mem x hx;exact ⟨w1,h1,h2,h3⟩
  refine fun N4 c4=>⟨_,rfl,p,zF,_,rfl,lh,nY,p,be,rl,bd,n,_,st,false,rfl,c3,S3.good,by lia,by lia,fun l H4 ps M _ s4 el jd hM=>⟨l,rfl,⟨_,ax.of el⟩,fun Da cI=>?_⟩⟩;obtain ⟨hM64,hMw⟩:=ER hM;have fe:ps.length=M.length:=Paired.length jd;have SO:=c3.same s4;refine uO (K:=K) (a:=l) (xs:=ps.map V.ref) (fun i aa H'=>∃v e_,aa=[v,some (.ref p)]/\H' Da=some (.lst (e_.map V.ref))/\Paired (iM H') e_ ((M.take i).filter (uH (dk rF)))/\e_.length<=i/\aH H4 H') ⟨none,[],rfl,ai,.nil,az _,aG cI⟩ ?_ ?_ ?_
  ·rintro i aa H5 _ ⟨v,e_,rfl,_,_,_,s5⟩;exact ax.of (s5 _ _ el)
  ·rintro i y aa H5 hy ⟨v,e_,rfl,e5,lg,Fd,s5⟩;rw [fv] at hy
   cases hq:ps[i]? with
   | none=>rw [hq] at hy;cases hy
   | some q=>
    rw [hq] at hy;cases hy;obtain ⟨x,hx,uf⟩:=aW jd hq;have hi:i<M.length:=(gQ.mp hx).1;obtain ⟨w1,t1,b1,j1,g1⟩:=hMw x (gn hx);obtain ⟨fa,zy⟩:=S3.ends j1 w1 g1 t1;rw [b1] at zy;have c5:=SO.same s5;obtain ⟨LJ,Ku⟩:=c5.ins;have et:M.take (i+1)=M.take i++[x]:=by rw [l9,hx];rfl
    refine ⟨_,rfl,p,C,LJ,_,_,rfl,Ku,T.cl,T.nB,QJ,_,rfl,be,q,_,x,fa,rfl,c5.ie,uf.same s5,zy,_,rfl,?_⟩
    cases ht:uH (dk rF) x with
    | true=>
     refine mJ ⟨_,rfl,_,e5,?_,_,e_++[q],rfl,?_,?_,?_,fun b o e=>?_⟩
     ·rw [aD];exact gL (by lia)
     ·rw [ai,d_];rfl
     ·rw [et,List.filter_append];have kp:∀b y,iM H5 b y->iM (upd H5 Da (.lst (e_.map V.ref++[.ref q]))) b y:=fun b y e=>by
       unfold iM;rw [ao (cQ e e5 nofun)];exact e
      refine pW (gM lg kp) ?_;rw [show [x].filter (uH (dk rF))=[x] by simp [ht]];exact .cons (kp _ _ (uf.same s5)) .nil
     ·rw [ik];show e_.length+1<=i+1;lia
     ·rw [ao (aQ e cI)];exact s5 _ _ e
    | false=>
     refine iq ⟨_,e_,rfl,e5,?_,by exact Nat.le.step Fd,s5⟩;rw [et,List.filter_append];rw [show [x].filter (uH (dk rF))=[] by simp [ht],List.append_nil];exact lg
  ·rintro aa H5 ⟨v,e_,rfl,e5,lg,Fd,s5⟩;have bJ:M.take (ps.map V.ref).length=M:=by rw [aD,fe];exact j8
   rw [bJ] at lg;refine c4 _ _ ?_;have c5:=SO.same s5;obtain ⟨LJ,Ku⟩:=c5.ins;have ED:=(s3.trans s4).trans s5;refine ⟨_,rfl,p,LJ,_,rfl,Ku,nY,p,be,rl,bd,n,_,st,true,rfl,c5,S3.good,by lia,by lia,fun l6 H6 ps6 L _ s6 el6 Kq hL=>⟨_,rfl,dc rfl,fun r aI=>?_⟩⟩;have s7:=aG (o:=.tup [.str "rule",.ref l6,.ref Da]) aI;have IT:=s6.trans s7;exact (k r _ (vi (ED.trans s6) aI) (ED.trans IT)).2 bw ⟨l6,Da,ps6,e_,L,M,ai,s7 _ _ el6,gM Kq fun q x e=>e.same s7,hL,IT _ _ e5,gM lg fun q x e=>e.same IT,hM⟩
end Y0
namespace MU
noncomputable def Kn (st:St) (w:aj):Prop:=(w.a≠w.b->∃u,val st w.key=some u/\¬dD w.tie w.v u)/\(iA w->st.bar≠none)
theorem Kn.imp {w:aj} (h:Kn s w) (i:Imp s s'):Kn s' w:=by
 refine ⟨fun df=>?_,fun hb=>i.1.bar (h.2 hb)⟩;obtain ⟨u,hu,nu⟩:=h.1 df;obtain ⟨u',kj,JE⟩:=i.2 w.key u df hu;exact ⟨u',kj,Ie nu JE⟩
theorem NB (s:St) (w:aj) (word:Wd) (us:List Nat):Kn (take s w word us) w:=⟨fun h=>DH h,fun h=>Pn h⟩
theorem Cz {p w:aj} (hp:ah s i=some p) (hf:f p=some w):Kn (aK f word i s) w:=by
 unfold aK;rw [hp];show Kn (put s (f p) word [i]) w;rw [hf];exact NB _ _ _ _
theorem C7 {p q w:aj} (hp:ah s i=some p) (hq:ah s j=some q) (hf:f p q=some w):Kn (ak f word i j s) w:=by
 unfold ak;rw [hp];show Kn (put s ((ah s j).bind fun q=>f p q) word [i,j]) w;rw [hq];show Kn (put s (f p q) word [i,j]) w;rw [hf];exact NB _ _ _ _
theorem De (hf:∀s j,Imp s (f s j)) {l:List Nat} {j:Nat} {w:aj} (hj:j∈l) (h:∀s1,Imp s s1->Kn (f s1 j) w):Kn (l.foldl f s) w:=by
 obtain ⟨s1,i1,i2⟩:=HX hf l s j hj;exact (h s1 i1).imp i2
theorem A8 (e:Ext s s') (h:s'.best k=some j) (hj:j<s.rows.length):s.best k=some j:=by
 rcases e.best k with h' | ⟨i,h',hi⟩
 ·rw [<-h'];exact h
 ·rw [h] at h';cases h';lia
variable {n:Nat} {F:ck} {s fs:St} {at_ a b:Nat} {p:aj}
section
variable (hp:ah s at_=some p) (hZ:Imp (dW n F at_ a b s) fs)
theorem WS {w:aj} (hp:ah s at_=some p) (h:cS F p=some w):Kn (dW n F at_ a b s) w:=
 (Cz hp h).imp ((f_ _ _ _ _).trans ((dz (fun _ _=>cH ..) _ _).trans ((dz (fun _ _=>cH ..) _ _).trans (dz (fun _ _=>cH ..) _ _))))
theorem WT {w:aj} (hp:ah s at_=some p) (h:da F p=some w):Kn (dW n F at_ a b s) w:=
 (Cz (bV (f_ _ _ _ _).1 hp) h).imp ((dz (fun _ _=>cH ..) _ _).trans ((dz (fun _ _=>cH ..) _ _).trans (dz (fun _ _=>cH ..) _ _)))
theorem Xj {w q:aj} {c j:Nat} (hp:ah s at_=some p) (hZ:Imp (dW n F at_ a b s) fs) (hc:c<n) (hb:fs.best (true,b,c)=some j) (hj:j<s.rows.length) (hq:ah fs j=some q) (h:a7 p q=some w):Kn (dW n F at_ a b s) w:=by
 have i2:Imp s (aK (da F) .bf at_ (aK (cS F) .aB at_ s)):=(f_ _ _ _ _).trans (f_ _ _ _ _);unfold dW at hZ ⊢;dsimp only at hZ ⊢;generalize aK (da F) .bf at_ (aK (cS F) .aB at_ s)=s2 at*;have r3:=(dz (f:=fun st j=>ak a7 .sum j at_ st) (fun _ _=>cH ..) (dr n ((cJ n s2 true b).foldl (fun st j=>ak a7 .sum at_ j st) s2) a) ((cJ n s2 true b).foldl (fun st j=>ak a7 .sum at_ j st) s2)).trans (dz (f:=fun st j=>ak (a_ F) .back j at_ st) (fun _ _=>cH ..) (cJ n ((dr n ((cJ n s2 true b).foldl (fun st j=>ak a7 .sum at_ j st) s2) a).foldl (fun st j=>ak a7 .sum j at_ st) ((cJ n s2 true b).foldl (fun st j=>ak a7 .sum at_ j st) s2)) false b) _);have e3:Imp s2 fs:=((dz (f:=fun st j=>ak a7 .sum at_ j st) (fun _ _=>cH ..) (cJ n s2 true b) s2).trans r3).trans hZ;have rS:j<s2.rows.length:=i_ hj i2.1.len;refine Kn.imp (De (fun _ _=>cH ..) (j:=j) (List.mem_filterMap.mpr ⟨c,List.mem_range.mpr hc,A8 e3.1 hb rS⟩) fun s1 i1=>?_) r3;exact C7 (bV (i2.1.trans i1.1) hp) (bV i1.1 (rL e3.1 rS hq)) h
theorem Xk {w q:aj} {c j:Nat} (hp:ah s at_=some p) (hZ:Imp (dW n F at_ a b s) fs) (hc:c<n) (hb:fs.best (true,c,a)=some j) (hj:j<s.rows.length) (hq:ah fs j=some q) (h:a7 q p=some w):Kn (dW n F at_ a b s) w:=by
 have i2:Imp s (aK (da F) .bf at_ (aK (cS F) .aB at_ s)):=(f_ _ _ _ _).trans (f_ _ _ _ _);unfold dW at hZ ⊢;dsimp only at hZ ⊢;generalize aK (da F) .bf at_ (aK (cS F) .aB at_ s)=s2 at*;have i3:=i2.trans (dz (f:=fun st j=>ak a7 .sum at_ j st) (fun _ _=>cH ..) (cJ n s2 true b) s2);generalize (cJ n s2 true b).foldl (fun st j=>ak a7 .sum at_ j st) s2=s3 at*;have r4:=dz (f:=fun st j=>ak (a_ F) .back j at_ st) (fun _ _=>cH ..) (cJ n ((dr n s3 a).foldl (fun st j=>ak a7 .sum j at_ st) s3) false b) ((dr n s3 a).foldl (fun st j=>ak a7 .sum j at_ st) s3);have e3:Imp s3 fs:=((dz (f:=fun st j=>ak a7 .sum j at_ st) (fun _ _=>cH ..) (dr n s3 a) s3).trans r4).trans hZ;have R_:j<s3.rows.length:=i_ hj i3.1.len;refine Kn.imp (De (fun _ _=>cH ..) (j:=j) (List.mem_filterMap.mpr ⟨c,List.mem_range.mpr hc,A8 e3.1 hb R_⟩) fun s1 i1=>?_) r4;exact C7 (bV i1.1 (rL e3.1 R_ hq)) (bV (i3.1.trans i1.1) hp) h
theorem WR {w q:aj} {e j:Nat} (hp:ah s at_=some p) (hZ:Imp (dW n F at_ a b s) fs) (hc:e<n) (hb:fs.best (false,b,e)=some j) (hj:j<s.rows.length) (hq:ah fs j=some q) (h:a_ F q p=some w):Kn (dW n F at_ a b s) w:=by
 have i2:Imp s (aK (da F) .bf at_ (aK (cS F) .aB at_ s)):=(f_ _ _ _ _).trans (f_ _ _ _ _);unfold dW at hZ ⊢;dsimp only at hZ ⊢;generalize aK (da F) .bf at_ (aK (cS F) .aB at_ s)=s2 at*;have i3:=i2.trans (dz (f:=fun st j=>ak a7 .sum at_ j st) (fun _ _=>cH ..) (cJ n s2 true b) s2);generalize (cJ n s2 true b).foldl (fun st j=>ak a7 .sum at_ j st) s2=s3 at*;have i4:=i3.trans (dz (f:=fun st j=>ak a7 .sum j at_ st) (fun _ _=>cH ..) (dr n s3 a) s3);generalize (dr n s3 a).foldl (fun st j=>ak a7 .sum j at_ st) s3=s4 at*;have e4:Imp s4 fs:=(dz (f:=fun st j=>ak (a_ F) .back j at_ st) (fun _ _=>cH ..) (cJ n s4 false b) s4).trans hZ;have RZ:j<s4.rows.length:=i_ hj i4.1.len;refine De (fun _ _=>cH ..) (j:=j) (List.mem_filterMap.mpr ⟨e,List.mem_range.mpr hc,A8 e4.1 hb RZ⟩) fun s1 i1=>?_;exact C7 (bV i1.1 (rL e4.1 RZ hq)) (bV (i4.1.trans i1.1) hp) h
theorem Xr {w:aj} (hp:ah s at_=some p) (h:di F p=some w):Kn (fm n F at_ a s) w:=
 (Cz hp h).imp ((f_ _ _ _ _).trans (dz (fun _ _=>cH ..) _ _))
theorem X4 {w:aj} (hp:ah s at_=some p) (h:cR F p=some w):Kn (fm n F at_ a s) w:=
 (Cz (bV (f_ _ _ _ _).1 hp) h).imp (dz (fun _ _=>cH ..) _ _)
theorem Xq {w q:aj} {c j:Nat} (hp:ah s at_=some p) (hZ:Imp (fm n F at_ a s) fs) (hc:c<n) (hb:fs.best (true,c,a)=some j) (hj:j<s.rows.length) (hq:ah fs j=some q) (h:a_ F p q=some w):Kn (fm n F at_ a s) w:=by
 have i2:Imp s (aK (cR F) .ar at_ (aK (di F) .sure at_ s)):=(f_ _ _ _ _).trans (f_ _ _ _ _);unfold fm at hZ ⊢;dsimp only at hZ ⊢;generalize aK (cR F) .ar at_ (aK (di F) .sure at_ s)=s2 at*;have e2:Imp s2 fs:=(dz (f:=fun st j=>ak (a_ F) .back at_ j st) (fun _ _=>cH ..) (dr n s2 a) s2).trans hZ;have rS:j<s2.rows.length:=i_ hj i2.1.len;refine De (fun _ _=>cH ..) (j:=j) (List.mem_filterMap.mpr ⟨c,List.mem_range.mpr hc,A8 e2.1 hb rS⟩) fun s1 i1=>?_;exact C7 (bV (i2.1.trans i1.1) hp) (bV i1.1 (rL e2.1 rS hq)) h
end
structure Fin (n:Nat) (F:ck) (most:Int) (s0:St) (T:Nat):Prop where
 nO:g_ n F most
 good:cj n s0
 first:∀t,t<T->t<(run n F s0 t).rows.length
 stop:(run n F s0 T).rows.length<=T
variable {n:Nat} {F:ck} {most:Int} {s0:St} {T:Nat}
theorem Fin.ev (h:Fin n F most s0 T) (hb:(run n F s0 T).best k=some i) (hp:ah (run n F s0 T) i=some p):
 i<(run n F s0 i).rows.length/\ah (run n F s0 i) i=some p/\(run n F s0 i).best k=some i/\Imp (run n F s0 (i+1)) (run n F s0 T):=by
 have hi:=m_ hp;have KQ:i<T:=i_ hi h.stop;have h1:=h.first i KQ;have e:=sU (n:=n) (F:=F) (s:=s0) (bo KQ);exact ⟨h1,rL e.1 h1 hp,A8 e.1 hb h1,sU KQ⟩
theorem Fin.row (h:Fin n F most s0 T) (hv:val (run n F s0 T) (t,a,b)=some v):∃i p,(run n F s0 T).best (t,a,b)=some i/\ah (run n F s0 T) i=some p/\p.tie=t/\p.a=a/\p.b=b/\p.v=v/\a<n/\b<n:=by
 have g:=yL h.nO h.good T;obtain ⟨i,p,h1,h2,h3,h4⟩:=Az g hv;obtain ⟨k1,k2,k3⟩:=iD h3;have l:=g.lt _ _ h2;exact ⟨i,p,h1,h2,k1,k2,k3,h4,by lia,by lia⟩
theorem Fin.tie (h:Fin n F most s0 T) (hb:(run n F s0 T).best (true,a,b)=some i) (hp:ah (run n F s0 T) i=some p) (pt:p.tie=true) (pa:p.a=a) (pb:p.b=b):
 Imp (dW n F i a b (run n F s0 i)) (run n F s0 T):=by
 obtain ⟨_,e2,e3,e4⟩:=h.ev hb hp;have:run n F s0 (i+1)=dW n F i a b (run n F s0 i):=Dn e2 pt pa pb e3;rw [<-this];exact e4
theorem Fin.aB (h:Fin n F most s0 T) (hv:val (run n F s0 T) (true,a,b)=some v) (lN:a≠b) (hf:F b=some f):Kn (run n F s0 T) ⟨false,a,b,f.2.2-v⟩:=by
 obtain ⟨i,p,h1,h2,pt,pa,pb,pv,_⟩:=h.row hv;obtain ⟨_,e2,_⟩:=h.ev h1 h2;refine (WS e2 ?_).imp (h.tie h1 h2 pt pa pb);unfold cS;rw [if_pos ⟨pt,by rw [pa,pb];exact lN⟩,pb,hf,pa,pv];rfl
theorem Fin.bf (h:Fin n F most s0 T) (hv:val (run n F s0 T) (true,a,b)=some v) (lN:a≠b) (bg:v<0) (hf:F a=some f):Kn (run n F s0 T) ⟨true,f.1,b,f.2.1+v⟩:=by
 obtain ⟨i,p,h1,h2,pt,pa,pb,pv,_⟩:=h.row hv;obtain ⟨_,e2,_⟩:=h.ev h1 h2;refine (WT e2 ?_).imp (h.tie h1 h2 pt pa pb);unfold da;rw [if_pos ⟨pt,by rw [pa,pb];exact lN,by rw [pv];exact bg⟩,pa,hf,pb,pv];rfl
theorem Fin.sum (h:Fin n F most s0 T) (hv:val (run n F s0 T) (true,a,b)=some v) (hu:val (run n F s0 T) (true,b,c)=some u):Kn (run n F s0 T) ⟨true,a,c,v+u⟩:=by
 obtain ⟨i,p,h1,h2,pt,pa,pb,pv,an,_⟩:=h.row hv;obtain ⟨j,q,j1,j2,qt,qa,qb,qv,_,cn⟩:=h.row hu;have hs:a7 p q=some ⟨true,a,c,v+u⟩:=by
  unfold a7;rw [if_pos ⟨pt,qt,by rw [pb,qa]⟩,pa,qb,pv,qv]
 obtain ⟨i1,e2,_⟩:=h.ev h1 h2;obtain ⟨JU,nP,_⟩:=h.ev j1 j2
 by_cases ff:j<=i
 ·have hZ:=h.tie h1 h2 pt pa pb;exact (Xj e2 hZ cn j1 (Nat.lt_of_le_of_lt ff i1) j2 hs).imp hZ
 ·have hZ:=h.tie j1 j2 qt qa qb;exact (Xk nP hZ an h1 (Nat.lt_of_le_of_lt (by lia) JU) h2 hs).imp hZ
theorem Fin.wait (h:Fin n F most s0 T) (hb:(run n F s0 T).best (false,a,b)=some i) (hp:ah (run n F s0 T) i=some p) (pt:p.tie=false) (pa:p.a=a) (pb:p.b=b):
 Imp (fm n F i a (run n F s0 i)) (run n F s0 T):=by
 obtain ⟨_,e2,e3,e4⟩:=h.ev hb hp;have:run n F s0 (i+1)=fm n F i a (run n F s0 i):=by
  rw [<-pa];exact HQ e2 pt (by unfold aj.key;rw [pt,pa,pb];exact e3)
 rw [<-this];exact e4
theorem Fin.sure (h:Fin n F most s0 T) (hv:val (run n F s0 T) (false,a,b)=some v) (hf:F b=some f):Kn (run n F s0 T) ⟨true,a,f.1,-min v f.2.1⟩:=by
 obtain ⟨i,p,h1,h2,pt,pa,pb,pv,_⟩:=h.row hv;obtain ⟨_,e2,_⟩:=h.ev h1 h2;refine (Xr e2 ?_).imp (h.wait h1 h2 pt pa pb);unfold di;rw [if_pos pt,pb,hf,pa,pv];rfl
theorem Fin.ar (h:Fin n F most s0 T) (hv:val (run n F s0 T) (false,a,b)=some v) (lN:a≠b) (h0:0<v) (ho:F a=some o) (hf:F b=some f):Kn (run n F s0 T) ⟨false,o.1,b,min v f.2.2-o.2.1⟩:=by
 obtain ⟨i,p,h1,h2,pt,pa,pb,pv,_⟩:=h.row hv;obtain ⟨_,e2,_⟩:=h.ev h1 h2;refine (X4 e2 ?_).imp (h.wait h1 h2 pt pa pb);unfold cR;rw [if_pos ⟨pt,by rw [pa,pb];exact lN,by rw [pv];exact h0⟩,pa,ho,pb,hf,pv];rfl
theorem Fin.back (h:Fin n F most s0 T) (hv:val (run n F s0 T) (false,a,b)=some v) (hu:val (run n F s0 T) (true,c,a)=some u) (Le:c≠b) (hf:F b=some f):Kn (run n F s0 T) ⟨false,c,b,min v f.2.2-u⟩:=by
 obtain ⟨i,p,h1,h2,pt,pa,pb,pv,_,bn⟩:=h.row hv;obtain ⟨j,q,j1,j2,qt,qa,qb,qv,cn,_⟩:=h.row hu;have hs:a_ F p q=some ⟨false,c,b,min v f.2.2-u⟩:=by
  unfold a_;rw [if_pos ⟨pt,qt,by rw [qb,pa],by rw [qa,pb];exact Le⟩,pb,hf,qa,pv,qv];rfl
 obtain ⟨i1,e2,_⟩:=h.ev h1 h2;obtain ⟨JU,nP,_⟩:=h.ev j1 j2
 by_cases ff:j<=i
 ·have hZ:=h.wait h1 h2 pt pa pb;exact (Xq e2 hZ cn j1 (Nat.lt_of_le_of_lt ff i1) j2 hs).imp hZ
 ·have hZ:=h.tie j1 j2 qt qa qb;exact (WR nP hZ bn h1 (Nat.lt_of_le_of_lt (by lia) JU) h2 hs).imp hZ
noncomputable def kH (C:aj->Prop) (st:St):Prop:=∀i w,ah st i=some w->C w
theorem Hr (h:kH C st) (ho:∀w,o=some w->C w):kH C (put st o word us):=fun i w hw=>by
 by_cases hi:i<st.rows.length
 ·exact h i w (rL (rH _ _ _ _) hi hw)
 ·exact rG ho i w (by exact mE hi) hw
theorem CH (hf:∀p w,C p->f p=some w->C w) (h:kH C st):kH C (aK f word i st):=Hr h fun w e=>by
 cases hp:ah st i with
 | none=>rw [hp] at e;cases e
 | some p=>rw [hp] at e;exact hf p w (h i p hp) e
theorem CI (hf:∀p q w,C p->C q->f p q=some w->C w) (h:kH C st):kH C (ak f word i j st):=Hr h fun w e=>by
 cases hp:ah st i with
 | none=>rw [hp] at e;cases e
 | some p=>
  rw [hp] at e;have e:((ah st j).bind fun q=>f p q)=some w:=e
  cases hq:ah st j with
  | none=>rw [hq] at e;cases e
  | some q=>rw [hq] at e;exact hf p q w (h i p hp) (h j q hq) e
theorem A7 (hg:∀s j,kH C s->kH C (g s j)):∀(l:List Nat) (s:St),kH C s->kH C (l.foldl g s)
 | [],_,h=>h
 | a::l,s,h=>A7 hg l _ (hg s a h)
structure QD (F:ck) (C:aj->Prop):Prop where
 sum:∀p q w,C p->C q->a7 p q=some w->C w
 aB:∀p w,C p->cS F p=some w->C w
 bf:∀p w,C p->da F p=some w->C w
 sure:∀p w,C p->di F p=some w->C w
 back:∀p q w,C p->C q->a_ F p q=some w->C w
 ar:∀p w,C p->cR F p=some w->C w
theorem NH (G:QD F C) (h:kH C s):∀t,kH C (run n F s t)
 | 0=>h
 | t+1=>by
  have ih:=NH G h t;show kH C (look n F t (run n F s t));unfold look;split
  ·split
   ·split
    ·exact A7 (fun _ _ h=>CI G.back h) _ _ (A7 (fun _ _ h=>CI G.sum h) _ _ (A7 (fun _ _ h=>CI G.sum h) _ _ (CH G.bf (CH G.aB ih))))
    ·exact A7 (fun _ _ h=>CI G.back h) _ _ (CH G.ar (CH G.sure ih))
   ·exact ih
  ·exact ih
theorem Pt:∀(rows:List aj) (s:St),kH C s->(∀w∈rows,C w)->kH C (lE rows s)
 | [],_,h,_=>h
 | w::r,s,h,hw=>Pt r _ (Hr (o:=some w) h fun w' e=>by cases e;exact hw _ eD) fun w' ki=>hw w' (gz _ ki)
theorem Ws:kH C empty:=fun i w h=>by unfold ah empty at h;simp at h
noncomputable def ux (F:ck) (D:aj->Prop) (st:St) (r:Row):Prop:=
 (r.word=.told/\r.used=[]/\D r.cC)\/
 (r.word=.aB/\∃i p,r.used=[i]/\ah st i=some p/\cS F p=some r.cC)\/
 (r.word=.bf/\∃i p,r.used=[i]/\ah st i=some p/\da F p=some r.cC)\/
 (r.word=.sure/\∃i p,r.used=[i]/\ah st i=some p/\di F p=some r.cC)\/
 (r.word=.ar/\∃i p,r.used=[i]/\ah st i=some p/\cR F p=some r.cC)\/
 (r.word=.sum/\∃i j p q,r.used=[i,j]/\ah st i=some p/\ah st j=some q/\a7 p q=some r.cC)\/
 (r.word=.back/\∃i j p q,r.used=[i,j]/\ah st i=some p/\ah st j=some q/\a_ F p q=some r.cC)
variable {F:ck} {D:aj->Prop} {n:Nat}
theorem ux.ext (h:ux F D s r) (e:Ext s s'):ux F D s' r:=by
 have o:∀{f:aj->Option aj},(∃i p,r.used=[i]/\ah s i=some p/\f p=some r.cC)->∃i p,r.used=[i]/\ah s' i=some p/\f p=some r.cC:=fun ⟨i,p,h1,h2,h3⟩=>⟨i,p,h1,bV e h2,h3⟩;have t:∀{f:aj->aj->Option aj},(∃i j p q,r.used=[i,j]/\ah s i=some p/\ah s j=some q/\f p q=some r.cC)->∃i j p q,r.used=[i,j]/\ah s' i=some p/\ah s' j=some q/\f p q=some r.cC:=fun ⟨i,j,p,q,h1,h2,h3,h4⟩=>⟨i,j,p,q,h1,bV e h2,bV e h3,h4⟩;rcases h with h | ⟨w,h⟩ | ⟨w,h⟩ | ⟨w,h⟩ | ⟨w,h⟩ | ⟨w,h⟩ | ⟨w,h⟩
 ·exact .inl h
 ·exact .inr (.inl ⟨w,o h⟩)
 ·exact .inr (.inr (.inl ⟨w,o h⟩))
 ·exact .inr (.inr (.inr (.inl ⟨w,o h⟩)))
 ·exact .inr (.inr (.inr (.inr (.inl ⟨w,o h⟩))))
 ·exact .inr (.inr (.inr (.inr (.inr (.inl ⟨w,t h⟩)))))
 ·exact .inr (.inr (.inr (.inr (.inr (.inr ⟨w,t h⟩)))))
noncomputable def Drawn (F:ck) (D:aj->Prop) (st:St):Prop:=∀(i:Nat) (r:Row),st.rows[i]?=some r->ux F D st r
theorem PR {w:aj} (h:Drawn F D st) (hr:ux F D st ⟨w,word,us⟩):Drawn F D (take st w word us):=fun i r hi=>by
 have e:=Ax st w word us;unfold take at hi;split at hi
 ·have hi:(st.rows++[(⟨w,word,us⟩:Row)])[i]?=some r:=hi
  by_cases hl:i<st.rows.length
  ·rw [r_ hl] at hi;exact (h i r hi).ext e
  ·rw [qW (by exact mE hl)] at hi
   cases hk:i-st.rows.length with
   | zero=>rw [hk] at hi;cases hi;exact hr.ext e
   | succ k=>rw [hk] at hi;cases hi
 ·exact (h i r hi).ext e
theorem Pb (h:Drawn F D st) (hr:∀w,o=some w->ux F D st ⟨w,word,us⟩):Drawn F D (put st o word us):=by
 cases o with
 | none=>exact h
 | some w=>exact PR h (hr w rfl)
theorem Di (h:Drawn F D st) (hr:∀w,(∃i' p,[i]=[i']/\ah st i'=some p/\f p=some w)->ux F D st ⟨w,word,[i]⟩):Drawn F D (aK f word i st):=Pb h fun w e=>by
 cases hp:ah st i with
 | none=>rw [hp] at e;cases e
 | some p=>rw [hp] at e;exact hr w ⟨i,p,rfl,hp,e⟩
theorem NW (h:Drawn F D st) (hr:∀w,(∃i' j' p q,[i,j]=[i',j']/\ah st i'=some p/\ah st j'=some q/\f p q=some w)->ux F D st ⟨w,word,[i,j]⟩):Drawn F D (ak f word i j st):=Pb h fun w e=>by
 cases hp:ah st i with
 | none=>rw [hp] at e;cases e
 | some p=>
  rw [hp] at e;have e:((ah st j).bind fun q=>f p q)=some w:=e
  cases hq:ah st j with
  | none=>rw [hq] at e;cases e
  | some q=>rw [hq] at e;exact hr w ⟨i,j,p,q,rfl,hp,hq,e⟩
theorem AE (hg:∀s j,Drawn F D s->Drawn F D (g s j)):∀(l:List Nat) (s:St),Drawn F D s->Drawn F D (l.foldl g s)
 | [],_,h=>h
 | a::l,s,h=>AE hg l _ (hg s a h)
theorem P7 (h:Drawn F D s):∀t,Drawn F D (run n F s t)
 | 0=>h
 | t+1=>by
  have ih:=P7 h t;show Drawn F D (look n F t (run n F s t));unfold look;have sum:∀i j s,Drawn F D s->Drawn F D (ak a7 .sum i j s):=fun i j s h=>NW h fun w e=>.inr (.inr (.inr (.inr (.inr (.inl ⟨rfl,e⟩)))));have back:∀i j s,Drawn F D s->Drawn F D (ak (a_ F) .back i j s):=fun i j s h=>NW h fun w e=>.inr (.inr (.inr (.inr (.inr (.inr ⟨rfl,e⟩)))));split
  ·split
   ·split
    ·exact AE (fun s j h=>back j t s h) _ _ (AE (fun s j h=>sum j t s h) _ _ (AE (fun s j h=>sum t j s h) _ _ (Di (Di ih fun w e=>.inr (.inl ⟨rfl,e⟩)) fun w e=>.inr (.inr (.inl ⟨rfl,e⟩)))))
    ·exact AE (fun s j h=>back t j s h) _ _ (Di (Di ih fun w e=>.inr (.inr (.inr (.inl ⟨rfl,e⟩)))) fun w e=>.inr (.inr (.inr (.inr (.inl ⟨rfl,e⟩)))))
   ·exact ih
  ·exact ih
theorem Qj:∀(rows:List aj) (s:St),Drawn F D s->(∀w∈rows,D w)->Drawn F D (lE rows s)
 | [],_,h,_=>h
 | w::r,_,h,hw=>Qj r _ (PR h (.inl ⟨rfl,rfl,hw w eD⟩)) fun w' ki=>hw w' (gz _ ki)
theorem X9:Drawn F D empty:=fun i r h=>by simp [empty] at h
end MU
namespace HK
noncomputable abbrev ck:=Nat->Option (Nat×Int×Int)
structure Cl (F:ck) (u w:Nat->Nat->Option Int):Prop where
 irr:∀a,u a a=none
 loop:∀{a b v v'},u a b=some v->u b a=some v'->0<=v+v'
 sum:∀{a b c v v'},u a b=some v->u b c=some v'->a≠c->∃z,u a c=some z/\z<=v+v'
 aB:∀{a e v f},u a e=some v->F e=some f->∃z,w a e=some z/\f.2.2-v<=z
 bf:∀{e b v f},u e b=some v->v<0->F e=some f->(b=f.1/\0<=f.2.1+v)\/∃z,u f.1 b=some z/\z<=f.2.1+v
 sure:∀{a e x f},w a e=some x->F e=some f->(a=f.1/\min x f.2.1<=0)\/∃z,u a f.1=some z/\z<=-min x f.2.1
 back:∀{x e a k v f},w x e=some k->u a x=some v->F e=some f->a≠e->∃z,w a e=some z/\min k f.2.2-v<=z
 ar:∀{e' e k g f},w e' e=some k->0<k->F e'=some g->F e=some f->∃z,w g.1 e=some z/\min k f.2.2-g.2.1<=z
 long:∀{x e k f},w x e=some k->F e=some f->f.2.2<k->(∃v,u x e=some v/\v<0)\/∃y k0 v v' k1,u x y=some v'/\v'<=v/\w y e=some k1/\k0<=k1/\k=min k0 f.2.2-v
 cF:∀{e f},F e=some f->1<=f.2.1/\f.2.1<=f.2.2/\F f.1=none
structure Inv (F:ck) (u w:Nat->Nat->Option Int) (c:Nat->Option Int) (i:Int):Prop where
 past:∀{x s},c x=some s->s<i
 K:∀{x y s t v},c x=some s->c y=some t->u x y=some v->t<=s+v
 dl:∀{x y s v},c x=some s->c y=none->u x y=some v->i<=s+v
 W:∀{x e s k f},c x=some s->w x e=some k->F e=some f->f.2.1<k->(∃t,c e=some t/\t<=s)\/∃t,c f.1=some t/\t+k<=s
 fel:∀{e f t},F e=some f->c e=some t->∃s,c f.1=some s/\s+f.2.1<=t/\t<=s+f.2.2
 due:∀{e f s},F e=some f->c e=none->c f.1=some s->i<=s+f.2.2
noncomputable def Ii (F:ck) (u w:Nat->Nat->Option Int) (c:Nat->Option Int) (i:Int) (R:Nat->Prop) (y:Nat):Prop:=
 (∀z v,u y z=some v->(∀t,c z=some t->t<=i+v)/\(c z=none->0<v\/(v=0/\R z)))/\
 ∀e k f,w y e=some k->F e=some f->f.2.1<k->k<=f.2.2->(∃t,c e=some t)\/∃t,c f.1=some t/\t+k<=i
structure Out (F:ck) (c:Nat->Option Int) (i:Int) (S:Nat->Prop):Prop where
 ok:∀{e},S e->∃f s,F e=some f/\c e=none/\c f.1=some s/\s+f.2.1<=i/\i<=s+f.2.2
 all:∀{e f s},F e=some f->c e=none->c f.1=some s->s+f.2.2<=i->S e
open Classical in
noncomputable def put (c:Nat->Option Int) (i:Int) (S:Nat->Prop):Nat->Option Int:=fun x=>if S x then some i else c x
theorem Aj (h:S x):put c i S x=some i:=if_pos h
theorem l_ (h:¬S x):put c i S x=c x:=if_neg h
theorem iE (h:put c i S x=some t):(S x/\t=i)\/(¬S x/\c x=some t):=by
 by_cases e:S x
 ·rw [Aj e] at h;cases h;exact .inl ⟨e,rfl⟩
 ·rw [l_ e] at h;exact .inr ⟨e,h⟩
theorem wo (h:put c i S x=none):¬S x/\c x=none:=by
 by_cases e:S x
 ·rw [Aj e] at h;cases h
 ·rw [l_ e] at h;exact ⟨e,h⟩
section
variable {F:ck} {u w:Nat->Nat->Option Int} {c:Nat->Option Int} {i:Int} {S:Nat->Prop}
theorem Yb (I:Inv F u w c i) (hx:c x=some s) (h:u x y=some v) (hl:s+v<i):∃t,c y=some t/\t<=s+v:=by
 cases hy:c y with
 | none=>have:=I.dl hx hy h;lia
 | some t=>exact ⟨t,rfl,I.K hx hy h⟩
theorem Zn (C:Cl F u w) (I:Inv F u w c i) (O:Out F c i S) (he:S e) (h:u e z=some v):(∀t,put c i S z=some t->t<=i+v)/\(put c i S z=none->0<=v):=by
 obtain ⟨f,s,h1,_,h3,h4,h5⟩:=O.ok he
 by_cases hv:0<=v
 ·refine ⟨fun t ht=>?_,fun _=>hv⟩;rcases iE ht with ⟨_,rfl⟩ | ⟨_,ht⟩
  ·lia
  ·have:=I.past ht;lia
 ·rcases C.bf h (by lia) h1 with ⟨rfl,h6⟩ | ⟨y,h6,h7⟩
  ·refine ⟨fun t ht=>?_,fun ht=>?_⟩
   ·rcases iE ht with ⟨hs,_⟩ | ⟨_,ht⟩
    ·obtain ⟨f',s',g1,_⟩:=O.ok hs;rw [(C.cF h1).2.2] at g1;cases g1
    ·rw [h3] at ht;cases ht;lia
   ·rw [(wo ht).2] at h3;cases h3
  ·have hl:=C.cF h1;obtain ⟨t,h8,h9⟩:=Yb I h3 h6 (by lia);have hn:¬S z:=fun hs=>by
    obtain ⟨f',s',_,g2,_⟩:=O.ok hs;rw [g2] at h8;cases h8
   rw [l_ hn,h8];exact ⟨fun t' e=>by cases e;lia,fun e=>nomatch e⟩
variable {n:Nat} {r:Nat->Prop}
structure rm (F:ck) (u w:Nat->Nat->Option Int) (n:Nat) (c1:Nat->Option Int) (i:Int) (r:Nat->Prop):Prop where
 own:∀{y},r y->F y=none/\c1 y=none
 lt:∀{y},r y->y<n
 lets:∀{y},r y->Ii F u w c1 i r y
 most:∀R:Nat->Prop,(∀y,R y->F y=none/\c1 y=none/\y<n)->(∀y,R y->Ii F u w c1 i R y)->∀y,R y->r y
theorem CV (O:Out F c i S) (h:F x=none):¬S x:=fun hs=>by
 obtain ⟨f,s,h1,_⟩:=O.ok hs;rw [h] at h1;cases h1
theorem up1 (O:Out F c i S) (h:c x=some t):put c i S x=some t:=by
 refine (l_ fun hs=>?_).trans h;obtain ⟨f,s,_,h2,_⟩:=O.ok hs;rw [h] at h2;cases h2
theorem KK (C:Cl F u w) (I:Inv F u w c i) (O:Out F c i S) (R:rm F u w n (put c i S) i r) (hx:put (put c i S) i r x=some s) (h:u x z=some v):(∀t,put c i S z=some t->t<=s+v)/\(put c i S z=none->i<=s+v):=by
 rcases iE hx with ⟨hr,es⟩ | ⟨_,hx⟩
 ·obtain ⟨h1,h2⟩:=(R.lets hr).1 z v h;rw [es];refine ⟨h1,fun hz=>?_⟩;rcases h2 hz with h3 | h3<;>lia
 ·rcases iE hx with ⟨hs,es⟩ | ⟨_,hx⟩
  ·obtain ⟨h1,h2⟩:=Zn C I O hs h;rw [es];exact ⟨h1,fun hz=>by have:=h2 hz;lia⟩
  ·refine ⟨fun t ht=>?_,fun hz=>I.dl hx (wo hz).2 h⟩;rcases iE ht with ⟨hs,et⟩ | ⟨_,ht⟩
   ·obtain ⟨f,s',_,g2,_⟩:=O.ok hs;rw [et];exact I.dl hx g2 h
   ·exact I.K hx ht h
theorem PY (C:Cl F u w) (I:Inv F u w c i) (O:Out F c i S) (R:rm F u w n (put c i S) i r) (hx:put (put c i S) i r x=some s) (h:w x e=some k) (hf:F e=some f) (hk:k<=f.2.1) (hs:s-k<i):∃t,c f.1=some t/\t<=s-k:=by
 have hm:min k f.2.1=k:=by lia
 have ho:=CV O (C.cF hf).2.2;rcases C.sure h hf with ⟨e1,h1⟩ | ⟨z,h1,h2⟩
 ·rw [hm] at h1;rw [e1] at hx;rcases iE hx with ⟨_,rfl⟩ | ⟨_,hx⟩
  ·lia
  ·rw [l_ ho] at hx;exact ⟨s,hx,by lia⟩
 ·rw [hm] at h2;obtain ⟨g1,g2⟩:=KK C I O R hx h1
  cases hb:c f.1 with
  | none=>
   have:=g2 (by rw [l_ ho];exact hb);lia
  | some t=>exact ⟨t,rfl,by have:=g1 t (by rw [l_ ho];exact hb);lia⟩
theorem P1 (C:Cl F u w) (I:Inv F u w c i) (O:Out F c i S) (R:rm F u w n (put c i S) i r) (hx:put (put c i S) i r x=some s) (h:w x e=some k) (hf:F e=some f) (hk:f.2.1<k):(∃t,put c i S e=some t/\t<=s)\/∃t,c f.1=some t/\t+k<=s:=by
 have hl:=C.cF hf;have ho:=CV O hl.2.2;have over:∀{t},c f.1=some t->t+f.2.2<=i->∃t',put c i S e=some t'/\t'<=i:=fun {t} ht hm=>by
  cases he:c e with
  | some t'=>exact ⟨t',up1 O he,by have:=I.past he;exact fV this⟩
  | none=>exact ⟨i,Aj (O.all hf he ht hm),Int.le_refl _⟩
 have old:∀{y sy ky},c y=some sy->w y e=some ky->sy-ky<i->(∃t,put c i S e=some t/\t<=sy)\/∃t,c f.1=some t/\t<=sy-ky:=fun {y sy ky} hy hw bg=>by
  by_cases pq:f.2.1<ky
  ·rcases I.W hy hw hf pq with ⟨t,h1,h2⟩ | ⟨t,h1,h2⟩
   ·exact .inl ⟨t,up1 O h1,h2⟩
   ·exact .inr ⟨t,h1,by lia⟩
  ·refine .inr ?_;have hy2:put (put c i S) i r y=some sy:=by
    refine (l_ fun hr=>?_).trans (up1 O hy);have:=(R.own hr).2;rw [up1 O hy] at this;cases this
   exact PY C I O R hy2 hw hf (by lia) bg
 rcases iE hx with ⟨hr,es⟩ | ⟨_,hx⟩
 ·
  rw [es]
  by_cases hm:k<=f.2.2
  ·rcases (R.lets hr).2 e k f h hf hk hm with ⟨t,h1⟩ | ⟨t,h1,h2⟩
   ·refine .inl ⟨t,h1,?_⟩;rcases iE h1 with ⟨_,et⟩ | ⟨_,h1⟩
    ·lia
    ·have:=I.past h1;exact fV this
   ·rw [l_ ho] at h1;exact .inr ⟨t,h1,h2⟩
  ·rcases C.long h hf (by lia) with ⟨v,h1,h2⟩ | ⟨y,k0,v,v',k1,h1,h2,h3,h4,h5⟩
   ·obtain ⟨g1,g2⟩:=(R.lets hr).1 e v h1
    cases he:put c i S e with
    | none=>have:=g2 he;omega
    | some t=>exact .inl ⟨t,rfl,by have:=g1 t he;lia⟩
   ·obtain ⟨g1,g2⟩:=(R.lets hr).1 y v' h1;have hv:v<0:=by omega
    cases hy:put c i S y with
    | none=>have:=g2 hy;omega
    | some sy=>
     have hsy:=g1 sy hy;have hyc:c y=some sy:=by
      rcases iE hy with ⟨_,et⟩ | ⟨_,hy⟩
      ·lia
      ·exact hy
     by_cases hp:sy-k1<i
     ·rcases old hyc h3 hp with ⟨t,a1,a2⟩ | ⟨t,a1,a2⟩
      ·exact .inl ⟨t,a1,by lia⟩
      ·exact .inr ⟨t,a1,by lia⟩
     ·omega
 ·rcases iE hx with ⟨hs,es⟩ | ⟨_,hx⟩
  ·
   rw [es];obtain ⟨g,sb,h1,_,h3,h4,_⟩:=O.ok hs;have hg:=C.cF h1;obtain ⟨z,h6,h7⟩:=C.ar h (by lia) h1 hf
   by_cases hp:sb-z<i
   ·rcases old h3 h6 hp with ⟨t,a1,a2⟩ | ⟨t,a1,a2⟩
    ·exact .inl ⟨t,a1,by lia⟩
    ·by_cases hm:k<=f.2.2
     ·exact .inr ⟨t,a1,by lia⟩
     ·exact .inl (over a1 (by lia))
   ·omega
  ·rcases I.W hx h hf hk with ⟨t,a1,a2⟩ | ⟨t,a1,a2⟩
   ·exact .inl ⟨t,up1 O a1,a2⟩
   ·exact .inr ⟨t,a1,a2⟩
theorem OH (C:Cl F u w) (I:Inv F u w c i) (O:Out F c i S) (R:rm F u w n (put c i S) i r) (hx:put (put c i S) i r x=some s) (h:w x e=some k) (hf:F e=some f) (hs:s-k<i):(∃t,put c i S e=some t/\t<=s)\/∃t,c f.1=some t/\t<=s-k:=by
 by_cases hk:f.2.1<k
 ·rcases P1 C I O R hx h hf hk with h | ⟨t,h1,h2⟩
  ·exact .inl h
  ·exact .inr ⟨t,h1,by lia⟩
 ·exact .inr (PY C I O R hx h hf (by lia) hs)
theorem NZ (C:Cl F u w) (I:Inv F u w c i) (O:Out F c i S) (R:rm F u w n (put c i S) i r) (hx:put (put c i S) i r x=some s) (h:u x z=some v) (hf:F z=some f) (hd:s+v<=i):∃t,put c i S z=some t:=by
 obtain ⟨k,h1,h2⟩:=C.aB h hf;have hl:=C.cF hf;rcases OH C I O R hx h1 hf (by lia) with ⟨t,h3,_⟩ | ⟨t,h3,h4⟩
 ·exact ⟨t,h3⟩
 ·cases hz:c z with
  | some t'=>exact ⟨t',up1 O hz⟩
  | none=>exact ⟨i,Aj (O.all hf hz h3 (by lia))⟩
theorem Wg (C:Cl F u w) (I:Inv F u w c i) (O:Out F c i S) (R:rm F u w n (put c i S) i r) (lt:∀{a b v},u a b=some v->b<n) (hx:put (put c i S) i r x=some s) (h:u x y=some v) (hf:F y=none) (hy:put c i S y=none) (hd:s+v<=i):r y:=by
 refine R.most (fun y=>r y\/(F y=none/\put c i S y=none/\∃x s v,put (put c i S) i r x=some s/\u x y=some v/\s+v<=i)) ?_ ?_ y (.inr ⟨hf,hy,x,s,v,hx,h,hd⟩)
 ·rintro y (h | ⟨h1,h2,x,s,v,_,h3,_⟩)
  ·obtain ⟨h1,h2⟩:=R.own h;exact ⟨h1,h2,R.lt h⟩
  ·exact ⟨h1,h2,lt h3⟩
 ·rintro y (hr | ⟨_,h2,x,s,v,hx,h3,hd⟩)
  ·obtain ⟨g1,g2⟩:=R.lets hr;refine ⟨fun z v hz=>⟨(g1 z v hz).1,fun hn=>?_⟩,g2⟩;rcases (g1 z v hz).2 hn with h | ⟨h,h'⟩
   ·exact .inl h
   ·exact .inr ⟨h,.inl h'⟩
  ·refine ⟨fun z v' hz=>?_,fun e k f hw hf hk hm=>?_⟩
   ·by_cases e:x=z
    ·subst e;have hl:=C.loop h3 hz;refine ⟨fun t ht=>?_,fun hn=>?_⟩
     ·rcases iE hx with ⟨hr,rfl⟩ | ⟨_,hx⟩
      ·rw [(R.own hr).2] at ht;cases ht
      ·rw [hx] at ht;cases ht;lia
     ·rcases iE hx with ⟨hr,rfl⟩ | ⟨_,hx⟩
      ·by_cases h0:v'=0
       ·exact .inr ⟨h0,.inl hr⟩
       ·exact .inl (by lia)
      ·rw [hx] at hn;cases hn
    ·obtain ⟨z0,h4,h5⟩:=C.sum h3 hz e;obtain ⟨g1,g2⟩:=KK C I O R hx h4;refine ⟨fun t ht=>by have:=g1 t ht;lia,fun hn=>?_⟩;have:=g2 hn
     by_cases h0:v'=0
     ·cases zw:F z with
      | some f=>
       obtain ⟨t,ht⟩:=NZ C I O R hx h4 zw (by lia);rw [hn] at ht;cases ht
      | none=>exact .inr ⟨h0,.inr ⟨zw,hn,x,s,z0,hx,h4,by lia⟩⟩
     ·exact .inl (by lia)
   ·by_cases e':x=e
    ·subst e';rcases iE hx with ⟨hr,_⟩ | ⟨_,hx⟩
     ·rw [(R.own hr).1] at hf;cases hf
     ·exact .inl ⟨s,hx⟩
    ·obtain ⟨k1,h4,h5⟩:=C.back hw h3 hf e';have hl:=C.cF hf;rcases OH C I O R hx h4 hf (by lia) with ⟨t,a1,_⟩ | ⟨t,a1,a2⟩
     ·exact .inl ⟨t,a1⟩
     ·exact .inr ⟨t,up1 O a1,by lia⟩
theorem Inv.next (C:Cl F u w) (I:Inv F u w c i) (O:Out F c i S) (R:rm F u w n (put c i S) i r) (lt:∀{a b v},u a b=some v->b<n):Inv F u w (put (put c i S) i r) (i+1):=by
 have old:∀{x t},put c i S x=some t->put (put c i S) i r x=some t:=fun {x t} h=>by
  refine (l_ fun hr=>?_).trans h;rw [(R.own hr).2] at h;cases h
 have le:∀{x s},put c i S x=some s->s<=i:=fun {x s} h=>by
  rcases iE h with ⟨_,rfl⟩ | ⟨_,h⟩
  ·exact Int.le_refl _
  ·have:=I.past h;exact fV this
 refine ⟨fun {x s} h=>?_,fun {x y s t v} hx hy h=>?_,fun {x y s v} hx hy h=>?_,fun {x e s k f} hx h hf hk=>?_,fun {e f t} hf he=>?_,fun {e f s} hf he hb=>?_⟩
 ·rcases iE h with ⟨_,rfl⟩ | ⟨_,h⟩
  ·lia
  ·have:=le h;lia
 ·obtain ⟨g1,g2⟩:=KK C I O R hx h;rcases iE hy with ⟨hr,rfl⟩ | ⟨_,hy⟩
  ·exact g2 (R.own hr).2
  ·exact g1 t hy
 ·obtain ⟨hn,hy⟩:=wo hy;have:=(KK C I O R hx h).2 hy
  by_cases hd:s+v<=i
  ·cases hf:F y with
   | some f=>
    obtain ⟨t,ht⟩:=NZ C I O R hx h hf hd;rw [hy] at ht;cases ht
   | none=>exact absurd (Wg C I O R lt hx h hf hy hd) hn
  ·lia
 ·rcases P1 C I O R hx h hf hk with ⟨t,h1,h2⟩ | ⟨t,h1,h2⟩
  ·exact .inl ⟨t,old h1,h2⟩
  ·exact .inr ⟨t,old (up1 O h1),h2⟩
 ·rcases iE he with ⟨hr,_⟩ | ⟨_,he⟩
  ·rw [(R.own hr).1] at hf;cases hf
  ·rcases iE he with ⟨hs,rfl⟩ | ⟨_,he⟩
   ·obtain ⟨f',s,h1,h2,h3,h4,h5⟩:=O.ok hs;rw [hf] at h1;cases h1;exact ⟨s,old (up1 O h3),h4,h5⟩
   ·obtain ⟨s,h1,h2⟩:=I.fel hf he;exact ⟨s,old (up1 O h1),h2⟩
 ·obtain ⟨_,he⟩:=wo he;obtain ⟨hs,he⟩:=wo he;have hl:=C.cF hf;rcases iE hb with ⟨_,rfl⟩ | ⟨_,hb⟩
  ·lia
  ·rw [l_ (CV O hl.2.2)] at hb;have:=I.due hf he hb
   by_cases hd:s+f.2.2<=i
   ·exact absurd (O.all hf he hb hd) hs
   ·lia
end
end HK
namespace MU
variable {n:Nat} {F:ck} {most:Int} {s0:St} {T:Nat} {D:aj->Prop}
theorem HC (g:cj n st) (hb:st.bar=none) (hp:ah st i=some p):∃z,val st p.key=some z/\¬dD p.tie p.v z:=by
 obtain ⟨j,ff,hj⟩:=g.top i p hp;obtain ⟨w',h1,h2⟩:=g.at_ _ _ hj;refine ⟨w'.v,oZ hj h1,?_⟩
 by_cases e:i=j
 ·subst e;rw [hp] at h1;cases h1;exact yV _ _
 ·exact PF (g.drop hb i j p w' hp h1 h2.symm (by lia))
theorem CJ (hb:st.bar=none) (h:Kn st ⟨true,a,b,v⟩):(a=b/\0<=v)\/∃z,val st (true,a,b)=some z/\z<=v:=by
 by_cases e:a=b
 ·refine .inl ⟨e,?_⟩
  by_cases hv:v<0
  ·exact absurd hb (h.2 ⟨rfl,e,hv⟩)
  ·lia
 ·obtain ⟨z,h1,h2⟩:=h.1 e;refine .inr ⟨z,h1,?_⟩;unfold dD at h2;rw [if_pos rfl] at h2;lia
theorem Hk (e:a≠b) (h:Kn st ⟨false,a,b,v⟩):∃z,val st (false,a,b)=some z/\v<=z:=by
 obtain ⟨z,h1,h2⟩:=h.1 e;refine ⟨z,h1,?_⟩;unfold dD at h2;rw [if_neg fu] at h2;lia
theorem Fin.cl (h:Fin n F most s0 T) (hb:(run n F s0 T).bar=none) (hD:Drawn F D (run n F s0 T)) (hT:∀x,D x->x.tie=true):HK.Cl F (fun a b=>val (run n F s0 T) (true,a,b)) (fun a b=>val (run n F s0 T) (false,a,b)):=by
 have g:=yL h.nO h.good T;have ne:∀{t a b v},val (run n F s0 T) (t,a,b)=some v->a≠b:=fun {t a b v} hv=>by
  obtain ⟨i,p,_,h2,_,pa,pb,_⟩:=h.row hv;have:=g.ne hb i p h2;rw [pa,pb] at this;exact this
 refine ⟨fun a=>?_,fun {a b v v'} h1 h2=>?_,fun {a b c v v'} h1 h2 vy=>?_,fun {a e v f} h1 hf=>?_,fun {e b v f} h1 hv hf=>?_,fun {a e x f} h1 hf=>?_,fun {x e a k v f} h1 h2 hf Sk=>?_,fun {e' e k g' f} h1 hk hg hf=>?_,fun {x en k f} h1 hf hk=>?_,fun {e f} hf=>?_⟩
 ·cases hv:val (run n F s0 T) (true,a,a) with
  | none=>rfl
  | some v=>exact absurd rfl (ne hv)
 ·rcases CJ hb (h.sum h1 h2) with ⟨_,h3⟩ | ⟨z,h3,_⟩
  ·exact h3
  ·exact absurd rfl (ne h3)
 ·rcases CJ hb (h.sum h1 h2) with ⟨e,_⟩ | h3
  ·exact absurd e vy
  ·exact h3
 ·exact Hk (ne h1) (h.aB h1 (ne h1) hf)
 ·rcases CJ hb (h.bf h1 (ne h1) hv hf) with ⟨e1,e2⟩ | h3
  ·exact .inl ⟨e1.symm,e2⟩
  ·exact .inr h3
 ·rcases CJ hb (h.sure h1 hf) with ⟨e1,e2⟩ | h3
  ·exact .inl ⟨e1,by lia⟩
  ·exact .inr h3
 ·exact Hk Sk (h.back h1 h2 Sk hf)
 ·refine Hk ?_ (h.ar h1 (ne h1) hk hg hf);intro e1;have:=h.nO.own _ _ hg;rw [e1,hf] at this;cases this
 ·obtain ⟨i,p,_,h2,pt,pa,pb,pv,_⟩:=h.row h1;have nN:=h2;unfold ah at h2
  cases hr:(run n F s0 T).rows[i]? with
  | none=>rw [hr] at h2;cases h2
  | some r=>
   rw [hr] at h2;have h2:r.cC=p:=eT h2;have nt:∀{x y z},r.cC=(⟨true,x,y,z⟩:aj)->False:=fun {x y z} e=>by rw [<-h2,e] at pt;cases pt
   rcases hD i r hr with ⟨_,_,d⟩ | ⟨_,i',q,_,hq,e⟩ | ⟨_,i',q,_,_,e⟩ | ⟨_,i',q,_,_,e⟩ | ⟨_,i',q,_,_,e⟩ | ⟨_,i',j',q,q',_,_,_,e⟩ | ⟨_,i',j',q,q',_,hq,iV,e⟩
   ·have:=hT _ d;rw [h2,pt] at this;cases this
   ·unfold cS at e;split at e
    ·rename_i c
     cases nI:F q.b with
     | none=>rw [nI] at e;cases e
     | some f'=>
      rw [nI] at e;have e:=(eT e).symm;rw [h2] at e;have qa:q.a=x:=by rw [<-pa,e]
      have qb:q.b=en:=by rw [<-pb,e]
      rw [qb,hf] at nI;cases nI;obtain ⟨z,z1,z2⟩:=HC g hb hq;have mx:q.key=(true,x,en):=by unfold aj.key;rw [c.1,qa,qb]
      rw [mx] at z1;unfold dD at z2;rw [if_pos c.1] at z2;exact .inl ⟨z,z1,by lia⟩
    ·cases e
   ·unfold da at e;split at e
    ·cases hf:F q.a with
     | none=>rw [hf] at e;cases e
     | some f=>rw [hf] at e;exact (nt (eT e).symm).elim
    ·cases e
   ·unfold di at e;split at e
    ·cases hf:F q.b with
     | none=>rw [hf] at e;cases e
     | some f=>rw [hf] at e;exact (nt (eT e).symm).elim
    ·cases e
   ·unfold cR at e;split at e
    ·cases ho:F q.a with
     | none=>rw [ho] at e;cases e
     | some o=>
      rw [ho] at e
      cases Fi:F q.b with
      | none=>rw [Fi] at e;cases e
      | some f'=>
       rw [Fi] at e;have e:=(eT e).symm;rw [h2] at e;have qb:q.b=en:=by rw [<-pb,e]
       rw [qb,hf] at Fi;cases Fi;have kv:k=min q.v f.2.2-o.2.1:=by rw [<-pv,e]
       have:=h.nO.num _ _ ho;omega
    ·cases e
   ·unfold a7 at e;split at e
    ·exact (nt (eT e).symm).elim
    ·cases e
   ·unfold a_ at e;split at e
    ·rename_i c
     cases nI:F q.b with
     | none=>rw [nI] at e;cases e
     | some f'=>
      rw [nI] at e;have e:=(eT e).symm;rw [h2] at e;have qa:q'.a=x:=by rw [<-pa,e]
      have qb:q.b=en:=by rw [<-pb,e]
      rw [qb,hf] at nI;cases nI;have kv:k=min q.v f.2.2-q'.v:=by rw [<-pv,e]
      obtain ⟨z,z1,z2⟩:=HC g hb iV;obtain ⟨y,y1,y2⟩:=HC g hb hq;have mx:q'.key=(true,x,q.a):=by unfold aj.key;rw [c.2.1,qa,c.2.2.1]
      have B9:q.key=(false,q.a,en):=by unfold aj.key;rw [c.1,qb]
      rw [mx] at z1;rw [B9] at y1;unfold dD at z2 y2;rw [if_pos c.2.1] at z2;rw [if_neg (by rw [c.1];exact fu)] at y2;exact .inr ⟨q.a,q.v,q'.v,z,y,z1,by omega,y1,by lia,kv⟩
    ·cases e
 ·have:=h.nO.num _ _ hf;exact ⟨this.1,this.2.1,h.nO.own _ _ hf⟩
end MU
namespace HK
noncomputable abbrev q_:=Nat->Option (Nat×Int×Int)
noncomputable def gf (F:q_) (o:Nat->Int):Prop:=∀e f,F e=some f->f.2.1<=o e/\o e<=f.2.2
noncomputable def ip (o:Nat->Int) (e:Nat) (l:Int):Nat->Int:=fun x=>if x=e then l else o x
theorem sR (o:Nat->Int) (e:Nat) (l:Int):ip o e l e=l:=if_pos rfl
theorem wj (h:x≠e):ip o e l x=o x:=if_neg h
theorem gf.set (h:gf F o) (hf:F e=some f) (h1:f.2.1<=l) (h2:l<=f.2.2):gf F (ip o e l):=fun x g hx=>by
 by_cases c:x=e
 ·subst c;rw [hf] at hx;cases hx;rw [sR];exact ⟨h1,h2⟩
 ·rw [wj c];exact h x g hx
structure cZ (F:q_) (n:Nat) (tm:(Nat->Int)->Nat->Int):Prop where
 cF:∀{o e f},gf F o->F e=some f->tm o e=tm o f.1+o e
 qT:∀{o e f l t},gf F o->F e=some f->f.2.1<=l->l<=f.2.2->t<tm o f.1+o e->t<tm o f.1+l->∀{m},m<n->tm o m<=t->tm (ip o e l) m=tm o m
noncomputable def SX (F:q_) (n:Nat) (tm:(Nat->Int)->Nat->Int) (w:MU.aj):Prop:=w.a<n/\w.b<n/\(w.tie=true->∀o,gf F o->tm o w.b<=tm o w.a+w.v)/\
 (w.tie=false->∀f,F w.b=some f->∀o,gf F o->tm o f.1+w.v<=tm o w.a\/tm o w.b<=tm o w.a)
section
variable {F:q_} {n:Nat} {most:Int} {tm:(Nat->Int)->Nat->Int} {o:Nat->Int} {e:Nat} {f:Nat×Int×Int} {l:Int}
theorem fo (hF:MU.g_ n F most) (hf:F e=some f):f.1<n/\e<n/\1<=f.2.1/\f.2.1<=f.2.2:=⟨(hF.lt _ _ hf).1,(hF.lt _ _ hf).2,(hF.num _ _ hf).1,(hF.num _ _ hf).2.1⟩
theorem cZ.begin (S:cZ F n tm) (hF:MU.g_ n F most) (ho:gf F o) (hf:F e=some f) (h1:f.2.1<=l) (h2:l<=f.2.2):tm (ip o e l) f.1=tm o f.1:=by
 have h:=fo hF hf;have:=ho e f hf;exact S.qT ho hf h1 h2 (t:=tm o f.1) (by omega) (by omega) (by omega) (by omega)
theorem cZ.aB (S:cZ F n tm) (hF:MU.g_ n F most) (ha:a<n) (ho:gf F o) (hf:F e=some f) (h1:tm o a<tm o e):
 gf F (ip o e f.2.2)/\tm (ip o e f.2.2) a=tm o a/\tm (ip o e f.2.2) f.1=tm o f.1/\tm (ip o e f.2.2) e=tm o f.1+f.2.2:=by
 have h:=fo hF hf;have h2:=ho e f hf;have h3:=S.cF ho hf;have ok:=ho.set hf (l:=f.2.2) (by omega) (by omega);have h4:=S.begin hF ho hf (l:=f.2.2) (by omega) (by omega);refine ⟨ok,S.qT ho hf (by omega) (by omega) (t:=tm o a) (by omega) (by omega) ha (by omega),h4,?_⟩;rw [S.cF ok hf,h4,sR]
theorem cZ.gh (S:cZ F n tm) (hF:MU.g_ n F most):MU.QD F (SX F n tm):=by
 refine ⟨fun p q w hp hq h=>?_,fun p w hp h=>?_,fun p w hp h=>?_,fun p w hp h=>?_,fun p q w hp hq h=>?_,fun p w hp h=>?_⟩
 ·unfold MU.a7 at h;split at h
  next c=>
   cases h;refine ⟨hp.1,hq.2.1,fun _ o ho=>?_,nofun⟩;have h1:=hp.2.2.1 c.1 o ho;have h2:=hq.2.2.1 c.2.1 o ho;rw [<-c.2.2] at h2;show tm o q.b<=tm o p.a+(p.v+q.v);omega
  ·cases h
 ·unfold MU.cS at h;split at h
  next c=>
   cases hf:F p.b with
   | none=>rw [hf] at h;cases h
   | some f=>
    rw [hf] at h;cases h;refine ⟨hp.1,hp.2.1,nofun,fun _ g hg o ho=>?_⟩;have hg:F p.b=some g:=hg;rw [hf] at hg;cases hg;show tm o f.1+(f.2.2-p.v)<=tm o p.a\/tm o p.b<=tm o p.a
    by_cases h1:tm o p.a<tm o p.b
    ·obtain ⟨k1,k2,_,k4⟩:=S.aB hF hp.1 ho hf h1;have:=hp.2.2.1 c.1 _ k1;rw [k2,k4] at this;left;omega
    ·right;omega
  ·cases h
 ·unfold MU.da at h;split at h
  next c=>
   cases hf:F p.a with
   | none=>rw [hf] at h;cases h
   | some f=>
    rw [hf] at h;cases h;have hb:=fo hF hf;refine ⟨by show f.1<n;omega,hp.2.1,fun _ o ho=>?_,nofun⟩;show tm o p.b<=tm o f.1+(f.2.1+p.v);have h2:=ho _ _ hf;have ok:=ho.set hf (l:=f.2.1) (by omega) (by omega);have k4:=S.begin hF ho hf (l:=f.2.1) (by omega) (by omega);have h3:=hp.2.2.1 c.1 _ ok;rw [S.cF ok hf,k4,sR] at h3;have e1:ip (ip o p.a f.2.1) p.a (o p.a)=o:=by
     funext x
     by_cases z:x=p.a
     ·rw [z,sR]
     ·rw [wj z,wj z]
    have h5:=S.qT ok hf (l:=o p.a) (t:=tm (ip o p.a f.2.1) p.b) (by omega) (by omega) (by rw [k4,sR];omega) (by rw [k4];omega) hp.2.1 (by omega);rw [e1] at h5;omega
  ·cases h
 ·unfold MU.di at h;split at h
  next c=>
   cases hf:F p.b with
   | none=>rw [hf] at h;cases h
   | some f=>
    rw [hf] at h;cases h;have hb:=fo hF hf;refine ⟨hp.1,by show f.1<n;omega,fun _ o ho=>?_,nofun⟩;show tm o f.1<=tm o p.a+ -min p.v f.2.1;have h2:=ho _ _ hf;have h3:=S.cF ho hf;rcases hp.2.2.2 c f hf o ho with h | h<;>omega
  ·cases h
 ·unfold MU.a_ at h;split at h
  next c=>
   cases hf:F p.b with
   | none=>rw [hf] at h;cases h
   | some f=>
    rw [hf] at h;cases h;refine ⟨hq.1,hp.2.1,nofun,fun _ g hg o ho=>?_⟩;have hg:F p.b=some g:=hg;rw [hf] at hg;cases hg;show tm o f.1+(min p.v f.2.2-q.v)<=tm o q.a\/tm o p.b<=tm o q.a
    by_cases h1:tm o q.a<tm o p.b
    ·obtain ⟨k1,k2,k3,k4⟩:=S.aB hF hq.1 ho hf h1;have h2:=hq.2.2.1 c.2.1 _ k1;rw [k2,c.2.2.1] at h2;have h3:=hp.2.2.2 c.1 f hf _ k1;rw [k3,k4] at h3;left;omega
    ·right;omega
  ·cases h
 ·unfold MU.cR at h;split at h
  next c=>
   cases hg:F p.a with
   | none=>rw [hg] at h;cases h
   | some g=>
    rw [hg] at h
    cases hf:F p.b with
    | none=>rw [hf] at h;cases h
    | some f=>
     rw [hf] at h;cases h;have hb:=fo hF hg;have dZ:=fo hF hf;refine ⟨by show g.1<n;omega,hp.2.1,nofun,fun _ f' nI o ho=>?_⟩;have nI:F p.b=some f':=nI;rw [hf] at nI;cases nI;show tm o f.1+(min p.v f.2.2-g.2.1)<=tm o g.1\/tm o p.b<=tm o g.1
     by_cases h1:tm o g.1<tm o p.b
     ·obtain ⟨k1,k2,k3,k4⟩:=S.aB hF (show g.1<n by omega) ho hf h1;left;generalize ip o p.b f.2.2=o1 at k1 k2 k3 k4;have h2:=k1 _ _ hg;have ok:=k1.set hg (l:=g.2.1) (by omega) (by omega);have b1:=S.begin hF k1 hg (l:=g.2.1) (by omega) (by omega);have h3:=hp.2.2.2 c.1 f hf _ ok;have h4:=S.cF ok hg;have h5:=S.cF ok hf;rw [sR,b1,k2] at h4;have h6:ip o1 p.a g.2.1 p.b=o1 p.b:=wj (aF c.2.1);have h7:=S.cF k1 hf;rw [h6] at h5;have e1:ip (ip o1 p.a g.2.1) p.a (o1 p.a)=o1:=by
       funext x
       by_cases z:x=p.a
       ·rw [z,sR]
       ·rw [wj z,wj z]
      have h8:tm (ip o1 p.a g.2.1) f.1<tm o g.1+g.2.1->tm o1 f.1=tm (ip o1 p.a g.2.1) f.1:=fun z=>by
       have:=S.qT ok hg (l:=o1 p.a) (t:=tm (ip o1 p.a g.2.1) f.1) (by omega) (by omega) (by rw [b1,k2,sR];omega) (by rw [b1,k2];omega) (show f.1<n by omega) (by omega)
       rwa [e1] at this
      by_cases z:tm (ip o1 p.a g.2.1) f.1<tm o g.1+g.2.1
      ·have:=h8 z;omega
      ·have:=c.2.2;omega
     ·right;omega
  ·cases h
theorem cZ.A_ (S:cZ F n tm) (hF:MU.g_ n F most) (h:MU.kH (SX F n tm) s) (hu:MU.iB s) (ho:gf F o) (t:Nat):(MU.run n F s t).bar=none:=by
 cases hb:(MU.run n F s t).bar with
 | none=>rfl
 | some b=>
  obtain ⟨r,h1,h2⟩:=(MU.HD hu t).2 b hb;have h3:=MU.NH (n:=n) (S.gh hF) h t b r.cC (by unfold MU.ah;rw [h1];rfl);have:=h3.2.2.1 h2.1 o ho;rw [h2.2.1] at this;have:=h2.2.2;omega
end
variable {F:ck} {u w:Nat->Nat->Option Int} {c:Nat->Option Int} {n:Nat} {r S:Nat->Prop}
structure Zero (F:ck) (u:Nat->Nat->Option Int) (n:Nat) (la:Int):Prop where
 own:F 0=none
 pos:0<n
 lt:∀{a b v},u a b=some v->a<n/\b<n
 QU:∀{y},y<n->y≠0->∃v,u y 0=some v/\v<=0
 of0:∀{y},y<n->y≠0->∃v,u 0 y=some v/\v<=la
theorem Zero.nonneg (Z:Zero F u n la) (C:Cl F u w) (h:u 0 y=some v):0<=v:=by
 have hy:y≠0:=fun e=>by rw [e,C.irr] at h;cases h
 obtain ⟨v',h1,h2⟩:=Z.QU (Z.lt h).2 hy;have:=C.loop h h1;lia
theorem Zero.mn (Z:Zero F u n la) (C:Cl F u w) (h:w 0 e=some k) (hf:F e=some f) (hk:0<k):False:=by
 have hl:=C.cF hf;rcases C.sure h hf with ⟨_,h2⟩ | ⟨z,h1,h2⟩
 ·lia
 ·have:=Z.nonneg C h1;lia
theorem Zero.AZ (Z:Zero F u n la) (C:Cl F u w) (h:u 0 e=some v) (hv:v<=0):F e=none:=by
 cases hf:F e with
 | none=>rfl
 | some f=>
  obtain ⟨k,h1,h2⟩:=C.aB h hf;have hl:=C.cF hf;exact (Z.mn C h1 hf (by lia)).elim
theorem WX (Z:Zero F u n la) (C:Cl F u w) (hc:∀x,c x=none) (R:rm F u w n c 0 r):r 0:=by
 refine R.most (fun y=>y=0\/∃v,u 0 y=some v/\v<=0) ?_ ?_ 0 (.inl rfl)
 ·rintro y (rfl | ⟨v,h1,h2⟩)
  ·exact ⟨Z.own,hc _,Z.pos⟩
  ·exact ⟨Z.AZ C h1 h2,hc _,(Z.lt h1).2⟩
 ·intro y hy;refine ⟨fun z v' hz=>⟨fun t ht=>(by rw [hc] at ht;cases ht),fun _=>?_⟩,fun e k f hw hf hk hm=>?_⟩
  ·rcases hy with rfl | ⟨v,h1,h2⟩
   ·have:=Z.nonneg C hz
    by_cases h0:v'=0
    ·exact .inr ⟨h0,.inr ⟨v',hz,by lia⟩⟩
    ·exact .inl (by lia)
   ·by_cases e:0=z
    ·subst e;have:=C.loop h1 hz
     by_cases h0:v'=0
     ·exact .inr ⟨h0,.inl rfl⟩
     ·exact .inl (by lia)
    ·obtain ⟨z0,h3,h4⟩:=C.sum h1 hz e;have:=Z.nonneg C h3
     by_cases h0:v'=0
     ·exact .inr ⟨h0,.inr ⟨z0,h3,by lia⟩⟩
     ·exact .inl (by lia)
  ·have hl:=C.cF hf;refine (?_:False).elim;rcases hy with rfl | ⟨v,h1,h2⟩
   ·exact Z.mn C hw hf (by lia)
   ·have he:0≠e:=fun e'=>by rw [<-e',Z.own] at hf;cases hf
    obtain ⟨k1,h3,h4⟩:=C.back hw h1 hf he;exact Z.mn C h3 hf (by lia)
theorem Yt (hc:∀x,c x=none) (i:Int):Inv F u w c i:=by
 refine ⟨?_,?_,?_,?_,?_,?_⟩
 ·intro x s h;rw [hc] at h;cases h
 ·intro x y s t v h;rw [hc] at h;cases h
 ·intro x y s v h;rw [hc] at h;cases h
 ·intro x e s k f h;rw [hc] at h;cases h
 ·intro e f t _ h;rw [hc] at h;cases h
 ·intro e f s _ _ h;rw [hc] at h;cases h
structure At (F:ck) (u w:Nat->Nat->Option Int) (c:Nat->Option Int) (i:Int):Prop where
 inv:Inv F u w c i
 zero:0<i->c 0=some 0
 fresh:i=0->∀x,c x=none
theorem At.next (Z:Zero F u n la) (C:Cl F u w) (hi:0<=i) (A:At F u w c i) (O:Out F c i S) (R:rm F u w n (put c i S) i r):At F u w (put (put c i S) i r) (i+1):=by
 refine ⟨A.inv.next C O R (fun h=>(Z.lt h).2),fun _=>?_,fun h=>by lia⟩
 by_cases h0:i=0
 ·have hc:=A.fresh h0;have hS:∀x,put c i S x=none:=fun x=>by
   refine (l_ fun hs=>?_).trans (hc x);obtain ⟨f,s,_,_,h3,_⟩:=O.ok hs;rw [hc] at h3;cases h3
  subst h0;exact Aj (WX Z C hS R)
 ·have h:=up1 O (A.zero (by lia));refine (l_ fun hr=>?_).trans h;rw [(R.own hr).2] at h;cases h
theorem At.done (Z:Zero F u n la) (C:Cl F u w) (h0:0<=la) (A:At F u w c (la+1)) (hy:y<n):∃t,c y=some t/\0<=t/\t<=la:=by
 have hz:=A.zero (by lia)
 by_cases e:y=0
 ·exact ⟨0,e▸hz,by exact Int.NonNeg.mk (0+0),h0⟩
 ·obtain ⟨v,h1,h2⟩:=Z.of0 hy e;obtain ⟨v',h3,h4⟩:=Z.QU hy e
  cases hc:c y with
  | none=>have:=A.inv.dl hz hc h1;lia
  | some t=>exact ⟨t,rfl,by have:=A.inv.K hc hz h3;lia,by have:=A.inv.K hz hc h1;lia⟩
noncomputable def Ml (F:q_) (u w:Nat->Nat->Option Int) (n:Nat) (c:Nat->Option Int) (i:Int) (y:Nat):Prop:=∃R:Nat->Prop,(∀z,R z->(F z=none/\c z=none/\z<n)/\Ii F u w c i R z)/\R y
noncomputable def sG (F:q_) (o:Nat->Int) (c:Nat->Option Int) (i:Int) (e:Nat):Prop:=∃f s,F e=some f/\c e=none/\c f.1=some s/\s+o e=i
noncomputable def step (F:q_) (u w:Nat->Nat->Option Int) (n:Nat) (c:Nat->Option Int) (i:Int) (S:Nat->Prop):Nat->Option Int:=put (put c i S) i (Ml F u w n (put c i S) i)
noncomputable def jk (F:q_) (u w:Nat->Nat->Option Int) (n:Nat) (o:Nat->Int):Nat->(Nat->Option Int)
 | 0=>fun _=>none
 | i+1=>step F u w n (jk F u w n o i) i (sG F o (jk F u w n o i) i)
section
variable {F:q_} {u w:Nat->Nat->Option Int} {n:Nat} {c:Nat->Option Int} {i la:Int} {o:Nat->Int}
theorem HN:rm F u w n c i (Ml F u w n c i):=by
 refine ⟨fun ⟨R,h,hy⟩=>⟨(h _ hy).1.1,(h _ hy).1.2.1⟩,fun ⟨R,h,hy⟩=>(h _ hy).1.2.2,fun {y} ⟨R,h,hy⟩=>?_,fun R h1 h2 y hy=>⟨R,fun z hz=>⟨h1 z hz,h2 z hz⟩,hy⟩⟩;obtain ⟨a,b⟩:=(h _ hy).2;refine ⟨fun z v e=>⟨(a z v e).1,fun q=>?_⟩,b⟩;rcases (a z v e).2 q with q | ⟨q1,q2⟩
 ·exact .inl q
 ·exact .inr ⟨q1,R,h,q2⟩
structure Pl (F:q_) (o:Nat->Int) (c:Nat->Option Int) (i:Int):Prop where
 a:∀{e f t},F e=some f->c e=some t->∃s,c f.1=some s/\t=s+o e
 b:∀{e f s},F e=some f->c e=none->c f.1=some s->i<=s+o e
theorem Pl.out (P:Pl F o c i) (ho:gf F o):Out F c i (sG F o c i):=by
 refine ⟨fun {e} ⟨f,s,h1,h2,h3,h4⟩=>?_,fun {e f s} h1 h2 h3 h4=>?_⟩
 ·have:=ho e f h1;exact ⟨f,s,h1,h2,h3,by omega,by omega⟩
 ·have:=ho e f h1;have:=P.b h1 h2 h3;exact ⟨f,s,h1,h2,h3,by omega⟩
theorem Hs (O:Out F c i S) (h:c x=some t):step F u w n c i S x=some t:=by
 have h1:=up1 O h;refine (l_ fun hr=>?_).trans h1;rw [(HN.own hr).2] at h1;cases h1
theorem Pl.next (P:Pl F o c i) (C:Cl F u w) (ho:gf F o):Pl F o (step F u w n c i (sG F o c i)) (i+1):=by
 have O:=P.out ho;have own:∀{e f},F e=some f->put c i (sG F o c i) f.1=c f.1:=fun h=>l_ (CV O (C.cF h).2.2);refine ⟨fun {e f t} h h1=>?_,fun {e f s} h h1 h2=>?_⟩
 ·rcases iE h1 with ⟨hr,_⟩ | ⟨_,h1⟩
  ·have:=(HN.own hr).1;rw [h] at this;cases this
  ·rcases iE h1 with ⟨⟨f',s,e1,e2,e3,e4⟩,rfl⟩ | ⟨_,h1⟩
   ·rw [h] at e1;cases e1;exact ⟨s,Hs O e3,e4.symm⟩
   ·obtain ⟨s,e1,e2⟩:=P.a h h1;exact ⟨s,Hs O e1,e2⟩
 ·obtain ⟨_,h1⟩:=wo h1;obtain ⟨hs,h1⟩:=wo h1;have h3:=ho e f h;have h4:=C.cF h;rcases iE h2 with ⟨_,rfl⟩ | ⟨_,h2⟩
  ·omega
  ·rw [own h] at h2;have:=P.b h h1 h2
   by_cases z:s+o e=i
   ·exact absurd ⟨f,s,h,h1,h2,z⟩ hs
   ·omega
theorem yH (Z:Zero F u n la) (C:Cl F u w) (ho:gf F o):∀i:Nat,At F u w (jk F u w n o i) i/\Pl F o (jk F u w n o i) i
 | 0=>⟨⟨Yt (fun _=>rfl) _,fun h=>absurd h (by omega),fun _ _=>rfl⟩,fun _ h1=>(nomatch h1),fun _ _ h2=>(nomatch h2)⟩
 | i+1=>by
  obtain ⟨A,P⟩:=yH Z C ho i;exact ⟨A.next Z C (by omega) (P.out ho) HN,P.next C ho⟩
theorem OZ (Z:Zero F u n la) (C:Cl F u w) (ho:gf F o) {i j:Nat} (h:i<=j) {x:Nat} {t:Int} (hx:jk F u w n o i x=some t):jk F u w n o j x=some t:=by
 induction h with
 | refl=>exact hx
 | step _ ih=>exact Hs ((yH Z C ho _).2.out ho) ih
theorem OP (Z:Zero F u n la) (C:Cl F u w) (ho:gf F o) {i j x:Nat} {t t':Int} (hx:jk F u w n o i x=some t) (hy:jk F u w n o j x=some t'):t=t':=by
 rcases Nat.le_total i j with h | h
 ·have:=OZ Z C ho h hx;rw [hy] at this;cases this;rfl
 ·have:=OZ Z C ho h hy;rw [hx] at this;cases this;rfl
theorem O_:∀{j:Nat},jk F u w n o j x=some t->∃k:Nat,t=k/\jk F u w n o (k+1) x=some t
 | 0,h=>nomatch h
 | j+1,h=>by
  rcases iE h with ⟨_,e⟩ | ⟨_,h1⟩
  ·exact ⟨j,e,h⟩
  ·rcases iE h1 with ⟨_,e⟩ | ⟨_,h1⟩
   ·exact ⟨j,e,h⟩
   ·exact O_ h1
noncomputable def gb (F:q_) (u w:Nat->Nat->Option Int) (n:Nat) (la:Int) (o:Nat->Int) (x:Nat):Int:=(jk F u w n o (la.toNat+1) x).getD 0
theorem tm_at (Z:Zero F u n la) (C:Cl F u w) (hl:0<=la) (ho:gf F o) (hx:x<n):jk F u w n o (la.toNat+1) x=some (gb F u w n la o x)/\0<=gb F u w n la o x/\gb F u w n la o x<=la:=by
 have A:=(yH Z C ho (la.toNat+1)).1;rw [show ((la.toNat+1:Nat):Int)=la+1 by omega] at A;obtain ⟨t,h1,h2,h3⟩:=A.done Z C hl hx;have e:gb F u w n la o x=t:=by unfold gb;rw [h1];rfl
 rw [e];exact ⟨h1,h2,h3⟩
theorem s_ (Z:Zero F u n la) (C:Cl F u w) (hl:0<=la) (ho:gf F o):gb F u w n la o 0=0:=by
 have:=(yH Z C ho (la.toNat+1)).1.zero (by omega);unfold gb;rw [this];rfl
theorem kO (Z:Zero F u n la) (C:Cl F u w) (hl:0<=la) (ho:gf F o) (h:u x y=some v):gb F u w n la o y<=gb F u w n la o x+v:=by
 obtain ⟨h1,h2⟩:=Z.lt h;exact (yH Z C ho (la.toNat+1)).1.inv.K (tm_at Z C hl ho h1).1 (tm_at Z C hl ho h2).1 h
theorem pY (Z:Zero F u n la) (C:Cl F u w) (hl:0<=la) (hF:MU.g_ n F most):cZ F n (gb F u w n la):=by
 refine ⟨fun {o e f} ho hf=>?_,fun {o e f l t} ho hf l1 l2 t1 t2 {m} hm h=>?_⟩
 ·obtain ⟨h1,h2,_⟩:=fo hF hf;obtain ⟨s,e1,e2⟩:=(yH Z C ho (la.toNat+1)).2.a hf (tm_at Z C hl ho h2).1;rw [(tm_at Z C hl ho h1).1] at e1;cases e1;exact e2
 ·have ok:=ho.set hf l1 l2;have hb:=(tm_at Z C hl ho (fo hF hf).1).1;have same:∀i:Nat,(i:Int)<=t+1->jk F u w n (ip o e l) i=jk F u w n o i:=fun i=>by
   induction i with
   | zero=>intro _;rfl
   | succ i ih=>
    intro hi;have ih:=ih (by omega);show step F u w n (jk F u w n (ip o e l) i) i (sG F (ip o e l) (jk F u w n (ip o e l) i) i)=step F u w n (jk F u w n o i) i (sG F o (jk F u w n o i) i);rw [ih];have:sG F (ip o e l) (jk F u w n o i) i=sG F o (jk F u w n o i) i:=by
     funext x
     by_cases c:x=e
     ·subst c;have no:∀{s},jk F u w n o i f.1=some s->s=gb F u w n la o f.1:=fun h=>OP Z C ho h hb;refine propext ⟨fun ⟨f',s,e1,e2,e3,e4⟩=>?_,fun ⟨f',s,e1,e2,e3,e4⟩=>?_⟩
      ·rw [hf] at e1;cases e1;rw [sR,no e3] at e4;omega
      ·rw [hf] at e1;cases e1;rw [no e3] at e4;omega
     ·unfold sG;rw [wj c]
    rw [this]
  obtain ⟨k,k1,k2⟩:=O_ (tm_at Z C hl ho hm).1;rw [<-same (k+1) (by omega)] at k2;exact (OP Z C ok k2 (tm_at Z C hl ok hm).1).symm
theorem cZ.less (S:cZ F n tm) (h:∀e f',F' e=some f'->∃f,F e=some f/\f.1=f'.1/\f.2.1<=f'.2.1/\f'.2.2<=f.2.2) (h':∀e f,F e=some f->∃f',F' e=some f'):cZ F' n tm/\∀o,gf F' o->gf F o:=by
 have ok:∀o,gf F' o->gf F o:=fun o ho e f hf=>by
  obtain ⟨f',e1⟩:=h' e f hf;obtain ⟨f2,e2,e3,e4,e5⟩:=h e f' e1;rw [hf] at e2;cases e2;have:=ho e f' e1;omega
 refine ⟨⟨fun {o e f} ho hf=>?_,fun {o e f l t} ho hf l1 l2 t1 t2 {m} hm hh=>?_⟩,ok⟩
 ·obtain ⟨f2,e2,e3,_⟩:=h e f hf;rw [S.cF (ok o ho) e2,e3]
 ·obtain ⟨f2,e2,e3,e4,e5⟩:=h e f hf;exact S.qT (ok o ho) e2 (by omega) (by omega) (by rw [e3];exact t1) (by rw [e3];exact t2) hm hh
end
end HK
namespace Y0
open PySem L2
seal L2.PE L2.PA L2.PT L2.PS L2.gp L2.PG L2.nU L2.PI L2.PO
noncomputable abbrev IC (st:MU.St) (a b:Nat):Option Int:=MU.val st (true,a,b)
noncomputable abbrev Z4 (st:MU.St) (a b:Nat):Option Int:=MU.val st (false,a,b)
section
variable {n:Nat} {la:Int} {T F:List (List Int)} {Te:Nat}
theorem Zz (af:cv (n:Int) la T F) (hE:vU n (dk F) (lD n la T F) Te) (bw:(h_ n la T F Te).bar=none):HK.Cl (dk F) (IC (h_ n la T F Te)) (Z4 (h_ n la T F Te)):=
 MU.Fin.cl (D:=fun x=>x∈(gJ (n:Int) la T F).map hX) ⟨af.nO,(HU af).good,fun t ht=>(hE.first t ht).1,hE.end_.elim id fun z=>absurd bw z⟩ bw (MU.P7 (MU.Qj _ _ MU.X9 fun _ h=>h) Te) fun x hx=>(vX af.kX x hx).2.2
theorem DL (af:cv (n:Int) la T F) (h:r∈gJ (n:Int) la T F):∃z,IC (h_ n la T F Te) (hX r).a (hX r).b=some z/\z<=(hX r).v:=by
 obtain ⟨a,b,v,rfl,h1,_,h3,_,h5⟩:=af.kX r h;have df:a.toNat≠b.toNat:=by lia
 obtain ⟨u,e1,e2⟩:=MU.DQ _ MU.empty _ (eB.mpr ⟨_,h,rfl⟩) (show (hX [a,b,v]).a≠(hX [a,b,v]).b from df);obtain ⟨u',e3,e4⟩:=(MU.sU (n:=n) (F:=dk F) (s:=lD n la T F) (d9 Te)).2 (true,a.toNat,b.toNat) u df e1;refine ⟨u',e3,?_⟩;unfold MU.dD at e2 e4;have e2:¬if true=true then v<u else u<v:=e2;have e4:¬if true=true then u<u' else u'<u:=e4;rw [if_pos rfl] at e2 e4;show u'<=v;lia
theorem Vo (af:cv (n:Int) la T F) (bw:(h_ n la T F Te).bar=none):HK.Zero (dk F) (IC (h_ n la T F Te)) n la:=by
 have n1:=af.n1;have good:MU.cj n (h_ n la T F Te):=MU.yL af.nO (HU af).good Te;have room:∀{y:Nat},y<n->y≠0->[0,(y:Int),la]∈gJ (n:Int) la T F/\[(y:Int),0,0]∈gJ (n:Int) la T F:=fun {y} h1 h2=>by
  obtain ⟨m1,m2⟩:=Av (la:=la) (i:=y-1) (k:=((n:Int)-1).toNat) (by omega);rw [show ((y-1:Nat):Int)+1=(y:Int) by lia] at m1 m2;exact ⟨iL _ (iL _ m1),iL _ (iL _ m2)⟩
 refine ⟨Qm fun r hr z=>?_,by lia,fun {a b v} h=>(MU.rC good bw h).2,fun {y} h1 h2=>?_,fun {y} h1 h2=>?_⟩
 ·obtain ⟨a,b,l,m,rfl,_,_,h3,_⟩:=af.f r hr;have z:some b=some ((0:Nat):Int):=z;cases z;exact absurd h3 (by exact Int.not_lt.mpr (Int.le_refl ↑0))
 ·obtain ⟨z,e1,e2⟩:=DL (Te:=Te) af (room h1 h2).2;exact ⟨z,e1,e2⟩
 ·obtain ⟨z,e1,e2⟩:=DL (Te:=Te) af (room h1 h2).1;exact ⟨z,e1,e2⟩
end
theorem Ib:∀{k:Nat} {r:List Int},r∈kK la k->∃i:Nat,i<k/\(r=[0,(i:Int)+1,la]\/r=[(i:Int)+1,0,0])
 | 0,_,h=>nomatch h
 | k+1,r,h=>by
  unfold kK at h;rcases i8.mp h with h | h
  ·obtain ⟨i,h1,h2⟩:=Ib h;exact ⟨i,by omega,h2⟩
  ·rcases eS.mp h with h | h
   ·exact ⟨k,by omega,.inl h⟩
   ·exact ⟨k,by omega,.inr (iK.mp h)⟩
theorem DG (h4:vK rows) (h:r∈jC rows):∃a b l m:Int,[a,b,l,m]∈rows/\(r=[a,b,m]\/r=[b,a,-l]):=by
 unfold jC at h;obtain ⟨x,hx,zj⟩:=List.mem_flatten.mp h;obtain ⟨y,hy,rfl⟩:=eB.mp hx;obtain ⟨a,b,l,m,rfl⟩:=h4 y hy;rcases eS.mp zj with h | h
 ·exact ⟨a,b,l,m,hy,.inl h⟩
 ·exact ⟨a,b,l,m,hy,.inr (iK.mp h)⟩
theorem HF (h:[a,b,l,m]∈rows):[a,b,m]∈jC rows/\[b,a,-l]∈jC rows:=by
 unfold jC;exact ⟨List.mem_flatten.mpr ⟨_,eB.mpr ⟨_,h,rfl⟩,eD⟩,List.mem_flatten.mpr ⟨_,eB.mpr ⟨_,h,rfl⟩,gz _ eD⟩⟩
structure sF (la ix:Int) (T T' F F':List (List Int)):Prop where
 la:la<=ix
 t:∀{a b l' m'},[a,b,l',m']∈T'->∃l m,[a,b,l,m]∈T/\l'<=l/\m<=m'
 f:∀{a b l' m'},[a,b,l',m']∈F'->∃l m,[a,b,l,m]∈F/\l<=l'/\m'<=m
 g:∀{a b l m},[a,b,l,m]∈F->∃l' m',[a,b,l',m']∈F'
section
variable {n:Nat} {la ix:Int} {T T' F F':List (List Int)} {Te:Nat}
theorem Vr (h:cv (n:Int) la T F) (S:HK.cZ (dk F) n tm) (h0:∀o,HK.gf (dk F) o->tm o 0=0/\∀i,i<n->0<=tm o i/\tm o i<=la)
 (hT:∀{a b l m:Int},[a,b,l,m]∈T->∀o,HK.gf (dk F) o->l<=tm o b.toNat-tm o a.toNat/\tm o b.toNat-tm o a.toNat<=m) (hr:r∈gJ (n:Int) la T F) (ho:HK.gf (dk F) o):tm o (hX r).b<=tm o (hX r).a+(hX r).v:=by
 obtain ⟨z0,zi⟩:=h0 o ho;unfold gJ at hr;rcases i8.mp hr with hr | hr
 ·rcases i8.mp hr with hr | hr
  ·obtain ⟨i,hi,rfl | rfl⟩:=Ib hr
   ·show tm o ((i:Int)+1).toNat<=tm o 0+la;have:=zi ((i:Int)+1).toNat (by omega);omega
   ·show tm o 0<=tm o ((i:Int)+1).toNat+0;have:=zi ((i:Int)+1).toNat (by omega);omega
  ·obtain ⟨a,b,l,m,hm,rfl | rfl⟩:=DG h.lu hr
   ·have:=hT hm o ho;show tm o b.toNat<=tm o a.toNat+m;omega
   ·have:=hT hm o ho;show tm o a.toNat<=tm o b.toNat+ -l;omega
 ·obtain ⟨a,b,l,m,hm,e⟩:=DG h.j7 hr;obtain ⟨a',b',l',m',e',x1,x2,x3,x4,_⟩:=h.f _ hm;cases e';have hb:((b.toNat:Nat):Int)=b:=lR (fV x3);have hf:=h.ie (e:=b.toNat) (by rw [hb];exact hm);have h1:=ho _ _ hf;have h2:=S.cF ho hf;dsimp only at h1 h2;rcases e with rfl | rfl
  ·show tm o b.toNat<=tm o a.toNat+m;omega
  ·show tm o a.toNat<=tm o b.toNat+ -l;omega
theorem We (h:cv (n:Int) la T F) (S:HK.cZ (dk F) n tm) (h0:∀o,HK.gf (dk F) o->tm o 0=0/\∀i,i<n->0<=tm o i/\tm o i<=la)
 (hT:∀{a b l m:Int},[a,b,l,m]∈T->∀o,HK.gf (dk F) o->l<=tm o b.toNat-tm o a.toNat/\tm o b.toNat-tm o a.toNat<=m) (t:Nat):(h_ n la T F t).bar=none:=by
 have ex:HK.gf (dk F) (fun e=>((dk F e).map fun f=>f.2.1).getD 0):=fun e f hf=>by
  dsimp only;rw [hf];exact ⟨Int.le_refl _,(h.nO.num e f hf).2.1⟩
 refine S.A_ h.nO (MU.Pt _ _ MU.Ws fun w hw=>?_) (MU.PV _ _ MU.Qa) ex t;obtain ⟨r,hr,rfl⟩:=eB.mp hw;obtain ⟨q1,q2,q3⟩:=vX h.kX _ hw;refine ⟨q1,q2,fun _ o ho=>Vr h S h0 hT hr ho,fun z=>absurd (q3.symm.trans z) (by decide)⟩
theorem Xb (h1:cv (n:Int) la T F) (h2:cv (n:Int) ix T' F') (L:sF la ix T T' F F') (hE:vU n (dk F) (lD n la T F) Te) (bw:(h_ n la T F Te).bar=none):∃tm,HK.cZ (dk F') n tm/\(∀o,HK.gf (dk F') o->tm o 0=0/\∀i,i<n->0<=tm o i/\tm o i<=ix)/\∀{a b l m:Int},[a,b,l,m]∈T'->∀o,HK.gf (dk F') o->l<=tm o b.toNat-tm o a.toNat/\tm o b.toNat-tm o a.toNat<=m:=by
 have Z:=Vo (Te:=Te) h1 bw;have C:=Zz h1 hE bw;have hl:0<=la:=by have:=h1.l1;omega
 have S:=HK.pY Z C hl h1.nO;obtain ⟨S',ok⟩:=S.less (F':=dk F') (fun e f' hf=>by
  obtain ⟨a,l,m,hm,rfl,_⟩:=h2.find hf;obtain ⟨l0,m0,vo,k1,k2⟩:=L.f hm;exact ⟨_,h1.ie vo,rfl,k1,k2⟩) (fun e f hf=>by
  obtain ⟨a,l,m,hm,rfl,_⟩:=h1.find hf;obtain ⟨l0,m0,vo⟩:=L.g hm;exact ⟨_,h2.ie vo⟩)
 refine ⟨_,S',fun o ho=>⟨HK.s_ Z C hl (ok o ho),fun i hi=>?_⟩,fun {a b l m} hm o ho=>?_⟩
 ·have:=HK.tm_at Z C hl (ok o ho) hi;have:=L.la;omega
 ·obtain ⟨l0,m0,vo,k1,k2⟩:=L.t hm;obtain ⟨s1,s2⟩:=HF vo;obtain ⟨z,e1,e2⟩:=DL (Te:=Te) h1 (iL _ (kE _ s1));obtain ⟨z',BY,nP⟩:=DL (Te:=Te) h1 (iL _ (kE _ s2));have k3:=HK.kO Z C hl (ok o ho) e1;have k4:=HK.kO Z C hl (ok o ho) BY;have e2:z<=m0:=e2;have nP:z'<=-l0:=nP;have k3:HK.gb _ _ _ n la o b.toNat<=HK.gb _ _ _ n la o a.toNat+z:=k3;have k4:HK.gb _ _ _ n la o a.toNat<=HK.gb _ _ _ n la o b.toNat+z':=k4;omega
theorem Xa (h1:cv (n:Int) la T F) (h2:cv (n:Int) ix T' F') (L:sF la ix T T' F F') (hE:vU n (dk F) (lD n la T F) Te) (bw:(h_ n la T F Te).bar=none) (t:Nat):(h_ n ix T' F' t).bar=none:=by
 obtain ⟨tm,S,h0,hT⟩:=Xb h1 h2 L hE bw;exact We h2 S h0 (fun hm=>hT hm) t
end
structure uJ (H:Hp) (wp ta fa:Addr) (n la:Int) (T F:List (List Int)):Prop where
 tup:H wp=some (.tup [.int n,.int la,.ref ta,.ref fa])
 t:eF H ta T
 f:eF H fa F
theorem uJ.same (h:uJ H wp ta fa n la T F) (k:aH H H'):uJ H' wp ta fa n la T F:=⟨k _ _ h.tup,h.t.same k,h.f.same k⟩
noncomputable def O9 (K:aA):Sp:=fun vs H Q _=>∃(d sa wp ta fa:Addr) (N:Nat) (la:Int) (T F:List (List Int)),vs=[.ref d,.ref wp]/\dC K sa H d/\uJ H wp ta fa (N:Int) la T F/\cv (N:Int) la T F/\la<=20/\ta≠d/\fa≠d/\
 ∀q IL LC ix T' F' H',uJ H' q IL LC (N:Int) ix T' F'->cv (N:Int) ix T' F'->sF la ix T T' F F'->cq d H H'->Q (.ref q) H'
section
variable {N:Nat} {la:Int} {T F:List (List Int)}
theorem Xc (h:la<=x):sF la x T T F F:=⟨h,fun h=>⟨_,_,h,Int.le_refl _,Int.le_refl _⟩,fun h=>⟨_,_,h,Int.le_refl _,Int.le_refl _⟩,fun h=>⟨_,_,h⟩⟩
theorem Nf {α:Type} {l:List α} {i:Nat} {x:α} (h:x∈l.take i++l.drop (i+1)):x∈l:=(i8.mp h).elim List.mem_of_mem_take List.mem_of_mem_drop
theorem M' {α:Type} {l:List α} {i:Nat} {x:α} (h:i<l.length):l.take i++[x]++l.drop (i+1)=l.set i x:=by
 rw [List.set_eq_take_append_cons_drop,if_pos h,List.append_assoc];rfl
theorem TV (h:cv (N:Int) la T F) {i:Nat}:cv (N:Int) la (T.take i++T.drop (i+1)) F/\sF la la T (T.take i++T.drop (i+1)) F F:=by
 refine ⟨⟨h.n1,h.n2,h.l1,h.l2,?_,h.fl,fun r hr=>h.t r (Nf hr),h.f,h.one,h.own⟩,Int.le_refl _,fun h=>⟨_,_,Nf h,Int.le_refl _,Int.le_refl _⟩,fun h=>⟨_,_,h,Int.le_refl _,Int.le_refl _⟩,fun h=>⟨_,_,h⟩⟩;have:=h.tl;rw [ik,ig,vE];omega
theorem Vv (h:cv (N:Int) la T F) (hi:T[i]?=some [a,b,l,m]) (h1: -60<=l') (h2:l'<=l) (h3:m<=m') (h4:m'<=60):cv (N:Int) la (T.set i [a,b,l',m']) F/\sF la la T (T.set i [a,b,l',m']) F F:=by
 have hm:=gn hi;refine ⟨⟨h.n1,h.n2,h.l1,h.l2,by rw [List.length_set];exact h.tl,h.fl,fun r hr=>?_,h.f,h.one,h.own⟩,Int.le_refl _,fun {a' b' x y} hr=>?_,fun h=>⟨_,_,h,Int.le_refl _,Int.le_refl _⟩,fun h=>⟨_,_,h⟩⟩
 ·rcases List.mem_or_eq_of_mem_set hr with hr | rfl
  ·exact h.t r hr
  ·obtain ⟨_,_,_,_,e,x1,x2,x3,x4,x5,x6,x7,x8⟩:=h.t _ hm;cases e;exact ⟨_,_,_,_,rfl,x1,x2,x3,x4,x5,h1,by omega,h4⟩
 ·rcases List.mem_or_eq_of_mem_set hr with hr | e
  ·exact ⟨_,_,hr,Int.le_refl _,Int.le_refl _⟩
  ·cases e;exact ⟨_,_,hm,h2,h3⟩
theorem Tz {α:Type} {l:List α} {i j:Nat} {x y:α} (h:(l.set i x)[j]?=some y):(i=j/\y=x/\i<l.length)\/(i≠j/\l[j]?=some y):=by
 rw [List.getElem?_set] at h
 by_cases e:i=j
 ·rw [if_pos e] at h
  by_cases c:i<l.length
  ·rw [if_pos c] at h;cases h;exact .inl ⟨e,rfl,c⟩
  ·rw [if_neg c] at h;cases h
 ·rw [if_neg e] at h;exact .inr ⟨e,h⟩
theorem Vj (h:cv (N:Int) la T F) {i:Nat} {a b l m l' m':Int} (hi:F[i]?=some [a,b,l,m]) (h1:l<=l') (h2:l'<=m') (h3:m'<=m):cv (N:Int) la T (F.set i [a,b,l',m'])/\sF la la T T F (F.set i [a,b,l',m']):=by
 have hm:=gn hi;obtain ⟨_,_,_,_,e,x1,x2,x3,x4,x5,x6,x7,x8⟩:=h.f _ hm;cases e;have back:∀{j:Nat} {r:List Int},(F.set i [a,b,l',m'])[j]?=some r->∃r0,F[j]?=some r0/\r0[0]?=r[0]?/\r0[1]?=r[1]?:=fun {j r} e=>by
  rcases Tz e with ⟨rfl,rfl,_⟩ | ⟨_,e⟩
  ·exact ⟨_,hi,rfl,rfl⟩
  ·exact ⟨_,e,rfl,rfl⟩
 refine ⟨⟨h.n1,h.n2,h.l1,h.l2,h.tl,by rw [List.length_set];exact h.fl,h.t,fun r hr=>?_,fun j k r r' e1 e2 e=>?_,fun r hr r' aI e=>?_⟩,Int.le_refl _,fun h=>⟨_,_,h,Int.le_refl _,Int.le_refl _⟩,fun {a' b' x y} hr=>?_,fun {a' b' x y} hr=>?_⟩
 ·rcases List.mem_or_eq_of_mem_set hr with hr | rfl
  ·exact h.f r hr
  ·exact ⟨_,_,_,_,rfl,x1,x2,x3,x4,x5,by omega,h2,by omega⟩
 ·obtain ⟨r0,b1,_,b2⟩:=back e1;obtain ⟨r1,c1,_,c2⟩:=back e2;exact h.one j k r0 r1 b1 c1 (by rw [b2,c2,e])
 ·obtain ⟨j,hj⟩:=oP.mp hr;obtain ⟨k,hk⟩:=oP.mp aI;obtain ⟨r0,b1,b2,_⟩:=back hj;obtain ⟨r1,c1,_,c2⟩:=back hk;exact h.own r0 (gn b1) r1 (gn c1) (by rw [b2,c2,e])
 ·rcases List.mem_or_eq_of_mem_set hr with hr | e
  ·exact ⟨_,_,hr,Int.le_refl _,Int.le_refl _⟩
  ·cases e;exact ⟨_,_,hm,h1,h3⟩
 ·obtain ⟨j,hj⟩:=oP.mp hr
  by_cases c:i=j
  ·subst c;rw [hi] at hj;cases hj;exact ⟨l',m',gn (i:=i) (by rw [List.getElem?_set_self (gQ.mp hi).1])⟩
  ·exact ⟨x,y,gn (i:=j) (by rw [List.getElem?_set_ne c];exact hj)⟩
end
noncomputable abbrev nLo:List Str:=["_law_d","_law_w","_law_way","_law_at","_law_one","_law_other","_law_least","_law_most","_law_wider","_law_end","_law_fall"]
theorem lC:cE nLo ["_law_d","_law_w"] (aX eZ):=cV
theorem o6 (F:Fn K mg "_law_looser" eZ ["_law_d","_law_w"] f fd) (FN:Fn K mg "_law_next" iU ["_law_dice","_law_many"] fN pA)
 (GN:aq P w K mg base a9 1 fN pA ["_law_dice","_law_many"] (Al K)) (hlen:mg "len"=none) (K2:mg "min"=none) (K4:mg "max"=none):aq P w K mg base a9 2 f fd ["_law_d","_law_w"] (O9 K):=by
 refine F.F.de lC fun _ A _ s H _ Q E hr h=>?_;obtain ⟨d,sa,wp,ta,fa,N,la,rT,rF,rfl,D,DA,af,qH,wF,zD,k⟩:=h;have hu:=hr.units;refine ⟨_,aZ (cA 2 lC.nd (b_ GN hr FN (bu (pv 0) aw)))
  (cx (dP (PW.pt (sL (dj gr (pv 2) aw) (sQ (dj (Hz (K:=K) rfl hu) (a8 (pv 1)) (jl n_)))))
   (aZ (cA 3 lC.nd (b_ GN hr FN (bu (pv 0) (ju HV (by rfl) hlen uu (bL (a8 (pv 1)))))))
   (aE (cB (dA (jw (a8 (pv 1)) (a8 (pv 1)) (bM uE (pR wk (a8 (pv 1)) pN (pO (pv 3))) (pR wk (a8 (pv 1)) (pO (bM g8 (pv 3) aw)) pN)) (a8 (pv 1))))))) dX)
  (cx (dP (PW.pt (sL (dj gr (pv 2) aw) (sQ (dj (Hz (K:=K) rfl hu) (a8 (pv 1)) (jl n_)))))
   (aZ (cA 3 lC.nd (b_ GN hr FN (bu (pv 0) (ju HV (by rfl) hlen uu (bL (a8 (pv 1)))))))
   (aZ (uG (dh dS (a8 (pv 1)) (pv 3)) (Hq (K:=K) (n:=4) rfl rfl (dU (bR 4 lC.nd) (dU (bR 5 lC.nd) (dU (bR 6 lC.nd) (dU (bR 7 lC.nd) rE))))))
   (aZ (cA 8 lC.nd (dA (jw (pv 4) (pv 5) (ju (HW rfl) (by rfl) K4 (by decide+kernel) (bu (sI sM aw) (bM iP (pv 6) (b_ GN hr FN (bu (pv 0) aw))))) (ju (yP rfl) (by rfl) K2 (by decide+kernel) (bu aw (bM g8 (pv 7) (b_ GN hr FN (bu (pv 0) aw))))))))
   (aE (cB (dA (jw (a8 (pv 1)) (a8 (pv 1)) (bM uE (bM uE (pR wk (a8 (pv 1)) pN (pO (pv 3))) (jl (bL (pv 8)))) (pR wk (a8 (pv 1)) (pO (bM g8 (pv 3) aw)) pN)) (a8 (pv 1))))))))) dX)
  (cx (dP (PW.pt (sL (dj gr (pv 2) aw) (sQ (dj (Hz (K:=K) rfl hu) (a8 (pv 1)) (jl n_)))))
   (aZ (cA 3 lC.nd (b_ GN hr FN (bu (pv 0) (ju HV (by rfl) hlen uu (bL (a8 (pv 1)))))))
   (aZ (uG (dh dS (a8 (pv 1)) (pv 3)) (Hq (K:=K) (n:=4) rfl rfl (dU (bR 4 lC.nd) (dU (bR 9 lC.nd) (dU (bR 6 lC.nd) (dU (bR 7 lC.nd) rE))))))
   (aZ (cA 6 lC.nd (bM g8 (pv 6) (b_ GN hr FN (bu (pv 0) (bM g8 (bM iP (pv 7) (pv 6)) aw)))))
   (aZ (cA 10 lC.nd (dA (jw (pv 4) (pv 9) (pv 6) (bM g8 (pv 6) (b_ GN hr FN (bu (pv 0) (bM g8 (bM iP (pv 7) (pv 6)) aw)))))))
   (aE (cB (dA (jw (a8 (pv 1)) (a8 (pv 1)) (a8 (pv 1)) (bM uE (bM uE (pR wk (a8 (pv 1)) pN (pO (pv 3))) (jl (bL (pv 10)))) (pR wk (a8 (pv 1)) (pO (bM g8 (pv 3) aw)) pN)))))))))) dX)
  (aE (cB (dA (jw (a8 (pv 1)) (bM g8 (a8 (pv 1)) (b_ GN hr FN (bu (pv 0) aw))) (a8 (pv 1)) (a8 (pv 1))))))))),?_⟩
 have dl:∀{H':Hp},dC K sa H' d->∃xs,H' d=some (.lst xs):=fun D'=>let ⟨p,e⟩:=D'.at_;⟨_,e⟩;have kd:∀{H H':Hp},dC K sa H d->uJ H wp ta fa (N:Int) la rT rF->cq d H H'->uJ H' wp ta fa (N:Int) la rT rF:=fun {H H'} D DA kk=>by
  obtain ⟨xs,hx⟩:=dl D;exact ⟨OE kk hx DA.tup,DA.t.keep kk hx wF,DA.f.keep kk hx zD⟩
 have JT:∀i:Nat,(i:Int)+1=((i+1:Nat):Int):=fun i=>by lia
 have xR:=af.tl;have hFl:=af.fl;have sz:∀{a:Nat},a<=1000->a<=sizeLine:=fun h=>eC h (by decide);refine ⟨_,rfl,d,sa,_,rfl,D,by decide,fun way H1 _ _ D1 k1=>?_⟩;have key:∀{qs:List Addr} {H':Hp} {l:Addr} {rows:List (List Int)} {i:Int},fw H' l qs rows->0<=i->i<((qs.map V.ref).length:Int)->∃(j:Nat) (q:Addr) (r:List Int),i=j/\j<rows.length/\iI (qs.map V.ref) (j:Int)=some (.ref q)/\rows[j]?=some r/\H' q=some (.tup (r.map V.int)):=fun {qs H' l rows i} R i0 i1=>by
  rw [aD] at i1;obtain ⟨j,rfl⟩:∃j:Nat,i=j:=⟨i.toNat,by lia⟩;have hj:j<qs.length:=by lia
  obtain ⟨q,hq⟩:∃q,qs[j]?=some q:=⟨_,kF hj⟩;obtain ⟨r,h1,h2⟩:=aW R.2 hq;exact ⟨j,q,r,rfl,by rw [<-R.len];exact hj,kg (by rw [fv,hq];rfl),h1,h2⟩
 have pos:∀{qs:List Addr},(!(qs.map V.ref).isEmpty)=true->1<=((qs.map V.ref).length:Int):=fun {qs} h=>by
  cases qs with
  | nil=>cases h
  | cons a t=>rw [aD,kD];lia
 refine fun N1 c1=>?_;have c2:∀H',dC K sa H' d->cq d H H'->N1 [some (.ref d),some (.ref wp),some (.int way),none,none,none,none,none,none,none,none] H':=by
  intro H1 D1 k1;refine c1 _ _ ?_;clear c1 N1;refine fun N1 c1=>?_;have c2:∀H',dC K sa H' d->cq d H H'->N1 [some (.ref d),some (.ref wp),some (.int way),none,none,none,none,none,none,none,none] H':=by
   intro H1 D1 k1;refine c1 _ _ ?_;clear c1 N1;refine fun N1 c1=>?_;have c2:∀H',dC K sa H' d->cq d H H'->N1 [some (.ref d),some (.ref wp),some (.int way),none,none,none,none,none,none,none,none] H':=by
    intro H1 D1 k1;refine c1 _ _ ?_;clear c1 N1;have pE:=kd D DA k1;refine ⟨_,rfl,ay pE.tup rfl ⟨_,rfl,ay pE.tup rfl ⟨_,rfl,d,sa,_,rfl,D1,by decide,fun r H2 r0 r1 D2 k2=>⟨_,_,rfl,rfl,?_⟩⟩⟩⟩;have kG:=kd D1 pE k2;refine ⟨_,rfl,ay kG.tup rfl ⟨_,rfl,ay kG.tup rfl ⟨dc rfl,fun t4 xt=>?_⟩⟩⟩;have s3:=aG (o:=.tup [.int (N:Int),.int (la+r),.ref ta,.ref fa]) xt;exact k t4 ta fa (la+r) rT rF _ ⟨ai,kG.t.same s3,kG.f.same s3⟩ ⟨af.n1,af.n2,by have:=af.l1;lia,by lia,af.tl,af.fl,af.t,af.f,af.one,af.own⟩ (Xc (by lia)) ((k1.trans k2).trans s3.keep)
   clear c1;have pE:=kd D DA k1;refine ⟨_,rfl,rfl,_,rfl,hV (fun _=>?_) (fun _=>iq (c2 _ D1 k1))⟩;refine ⟨_,rfl,ay pE.tup rfl ⟨d9 _,fun nl zo=>?_⟩⟩;have s1:=aG (o:=.lst []) zo;have D2:=D1.same s1;have k2:=k1.trans s1.keep;have kG:=pE.same s1;obtain ⟨qs,R2⟩:=id kG.f;refine ⟨fa,nl,_,rfl,rfl,ax.of R2.1,ax.of ai,_,rfl,hV (fun z=>?_) (fun _=>c2 _ D2 k2)⟩;clear c2;refine ⟨_,rfl,_,rfl,ay kG.tup rfl ⟨fa,_,rfl,R2.1,d,sa,_,rfl,D2,pos z,fun i H3 i0 i1 D3 k3=>?_⟩⟩;have so:=kd D2 kG k3;have R3:=R2.keep k3 (dl D2).choose_spec zD;obtain ⟨i,q,r,rfl,hi,iH,fH,hq⟩:=key R3 i0 i1;obtain ⟨a,b,l,m,rfl,x1,x2,x3,x4,x5,x6,x7,x8⟩:=af.f r (gn fH);refine ⟨_,rfl,ay so.tup rfl (oR rfl R3.1 iH ⟨q,_,rfl,c_.of hq,rfl,_,_,rfl,_,_,rfl,_,_,rfl,_,_,rfl,rfl,?_⟩)⟩;refine ⟨_,rfl,_,rfl,_,rfl,_,rfl,_,_,rfl,rfl,_,_,rfl,rfl,d,sa,_,rfl,D3,by lia,fun r1 H4 I_ r11 D4 k4=>⟨_,_,rfl,rfl,?_⟩⟩;refine ⟨_,rfl,_,rfl,_,rfl,_,rfl,_,rfl,_,rfl,_,rfl,_,_,rfl,rfl,_,_,rfl,rfl,d,sa,_,rfl,D4,by lia,fun r2 H5 r20 r21 D5 k5=>⟨_,_,rfl,rfl,dc rfl,fun wt Bn=>?_⟩⟩;show u7 10 (V.ref wt) _ (upd H5 wt (HO.tup [V.int a,V.int b,V.int (l+r1),V.int (l+r1+r2)])) _;have t_:=(k3.trans k4).trans k5;have Cq:=kd D2 kG t_;have R5:=R2.keep t_ (dl D2).choose_spec zD;have s6:=aG (o:=.tup [.int a,.int b,.int (l+r1),.int (l+r1+r2)]) Bn;have oQ:=Cq.same s6;have R6:=R5.same s6;have w6:upd H5 wt (.tup [.int a,.int b,.int (l+r1),.int (l+r1+r2)]) wt=some (.tup ([a,b,l+r1,l+r1+r2].map V.int)):=ai;have k6:=(k2.trans t_).trans s6.keep;generalize upd H5 wt (.tup [.int a,.int b,.int (l+r1),.int (l+r1+r2)])=H6 at*;obtain ⟨w1,w2⟩:=Vj af fH (l':=l+r1) (m':=l+r1+r2) (by lia) (by lia) (by lia);rw [<-M' hi] at w1 w2;clear s6 Bn D5 D4 R5 Cq t_ k5 k4;refine ⟨_,rfl,ay oQ.tup rfl ⟨_,rfl,ay oQ.tup rfl ⟨_,rfl,ay oQ.tup rfl ⟨_,rfl,ay oQ.tup rfl ⟨_,rfl,_,rfl,fa,_,rfl,ax.of R6.1,fun l1 lM=>?_⟩⟩⟩⟩⟩;rw [FZ];have s7:=aG (o:=.lst ((qs.take i).map V.ref)) lM;refine ⟨_,rfl,dc rfl,fun l5 Fb=>?_⟩;have s8:=aG (o:=.lst [.ref wt]) Fb;refine ⟨l1,l5,_,_,rfl,rfl,s8 _ _ ai,ai,sz (by rw [aD,ig];show _+1<=_;rw [R6.len];lia),fun l6 xI=>?_⟩;have s9:=aG (o:=.lst ((qs.take i).map V.ref++[.ref wt])) xI;have wJ:=(s7.trans s8).trans s9;refine ⟨_,rfl,ay (wJ _ _ oQ.tup) rfl ⟨_,rfl,_,_,rfl,rfl,_,rfl,fa,_,rfl,ax.of (wJ _ _ R6.1),fun l2 km=>?_⟩⟩;rw [JT,Hy];have oq:=aG (o:=.lst ((qs.drop (i+1)).map V.ref)) km;refine ⟨l6,l2,_,_,rfl,rfl,oq _ _ ai,ai,sz (by rw [ik,aD,aD,ig,vE,R6.len];show _+1+_<=_;lia),fun l3 oF=>?_⟩;rw [show (qs.take i).map V.ref++[V.ref wt]++(qs.drop (i+1)).map V.ref=(qs.take i++[wt]++qs.drop (i+1)).map V.ref by rw [d_,d_];rfl];have wL:=aG (o:=.lst ((qs.take i++[wt]++qs.drop (i+1)).map V.ref)) oF;have tq:=(wJ.trans oq).trans wL;refine ⟨dc rfl,fun t4 xt=>?_⟩;have om:=aG (o:=.tup [.int (N:Int),.int la,.ref ta,.ref l3]) xt;have sA:=tq.trans om;exact k t4 ta l3 la rT _ _ ⟨ai,oQ.t.same sA,⟨_,om _ _ ai,gM (pW (pW (zev i R6.2) (.cons w6 .nil)) (DP (i+1) R6.2)) fun q r e=>sA _ _ e⟩⟩ w1 w2 (k6.trans sA.keep)
  clear c1;have pE:=kd D DA k1;refine ⟨_,rfl,rfl,_,rfl,hV (fun _=>?_) (fun _=>iq (c2 _ D1 k1))⟩;refine ⟨_,rfl,ay pE.tup rfl ⟨d9 _,fun nl zo=>?_⟩⟩;have s1:=aG (o:=.lst []) zo;have D2:=D1.same s1;have k2:=k1.trans s1.keep;have kG:=pE.same s1;obtain ⟨qs,R2⟩:=id kG.t;refine ⟨ta,nl,_,rfl,rfl,ax.of R2.1,ax.of ai,_,rfl,hV (fun z=>?_) (fun _=>c2 _ D2 k2)⟩;clear c2;refine ⟨_,rfl,_,rfl,ay kG.tup rfl ⟨ta,_,rfl,R2.1,d,sa,_,rfl,D2,pos z,fun i H3 i0 i1 D3 k3=>?_⟩⟩;have so:=kd D2 kG k3;have R3:=R2.keep k3 (dl D2).choose_spec wF;obtain ⟨i,q,r,rfl,hi,iH,fH,hq⟩:=key R3 i0 i1;obtain ⟨a,b,l,m,rfl,x1,x2,x3,x4,x5,x6,x7,x8⟩:=af.t r (gn fH);refine ⟨_,rfl,ay so.tup rfl (oR rfl R3.1 iH ⟨q,_,rfl,c_.of hq,rfl,_,_,rfl,_,_,rfl,_,_,rfl,_,_,rfl,rfl,?_⟩)⟩;refine ⟨_,rfl,_,rfl,_,rfl,_,rfl,_,rfl,d,sa,_,rfl,D3,by decide,fun r1 H4 I_ r11 D4 k4=>⟨_,_,rfl,rfl,_,_,rfl,_,rfl,_,rfl,d,sa,_,rfl,D4,by decide,fun r2 H5 r20 r21 D5 k5=>⟨_,_,rfl,rfl,_,_,rfl,dc rfl,fun wt Bn=>?_⟩⟩⟩;obtain ⟨l',el,l1',JL⟩:∃l',(if l-r1> -60 then l-r1 else-60)=l'/\-60<=l'/\l'<=l:=⟨_,rfl,by split<;>lia,by split<;>lia⟩;obtain ⟨m',em,m1',m2'⟩:∃m',(if m+r2<60 then m+r2 else 60)=m'/\m<=m'/\m'<=60:=⟨_,rfl,by split<;>lia,by split<;>lia⟩;rw [el,em];clear el em;have t_:=(k3.trans k4).trans k5;have Cq:=kd D2 kG t_;have R5:=R2.keep t_ (dl D2).choose_spec wF;have s6:=aG (o:=.tup [.int a,.int b,.int l',.int m']) Bn;have oQ:=Cq.same s6;have R6:=R5.same s6;have w6:upd H5 wt (.tup [.int a,.int b,.int l',.int m']) wt=some (.tup ([a,b,l',m'].map V.int)):=ai;have k6:=(k2.trans t_).trans s6.keep;generalize upd H5 wt (.tup [.int a,.int b,.int l',.int m'])=H6 at*;clear s6 Bn D5 D4 R5 Cq t_ k5 k4;refine ⟨_,rfl,ay oQ.tup rfl ⟨_,rfl,ay oQ.tup rfl ⟨_,rfl,ay oQ.tup rfl ⟨_,rfl,_,rfl,ta,_,rfl,ax.of R6.1,fun l1 lM=>?_⟩⟩⟩⟩;rw [FZ];have s7:=aG (o:=.lst ((qs.take i).map V.ref)) lM;refine ⟨_,rfl,dc rfl,fun l5 Fb=>?_⟩;have s8:=aG (o:=.lst [.ref wt]) Fb;refine ⟨l1,l5,_,_,rfl,rfl,s8 _ _ ai,ai,sz (by rw [aD,ig];show _+1<=_;rw [R6.len];lia),fun l6 xI=>?_⟩;have s9:=aG (o:=.lst ((qs.take i).map V.ref++[.ref wt])) xI;have wJ:=(s7.trans s8).trans s9;refine ⟨_,rfl,ay (wJ _ _ oQ.tup) rfl ⟨_,rfl,_,_,rfl,rfl,_,rfl,ta,_,rfl,ax.of (wJ _ _ R6.1),fun l2 km=>?_⟩⟩;rw [JT,Hy];have oq:=aG (o:=.lst ((qs.drop (i+1)).map V.ref)) km;refine ⟨l6,l2,_,_,rfl,rfl,oq _ _ ai,ai,sz (by rw [ik,aD,aD,ig,vE,R6.len];show _+1+_<=_;lia),fun l3 oF=>?_⟩;rw [show (qs.take i).map V.ref++[V.ref wt]++(qs.drop (i+1)).map V.ref=(qs.take i++[wt]++qs.drop (i+1)).map V.ref by rw [d_,d_];rfl];have wL:=aG (o:=.lst ((qs.take i++[wt]++qs.drop (i+1)).map V.ref)) oF;have tq:=(wJ.trans oq).trans wL;refine ⟨_,rfl,ay (tq _ _ oQ.tup) rfl ⟨dc rfl,fun t4 xt=>?_⟩⟩;have om:=aG (o:=.tup [.int (N:Int),.int la,.ref l3,.ref fa]) xt;have sA:=tq.trans om;obtain ⟨w1,w2⟩:=Vv af fH l1' JL m1' m2';rw [<-M' hi] at w1 w2;exact k t4 l3 fa la _ rF _ ⟨ai,⟨_,om _ _ ai,gM (pW (pW (zev i R6.2) (.cons w6 .nil)) (DP (i+1) R6.2)) fun q r e=>sA _ _ e⟩,oQ.f.same sA⟩ w1 w2 (k6.trans sA.keep)
 clear c1;have pE:=kd D DA k1;refine ⟨_,rfl,rfl,_,rfl,hV (fun _=>?_) (fun _=>iq (c2 _ D1 k1))⟩;refine ⟨_,rfl,ay pE.tup rfl ⟨d9 _,fun nl zo=>?_⟩⟩;have s1:=aG (o:=.lst []) zo;have D2:=D1.same s1;have k2:=k1.trans s1.keep;have kG:=pE.same s1;obtain ⟨qs,R2⟩:=id kG.t;refine ⟨ta,nl,_,rfl,rfl,ax.of R2.1,ax.of ai,_,rfl,hV (fun z=>?_) (fun _=>c2 _ D2 k2)⟩;clear c2;refine ⟨_,rfl,_,rfl,ay kG.tup rfl ⟨ta,_,rfl,R2.1,d,sa,_,rfl,D2,pos z,fun i H3 i0 i1 D3 k3=>?_⟩⟩;have so:=kd D2 kG k3;have R3:=R2.keep k3 (dl D2).choose_spec wF;obtain ⟨i,q,r,rfl,hi,iH,fH,hq⟩:=key R3 i0 i1;refine ⟨_,rfl,ay so.tup rfl ⟨_,rfl,ay so.tup rfl ⟨_,rfl,ay so.tup rfl ⟨_,rfl,_,rfl,ta,_,rfl,ax.of R3.1,fun l1 lM=>?_⟩⟩⟩⟩;rw [FZ];have s4:=aG (o:=.lst ((qs.take i).map V.ref)) lM;refine ⟨_,rfl,ay (s4 _ _ so.tup) rfl ⟨_,rfl,_,_,rfl,rfl,_,rfl,ta,_,rfl,ax.of (s4 _ _ R3.1),fun l2 km=>?_⟩⟩;rw [JT,Hy];have s5:=aG (o:=.lst ((qs.drop (i+1)).map V.ref)) km;refine ⟨l1,l2,_,_,rfl,rfl,s5 _ _ ai,ai,sz (by rw [aD,aD,ig,vE,R3.len];lia),fun l3 oF=>?_⟩;rw [<-d_];have s6:=aG (o:=.lst ((qs.take i++qs.drop (i+1)).map V.ref)) oF;have Ra:=(s4.trans s5).trans s6;refine ⟨_,rfl,ay (Ra _ _ so.tup) rfl ⟨dc rfl,fun t4 xt=>?_⟩⟩;have s7:=aG (o:=.tup [.int (N:Int),.int la,.ref l3,.ref fa]) xt;have IU:=Ra.trans s7;obtain ⟨w1,w2⟩:=TV af (i:=i);exact k t4 l3 fa la _ rF _ ⟨ai,⟨_,s7 _ _ ai,gM (pW (zev i R3.2) (DP (i+1) R3.2)) fun q r e=>IU _ _ e⟩,so.f.same IU⟩ w1 w2 ((k2.trans k3).trans IU.keep)
end Y0
namespace L2
open PySem PySem.Spec PyProof.Rows
noncomputable def cT (n:Nat) (t:Nat->Int):List V:=(List.range n).map fun i=>V.int (t i)
theorem Df:(cT n t).length=n:=by unfold cT;rw [aD,List.length_range]
theorem Hl (h:i<n):(cT n t)[i]?=some (.int (t i)):=by
 unfold cT;rw [fv,List.getElem?_range h];rfl
theorem pL (h:i<n):iI (cT n t) (i:Int)=some (.int (t i)):=kg (Hl h)
theorem UB (h:i<n):pd n (i:Int)=some i:=by
 unfold pd;rw [if_pos (by omega),if_pos (by omega)];simp
theorem Ad (h:i<n):pd (cT n t).length (i:Int)=some i:=by rw [Df];exact UB h
theorem Am:(cT n t).set i (.int v)=cT n (MB.put t i v):=by
 apply List.ext_getElem?;intro j;rw [List.getElem?_set,Df]
 by_cases hj:j<n
 ·rw [Hl hj,Hl hj];unfold MB.put
  by_cases e:i=j
  ·subst e;simp [hj]
  ·rw [if_neg e,if_neg fun z=>e z.symm]
 ·have h1:∀t':Nat->Int,(cT n t')[j]?=none:=fun t'=>List.getElem?_eq_none_iff.mpr (by rw [Df];omega);rw [h1,h1];split
  ·split
   ·omega
   ·rfl
  ·rfl
theorem Dg:(List.replicate n [V.int v]).flatten=cT n (fun _=>v):=by
 induction n with
 | zero=>rfl
 | succ n ih=>
  rw [List.replicate_succ',List.flatten_append,ih];unfold cT;rw [List.range_succ,d_];rfl
theorem WD (h:∀i,i<n->t i=u i):cT n t=cT n u:=by
 unfold cT;refine List.map_congr_left fun i hi=>?_;rw [h i (List.mem_range.mp hi)]
theorem yM (s:aH H0 H) (h:H0 a=none):aH H0 (upd H a o):=fun b u e=>by
 rw [ao (aQ e h)];exact s b u e
end L2
namespace Y0
open PySem L2
noncomputable def pJ (ring:List Nat):List V:=ring.map fun (i:Nat)=>V.int (i:Int)
noncomputable def MF:Sp:=fun vs H Q _=>∃(a:Addr) (x N:Nat) (p:Nat->Nat),vs=[.ref a,.int (x:Int)]/\H a=some (.lst (cT N fun i=>(p i:Int)))/\1<=N/\N<=8/\(∀i,p i<N)/\x<N/\
 ∀ring l H',MB.CG p N x ring->H l=none->aH H H'->H' l=some (.lst (pJ ring))->Q (.ref l) H'
structure qZ (K:aA) (mg:Str->Option Value) (C Mo fI:Addr):Prop where
 range:mg "range"=none
 len:mg "len"=none
 list:mg "list"=none
 ex:rh K C Mo fI
 ba:QG K Mo
 mo:mg "MomentError"=some (.ref Mo)
 nR:PySem.W.findIn K (.ref C) "ring"=some none
 Bf:mg "NoTimes"=some (.ref C)
noncomputable def Mf (C:Addr):Sp:=fun vs H Q _=>∃x r xs,vs=[.ref x,.ref r]/\H x=some (jr x C none)/\H r=some (.lst xs)/\xs.length<=1000/\
 ∀d l H',H d=none->H l=none->H' x=some (jr x C (some d))->H' d=some (uz d [("ring",.ref l)])->H' l=some (.lst xs)->cq x H H'->Q .aS H'
theorem YB:cE ["self","ring"] ["self","ring"] (aX cK):=cV
theorem wZ (F:gI K "__init__" "NoTimes.__init__" cK fI fd) (T:qZ K mg C Mo fI):aq P w K mg base a9 1 fI fd ["self","ring"] (Mf C):=by
 refine F.de YB fun _ A _ s H _ Q E hr h=>?_;obtain ⟨x,r,xs,rfl,hx,aI,_,k⟩:=h;refine ⟨_,aZ (gK (UM T.ba rfl T.mo (bu (pv 0) (uP yU (by rfl) T.list (by decide+kernel) (bL (pv 1))))))
  (aE (US (pv 0) (uP yU (by rfl) T.list (by decide+kernel) (bL (pv 1))) rfl)),?_⟩
 refine ⟨_,rfl,_,rfl,r,_,rfl,.inl (ax.of aI),fun l1 lM=>?_⟩;have s1:=aG (o:=.lst xs) lM;refine ⟨x,_,C,Mo,fI,none,rfl,s1 _ _ hx,T.ex,dc rfl,?_⟩;refine ⟨_,rfl,r,_,rfl,.inl (ax.of (s1 _ _ aI)),fun l2 km=>?_⟩;have s2:=s1.trans (aG (o:=.lst xs) km);refine ⟨_,rfl,x,C,Mo,fI,rfl,s2 _ _ hx,T.ex,T.nR,fun d hd Fj=>?_⟩;have l2x:l2≠x:=aF (aQ hx (s1.free km));have l2d:l2≠d:=aQ (H:=upd (upd H l1 (.lst xs)) l2 (.lst xs)) ai hd;refine k d l2 _ (s2.free hd) (s1.free km) ?_ ai ?_ fun b o e ne=>?_
 ·rw [ao (aF Fj),ai]
 ·rw [ao l2d,ao l2x,ai]
 ·rw [ao (aQ (s2 _ _ e) hd),ao ne];exact s2 _ _ e
noncomputable abbrev nRb:List Str:=["pushers","moment","start","step","ring"]
theorem zR:cE nRb ["pushers","moment"] (aX c8):=cV
theorem Qe (r:List Nat) (x:Nat):pJ (r++[x])=pJ r++[V.int (x:Int)]:=by unfold pJ;rw [d_];rfl
theorem tN (F:Fn K mg "ring_behind" c8 ["pushers","moment"] f fd) (T:qZ K mg C Mo fI):aq P w K mg base a9 1 f fd ["pushers","moment"] MF:=by
 refine F.F.de zR fun _ A _ s H _ Q E hr h=>?_;obtain ⟨a,x,N,p,rfl,ha,N1,N8,hp,hx,k⟩:=h;refine ⟨_,aZ (cA 2 zR.nd (pv 1))
  (aZ (jt PassesOwn.never rfl (sW rfl T.range (bL (ju w9 (by rfl) T.len uu (bL (pv 0))))) (bR 3 zR.nd)
   (aE (cA 2 zR.nd (dh dS (pv 0) (pv 2)))))
  (aZ (cA 4 zR.nd (jl (bL (pv 2))))
  (aZ (O0 PassesOwn.never (dj CF (dh dS (pv 0) (dh dS (pv 4) (sI sM aw))) (pv 2))
   (aE (gK (rq sf qX se pQ (pv 4) (bL (dh dS (pv 0) (dh dS (pv 4) (sI sM aw))))))))
  (aE (cB (pv 4)))))),?_⟩
 have lt:∀j,MA.it p j x<N:=fun j=>MA.zW (fun y _=>hp y) hx j;have RB:∀j,MA.it p j (MA.it p N x)<N:=fun j=>MA.zW (fun y _=>hp y) (lt N) j;refine ⟨_,rfl,_,rfl,a,_,rfl,.inl (ax.of ha),(N:Int),(by rw [Df]),by omega,by omega,?_⟩;refine AA (n:=((N:Int)).toNat) (fun i aa H'=>∃v,aa=[some (.ref a),some (.int (x:Int)),some (.int (MA.it p i x:Int)),v,none]/\H'=H) ⟨none,rfl,rfl⟩ ?_ ?_
 ·rintro i aa H' _ ⟨v,rfl,rfl⟩;exact ⟨_,rfl,oR rfl ha (pL (lt i)) ⟨_,rfl,rfl⟩⟩
 ·rintro aa H' ⟨v,rfl,rfl⟩;rw [i7];obtain ⟨za,i6,je,Ks⟩:=MA.NG (fun y _=>hp y) hx (n:=N);refine ⟨_,rfl,dc rfl,fun l hl=>?_⟩;have s0:=aG (o:=.lst [V.int (MA.it p N x:Int)]) hl;refine ⟨fun m aa H1=>∃L,1<=L/\L+m=za/\(∀j,0<j->j<L->MA.it p j (MA.it p N x)≠MA.it p N x)/\aa=[some (.ref a),some (.int (x:Int)),some (.int (MA.it p N x:Int)),v,some (.ref l)]/\aH H' H1/\
   H1 l=some (.lst (pJ ((List.range L).map fun j=>MA.it p j (MA.it p N x)))),⟨za-1,1,az _,by omega,(fun j h1 h2=>by omega),rfl,s0,ai⟩,?_⟩
  rintro m aa H1 ⟨L,L1,Lm,df,rfl,s1,e1⟩;have el:(List.range L).map (fun j=>MA.it p j (MA.it p N x))=(List.range (L-1)).map (fun j=>MA.it p j (MA.it p N x))++[MA.it p (L-1) (MA.it p N x)]:=by
   have:L=(L-1)+1:=by omega
   rw [this,List.range_succ,d_];rfl
  have fJ:iI (pJ ((List.range L).map fun j=>MA.it p j (MA.it p N x))) (-1)=some (.int (MA.it p (L-1) (MA.it p N x):Int)):=by
   rw [el,Qe];exact V0 _ _
  have eL:p (MA.it p (L-1) (MA.it p N x))=MA.it p L (MA.it p N x):=by
   have:L=(L-1)+1:=by omega
   rw [this];rfl
  refine ⟨_,rfl,_,rfl,_,rfl,_,_,_,_,rfl,rfl,e1,fJ,_,_,_,_,rfl,rfl,(s1 _ _ ha),pL (RB _),_,rfl,rfl,_,rfl,?_⟩;refine hV (fun hc=>?_) (fun hc=>?_)
  ·have B1:MA.it p L (MA.it p N x)≠MA.it p N x:=fun z=>by
    rw [eL,z] at hc;simp at hc
   have Lq:L≠za:=fun z=>B1 (z▸Ks);refine ⟨fun aa H2=>∃m',m'<m/\∃L,1<=L/\L+m'=za/\(∀j,0<j->j<L->MA.it p j (MA.it p N x)≠MA.it p N x)/\aa=[some (.ref a),some (.int (x:Int)),some (.int (MA.it p N x:Int)),v,some (.ref l)]/\aH H' H2/\
    H2 l=some (.lst (pJ ((List.range L).map fun j=>MA.it p j (MA.it p N x)))),fun aa H' z=>z,?_⟩
   refine ⟨_,rfl,.inl ⟨rfl,_,ax.of e1⟩,_,rfl,_,rfl,_,rfl,_,_,_,_,rfl,rfl,e1,fJ,_,_,_,_,rfl,rfl,(s1 _ _ ha),pL (RB _),l,_,_,rfl,rfl,e1,?_,?_⟩
   ·unfold pJ;rw [aD,aD,List.length_range];exact gL (by omega)
   ·refine ⟨m-1,by omega,L+1,by omega,by omega,fun j h1 h2=>?_,rfl,yM s1 hl,?_⟩
    ·by_cases e:j=L
     ·rw [e];exact B1
     ·exact df j h1 (by omega)
    ·rw [ai,List.range_succ,d_,eL];exact congrArg (fun z=>some (HO.lst z)) (Qe _ _).symm
  ·have he:MA.it p L (MA.it p N x)=MA.it p N x:=by
    rw [eL] at hc;simp at hc;omega
   exact ⟨_,rfl,k _ l H1 ⟨L,L1,by omega,rfl,he,df⟩ hl s1 e1⟩
noncomputable def iC:List Int->MB.B3
 | [a,b,m]=>(a.toNat,b.toNat,m)
 | _=>(0,0,0)
noncomputable def Idx (N:Nat) (rows:List (List Int)):Prop:=∀r∈rows,∃(a b:Nat) (m:Int),r=[(a:Int),(b:Int),m]/\a<N/\b<N
theorem Idx.ER (h:Idx N rows):MB.Co N (rows.map iC):=fun x hx=>by
 obtain ⟨r,hr,rfl⟩:=eB.mp hx;obtain ⟨a,b,m,rfl,ha,hb⟩:=h r hr;show (a:Int).toNat<N/\(b:Int).toNat<N;omega
noncomputable def qV:Option Nat->V
 | none=>.aS
 | some x=>.int (x:Int)
theorem M5:(qV q=.aS)↔q=none:=by cases q<;>simp [qV]
noncomputable def Nu (CN:Addr):Sp:=fun vs H Q E=>∃(N:Nat) (a:Addr) (rows:List (List Int)),vs=[.int (N:Int),.ref a]/\1<=N/\N<=8/\eF H a rows/\Idx N rows/\
 (∀k l H',k<N->(MB.bb (rows.map iC) (k+1)).q=none->H l=none->aH H H'->H' l=some (.lst (cT N (MB.bb (rows.map iC) (k+1)).t))->Q (.ref l) H')/\
 ((∀k,k<N->(MB.bb (rows.map iC) (k+1)).q≠none)->∀x d l ring H',(MB.bb (rows.map iC) N).q=some x->MB.CG (MB.bb (rows.map iC) N).p N x ring->H d=none->H l=none->aH H H'->
   H' d=some (uz d [("ring",.ref l)])->H' l=some (.lst (pJ ring))->E (.ref CN) (some d) H')
noncomputable abbrev nEt:List Str:=["many","bounds","times","pushers","turn","pushed","a","b","most"]
theorem sD:cE nEt ["many","bounds"] (aX bE):=cV
theorem qo (F:Fn K mg "earliest_times" bE ["many","bounds"] f fd) (T:qZ K mg C Mo fI) (bI:eW K BU ["self","ring"] [])
 (GI:aq P w K mg base a9 1 fI BU ["self","ring"] (Mf C)) (FR:Fn K mg "ring_behind" c8 ["pushers","moment"] fR L7) (GR:aq P w K mg base a9 1 fR L7 ["pushers","moment"] MF):
 aq P w K mg base (lS P w) 3 f fd ["many","bounds"] (Nu C):=by
 refine F.F.AY sD fun _ A _ s H _ Q E hr h=>?_;obtain ⟨N,a,rows,rfl,N1,N8,⟨ps,R⟩,Fe,kq,ke⟩:=h;have fH:cU 1 _:=hr.mono (by decide);have hB:=Fe.ER;generalize Sy:rows.map iC=B at*;refine ⟨_,aZ (cA 2 sD.nd (bM CQ (jl (bL aw)) (pv 0)))
  (aZ (cA 3 sD.nd (bM CQ (jl (bL aw)) (pv 0)))
  (aZ (Tq (jt PassesOwn.never rfl (sW rfl T.range (bL (pv 0))) (bR 4 sD.nd)
   (aZ (cA 5 sD.nd mY)
   (aZ (jt PassesOwn.never rfl (jm (pv 1)) (uF rfl (dU (bR 6 sD.nd) (dU (bR 7 sD.nd) (dU (bR 8 sD.nd) rE))))
    (aE (dP (dj uB (dh dS (pv 2) (pv 6)) (bM iP (dh dS (pv 2) (pv 7)) (pv 8)))
     (aZ (uG (bM iP (dh dS (pv 2) (pv 7)) (pv 8)) (y8 (pv 2) (pv 6) yN))
     (aZ (uG (pv 7) (y8 (pv 3) (pv 6) yN))
     (aE (cA 5 sD.nd (pv 6))))) dX)))
   (aE (dP (dj GJ (pv 5) mY) (aE (cB (pv 2))) dX))))))
  (aE (VJ (VG T.ex GI hr rfl T.Bf bI gu (bL (b_ GR fH FR (bu (pv 3) (pv 5))))))))),?_⟩
 refine ⟨dc rfl,fun z1 Bl=>⟨_,rfl,z1,_,_,rfl,rfl,ai,by omega,by omega,?_,fun ta Bp=>?_⟩⟩
 ·show 1*((N:Int)).toNat<=sizeLine;exact bo (gL (by omega))
 rw [i7,Dg];have s1:=aG (o:=.lst [V.int 0]) Bl;have s2:=s1.trans (aG (o:=.lst (cT N fun _=>0)) Bp);have Bo:H ta=none:=s1.free Bp;have et:upd (upd H z1 (.lst [V.int 0])) ta (.lst (cT N fun _=>0)) ta=some (.lst (cT N fun _=>0)):=ai;generalize upd (upd H z1 (.lst [V.int 0])) ta (.lst (cT N fun _=>0))=H2 at*;refine ⟨dc rfl,fun z2 Bk=>⟨_,rfl,z2,_,_,rfl,rfl,ai,by omega,by omega,?_,fun pa EW=>?_⟩⟩
 ·show 1*((N:Int)).toNat<=sizeLine;exact bo (gL (by omega))
 rw [i7,Dg];have s3:=aG (o:=.lst [V.int 0]) Bk;have s4:=s3.trans (aG (o:=.lst (cT N fun _=>0)) EW);have Kt:H pa=none:=s2.free (s3.free EW);have ep:upd (upd H2 z2 (.lst [V.int 0])) pa (.lst (cT N fun _=>0)) pa=some (.lst (cT N fun _=>0)):=ai;have tp:ta≠pa:=aQ et (s3.free EW);have et4:=s4 _ _ et;have sH:=s2.trans s4;clear s1 s2 s3 s4 Bl Bk Bp EW;generalize upd (upd H2 z2 (.lst [V.int 0])) pa (.lst (cT N fun _=>0))=H4 at*;refine ⟨_,rfl,(N:Int),rfl,by omega,by omega,?_⟩;refine AA (n:=((N:Int)).toNat) (fun i aa H'=>∃v4 v5 v6 v7 v8,aa=[some (.int (N:Int)),some (.ref a),some (.ref ta),some (.ref pa),v4,v5,v6,v7,v8]/\H' ta=some (.lst (cT N (MB.bb B i).t))/\
  H' pa=some (.lst (cT N fun j=>((MB.bb B i).p j:Int)))/\aH H H'/\(∀j,j<i->(MB.bb B (j+1)).q≠none)/\(i=0\/v5=some (qV (MB.bb B i).q))) ⟨none,none,none,none,none,rfl,et4,ep,sH,(fun j hj=>absurd hj (sd _)),.inl rfl⟩ ?_ ?_
 ·rintro i aa H5 hi ⟨v4,v5,v6,v7,v8,rfl,t5,p5,s5,lj,_⟩;rw [i7] at hi;have R5:=R.same s5;refine ⟨_,rfl,a,rfl,⟨_,ax.of R5.1⟩,og (K:=K) (a:=a) (xs:=ps.map V.ref) (fun j aa H'=>∃w6 w7 w8,aa=[some (.int (N:Int)),some (.ref a),some (.ref ta),some (.ref pa),some (.int (0+(i:Int))),some (qV ((B.take j).foldl MB.fz (MB.begin (MB.bb B i))).q),w6,w7,w8]/\
   H' ta=some (.lst (cT N ((B.take j).foldl MB.fz (MB.begin (MB.bb B i))).t))/\H' pa=some (.lst (cT N fun x=>(((B.take j).foldl MB.fz (MB.begin (MB.bb B i))).p x:Int)))/\aH H H') ⟨v6,v7,v8,rfl,t5,p5,s5⟩ ?_ ?_ ?_⟩
  ·rintro j aa H6 _ ⟨w6,w7,w8,rfl,_,_,s6⟩;exact ax.of (s6 _ _ R.1)
  ·rintro j x aa H6 hx ⟨w6,w7,w8,rfl,t6,p6,s6⟩;obtain ⟨q,r,rfl,_,aI,iG⟩:=R.get hx;obtain ⟨a',b',m,e4,uo,dZ⟩:=Fe r (gn aI);subst e4;have hBj:B[j]?=some (a',b',m):=by
    rw [<-Sy,fv,aI];show some ((a':Int).toNat,(b':Int).toNat,m)=_;rw [i7,i7]
   have BW:(B.take (j+1)).foldl MB.fz (MB.begin (MB.bb B i))=MB.fz ((B.take j).foldl MB.fz (MB.begin (MB.bb B i))) (a',b',m):=by
    rw [l9,hBj,List.foldl_append];rfl
   generalize (B.take j).foldl MB.fz (MB.begin (MB.bb B i))=S at*;rw [BW];refine ⟨q,_,rfl,c_.of (s6 _ _ iG),rfl,_,_,rfl,_,_,rfl,_,_,rfl,rfl,?_⟩;refine ⟨_,rfl,oR rfl t6 (pL uo) ⟨_,rfl,oR rfl t6 (pL dZ) ⟨_,rfl,_,_,rfl,rfl,_,_,rfl,rfl,_,rfl,?_⟩⟩⟩;refine hV (fun hc=>?_) (fun hc=>?_)
   ·have jf:S.t a'<S.t b'-m:=by simpa using hc
    have er:MB.fz S (a',b',m)=⟨MB.put S.t a' (S.t b'-m),MB.put S.p a' b',some a'⟩:=by
     unfold MB.fz;exact if_pos jf
    rw [er];refine ⟨_,rfl,oR rfl t6 (pL dZ) ⟨_,rfl,_,_,rfl,rfl,_,rfl,_,rfl,ta,_,_,_,rfl,rfl,t6,Ad uo,?_⟩⟩;have p7:upd H6 ta (.lst ((cT N S.t).set a' (.int (S.t b'-m)))) pa=some (.lst (cT N fun x=>(S.p x:Int))):=by rw [ao (aF tp)];exact p6
    refine ⟨_,rfl,_,rfl,_,rfl,pa,_,_,_,rfl,rfl,p7,Ad uo,?_⟩;refine ⟨_,rfl,_,_,_,rfl,?_,?_,yM (yM s6 Bo) Kt⟩
    ·rw [ao tp,ai,Am]
    ·rw [ai,Am];refine congrArg (fun z=>some (HO.lst z)) (WD fun x _=>?_);show (if x=a' then (b':Int) else (S.p x:Int))=((if x=a' then b' else S.p x:Nat):Int);split<;>rfl
   ·have jf:¬S.t a'<S.t b'-m:=by simpa using hc
    have er:MB.fz S (a',b',m)=S:=by
     unfold MB.fz;exact if_neg jf
    rw [er];exact ⟨_,_,_,rfl,t6,p6,s6⟩
  ·rintro aa H6 ⟨w6,w7,w8,rfl,t6,p6,s6⟩;have hBl:B.take (ps.map V.ref).length=B:=by
    rw [aD,R.len,<-Sy,<-aD (f:=iC)];exact j8
   rw [hBl] at t6 p6 ⊢;have er:B.foldl MB.fz (MB.begin (MB.bb B i))=MB.bb B (i+1):=rfl;rw [er] at t6 p6 ⊢;refine ⟨_,rfl,rfl,_,rfl,?_⟩;refine hV (fun hc=>?_) (fun hc=>?_)
   ·have hq:(MB.bb B (i+1)).q=none:=M5.mp (by simpa using hc);exact ⟨_,rfl,kq i ta H6 hi hq Bo s6 t6⟩
   ·have hq:(MB.bb B (i+1)).q≠none:=fun z=>hc (by simpa using M5.mpr z);refine ⟨_,_,_,_,_,rfl,t6,p6,s6,fun j hj=>?_,.inr rfl⟩
    by_cases e:j=i
    ·rw [e];exact hq
    ·exact lj j (by omega)
 ·rintro aa H5 ⟨v4,v5,v6,v7,v8,rfl,t5,p5,s5,lj,hv⟩;rw [i7] at*;have hv:v5=some (qV (MB.bb B N).q):=hv.resolve_left (by omega);have hq:(MB.bb B N).q≠none:=by
   have:=lj (N-1) (by omega)
   rwa [show N-1+1=N by omega] at this
  cases hx:(MB.bb B N).q with
  | none=>exact absurd hx hq
  | some x=>
   rw [hx] at hv;subst hv;have gx:=MB.Dx (n:=N) (by omega) hB N;refine ⟨_,rfl,_,rfl,pa,x,N,_,rfl,p5,N1,N8,gx.p,gx.q x hx,fun ring l H6 nC _ s6 e6=>?_⟩;refine ⟨dc rfl,fun ea La=>?_⟩;have s7:=aG (o:=jr ea C none) La;refine ⟨ea,l,_,rfl,ai,s7 _ _ e6,?_,fun d l2 H7 hd km ex ed el kp=>⟨rfl,ea,C,Mo,fI,some d,rfl,ex,T.ex,s5.free (s6.free La),?_⟩⟩
   ·unfold pJ;obtain ⟨L,_,hL,e,_⟩:=nC;rw [e,aD,aD,List.length_range];omega
   have dea:d≠ea:=aF (aQ ai hd);have lea:l2≠ea:=aF (aQ ai km);have sA:=(s5.trans s6).trans s7;refine ke (fun k hk=>lj k hk) x d l2 ring _ hx nC (sA.free hd) (sA.free km) (fun b o e=>?_) ?_ ?_
   ·have SU:b≠ea:=aQ ((s5.trans s6) _ _ e) La;rw [sV SU];exact kp _ _ (sA _ _ e) SU
   ·rw [sV dea];exact ed
   ·rw [sV lea];exact el
end Y0
namespace L2
open PySem PySem.Spec PyProof.Rows
end L2
namespace Y0
open PySem L2
end Y0
namespace MB
theorem UX (h:s.q≠none):(fz s x).q≠none:=by
 unfold fz;split
 ·simp
 ·exact h
theorem My:∀{B:List B3} {s:Rx},s.q≠none->(B.foldl fz s).q≠none
 | [],_,h=>h
 | x::B,_,h=>My (B:=B) (UX h)
theorem Qc:∀{B:List B3} {s:Rx},s.q=none->(B.foldl fz s).q=none->B.foldl fz s=s/\∀x∈B,s.t x.2.1-s.t x.1<=x.2.2
 | [],_,_,_=>⟨rfl,fun x h=>nomatch h⟩
 | x::B,s,h0,h=>by
  rw [List.foldl_cons] at h ⊢
  by_cases hc:s.t x.1<s.t x.2.1-x.2.2
  ·exact absurd h (My (by unfold fz;rw [if_pos hc];simp))
  ·have e:fz s x=s:=by unfold fz;rw [if_neg hc]
   rw [e] at h ⊢;obtain ⟨h1,h2⟩:=Qc (B:=B) h0 h;refine ⟨h1,fun y hy=>?_⟩;rcases eS.mp hy with q | q
   ·subst q;omega
   ·exact h2 y q
theorem quiet (h:(bb B (k+1)).q=none):(bb B (k+1)).t=(bb B k).t/\∀x∈B,(bb B (k+1)).t x.2.1-(bb B (k+1)).t x.1<=x.2.2:=by
 obtain ⟨h1,h2⟩:=Qc (B:=B) (s:=begin (bb B k)) rfl h;have e:bb B (k+1)=begin (bb B k):=h1;rw [e];exact ⟨rfl,h2⟩
end MB
namespace Y0
open PySem L2
theorem O4:∀{k:Nat},k<N->Idx N (kK la k)
 | 0,_=>fun r hr=>nomatch hr
 | k+1,hk=>fun r hr=>by
  unfold kK at hr;rcases i8.mp hr with h | h
  ·exact O4 (k:=k) (by omega) r h
  ·have e:(k:Int)+1=((k+1:Nat):Int):=by omega
   rcases eS.mp h with h | h
   ·exact ⟨0,k+1,la,by rw [h,e];rfl,by omega,hk⟩
   ·rw [iK.mp h];exact ⟨k+1,0,0,by rw [e];rfl,hk,by omega⟩
theorem HG {N:Nat}:∀{rows:List (List Int)},(∀r∈rows,∃a b l m:Int,r=[a,b,l,m]/\0<=a/\a<N/\0<=b/\b<N)->Idx N (jC rows)
 | [],_=>fun r hr=>nomatch hr
 | r::t,h=>fun x hx=>by
  unfold jC at hx;rw [eR,List.flatten_cons] at hx;rcases i8.mp hx with z | z
  ·obtain ⟨a,b,l,m,rfl,h1,h2,h3,h4⟩:=h r eD;rcases eS.mp z with z | z
   ·exact ⟨a.toNat,b.toNat,m,by rw [z,lR h1,lR h3],by omega,by omega⟩
   ·rw [iK.mp z];exact ⟨b.toNat,a.toNat,-l,by rw [lR h1,lR h3],by omega,by omega⟩
  ·exact HG (rows:=t) (fun r hr=>h r (gz _ hr)) x z
theorem Idx.append (h1:Idx N a) (h2:Idx N b):Idx N (a++b):=fun r hr=>(i8.mp hr).elim (h1 r) (h2 r)
theorem cv.idx {N:Nat} {la:Int} {T F:List (List Int)} (h:cv (N:Int) la T F):Idx N (gJ (N:Int) la T F):=by
 unfold gJ;have:=h.n1;refine ((O4 (by omega)).append (HG fun r hr=>?_)).append (HG fun r hr=>?_)
 ·obtain ⟨a,b,l,m,e,h1,h2,h3,h4,_⟩:=h.t r hr;exact ⟨a,b,l,m,e,h1,h2,h3,h4⟩
 ·obtain ⟨a,b,l,m,e,h1,h2,h3,h4,_⟩:=h.f r hr;exact ⟨a,b,l,m,e,h1,h2,by omega,h4⟩
noncomputable def mL (N:Nat) (F:List (List Int)):List Int:=((List.range N).filter fun (i:Nat)=>decide (¬(i:Int)∈F.map su)).map fun (i:Nat)=>(i:Int)
noncomputable def Mg (C:Addr):Sp:=fun vs H Q _=>∃(p:Addr) (N:Nat) (la:Int) (T F:List (List Int)),vs=[.ref p]/\jD C H p (N:Int) la T F/\cv (N:Int) la T F/\∀l H',H l=none->aH H H'->H' l=some (.lst ((mL N F).map V.int))->Q (.ref l) H'
theorem Q8:cE ["self","ends"] ["self"] (aX cX):=cV
theorem Z2:iO (aX cX) ["self","ends"] (lP [(".0",.local),("fall",.local)]) ["fall"] [none]:=lQ
theorem Z3:iO (aX cX) ["self","ends"] (lP [(".0",.local),("moment",.local),("ends",.free)]) ["moment","ends"] [none,some 1]:=lQ
theorem Yv:(["moment","ends"]:List Str).Nodup:=by decide+kernel
theorem Wh:mL (j+1) F=mL j F++(if (j:Int)∈F.map su then [] else [(j:Int)]):=by
 unfold mL;rw [List.range_succ,List.filter_append,d_]
 by_cases e:(j:Int)∈F.map su
 ·rw [if_pos e,List.filter_cons_of_neg (by simpa using e)];rfl
 ·rw [if_neg e,List.filter_cons_of_pos (by simpa using e)];rfl
theorem Vn:(mL j F).length<=j:=by
 unfold mL;rw [aD];exact eC (List.length_filter_le _ _) (Nat.le_of_eq List.length_range)
theorem wY (F:gI K "own" "Web.own" cX f fd) (range:mg "range"=none) (TC:nV K mg C):aq P w K mg base a9 1 f fd ["self"] (Mg C):=by
 refine F.de Q8 fun _ A _ s H _ Q E hr h=>?_;obtain ⟨p,N,la,rT,rF,rfl,⟨dx,ta,fa,hp,_,⟨qs,R⟩⟩,af,k⟩:=h;have n8:=af.n2;refine ⟨_,aZ (pM (i:=1) Q8.nd rfl (Or.inr rfl) (oY rfl (jm (fC (pv 0) rfl)) Z2 (fun cl ex s0 H0=>⟨bR 0 Ru,pT,dh (Ve (K:=K) rfl) (pv 0) aw⟩)))
  (aE (cB (oY rfl (sW rfl range (bL (fC (pv 0) rfl))) Z3 (fun cl ex s0 H0=>⟨bR 0 Yv,Ao (Ap (WG (K:=K) rfl) (pv 0) (pv 1) (by with_unfolding_all rfl)),pv 0⟩)))),?_⟩
 refine ⟨_,rfl,p,C,dx,_,_,rfl,hp,TC.cl,TC.nF,NL _ _ _ _,fa,rfl,⟨_,ax.of R.1⟩,fun Da cI=>?_⟩;refine uO (xs:=qs.map V.ref) (fun j aa H'=>∃v,aa=[v]/\H' Da=some (.lst (((rF.take j).map su).map V.int))/\aH H H') ⟨none,rfl,ai,aG cI⟩ ?_ ?_ ?_
 ·rintro j aa H1 _ ⟨v,rfl,_,s1⟩;exact ax.of (s1 _ _ R.1)
 ·rintro j x aa H1 hx ⟨v,rfl,e1,s1⟩;obtain ⟨q,r,rfl,_,aI,iG⟩:=R.get hx;obtain ⟨a',b',l,m,rfl,_⟩:=af.f r (gn aI);refine ⟨_,rfl,_,_,_,_,rfl,rfl,c_.of (s1 _ _ iG),rfl,_,e1,?_,_,rfl,?_,fun b o e=>?_⟩
  ·rw [aD,aD,ig];have:=af.fl;exact gL (by lia)
  ·rw [ai,l9,aI,d_,d_];rfl
  ·rw [ao (aQ e cI)];exact s1 _ _ e
 ·rintro aa H1 ⟨v,rfl,e1,s1⟩;have hl:rF.take (qs.map V.ref).length=rF:=by
   rw [aD,R.len];exact j8
  rw [hl] at e1;refine ⟨_,rfl,p,C,dx,_,_,rfl,s1 _ _ hp,TC.cl,TC.nM,uI _ _ _ _,(N:Int),rfl,by exact Int.NonNeg.mk (N+Nat.succ 4611686018427387903),by lia,fun Db xU=>?_⟩;refine AD (n:=((N:Nat):Int).toNat) (fun j aa H'=>∃v,aa=[v,some (.ref Da)]/\H' Db=some (.lst ((mL j rF).map V.int))/\aH H1 H') ⟨none,rfl,ai,aG xU⟩ ?_ ?_
  ·rintro j aa H2 hj ⟨v,rfl,e2,s2⟩;rw [i7] at hj;have z0:(0:Int)+(j:Int)=(j:Int):=by lia
   rw [z0];refine ⟨_,rfl,_,rfl,Da,_,rfl,.inl (ax.of (s2 _ _ e1)),rfl,A9,_,rfl,?_⟩;show if (!ua (V.int (j:Int)) ((rF.map su).map V.int))=true then _ else _;rw [Ar,Wh];refine hV (fun hc=>?_) (fun hc=>?_)
   ·have jf:¬(j:Int)∈rF.map su:=by simpa using hc
    refine ⟨_,rfl,_,e2,?_,_,rfl,?_,fun b o e=>?_⟩
    ·rw [aD];exact gL (by have:=Vn (j:=j) (F:=rF);lia)
    ·rw [ai,if_neg jf,d_];rfl
    ·rw [ao (aQ e xU)];exact s2 _ _ e
   ·have jf:(j:Int)∈rF.map su:=by simpa using hc
    refine ⟨_,rfl,?_,s2⟩;rw [if_pos jf,List.append_nil];exact e2
  ·rintro aa H2 ⟨v,rfl,e2,s2⟩;rw [i7] at e2;exact k Db _ (s1.free xU) (s1.trans s2) e2
noncomputable def gy (F:List (List Int)):Nat->Int:=F.foldl (fun g r=>MB.put g (r.getD 1 0).toNat (r.getD 0 0)) (fun i=>(i:Int))
noncomputable def jI (F:List (List Int)):Nat->Int:=F.foldl (fun g r=>MB.put g (r.getD 1 0).toNat (r.getD 2 0)) (fun _=>0)
noncomputable def kh (F:List (List Int)):Nat->Int:=F.foldl (fun g r=>MB.put g (r.getD 1 0).toNat (r.getD 3 0)) (fun _=>0)
noncomputable def wx (F:List (List Int)):List Int->List Int
 | [a,b,m]=>[gy F a.toNat,gy F b.toNat,m+jI F a.toNat-kh F b.toNat]
 | r=>r
noncomputable def lI (n la:Int) (T F:List (List Int)):List (List Int):=(gJ n la T F).map (wx F)
theorem N' {α:Type} {Pr:α->Prop} {f:List Int->α}:∀{F:List (List Int)} {g:Nat->α} {N:Nat},(∀r∈F,Pr (f r))->(∀i,i<N->Pr (g i))->∀i,i<N->Pr (F.foldl (fun g r=>MB.put g (r.getD 1 0).toNat (f r)) g i)
 | [],_,_,_,h,i,hi=>h i hi
 | r::F,g,N,hF,h,i,hi=>by
  rw [List.foldl_cons];refine N' (fun x hx=>hF x (gz _ hx)) (fun j hj=>?_) i hi;unfold MB.put;split
  ·exact hF r eD
  ·exact h j hj
theorem Mr {N:Nat} {la:Int} {T F:List (List Int)} (h:cv (N:Int) la T F) {i:Nat} (hi:i<N):0<=gy F i/\gy F i<N:=by
 refine N' (Pr:=fun v:Int=>0<=v/\v<N) (f:=fun r=>r.getD 0 0) (fun r hr=>?_) (fun j hj=>?_) i hi
 ·obtain ⟨a,b,l,m,rfl,h1,h2,_⟩:=h.f r hr;exact ⟨h1,h2⟩
 ·exact ⟨by omega,by omega⟩
theorem P2 {N:Nat} {la:Int} {T F:List (List Int)} (h:cv (N:Int) la T F):Idx N (lI (N:Int) la T F):=fun r hr=>by
 obtain ⟨r0,h0,rfl⟩:=eB.mp hr;obtain ⟨a,b,m,rfl,ha,hb⟩:=h.idx r0 h0;have e1:=Mr h ha;have e2:=Mr h hb;refine ⟨(gy F a).toNat,(gy F b).toNat,m+jI F a-kh F b,?_,by omega,by omega⟩;show [gy F (a:Int).toNat,gy F (b:Int).toNat,m+jI F (a:Int).toNat-kh F (b:Int).toNat]=_;rw [i7,i7,lR e1.1,lR e2.1]
noncomputable def NA (C:Addr):Sp:=fun vs H Q _=>∃(p:Addr) (N:Nat) (la:Int) (T F:List (List Int)),vs=[.ref p]/\jD C H p (N:Int) la T F/\cv (N:Int) la T F/\∀l H',H l=none->aH H H'->eF H' l (lI (N:Int) la T F)->Q (.ref l) H'
noncomputable def Yp (N:Nat) (F:List (List Int)) (t:Nat->Int):List V:=(List.range N).map fun (i:Nat)=>if (i:Int)∈mL N F then V.int (t i) else V.aS
noncomputable def Nw (C CN:Addr):Sp:=fun vs H Q E=>∃(p:Addr) (N:Nat) (la:Int) (T F:List (List Int)),vs=[.ref p]/\jD C H p (N:Int) la T F/\cv (N:Int) la T F/\
 (∀k l H',k<N->(MB.bb ((lI (N:Int) la T F).map iC) (k+1)).q=none->H l=none->aH H H'->H' l=some (.lst (Yp N F (MB.bb ((lI (N:Int) la T F).map iC) (k+1)).t))->Q (.ref l) H')/\
 ((∀k,k<N->(MB.bb ((lI (N:Int) la T F).map iC) (k+1)).q≠none)->∀x d l ring H',(MB.bb ((lI (N:Int) la T F).map iC) N).q=some x->MB.CG (MB.bb ((lI (N:Int) la T F).map iC) N).p N x ring->H d=none->H l=none->aH H H'->
   H' d=some (uz d [("ring",.ref l)])->H' l=some (.lst (pJ ring))->E (.ref CN) (some d) H')
noncomputable abbrev Rw:List Str:=["web","begin","soon","late","one","other","least","most"]
theorem u5:cE Rw ["web"] (aX bq):=cV
noncomputable abbrev Qx:List Str:=["a","b","most","begin","late","soon"]
theorem Yl:iO (aX bq) Rw (lP [(".0",.local),("a",.local),("b",.local),("most",.local),("begin",.free),("late",.free),("soon",.free)]) Qx [none,none,none,some 1,some 3,some 2]:=lQ
theorem Io:Qx.Nodup:=by decide+kernel
theorem qg (F:Fn K mg "worst_bounds" bq ["web"] f fd) (range:mg "range"=none) (list:mg "list"=none) (TC:nV K mg C)
 (FB:Fn K mg "told_bounds" bG ["web"] fB rX) (GB:aq P w K mg base a9 3 fB rX ["web"] (Hc C))
 (mF:jh K C "falls" fM) (bF:eW K xY ["self"] []) (GF:aq P w K mg base a9 1 fM xY ["self"] (yy C fun _ F=>F)):aq P w K mg base a9 4 f fd ["web"] (NA C):=by
 refine F.F.de u5 fun _ A _ s H _ Q E hr h=>?_;obtain ⟨p,N,la,rT,rF,rfl,W0,af,k⟩:=h;have fH:cU 1 _:=hr.mono (by decide);have n1:=af.n1;have n8:=af.n2;have Fh:=af.fl;refine ⟨_,aZ (pM (i:=1) u5.nd rfl (Or.inr rfl) (XG rfl rfl list rfl range (bL (fC (pv 0) rfl))))
  (aZ (pM (i:=2) u5.nd rfl (Or.inr rfl) (bM CQ (jl (bL aw)) (fC (pv 0) rfl)))
  (aZ (pM (i:=3) u5.nd rfl (Or.inr rfl) (bM CQ (jl (bL aw)) (fC (pv 0) rfl)))
  (aZ (jt PassesOwn.never rfl (jm (yK (pv 0) TC.cl mF GF fH bF .nil gu))
   (uF rfl (dU (bR 4 u5.nd) (dU (bR 5 u5.nd) (dU (bR 6 u5.nd) (dU (bR 7 u5.nd) rE)))))
   (aZ (uG (pv 4) (y8 (pv 1) (pv 5) yN)) (aZ (uG (pv 6) (y8 (pv 2) (pv 5) yN)) (aE (uG (pv 7) (y8 (pv 3) (pv 5) yN))))))
  (aE (cB (oY rfl (jm (b_ GB hr FB (bL (pv 0)))) Yl (fun cl ex s0 H0=>⟨Hq (K:=K) (n:=3) rfl rfl (dU (bR 0 Io) (dU (bR 1 Io) (dU (bR 2 Io) rE))),pT,
   dA (iw (dh (As (K:=K) rfl) (pv 3) (pv 0)) (dh (As (K:=K) rfl) (pv 3) (pv 1)) (bM iP (bM g8 (pv 2) (dh (As (K:=K) rfl) (pv 5) (pv 0))) (dh (As (K:=K) rfl) (pv 4) (pv 1))))⟩))))))),?_⟩
 obtain ⟨dx,ta,fa,hp,_,_⟩:=id W0;refine ⟨_,rfl,p,C,dx,_,_,rfl,hp,TC.cl,TC.nM,uI _ _ _ _,N,rfl,by omega,fun bl Sj=>?_⟩;have s1:=aG (o:=.lst ((List.range N).map fun (i:Nat)=>V.int (i:Int))) Sj;have e1:upd H bl (.lst ((List.range N).map fun (i:Nat)=>V.int (i:Int))) bl=some (.lst (cT N fun i=>(i:Int))):=ai;generalize upd H bl (.lst ((List.range N).map fun (i:Nat)=>V.int (i:Int)))=H1 at*;refine ⟨dc rfl,fun z1 Bl=>?_⟩;have yW:=aG (o:=.lst [V.int 0]) Bl;refine ⟨_,rfl,p,C,dx,_,_,rfl,(s1.trans yW) _ _ hp,TC.cl,TC.nM,uI _ _ _ _,z1,_,_,rfl,rfl,ai,by omega,by omega,?_,fun sl Br=>?_⟩
 ·show 1*((N:Int)).toNat<=sizeLine;exact bo (gL (by omega))
 rw [i7,Dg];have s2:=(s1.trans yW).trans (aG (o:=.lst (cT N fun _=>0)) Br);have BY:=aG (o:=.lst (cT N fun _=>0)) Br _ _ (yW _ _ e1);have e2:upd (upd H1 z1 (.lst [V.int 0])) sl (.lst (cT N fun _=>0)) sl=some (.lst (cT N fun _=>0)):=ai;have bs:bl≠sl:=aQ (yW _ _ e1) Br;have Kh:H sl=none:=(s1.trans yW).free Br;generalize upd (upd H1 z1 (.lst [V.int 0])) sl (.lst (cT N fun _=>0))=H2 at*;refine ⟨dc rfl,fun z2 Bk=>?_⟩;have uY:=aG (o:=.lst [V.int 0]) Bk;refine ⟨_,rfl,p,C,dx,_,_,rfl,(s2.trans uY) _ _ hp,TC.cl,TC.nM,uI _ _ _ _,z2,_,_,rfl,rfl,ai,by omega,by omega,?_,fun tl ph=>?_⟩
 ·show 1*((N:Int)).toNat<=sizeLine;exact bo (gL (by omega))
 rw [i7,Dg];have s3:=(s2.trans uY).trans (aG (o:=.lst (cT N fun _=>0)) ph);have IV:=aG (o:=.lst (cT N fun _=>0)) ph;have b3:=IV _ _ (uY _ _ BY);have c3:=IV _ _ (uY _ _ e2);have e3:upd (upd H2 z2 (.lst [V.int 0])) tl (.lst (cT N fun _=>0)) tl=some (.lst (cT N fun _=>0)):=ai;have bt:bl≠tl:=aQ (uY _ _ BY) ph;have st:sl≠tl:=aQ (uY _ _ e2) ph;have jP:H tl=none:=(s2.trans uY).free ph;generalize upd (upd H2 z2 (.lst [V.int 0])) tl (.lst (cT N fun _=>0))=H3 at*;clear s1 e1 yW s2 BY e2 uY Bl Bk Br ph IV;obtain ⟨zF,ta3,fa3,lh,_,_⟩:=id (W0.same s3);refine ⟨_,rfl,p,zF,_,rfl,lh,zT _ _ _ _ (by decide+kernel) (by decide+kernel) (by decide+kernel) (by decide+kernel),p,_,la,rT,rF,rfl,W0.same s3,fun fl H4 xN s4 R4=>?_⟩;obtain ⟨qs,R4⟩:=R4;refine ⟨fl,rfl,⟨_,ax.of R4.1⟩,og (K:=K) (a:=fl) (xs:=qs.map V.ref) (fun i aa H'=>∃v4 v5 v6 v7,aa=[some (.ref p),some (.ref bl),some (.ref sl),some (.ref tl),v4,v5,v6,v7]/\H' bl=some (.lst (cT N (gy (rF.take i))))/\H' sl=some (.lst (cT N (jI (rF.take i))))/\H' tl=some (.lst (cT N (kh (rF.take i))))/\aH H H'/\fw H' fl qs rF)
  ⟨none,none,none,none,rfl,s4 _ _ b3,s4 _ _ c3,s4 _ _ e3,s3.trans s4,R4⟩ ?_ ?_ ?_⟩
 ·rintro i aa H5 _ ⟨v4,v5,v6,v7,rfl,_,_,_,_,R5⟩;exact ax.of R5.1
 ·rintro i x aa H5 hx ⟨v4,v5,v6,v7,rfl,f1,f2,f3,s5,R5⟩;obtain ⟨q,r,rfl,_,aI,iG⟩:=R5.get hx;obtain ⟨a',b',le,mo,e4,_,_,h3,h4,_⟩:=af.f r (gn aI);subst e4;obtain ⟨B,rfl⟩:∃B:Nat,b'=B:=⟨b'.toNat,by omega⟩;have hB:B<N:=by omega
  have flb:fl≠bl:=aF (aQ b3 xN);have fls:fl≠sl:=aF (aQ c3 xN);have xX:fl≠tl:=aF (aQ e3 xN);refine ⟨q,_,rfl,c_.of iG,rfl,_,_,rfl,_,_,rfl,_,_,rfl,_,_,rfl,rfl,?_⟩;refine ⟨_,rfl,_,rfl,_,rfl,bl,_,_,_,rfl,rfl,f1,Ad hB,?_⟩;rw [Am];have g2:upd H5 bl (.lst (cT N (MB.put (gy (rF.take i)) B a'))) sl=some (.lst (cT N (jI (rF.take i)))):=by rw [ao (aF bs)];exact f2
  refine ⟨_,rfl,_,rfl,_,rfl,sl,_,_,_,rfl,rfl,g2,Ad hB,?_⟩;rw [Am];have g3:upd (upd H5 bl (.lst (cT N (MB.put (gy (rF.take i)) B a')))) sl (.lst (cT N (MB.put (jI (rF.take i)) B le))) tl=some (.lst (cT N (kh (rF.take i)))):=by rw [ao (aF st),ao (aF bt)];exact f3
  refine ⟨_,rfl,_,rfl,_,rfl,tl,_,_,_,rfl,rfl,g3,Ad hB,?_⟩;rw [Am];have tk:rF.take (i+1)=rF.take i++[[a',(B:Int),le,mo]]:=by rw [l9,aI];rfl
  have u1:gy (rF.take (i+1))=MB.put (gy (rF.take i)) B a':=by
   unfold gy;rw [tk,List.foldl_append];rfl
  have u2:jI (rF.take (i+1))=MB.put (jI (rF.take i)) B le:=by
   unfold jI;rw [tk,List.foldl_append];rfl
  have u3:kh (rF.take (i+1))=MB.put (kh (rF.take i)) B mo:=by
   unfold kh;rw [tk,List.foldl_append];rfl
  rw [u1,u2,u3];have IF:∀{y:Addr} {xs ys:List V},H5 y=some (.tup xs)->y≠bl/\y≠sl/\y≠tl:=fun {y xs ys} e=>⟨cQ e f1 nofun,cQ e f2 nofun,cQ e f3 nofun⟩;refine ⟨_,_,_,_,rfl,?_,?_,ai,?_,?_,?_⟩
  ·rw [ao bt,ao bs,ai]
  ·rw [ao st,ai]
  ·have Li:H bl=none:=Sj;exact yM (yM (yM s5 Li) Kh) jP
  ·rw [ao xX,ao fls,ao flb];exact R5.1
  ·refine gM R5.2 fun y r e=>?_;obtain ⟨y1,y2,y3⟩:=IF (ys:=[]) e;rw [ao y3,ao y2,ao y1];exact e
 ·rintro aa H5 ⟨v4,v5,v6,v7,rfl,f1,f2,f3,s5,R5⟩;have hle:rF.take (qs.map V.ref).length=rF:=by
   rw [aD,R5.len];exact j8
  rw [hle] at f1 f2 f3;refine ⟨_,rfl,p,_,la,rT,rF,rfl,W0.same s5,af,fun al H6 _ s6 R6=>⟨al,rfl,?_,fun Da cI=>?_⟩⟩
  ·obtain ⟨ps,R6⟩:=R6;exact ⟨_,ax.of R6.1⟩
  obtain ⟨SW,R6⟩:=R6;have hlen:(gJ (N:Int) la rT rF).length<=100:=by
   unfold gJ;rw [ik,ik,yR,uQ af.lu,uQ af.j7];have:=af.tl;omega
  have Fe:=af.idx;have QZ:=s5.trans s6;unfold lI at k;generalize gJ (N:Int) la rT rF=rows at*;refine uO (xs:=SW.map V.ref) (fun j aa H'=>∃v0 v1 v2 ps,aa=[v0,v1,v2,some (.ref bl),some (.ref tl),some (.ref sl)]/\fw H' Da ps ((rows.take j).map (wx rF))/\aH H6 H') ⟨none,none,none,[],rfl,⟨ai,.nil⟩,aG cI⟩ ?_ ?_ ?_
  ·rintro j aa H7 _ ⟨v0,v1,v2,ps,rfl,_,s7⟩;exact ax.of (s7 _ _ R6.1)
  ·rintro j x aa H7 hx ⟨v0,v1,v2,ps,rfl,R7,s7⟩;obtain ⟨q,r,rfl,_,aI,iG⟩:=R6.get hx;obtain ⟨a',b',m,e4,uo,dZ⟩:=Fe r (gn aI);subst e4;have hj:j<rows.length:=(gQ.mp aI).1;have S9:=s7 _ _ (s6 _ _ f1);have f2':=s7 _ _ (s6 _ _ f2);have f3':=s7 _ _ (s6 _ _ f3);refine ⟨q,_,rfl,c_.of (s7 _ _ iG),rfl,_,_,rfl,_,_,rfl,_,_,rfl,rfl,?_⟩;refine ⟨_,rfl,_,rfl,_,_,_,_,rfl,rfl,ax.of S9,pL uo,_,rfl,_,rfl,_,_,_,_,rfl,rfl,ax.of S9,pL dZ,?_⟩;refine ⟨_,rfl,_,rfl,_,rfl,_,_,_,_,rfl,rfl,ax.of f2',pL uo,_,_,rfl,rfl,_,rfl,_,rfl,_,_,_,_,rfl,rfl,ax.of f3',pL dZ,_,_,rfl,rfl,dc rfl,fun tp RN=>?_⟩;have R8:=R7.same (aG (o:=.tup [.int (gy rF a'),.int (gy rF b'),.int (m+jI rF a'-kh rF b')]) RN);refine ⟨_,R8.1,?_,_,_,_,ps++[tp],rfl,?_,fun b o e=>?_⟩
   ·rw [aD,R8.len,aD,ig];exact gL (by omega)
   ·have et:(rows.take (j+1)).map (wx rF)=(rows.take j).map (wx rF)++[[gy rF a',gy rF b',m+jI rF a'-kh rF b']]:=by
     rw [l9,aI,d_];rfl
    rw [et];exact R8.push ai
   ·rw [ao (aQ e cI),ao (aQ (s7 _ _ e) RN)];exact s7 _ _ e
  ·rintro aa H7 ⟨v0,v1,v2,ps,rfl,R7,s7⟩;have hl:rows.take (SW.map V.ref).length=rows:=by
    rw [aD,R6.len];exact j8
   rw [hl] at R7;exact k Da _ (QZ.free cI) (QZ.trans s7) ⟨ps,R7⟩
theorem Ip:cE ["web","times","own"] ["web"] (aX eG):=cV
theorem Yf:iO (aX eG) ["web","times","own"] (lP [(".0",.local),("moment",.local),("own",.free),("times",.free)]) ["moment","own","times"] [none,some 2,some 1]:=lQ
theorem YU:(["moment","own","times"]:List Str).Nodup:=by decide+kernel
theorem ql (F:Fn K mg "fixed" eG ["web"] f fd) (range:mg "range"=none) (TC:nV K mg C)
 (FE:Fn K mg "earliest_times" bE ["many","bounds"] fE L9) (GE:aq P w K mg base (lS P w) 3 fE L9 ["many","bounds"] (Nu CN))
 (FW:Fn K mg "worst_bounds" bq ["web"] fW vC) (GW:aq P w K mg base a9 4 fW vC ["web"] (NA C))
 (mO:jh K C "own" fO) (bO:eW K fdO ["self"] []) (GO:aq P w K mg base a9 1 fO fdO ["self"] (Mg C)):aq P w K mg base (lS P w) 5 f fd ["web"] (Nw C CN):=by
 refine F.F.AY Ip fun _ A _ s H _ Q E hr h=>?_;obtain ⟨p,N,la,rT,rF,rfl,W0,af,kq,ke⟩:=h;have fH:cU 1 _:=hr.mono (by decide);have Bu:cU 3 _:=hr.mono (by decide);have n1:=af.n1;have n8:=af.n2;refine ⟨_,aZ (pM (i:=1) Ip.nd rfl (Or.inr rfl) (Hn GE Bu rfl FE.g FE.F.kp FE.b .nil (Zo (E:=E) fun _ _ _ z=>z) (bu (fC (pv 0) rfl) (b_ GW hr FW (bL (pv 0))))))
  (aZ (pM (i:=2) Ip.nd rfl (Or.inr rfl) (yK (pv 0) TC.cl mO GO fH bO .nil gu))
  (aE (cB (oY rfl (sW rfl range (bL (fC (pv 0) rfl))) Yf (fun cl ex s0 H0=>⟨bR 0 YU,pT,OO (Ap (TH (K:=K) rfl) (pv 0) (pv 1) (by with_unfolding_all rfl)) (dh (As (K:=K) rfl) (pv 2) (pv 0)) mY⟩))))),?_⟩
 obtain ⟨dx,ta,fa,hp,_,_⟩:=id W0;refine ⟨_,rfl,p,C,dx,_,_,rfl,hp,TC.cl,TC.nM,uI _ _ _ _,_,rfl,p,_,la,rT,rF,rfl,W0,af,fun wl H1 _ s1 R1=>?_⟩;refine ⟨N,wl,_,rfl,by omega,by omega,R1,P2 af,fun kk tl H2 hk hq _ s2 e2=>?_,fun lj x d l ring H2 hx nC hd hl s2 ed el=>ke lj x d l ring H2 hx nC (s1.free hd) (s1.free hl) (s1.trans s2) ed el⟩;have om:=s1.trans s2;obtain ⟨LK,ta2,fa2,je,_,_⟩:=id (W0.same om);refine ⟨_,rfl,p,LK,_,rfl,je,zT _ _ _ _ (by decide+kernel) (by decide+kernel) (by decide+kernel) (by decide+kernel),p,_,la,rT,rF,rfl,W0.same om,af,fun ol H3 _ s3 e3=>?_⟩;have wK:=om.trans s3;refine ⟨_,rfl,p,C,dx,_,_,rfl,wK _ _ hp,TC.cl,TC.nM,uI _ _ _ _,(N:Int),rfl,by omega,by omega,fun Da cI=>?_⟩;refine AD (n:=((N:Nat):Int).toNat) (fun j aa H'=>∃v,aa=[v,some (.ref ol),some (.ref tl)]/\H' Da=some (.lst ((List.range j).map fun (i:Nat)=>if (i:Int)∈mL N rF then V.int ((MB.bb ((lI (N:Int) la rT rF).map iC) (kk+1)).t i) else V.aS))/\aH H3 H') ⟨none,rfl,ai,aG cI⟩ ?_ ?_
 ·rintro j aa H4 hj ⟨v,rfl,e4,s4⟩;rw [i7] at hj;have z0:(0:Int)+(j:Int)=(j:Int):=by omega
  rw [z0];refine ⟨_,rfl,_,rfl,ol,_,rfl,.inl (ax.of (s4 _ _ e3)),rfl,A9,_,rfl,?_⟩;show if ua (V.int (j:Int)) ((mL N rF).map V.int)=true then _ else _;rw [Ar];have fin:∀{y:V},y=(if (j:Int)∈mL N rF then V.int ((MB.bb ((lI (N:Int) la rT rF).map iC) (kk+1)).t j) else V.aS)->∃ys,H4 Da=some (.lst ys)/\ys.length<sizeLine/\∃v,List.set [v,some (V.ref ol),some (V.ref tl)] 0 (some (V.int (j:Int)))=[v,some (V.ref ol),some (V.ref tl)]/\
   upd H4 Da (.lst (ys++[y])) Da=some (.lst ((List.range (j+1)).map fun (i:Nat)=>if (i:Int)∈mL N rF then V.int ((MB.bb ((lI (N:Int) la rT rF).map iC) (kk+1)).t i) else V.aS))/\aH H3 (upd H4 Da (.lst (ys++[y]))):=fun {y} e=>by
   refine ⟨_,e4,?_,_,rfl,?_,fun b o q=>?_⟩
   ·rw [aD,List.length_range];exact gL (by omega)
   ·rw [ai,List.range_succ,d_,e];rfl
   ·rw [ao (aQ q cI)];exact s4 _ _ q
  refine hV (fun hc=>?_) (fun hc=>?_)
  ·have jf:(j:Int)∈mL N rF:=by simpa using hc
   refine ⟨_,rfl,_,rfl,_,_,_,_,rfl,rfl,ax.of (s4 _ _ (s3 _ _ e2)),pL hj,?_⟩;obtain ⟨ys,g1,g2,w,_,g4,g5⟩:=fin (y:=V.int _) (by rw [if_pos jf]);exact ⟨ys,g1,g2,_,rfl,g4,g5⟩
  ·have jf:¬(j:Int)∈mL N rF:=by simpa using hc
   obtain ⟨ys,g1,g2,w,_,g4,g5⟩:=fin (y:=V.aS) (by rw [if_neg jf]);exact ⟨ys,g1,g2,_,rfl,g4,g5⟩
 ·rintro aa H4 ⟨v,rfl,e4,s4⟩;rw [i7] at e4;exact kq kk Da _ hk hq (wK.free cI) (wK.trans s4) e4
end Y0
namespace MB
open MA
open Classical in
section
variable {n:Nat} {la lb:Int} {B W:List B3} {O:Nat->Prop} {t:Nat->Int}
end
end MB
namespace Y0
open PySem L2
seal L2.PE L2.PA L2.PT L2.PS L2.gp L2.PG L2.nU L2.PI L2.PO
theorem wg {α:Type} {f:List Int->α} {i:Nat} {v:α}:∀{F:List (List Int)} {g:Nat->α},(∀r∈F,(r.getD 1 0).toNat=i->f r=v)->((∃r∈F,(r.getD 1 0).toNat=i)\/g i=v)->F.foldl (fun g r=>MB.put g (r.getD 1 0).toNat (f r)) g i=v
 | [],g,_,h=>by
  rcases h with ⟨r,hr,_⟩ | h
  ·cases hr
  ·exact h
 | x::F,g,hF,h=>by
  rw [List.foldl_cons];refine wg (fun r hr=>hF r (gz _ hr)) ?_
  by_cases e:(x.getD 1 0).toNat=i
  ·refine .inr ?_;unfold MB.put;rw [if_pos e.symm];exact hF x eD e
  ·rcases h with ⟨r,hr,hi⟩ | h
   ·rcases eS.mp hr with q | q
    ·subst q;exact absurd hi e
    ·exact .inl ⟨r,q,hi⟩
   ·refine .inr ?_;unfold MB.put;rw [if_neg fun z=>e z.symm];exact h
theorem cv.only (h:cv n la T F) (hr:[a,b,l,m]∈F) (aI:r∈F) (e:(r.getD 1 0).toNat=b.toNat):r=[a,b,l,m]:=by
 obtain ⟨i,hi⟩:=oP.mp hr;obtain ⟨j,hj⟩:=oP.mp aI;obtain ⟨a',b',l',m',e',_,_,dZ,_⟩:=h.f r aI;obtain ⟨_,_,_,_,LI,_,_,hb,_⟩:=h.f _ hr;cases LI;subst e';have z9:b'=b:=by
  have e:b'.toNat=b.toNat:=e;omega
 subst z9;have:=h.one i j _ _ hi hj rfl;subst this;rw [hi] at hj;exact (eT hj).symm
theorem cv.cF {n la:Int} {T F:List (List Int)} (h:cv n la T F) {a b l m:Int} (hr:[a,b,l,m]∈F):gy F b.toNat=a/\jI F b.toNat=l/\kh F b.toNat=m:=by
 refine ⟨wg (f:=fun r=>r.getD 0 0) (fun r aI e=>?_) (.inl ⟨_,hr,rfl⟩),wg (f:=fun r=>r.getD 2 0) (fun r aI e=>?_) (.inl ⟨_,hr,rfl⟩),wg (f:=fun r=>r.getD 3 0) (fun r aI e=>?_) (.inl ⟨_,hr,rfl⟩)⟩
 all_goals
  rw [h.only hr aI e];rfl
noncomputable def uw (F:List (List Int)) (i:Nat):Prop:=∀r∈F,(r.getD 1 0).toNat≠i
theorem uw.is {F:List (List Int)} {i:Nat} (h:uw F i):gy F i=i/\jI F i=0/\kh F i=0:=
 ⟨wg (f:=fun r=>r.getD 0 0) (fun r hr e=>absurd e (h r hr)) (.inr rfl),wg (f:=fun r=>r.getD 2 0) (fun r hr e=>absurd e (h r hr)) (.inr rfl),wg (f:=fun r=>r.getD 3 0) (fun r hr e=>absurd e (h r hr)) (.inr rfl)⟩
theorem uw.or (i:Nat):uw F i\/∃r∈F,(r.getD 1 0).toNat=i:=by
 by_cases h:uw F i
 ·exact .inl h
 ·refine .inr (fg fun no=>h fun r hr e=>no ⟨r,hr,e⟩)
section
variable {N:Nat} {la:Int} {T F:List (List Int)}
theorem cv.Ce (h:cv (N:Int) la T F) (hr:[a,b,l,m]∈F):uw F a.toNat:=fun r' aI e=>by
 obtain ⟨a',b',l',m',e',_,_,dZ,_⟩:=h.f r' aI;obtain ⟨_,_,_,_,LI,ha,_⟩:=h.f _ hr;cases LI;subst e';have e:b'.toNat=a.toNat:=e;have lN:a=b':=by omega
 refine h.own _ hr _ aI ?_;show some a=some b';rw [lN]
end
section
variable {n:Nat} {la ix:Int} {T T' F F':List (List Int)}
theorem OJ (h1:cv (n:Int) la T F) (h2:cv (n:Int) ix T' F') (L:sF la ix T T' F F') (i:Nat):gy F' i=gy F i/\jI F i<=jI F' i/\kh F' i<=kh F i:=by
 rcases uw.or (F:=F) i with o | ⟨r,hr,e⟩
 ·have o':uw F' i:=fun r' aI e=>by
   obtain ⟨a,b,l,m,rfl,_⟩:=h2.f r' aI;obtain ⟨l0,m0,hm,_⟩:=L.f aI;exact o _ hm e
  rw [o.is.1,o.is.2.1,o.is.2.2,o'.is.1,o'.is.2.1,o'.is.2.2];exact ⟨rfl,Int.le_refl _,Int.le_refl _⟩
 ·obtain ⟨a,b,l,m,rfl,_⟩:=h1.f r hr;have e:b.toNat=i:=e;subst e;obtain ⟨l',m',hm⟩:=L.g hr;obtain ⟨l2,m2,xH,k1,k2⟩:=L.f hm;have:=h1.only hr xH rfl;cases this;obtain ⟨a1,a2,a3⟩:=h1.cF hr;obtain ⟨b1,b2,b3⟩:=h2.cF hm;rw [a1,a2,a3,b1,b2,b3];exact ⟨rfl,k1,k2⟩
theorem XB (h1:cv (n:Int) la T F) (h2:cv (n:Int) ix T' F') (L:sF la ix T T' F F') (hq:(MB.bb ((lI (n:Int) la T F).map iC) (k+1)).q=none):
 ∃k,k<n/\(MB.bb ((lI (n:Int) ix T' F').map iC) (k+1)).q=none:=by
 have n1:=h1.n1;rcases MB.Wa (n:=n) (by omega) (P2 h2).ER with h | ⟨_,h⟩
 ·exact h
 ·refine absurd ⟨(MB.bb ((lI (n:Int) la T F).map iC) (k+1)).t,fun x hx=>?_⟩ h;have q:=(MB.quiet hq).2;generalize (MB.bb ((lI (n:Int) la T F).map iC) (k+1)).t=p at*;obtain ⟨r0,Km,rfl⟩:=eB.mp hx;obtain ⟨r,hr,rfl⟩:=eB.mp Km;have mono:∀{a b v v':Int},[a,b,v]∈gJ (n:Int) la T F->v<=v'->p (iC (wx F' [a,b,v'])).2.1-p (iC (wx F' [a,b,v'])).1<=(iC (wx F' [a,b,v'])).2.2:=fun {a b v v'} hm hv=>by
   have:=q _ (eB.mpr ⟨_,eB.mpr ⟨_,hm,rfl⟩,rfl⟩);obtain ⟨a1,a2,a3⟩:=OJ h1 h2 L a.toNat;obtain ⟨b1,b2,b3⟩:=OJ h1 h2 L b.toNat;show p (gy F' b.toNat).toNat-p (gy F' a.toNat).toNat<=v'+jI F' a.toNat-kh F' b.toNat;have this:p (gy F b.toNat).toNat-p (gy F a.toNat).toNat<=v+jI F a.toNat-kh F b.toNat:=this;rw [a1,b1];omega
  unfold gJ at hr;rcases i8.mp hr with hr | hr
  ·rcases i8.mp hr with hr | hr
   ·obtain ⟨i,hi,rfl | rfl⟩:=Ib hr
    ·exact mono (iL _ (iL _ (Av hi).1)) L.la
    ·exact mono (iL _ (iL _ (Av (la:=la) hi).2)) (Int.le_refl _)
   ·obtain ⟨a,b,l,m,hm,e⟩:=DG h2.lu hr;obtain ⟨l0,m0,vo,k1,k2⟩:=L.t hm;rcases e with rfl | rfl
    ·exact mono (iL _ (kE _ (HF vo).1)) k2
    ·exact mono (iL _ (kE _ (HF vo).2)) (by omega)
  ·obtain ⟨a,b,l,m,hm,e⟩:=DG h2.j7 hr;obtain ⟨o1,o2,o3⟩:=(h2.Ce hm).is;obtain ⟨b1,b2,b3⟩:=h2.cF hm;obtain ⟨_,_,_,_,e',x1,_⟩:=h2.f _ hm;cases e';have ha:((a.toNat:Nat):Int)=a:=lR x1;rcases e with rfl | rfl
   ·show p (gy F' b.toNat).toNat-p (gy F' a.toNat).toNat<=m+jI F' a.toNat-kh F' b.toNat;rw [o1,o2,b1,b3,i7];omega
   ·show p (gy F' a.toNat).toNat-p (gy F' b.toNat).toNat<=-l+jI F' b.toNat-kh F' a.toNat;rw [o1,o3,b1,b2,i7];omega
end
noncomputable def Ab (N:Nat) (la:Int) (T F:List (List Int)):Prop:=∃k,k<N/\(MB.bb ((lI (N:Int) la T F).map iC) (k+1)).q=none
noncomputable def O8 (C:Addr):Sp:=fun vs H Q _=>∃(p:Addr) (N:Nat) (la:Int) (T F:List (List Int)),vs=[.ref p]/\jD C H p (N:Int) la T F/\cv (N:Int) la T F/\∀(b:Bool) H',aH H H'->(b=true↔Ab N la T F)->Q (.bl b) H'
theorem YA:cE ["_law_web_here"] ["_law_web_here"] (aX gC):=cV
theorem o7 (F:Fn K mg "_law_fixed" gC ["_law_web_here"] f fd) (mgN:mg "NoTimes"=some (.ref CN)) (LD:PySem.W.exmOne K (.ref CN) (.ref CN)=some true)
 (FX:Fn K mg "fixed" eG ["web"] fX L5) (GX:aq P w K mg base (lS P w) 5 fX L5 ["web"] (Nw C CN)):aq P w K mg base a9 6 f fd ["_law_web_here"] (O8 C):=by
 refine F.F.de YA fun _ A _ s H _ Q E hr h=>?_;obtain ⟨p,N,la,rT,rF,rfl,W0,af,k⟩:=h;refine ⟨_,aZ (Tr (Cn:=CN) (Ex:=fun C' _ _ H'=>C'=CN/\aH H H'/\¬Ab N la rT rF) rfl rfl rfl mgN
  (fun pins=>aE (gK (Hn GX hr rfl FX.g FX.F.kp FX.b .nil (Wi (E:=fun C' _ H'=>C'=.ref CN/\aH H H'/\¬Ab N la rT rF) rfl rfl (fun C' dx σ H' e=>⟨Value.ref.inj e.1,e.2⟩)) (bL (pv 0)))))
  (fun e=>aE (cB zX)))
  (aE (cB zX)),?_⟩
 refine ⟨?_,fun C' dx aa H' e=>⟨by rw [e.1];exact LD,k false H' e.2.1 ⟨nofun,fun z=>absurd z e.2.2⟩⟩⟩;exact ⟨_,rfl,p,N,la,rT,rF,rfl,W0,af,fun kk l H' hk hq hl s1 e1=>k true H' s1 ⟨fun _=>⟨kk,hk,hq⟩,fun _=>rfl⟩,fun no x dd l ring H' _ _ _ _ s1 _ _=>⟨rfl,s1,fun ⟨kk,hk,hq⟩=>no kk hk hq⟩⟩
theorem wI {K:aA} (o:AG H) (h:ax K H a (ns.map V.int)):pI K H a ns:=by
 rcases h with (h | h) | h
 ·rcases o a with z | ⟨ob,xs,z⟩
  ·rw [z] at h;cases h
  ·rw [z] at h;cases h
 ·exact .inl h
 ·exact .inr h
noncomputable def va (K:aA):Sp:=fun vs H Q _=>∃a ns,vs=[.ref a]/\pI K H a ns/\∀H',Q (.bl true) H'
noncomputable abbrev EL:List Str:=["_law_script","_law_d","_law_w","_law_more","_law_webs","_law_rules","_law_times"]
theorem vS:cE EL ["_law_script"] (aX qe):=cV
theorem Z0:iO (aX qe) EL (lP [(".0",.local),("_law_web_here",.local),("kept",.globalImplicit)]) ["_law_web_here"] [none]:=lQ
theorem Z1:iO (aX qe) EL (lP [(".0",.local),("_law_web_here",.local),("_law_fixed",.globalImplicit)]) ["_law_web_here"] [none]:=lQ
theorem Qy:(["_law_web_here"]:List Str).Nodup:=by decide+kernel
theorem ND {N:Nat} {la:Int} {T F:List (List Int)} {Te:Nat} (h0:σ[0]?=some (some (.ref x))) (W:jD C H x (N:Int) la T F) (af:cv (N:Int) la T F) (hE:vU N (dk F) (lD N la T F) Te)
 (q:∀H',aH H H'->Q (.bl (decide ((h_ N la T F Te).bar=none))) H'):pZ Rc (pZ CB (FU (Ha C) [] E0 (j_ (rf 0) pG)) (tC (.int 0))) (tC (.str "rule")) σ H Q:=by
 refine ⟨_,h0,x,N,la,T,F,Te,rfl,W,af,hE,fun r H5 hr5 s5=>⟨fun b hb hP=>?_,fun bw hRu=>?_⟩⟩
 ·obtain ⟨l,nn,ps,g1,_⟩:=hP;have:=q H5 s5;rw [fU (by rw [hb];exact fun z=>nomatch z)] at this;exact ay g1 rfl ⟨rfl,this⟩
 ·obtain ⟨lt,lw,ps,qs,L,MM,g1,_⟩:=hRu;have:=q H5 s5;rw [jo bw] at this;exact ay g1 rfl ⟨rfl,this⟩
theorem w_ (Fn0:Fn K mg "law" qe ["_law_script"] f fd) (TC:nV K mg C)
 (FW:Fn K mg "_law_web" qd ["_law_d","_law_most","_law_last","_law_wide"] fW vC) (GW:aq P w K mg base a9 3 fW vC ["_law_d","_law_most","_law_last","_law_wide"] (Mi K))
 (M:Mk K C fI) (bI:eW K BU ["self","many","last","ties","falls"] []) (GI:aq P w K mg base a9 3 fI BU ["self","many","last","ties","falls"] (M9 C))
 (FK:Fn K mg "kept" gB ["web"] fK L8) (GK:aq P w K mg base a9 6 fK L8 ["web"] (Ha C))
 (FL:Fn K mg "_law_looser" eZ ["_law_d","_law_w"] fL fdL) (GL:aq P w K mg base a9 2 fL fdL ["_law_d","_law_w"] (O9 K))
 (FX:Fn K mg "_law_fixed" gC ["_law_web_here"] fX L5) (GX:aq P w K mg base a9 6 fX L5 ["_law_web_here"] (O8 C)):
 aq P w K mg base a9 7 f fd ["_law_script"] (va K):=by
 refine Fn0.F.de vS fun _ A _ s H _ Q E hr h=>?_;obtain ⟨a,ns,rfl,hS0,k⟩:=h;have jy:cU 2 _:=hr.mono (by decide);have Bu:cU 3 _:=hr.mono (by decide);have RS:cU 4 _:=hr.mono (by decide);refine ⟨_,cx (cA 1 vS.nd (jl (bu (pv 0) aw)))
  (cx (cA 2 vS.nd (b_ GW Bu FW (jw (pv 1) aw aw aw)))
  (cx (cA 3 vS.nd (b_ GL jy FL (bu (pv 1) (pv 2))))
  (cx (cA 4 vS.nd (jl (uK
   (Ho M GI RS rfl TC.Bf bI .nil gu (jw (a8 (pv 2)) (a8 (pv 2)) (a8 (pv 2)) (a8 (pv 2)))) (uK
   (Ho M GI RS rfl TC.Bf bI .nil gu (jw (a8 (pv 3)) (a8 (pv 3)) (a8 (pv 3)) (a8 (pv 3)))) n_))))
  (cx (CZ (i:=5) vS.nd rfl rfl rfl (jm (pv 4)) Z0 (fun cl ex s0 H0=>⟨bR 0 Qy,pT,Ni gr (a8 (b_ GK hr FK (bL (pv 0)))) eX (GH _)⟩))
  (cx (CZ (i:=6) vS.nd rfl rfl rfl (jm (pv 4)) Z1 (fun cl ex s0 H0=>⟨bR 0 Qy,pT,b_ GX hr FX (bL (pv 0))⟩))
  (aE (cB (Ae (Mn (dh dS (pv 5) aw) (Af (M4 (dh dS (pv 5) aw)))) (Af (Mn (dh dS (pv 6) aw) (Af (M4 (dh dS (pv 6) aw))))))))))))),?_⟩
 refine fun N1 c1=>⟨_,rfl,dc rfl,fun d hd=>c1 _ _ ?_⟩;have D0:dC K a (upd H d (.lst [.ref a,.int 0])) d:=⟨⟨0,ai⟩,⟨ns,hS0.same (aG hd)⟩⟩;generalize upd H d (.lst [.ref a,.int 0])=H0 at*;clear c1 N1;refine fun N1 c1=>⟨_,rfl,d,a,8,20,8,rfl,D0,by decide,by decide,by decide,by decide,by decide,by decide,fun wp ta fa n la rT rF H1 BV RT RF af n2 nm lm D1 k1 wF zD m9=>c1 _ _ ?_⟩;clear c1 N1;obtain ⟨N,rfl⟩:∃N:Nat,n=N:=⟨n.toNat,by lia⟩;refine fun N1 c1=>⟨_,rfl,_,rfl,d,a,wp,ta,fa,N,la,rT,rF,rfl,D1,⟨BV,RT,RF⟩,af,lm,wF,zD,fun q IL LC ix yY yZ H2 DB jR L k2=>c1 _ _ ?_⟩;clear c1 N1;have DA:uJ H2 wp ta fa (N:Int) la rT rF:=by
  obtain ⟨p,e⟩:=D1.at_;exact ⟨OE k2 e BV,RT.keep k2 e wF,RF.keep k2 e zD⟩
 refine fun N1 c1=>⟨_,rfl,ay DA.tup rfl ⟨_,rfl,ay DA.tup rfl ⟨_,rfl,ay DA.tup rfl ⟨_,rfl,ay DA.tup rfl fun x dx nx ndx nex=>?_⟩⟩⟩⟩;have s3:aH H2 (upd (upd H2 dx (.own x)) x (.ins C dx [])):=fun b o e=>by
  rw [ao (aQ e nx),ao (aQ e ndx)];exact e
 refine ⟨x,dx,_,la,ta,fa,rT,rF,rfl,ai,DA.t.same s3,DA.f.same s3,af,fun H4 W4 k4=>⟨rfl,?_⟩⟩;have s4:aH H2 H4:=fun b o e=>k4 b o (s3 b o e) (aQ e nx);have ym:=DB.same s4;refine ⟨_,rfl,ay ym.tup rfl ⟨_,rfl,ay ym.tup rfl ⟨_,rfl,ay ym.tup rfl ⟨_,rfl,ay ym.tup rfl fun y dy ny ndy ney=>?_⟩⟩⟩⟩;have s5:aH H4 (upd (upd H4 dy (.own y)) y (.ins C dy [])):=fun b o e=>by
  rw [ao (aQ e ny),ao (aQ e ndy)];exact e
 refine ⟨y,dy,_,ix,IL,LC,yY,yZ,rfl,ai,ym.t.same s5,ym.f.same s5,jR,fun H6 W6 k6=>⟨rfl,dc rfl,fun lw hlw=>c1 _ _ ?_⟩⟩;clear c1 N1;have s6:aH H4 H6:=fun b o e=>k6 b o (s5 b o e) (aQ e ny);have s7:=aG (o:=.lst [.ref x,.ref y]) hlw;have W1:=(W4.same s6).same s7;have W2:=W6.same s7;have e7:upd H6 lw (.lst [.ref x,.ref y]) lw=some (.lst [.ref x,.ref y]):=ai;generalize upd H6 lw (.lst [.ref x,.ref y])=H7 at*;clear s7 s6 s5 s4 s3 k6 k4 ym nex ney;have l2:=af.l2;have JL:=jR.l2;obtain ⟨Te,hE⟩:=PD af l2;obtain ⟨FC,hE'⟩:=PD jR JL;have big:=Xa af jR L hE;have LN:=fun {k:Nat}=>XB (k:=k) af jR L;refine fun N1 c1=>⟨_,rfl,lw,rfl,⟨_,ax.of e7⟩,fun Da cI=>?_⟩;refine uO (K:=K) (a:=lw) (xs:=[V.ref x,V.ref y]) (fun j aa H'=>∃v,aa=[v]/\H' Da=some (.lst (([decide ((h_ N la rT rF Te).bar=none),decide ((h_ N ix yY yZ FC).bar=none)].take j).map V.bl))/\aH H7 H') ⟨none,rfl,ai,aG cI⟩ ?_ ?_ ?_
 ·rintro j aa H8 _ ⟨v,rfl,_,s8⟩;exact ax.of (s8 _ _ e7)
 ·rintro j z aa H8 hz ⟨v,rfl,e8,s8⟩
  cases j with
  | zero=>
   cases hz;refine ND rfl (W1.same s8) af hE fun H9 s9=>⟨_,s9 _ _ e8,by show 0<sizeLine;decide,_,rfl,ai,fun b o e=>?_⟩;rw [ao (aQ e cI)];exact (s8.trans s9) _ _ e
  | succ j=>
   cases j with
   | zero=>
    cases hz;refine ND rfl (W2.same s8) jR hE' fun H9 s9=>⟨_,s9 _ _ e8,by show 1<sizeLine;decide,_,rfl,ai,fun b o e=>?_⟩;rw [ao (aQ e cI)];exact (s8.trans s9) _ _ e
   | succ j=>cases hz
 rintro aa H8 ⟨v,rfl,e8,s8⟩;refine c1 _ _ ?_;clear c1 N1;have e7:=s8 _ _ e7;have W1:=W1.same s8;have W2:=W2.same s8;refine fun N1 c1=>⟨_,rfl,lw,rfl,⟨_,ax.of e7⟩,fun Db xU=>?_⟩;refine uO (K:=K) (a:=lw) (xs:=[V.ref x,V.ref y]) (fun j aa H'=>∃v,∃bs:List Bool,aa=[v]/\H' Db=some (.lst (bs.map V.bl))/\bs.length=j/\(∀b,bs[0]?=some b->(b=true↔Ab N la rT rF))/\(∀b,bs[1]?=some b->(b=true↔Ab N ix yY yZ))/\aH H8 H') ⟨none,[],rfl,ai,rfl,(fun b z=>nomatch z),(fun b z=>nomatch z),aG xU⟩ ?_ ?_ ?_
 ·rintro j aa H9 _ ⟨v,bs,rfl,_,_,_,_,s9⟩;exact ax.of (s9 _ _ e7)
 ·rintro j z aa H9 hz ⟨v,bs,rfl,e9,zq,b0,b1,s9⟩
  cases j with
  | zero=>
   cases hz;have:bs=[]:=LQ.mp zq;subst this;refine ⟨_,rfl,x,N,la,rT,rF,rfl,W1.same s9,af,fun b sj oq hb=>⟨_,oq _ _ e9,by decide,_,[b],rfl,ai,rfl,(fun c hc=>by cases hc;exact hb),(fun c hc=>nomatch hc),fun c o e=>?_⟩⟩;rw [ao (aQ e xU)];exact (s9.trans oq) _ _ e
  | succ j=>
   cases j with
   | zero=>
    cases hz;obtain ⟨c0,rfl⟩:=List.length_eq_one_iff.mp zq;refine ⟨_,rfl,y,N,ix,yY,yZ,rfl,W2.same s9,jR,fun b sj oq hb=>⟨_,oq _ _ e9,by show 1<sizeLine;decide,_,[c0,b],rfl,ai,rfl,(fun c hc=>b0 c hc),(fun c hc=>by cases hc;exact hb),fun c o e=>?_⟩⟩;rw [ao (aQ e xU)];exact (s9.trans oq) _ _ e
   | succ j=>cases hz
 rintro aa H9 ⟨v,bs,rfl,e9,zq,b0,b1,s9⟩;refine c1 _ _ ?_;clear c1 N1;have zq:bs.length=2:=zq;obtain ⟨t1,t2,rfl⟩:∃t1 t2,bs=[t1,t2]:=by
  match bs,zq with
  | [a,b],_=>exact ⟨a,b,rfl⟩
 have e8:=s9 _ _ e8;have ZY:t1=true->t2=true:=fun h=>by
  obtain ⟨kk,_,hq⟩:=(b0 t1 rfl).mp h;exact (b1 t2 rfl).mpr (LN hq)
 have r12:(decide ((h_ N la rT rF Te).bar=none))=true->(decide ((h_ N ix yY yZ FC).bar=none))=true:=fun h=>jo (big (of_decide_eq_true h) FC);generalize (decide ((h_ N la rT rF Te).bar=none))=r1 at*;generalize (decide ((h_ N ix yY yZ FC).bar=none))=r2 at*;have k:=k H9;refine ⟨_,rfl,jL e8 rfl ⟨r2,rfl,?_⟩⟩;have second:QC (pZ zZ (rf 6) (tC (V.int 1))) (Mj (pZ zZ (rf 6) (tC (V.int 0)))) ((((((List.set (L2.jb EL [V.ref a]) 1 (some (V.ref d))).set 2 (some (V.ref wp))).set 3 (some (V.ref q))).set 4 (some (V.ref lw))).set 5 (some (V.ref Da))).set 6 (some (V.ref Db))) H9 Q:=by
  refine ⟨_,rfl,jL e9 rfl ⟨t2,rfl,hV (fun _=>k) fun z=>?_⟩⟩;have z1:t1=false:=LP.mpr fun h=>z (ZY h);subst z1;exact ⟨_,rfl,jL e9 rfl ⟨false,rfl,k⟩⟩
 refine hV (fun _=>⟨true,rfl,second⟩) fun z=>?_;have z1:r1=false:=LP.mpr fun h=>z (r12 h);subst z1;exact ⟨_,rfl,jL e8 rfl ⟨false,rfl,true,rfl,second⟩⟩
end Y0
namespace L2
theorem lU:∀{us:List α},us.length=n+1->∃a t,us=a::t/\t.length=n
 | a::t,h=>⟨a,t,rfl,Nat.succ.inj h⟩
theorem YM (us:List α) (h:us.length=1):∃a,us=[a]:=by
 obtain ⟨a,t0,rfl,h0⟩:=lU h;obtain rfl:=List.eq_nil_of_length_eq_zero h0;exact ⟨a,rfl⟩
theorem Qw (us:List α) (h:us.length=2):∃a b,us=[a,b]:=by
 obtain ⟨a,t0,rfl,h0⟩:=lU h;obtain ⟨b,t1,rfl,h1⟩:=lU h0;obtain rfl:=List.eq_nil_of_length_eq_zero h1;exact ⟨a,b,rfl⟩
theorem YN (us:List α) (h:us.length=3):∃a b c,us=[a,b,c]:=by
 obtain ⟨a,t0,rfl,h0⟩:=lU h;obtain ⟨b,t1,rfl,h1⟩:=lU h0;obtain ⟨c,t2,rfl,h2⟩:=lU h1;obtain rfl:=List.eq_nil_of_length_eq_zero h2;exact ⟨a,b,c,rfl⟩
theorem YO (us:List α) (h:us.length=4):∃a b c d,us=[a,b,c,d]:=by
 obtain ⟨a,t0,rfl,h0⟩:=lU h;obtain ⟨b,t1,rfl,h1⟩:=lU h0;obtain ⟨c,t2,rfl,h2⟩:=lU h1;obtain ⟨d,t3,rfl,h3⟩:=lU h2;obtain rfl:=List.eq_nil_of_length_eq_zero h3;exact ⟨a,b,c,d,rfl⟩
theorem YQ (us:List α) (h:us.length=5):∃a b c d e,us=[a,b,c,d,e]:=by
 obtain ⟨a,t0,rfl,h0⟩:=lU h;obtain ⟨b,t1,rfl,h1⟩:=lU h0;obtain ⟨c,t2,rfl,h2⟩:=lU h1;obtain ⟨d,t3,rfl,h3⟩:=lU h2;obtain ⟨e,t4,rfl,h4⟩:=lU h3;obtain rfl:=List.eq_nil_of_length_eq_zero h4;exact ⟨a,b,c,d,e,rfl⟩
end L2
namespace Y0
open PySem L2
section
variable {K:aA} {mg:Str->Option Value} {h:Heap}
theorem Cd {A B C D E F V:Type} {p:A->B->C->D->E->F->List V->Prop} (h:∀a1 a2 a3 a4 a5 a6 a,p a1 a2 a3 a4 a5 a6 [a]):∀a1 a2 a3 a4 a5 a6 (us:List V),us.length=1->p a1 a2 a3 a4 a5 a6 us:=fun _ _ _ _ _ _ us hl=>by
 obtain ⟨a,rfl⟩:=L2.YM us hl;exact h _ _ _ _ _ _ _
theorem Cc {A B C D E F V:Type} {p:A->B->C->D->E->F->List V->Prop} (h:∀a1 a2 a3 a4 a5 a6 a b,p a1 a2 a3 a4 a5 a6 [a,b]):∀a1 a2 a3 a4 a5 a6 (us:List V),us.length=2->p a1 a2 a3 a4 a5 a6 us:=fun _ _ _ _ _ _ us hl=>by
 obtain ⟨a,b,rfl⟩:=L2.Qw us hl;exact h _ _ _ _ _ _ _ _
theorem Cb {A B C D E F V:Type} {p:A->B->C->D->E->F->List V->Prop} (h:∀a1 a2 a3 a4 a5 a6 a b c,p a1 a2 a3 a4 a5 a6 [a,b,c]):∀a1 a2 a3 a4 a5 a6 (us:List V),us.length=3->p a1 a2 a3 a4 a5 a6 us:=fun _ _ _ _ _ _ us hl=>by
 obtain ⟨a,b,c,rfl⟩:=L2.YN us hl;exact h _ _ _ _ _ _ _ _ _
theorem Ca {A B C D E F V:Type} {p:A->B->C->D->E->F->List V->Prop} (h:∀a1 a2 a3 a4 a5 a6 a b c d,p a1 a2 a3 a4 a5 a6 [a,b,c,d]):∀a1 a2 a3 a4 a5 a6 (us:List V),us.length=4->p a1 a2 a3 a4 a5 a6 us:=fun _ _ _ _ _ _ us hl=>by
 obtain ⟨a,b,c,d,rfl⟩:=L2.YO us hl;exact h _ _ _ _ _ _ _ _ _ _
theorem B_ {A B C D E F V:Type} {p:A->B->C->D->E->F->List V->Prop} (h:∀a1 a2 a3 a4 a5 a6 a b c d e,p a1 a2 a3 a4 a5 a6 [a,b,c,d,e]):∀a1 a2 a3 a4 a5 a6 (us:List V),us.length=5->p a1 a2 a3 a4 a5 a6 us:=fun _ _ _ _ _ _ us hl=>by
 obtain ⟨a,b,c,d,e,rfl⟩:=L2.YQ us hl;exact h _ _ _ _ _ _ _ _ _ _ _
theorem vB {x:Str} {st:Stmt} {ps:List Str} {f:Addr} {oc:Value} {od an:Option Addr} {ou:Array (Option Value)} {kV doc pm cY ct:Value} (X:K.In h) (G:h.Ns mainGlobals mg) (a:PySem.W.nsIn K mainGlobals x=some (some (.ref f)):=by k_is)
 (l:K.lookup f=some ⟨oc,od,.func (PySem.W.fnOf x x (rD st) (mX st) (aX st) .none kV doc pm an cY ct),ou⟩:=by k_is) (c:PySem.W.codeIn K cY x=true:=by k_is) (k:PySem.W.keepIn K (.ref f)=true:=by k_is)
 (hb:∀(kV doc pm:Value) (an:Option Addr) (cY ct:Value) (us:List Value),us.length=ps.length->bindArgs (PySem.W.fnOf x x (rD st) (mX st) (aX st) .none kV doc pm an cY ct) ⟨us,[]⟩=pure (ps.zip us):=by first | exact Y0.Cd fun _ _ _ _ _ _ _=>rfl | exact Y0.Cc fun _ _ _ _ _ _ _ _=>rfl | exact Y0.Cb fun _ _ _ _ _ _ _ _ _=>rfl | exact Y0.Ca fun _ _ _ _ _ _ _ _ _ _=>rfl | exact Y0.B_ fun _ _ _ _ _ _ _ _ _ _ _=>rfl):
 Fn K mg x st ps f (PySem.W.fnOf x x (rD st) (mX st) (aX st) .none kV doc pm an cY ct):=
 have F:=GY (st:=st) l c k
 ⟨F,F.binds hb,PySem.W.mg_of X G a⟩
structure Ck (K:aA) (C:Addr) (m q:Str) (st:Stmt) (ps:List Str) (f:Addr) (fd:FuncData):Prop where
 F:gI K m q st f fd
 b:eW K fd ps []
 a:PySem.W.findIn K (.ref C) m=some (some (.ref f))
 i:PySem.W.isFn K (.ref f)=true
theorem Ck.eM (h:Ck K C m q st ps f fd):jh K C m f:=⟨h.a,h.i,h.F.kp⟩
theorem Bc {C:Addr} {x q:Str} {st:Stmt} {ps:List Str} {f:Addr} {oc:Value} {od an:Option Addr} {ou:Array (Option Value)} {kV doc pm cY ct:Value} (a:PySem.W.findIn K (.ref C) x=some (some (.ref f)):=by k_is) (i:PySem.W.isFn K (.ref f)=true:=by k_is)
 (l:K.lookup f=some ⟨oc,od,.func (PySem.W.fnOf x q (rD st) (mX st) (aX st) .none kV doc pm an cY ct),ou⟩:=by k_is) (c:PySem.W.codeIn K cY q=true:=by k_is) (k:PySem.W.keepIn K (.ref f)=true:=by k_is)
 (hb:∀(kV doc pm:Value) (an:Option Addr) (cY ct:Value) (us:List Value),us.length=ps.length->bindArgs (PySem.W.fnOf x q (rD st) (mX st) (aX st) .none kV doc pm an cY ct) ⟨us,[]⟩=pure (ps.zip us):=by first | exact Y0.Cd fun _ _ _ _ _ _ _=>rfl | exact Y0.Cc fun _ _ _ _ _ _ _ _=>rfl | exact Y0.Cb fun _ _ _ _ _ _ _ _ _=>rfl | exact Y0.Ca fun _ _ _ _ _ _ _ _ _ _=>rfl | exact Y0.B_ fun _ _ _ _ _ _ _ _ _ _ _=>rfl):
 Ck K C x q st ps f (PySem.W.fnOf x q (rD st) (mX st) (aX st) .none kV doc pm an cY ct):=
 have F:=GY (st:=st) l c k
 ⟨F,F.binds hb,a,i⟩
theorem aJ {K:aA} {mg:Str->Option Value} {h:Heap} (X:K.In h) (_G:h.Ns mainGlobals mg) (x:Str) (st:Stmt) (ps:List Str) (e:∃f fd,Fn (L2.gZ X) mg x st ps f fd:=by unfold L2.gZ;exact ⟨_,_,Y0.vB ‹_› ‹_›⟩):∃f fd,Fn (L2.gZ X) mg x st ps f fd:=e
theorem dn {K:aA} {h:Heap} {C:Addr} {Xn:Str} {X:K.In h} (a:PySem.W.nsIn (L2.gZ X) mainGlobals Xn=some (some (.ref C))) (m q:Str) (st:Stmt) (ps:List Str) (e:∃C f fd,PySem.W.nsIn (L2.gZ X) mainGlobals Xn=some (some (.ref C))/\Ck (L2.gZ X) C m q st ps f fd:=by unfold L2.gZ;exact ⟨_,_,_,by k_is,Y0.Bc⟩):∃f fd,Ck (L2.gZ X) C m q st ps f fd:=by
 obtain ⟨C',f,fd,e1,e2⟩:=e;rw [a] at e1;cases e1;exact ⟨f,fd,e2⟩
structure Ci (K:aA) (mg:Str->Option Value) (C:Addr):Prop where
 tc:nV K mg C
 JH:PySem.W.makesIn K C=true
 kc:PySem.W.keepIn K (.ref C)=true
theorem wB (X:K.In h) (G:h.Ns mainGlobals mg) (aC:PySem.W.nsIn K mainGlobals "Web"=some (some (.ref C)):=by k_is) (pg:PySem.W.plainGet K C Str.empty=true:=by k_is) (hd:PySem.W.hasDictIn K C=true:=by k_is) (po:PySem.W.plainOver K C=true:=by k_is)
 (sa:PySem.W.findIn K (.ref C) "__setattr__"=some (some (.builtin "object.__setattr__")):=by k_is) (mk:PySem.W.makesIn K C=true:=by k_is) (kc:PySem.W.keepIn K (.ref C)=true:=by k_is)
 (n1:PySem.W.findIn K (.ref C) "many"=some none:=by k_is) (n2:PySem.W.findIn K (.ref C) "last"=some none:=by k_is) (n3:PySem.W.findIn K (.ref C) "told_ties"=some none:=by k_is) (n4:PySem.W.findIn K (.ref C) "told_falls"=some none:=by k_is):Ci K mg C:=
 ⟨⟨⟨pg,hd,po,sa⟩,n1,n2,n3,n4,PySem.W.mg_of X G aC⟩,mk,kc⟩
theorem sX (X:K.In h) (G:h.Ns mainGlobals mg) (m1:PySem.W.nsIn K mainGlobals "MOST_MOMENTS"=some (some (.int 8 t1)):=by k_is) (m2:PySem.W.nsIn K mainGlobals "LATEST_LAST"=some (some (.int 60 t2)):=by k_is)
 (m3:PySem.W.nsIn K mainGlobals "WIDEST_SPAN"=some (some (.int 60 t3)):=by k_is) (m4:PySem.W.nsIn K mainGlobals "LONGEST_FALL"=some (some (.int 60 t4)):=by k_is) (z:PySem.W.nsIn K mainGlobals "list"=some none:=by k_is):lA mg:=
 ⟨⟨t1,PySem.W.mg_of X G m1⟩,⟨t2,PySem.W.mg_of X G m2⟩,⟨t3,PySem.W.mg_of X G m3⟩,⟨t4,PySem.W.mg_of X G m4⟩,sg X G z⟩
structure Cr (K:aA) (mg:Str->Option Value) (C:Addr):Prop where
 tc:oV K mg C
 JH:PySem.W.makesIn K C=true
 kc:PySem.W.keepIn K (.ref C)=true
 g:mg "Closing"=some (.ref C)
theorem yd (X:K.In h) (G:h.Ns mainGlobals mg) (aC:PySem.W.nsIn K mainGlobals "Closing"=some (some (.ref C)):=by k_is) (pg:PySem.W.plainGet K C Str.empty=true:=by k_is) (hd:PySem.W.hasDictIn K C=true:=by k_is) (po:PySem.W.plainOver K C=true:=by k_is)
 (sa:PySem.W.findIn K (.ref C) "__setattr__"=some (some (.builtin "object.__setattr__")):=by k_is) (mk:PySem.W.makesIn K C=true:=by k_is) (kc:PySem.W.keepIn K (.ref C)=true:=by k_is)
 (n1:PySem.W.findIn K (.ref C) "many"=some none:=by k_is) (n2:PySem.W.findIn K (.ref C) "by_end"=some none:=by k_is) (n3:PySem.W.findIn K (.ref C) "rows"=some none:=by k_is) (n4:PySem.W.findIn K (.ref C) "best"=some none:=by k_is) (n5:PySem.W.findIn K (.ref C) "bar"=some none:=by k_is)
 (z1:PySem.W.nsIn K mainGlobals "len"=some none:=by k_is) (z2:PySem.W.nsIn K mainGlobals "range"=some none:=by k_is):Cr K mg C:=
 ⟨⟨⟨pg,hd,po,sa⟩,n1,n2,n3,n4,n5,sg X G z1,sg X G z2⟩,mk,kc,PySem.W.mg_of X G aC⟩
theorem sY (X:K.In h) (G:h.Ns mainGlobals mg) (a:PySem.W.nsIn K mainGlobals "USED_KINDS"=some (some (.ref u))) (t:Ik K u yz) (z:PySem.W.nsIn K mainGlobals "tuple"=some none):yi K mg:=
 ⟨⟨u,PySem.W.mg_of X G a,t⟩,sg X G z⟩
theorem xZ {C M fI N:Addr} {nm q:Str} {bs:List Value} {sn:List Str} {sub:List Value} {ab:Bool} {col:Option Bool} {dd:Option Addr} {k0 k1 k2 k3 k5:Option Value}
 (l:K.lookup C=some (excClassObj nm q C N bs (.ref M::rY) true sn sub ab col dd k0 k1 k2 k3 k5 "ValueError.__new__")) (no:PySem.W.nsOkIn K N=true) (ni:PySem.W.nsIn K N "__init__"=some (some (.ref fI)))
 (tl:PySem.W.tailIn K rY (.ref M::rY)=true) (fn:PySem.W.isFn K (.ref fI)=true) (kp:PySem.W.keepIn K (.ref C)=true) (sa:PySem.W.findIn K (.ref C) "__setattr__"=some (some (.builtin "object.__setattr__"))):rh K C M fI:=
 ⟨⟨nm,q,N,bs,sn,sub,ab,col,dd,k0,k1,k2,k3,k5,l,no,ni⟩,tl,fn,kp,sa⟩
theorem sZ {C M fI:Addr} (X:K.In h) (G:h.Ns mainGlobals mg) (aC:PySem.W.nsIn K mainGlobals "NoTimes"=some (some (.ref C))) (aM:PySem.W.nsIn K mainGlobals "MomentError"=some (some (.ref M))) (ex:rh K C M fI)
 (b1:PySem.W.typeIn K (.ref M)=some (.type "type")) (b2:PySem.W.specialIn K (.ref M) "__getattribute__"=some (some (.builtin "type.__getattribute__"))) (b3:PySem.W.findIn K (.type "type") "__getattribute__"=some (some (.builtin "type.__getattribute__")))
 (b4:PySem.W.nsIn K cStatics "thirdparty.any"=some none) (b5:PySem.W.findCls K (.ref M) (.type "type") "__init__"=some (.val (.builtin "ValueError.__init__"))) (b6:PySem.W.subIn K (.type "type") (.type "type")=some true)
 (nR:PySem.W.findIn K (.ref C) "ring"=some none) (z1:PySem.W.nsIn K mainGlobals "range"=some none) (z2:PySem.W.nsIn K mainGlobals "len"=some none) (z3:PySem.W.nsIn K mainGlobals "list"=some none):qZ K mg C M fI:=
 ⟨sg X G z1,sg X G z2,sg X G z3,ex,⟨b1,b2,b3,b4,b5,b6⟩,PySem.W.mg_of X G aM,nR,PySem.W.mg_of X G aC⟩
end
end Y0
noncomputable def PySem.W.Fast.tw17688453909028117174:Unit:=()
noncomputable def PySem.W.Fast.tw11816865514099194373:Unit:=()
noncomputable def PySem.W.Fast.tw9632453586898051935:Unit:=()
noncomputable def PySem.W.Fast.tw15945729967071102149:Unit:=()
noncomputable def PySem.W.Fast.tw7038908495782728031:Unit:=()
noncomputable def PySem.W.Fast.tw10614239304333505299:Unit:=()
noncomputable def PySem.W.Fast.tw2385536343587895610:Unit:=()
noncomputable def PySem.W.Fast.tw13266933233607940198:Unit:=()
noncomputable def PySem.W.Fast.tw4501690707812301409:Unit:=()
noncomputable def PySem.W.Fast.tw15605471467483568282:Unit:=()
noncomputable def PySem.W.Fast.tw8896731359364137617:Unit:=()
noncomputable def PySem.W.Fast.tw12227518190811312035:Unit:=()
noncomputable def PySem.W.Fast.tw17761067712886050789:Unit:=()
noncomputable def PySem.W.Fast.tw6068808563714609564:Unit:=()
noncomputable def PySem.W.Fast.tw6648019443050463680:Unit:=()
noncomputable def PySem.W.Fast.tw4745329636403534561:Unit:=()
noncomputable def PySem.W.Fast.tw8563139156979341445:Unit:=()
noncomputable def PySem.W.Fast.tw17973313563403663137:Unit:=()
noncomputable def PySem.W.Fast.tw11208976655850275305:Unit:=()
noncomputable def PySem.W.Fast.tw950833757337912696:Unit:=()
noncomputable def PySem.W.Fast.tw12011829908316900026:Unit:=()
noncomputable def PySem.W.Fast.tw384265068645366141:Unit:=()
noncomputable def PySem.W.Fast.tw3647376433853016550:Unit:=()
noncomputable def PySem.W.Fast.tw17159323455582143730:Unit:=()
noncomputable def PySem.W.Fast.tw3223954216636771458:Unit:=()
noncomputable def PySem.W.Fast.tw14680768176709526988:Unit:=()
noncomputable def PySem.W.Fast.tw13145075600678923621:Unit:=()
noncomputable def PySem.W.Fast.tw10393326657170480135:Unit:=()
noncomputable def PySem.W.Fast.tw16326650692201376612:Unit:=()
noncomputable def PySem.W.Fast.tw14206948377159848:Unit:=()
noncomputable def PySem.W.Fast.tw3623584720641561422:Unit:=()
noncomputable def PySem.W.Fast.tw18119666065561618494:Unit:=()
noncomputable def PySem.W.Fast.tw2469288211329284717:Unit:=()
noncomputable def PySem.W.Fast.tw2687836490884636742:Unit:=()
noncomputable def PySem.W.Fast.tw18002339958731059963:Unit:=()
noncomputable def PySem.W.Fast.tw17305915380865484915:Unit:=()
noncomputable def PySem.W.Fast.tw17968604691442760559:Unit:=()
noncomputable def PySem.W.Fast.tw8774608824317996904:Unit:=()
noncomputable def PySem.W.Fast.tw13388562007736883223:Unit:=()
noncomputable def PySem.W.Fast.tw5988483177981396307:Unit:=()
noncomputable def PySem.W.Fast.tw13965614175834903680:Unit:=()
noncomputable def PySem.W.Fast.tw5807296827097748287:Unit:=()
noncomputable def PySem.W.Fast.tw13770935464015548364:Unit:=()
noncomputable def PySem.W.Fast.tw11992174084672958931:Unit:=()
noncomputable def PySem.W.Fast.tw12435187487150472701:Unit:=()
noncomputable def PySem.W.Fast.tw8461489872408854574:Unit:=()
noncomputable def PySem.W.Fast.tw1477632243461324265:Unit:=()
noncomputable def PySem.W.Fast.tw14196305038133313174:Unit:=()
noncomputable def PySem.W.Fast.tw3197626335005798751:Unit:=()
noncomputable def PySem.W.Fast.tw17812645831720771306:Unit:=()
noncomputable def PySem.W.Fast.tw6734102504438919082:Unit:=()
noncomputable def PySem.W.Fast.tw12289724783156738000:Unit:=()
noncomputable def PySem.W.Fast.tw3598162913878869210:Unit:=()
noncomputable def PySem.W.Fast.tw17809028310477714345:Unit:=()
noncomputable def PySem.W.Fast.tw753608568867849734:Unit:=()
noncomputable def PySem.W.Fast.tw18341083825478349913:Unit:=()
noncomputable def PySem.W.Fast.tw9550666284926296706:Unit:=()
noncomputable def PySem.W.Fast.tw2216052570997919724:Unit:=()
noncomputable def PySem.W.Fast.tw18058333071761001427:Unit:=()
noncomputable def PySem.W.Fast.tw13673690720288066547:Unit:=()
noncomputable def PySem.W.Fast.tw9343717922653421963:Unit:=()
noncomputable def PySem.W.Fast.tw14858398946707663872:Unit:=()
noncomputable def PySem.W.Fast.tw1175079011707813283:Unit:=()
noncomputable def PySem.W.Fast.tw9124742848603126012:Unit:=()
noncomputable def PySem.W.Fast.tw16287899300153686694:Unit:=()
noncomputable def PySem.W.Fast.tw10862750239460031310:Unit:=()
noncomputable def PySem.W.Fast.tw12869618428760104850:Unit:=()
noncomputable def PySem.W.Fast.tw10613264379716252681:Unit:=()
noncomputable def PySem.W.Fast.tw7016071779648490827:Unit:=()
noncomputable def PySem.W.Fast.tw10050985177329269066:Unit:=()
noncomputable def PySem.W.Fast.tw4611351877943634933:Unit:=()
noncomputable def PySem.W.Fast.tw10080520364927418660:Unit:=()
noncomputable def PySem.W.Fast.tw1930337872937036104:Unit:=()
noncomputable def PySem.W.Fast.tw7619317897395730526:Unit:=()
noncomputable def PySem.W.Fast.tw10048264627495069918:Unit:=()
noncomputable def PySem.W.Fast.tw8169604868467062418:Unit:=()
noncomputable def PySem.W.Fast.tw3626242453069059990:Unit:=()
noncomputable def PySem.W.Fast.tw679095324323838502:Unit:=()
noncomputable def PySem.W.Fast.tw11362914708591366148:Unit:=()
noncomputable def PySem.W.Fast.tw637098805911704413:Unit:=()
noncomputable def PySem.W.Fast.tw51734474968819669:Unit:=()
noncomputable def PySem.W.Fast.tw3199473113822290951:Unit:=()
noncomputable def PySem.W.Fast.tw18413093975823179454:Unit:=()
noncomputable def PySem.W.Fast.tw1691971677950956600:Unit:=()
noncomputable def PySem.W.Fast.tw2628454588677293136:Unit:=()
noncomputable def PySem.W.Fast.tw6511448551158919994:Unit:=()
noncomputable def PySem.W.Fast.tw4687138101587636933:Unit:=()
noncomputable def PySem.W.Fast.tw15599590292789853456:Unit:=()
noncomputable def PySem.W.Fast.tw2621619941709778733:Unit:=()
noncomputable def PySem.W.Fast.tw12526177979130808557:Unit:=()
noncomputable def PySem.W.Fast.tw13472239262178032698:Unit:=()
noncomputable def PySem.W.Fast.tw17042812865420189100:Unit:=()
noncomputable def PySem.W.Fast.tw8974409455020020601:Unit:=()
noncomputable def PySem.W.Fast.tw17516330844268002034:Unit:=()
noncomputable def PySem.W.Fast.tw6092521525026543830:Unit:=()
noncomputable def PySem.W.Fast.tw5610495507524542212:Unit:=()
noncomputable def PySem.W.Fast.tw3562878774541777315:Unit:=()
noncomputable def PySem.W.Fast.tw2860879238584844970:Unit:=()
noncomputable def PySem.W.Fast.tw3038783659457332666:Unit:=()
noncomputable def PySem.W.Fast.tw14134760722179150801:Unit:=()
noncomputable def PySem.W.Fast.tw10794893343462640588:Unit:=()
noncomputable def PySem.W.Fast.tw15861955714099108764:Unit:=()
noncomputable def PySem.W.Fast.tw3640660196422516756:Unit:=()
noncomputable def PySem.W.Fast.tw1818458678511380983:Unit:=()
noncomputable def PySem.W.Fast.tw3226186013049164103:Unit:=()
noncomputable def PySem.W.Fast.tw15942662158876963077:Unit:=()
noncomputable def PySem.W.Fast.tw5844779778850173266:Unit:=()
noncomputable def PySem.W.Fast.tw1865838366372116766:Unit:=()
noncomputable def PySem.W.Fast.tw2240451877664009596:Unit:=()
noncomputable def PySem.W.Fast.tw15188864565704851706:Unit:=()
noncomputable def PySem.W.Fast.tw5354097027043913964:Unit:=()
noncomputable def PySem.W.Fast.tw18100782573975797056:Unit:=()
noncomputable def PySem.W.Fast.tw14999797960899769957:Unit:=()
noncomputable def PySem.W.Fast.tw2017555721938946709:Unit:=()
noncomputable def PySem.W.Fast.tw1756733822620206903:Unit:=()
noncomputable def PySem.W.Fast.tw7261355448513123167:Unit:=()
noncomputable def PySem.W.Fast.tw5869875683603230559:Unit:=()
noncomputable def PySem.W.Fast.tw5531163526894366139:Unit:=()
noncomputable def PySem.W.Fast.tw3710943038739734129:Unit:=()
noncomputable def PySem.W.Fast.tw3497635508831509589:Unit:=()
noncomputable def PySem.W.Fast.tw18106348084007501801:Unit:=()
noncomputable def PySem.W.Fast.tw4811275638315728643:Unit:=()
open PySem PySem.W PyProof.Rows L2
set_option maxRecDepth 100000 in
set_option maxHeartbeats 0 in
theorem PySem.Challenge.cw_momentties_k17_looser_is_kept_too_holds : PySem.Challenge.rw_momentties_k17_looser_is_kept_too.Holds := by
 w_on;o_law;k_head;(case hw=>w_witness2)
 k_fill
 refine Ww (l:=PySem.Challenge.rw_momentties_k17_looser_is_kept_too) (n:=63) (k:=7) (x:="_law_script") (CX:=a9) (sp:=Y0.va) rfl (by decide) rfl ⟨rfl,by decide,by decide⟩ (fun w h Y=>PySem.W.kIn_of Y) ?F (fun K H a ns hl hO hS=>⟨a,ns,rfl,Y0.wI hO hS,fun _=>rfl⟩) (fun _ _ _ _ z=>z)
 case F=>
  intro w mg fa h KX G B4;obtain ⟨E1,Ux,J4⟩:=Y0.aJ KX G "room_bounds" Y0.c7 ["web"];obtain ⟨E2,Uy,J5⟩:=Y0.aJ KX G "span_bounds" Y0.cz ["spans"];obtain ⟨U8,G0,Je⟩:=Y0.aJ KX G "bounds_with" Y0.c9 ["web","ties"];obtain ⟨E3,Uz,J6⟩:=Y0.aJ KX G "told_bounds" Y0.bG ["web"];obtain ⟨Ez,Uw,J3⟩:=Y0.aJ KX G "ring_behind" Y0.c8 ["pushers","moment"];obtain ⟨Ef,Ud,Jl⟩:=Y0.aJ KX G "earliest_times" Y0.bE ["many","bounds"];obtain ⟨E5,U1,J8⟩:=Y0.aJ KX G "worst_bounds" Y0.bq ["web"];obtain ⟨Eh,Uf,Jn⟩:=Y0.aJ KX G "fixed" Y0.eG ["web"];obtain ⟨Eg,Ue,Jm⟩:=Y0.aJ KX G "falls_by_end" Y0.bX ["web"];obtain ⟨Ed,Ub,Jj⟩:=Y0.aJ KX G "by_sum" Y0.eY ["first","second"];obtain ⟨Eb,G9,Jh⟩:=Y0.aJ KX G "by_late" Y0.dJ ["falls","tie"];obtain ⟨Ec,Ua,Ji⟩:=Y0.aJ KX G "by_soon" Y0.dH ["falls","tie"];obtain ⟨Ee,Uc,Jk⟩:=Y0.aJ KX G "by_sure" Y0.dG ["falls","wait"];obtain ⟨U9,G7,Jf⟩:=Y0.aJ KX G "by_back" Y0.dM ["falls","wait","tie"];obtain ⟨Ea,G8,Jg⟩:=Y0.aJ KX G "by_cross" Y0.dm ["falls","wait"];obtain ⟨E4,U0,J7⟩:=Y0.aJ KX G "what_follows" Y0.br ["falls","word","used"];obtain ⟨U7,Gz,Jd⟩:=Y0.aJ KX G "bars_every_hand" Y0.bh ["what"];have Ja:∃C,Y0.Cr (gZ KX) mg C/\PySem.W.nsIn (gZ KX) mainGlobals "Closing"=some (some (.ref C)):=by
   unfold gZ;exact ⟨_,Y0.yd KX G,by k_is⟩
  obtain ⟨Gw,Ja,Gs⟩:=Ja;obtain ⟨Of,Oq,Gm⟩:=Y0.dn Gs "__init__" "Closing.__init__" Y0.cO ["self","web"];obtain ⟨Og,Os,Gn⟩:=Y0.dn Gs "is_news" "Closing.is_news" Y0.cf ["self","what"];obtain ⟨Oi,Ou,Gq⟩:=Y0.dn Gs "take" "Closing.take" Y0.cL ["self","what","word","used"];obtain ⟨Ob,Om,Gg⟩:=Y0.dn Gs "draw" "Closing.draw" Y0.bY ["self","word","used"];obtain ⟨Oh,Ot,Gp⟩:=Y0.dn Gs "known_of" "Closing.known_of" Y0.aY ["self","kind","a"];obtain ⟨Oj,Ov,Gr⟩:=Y0.dn Gs "ties_to" "Closing.ties_to" Y0.bj ["self","b"];obtain ⟨Od,Oo,Gj⟩:=Y0.dn Gs "draw_from_tie" "Closing.draw_from_tie" Y0.aV ["self","at","a","b"];obtain ⟨Oe,Op,Gk⟩:=Y0.dn Gs "draw_from_wait" "Closing.draw_from_wait" Y0.aR ["self","at","a"];obtain ⟨Oc,On,Gi⟩:=Y0.dn Gs "draw_all" "Closing.draw_all" Y0.bP ["self"];obtain ⟨Oa,Ol,Ge⟩:=Y0.dn Gs "best_drawn" "Closing.best_drawn" Y0.aP ["self","kind"];obtain ⟨Ew,Uu,J1⟩:=Y0.aJ KX G "numbers_needed" Y0.bx ["rows","last"];obtain ⟨Ey,Uv,J2⟩:=Y0.aJ KX G "paper_up_to" Y0.bH ["rows","last"];obtain ⟨Ei,Ug,Jo⟩:=Y0.aJ KX G "is_told" Y0.dF ["by_end","wait"];obtain ⟨Ej,Uh,Jp⟩:=Y0.aJ KX G "kept" Y0.gB ["web"];obtain ⟨U6,Gy,Jc⟩:=Y0.aJ KX G "are_two_moments" Y0.aN ["many","one","other"];obtain ⟨Eu,Us,Jz⟩:=Y0.aJ KX G "look_over_size" Y0.bC ["many","last"];obtain ⟨Ev,Ut,J0⟩:=Y0.aJ KX G "look_over_ties" Y0.bz ["many","ties"];obtain ⟨Et,Ur,Jy⟩:=Y0.aJ KX G "look_over_falls" Y0.aL ["many","falls"];have Jb:∃C,Y0.Ci (gZ KX) mg C/\PySem.W.nsIn (gZ KX) mainGlobals "Web"=some (some (.ref C)):=by
   unfold gZ;exact ⟨_,Y0.wB KX G,by k_is⟩
  obtain ⟨Gx,Jb,Gu⟩:=Jb;obtain ⟨E7,U3,Gb⟩:=Y0.dn Gu "__init__" "Web.__init__" Y0.eK ["self","many","last","ties","falls"];obtain ⟨E9,U5,Gd⟩:=Y0.dn Gu "ties" "Web.ties" Y0.eJ ["self"];obtain ⟨E6,U2,J9⟩:=Y0.dn Gu "falls" "Web.falls" Y0.dO ["self"];obtain ⟨E8,U4,Gc⟩:=Y0.dn Gu "own" "Web.own" Y0.cX ["self"];obtain ⟨Ep,Uo,Jv⟩:=Y0.aJ KX G "_law_next" Y0.iU ["_law_dice","_law_many"];obtain ⟨Eo,Um,Ju⟩:=Y0.aJ KX G "_law_named" Y0.jJ ["_law_moment","_law_many","_law_turn"];obtain ⟨El,Uj,Jr⟩:=Y0.aJ KX G "_law_falls" Y0.jK ["_law_d","_law_many","_law_wide"];obtain ⟨Er,Up,Jw⟩:=Y0.aJ KX G "_law_ties" Y0.kS ["_law_d","_law_many","_law_last","_law_wide"];obtain ⟨Es,Uq,Jx⟩:=Y0.aJ KX G "_law_web" Y0.qd ["_law_d","_law_most","_law_last","_law_wide"];obtain ⟨En,Ul,Jt⟩:=Y0.aJ KX G "_law_looser" Y0.eZ ["_law_d","_law_w"];obtain ⟨Em,Uk,Js⟩:=Y0.aJ KX G "_law_fixed" Y0.gC ["_law_web_here"];have Jq:∃f fd,Y0.Fn (gZ KX) mg "law" Y0.qe ["_law_script"] f fd/\∀(s:Shared) (u:Value),BindsTo s fd ⟨[u],[]⟩ [("_law_script",u)]:=by
   unfold gZ;exact ⟨_,_,Y0.vB KX G,fun s u=>.of_eq rfl⟩
  obtain ⟨Ek,Ui,Jq,Gv⟩:=Jq;have CN:∃C M fI fd,Y0.qZ (gZ KX) mg C M fI/\gI (gZ KX) "__init__" "NoTimes.__init__" Y0.cK fI fd/\eW (gZ KX) fd ["self","ring"] []/\PySem.W.exmOne (gZ KX) (.ref C) (.ref C)=some true:=by
   unfold gZ
   refine' ⟨_,_,_,_,Y0.sZ KX G ?aC ?aM ?ex ?b1 ?b2 ?b3 ?b4 ?b5 ?b6 ?nR ?z1 ?z2 ?z3,GY ?fl ?fc ?fk,?fb,?xm⟩
   (case aC|aM=>k_is)
   case ex=>
    refine' Y0.xZ ?l ?no ?ni ?tl ?fn ?kp ?sa
    (case l=>k_is);(case no=>with_unfolding_all rfl);(case ni=>k_is);(case tl=>with_unfolding_all rfl);(case fn|kp|sa=>k_is)
   (case b1|b2|b3|b4|b5|b6|nR|z1|z2|z3=>k_is)
   (case fl|fc|fk=>k_is)
   (case xm=>with_unfolding_all rfl)
   case fb=>exact .all fun us hl=>by obtain ⟨a,b,rfl⟩:=Qw us hl;rfl
  obtain ⟨cN,cM,fI,dI,TE,FI,bI,LD⟩:=CN;have TW:Y0.lA mg:=Y0.sX KX G;have TU:Y0.yi (gZ KX) mg:=by
   unfold gZ
   refine' Y0.sY KX G ?a ?t ?z
   (case a=>k_is);(case t=>with_unfolding_all rfl);(case z=>k_is)
  have Z:PySem.W.nsIn (gZ KX) mainGlobals "min"=some none/\PySem.W.nsIn (gZ KX) mainGlobals "max"=some none/\PySem.W.nsIn (gZ KX) mainGlobals "sorted"=some none:=by
   unfold gZ
   refine' ⟨?a,?b,?c⟩
   (case a|b|c=>k_is)
  have zl:=Ja.tc.len;have zr:=Ja.tc.range;have zt:=TU.tuple;have zm:=sg KX G Z.1;have zx:=sg KX G Z.2.1;have zs:=sg KX G Z.2.2;have e0:=B4.symm.trans Jq.g;cases e0;refine ⟨Ui,Gv,fun base kb nb=>?gg⟩
  case gg=>
   have GN:=Y0.tO (P:=iJ) (w:=w) (base:=base) Jv zl;have GM:=Y0.qi (P:=iJ) (w:=w) (base:=base) Ju;have GF:=Y0.qm Jr Jv GN zm zr;have GT:=Y0.tG Jw Jv GN zm zx zr;have GW:=Y0.wV Jx Jv GN Ju GM Jr GF Jw GT;have G2:=Y0.wW (P:=iJ) (w:=w) (base:=base) Jc;have GS:=Y0.tL (P:=iJ) (w:=w) (base:=base) Jz TW;have GLT:=Y0.qj J0 TW Jc G2;have GLF:=Y0.o8 Jy TW Jc G2;have GI:=Y0.tS Gb.F TW Jb.tc Jz GS J0 GLT Jy GLF;have Gt:=Y0.qh (P:=iJ) (w:=w) (base:=base) Gd.F TW Jb.tc;have Gf:=Y0.oA (P:=iJ) (w:=w) (base:=base) J9.F TW Jb.tc;have GRo:=Y0.tM (P:=iJ) (w:=w) (base:=base) J4 ⟨zr⟩ Jb.tc;have GSp:=Y0.tJ (P:=iJ) (w:=w) (base:=base) J5;have GBw:=Y0.tE Je Jb.tc J4 GRo J5 GSp J9.eM J9.b Gf;have Tf:=Y0.tF J6 Jb.tc Je GBw Gd.eM Gd.b Gt;have GBE:=Y0.qu Jm Jb.tc J9.eM J9.b Gf;have W1:=Y0.wX (P:=iJ) (w:=w) (base:=base) Jj;have W2:=Y0.tQ (P:=iJ) (w:=w) (base:=base) Jh;have W3:=Y0.tK (P:=iJ) (w:=w) (base:=base) Ji;have W4:=Y0.tI (P:=iJ) (w:=w) (base:=base) Jk ⟨zm⟩;have W5:=Y0.tX (P:=iJ) (w:=w) (base:=base) Jf ⟨zm⟩;have W6:=Y0.qp (P:=iJ) (w:=w) (base:=base) Jg ⟨zm⟩;have GWf:=Y0.mj J7 TU Jj W1 Jh W2 Ji W3 Jk W4 Jf W5 Jg W6;have GBa:=Y0.tW (P:=iJ) (w:=w) (base:=base) Jd;have GNw:=Y0.tP (P:=iJ) (w:=w) (base:=base) Gn.F Ja.tc;have Tg:=Y0.tH Gq.F Ja.tc Gn.eM Gn.b GNw Jd GBa;have Th:=Y0.tU Gg.F Ja.tc Gq.eM Gq.b Tg J7 GWf;have GKn:=Y0.qk (P:=iJ) (w:=w) (base:=base) Gp.F Ja.tc;have Td:=Y0.o4 (P:=iJ) (w:=w) (base:=base) Gr.F Ja.tc;have GFw:=Y0.kU Gk.F Ja.tc Gg.eM Gg.b Th Gr.eM Gr.b Td;have GFt:=Y0.mi Gj.F Ja.tc Gg.eM Gg.b Th Gr.eM Gr.b Td Gp.eM Gp.b GKn;have GDa:=Y0.ml Gi.F Ja.tc Gj.eM Gj.b GFt Gk.eM Gk.b GFw;have GCi:=Y0.qr Gm.F Ja.tc Jb.tc Gq.eM Gq.b Tg Jm GBE J6 Tf;have GBd:=Y0.tV (P:=iJ) (w:=w) (base:=base) Ge.F Ja.tc zs;have GNn:=Y0.o5 (P:=iJ) (w:=w) (base:=base) J1 zr zs;have GPu:=Y0.mh J2 zl zt J1 GNn;have GIt:=Y0.o9 (P:=iJ) (w:=w) (base:=base) Jo;have GKe:=Y0.tR Jp Ja.tc ⟨Ja.JH,Gm.a,Gm.i,Ja.kc⟩ Ja.g Gm.b GCi Gi.eM Gi.b GDa Ge.eM Ge.b GBd J2 GPu Jo GIt;have GNT:=Y0.wZ (P:=iJ) (w:=w) (base:=base) FI TE;have GRi:=Y0.tN (P:=iJ) (w:=w) (base:=base) J3 TE;have GE:=Y0.qo Jl TE bI GNT J3 GRi;have GOw:=Y0.wY (P:=iJ) (w:=w) (base:=base) Gc.F zr Jb.tc;have GWb:=Y0.qg J8 zr TE.list Jb.tc J6 Tf J9.eM J9.b Gf;have GFx:=Y0.ql Jn zr Jb.tc Jl GE J8 GWb Gc.eM Gc.b GOw;have GLo:=Y0.o6 Jt Jv GN zl zm zx;have GLf:=Y0.o7 Js TE.Bf LD Jn GFx;exact Y0.w_ Jq Jb.tc Jx GW ⟨Jb.JH,Gb.a,Gb.i,Jb.kc⟩ Gb.b GI Jp GKe Jt GLo Js GLf
