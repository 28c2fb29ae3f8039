import PyProof.Rows.All
import Wide.All
import OpenK.AllK
import Wide.FinOn
import Lean
import PyProof.EqAt
import PyProof.EqKinds
import PyProof.TupleCall
import PySem.Challenge.RW_momentties_k17_looser_is_kept_too
import KE.KTabLook
import PyProof.DictWalks
import PyProof.Rows.DictUnroll
import PyProof.Rows.SortShell
import PyProof.CollectWalk
import PyProof.DictTruth
import KE.KSortTup
abbrev ju := @Int.le_trans
abbrev iL := @List.mem_append_left
abbrev pH := @Array.toList_append
abbrev vI := @List.length_drop
abbrev nS := @Nat.le_succ
abbrev f_ := @Int.le_of_lt
abbrev lE := @Int.toNat_of_nonneg
abbrev zL := @PySem.mem_of_lookup
abbrev LV := @List.length_eq_zero_iff
abbrev rh := @Array.length_toList
abbrev LU := @Bool.eq_false_iff
abbrev aD := @Ne.symm
abbrev oU := @List.mem_iff_getElem?
abbrev uy := @PySem.boot_len
abbrev sv := @PySem.W.mg_none_of
abbrev ag := @PySem.wpAny_bind
abbrev aV := @PySem.wpAny_pure
abbrev su := @PySem.F.plainAttrs_list
abbrev rg := @PySem.F.slot_list_append
abbrev sr := @PySem.F.type_list_append
abbrev aB := @List.length_map
abbrev gO := @List.getElem?_eq_some_iff
abbrev az := @Nat.le_refl
abbrev kK := @List.getElem?_eq_getElem
abbrev cX := @PySem.Heap.get?_push_of_some
abbrev fj := @Classical.byContradiction
abbrev f9 := @List.getElem?_map
abbrev gq := @List.mem_of_getElem?
abbrev ik := @List.size_toArray
abbrev ig := @List.length_append
abbrev gz := @List.mem_cons_of_mem
abbrev eG := @List.mem_cons_self
abbrev f7 := @Bool.false_ne_true
abbrev eF := @Option.some.inj
abbrev gp := @List.lookup_cons
abbrev ef := @List.map_append
abbrev d9 := @Nat.zero_le
abbrev bp := @Nat.le_of_lt
abbrev dt := @PySem.Heap.lt_size
abbrev iK := @List.mem_singleton
abbrev eV := @List.mem_cons
abbrev eU := @List.map_cons
abbrev eE := @Nat.le_trans
abbrev ki := @PySem.Heap.get?_push_size
abbrev jB := @List.take_length
abbrev gY := @Nat.ne_of_lt
abbrev rf := @List.getElem?_append_right
abbrev ie := @List.length_take
abbrev jb := @Nat.lt_of_lt_of_le
abbrev kJ := @List.mem_append_right
abbrev i8 := @List.mem_append
abbrev kI := @List.length_cons
abbrev sk := @List.getElem?_append_left
abbrev eD := @List.mem_map
abbrev FG := @List.getElem_of_mem
abbrev Ck := @List.pairwise_iff_getElem
abbrev lD := @List.take_succ
abbrev yk := @List.all_eq_true
abbrev i7 := @Int.toNat_natCast
abbrev yj := @decide_eq_true_eq
abbrev Cm := @List.getD_eq_getElem?_getD
abbrev jC := @Nat.lt_irrefl
abbrev zK := @List.getElem_mem
abbrev LS := @List.length_nil
abbrev mH := @Nat.le_of_not_lt
abbrev so := @Nat.not_lt_zero
abbrev pG := @beq_self_eq_true
abbrev jt := @decide_eq_true
abbrev fY := @decide_eq_false
abbrev aF := PySem.W.Frag
noncomputable abbrev iJ := PySem.Challenge.rw_momentties_k17_looser_is_kept_too.prog
noncomputable section
variable {P:PySem.Program} {w:PySem.World} {K:aF} {mg:PySem.Str->Option PySem.Value} {base:PySem.Heap}
set_option Elab.async false
set_option linter.all false
set_option maxRecDepth 100000
namespace L2
open PySem PySem.Spec PyProof.Rows
abbrev fH (C:Addr) (dx:Option Addr) (t tb:Value):Obj:={ cls:=.ref C,dict:=dx,data:=.fields #[t,tb,.none,.none,.bool false,.none] }
def Hd (A:Around) (h:Heap):Prop:=A.handled=none\/∃(a C:Addr) (dx:Option Addr) (t tb:Value),A.handled=some (.ref a)/\h.get? a=some (fH C dx t tb)
theorem XQ:entryFor table "proto.unchain"=some Builtin.«proto.unchain»:=entryFor_of_tree (by kernel_rfl)
section
variable {prog:Program} {w:World} {A:Around} {E:Value->Shared->Prop} {s:Shared}
theorem Hd.keep (q:Hd A h) (k:∀b C dx t tb,h.get? b=some (fH C dx t tb)->h'.get? b=some (fH C dx t tb)):Hd A h':=by
 rcases q with q | ⟨a,C,dx,t,tb,q,e⟩
 ·exact .inl q
 ·exact .inr ⟨a,C,dx,t,tb,q,k a C dx t tb e⟩
theorem VS (q:Hd A s.heap) (he:s.heap.get? e=some oe) (hc:∃n,oe.cls=.type n) (hd:oe.data=.fields vs) (hz:2<vs.size)
 (h:∀h',Heap.SameBut e s.heap h'->(∃o,h'.get? e=some o/\o.cls=oe.cls)->E (.ref e) { s with heap:=h' }):wpAny (model prog w) A (raiseNew (.ref e):Sem α) Q E s:=by
 unfold raiseNew;refine ag (wpAny_handled ?_);rcases q with q | ⟨a,C,dx,t,tb,q,ea⟩
 ·rw [q];exact ag (aV (wpAny_throw (h s.heap (Heap.SameBut.refl ..) ⟨oe,he,rfl⟩)))
 ·rw [q];have ne:a≠e:=fun z=>by
   rw [z,he] at ea;obtain ⟨n,hn⟩:=hc;rw [eF ea] at hn;cases hn
  dsimp only;rw [if_pos (show (Value.ref a !=Value.ref e)=true by simp [ne])];refine ag (wpAny_holding (wpAny_runValue (codeAny_builtin XQ ?_)));show wpAny _ _ (field (.ref a) 2>>=_) _ _ s;refine ag (wpAny_field ea rfl (x:=.none) rfl ?_);rw [if_pos (by rfl)];refine ag (aV (aV ?_));refine ag (wpAny_setField (a:=e) he hd hz ?_);exact wpAny_throw (h _ (Heap.SameBut.update ..) ⟨_,Heap.get?_update_self _ he (Obj.isFreed_of_fields (Obj.data_mapFields hd _)),Obj.cls_mapFields ..⟩)
theorem Dh (q:Hd A s.heap)
 (h:∀e h',(∀b o,s.heap.get? b=some o->h'.get? b=some o)->(∃o,h'.get? e=some o/\o.cls=.type "StopIteration")->E (.ref e) { s with heap:=h' }):
 wpAny (model prog w) A (newExc (.type "StopIteration") []>>=fun x=>(raiseNew x:Sem α)) Q E s:=by
 refine ag ?_;unfold newExc newTuple;refine ag (wpAny_newObj_type ?_ (by size_fits));refine ag (wpAny_of_eq (a:=Value.none) (by first | rfl | (simp only [firstArgMember];rfl)) ?_);refine wpAny_newObj_type ?_ (by size_fits);refine VS (q.keep fun b C dx t tb e=>cX _ (cX _ e)) (ki _ rfl) ⟨_,rfl⟩ rfl (by simp;exact bp (Nat.le_add_left (Nat.succ 2).succ 2)) fun h' sb ⟨o,eo,ec⟩=>?_;refine h _ h' (fun b o' e=>?_) ⟨o,eo,ec⟩;have e1:=cX (h:=s.heap) { cls:=.type "tuple",data:=.seq ([]:List Value).toArray } e;exact (sb.2 b (gY (dt e1))).trans (cX _ e1)
theorem C_ {it:Addr} {s0:Shared} {e:Addr} {h':Heap} {Q:Option Value->Shared->Prop} (k:∀b o,b≠it->s0.heap.get? b=some o->h'.get? b=some o) (t:∃o,h'.get? e=some o/\o.cls=.type "StopIteration") (hQ:∀h',Heap.ExtBut it s0.heap h'->Q none { s0 with heap:=h' }):
 wpAny (model prog w) A (isInstance (.ref e) (.type "StopIteration")) (fun b s'=>b=true/\Q none s') E { s0 with heap:=h' }:=by
 obtain ⟨o,e1,e2⟩:=t;exact wpAny_isInstance (T:="StopIteration") (b:=true) ⟨o,e1,e2⟩ isSubtype_stop ⟨rfl,hQ h' fun b u hb e=>k b u hb e⟩
theorem X3 {it l:Addr} {i:Nat} {items:Array Value} {Q:Option Value->Shared->Prop} (q:Hd A s.heap) (st:s.heap.IsListIter it l i) (hl:s.heap.IsList l items) (hx:items[i]?=none)
 (hQ:∀h',Heap.ExtBut it s.heap h'->Q none { s with heap:=h' }):wpAny (model prog w) A (pyNext (.ref it)) Q E s:=by
 obtain ⟨u,hu,cu,du⟩:=id st;obtain ⟨v,hv,_,nv,dv⟩:=hl;unfold pyNext;refine ag (wpAny_attempt (wpAny_callSpecial?_slot (name:=Str.ofString "__next__") st.typeIs slot_listiter_next (wpAny_call_entry slot_listiter_next st.typeIs entry_listiter_next ?_ (args_listiter_next _))));show wpAny _ _ (field (.ref it) 0>>=_) _ _ s;refine ag (wpAny_field hu du (x:=.ref l) rfl ?_);rw [if_neg (show ¬((Value.ref l==Value.none)=true) from f7)];refine ag (wpAny_field hu du (x:=.int i 0) rfl (ag (wpAny_seqItems hv dv ?_)));simp only [i7,hx];refine ag (wpAny_rule (ag (wpAny_setField hu du (by simp) ?_)));have other:∀b o,b≠it->s.heap.get? b=some o->(s.heap.update it (Obj.mapFields (·.setIfInBounds 0 Value.none))).get? b=some o:=fun b o hb e=>(Heap.get?_update_other _ _ (aD hb)).trans e;refine Dh (A:=A.in1) (s:={ s with heap:=s.heap.update it (Obj.mapFields (·.setIfInBounds 0 Value.none)) }) (Hd.keep (A:=A.in1) q fun b C dx t tb e=>other b _ (fun z=>?_) e) fun e h' kk te=>?_
 ·rw [z,hu] at e;cases e;cases cu
 ·refine ag (wpAny_mono (C_ (s0:=s) (fun b o hb z=>kk b o (other b o hb z)) te hQ) (fun b s' z=>?_) fun _ _ z=>z);obtain ⟨rfl,z⟩:=z;exact aV z
theorem Qt {it:Addr} {x left step:Int} {Q:Option Value->Shared->Prop} (q:Hd A s.heap) (st:IsRangeIter s.heap it x left step) (hz:left<=0)
 (hQ:∀h',Heap.ExtBut it s.heap h'->Q none { s with heap:=h' }):wpAny (model prog w) A (pyNext (.ref it)) Q E s:=by
 have ty:s.TypeIs (.ref it) "range_iterator":=⟨_,st,rfl⟩;unfold pyNext;refine ag (wpAny_attempt (wpAny_callSpecial?_slot (name:=Str.ofString "__next__") ty F.slot_range_iterator_next (wpAny_call_entry F.slot_range_iterator_next ty F.entry_range_iterator_next ?_ (F.args_range_iterator_next_1 _))));show wpAny _ _ (field (.ref it) 0>>=_) _ _ s;refine ag (wpAny_field st rfl (x:=rawInt x) rfl (ag (wpAny_field st rfl (x:=rawInt left) rfl (ag (wpAny_field st rfl (x:=rawInt step) rfl ?_)))));show wpAny _ _ (if left<=0 then _ else _) _ _ s;rw [if_pos hz];refine ag (wpAny_rule ?_);refine ag ?_;refine Dh (A:=A.in1) (s:=s) q fun e h' kk te=>?_;refine ag (wpAny_mono (C_ (s0:=s) (fun b o _ z=>kk b o z) te hQ) (fun b s' z=>?_) fun _ _ z=>z);obtain ⟨rfl,z⟩:=z;exact aV z
theorem X1 {it t:Addr} {i:Nat} {items:Array Value} {Q:Option Value->Shared->Prop} (q:Hd A s.heap) (st:IsTupIter s.heap it t i) (hl:IsTup s.heap t items) (hx:items[i]?=none)
 (hQ:∀h',Heap.ExtBut it s.heap h'->Q none { s with heap:=h' }):wpAny (model prog w) A (pyNext (.ref it)) Q E s:=by
 obtain ⟨u,hu,cu,du⟩:=id st;obtain ⟨v,hv,_,nv,dv⟩:=hl;unfold pyNext;refine ag (wpAny_attempt (wpAny_callSpecial?_slot (name:=Str.ofString "__next__") st.typeIs slot_tupleiter_next (wpAny_call_entry slot_tupleiter_next st.typeIs entry_tupleiter_next ?_ (args_tupleiter_next _))));show wpAny _ _ (field (.ref it) 0>>=_) _ _ s;refine ag (wpAny_field hu du (x:=.ref t) rfl ?_);rw [if_neg (show ¬((Value.ref t==Value.none)=true) from f7)];refine ag (wpAny_field hu du (x:=.int i 0) rfl (ag (wpAny_seqItems hv dv ?_)));simp only [i7,hx];refine ag (wpAny_rule (ag (wpAny_setField hu du (by simp) ?_)));have other:∀b o,b≠it->s.heap.get? b=some o->(s.heap.update it (Obj.mapFields (·.setIfInBounds 0 Value.none))).get? b=some o:=fun b o hb e=>(Heap.get?_update_other _ _ (aD hb)).trans e;refine Dh (A:=A.in1) (s:={ s with heap:=s.heap.update it (Obj.mapFields (·.setIfInBounds 0 Value.none)) }) (Hd.keep (A:=A.in1) q fun b C dx tt tb e=>other b _ (fun z=>?_) e) fun e h' kk te=>?_
 ·rw [z,hu] at e;cases e;cases cu
 ·refine ag (wpAny_mono (C_ (s0:=s) (fun b o hb z=>kk b o (other b o hb z)) te hQ) (fun b s' z=>?_) fun _ _ z=>z);obtain ⟨rfl,z⟩:=z;exact aV z
theorem XT {lo:Int} {i n:Nat} (hi:i<n) (st:IsRangeIter s.heap it (lo+(i:Nat)*1) ((n:Int)-(i:Nat)) 1)
 (hQ:∀(t:Tok) h' tk,IsRangeIter h' it (lo+((i+1:Nat):Int)*1) ((n:Int)-((i+1:Nat):Int)) 1->(∀b o,b∉[it]->s.heap.get? b=some o->h'.get? b=some o)->Q (some (.int (lo+(i:Nat)*1) t)) { s with heap:=h',toks:=tk }):
 wpAny (model prog w) A (pyNext (.ref it)) Q E s:=by
 refine wpAny_pyNext_range_item st (by lia) fun h' ae sb=>?_;refine hQ _ h' _ ?_ fun b o hb e=>sb.extBut b o (fun z=>hb (by simp [z])) e;have e1:lo+((i+1:Nat):Int)*1=lo+(i:Int)*1+1:=by lia
 have e2:(n:Int)-((i+1:Nat):Int)=(n:Int)-(i:Int)-1:=by lia
 rw [e1,e2];exact ae
end
abbrev Key:=Sum Int Str
def vY:Key->Value->Bool
 | .inl k,v=>Value.isInt k v
 | .inr x,v=>Value.isStrOf x v
def YO (w:World):Key->Int
 | .inl k=>hashInt k
 | .inr x=>hashStr w x
theorem rS:∀{k:Key} {v:Value},vY k v=true->(∃i t,k=Sum.inl i/\v=Value.int i t)\/(∃x t,k=Sum.inr x/\v=Value.str x t)
 | .inl i,v,h=>by
  obtain ⟨t,e⟩:=Value.isInt_shape (k:=i) (v:=v) h;exact .inl ⟨i,t,rfl,e⟩
 | .inr x,v,h=>by
  obtain ⟨t,e⟩:=Value.isStrOf_shape (x:=x) (v:=v) h;exact .inr ⟨x,t,rfl,e⟩
theorem WB (i:Int) (t:Tok):vY (.inl i) (.int i t)=true:=by simp [vY,Value.isInt]
theorem WC (x:Str) (t:Tok):vY (.inr x) (.str x t)=true:=by simp [vY,Value.isStrOf]
theorem TJ (a b:Int):decide ((Sum.inl a:Key)=Sum.inl b)=(a==b):=by
 by_cases e:a=b
 ·subst e;simp
 ·have h:¬(Sum.inl a:Key)=Sum.inl b:=fun q=>e (Sum.inl.inj q);rw [fY h];exact (beq_eq_false_iff_ne.mpr e).symm
theorem TM (a b:Str):decide ((Sum.inr a:Key)=Sum.inr b)=decide (a=b):=by
 by_cases e:a=b
 ·subst e;simp
 ·have h:¬(Sum.inr a:Key)=Sum.inr b:=fun q=>e (Sum.inr.inj q);rw [fY h,fY e]
theorem TK (a:Int) (b:Str):decide ((Sum.inl a:Key)=Sum.inr b)=false:=fY nofun
theorem TL (a:Str) (b:Int):decide ((Sum.inr a:Key)=Sum.inl b)=false:=fY nofun
def md (prog:Program) (w:World):PySem.KeyKind prog w Key where
 is:=vY
 hash:=YO w
 inj:=fun v a b ha hb=>by
  rcases rS ha with ⟨i,t,rfl,rfl⟩ | ⟨x,t,rfl,rfl⟩
  ·rcases rS hb with ⟨j,u,rfl,e⟩ | ⟨y,u,rfl,e⟩
   ·injection e with e1 _;rw [e1]
   ·exact nomatch e
  ·rcases rS hb with ⟨j,u,rfl,e⟩ | ⟨y,u,rfl,e⟩
   ·exact nomatch e
   ·injection e with e1 _;rw [e1]
 byValue:=fun k v h=>by
  rcases rS h with ⟨i,t,rfl,rfl⟩ | ⟨x,t,rfl,rfl⟩<;>rfl
 pyHash:=fun hv h=>by
  rcases rS hv with ⟨i,t,rfl,rfl⟩ | ⟨x,t,rfl,rfl⟩
  ·exact wpAny_pyHash_int h
  ·exact wpAny_pyHash_str h
 eqBool:=fun hu hv h=>by
  rcases rS hu with ⟨i,t,rfl,rfl⟩ | ⟨x,t,rfl,rfl⟩
  ·rcases rS hv with ⟨j,u,rfl,rfl⟩ | ⟨y,u,rfl,rfl⟩
   ·rw [TJ] at h;exact wpAny_eqBool_int h
   ·rw [TK] at h;exact SeqAt.EqAt.int_str i t y u _ _ _ _ h
  ·rcases rS hv with ⟨j,u,rfl,rfl⟩ | ⟨y,u,rfl,rfl⟩
   ·rw [TL] at h;exact SeqAt.EqAt.str_int x t j u _ _ _ _ h
   ·rw [TM] at h;exact wpAny_eqBool_str h
 «strs»:=fun k x t v h=>by
  rcases rS h with ⟨i,u,rfl,e⟩ | ⟨y,u,rfl,e⟩
  ·exact nomatch e
  ·injection e with e1 _
   subst e1;cases v<;>rfl
theorem X4 (prog:Program) (w:World) (i:Int) (t:Tok):(md prog w).is (.inl i) (.int i t)=true:=WB i t
theorem X5 (prog:Program) (w:World) (x:Str) (t:Tok):(md prog w).is (.inr x) (.str x t)=true:=WC x t
inductive V where
 | aU | bl (b:Bool) | int (i:Int) | str (x:Str) | oR (b:Array UInt8) | x_ (b:UInt64) | ref (a:Addr) | ty (n:String)
 deriving DecidableEq
def bR:V->Value->Prop
 | .aU,u=>u=Value.none
 | .bl b,u=>u=Value.bool b
 | .int i,u=>∃t,u=Value.int i t
 | .str x,u=>∃t,u=Value.str x t
 | .oR b,u=>∃t,u=Value.bytes b t
 | .x_ b,u=>∃t,u=Value.float b t
 | .ref a,u=>u=Value.ref a
 | .ty n,u=>u=Value.type n
abbrev bq:List V->List Value->Prop:=Paired bR
theorem bq.length (r:bq xs us):xs.length=us.length:=Paired.length r
theorem bq.get:∀{xs:List V} {us:List Value} {i:Nat} {x:V},bq xs us->xs[i]?=some x->∃u,us[i]?=some u/\bR x u
 | _,_,_,_,.nil,e=>by simp at e
 | _,_,0,_,.cons r _,e=>by simp at e;subst e;exact ⟨_,rfl,r⟩
 | _,_,i+1,x,.cons _ t,e=>by
  obtain ⟨u,h1,h2⟩:=bq.get (i:=i) (x:=x) t (by simpa using e);exact ⟨u,by simpa using h1,h2⟩
theorem bq.set (r:bR x u):∀{xs:List V} {us:List Value} (i:Nat),bq xs us->bq (xs.set i x) (us.set i u)
 | _,_,_,.nil=>.nil
 | _,_,0,.cons _ t=>.cons r t
 | _,_,i+1,.cons q t=>.cons q (bq.set r i t)
theorem bq.append {xs ys:List V} {us ws:List Value} (h:bq xs us) (s:bq ys ws):bq (xs++ys) (us++ws):=by
 induction h with
 | nil=>exact s
 | cons r t ih=>exact .cons r ih
theorem bq.take:∀{xs:List V} {us:List Value} (n:Nat),bq xs us->bq (xs.take n) (us.take n)
 | _,_,0,_=>.nil
 | _,_,_+1,.nil=>.nil
 | _,_,n+1,.cons r t=>.cons r (bq.take n t)
theorem bq.drop:∀{xs:List V} {us:List Value} (n:Nat),bq xs us->bq (xs.drop n) (us.drop n)
 | _,_,0,r=>r
 | _,_,_+1,.nil=>.nil
 | _,_,n+1,.cons _ t=>bq.drop n t
def jD:Option V->Option Value->Prop
 | some v,some u=>bR v u
 | none,none=>True
 | _,_=>False
def KV {κ:Type}:List (κ×V)->List (κ×Value)->Prop:=Paired fun (p:κ×V) (q:κ×Value)=>p.1=q.1/\bR p.2 q.2
def kV:Key->V
 | .inl i=>.int i
 | .inr x=>.str x
inductive HO where
 | lst (xs:List V)
 | tup (xs:List V)
 | dK (kvs:List (Key×V)) | dT (kvs:List (List Key×V))
 | set (S:Int->Bool) (n:Nat)
 | ins (C dx:Addr) (fs:List (Str×V))
 | own (x:Addr)
 | xd (fs:List (Str×V))
 | met (f x:Addr)
 | JB (lo hi:Int)
 | gH (o:Obj) (u:HO)
 | wH (ps:Array Value)
 | ext (φ:Heap->Prop)
abbrev Hp:=Addr->Option HO
def upd (H:Hp) (a:Addr) (o:HO):Hp:=fun b=>if b=a then some o else H b
theorem ai:upd H a o a=some o:=by unfold upd;rw [if_pos rfl]
theorem ak (h:b≠a):upd H a o b=H b:=by unfold upd;rw [if_neg h]
theorem NP:upd (upd H a o) a u=upd H a u:=by
 funext b;unfold upd;split<;>rfl
theorem cH {H:Hp} {a b:Addr} {o u:HO} (h:H a=some o) (h':H b=some u) (d:o≠u):a≠b:=by
 intro e;subst e;rw [h] at h';exact d (eF h')
theorem aR {H:Hp} {a b:Addr} {o:HO} (h:H a=some o) (h':H b=none):a≠b:=by
 intro e;subst e;rw [h] at h';cases h'
section
variable (P:Program) (w:World)
def eh (H:Hp) (h:Heap) (a:Addr):HO->Prop
 | .lst xs=>xs.length<=sizeLine/\∃(its:List Value) (n:Nat),bq xs its/\h.get? a=some { cls:=.type "list",data:=.seq its.toArray n }
 | .tup xs=>xs.length<=sizeLine/\∃its:List Value,bq xs its/\IsTup h a its.toArray
 | .dK kvs=>kvs.length<=sizeLine/\(a==sysModules)=false/\∃vs,KV kvs vs/\h.DictOf (md P w) a vs
 | .dT kvs=>kvs.length<=sizeLine/\(a==sysModules)=false/\∃xs:List (List Key×Addr×Value),
  Paired (fun (p:List Key×V) (q:List Key×Addr×Value)=>p.1=q.1/\H q.2.1=some (.tup (p.1.map kV))/\bR p.2 q.2.2) kvs xs/\
  ∃o es ep,h.get? a=some o/\o.ExactDict/\o.data=.dict es ep/\es.toList=xs.map (entryOfKey (tupleKind (md P w)))/\(xs.map (·.1)).Nodup
 | .set S n=>h.SetOf (intKind P w) a S n
 | .ins C dx fs=>H dx=some (.own a)/\fs.length<=1000/\dx≠a/\h.get? a=some (PySem.W.instObj C dx)/\
  ∃mA,h.Ns1 dx mA/\(∀f,jD (fs.lookup f) (mA f))/\PySem.Within mA (fs.map (·.1))
 | .own _=>∃o,h.get? a=some o
 | .xd fs=>∃mA,h.Ns1 a mA/\∀f,jD (fs.lookup f) (mA f)
 | .JB lo hi=>∃t u v,h.get? a=some { cls:=.type "range",data:=.fields #[.int lo t,.int hi u,.int 1 v] }
 | .gH o u=>h.get? a=some o/\eh H h a u
 | .wH ps=>h.get? a=some { cls:=.none,data:=.fields ps }
 | .met f x=>h.get? a=some (PySem.W.methodObj (.ref f) (.ref x))
 | .ext φ=>φ h/\(∃o,h.get? a=some o)/\∀h1 h2:Heap,φ h1->(∀o,h1.get? a=some o->h2.get? a=some o)->φ h2
def eI (H:Hp) (h:Heap):Prop:=∀a o,H a=some o->eh P w H h a o
end
section
variable {P:Program} {w:World} {H H':Hp} {h h':Heap} {a:Addr} {o:HO}
theorem eh.lt (x:eh P w H h a o):a<h.objs.size:=by
 cases o with
 | lst xs=>obtain ⟨_,_,_,_,e⟩:=x;exact dt e
 | tup xs=>obtain ⟨_,_,_,p⟩:=x;exact p.lt
 | dK kvs=>obtain ⟨_,_,_,_,o,_,_,e,_⟩:=x;exact dt e
 | dT kvs=>obtain ⟨_,_,_,_,o,_,_,e,_⟩:=x;exact dt e
 | set S n=>obtain ⟨o,_,_,_,e,_⟩:=x;exact dt e
 | ins C dx fs=>obtain ⟨_,_,_,e,_⟩:=x;exact dt e
 | own y=>obtain ⟨_,e⟩:=x;exact dt e
 | xd fs=>obtain ⟨_,⟨_,_,_,e,_⟩,_⟩:=x;exact dt e
 | JB lo hi=>obtain ⟨_,_,_,e⟩:=x;exact dt e
 | gH ob u=>obtain ⟨e,_⟩:=x;exact dt e
 | wH ps=>exact dt (show h.get? a=some _ from x)
 | met f y=>exact dt (show h.get? a=some _ from x)
 | ext φ=>obtain ⟨_,⟨_,e⟩,_⟩:=x;exact dt e
theorem Paired.xk {l₁:List α} {l₂:List β} (h:Paired F l₁ l₂) (f:∀a b,F a b->G a b):Paired G l₁ l₂:=by
 induction h with
 | nil=>exact .nil
 | cons r t ih=>exact .cons (f _ _ r) ih
theorem eh.fv (x:eh P w H h a o) (k:∀b u,(b=a\/H b=some (.own a))->h.get? b=some u->h'.get? b=some u)
 (ho:∀b,H b=some (.own a)->H' b=some (.own a)) (ht:∀b xs,H b=some (.tup xs)->H' b=some (.tup xs)):eh P w H' h' a o:=by
 induction o with
 | lst xs=>obtain ⟨z,its,n,r,e⟩:=x;exact ⟨z,its,n,r,k _ _ (.inl rfl) e⟩
 | tup xs=>obtain ⟨z,its,r,ob,e,c⟩:=x;exact ⟨z,its,r,ob,k _ _ (.inl rfl) e,c⟩
 | dK kvs=>obtain ⟨z,y,vs,r,ob,es,ep,e,c⟩:=x;exact ⟨z,y,vs,r,ob,es,ep,k _ _ (.inl rfl) e,c⟩
 | dT kvs=>
  obtain ⟨z,y,xs,r,ob,es,ep,e,c⟩:=x;exact ⟨z,y,xs,Paired.xk r fun p q z=>⟨z.1,ht _ _ z.2.1,z.2.2⟩,ob,es,ep,k _ _ (.inl rfl) e,c⟩
 | set S n=>obtain ⟨ob,es,ep,t,e,c⟩:=x;exact ⟨ob,es,ep,t,k _ _ (.inl rfl) e,c⟩
 | ins C dx fs=>
  obtain ⟨d,z,ne,e,mA,⟨od,es,ep,e2,c⟩,r⟩:=x;exact ⟨ho _ d,z,ne,k _ _ (.inl rfl) e,mA,⟨od,es,ep,k _ _ (.inr d) e2,c⟩,r⟩
 | own y=>obtain ⟨ob,e⟩:=x;exact ⟨ob,k _ _ (.inl rfl) e⟩
 | xd fs=>obtain ⟨mA,⟨od,es,ep,e,c⟩,r⟩:=x;exact ⟨mA,⟨od,es,ep,k _ _ (.inl rfl) e,c⟩,r⟩
 | JB lo hi=>obtain ⟨t,u,v,e⟩:=x;exact ⟨t,u,v,k _ _ (.inl rfl) e⟩
 | gH ob u ih=>obtain ⟨e,q⟩:=x;exact ⟨k _ _ (.inl rfl) e,ih q⟩
 | wH ps=>
  have e:h.get? a=some { cls:=.none,data:=.fields ps }:=x;show h'.get? a=some { cls:=.none,data:=.fields ps };exact k a _ (.inl rfl) e
 | met f y=>
  have e:h.get? a=some (PySem.W.methodObj (.ref f) (.ref y)):=x;show h'.get? a=some (PySem.W.methodObj (.ref f) (.ref y));exact k a _ (.inl rfl) e
 | ext φ=>obtain ⟨p,⟨o,e⟩,st⟩:=x;exact ⟨st _ _ p fun o q=>k _ _ (.inl rfl) q,⟨o,k _ _ (.inl rfl) e⟩,st⟩
theorem eI.lt (x:eI P w H h) (e:H a=some o):a<h.objs.size:=(x a o e).lt
theorem eI.fresh (x:eI P w H h) (e:h.objs.size<=a):H a=none:=by
 cases q:H a with
 | none=>rfl
 | some u=>exact absurd (jb (x.lt q) e) (jC _)
theorem eI.kept (x:eI P w H h) (k:∀b u,h.get? b=some u->h'.get? b=some u):eI P w H h':=fun a o e=>
 (x a o e).fv (fun b u _ q=>k b u q) (fun _ q=>q) fun _ _ q=>q
theorem eI.laid (x:eI P w H h) (k:∀b u,h.get? b=some u->h'.get? b=some u) (hp:h.objs.size<=a) (new:eh P w (upd H a o) h' a o):eI P w (upd H a o) h':=fun b u e=>by
 have hn:=x.fresh hp
 by_cases hb:b=a
 ·subst hb;rw [ai] at e;cases e;exact new
 ·rw [ak hb] at e;exact (x b u e).fv (fun c v _ q=>k c v q) (fun c q=>by rw [ak (aR q hn)];exact q) fun c xs q=>by rw [ak (aR q hn)];exact q
end
def Rd (H:Hp) (a:Addr) (u:HO):Prop:=H a=some u\/∃o,H a=some (.gH o u)
theorem Rd.ok {P:Program} {w:World} (r:Rd H a u) (x:eI P w H h):eh P w H h a u:=by
 rcases r with r | ⟨o,r⟩
 ·exact x a u r
 ·obtain ⟨_,q⟩:=x a _ r;exact q
def zM:Option HO->Prop
 | some (.lst _)=>True
 | some (.dK _)=>True
 | some (.dT _)=>True
 | some (.set _ _)=>True
 | some (.ins _ _ _)=>True
 | some (.ext _)=>True
 | _=>False
section
variable {P:Program} {w:World} {H:Hp} {h h':Heap} {x e:Addr} {o':HO}
theorem eI.write (ok:eI P w H h) (mu:zM (H x)) (he:e=x\/H e=some (.own x)) (k:∀b u,b≠e->h.get? b=some u->h'.get? b=some u) (zA:∃u,h'.get? e=some u)
 (new:eh P w (upd H x o') h' x o'):eI P w (upd H x o') h':=fun b u q=>by
 have uc:∀c y,H c=some (.own y)->c≠x:=fun c y r z=>by subst z;rw [r] at mu;exact mu
 have xi:∀c xs,H c=some (.tup xs)->c≠x:=fun c xs r z=>by subst z;rw [r] at mu;exact mu
 by_cases hb:b=x
 ·subst hb;rw [ai] at q;cases q;exact new
 ·rw [ak hb] at q
  by_cases qR:b=e
  ·have q':H b=some (.own x):=by
    rcases he with z | z
    ·exact absurd (qR.trans z) hb
    ·rw [qR];exact z
   rw [q] at q';cases q';obtain ⟨v,hv⟩:=zA;exact ⟨v,by rw [qR];exact hv⟩
  ·refine (ok b u q).fv (fun c v hc r=>k c v ?_ r) (fun c r=>by rw [ak (uc c b r)];exact r) fun c xs r=>by rw [ak (xi c xs r)];exact r
   rcases hc with rfl | hc
   ·exact qR
   ·rintro rfl;rcases he with z | z
    ·exact uc c b hc z
    ·rw [hc] at z;cases z;exact hb rfl
end
structure Un (fs ex:List Addr) (H H':Hp) (h h':Heap):Prop where
 keep:∀b o,h.get? b=some o->H b=none->b∉fs->b∉ex->h'.get? b=some o
 slot:∀b o,h.get? b=some o->H b=none->b∈fs->b∉ex->∃sl,h'.get? b=some { o with slots:=sl }
 free:∀b o,h.get? b=some o->H b=none->b∉ex->H' b=none
 there:∀b o,h.get? b=some o->b∉ex->∃o',h'.get? b=some o'
 gB:∀b xs,H b=some (.tup xs)->H' b=some (.tup xs)
 gm:∀b o u,H b=some (.gH o u)->H' b=some (.gH o u)
 iu:∀b ps,H b=some (.wH ps)->∃more,H' b=some (.wH (ps++more))
section
variable {fs fs' ex F9:List Addr} {H H1 H2:Hp} {h h1 h2 h':Heap} {a x e:Addr} {o:HO}
theorem Un.any (u:Un fs ex H H1 h h1) (q:h.get? b=some ob) (n:H b=none) (hx:b∉ex):∃sl,h1.get? b=some { ob with slots:=sl }:=by
 by_cases hb:b∈fs
 ·exact u.slot b ob q n hb hx
 ·exact ⟨ob.slots,u.keep b ob q n hb hx⟩
theorem Un.kept (k:∀b u,h.get? b=some u->h'.get? b=some u):Un fs ex H H h h':=
 ⟨fun b ob q _ _ _=>k b ob q,fun b ob q _ _ _=>⟨ob.slots,k b ob q⟩,fun _ _ _ n _=>n,fun b ob q _=>⟨ob,k b ob q⟩,fun _ _ q=>q,fun _ _ _ q=>q,fun _ ps q=>⟨#[],by rw [q];simp⟩⟩
theorem Un.refl:Un fs ex H H h h:=Un.kept fun _ _ q=>q
theorem Un.laid (k:∀b u,h.get? b=some u->h'.get? b=some u) (hp:h.objs.size<=a) (hn:H a=none):Un fs ex H (upd H a o) h h' where
 keep:=fun b u q _ _ _=>k b u q
 slot:=fun b u q _ _ _=>⟨u.slots,k b u q⟩
 free:=fun b u q n _=>by rw [ak (gY (jb (dt q) hp))];exact n
 there:=fun b u q _=>⟨u,k b u q⟩
 gB:=fun b xs q=>by rw [ak (aR q hn)];exact q
 gm:=fun b u xs q=>by rw [ak (aR q hn)];exact q
 iu:=fun b ps q=>⟨#[],by rw [ak (aR q hn),q];simp⟩
theorem Un.write (mu:zM (H x)) (he:e=x\/H e=some (.own x)) (k:∀b u,b≠e->h.get? b=some u->h'.get? b=some u) (zA:∃u,h'.get? e=some u):Un fs ex H (upd H x o) h h':=by
 have hx:∀b,H b=none->b≠x:=fun b n z=>by subst z;rw [n] at mu;exact mu
 have hb:∀b,H b=none->b≠e:=fun b n z=>by
  subst z;rcases he with r | r
  ·exact hx b n r
  ·rw [n] at r;cases r
 have hm:∀b u,H b=some u->¬zM (some u)->b≠x:=fun b u q nm z=>by subst z;rw [q] at mu;exact nm mu
 refine ⟨fun b u q n _ _=>k b u (hb b n) q,fun b u q n _ _=>⟨u.slots,k b u (hb b n) q⟩,fun b u q n _=>by rw [ak (hx b n)];exact n,fun b u q _=>?_,
  fun b xs q=>by rw [ak (hm b _ q fun z=>z)];exact q,fun b u xs q=>by rw [ak (hm b _ q fun z=>z)];exact q,fun b ps q=>⟨#[],by rw [ak (hm b _ q fun z=>z),q];simp⟩⟩
 by_cases qR:b=e
 ·subst qR;exact zA
 ·exact ⟨u,k b u qR q⟩
end
def EE (h:Heap) (H:Hp):List Addr:=(List.range h.objs.size).filter fun a=>(H a).isSome
def sI (h:Heap) (H:Hp):Heap:=PySem.W.hideAll h (EE h H)
theorem WS (h:Heap) (H:Hp):(sI h H).objs.size=h.objs.size:=PySem.W.hideAll_size _ _
theorem VD (e:h.get? b=some o) (n:H b=none):(sI h H).get? b=some o:=
 PySem.W.hideAll_get _ e fun hm=>by
  have q:(H b).isSome=true:=(List.mem_filter.mp hm).2;rw [n] at q;simp at q
theorem Vs (e:(sI h H).get? b=some o):h.get? b=some o/\H b=none:=by
 have e':h.get? b=some o:=PySem.W.of_hideAll (EE h H) e;refine ⟨e',?_⟩
 cases q:H b with
 | none=>rfl
 | some x=>
  have hm:b∈EE h H:=List.mem_filter.mpr ⟨List.mem_range.mpr (dt e'),by simp [q]⟩;have z:(sI h H).get? b=none:=PySem.W.hideAll_none (EE h H) hm;rw [z] at e;cases e
structure Mod (K:aF) (mg:Str->Option Value) (base:Heap):Prop where
 zh:K.In base
 glob:base.Ns mainGlobals mg
 blt:∃mb,base.Ns builtinsNs mb/\∀x:Str,x≠"__name__"->mb x=bootBuiltins x
 nolimit:base.NoLimit
structure Cx where
 prog:Program
 w:World
 K:aF
 mg:Str->Option Value
 base:Heap
 A:Around
 N:List Str
 bU:Shared
 gr:Hp
 env:Env
 outer:List Env
 stack:List Env
 ex:List Addr
 fn:Str->Bool
 calm:Bool
 pn:List (Addr×Obj)
 xe:Value->Shared->Prop
def kf (l:List Env):List Addr:=l.filterMap (·.frame)
abbrev Cx.fs (X:Cx):List Addr:=kf X.outer
def FH (sc:Scope) (x:Str):Prop:=sc.names.lookup x=some .local\/sc.names.lookup x=some .cell\/sc.names.lookup x=some .free
def Loc (sc:Scope) (x:Str):Prop:=sc.names.lookup x=some .local\/sc.names.lookup x=some .cell
def Ya (env:Env) (h:Heap) (m:Str->Option Value) (x:Str) (u:Value):Prop:=
 (env.kindOf x=some .local/\m x=some u)\/((env.kindOf x=some .cell\/env.kindOf x=some .free)/\∃c,env.cells.lookup x=some c/\h.IsCell c (some u))
structure Cx.Ok (X:Cx):Prop where
 mod:Mod X.K X.mg X.base
 kind:X.env.scope.kind=.function
 glob:X.env.globals=mainGlobals
 blt:X.env.builtins=builtinsNs
 above:X.bU.heap.objs.size<=X.env.locals
 inj:∀x y c,X.env.cells.lookup x=some c->X.env.cells.lookup y=some c->x=y
 has:∀x,(X.env.kindOf x=some .cell\/X.env.kindOf x=some .free)->∃c,X.env.cells.lookup x=some c
 ux:∀x c,X.fn x=true->X.env.cells.lookup x=some c->X.bU.heap.objs.size<=c
 hd:X.calm=true->X.A.handled=none
 frames:X.A.frames=some X.stack
 vd:X.stack=X.outer\/(X.stack=X.env::X.outer/\X.env.frame=some X.env.locals)
 zH:∀b∈X.ex,b≠X.env.locals/\∀x c,X.env.cells.lookup x=some c->c≠b
 bs:∀b o,X.base.get? b=some o->X.bU.heap.get? b=some o/\X.gr b=none
 oS:X.base.objs.size<=X.bU.heap.objs.size
 jP:∀b o,X.base.get? b=some o->b∉X.ex
 kg:∀b∈X.ex,b∉X.fs
 eS:X.bU.heap.FunFrames X.base X.outer
 pC:∀b∈X.fs,X.gr b=none
structure Inv (X:Cx) (pins:List (Addr×Obj)) (σ:List (Option V)) (H:Hp) (s:Shared):Prop where
 ok:X.Ok
 os:s.os=X.bU.os
 bare:AllBare s.gens
 base:Un X.fs X.ex X.gr H X.bU.heap s.heap
 loc:∃m,s.heap.Ns X.env.locals m/\∀(i:Nat) (x:Str) (v:V),X.N[i]?=some x->σ[i]?=some (some v)->FH X.env.scope x->∃u,bR v u/\Ya X.env s.heap m x u
 cell:∀x c,X.env.cells.lookup x=some c->∃v,s.heap.IsCell c v
 free:H X.env.locals=none
 cE:∀x c,X.env.cells.lookup x=some c->H c=none
 pin:∀p∈X.pn++pins,s.heap.get? p.1=some p.2/\H p.1=none/\p.1≠X.env.locals/\p.1∉X.fs/\∀v,p.2.data≠.cell v
 af:eI X.prog X.w H s.heap
 len:σ.length=X.N.length
section
variable {X:Cx} {pins:List (Addr×Obj)} {σ:List (Option V)} {H H':Hp} {s:Shared} {h':Heap}
theorem Cx.Ok.JL (ok:X.Ok) (e:X.base.get? b=some o):b∉X.fs:=fun hb=>by
 have:=(ok.eS.mem hb).1;rw [e] at this;cases this
theorem Inv.bs (I:Inv X pins σ H s):∀b o,X.base.get? b=some o->s.heap.get? b=some o/\H b=none:=fun b o e=>
 ⟨I.base.keep b o (I.ok.bs b o e).1 (I.ok.bs b o e).2 (I.ok.JL e) (I.ok.jP b o e),I.base.free b o (I.ok.bs b o e).1 (I.ok.bs b o e).2 (I.ok.jP b o e)⟩
theorem Inv.bk (I:Inv X pins σ H s):∀b o,X.base.get? b=some o->s.heap.get? b=some o:=fun b o e=>(I.bs b o e).1
theorem Inv.mod (I:Inv X pins σ H s):Mod X.K X.mg X.base:=I.ok.mod
theorem Inv.gM (I:Inv X pins σ H s):X.K.In s.heap:=I.ok.mod.zh.keeps I.bk
theorem Inv.lt (I:Inv X pins σ H s):X.env.locals<s.heap.objs.size:=let ⟨_,hn,_⟩:=I.loc;hn.lt
theorem Inv.sz (I:Inv X pins σ H s):X.bU.heap.objs.size<=s.heap.objs.size:=eE I.ok.above (bp I.lt)
theorem Inv.JK (I:Inv X pins σ H s) (h:s.heap.objs.size<=a):a∉X.fs:=fun hb=>by
 obtain ⟨_,o,ho,_⟩:=I.ok.eS.mem hb;exact absurd (jb (dt ho) (eE I.sz h)) (jC _)
theorem Inv.yg (I:Inv X pins σ H s):∀x c,X.env.cells.lookup x=some c->c≠X.env.locals:=fun x c e z=>by
 obtain ⟨v,o,ho,hd⟩:=I.cell x c e;obtain ⟨m,⟨o',es,ep,lQ,zB,_⟩,_⟩:=I.loc;rw [z,lQ] at ho;cases ho;rw [zB] at hd;cases hd
theorem Inv.eS (I:Inv X pins σ H s):s.heap.FunFrames X.base X.outer:=by
 have all:∀(l:List Env),(∀b∈kf l,b∈X.fs)->X.bU.heap.FunFrames X.base l->s.heap.FunFrames X.base l:=by
  intro l
  induction l with
  | nil=>intro _ _;trivial
  | cons env r ih=>
   intro hs hl;obtain ⟨hk,⟨L,o,hf,hn,ho,hd⟩,hr⟩:=hl;have hL:L∈X.fs:=hs L (by unfold kf;rw [List.filterMap_cons,hf];exact eG);obtain ⟨sl,e⟩:=I.base.slot L o ho (I.ok.pC L hL) hL fun z=>I.ok.kg L z hL;exact ⟨hk,⟨L,_,hf,hn,e,hd⟩,ih (fun b hb=>hs b (by unfold kf;rw [List.filterMap_cons,hf];exact gz _ hb)) hr⟩
 exact all X.outer (fun _ hb=>hb) I.ok.eS
theorem Inv.stack (I:Inv X pins σ H s):s.heap.FunFrames X.base X.stack:=by
 rcases I.ok.vd with e | ⟨e,hf⟩
 ·rw [e];exact I.eS
 ·rw [e];obtain ⟨m,hn,_⟩:=I.loc;refine .cons (by rw [I.ok.kind];decide) hf hn ?_ I.eS;exact Heap.get?_none_of_le (eE I.ok.oS I.ok.above)
theorem Inv.jJ (I:Inv X pins σ H s):∀b∈kf X.stack,b∈X.env.locals::X.fs:=fun b hb=>by
 rcases I.ok.vd with e | ⟨e,hf⟩
 ·rw [e] at hb;exact gz _ hb
 ·rw [e] at hb;unfold kf at hb;rw [List.filterMap_cons,hf] at hb;exact hb
theorem Inv.jK (I:Inv X pins σ H s):∀b∈kf X.stack,H b=none:=fun b hb=>by
 rcases eV.mp (I.jJ b hb) with e | hb
 ·rw [e];exact I.free
 ·obtain ⟨_,o,ho,_⟩:=I.ok.eS.mem hb;exact I.base.free b o ho (I.ok.pC b hb) fun z=>I.ok.kg b z hb
theorem Inv.step {g':Array GenState} {t':Nat} {d':Drawn} {ch:List Addr} (I:Inv X pins σ H s)
 (se:∀b∈ch,(b∈X.ex\/X.bU.heap.objs.size<=b)/\b≠X.env.locals/\(∀x c,X.env.cells.lookup x=some c->c≠b)/\∀p∈X.pn++pins,p.1≠b)
 (keep:∀b o,b≠X.env.locals->b∉X.fs->b∉ch->s.heap.get? b=some o->H b=none->h'.get? b=some o)
 (slot:∀b o,b≠X.env.locals->b∈X.fs->b∉ch->s.heap.get? b=some o->H b=none->∃sl,h'.get? b=some { o with slots:=sl }) (free:∀b o,b∉ch->s.heap.get? b=some o->H b=none->H' b=none)
 (there:∀b o,b∉ch->s.heap.get? b=some o->∃o',h'.get? b=some o')
 (gB:∀b xs,H b=some (.tup xs)->H' b=some (.tup xs)) (gm:∀b o u,H b=some (.gH o u)->H' b=some (.gH o u)) (iu:∀b ps,H b=some (.wH ps)->∃more,H' b=some (.wH (ps++more)))
 (ns:∀m,s.heap.Ns X.env.locals m->h'.Ns X.env.locals m) (af:eI X.prog X.w H' h') (hg:AllBare g'):
 Inv X pins σ H' { s with heap:=h',gens:=g',drawn:=d',toks:=t' }:=by
 have Ry:∀b o,X.bU.heap.get? b=some o->b≠X.env.locals:=fun b o e=>gY (jb (dt e) I.ok.above);have EO:∀b o,X.bU.heap.get? b=some o->b∉X.ex->b∉ch:=fun b o e hx hb=>by
  rcases (se b hb).1 with z | z
  ·exact hx z
  ·exact absurd (jb (dt e) z) (jC _)
 have cellK:∀x c,X.env.cells.lookup x=some c->∀v,s.heap.IsCell c v->h'.IsCell c v:=fun x c e v ⟨o,ho,hd⟩=>by
  have Be:c∉ch:=fun z=>(se c z).2.2.1 x c e rfl
  by_cases hc:c∈X.fs
  ·obtain ⟨sl,q⟩:=slot c o (I.yg x c e) hc Be ho (I.cE x c e);exact ⟨_,q,hd⟩
  ·exact ⟨o,keep c o (I.yg x c e) hc Be ho (I.cE x c e),hd⟩
 refine ⟨I.ok,I.os,hg,⟨fun b o e n hb hx=>?_,fun b o e n hb hx=>?_,fun b o e n hx=>?_,fun b o e hx=>?_,fun b xs e=>gB b xs (I.base.gB b xs e),fun b o xs e=>gm b o xs (I.base.gm b o xs e),fun b ps e=>?_⟩,?_,fun x c e=>?_,?_,fun x c e=>?_,fun p hp=>?_,af,I.len⟩
 ·exact keep b o (Ry b o e) hb (EO b o e hx) (I.base.keep b o e n hb hx) (I.base.free b o e n hx)
 ·obtain ⟨sl,e1⟩:=I.base.slot b o e n hb hx;obtain ⟨za,e2⟩:=slot b _ (Ry b o e) hb (EO b o e hx) e1 (I.base.free b o e n hx);exact ⟨za,e2⟩
 ·obtain ⟨o',e1⟩:=I.base.there b o e hx;exact free b o' (EO b o e hx) e1 (I.base.free b o e n hx)
 ·obtain ⟨o',e1⟩:=I.base.there b o e hx;exact there b o' (EO b o e hx) e1
 ·obtain ⟨m1,e1⟩:=I.base.iu b ps e;obtain ⟨m2,e2⟩:=iu b _ e1;exact ⟨m1++m2,by rw [e2,Array.append_assoc]⟩
 ·obtain ⟨m,hn,hl⟩:=I.loc;refine ⟨m,ns m hn,fun i x v e1 e2 e3=>?_⟩;obtain ⟨u,r,l⟩:=hl i x v e1 e2 e3;refine ⟨u,r,?_⟩;rcases l with l | ⟨k,c,e,z⟩
  ·exact .inl l
  ·exact .inr ⟨k,c,e,cellK x c e _ z⟩
 ·obtain ⟨v,z⟩:=I.cell x c e;exact ⟨v,cellK x c e v z⟩
 ·obtain ⟨m,⟨o,_,_,ho,_⟩,_⟩:=I.loc;exact free _ o (fun z=>(se _ z).2.1 rfl) ho I.free
 ·obtain ⟨v,o,ho,hd⟩:=I.cell x c e;exact free c o (fun z=>(se c z).2.2.1 x c e rfl) ho (I.cE x c e)
 ·obtain ⟨e,n,ne,nf,d⟩:=I.pin p hp;have Be:p.1∉ch:=fun z=>(se p.1 z).2.2.2 p hp rfl;exact ⟨keep p.1 p.2 ne nf Be e n,free p.1 p.2 Be e n,ne,nf,d⟩
theorem Inv.un {t':Nat} (I:Inv X pins σ H s) (u:Un X.fs [] H H' s.heap h') (af:eI X.prog X.w H' h'):Inv X pins σ H' { s with heap:=h',toks:=t' }:=by
 obtain ⟨m,⟨o,es,ep,ho,r⟩,_⟩:=id I.loc;obtain ⟨sl,hL⟩:=u.any ho I.free (by simp);exact I.step (g':=s.gens) (d':=s.drawn) (ch:=[]) (fun _ z=>nomatch z) (fun b o _ hb _ e n=>u.keep b o e n hb (by simp)) (fun b o _ hb _ e n=>u.slot b o e n hb (by simp)) (fun b o _ e n=>u.free b o e n (by simp)) (fun b o _ e=>u.there b o e (by simp)) u.gB u.gm u.iu (fun m' hm=>by
  obtain ⟨o',B_,FC,lQ,r'⟩:=hm;rw [ho] at lQ;cases lQ;exact ⟨_,B_,FC,hL,r'⟩) af I.bare
theorem Inv.call {g':Array GenState} {t':Nat} {d':Drawn} {ch:List Addr} (I:Inv X pins σ H s) (u:Un (kf X.stack) ch H H' s.heap h') (af:eI X.prog X.w H' h') (hg:AllBare g')
 (se:∀b∈ch,(b∈X.ex\/X.bU.heap.objs.size<=b)/\b≠X.env.locals/\(∀x c,X.env.cells.lookup x=some c->c≠b)/\∀p∈X.pn++pins,p.1≠b):
 Inv X pins σ H' { s with heap:=h',gens:=g',drawn:=d',toks:=t' }:=by
 obtain ⟨m,⟨o,es,ep,ho,r⟩,_⟩:=id I.loc;obtain ⟨sl,hL⟩:=u.any ho I.free fun z=>(se _ z).2.1 rfl;exact I.step (ch:=ch) se (fun b o hL hb hc e n=>u.keep b o e n (fun z=>(eV.mp (I.jJ b z)).elim hL hb) hc) (fun b o _ _ hc e n=>u.any e n hc) (fun b o hc e n=>u.free b o e n hc) (fun b o hc e=>u.there b o e hc) u.gB u.gm u.iu (fun m' hm=>by
  obtain ⟨o',B_,FC,lQ,r'⟩:=hm;rw [ho] at lQ;cases lQ;exact ⟨_,B_,FC,hL,r'⟩) af hg
theorem Inv.turned {t':Nat} {it:Addr} (I:Inv X pins σ H s) (k:∀b o,b≠it->s.heap.get? b=some o->h'.get? b=some o) (hn:H it=none) (hL:it≠X.env.locals)
 (h1:it∈X.ex\/X.bU.heap.objs.size<=it) (h2:∀x c,X.env.cells.lookup x=some c->c≠it) (h3:∀p∈X.pn++pins,p.1≠it):Inv X pins σ H { s with heap:=h',toks:=t' }:=by
 have Rv:∀b u,H b=some u->b≠it:=fun b u e z=>by rw [z,hn] at e;cases e
 refine I.step (g':=s.gens) (d':=s.drawn) (ch:=[it]) (fun b hb=>?_) (fun b o _ _ hc e _=>k b o (fun z=>hc (by simp [z])) e) (fun b o _ _ hc e _=>⟨o.slots,k b o (fun z=>hc (by simp [z])) e⟩) (fun _ _ _ _ n=>n)
  (fun b o hc e=>⟨o,k b o (fun z=>hc (by simp [z])) e⟩) (fun _ _ e=>e) (fun _ _ _ e=>e) (fun b ps e=>⟨#[],by rw [e];simp⟩) (fun m hm=>?_) (fun b u e=>?_) I.bare
 ·have e:b=it:=by simpa using hb
  subst e;exact ⟨h1,hL,h2,h3⟩
 ·obtain ⟨o,es,ep,ho,r⟩:=hm;exact ⟨o,es,ep,k _ o (aD hL) ho,r⟩
 ·refine (I.af b u e).fv (fun c v hc q=>k c v ?_ q) (fun _ q=>q) fun _ _ q=>q;rcases hc with z | z
  ·rw [z];exact Rv b u e
  ·exact Rv c _ z
theorem Inv.tok (I:Inv X pins σ H s) (t:Nat):Inv X pins σ H { s with toks:=t }:=I.un (h':=s.heap) (t':=t) Un.refl I.af
theorem Inv.kept (I:Inv X pins σ H s) (k:∀b u,s.heap.get? b=some u->h'.get? b=some u):Inv X pins σ H { s with heap:=h',toks:=t' }:=I.un (Un.kept k) (I.af.kept k)
theorem Inv.laid (I:Inv X pins σ H s) (k:∀b u,s.heap.get? b=some u->h'.get? b=some u) (hp:s.heap.objs.size<=a) (new:eh X.prog X.w (upd H a o) h' a o):
 Inv X pins σ (upd H a o) { s with heap:=h',toks:=t' }:=I.un (Un.laid k hp (I.af.fresh hp)) (I.af.laid k hp new)
theorem Inv.write (I:Inv X pins σ H s) (mu:zM (H x)) (he:e=x\/H e=some (.own x)) (k:∀b u,b≠e->s.heap.get? b=some u->h'.get? b=some u) (zA:∃u,h'.get? e=some u)
 (new:eh X.prog X.w (upd H x o) h' x o):Inv X pins σ (upd H x o) { s with heap:=h',toks:=t' }:=I.un (Un.write mu he k zA) (I.af.write mu he k zA new)
theorem Inv.nk (I:Inv X pins σ H s) (h:∀p∈nq,s.heap.get? p.1=some p.2/\H p.1=none/\p.1≠X.env.locals/\p.1∉X.fs/\∀v,p.2.data≠.cell v):Inv X nq σ H s:=
 ⟨I.ok,I.os,I.bare,I.base,I.loc,I.cell,I.free,I.cE,fun p hp=>(i8.mp hp).elim (fun z=>I.pin p (iL _ z)) (h p),I.af,I.len⟩
theorem OQ {N:List Str} (hN:N.Nodup) {i j:Nat} {x:Str} (a:N[i]?=some x) (b:N[j]?=some x):i=j:=by
 obtain ⟨h1,e1⟩:=gO.mp a;obtain ⟨h2,e2⟩:=gO.mp b;exact (List.getElem_inj hN).mp (e1.trans e2.symm)
theorem Pq {M:Model} {A:Around} {E:Value->Shared->Prop} {i:Nat} {x:Str} {v:V} {u:Value} {Q:Unit->Shared->Prop} (I:Inv X pins σ H s) (hN:X.N.Nodup) (hi:X.N[i]?=some x) (hx:Loc X.env.scope x) (r:bR v u)
 (h:∀s',Inv X pins (σ.set i (some v)) H s'->(∃a,Heap.SameBut a s.heap s'.heap/\(a=X.env.locals\/X.env.cells.lookup x=some a))->Q () s') (hf:X.fn x=true\/X.env.scope.names.lookup x=some .local:=by first | exact .inl rfl | exact .inr rfl | assumption):wpAny M A (storeName X.env x u) Q E s:=by
 obtain ⟨m,hn,hl⟩:=id I.loc;have Lh:(X.env.scope.kind==.class || (X.env.scope.kind==.module && X.env.locals !=X.env.globals))=false:=by rw [I.ok.kind];rfl
 have BE:i<σ.length:=by rw [I.len];exact (gO.mp hi).1
 have yg:=I.yg;have tracked:∀{a:Addr} {h':Heap},(∃o,s.heap.get? a=some o/\H a=none)->Heap.SameBut a s.heap h'->eI X.prog X.w H h':=fun {a h'} ha hs b ob e=>by
  obtain ⟨_,_,v9⟩:=ha;refine (I.af b ob e).fv (fun c w' hc q=>(hs.2 c ?_).trans q) (fun _ q=>q) fun _ _ q=>q;rintro rfl;rcases hc with rfl | hc
  ·rw [v9] at e;cases e
  ·rw [v9] at hc;cases hc
 rcases hx with hk | hk
 ·refine wpAny_storeName_local hk hn (fun h' Ff hs=>?_) Lh;obtain ⟨oL,_,_,xJ,_⟩:=id hn;refine h _ ⟨I.ok,I.os,I.bare,⟨fun b o e n hb hx=>?_,fun b o e n hb hx=>?_,I.base.free,fun b o e hx=>?_,I.base.gB,I.base.gm,I.base.iu⟩,⟨_,Ff,fun j y v' e1 e2 e3=>?_⟩,fun y c e=>?_,I.free,I.cE,fun p hp=>?_,tracked ⟨oL,xJ,I.free⟩ hs,by simpa using I.len⟩ ⟨_,hs,.inl rfl⟩
  ·exact (hs.2 b (gY (jb (dt e) I.ok.above))).trans (I.base.keep b o e n hb hx)
  ·obtain ⟨sl,e1⟩:=I.base.slot b o e n hb hx;exact ⟨sl,(hs.2 b (gY (jb (dt e) I.ok.above))).trans e1⟩
  ·obtain ⟨o',e1⟩:=I.base.there b o e hx;exact ⟨o',(hs.2 b (gY (jb (dt e) I.ok.above))).trans e1⟩
  ·by_cases hj:j=i
   ·subst hj;rw [hi] at e1;cases e1;rw [List.getElem?_set_self BE] at e2;cases e2;exact ⟨u,r,.inl ⟨hk,by simp⟩⟩
   ·rw [List.getElem?_set_ne (aD hj)] at e2;obtain ⟨u',r',q⟩:=hl j y v' e1 e2 e3;refine ⟨u',r',?_⟩;rcases q with ⟨k,e⟩ | ⟨k,c,e,z⟩
    ·refine .inl ⟨k,?_⟩;have:y≠x:=fun e=>hj (OQ hN e1 (e▸hi));simp [this,e]
    ·exact .inr ⟨k,c,e,z.sameBut hs (yg y c e)⟩
  ·obtain ⟨w',z⟩:=I.cell y c e;exact ⟨w',z.sameBut hs (yg y c e)⟩
  ·obtain ⟨e,n,ne,nf,d⟩:=I.pin p hp;exact ⟨(hs.2 p.1 ne).trans e,n,ne,nf,d⟩
 ·have La:X.fn x=true:=by
   rcases hf with z | z
   ·exact z
   ·rw [z] at hk;cases hk
  obtain ⟨c,hc⟩:=I.ok.has x (.inl hk);obtain ⟨w',z⟩:=I.cell x c hc;refine wpAny_storeName_cell I.ok.kind hk hc z (fun h' jh hs=>?_);obtain ⟨oc,RZ,Kz⟩:=id z;refine h { s with heap:=h' } ⟨I.ok,I.os,I.bare,⟨fun b o e n hb hx=>?_,fun b o e n hb hx=>?_,I.base.free,fun b o e hx=>?_,I.base.gB,I.base.gm,I.base.iu⟩,⟨m,hn.sameBut hs (aD (yg x c hc)),fun j y v' e1 e2 e3=>?_⟩,fun y c' e=>?_,I.free,I.cE,fun p hp=>?_,tracked ⟨oc,RZ,I.cE x c hc⟩ hs,by simpa using I.len⟩ ⟨c,hs,.inr hc⟩
  ·exact (hs.2 b (gY (jb (dt e) (I.ok.ux x c La hc)))).trans (I.base.keep b o e n hb hx)
  ·obtain ⟨sl,e1⟩:=I.base.slot b o e n hb hx;exact ⟨sl,(hs.2 b (gY (jb (dt e) (I.ok.ux x c La hc)))).trans e1⟩
  ·obtain ⟨o',e1⟩:=I.base.there b o e hx;exact ⟨o',(hs.2 b (gY (jb (dt e) (I.ok.ux x c La hc)))).trans e1⟩
  ·by_cases hj:j=i
   ·subst hj;rw [hi] at e1;cases e1;rw [List.getElem?_set_self BE] at e2;cases e2;exact ⟨u,r,.inr ⟨.inl hk,c,hc,jh⟩⟩
   ·rw [List.getElem?_set_ne (aD hj)] at e2;obtain ⟨u',r',q⟩:=hl j y v' e1 e2 e3;refine ⟨u',r',?_⟩;rcases q with q | ⟨k,c',e,z'⟩
    ·exact .inl q
    ·refine .inr ⟨k,c',e,z'.sameBut hs ?_⟩;rintro rfl;exact hj (OQ hN e1 (I.ok.inj _ _ _ e hc▸hi))
  ·by_cases Sn:c'=c
   ·subst Sn;exact ⟨_,jh⟩
   ·obtain ⟨w2,z2⟩:=I.cell y c' e;exact ⟨w2,z2.sameBut hs Sn⟩
  ·obtain ⟨e,n,ne,nf,d⟩:=I.pin p hp;refine ⟨(hs.2 p.1 ?_).trans e,n,ne,nf,d⟩;intro q;rw [q,RZ] at e;have q':oc=p.2:=eF e;exact d w' (by rw [<-q'];exact Kz)
theorem HM (I:Inv X pins σ H s) (hN:X.N.Nodup) (hi:X.N[i]?=some x) (hx:Loc X.env.scope x) (r:bR v u)
 (h:∀s',Inv X pins (σ.set i (some v)) H s'->Q () s') (hf:X.fn x=true\/X.env.scope.names.lookup x=some .local:=by first | exact .inl rfl | exact .inr rfl | assumption):wpAny M A (storeName X.env x u) Q E s:=
 Pq I hN hi hx r (fun s' I' _=>h s' I') hf
theorem Inv.rd (I:Inv X pins σ H s) (ho:s'.os=s.os) (u:Un (kf X.stack) ch H H' s.heap s'.heap) (af:eI X.prog X.w H' s'.heap) (hg:AllBare s'.gens)
 (se:∀b∈ch,(b∈X.ex\/X.bU.heap.objs.size<=b)/\b≠X.env.locals/\(∀x c,X.env.cells.lookup x=some c->c≠b)/\∀p∈X.pn++pins,p.1≠b):Inv X pins σ H' s':=by
 obtain ⟨h',g',d',t',o'⟩:=s';have e:o'=s.os:=ho;subst e;exact I.call (g':=g') (t':=t') (d':=d') u af hg se
end
abbrev XK:=Value->Option Addr->Hp->Prop
abbrev St:=List (Option V)
abbrev VK:=V->Hp->Prop
abbrev TE:=St->Hp->VK->Prop
abbrev TT:=St->Hp->(Bool->Hp->Prop)->Prop
abbrev TA:=St->Hp->(List V->Hp->Prop)->Prop
structure uz where
 nx:St->Hp->Prop
 rt:VK
 bk:St->Hp->Prop:=fun _ _=>False
 ct:St->Hp->Prop:=fun _ _=>False
abbrev TS:=uz->St->Hp->Prop
theorem eT {α β:Type} {p q r:α->β->Prop} {P:Prop} (h:∃a b,p a b/\q a b/\r a b) (k:∀a b,p a b->q a b->r a b->P):P:=by
 obtain ⟨a,b,x,y,z⟩:=h;exact k a b x y z
theorem SR {α:Type} {p q:α->Prop} {P:Prop} (h:∃a,p a/\q a) (k:∀a,p a->q a->P):P:=by
 obtain ⟨a,x,y⟩:=h;exact k a x y
def EP (X:Cx) (pins:List (Addr×Obj)) (σ:St) (Q:VK) (u:Value) (s':Shared):Prop:=∃v H',Inv X pins σ H' s'/\bR v u/\Q v H'
def TP (X:Cx) (pins:List (Addr×Obj)) (σ:St) (Q:Bool->Hp->Prop) (b:Bool) (s':Shared):Prop:=∃H',Inv X pins σ H' s'/\Q b H'
def AP (X:Cx) (pins:List (Addr×Obj)) (σ:St) (Q:List V->Hp->Prop) (us:List Value) (s':Shared):Prop:=∃vs H',Inv X pins σ H' s'/\bq vs us/\Q vs H'
def SP (X:Cx) (pins:List (Addr×Obj)) (D:uz) (f:Flow) (s':Shared):Prop:=
 match f with
 | .next=>∃aa H',Inv X pins aa H' s'/\D.nx aa H'
 | .brk=>∃aa H',Inv X pins aa H' s'/\D.bk aa H'
 | .cont=>∃aa H',Inv X pins aa H' s'/\D.ct aa H'
 | .ret u=>∃v aa H',Inv X pins aa H' s'/\bR v u/\D.rt v H'
def PE (X:Cx) (e:Expr) (t:TE):Prop:=
 ∀(pins:List (Addr×Obj)) (s:Shared) (σ:St) (H:Hp) (Q:VK),Inv X pins σ H s->t σ H Q->wpAny (model X.prog X.w) X.A (eval e X.env) (EP X pins σ Q) X.xe s
def PT (X:Cx) (e:Expr) (t:TT):Prop:=
 ∀(pins:List (Addr×Obj)) (s:Shared) (σ:St) (H:Hp) (Q:Bool->Hp->Prop),Inv X pins σ H s->t σ H Q->wpAny (model X.prog X.w) X.A (isTrue e X.env (eval e X.env)) (TP X pins σ Q) X.xe s
def PW (X:Cx) (e:Expr) (t:TT):Prop:=
 ∀(whole:Sem Value) (pins:List (Addr×Obj)) (s:Shared) (σ:St) (H:Hp) (Q:Bool->Hp->Prop),Inv X pins σ H s->t σ H Q->wpAny (model X.prog X.w) X.A (isTrue e X.env whole) (TP X pins σ Q) X.xe s
theorem PW.pt (h:PW X e t):PT X e t:=h _
def PA (X:Cx) (es:List Expr) (t:TA):Prop:=
 ∀(pos:Pos) (pins:List (Addr×Obj)) (s:Shared) (σ:St) (H:Hp) (Q:List V->Hp->Prop),Inv X pins σ H s->t σ H Q->wpAny (model X.prog X.w) X.A (spliced (backTo pos (starEach es X.env))) (AP X pins σ Q) X.xe s
def PS (X:Cx) (st:Stmt) (t:TS):Prop:=
 ∀(pins:List (Addr×Obj)) (s:Shared) (σ:St) (H:Hp) (D:uz),Inv X pins σ H s->t D σ H->wpAny (model X.prog X.w) X.A (exec st X.env) (SP X pins D) X.xe s
def g7 (X:Cx) (st:List Stmt) (t:TS):Prop:=
 ∀(pins:List (Addr×Obj)) (s:Shared) (σ:St) (H:Hp) (D:uz),Inv X pins σ H s->t D σ H->wpAny (model X.prog X.w) X.A (execs st X.env) (SP X pins D) X.xe s
theorem av (h:wpAny M A t Q E s) (hQ:∀a s,Q a s->Q' a s):wpAny M A t Q' E s:=wpAny_mono h hQ fun _ _ x=>x
section
variable {X:Cx}
def rq (i:Nat):TE:=fun σ H Q=>∃v,σ[i]?=some (some v)/\Q v H
def tC (v:V):TE:=fun _ H Q=>Q v H
theorem Tv (hN:X.N[i]?=some x) (hv:FH X.env.scope x) (hd:(x==("__debug__":Str))=false:=by decide) (oN:(x==("__classdict__":Str))=false:=by decide):PE X (.Name x pos) (rq i):=by
 intro pins s σ H Q I h;obtain ⟨v,e,h⟩:=h;obtain ⟨m,hn,hl⟩:=I.loc;obtain ⟨u,r,l⟩:=hl i x v hN e hv;have fin:EP X pins σ Q u s:=⟨v,H,I,r,h⟩;rcases l with ⟨hk,hm⟩ | ⟨hk,c,hc,nJ⟩
 ·exact wpAny_Name (wpAny_loadName_local I.ok.kind hk hn hm fin) hd
 ·rcases hk with hk | hk
  ·exact wpAny_Name (wpAny_loadName_cell I.ok.kind hk hc nJ fin) hd
  ·exact wpAny_Name (wpAny_loadName_free I.ok.kind hk hc nJ fin oN) hd
theorem aw {i j pos}:PE X (.Constant (.int i) j pos) (tC (.int i)):=fun _ _ _ H _ I h=>wpAny_Constant_int ⟨.int i,H,I.tok _,⟨_,rfl⟩,h⟩
theorem z_ {b j pos}:PE X (.Constant (.bool b) j pos) (tC (.bl b)):=fun _ _ _ H _ I h=>Constant_bool ⟨.bl b,H,I,rfl,h⟩
theorem mY {j pos}:PE X (.Constant .none j pos) (tC .aU):=fun _ _ _ H _ I h=>Constant_none ⟨.aU,H,I,rfl,h⟩
theorem eZ {x j pos}:PE X (.Constant (.str x) j pos) (tC (.str x)):=fun _ _ _ H _ I h=>Calls.Constant_str ⟨.str x,H,I.tok _,⟨_,rfl⟩,h⟩
def Gl (X:Cx) (x:Str):Prop:=X.env.kindOf x=some .globalImplicit
theorem yJ (I:Inv X pins σ H s) (hg:Gl X x) (hm:X.mg x=some u) (h:Q u s)
 (hd:(x==("__debug__":Str))=false:=by decide):wpAny (model X.prog X.w) X.A (eval (.Name x pos) X.env) Q E s:=
 Calls.Name_function_global I.ok.kind hg (Calls.loadGlobal_global (by rw [I.ok.glob];exact I.mod.glob.keeps I.bk) hm h) hd
theorem wa (I:Inv X pins σ H s) (hg:Gl X x) (hm:X.mg x=none) (hv:bootBuiltins x=some u) (h:Q u s)
 (hn:x≠"__name__":=by decide) (hd:(x==("__debug__":Str))=false:=by decide):wpAny (model X.prog X.w) X.A (eval (.Name x pos) X.env) Q E s:=by
 obtain ⟨mb,h1,h2⟩:=I.mod.blt;exact Calls.Name_function_global I.ok.kind hg (Calls.loadGlobal_builtin (by rw [I.ok.glob];exact I.mod.glob.keeps I.bk) hm (by rw [I.ok.blt];exact h1.keeps I.bk) ((h2 x hn).trans hv) h) hd
theorem yK (hg:Gl X x) (hm:X.mg x=some u) (r:bR v u) (hd:(x==("__debug__":Str))=false:=by decide):PE X (.Name x pos) (tC v):=
 fun _ _ _ H _ I h=>yJ I hg hm ⟨v,H,I,r,h⟩ hd
variable {a b:Expr} {ta tb:TE} {pos:Pos}
def PC (X:Cx) (op:CmpOp) (a b:Expr) (t:TE):Prop:=
 ∀(pins:List (Addr×Obj)) (s:Shared) (σ:St) (H:Hp) (Q:VK),Inv X pins σ H s->t σ H Q->
  wpAny (model X.prog X.w) X.A (eval a X.env) (fun v au=>wpAny (model X.prog X.w) X.A (eval b X.env) (fun u gh=>wpAny (model X.prog X.w) X.A (compareOp op v u) (EP X pins σ Q) X.xe gh) X.xe au) X.xe s
def tB (t:TE):TT:=fun σ H Q=>t σ H fun x H1=>∃c,x=.bl c/\Q c H1
theorem wc (h:PC X op a b t) (h1:behindInMarks op b=false:=by first | exact Ba _ (by decide) (by decide) | rfl):PT X (.Compare a [op] [b] pos) (tB t):=by
 intro pins s σ H Q I hw;refine wpAny_isTrue_Compare1 (av (h pins s σ H _ I hw) fun v s1 h1=>av h1 fun u s2 h2=>av h2 fun c s3 zz=>?_) h1;obtain ⟨x,H1,I1,r1,q1⟩:=zz;obtain ⟨d,rfl,q⟩:=q1;cases r1;exact wpAny_truthy_bool ⟨H1,I1,q⟩
theorem Ak (h:PE X e t) (he:∀whole,isTrue e X.env whole=(do let v <-whole;standAt e.pos;holding [v] (truthy v)):=by intro _;rfl):PT X e (tB t):=by
 intro pins s σ H Q I hw;refine isTrue_plain (av (h pins s σ H _ I hw) fun v s1 zz=>?_) (he _);obtain ⟨x,H1,I1,r1,q1⟩:=zz;obtain ⟨d,rfl,q⟩:=q1;cases r1;exact wpAny_truthy_bool ⟨H1,I1,q⟩
variable {tA EF:TT} {rest:List Expr}
def YM (t u:TT):TT:=fun σ H Q=>t σ H fun c H1=>if c=true then u σ H1 Q else Q false H1
def ZX (t u:TT):TT:=fun σ H Q=>t σ H fun c H1=>if c=true then Q true H1 else u σ H1 Q
def Zc (t:TT):TT:=fun σ H Q=>t σ H fun c H1=>Q (!c) H1
theorem sV (ha:PT X a tA):PW X (.BoolOp .And [a] pos) tA:=by
 intro wh pins s σ H Q I h;refine isTrue_and (av (ha pins s σ H Q I h) fun c s1 e=>?_)
 cases c with
 | true=>exact isTrue_and_nil e
 | false=>exact e
theorem yG (ha:PT X a tA):PW X (.BoolOp .Or [a] pos) tA:=by
 intro wh pins s σ H Q I h;refine isTrue_or (av (ha pins s σ H Q I h) fun c s1 e=>?_)
 cases c with
 | false=>exact isTrue_or_nil e
 | true=>exact e
theorem sQ (ha:PT X a tA) (hb:PW X (.BoolOp .And (b::rest) pos) EF):PW X (.BoolOp .And (a::b::rest) pos) (YM tA EF):=by
 intro wh pins s σ H Q I h;refine isTrue_and (av (ha pins s σ H _ I h) fun c s1 zz=>?_);obtain ⟨H1,I1,q1⟩:=zz
 cases c with
 | true=>exact hb wh pins s1 σ H1 Q I1 q1
 | false=>exact ⟨H1,I1,q1⟩
theorem uH (ha:PT X a tA) (hb:PW X (.BoolOp .Or (b::rest) pos) EF):PW X (.BoolOp .Or (a::b::rest) pos) (ZX tA EF):=by
 intro wh pins s σ H Q I h;refine isTrue_or (av (ha pins s σ H _ I h) fun c s1 zz=>?_);obtain ⟨H1,I1,q1⟩:=zz
 cases c with
 | true=>exact ⟨H1,I1,q1⟩
 | false=>exact hb wh pins s1 σ H1 Q I1 q1
theorem yF (ha:PT X a tA):PT X (.UnaryOp .Not a pos) (Zc tA):=by
 intro pins s σ H Q I h;exact isTrue_not (ha pins s σ H (fun c H1=>Q (!c) H1) I h)
def ZG (ta tb:TE):TE:=fun σ H Q=>ta σ H fun x H1=>∃c,x=.bl c/\if c=true then tb σ H1 Q else Q (.bl false) H1
def QJ (ta tb:TE):TE:=fun σ H Q=>ta σ H fun x H1=>∃c,x=.bl c/\if c=true then Q (.bl true) H1 else tb σ H1 Q
def Mu (ta:TE):TE:=fun σ H Q=>ta σ H fun x H1=>∃c,x=.bl c/\Q (.bl (!c)) H1
theorem Ai {op} (h:PE X a t):PE X (.BoolOp op [a] pos) t:=fun pins s σ H Q I hw=>BoolOp_one (h pins s σ H Q I hw)
theorem Ah (ha:PE X a ta) (hb:PE X (.BoolOp .And (b::rest) pos) tb):PE X (.BoolOp .And (a::b::rest) pos) (ZG ta tb):=by
 intro pins s σ H Q I h;refine BoolOp_and (av (ha pins s σ H _ I h) fun v s1 zz=>?_);obtain ⟨x,H1,I1,r1,q1⟩:=zz;obtain ⟨c,rfl,q1⟩:=q1;cases r1;refine wpAny_truthy_bool ?_
 cases c with
 | true=>exact hb pins s1 σ H1 Q I1 q1
 | false=>exact ⟨.bl false,H1,I1,rfl,q1⟩
theorem Mg (ha:PE X a ta) (hb:PE X (.BoolOp .Or (b::rest) pos) tb):PE X (.BoolOp .Or (a::b::rest) pos) (QJ ta tb):=by
 intro pins s σ H Q I h;refine BoolOp_or (av (ha pins s σ H _ I h) fun v s1 zz=>?_);obtain ⟨x,H1,I1,r1,q1⟩:=zz;obtain ⟨c,rfl,q1⟩:=q1;cases r1;refine wpAny_truthy_bool ?_
 cases c with
 | false=>exact hb pins s1 σ H1 Q I1 q1
 | true=>exact ⟨.bl true,H1,I1,rfl,q1⟩
theorem M9 (ha:PE X a ta):PE X (.UnaryOp .Not a pos) (Mu ta):=by
 intro pins s σ H Q I h;refine UnaryOp_ (av (ha pins s σ H _ I h) fun v s1 zz=>?_);obtain ⟨x,H1,I1,r1,q1⟩:=zz;obtain ⟨c,rfl,q1⟩:=q1;cases r1;exact not_of (wpAny_truthy_bool ⟨.bl (!c),H1,I1,rfl,q1⟩)
def ZY (t:TT) (ta tb:TE):TE:=fun σ H Q=>t σ H fun c H1=>if c=true then ta σ H1 Q else tb σ H1 Q
theorem OU (hc:PT X c tA) (ha:PE X a ta) (hb:PE X b tb):PE X (.IfExp c a b pos) (ZY tA ta tb):=by
 intro pins s σ H Q I h;refine wpAny_IfExp (av (hc pins s σ H _ I h) fun d s1 zz=>?_);obtain ⟨H1,I1,q1⟩:=zz
 cases d with
 | true=>exact ha pins s1 σ H1 Q I1 q1
 | false=>exact hb pins s1 σ H1 Q I1 q1
end
def ax (K:aF) (H:Hp) (a:Addr) (xs:List V):Prop:=
 Rd H a (.lst xs)\/
  ∃(o:Obj) (its:Array Value) (n:Nat),K.lookup a=some o/\o.cls=.type "list"/\o.dict=none/\o.data=.seq its n/\its.size<=sizeLine/\bq xs its.toList
def c_ (K:aF) (H:Hp) (a:Addr) (xs:List V):Prop:=
 Rd H a (.tup xs)\/
  ∃(o:Obj) (its:Array Value) (n:Nat),K.lookup a=some o/\o.cls=.type "tuple"/\o.data=.seq its n/\its.size<=sizeLine/\bq xs its.toList
def Yd:Value->Option V
 | .none=>some .aU
 | .bool b=>some (.bl b)
 | .int i _=>some (.int i)
 | .str x _=>some (.str x)
 | .bytes b _=>some (.oR b)
 | .float b _=>some (.x_ b)
 | .ref a=>some (.ref a)
 | .type n=>some (.ty n)
 | _=>none
theorem bR.abs (r:bR x u):Yd u=some x:=by
 cases x with
 | aU=>cases r;rfl
 | bl _=>cases r;rfl
 | int _=>obtain ⟨t,rfl⟩:=r;rfl
 | str _=>obtain ⟨t,rfl⟩:=r;rfl
 | oR _=>obtain ⟨t,rfl⟩:=r;rfl
 | x_ _=>obtain ⟨t,rfl⟩:=r;rfl
 | ref _=>cases r;rfl
 | ty _=>cases r;rfl
theorem bR.inj (r:bR x u) (q:bR y u):x=y:=eF (r.abs.symm.trans q.abs)
theorem bq.inj {xs ys:List V} {us:List Value} (h:bq xs us) (h':bq ys us):xs=ys:=by
 induction h generalizing ys with
 | nil=>cases h';rfl
 | cons r t ih=>
  cases h' with
  | cons r' t'=>rw [r.inj r',ih t']
section
variable {X:Cx} {pins:List (Addr×Obj)} {σ:St} {H:Hp} {s:Shared} {a:Addr} {xs ys:List V}
theorem ax.of {K:aF} (h:H a=some (.lst xs)):ax K H a xs:=.inl (.inl h)
theorem c_.of {K:aF} (h:H a=some (.tup xs)):c_ K H a xs:=.inl (.inl h)
theorem Inv.list (I:Inv X pins σ H s) (h:ax X.K H a xs):∃its:List Value,bq xs its/\PlainL s.heap a its.toArray/\xs.length<=sizeLine:=by
 rcases h with h | ⟨o,its,n,hk,hc,hd,hs,hz,r⟩
 ·obtain ⟨z,its,n,r,e⟩:=h.ok I.af;exact ⟨its,r,⟨_,n,e,rfl,rfl,rfl⟩,z⟩
 ·refine ⟨its.toList,r,⟨o,n,I.gM a o hk,hc,hd,by simpa using hs⟩,?_⟩;have e:=r.length;simp only [rh] at e;lia
theorem Inv.tuple (I:Inv X pins σ H s) (h:c_ X.K H a xs):∃its:List Value,bq xs its/\IsTup s.heap a its.toArray/\xs.length<=sizeLine:=by
 rcases h with h | ⟨o,its,n,hk,hc,hs,hz,r⟩
 ·obtain ⟨z,its,r,p⟩:=h.ok I.af;exact ⟨its,r,p,z⟩
 ·refine ⟨its.toList,r,⟨o,I.gM a o hk,hc,n,by simpa using hs⟩,?_⟩;have e:=r.length;simp only [rh] at e;lia
theorem Inv.qA (I:Inv X pins σ H s) (h:ax X.K H a xs) (h':ax X.K H a ys):xs=ys:=by
 obtain ⟨its,r,⟨o,n,e,_,_,d⟩,_⟩:=I.list h;obtain ⟨its',r',⟨o',n',e',_,_,d'⟩,_⟩:=I.list h';rw [e] at e';cases e';rw [d] at d'
 injection d' with d1 _
 have:its=its':=by simpa using congrArg Array.toList d1
 subst this;exact r.inj r'
theorem Inv.ot (I:Inv X pins σ H s) (h:c_ X.K H a xs) (h':c_ X.K H a ys):xs=ys:=by
 obtain ⟨its,r,⟨o,e,_,n,d⟩,_⟩:=I.tuple h;obtain ⟨its',r',⟨o',e',_,n',d'⟩,_⟩:=I.tuple h';rw [e] at e';cases e';rw [d] at d'
 injection d' with d1 _
 have:its=its':=by simpa using congrArg Array.toList d1
 subst this;exact r.inj r'
end
abbrev Cx.iU (X:Cx) (E:Value->Shared->Prop):Cx:={ X with xe:=E }
abbrev Cx.zg (X:Cx):Cx:=X.iU fun _ _=>False
theorem Cx.Ok.iU {X:Cx} (ok:X.Ok) (E:Value->Shared->Prop):(X.iU E).Ok:=
 ⟨ok.mod,ok.kind,ok.glob,ok.blt,ok.above,ok.inj,ok.has,ok.ux,ok.hd,ok.frames,ok.vd,ok.zH,ok.bs,ok.oS,ok.jP,ok.kg,ok.eS,ok.pC⟩
theorem Cx.Ok.dF {X:Cx} {E:Value->Shared->Prop} (ok:(X.iU E).Ok):X.Ok:=
 ⟨ok.mod,ok.kind,ok.glob,ok.blt,ok.above,ok.inj,ok.has,ok.ux,ok.hd,ok.frames,ok.vd,ok.zH,ok.bs,ok.oS,ok.jP,ok.kg,ok.eS,ok.pC⟩
section
variable {X:Cx} {pins:List (Addr×Obj)} {σ:St} {H:Hp} {s:Shared} {E:Value->Shared->Prop}
theorem Inv.iU (I:Inv X pins σ H s) (E:Value->Shared->Prop):Inv (X.iU E) pins σ H s:=⟨I.ok.iU E,I.os,I.bare,I.base,I.loc,I.cell,I.free,I.cE,I.pin,I.af,I.len⟩
theorem Inv.dF (I:Inv (X.iU E) pins σ H s):Inv X pins σ H s:=⟨I.ok.dF,I.os,I.bare,I.base,I.loc,I.cell,I.free,I.cE,I.pin,I.af,I.len⟩
theorem SP.dF (h:SP (X.iU E) pins D f s'):SP X pins D f s':=by
 cases f with
 | next=>obtain ⟨aa,H',I,q⟩:=h;exact ⟨aa,H',I.dF,q⟩
 | brk=>obtain ⟨aa,H',I,q⟩:=h;exact ⟨aa,H',I.dF,q⟩
 | cont=>obtain ⟨aa,H',I,q⟩:=h;exact ⟨aa,H',I.dF,q⟩
 | ret u=>obtain ⟨v,aa,H',I,r,q⟩:=h;exact ⟨v,aa,H',I.dF,r,q⟩
theorem g7.zg {st:List Stmt} {t:TS} (h:g7 X.zg st t):g7 X st t:=fun pins s σ H D I hw=>
 wpAny_mono (h pins s σ H D (I.iU _) hw) (fun _ _ q=>q.dF) fun _ _ z=>False.elim z
end
section
variable {X:Cx} {st:Stmt} {rest:List Stmt} {t u:TS} {e:Expr} {te:TE} {pos:Pos}
def ZM:TS:=fun D σ H=>D.nx σ H
def Ze (t u:TS):TS:=fun D σ H=>t { D with nx:=u D } σ H
theorem dZ:g7 X [] ZM:=fun _ _ σ H _ I h=>wpAny_execs_nil ⟨σ,H,I,h⟩
theorem a_ (h1:PS X st t) (h2:g7 X rest u):g7 X (st::rest) (Ze t u):=by
 intro pins s σ H D I h;refine wpAny_execs_cons (av (h1 pins s σ H { D with nx:=u D } I h) fun f s1 q=>?_)
 cases f with
 | next=>
  obtain ⟨aa,H',I',q⟩:=q;exact h2 pins s1 aa H' D I' q
 | ret v=>exact q
 | brk=>exact q
 | cont=>exact q
theorem aE (h1:PS X st t):g7 X [st] t:=by
 intro pins s σ H D I h;refine wpAny_execs_cons (av (h1 pins s σ H D I h) fun f s1 q=>?_)
 cases f with
 | next=>exact wpAny_execs_nil q
 | ret v=>exact q
 | brk=>exact q
 | cont=>exact q
theorem Inv.quiet (I:Inv X pins σ H s):interactive X.env=false:=by simp [interactive,I.ok.kind]
def ZK (te:TE):TS:=fun D σ H=>te σ H fun _ H1=>D.nx σ H1
theorem gJ (he:PE X e te) (hs:swapsWith e none pos.line X.env=pure false:=by rfl):PS X (.Expr e pos) (ZK te):=by
 intro pins s σ H D I h;exact wpAny_Expr_any (av (he pins s σ H _ I h) fun v s1 zz=>L2.eT zz fun x H1 I1 r1 q1=>⟨σ,H1,I1,q1⟩) I.quiet hs
def Zd (te:TE):TS:=fun D σ H=>te σ H D.rt
theorem cC (he:PE X e te):PS X (.Return (some e) pos) (Zd te):=by
 intro pins s σ H D I h;exact wpAny_Return_some (av (he pins s σ H _ I h) fun v s1 zz=>L2.eT zz fun x H1 I1 r1 q1=>⟨x,σ,H1,I1,r1,q1⟩)
def Za (c:TT) (t u:TS):TS:=fun D σ H=>c σ H fun b H1=>if b=true then t D σ H1 else u D σ H1
theorem dR (hc:PT X c tc) (ha:g7 X a t) (hb:g7 X b u):PS X (.If c a b pos) (Za tc t u):=by
 intro pins s σ H D I h;refine wpAny_If (av (hc pins s σ H _ I h) fun d s1 zz=>?_);obtain ⟨H1,I1,q1⟩:=zz
 cases d with
 | true=>exact ha pins s1 σ H1 D I1 q1
 | false=>exact hb pins s1 σ H1 D I1 q1
def TH:TS:=fun _ _ _=>False
theorem wA:g7 X sts TH:=fun _ _ _ _ _ _ h=>h.elim
end
abbrev TG:=V->St->Hp->(St->Hp->Prop)->Prop
abbrev Cp:=List V->St->Hp->(St->Hp->Prop)->Prop
def PG (X:Cx) (target:Expr) (t:TG):Prop:=
 ∀(pins:List (Addr×Obj)) (s:Shared) (σ:St) (H:Hp) (v:V) (u:Value) (Q:St->Hp->Prop),Inv X pins σ H s->bR v u->t v σ H Q->
  wpAny (model X.prog X.w) X.A (assign target X.env u) (fun _ s'=>∃aa H',Inv X pins aa H' s'/\Q aa H') X.xe s
def nU (X:Cx) (ts:List Expr) (t:Cp):Prop:=
 ∀(pins:List (Addr×Obj)) (s:Shared) (σ:St) (H:Hp) (vs:List V) (us:List Value) (Q:St->Hp->Prop),Inv X pins σ H s->bq vs us->t vs σ H Q->
  wpAny (model X.prog X.w) X.A (assignInOrder ((assignEach ts X.env).map (·.2)) us) (fun _ s'=>∃aa H',Inv X pins aa H' s'/\Q aa H') X.xe s
abbrev Qz:=V->V->V->Hp->(Hp->Prop)->Prop
def Qy (X:Cx) (t:Qz):Prop:=
 ∀(pins:List (Addr×Obj)) (s:Shared) (σ:St) (H:Hp) (o i v:V) (ov iv u:Value) (Q:Hp->Prop),Inv X pins σ H s->bR o ov->bR i iv->bR v u->t o i v H Q->
  wpAny (model X.prog X.w) X.A (setItem ov iv u) (fun _ s'=>∃H',Inv X pins σ H' s'/\Q H') X.xe s
abbrev LX:=V->V->Hp->VK->Prop
def Th (X:Cx) (op:Operator) (t:LX):Prop:=
 ∀(pins:List (Addr×Obj)) (s:Shared) (σ:St) (H:Hp) (x y:V) (v u:Value) (Q:VK),Inv X pins σ H s->bR x v->bR y u->t x y H Q->
  wpAny (model X.prog X.w) X.A (inplaceOp op v u) (EP X pins σ Q) X.xe s
section
variable {X:Cx} {pos:Pos}
def uD (i:Nat):TG:=fun v σ H Q=>Q (σ.set i (some v)) H
theorem UW (hN:X.N.Nodup) (hi:X.N[i]?=some x) (hx:Loc X.env.scope x) (hf:X.fn x=true\/X.env.scope.names.lookup x=some .local:=by first | exact .inl rfl | exact .inr rfl | assumption):PG X (.Name x pos) (uD i):=by
 intro pins s σ H v u Q I r h;exact wpAny_assign_Name (HM I hN hi hx r (fun s' I'=>⟨_,H,I',h⟩) hf)
def Yt:Cp:=fun vs σ H Q=>vs=[]/\Q σ H
def Zi (t:TG) (u:Cp):Cp:=fun vs σ H Q=>∃v r,vs=v::r/\t v σ H fun aa H'=>u r aa H' Q
theorem rM:nU X [] Yt:=by
 intro pins s σ H vs us Q I r h;obtain ⟨e,h⟩:=h;subst e;cases r;exact assignInOrder_nil ⟨σ,H,I,h⟩
theorem dX (h1:PG X e t) (h2:nU X es u)
 (hs:(assignEach (e::es) X.env).map (·.2)=assign e X.env::(assignEach es X.env).map (·.2):=by rfl):nU X (e::es) (Zi t u):=by
 intro pins s σ H vs us Q I r h;obtain ⟨v,vr,e1,h⟩:=h;subst e1
 cases r with
 | cons r rr=>
  rw [hs];refine assignInOrder_cons (av (h1 pins s σ H _ _ _ I r h) fun _ s1 zz=>?_);obtain ⟨sF,H1,I1,q1⟩:=zz;exact h2 pins s1 sF H1 _ _ Q I1 rr q1
def Q0 (K:aF) (n:Nat) (t:Cp):TG:=fun v σ H Q=>∃a xs,v=.ref a/\c_ K H a xs/\xs.length=n/\t xs σ H Q
theorem uK (hc:X.calm=true) (h:nU X es t)
 (hn:(assignEach es X.env).length=n:=by rfl) (qI:(assignEach es X.env).findIdx? (·.1)=none:=by rfl):PG X (.Tuple es k pos) (Q0 X.K n t):=by
 intro pins s σ H v u Q I r hw;obtain ⟨a,xs,e1,hq,hl,hw⟩:=hw;subst e1;cases r;obtain ⟨its,rv,ht,hz⟩:=I.tuple hq;refine assign_Tuple_tuple (I.ok.hd hc) ht (by simp [hn,<-hl,rv.length]) qI fun h' hx=>?_;have I1:Inv X pins σ H { s with heap:=h' }:=I.kept (t':=s.toks) fun b o e=>hx b o (gY (dt e)) e;exact h pins _ σ H xs _ Q I1 (by simpa using rv) hw
def Yu (to ti:TE) (t:Qz):TG:=fun v σ H Q=>to σ H fun o H1=>ti σ H1 fun i H2=>t o i v H2 fun H3=>Q σ H3
theorem yC (ho:PE X o to) (hi:PE X i ti) (hs:Qy X t)
 (ha:∀v,assign (.Subscript o i pos) X.env v=(do
  let ov <-holding [v] (eval o X.env)
  let iv <-holding [v,ov] (eval i X.env)
  standAt pos
  holding [v,ov,iv] (setItem ov iv v)
  release [v,ov,iv] []):=by intro _;rfl):PG X (.Subscript o i pos) (Yu to ti t):=by
 intro pins s σ H v u Q I r h;rw [ha];refine ag (wpAny_holding (av (ho pins s σ H _ I h) fun ov s1 zz=>?_));obtain ⟨x,H1,I1,r1,q1⟩:=zz;refine ag (wpAny_holding (av (hi pins s1 σ H1 _ I1 q1) fun iv s2 zz=>?_));obtain ⟨y,H2,I2,r2,q2⟩:=zz;refine ag (wpAny_standAt (ag (wpAny_holding (av (hs pins s2 σ H2 x y v ov iv u _ I2 r1 r2 r q2) fun _ s3 zz=>?_))));obtain ⟨H3,I3,q3⟩:=zz;exact wpAny_release ⟨σ,H3,I3,q3⟩
def zV (te:TE) (g:TG):TS:=fun D σ H=>te σ H fun x H1=>g x σ H1 D.nx
theorem uL (he:PE X e te) (hg:PG X tg g) (hs:swapsWithSole [tg] e pos.line X.env=pure false:=by rfl) (hw:swappedStores [tg] e X.env=pure none:=by rfl)
 (h1:(assignEach [tg] X.env).map (·.2)=[assign tg X.env]:=by rfl):PS X (.Assign [tg] e pos) (zV te g):=by
 intro pins s σ H D I h;refine wpAny_Assign_stores (av (he pins s σ H _ I h) fun v s1 zz=>?_) hs hw;obtain ⟨x,H1,I1,r1,q1⟩:=zz;rw [h1];exact av (hg pins s1 σ H1 x v _ I1 r1 q1) fun _ s2 q=>q
theorem pQ (hN:X.N.Nodup) (hi:X.N[i]?=some x) (hx:Loc X.env.scope x) (he:PE X e te) (hs:swapsWith e (some (.Name x pos')) pos.line X.env=pure false:=by rfl) (hf:X.fn x=true\/X.env.scope.names.lookup x=some .local:=by first | exact .inl rfl | exact .inr rfl | assumption):
 PS X (.Assign [.Name x pos'] e pos) (zV te (uD i)):=by
 intro pins s σ H D I h;refine wpAny_Assign_Name (av (he pins s σ H _ I h) fun v s1 zz=>?_) hs;obtain ⟨y,H1,I1,r1,q1⟩:=zz;exact HM I1 hN hi hx r1 (fun s2 I2=>⟨_,H1,I2,q1⟩) hf
def YZ (i:Nat) (te:TE) (ti:LX):TS:=fun D σ H=>∃x,σ[i]?=some (some x)/\te σ H fun y H1=>ti x y H1 fun z H2=>D.nx (σ.set i (some z)) H2
theorem Hj (hN:X.N.Nodup) (hi:X.N[i]?=some x) (hx:Loc X.env.scope x) (he:PE X e te) (ho:Th X op ti) (hf:X.fn x=true\/X.env.scope.names.lookup x=some .local:=by first | exact .inl rfl | exact .inr rfl | assumption):
 PS X (.AugAssign (.Name x pos') op e pos) (YZ i te ti):=by
 intro pins s σ H D I h;obtain ⟨v,e1,h⟩:=h;obtain ⟨m,hn,hl⟩:=I.loc;have ZS:FH X.env.scope x:=by rcases hx with k | k;exact .inl k;exact .inr (.inl k)
 obtain ⟨u,r,l⟩:=hl i x v hi e1 ZS;refine wpAny_AugAssign_Name ?_;have go:wpAny (model X.prog X.w) X.A (eval e X.env) (fun w gh=>wpAny (model X.prog X.w) X.A (inplaceOp op u w) (fun r jr=>wpAny (model X.prog X.w) X.A (storeName X.env x r) (fun _=>SP X pins D .next) X.xe jr) X.xe gh) X.xe s:=by
  refine av (he pins s σ H _ I h) fun w s1 zz=>?_;obtain ⟨y,H1,I1,r1,q1⟩:=zz;refine av (ho pins s1 σ H1 v y u w _ I1 r r1 q1) fun z s2 zz=>?_;obtain ⟨zv,H2,I2,r2,q2⟩:=zz;exact HM I2 hN hi hx r2 (fun s3 I3=>⟨_,H2,I3,q2⟩) hf
 rcases l with ⟨hk,hm⟩ | ⟨hk,c,hc,nJ⟩
 ·exact wpAny_loadName_local I.ok.kind hk hn hm go
 ·rcases hk with hk | hk
  ·exact wpAny_loadName_cell I.ok.kind hk hc nJ go
  ·rcases hx with k | k
   ·have:X.env.scope.names.lookup x=some .free:=hk;rw [k] at this;cases this
   ·have:X.env.scope.names.lookup x=some .free:=hk;rw [k] at this;cases this
def ipI (f:Int->Int->Int):LX:=fun x y H Q=>∃i j,x=.int i/\y=.int j/\Q (.int (f i j)) H
theorem GQ:Th X .Add (ipI fun i j=>i+j):=by
 intro pins s σ H x y v u Q I r1 r2 h;obtain ⟨i,j,e1,e2,q⟩:=h;subst e1;subst e2;obtain ⟨t,rfl⟩:=r1;obtain ⟨t',rfl⟩:=r2;exact iadd_int ⟨.int _,H,I.tok _,⟨_,rfl⟩,q⟩
end
section
variable {X:Cx} {pos:Pos}
def UK (c:TT) (tb:TS):TS:=fun D σ H=>∃W:Nat->St->Hp->Prop,(∃m,W m σ H)/\∀m σ H,W m σ H->
 c σ H fun b H1=>if b=true then ∃N:St->Hp->Prop,(∀aa H',N aa H'->∃m',m'<m/\W m' aa H')/\tb { D with nx:=N,ct:=N,bk:=D.nx } σ H1 else D.nx σ H1
theorem O5 (hp:PassesOwn (model X.prog X.w) X.A X.env X.xe) (hc:PT X c tc) (hb:g7 X body tb):PS X (.While c body [] pos) (UK tc tb):=by
 intro pins s σ H D I h;obtain ⟨W,⟨m0,w0⟩,turn⟩:=h;refine wpAny_While (codeAny_whileLoop (fun n s'=>∃aa H',Inv X pins aa H' s'/\W n aa H') ?_ m0 ⟨σ,H,I,w0⟩);rintro n s1 ⟨sF,H1,I1,w1⟩;refine wpAny_passesOwn hp (av (hc pins s1 sF H1 _ I1 (turn n sF H1 w1)) fun b s2 zz=>?_);obtain ⟨H2,I2,q2⟩:=zz
 cases b with
 | true=>
  obtain ⟨N,hN,q2⟩:=q2;rw [if_pos rfl];refine wpAny_passesOwn hp (av (hb pins s2 sF H2 _ I2 q2) fun f s3 q3=>?_)
  cases f with
  | next=>
   obtain ⟨eg,H3,I3,n3⟩:=q3;obtain ⟨m',hm,w3⟩:=hN eg H3 n3;exact ⟨m',hm,eg,H3,I3,w3⟩
  | cont=>
   obtain ⟨eg,H3,I3,n3⟩:=q3;obtain ⟨m',hm,w3⟩:=hN eg H3 n3;exact ⟨m',hm,eg,H3,I3,w3⟩
  | brk=>exact q3
  | ret v=>exact q3
 | false=>
  rw [if_neg f7];exact wpAny_execs_nil ⟨sF,H2,I2,q2⟩
end
structure It where
 go:Nat->Hp->Prop
 wD:Nat->Hp->V->Hp->Prop
 stop:Nat->Hp->Prop
def rB (X:Cx) (pins:List (Addr×Obj)) (H:Hp) (b:Addr):Prop:=
 H b=none/\b≠X.env.locals/\b∉X.fs/\(b∈X.ex\/X.bU.heap.objs.size<=b)/\(∀x c,X.env.cells.lookup x=some c->c≠b)/\∀p∈X.pn++pins,p.1≠b
theorem Inv.qW (I:Inv X pins σ H s) (hb:s.heap.objs.size<=b) (hn:H' b=none):rB X pins H' b:=by
 refine ⟨hn,Nat.ne_of_gt (jb I.lt hb),I.JK hb,.inr (eE I.sz hb),fun x c e z=>?_,fun p hp z=>?_⟩
 ·obtain ⟨v,q⟩:=I.cell x c e;exact absurd (jb q.lt (by rw [z];exact hb)) (jC _)
 ·exact absurd (jb (dt (I.pin p hp).1) (by rw [z];exact hb)) (jC _)
def YY (X:Cx):Prop:=X.A.handled=none\/∃(a C:Addr) (dx:Option Addr) (t tb:Value) (u:HO),X.A.handled=some (.ref a)/\X.gr a=some (.gH (fH C dx t tb) u)
def mQ (X:Cx):Prop:=X.calm=true\/YY X
theorem Aa (q:mQ X) (I:Inv X pins σ H s):Hd X.A s.heap:=by
 rcases q with q | q | ⟨a,C,dx,t,tb,u,q,e⟩
 ·exact .inl (I.ok.hd q)
 ·exact .inl q
 ·exact .inr ⟨a,C,dx,t,tb,q,(I.af a _ (I.base.gm a _ _ e)).1⟩
theorem mQ.in_ (q:mQ X) (I:Inv X pins σ H s) (h1:Y.calm=X.calm) (h2:Y.A.handled=X.A.handled) (h3:∀a o u,H a=some (.gH o u)->Y.gr a=some (.gH o u)):mQ Y:=by
 rcases q with q | q | ⟨a,C,dx,t,tb,u,q,e⟩
 ·exact .inl (h1.trans q)
 ·exact .inr (.inl (h2.trans q))
 ·exact .inr (.inr ⟨a,C,dx,t,tb,u,h2.trans q,h3 _ _ _ (I.base.gm a _ _ e)⟩)
structure vS (P:Program) (w:World) (K:aF) (tg:Expr) (J:It) (fp:List Addr) (it:Addr) (tn:Nat->Heap->Prop):Prop where
 mem:it∈fp
 obj:∀i h,tn i h->∀b∈fp,∃o,h.get? b=some o/\∀v,o.data≠.cell v
 keep:∀i h h',tn i h->(∀b∈fp,∀o,h.get? b=some o->h'.get? b=some o)->tn i h'
 item:∀(X:Cx),X.prog=P->X.w=w->X.K=K->mQ X->∀(i:Nat) (pins:List (Addr×Obj)) (s:Shared) (σ:St) (H:Hp) (E:Value->Shared->Prop),Inv X pins σ H s->(∀b∈fp,rB X pins H b)->tn i s.heap->J.go i H->
  wpAny (model P w) X.A (pyNext (.ref it)) (fun r s1=>∃u,r=some u/\
   wpAny (model P w) X.A (letOwnedTupleGo tg (.ref it) u) (fun _ s2=>∃x H',Inv X pins σ H' s2/\bR x u/\J.wD i H x H'/\tn (i+1) s2.heap/\∀b∈fp,H' b=none) E s1) E s
 done:∀(X:Cx),X.prog=P->X.w=w->X.K=K->mQ X->∀(i:Nat) (pins:List (Addr×Obj)) (s:Shared) (σ:St) (H:Hp) (E:Value->Shared->Prop),Inv X pins σ H s->(∀b∈fp,rB X pins H b)->tn i s.heap->J.stop i H->
  wpAny (model P w) X.A (pyNext (.ref it)) (fun r s1=>r=none/\Inv X pins σ H s1) E s
 self:∀(A:Around) (i:Nat) (s:Shared) (Q:Value->Shared->Prop) (E:Value->Shared->Prop),tn i s.heap->Q (.ref it) s->wpAny (model P w) A (pyIter (.ref it)) Q E s
abbrev TI:=St->Hp->(It->Hp->Prop)->Prop
def Ti (X:Cx) (pins:List (Addr×Obj)) (σ:St) (tg:Expr) (R:It->Hp->Prop) (EU:Value) (s2:Shared):Prop:=
 ∃(it:Addr) (fp:List Addr) (tn:Nat->Heap->Prop) (J:It) (H':Hp),EU=.ref it/\Inv X pins σ H' s2/\vS X.prog X.w X.K tg J fp it tn/\tn 0 s2.heap/\(∀b∈fp,rB X pins H' b)/\R J H'
def PI (X:Cx) (tg iter:Expr) (wi:TI):Prop:=
 ∀(pins:List (Addr×Obj)) (s:Shared) (σ:St) (H:Hp) (R:It->Hp->Prop),Inv X pins σ H s->wi σ H R->
  wpAny (model X.prog X.w) X.A (eval iter X.env) (fun v s1=>wpAny (model X.prog X.w) X.A (pyIter v) (Ti X pins σ tg R) X.xe s1) X.xe s
theorem CF (ho:s.heap.get? it=some o) (hc:o.cls=.type n) (hd:o.data=.fields vs)
 (hn:["enumerate","zip","dict_itemiterator","dict_reverseitemiterator","odict_iterator","itertools.zip_longest","itertools.pairwise"].contains n=false) (hQ:Q () s):wpAny M A (letOwnedTupleGo tg (.ref it) u) Q E s:=by
 unfold letOwnedTupleGo;cases tg<;>first
  | exact aV hQ
  | (cases u<;>first
   | exact aV hQ
   | (refine ag (wpAny_load ho ?_)
      rw [hc,hd];show wpAny M A (if (["enumerate","zip","dict_itemiterator","dict_reverseitemiterator","odict_iterator","itertools.zip_longest","itertools.pairwise"].contains n && vs[0]?==some (rawInt _))=true then _ else _) Q E s;rw [if_neg (by intro h;rw [hn,Bool.false_and] at h;cases h)];exact aV hQ))
def zO (K:aF) (a:Addr):It:=
 ⟨fun i H=>∃xs x,ax K H a xs/\xs[i]?=some x,fun i H x H'=>H'=H/\∀xs,ax K H a xs->xs[i]?=some x,fun i H=>∃xs,ax K H a xs/\xs.length<=i⟩
def zN (K:aF) (a:Addr):It:=
 ⟨fun i H=>∃xs x,c_ K H a xs/\xs[i]?=some x,fun i H x H'=>H'=H/\∀xs,c_ K H a xs->xs[i]?=some x,fun i H=>∃xs,c_ K H a xs/\xs.length<=i⟩
def vK (lo:Int) (n:Nat):It:=⟨fun i _=>i<n,fun i H x H'=>H'=H/\x=.int (lo+i),fun i _=>n<=i⟩
theorem Xp {P:Program} {w:World} {K:aF} {tg:Expr} (a it:Addr):vS P w K tg (zO K a) [it] it (fun i h=>h.IsListIter it a i) where
 mem:=by simp
 obj:=fun i h st b hb=>by
  have e:b=it:=by simpa using hb
  subst e;obtain ⟨o,e,c,d⟩:=st;exact ⟨o,e,fun v z=>by rw [d] at z;cases z⟩
 keep:=fun i h h' st k=>st.at fun o e=>k it (by simp) o e
 item:=by
  intro X hP hw hK hc i pins s σ H E I hf st hg;subst hP hw hK;obtain ⟨xs,x,hq,hx⟩:=hg;obtain ⟨its,rv,p,hz⟩:=I.list hq;obtain ⟨u,hu,ru⟩:=rv.get hx;obtain ⟨f0,f1,f2,f3,f4,f5⟩:=hf it (by simp);refine wpAny_pyNext_list_item st p.isList (x:=u) (by simpa using hu) fun h' ae sb=>?_;have I1:Inv X pins σ H { s with heap:=h' }:=I.turned (t':=s.toks) (fun b o hb e=>(sb.2 b hb).trans e) f0 f1 f3 f4 f5;obtain ⟨o,e,c,d⟩:=id ae;exact ⟨u,rfl,CF (s:={ s with heap:=h' }) e c d (by decide) ⟨x,H,I1,ru,⟨rfl,fun ys hy=>by rw [I.qA hy hq];exact hx⟩,ae,fun b hb=>(hf b hb).1⟩⟩
 done:=by
  intro X hP hw hK hc i pins s σ H E I hf st hg;subst hP hw hK;obtain ⟨xs,hq,hx⟩:=hg;obtain ⟨its,rv,p,hz⟩:=I.list hq;obtain ⟨f0,f1,f2,f3,f4,f5⟩:=hf it (by simp);have hl:=rv.length;exact X3 (Aa hc I) st p.isList (by simp;lia) fun h' eb=>⟨rfl,I.turned (t':=s.toks) (fun b o hb e=>eb b o hb e) f0 f1 f3 f4 f5⟩
 self:=fun _ _ _ _ _ st h=>wpAny_pyIter_listiter st h
theorem Xq {P:Program} {w:World} {K:aF} {tg:Expr} (a it:Addr):vS P w K tg (zN K a) [it] it (fun i h=>h.IsTupleIter it a i) where
 mem:=by simp
 obj:=fun i h st b hb=>by
  have e:b=it:=by simpa using hb
  subst e;obtain ⟨o,e,c,d⟩:=st;exact ⟨o,e,fun v z=>by rw [d] at z;cases z⟩
 keep:=fun i h h' st k=>st.at fun o e=>k it (by simp) o e
 item:=by
  intro X hP hw hK hc i pins s σ H E I hf st hg;subst hP hw hK;obtain ⟨xs,x,hq,hx⟩:=hg;obtain ⟨its,rv,p,hz⟩:=I.tuple hq;obtain ⟨u,hu,ru⟩:=rv.get hx;obtain ⟨f0,f1,f2,f3,f4,f5⟩:=hf it (by simp);refine wpAny_pyNext_tuple_item st (show s.heap.IsTuple a its.toArray from p) (x:=u) (by simpa using hu) fun h' ae sb=>?_;have I1:Inv X pins σ H { s with heap:=h' }:=I.turned (t':=s.toks) (fun b o hb e=>(sb.2 b hb).trans e) f0 f1 f3 f4 f5;obtain ⟨o,e,c,d⟩:=id ae;exact ⟨u,rfl,CF (s:={ s with heap:=h' }) e c d (by decide) ⟨x,H,I1,ru,⟨rfl,fun ys hy=>by rw [I.ot hy hq];exact hx⟩,ae,fun b hb=>(hf b hb).1⟩⟩
 done:=by
  intro X hP hw hK hc i pins s σ H E I hf st hg;subst hP hw hK;obtain ⟨xs,hq,hx⟩:=hg;obtain ⟨its,rv,p,hz⟩:=I.tuple hq;obtain ⟨f0,f1,f2,f3,f4,f5⟩:=hf it (by simp);have hl:=rv.length;exact X1 (Aa hc I) st p (by simp;lia) fun h' eb=>⟨rfl,I.turned (t':=s.toks) (fun b o hb e=>eb b o hb e) f0 f1 f3 f4 f5⟩
 self:=fun _ _ _ _ _ st h=>wpAny_pyIter_tupleiter st h
theorem X2 {P:Program} {w:World} {K:aF} {tg:Expr} (it:Addr) (lo:Int) (n:Nat):vS P w K tg (vK lo n) [it] it (fun i h=>IsRangeIter h it (lo+(i:Nat)*1) ((n:Int)-(i:Nat)) 1) where
 mem:=by simp
 obj:=fun i h st b hb=>by
  have e:b=it:=by simpa using hb
  subst e;exact ⟨_,st,fun v z=>by
   have z':Data.fields _=Data.cell v:=z;cases z'⟩
 keep:=fun i h h' st k=>k it (by simp) _ st
 item:=by
  intro X hP hw hK hc i pins s σ H E I hf st hg;subst hP hw hK;obtain ⟨f0,f1,f2,f3,f4,f5⟩:=hf it (by simp);refine XT hg st fun t h' tk ae kk=>?_;have I1:Inv X pins σ H { s with heap:=h',toks:=tk }:=I.turned (fun b o hb e=>kk b o (by simpa using hb) e) f0 f1 f3 f4 f5;refine ⟨_,rfl,CF (s:={ s with heap:=h',toks:=tk }) (n:="range_iterator") ae rfl rfl (by decide) ⟨.int (lo+i),H,I1,⟨t,?_⟩,⟨rfl,rfl⟩,ae,fun b hb=>(hf b hb).1⟩⟩;rw [Int.mul_one]
 done:=by
  intro X hP hw hK hc i pins s σ H E I hf st hg;subst hP hw hK;obtain ⟨f0,f1,f2,f3,f4,f5⟩:=hf it (by simp);exact Qt (Aa hc I) st (by have:n<=i:=hg;lia) fun h' eb=>⟨rfl,I.turned (t':=s.toks) (fun b o hb e=>eb b o hb e) f0 f1 f3 f4 f5⟩
 self:=fun _ _ _ _ _ st h=>wpAny_pyIter_rangeiter st h
section
variable {X:Cx} {tg:Expr}
def Zk (K:aF) (tl:TE):TI:=fun σ H R=>tl σ H fun x H1=>∃a,x=.ref a/\(∃xs,ax K H1 a xs)/\R (zO K a) H1
def Yv (K:aF) (tl:TE):TI:=fun σ H R=>tl σ H fun x H1=>∃a,x=.ref a/\(∃xs,c_ K H1 a xs)/\R (zN K a) H1
theorem jq {l:Expr} {tl:TE} (hl:PE X l tl):PI X tg l (Zk X.K tl):=by
 intro pins s σ H R I h;refine av (hl pins s σ H _ I h) fun v s1 zz=>?_;obtain ⟨x,H1,I1,r1,q1⟩:=zz;obtain ⟨a,e,⟨xs,hq⟩,q⟩:=q1;subst e;cases r1;obtain ⟨its,rv,p,hz⟩:=I1.list hq;refine wpAny_pyIter_list p.isList ?_;refine ⟨s1.heap.objs.size,[s1.heap.objs.size],_,_,H1,rfl,I1.kept (t':=s1.toks) fun b o e=>cX _ e,Xp a _,⟨_,ki _ rfl,rfl,rfl⟩,fun b hb=>?_,q⟩;have e:b=s1.heap.objs.size:=by simpa using hb
 subst e;exact I1.qW (az _) (I1.af.fresh (az _))
theorem Hi {l:Expr} {tl:TE} (hl:PE X l tl):PI X tg l (Yv X.K tl):=by
 intro pins s σ H R I h;refine av (hl pins s σ H _ I h) fun v s1 zz=>?_;obtain ⟨x,H1,I1,r1,q1⟩:=zz;obtain ⟨a,e,⟨xs,hq⟩,q⟩:=q1;subst e;cases r1;obtain ⟨its,rv,p,hz⟩:=I1.tuple hq;refine wpAny_pyIter_tuple (show s1.heap.IsTuple a its.toArray from p) ?_;refine ⟨s1.heap.objs.size,[s1.heap.objs.size],_,_,H1,rfl,I1.kept (t':=s1.toks) fun b o e=>cX _ e,Xq a _,⟨_,ki _ rfl,rfl,rfl⟩,fun b hb=>?_,q⟩;have e:b=s1.heap.objs.size:=by simpa using hb
 subst e;exact I1.qW (az _) (I1.af.fresh (az _))
theorem O8 {lo hi:Int} {tk:Nat} (I:Inv X pins σ H s) (h1: -(2 ^ 62)<=lo) (h2:lo<2 ^ 62) (h3: -(2 ^ 62)<=hi) (h4:hi<2 ^ 62)
 (q:R (vK lo (hi-lo).toNat) H):wpAny (model X.prog X.w) X.A (pyIter (.ref s.heap.objs.size)) (Ti X pins σ tg R) E { s with heap:=s.heap.push { cls:=.type "range",data:=.fields #[.int lo t,.int hi u,.int 1 v] },toks:=tk }:=by
 refine wpAny_pyIter_range (IsRange.new ..) (small_one h1 h2 h3 h4) ?_;have I1:Inv X pins σ H { s with heap:=s.heap.push { cls:=.type "range",data:=.fields #[.int lo t,.int hi u,.int 1 v] },toks:=tk }:=I.kept fun b o e=>cX _ e;refine ⟨(s.heap.push { cls:=.type "range",data:=.fields #[.int lo t,.int hi u,.int 1 v] }).objs.size,[(s.heap.push { cls:=.type "range",data:=.fields #[.int lo t,.int hi u,.int 1 v] }).objs.size],_,_,H,rfl,
  I1.kept (t':=tk) fun b o e=>cX _ e,X2 _ lo (hi-lo).toNat,?_,fun b hb=>?_,q⟩
 ·have e1:lo+((0:Nat):Int)*1=lo:=by simp
  have e2:(((hi-lo).toNat:Nat):Int)-((0:Nat):Int)=Builtin.Range.rangeSize lo hi 1:=by rw [rangeSize_one];split<;>lia
  show IsRangeIter _ _ (lo+((0:Nat):Int)*1) ((((hi-lo).toNat:Nat):Int)-((0:Nat):Int)) 1;rw [e1,e2];exact ki _ rfl
 ·have e:b=(s.heap.push { cls:=.type "range",data:=.fields #[.int lo t,.int hi u,.int 1 v] }).objs.size:=by simpa using hb
  subst e;exact I1.qW (az _) (I1.af.fresh (az _))
def Zl (ta:TA):TI:=fun σ H R=>ta σ H fun vs H1=>∃j:Int,vs=[.int j]/\-(2 ^ 62)<=j/\j<2 ^ 62/\R (vK 0 j.toNat) H1
def Zm (ta:TA):TI:=fun σ H R=>ta σ H fun vs H1=>∃i j:Int,vs=[.int i,.int j]/\(-(2 ^ 62)<=i/\i<2 ^ 62/\-(2 ^ 62)<=j/\j<2 ^ 62)/\R (vK i (j-i).toNat) H1
theorem tf (hg:Gl X "range") (hm:X.mg "range"=none) (ha:PA X [a] ta) (hs:starEach [a] X.env=[(false,eval a X.env)]:=by rfl):PI X tg (.Call (.Name "range" p) [a] [] pos) (Zl ta):=by
 intro pins s σ H R I h;refine Call_ (wa I hg hm boot_range (PyProof.Rows.callWith_type1 (av (ha pos pins s σ H _ I h) fun us s1 zz=>?_) hs rfl));obtain ⟨vs,H1,I1,r1,q1⟩:=zz;obtain ⟨j,e,q1,q2,q⟩:=q1;subst e
 cases r1 with
 | cons r rr=>
  cases rr;obtain ⟨t,rfl⟩:=r;exact call_range_1 (O8 I1 (by lia) (by exact Int.NonNeg.mk (2 ^ 62-Nat.succ 0)) q1 q2 (by simpa using q))
theorem WM (hg:Gl X "range") (hm:X.mg "range"=none) (ha:PA X [a,b] ta) (hs:starEach [a,b] X.env=[(false,eval a X.env),(false,eval b X.env)]:=by rfl) (jT:starEach [b] X.env=[(false,eval b X.env)]:=by rfl):
 PI X tg (.Call (.Name "range" p) [a,b] [] pos) (Zm ta):=by
 intro pins s σ H R I h;refine Call_ (wa I hg hm boot_range (PyProof.Rows.callWith_type1 (av (ha pos pins s σ H _ I h) fun us s1 zz=>?_) (by rw [hs,jT]) (by rw [jT];rfl)));obtain ⟨vs,H1,I1,r1,q1⟩:=zz;obtain ⟨i,j,e,⟨q1,q2,q3,q4⟩,q⟩:=q1;subst e
 cases r1 with
 | cons r rr=>
  cases rr with
  | cons r' rr=>
   cases rr;obtain ⟨t,rfl⟩:=r;obtain ⟨t',rfl⟩:=r';exact call_range_2 (O8 I1 q1 q2 q3 q4 q)
def QI (wi:TI) (g:TG) (tb:TS):TS:=fun D σ H=>wi σ H fun J H1=>∃W:Nat->Nat->St->Hp->Prop,(∃m,W 0 m σ H1)/\∀i m σ H,W i m σ H->
 (J.stop i H/\D.nx σ H)\/(J.go i H/\∃N:St->Hp->Prop,(∀aa H',N aa H'->∃m',m'<m/\W (i+1) m' aa H')/\∀x H',J.wD i H x H'->g x σ H' fun i9 H2=>tb { D with nx:=N,ct:=N,bk:=D.nx } i9 H2)
def Aj (fp:List Addr) (h:Heap):List (Addr×Obj):=fp.filterMap fun b=>(h.get? b).map fun o=>(b,o)
theorem DI (hb:b∈fp) (e:h.get? b=some o):(b,o)∈Aj fp h:=List.mem_filterMap.mpr ⟨b,hb,by rw [e];rfl⟩
theorem WJ (hp:p∈Aj fp h):p.1∈fp/\h.get? p.1=some p.2:=by
 obtain ⟨b,hb,e⟩:=List.mem_filterMap.mp hp
 cases q:h.get? b with
 | none=>rw [q] at e;cases e
 | some o=>
  rw [q] at e;have e':(b,o)=p:=eF e;subst e';exact ⟨hb,q⟩
theorem Inv.pinned (I:Inv X pins σ H s) (hf:∀b∈fp,rB X pins H b) (ho:∀b∈fp,∃o,s.heap.get? b=some o/\∀v,o.data≠.cell v):Inv X (pins++Aj fp s.heap) σ H s:=
 I.nk fun p hp=>(i8.mp hp).elim (fun z=>I.pin p (kJ _ z)) fun z=>by
  obtain ⟨hb,e⟩:=WJ z;obtain ⟨f0,f1,f2,_⟩:=hf p.1 hb;obtain ⟨o,e',d⟩:=ho p.1 hb;rw [e] at e';cases e';exact ⟨e,f0,f1,f2,d⟩
theorem Inv.gA (I:Inv X (pins++pl) σ H s):Inv X pins σ H s:=I.nk fun p hp=>I.pin p (kJ _ (iL _ hp))
theorem U' (hp:PassesOwn (model X.prog X.w) X.A X.env X.xe) (hc:mQ X) (hi:PI X tg iter wi) (hg:PG X tg g) (hb:g7 X body tb)
 (hs:∀x,foldedSetIterable iter X.env x=pure x:=by intro _;rfl):PS X (.For tg iter body [] pos) (QI wi g tb):=by
 intro pins s σ H D I h;refine wpAny_For (av (hi pins s σ H _ I h) fun v s1 h1=>av h1 fun EU s2 h2=>?_) hs;obtain ⟨it,fp,tn,J,H2,e,I2,T,aT,f2,W,⟨m0,w0⟩,turn⟩:=h2;subst e;have mf:∀{H':Hp},(∀b∈fp,H' b=none)->∀b∈fp,rB X pins H' b:=fun hn b hb=>⟨hn b hb,(f2 b hb).2⟩;refine codeAny_forLoop_any (fun n s'=>∃i aa H',Inv X pins aa H' s'/\tn i s'.heap/\(∀b∈fp,H' b=none)/\W i n aa H') ?_ m0 ⟨0,σ,H2,I2,aT,fun b hb=>(f2 b hb).1,w0⟩;rintro n s3 ⟨i,eg,H3,I3,cj,SG,w3⟩;rcases turn i n eg H3 w3 with ⟨stop,qn⟩ | ⟨go,N,hN,step⟩
 ·refine wpAny_passesOwn hp (av (T.done X rfl rfl rfl hc i pins s3 eg H3 X.xe I3 (mf SG) cj stop) fun r s4 ⟨hr,I4⟩=>?_);subst hr;exact wpAny_execs_nil ⟨eg,H3,I4,qn⟩
 ·refine wpAny_passesOwn hp (av (T.item X rfl rfl rfl hc i pins s3 eg H3 X.xe I3 (mf SG) cj go) fun r s4 zz=>L2.SR zz fun u hr h4=>?_);subst hr;refine wpAny_passesOwn hp (av h4 fun _ s5 zz=>?_);obtain ⟨x,H5,I5,r5,y5,kX,F8⟩:=zz;have I5':=I5.pinned (mf F8) (T.obj _ _ kX);refine wpAny_passesOwn hp (av (hg _ s5 eg H5 x u _ I5' r5 (step x H5 y5)) fun _ s6 zz=>?_);obtain ⟨Tt,H6,I6,q6⟩:=zz;refine wpAny_passesOwn hp (av (hb _ s6 Tt H6 _ I6 q6) fun f s7 q7=>?_);have again:∀{pJ:St} {H7:Hp},Inv X (pins++Aj fp s5.heap) pJ H7 s7->N pJ H7->∃m,m<n/\∃i aa H',Inv X pins aa H' s7/\tn i s7.heap/\(∀b∈fp,H' b=none)/\W i m aa H':=fun {pJ H7} I7 n7=>by
   obtain ⟨m',hm,w7⟩:=hN pJ H7 n7;refine ⟨m',hm,i+1,pJ,H7,I7.gA,T.keep _ _ _ kX fun b hb o e=>(I7.pin (b,o) (kJ _ (kJ _ (DI hb e)))).1,fun b hb=>?_,w7⟩;obtain ⟨o,e,d⟩:=T.obj _ _ kX b hb;exact (I7.pin (b,o) (kJ _ (kJ _ (DI hb e)))).2.1
  cases f with
  | next=>obtain ⟨pJ,H7,I7,n7⟩:=q7;exact again I7 n7
  | cont=>obtain ⟨pJ,H7,I7,n7⟩:=q7;exact again I7 n7
  | brk=>obtain ⟨pJ,H7,I7,q7⟩:=q7;exact ⟨pJ,H7,I7.gA,q7⟩
  | ret v=>obtain ⟨x7,pJ,H7,I7,r7,q7⟩:=q7;exact ⟨x7,pJ,H7,I7.gA,r7,q7⟩
theorem jw (hp:PassesOwn (model X.prog X.w) X.A X.env X.xe) (hc:X.calm=true) (hi:PI X tg iter wi) (hg:PG X tg g) (hb:g7 X body tb)
 (hs:∀x,foldedSetIterable iter X.env x=pure x:=by intro _;rfl):PS X (.For tg iter body [] pos) (QI wi g tb):=U' hp (.inl hc) hi hg hb hs
end
theorem om {K:aF} {a:Addr} {xs:List V} {g:TG} {tb:TS} {D:uz} {σ:St} {H:Hp} (Pv:Nat->St->Hp->Prop) (h0:Pv 0 σ H) (hl:∀i σ H,i<=xs.length->Pv i σ H->ax K H a xs)
 (hs:∀i x σ H,xs[i]?=some x->Pv i σ H->g x σ H fun i9 H2=>tb { D with nx:=Pv (i+1),ct:=Pv (i+1),bk:=D.nx } i9 H2) (hd:∀σ H,Pv xs.length σ H->D.nx σ H):
 ∃W:Nat->Nat->St->Hp->Prop,(∃m,W 0 m σ H)/\∀i m σ H,W i m σ H->
  ((zO K a).stop i H/\D.nx σ H)\/((zO K a).go i H/\∃N:St->Hp->Prop,(∀aa H',N aa H'->∃m',m'<m/\W (i+1) m' aa H')/\∀x H',(zO K a).wD i H x H'->g x σ H' fun i9 H2=>tb { D with nx:=N,ct:=N,bk:=D.nx } i9 H2):=by
 refine ⟨fun i m σ H=>m=xs.length-i/\i<=xs.length/\Pv i σ H,⟨xs.length,by simp,d9 _,h0⟩,?_⟩;rintro i m σ H ⟨rfl,hi,p⟩;have q:=hl i σ H hi p
 by_cases bb:i<xs.length
 ·refine .inr ⟨⟨xs,xs[i],q,by simp [bb]⟩,Pv (i+1),fun aa H' p'=>⟨xs.length-(i+1),by omega,rfl,bb,p'⟩,fun x H' y=>?_⟩;obtain ⟨e,y⟩:=y;subst e;exact hs i x σ _ (y xs q) p
 ·have e:i=xs.length:=by lia
  subst e;exact .inl ⟨⟨xs,q,az _⟩,hd σ H p⟩
theorem UH {K:aF} {a:Addr} {xs:List V} {g:TG} {tb:TS} {D:uz} {σ:St} {H:Hp} (Pv:Nat->St->Hp->Prop) (h0:Pv 0 σ H) (hl:∀i σ H,i<=xs.length->Pv i σ H->c_ K H a xs)
 (hs:∀i x σ H,xs[i]?=some x->Pv i σ H->g x σ H fun i9 H2=>tb { D with nx:=Pv (i+1),ct:=Pv (i+1),bk:=D.nx } i9 H2) (hd:∀σ H,Pv xs.length σ H->D.nx σ H):
 ∃W:Nat->Nat->St->Hp->Prop,(∃m,W 0 m σ H)/\∀i m σ H,W i m σ H->
  ((zN K a).stop i H/\D.nx σ H)\/((zN K a).go i H/\∃N:St->Hp->Prop,(∀aa H',N aa H'->∃m',m'<m/\W (i+1) m' aa H')/\∀x H',(zN K a).wD i H x H'->g x σ H' fun i9 H2=>tb { D with nx:=N,ct:=N,bk:=D.nx } i9 H2):=by
 refine ⟨fun i m σ H=>m=xs.length-i/\i<=xs.length/\Pv i σ H,⟨xs.length,by simp,d9 _,h0⟩,?_⟩;rintro i m σ H ⟨rfl,hi,p⟩;have q:=hl i σ H hi p
 by_cases bb:i<xs.length
 ·refine .inr ⟨⟨xs,xs[i],q,by simp [bb]⟩,Pv (i+1),fun aa H' p'=>⟨xs.length-(i+1),by omega,rfl,bb,p'⟩,fun x H' y=>?_⟩;obtain ⟨e,y⟩:=y;subst e;exact hs i x σ _ (y xs q) p
 ·have e:i=xs.length:=by lia
  subst e;exact .inl ⟨⟨xs,q,az _⟩,hd σ H p⟩
theorem AE {lo:Int} {n:Nat} {g:TG} {tb:TS} {D:uz} {σ:St} {H:Hp} (Pv:Nat->St->Hp->Prop) (h0:Pv 0 σ H)
 (hs:∀i σ H,i<n->Pv i σ H->g (.int (lo+i)) σ H fun i9 H2=>tb { D with nx:=Pv (i+1),ct:=Pv (i+1),bk:=D.nx } i9 H2) (hd:∀σ H,Pv n σ H->D.nx σ H):
 ∃W:Nat->Nat->St->Hp->Prop,(∃m,W 0 m σ H)/\∀i m σ H,W i m σ H->
  ((vK lo n).stop i H/\D.nx σ H)\/((vK lo n).go i H/\∃N:St->Hp->Prop,(∀aa H',N aa H'->∃m',m'<m/\W (i+1) m' aa H')/\∀x H',(vK lo n).wD i H x H'->g x σ H' fun i9 H2=>tb { D with nx:=N,ct:=N,bk:=D.nx } i9 H2):=by
 refine ⟨fun i m σ H=>m=n-i/\i<=n/\Pv i σ H,⟨n,by simp,d9 _,h0⟩,?_⟩;rintro i m σ H ⟨rfl,hi,p⟩
 by_cases bb:i<n
 ·refine .inr ⟨bb,Pv (i+1),fun aa H' p'=>⟨n-(i+1),by omega,rfl,bb,p'⟩,fun x H' y=>?_⟩;obtain ⟨e,y⟩:=y;subst e y;exact hs i σ _ bb p
 ·have e:i=n:=by lia
  subst e;exact .inl ⟨az _,hd σ H p⟩
abbrev R2:=V->V->Hp->VK->Prop
def eX (X:Cx) (f:Value->Value->Sem Value) (r:R2):Prop:=
 ∀(pins:List (Addr×Obj)) (s:Shared) (σ:St) (H:Hp) (x y:V) (v u:Value) (Q:VK),Inv X pins σ H s->bR x v->bR y u->r x y H Q->
  wpAny (model X.prog X.w) X.A (f v u) (EP X pins σ Q) X.xe s
def LW (X:Cx) (f:Value->Sem Value) (r:V->Hp->VK->Prop):Prop:=
 ∀(pins:List (Addr×Obj)) (s:Shared) (σ:St) (H:Hp) (x:V) (v:Value) (Q:VK),Inv X pins σ H s->bR x v->r x H Q->
  wpAny (model X.prog X.w) X.A (f v) (EP X pins σ Q) X.xe s
def rC (X:Cx) (f:Value) (r:List V->Hp->VK->Prop):Prop:=
 ∀(pins:List (Addr×Obj)) (s:Shared) (σ:St) (H:Hp) (xs:List V) (us:List Value) (Q:VK),Inv X pins σ H s->bq xs us->r xs H Q->
  wpAny (model X.prog X.w) X.A (call f us) (EP X pins σ Q) X.xe s
def qe (r:R2) (ta tb:TE):TE:=fun σ H Q=>ta σ H fun x H1=>tb σ H1 fun y H2=>r x y H2 Q
def ZV (r:V->Hp->VK->Prop) (ta:TE):TE:=fun σ H Q=>ta σ H fun x H1=>r x H1 Q
def rI (C:Int->Int->Prop) (g:Int->Int->V):R2:=fun x y H Q=>∃i j,x=.int i/\y=.int j/\C i j/\Q (g i j) H
def vj (g:Int->Int->V):R2:=fun x y H Q=>∃i j,x=.int i/\y=.int j/\Q (g i j) H
def rU (g:Int->V):V->Hp->VK->Prop:=fun x H Q=>∃i,x=.int i/\Q (g i) H
section
variable {X:Cx} {a b c:Expr} {ta tb tc:TE} {pos:Pos}
theorem ID (ha:PE X a ta) (hb:PE X b tb) {pins:List (Addr×Obj)} {s:Shared} {σ:St} {H:Hp} {R:V->V->Hp->Prop} (I:Inv X pins σ H s)
 (h:ta σ H fun x H1=>tb σ H1 fun y H2=>R x y H2) {Q:Value->Shared->Prop} {f:Value->Value->Sem Value}
 (hf:∀v u s2 x y H2,Inv X pins σ H2 s2->bR x v->bR y u->R x y H2->wpAny (model X.prog X.w) X.A (f v u) Q X.xe s2):
 wpAny (model X.prog X.w) X.A (eval a X.env) (fun v au=>wpAny (model X.prog X.w) X.A (eval b X.env) (fun u gh=>wpAny (model X.prog X.w) X.A (f v u) Q X.xe gh) X.xe au) X.xe s:=by
 refine av (ha pins s σ H _ I h) fun v s1 zz=>?_;obtain ⟨x,H1,I1,r1,q1⟩:=zz;refine av (hb pins s1 σ H1 _ I1 q1) fun u s2 zz=>?_;obtain ⟨y,H2,I2,r2,q2⟩:=zz;exact hf v u s2 x y H2 I2 r1 r2 q2
theorem bP {op:Operator} {r:R2} (ho:eX X (binaryOp op) r) (ha:PE X a ta) (hb:PE X b tb):PE X (.BinOp a op b pos) (qe r ta tb):=by
 intro pins s σ H Q I h;exact wpAny_BinOp (ID ha hb I h fun v u s2 x y H2 I2 rx ry q=>ho pins s2 σ H2 x y v u Q I2 rx ry q)
theorem sO (ho:LW X (unaryOp op) r) (ha:PE X a ta):PE X (.UnaryOp op a pos) (ZV r ta):=by
 intro pins s σ H Q I h;exact UnaryOp_ (av (ha pins s σ H _ I h) fun v s1 zz=>L2.eT zz fun x H1 I1 r1 q1=>ho pins s1 σ H1 x v Q I1 r1 q1)
theorem Rp {f:Value->Value->Sem Value} {C:Int->Int->Prop} {g:Int->Int->Int}
 (rule:∀(i j:Int) (t u:Tok) (s:Shared) (Q:Value->Shared->Prop) (E:Value->Shared->Prop),C i j->Q (.int (g i j) s.toks) { s with toks:=s.toks+1 }->wpAny (model X.prog X.w) X.A (f (.int i t) (.int j u)) Q E s):
 eX X f (rI C fun i j=>.int (g i j)):=by
 intro pins s σ H x y v u Q I rx ry h;obtain ⟨i,j,rfl,rfl,hc,q⟩:=h;obtain ⟨t,rfl⟩:=rx;obtain ⟨t',rfl⟩:=ry;exact rule i j t t' s _ _ hc ⟨.int (g i j),H,I.tok _,⟨_,rfl⟩,q⟩
theorem Q8 {f:Value->Value->Sem Value} {g:Int->Int->Int}
 (rule:∀(i j:Int) (t u:Tok) (s:Shared) (Q:Value->Shared->Prop) (E:Value->Shared->Prop),Q (.int (g i j) s.toks) { s with toks:=s.toks+1 }->wpAny (model X.prog X.w) X.A (f (.int i t) (.int j u)) Q E s):
 eX X f (vj fun i j=>.int (g i j)):=by
 intro pins s σ H x y v u Q I rx ry h;obtain ⟨i,j,rfl,rfl,q⟩:=h;obtain ⟨t,rfl⟩:=rx;obtain ⟨t',rfl⟩:=ry;exact rule i j t t' s _ _ ⟨.int (g i j),H,I.tok _,⟨_,rfl⟩,q⟩
theorem DY {f:Value->Value->Sem Value} {g:Int->Int->Bool}
 (rule:∀(i j:Int) (t u:Tok) (s:Shared) (Q:Value->Shared->Prop) (E:Value->Shared->Prop),Q (.bool (g i j)) s->wpAny (model X.prog X.w) X.A (f (.int i t) (.int j u)) Q E s):
 eX X f (vj fun i j=>.bl (g i j)):=by
 intro pins s σ H x y v u Q I rx ry h;obtain ⟨i,j,rfl,rfl,q⟩:=h;obtain ⟨t,rfl⟩:=rx;obtain ⟨t',rfl⟩:=ry;exact rule i j t t' s _ _ ⟨.bl (g i j),H,I,rfl,q⟩
def Il (i j:Int):Prop:=(-(2 ^ 64)<i/\i<2 ^ 64)\/(-(2 ^ 64)<j/\j<2 ^ 64)
theorem Il.ok (h:Il i j):IntMulOk i j:=by
 rcases h with ⟨h1,h2⟩ | ⟨h1,h2⟩
 ·exact .of_left (intBits_le_64 h1 h2)
 ·exact .of_right (intBits_le_64 h1 h2)
theorem g9:eX X (binaryOp .Add) (vj fun i j=>.int (i+j)):=Q8 fun _ _ _ _ _ _ _ q=>add_int q
theorem iQ:eX X (binaryOp .Sub) (vj fun i j=>.int (i-j)):=Q8 fun _ _ _ _ _ _ _ q=>sub_int q
theorem TR:eX X (binaryOp .Mult) (rI Il fun i j=>.int (i*j)):=Rp fun _ _ _ _ _ _ _ hc q=>mul_int q hc.ok
theorem G_:eX X (binaryOp .Mod) (rI (fun _ j=>0<j) fun i j=>.int (i % j)):=Rp fun i j _ _ _ _ _ hc q=>by
 have h1:(0:Int)<j:=hc;exact mod_int' (by exact Int.ne_of_gt hc) (by rw [Int.fmod_eq_emod_of_nonneg i (by exact f_ hc)];exact q)
theorem ZT {f:Value->Sem Value} {g:Int->Int}
 (rule:∀(i:Int) (t:Tok) (s:Shared) (Q:Value->Shared->Prop) (E:Value->Shared->Prop),Q (.int (g i) s.toks) { s with toks:=s.toks+1 }->wpAny (model X.prog X.w) X.A (f (.int i t)) Q E s):
 LW X f (rU fun i=>.int (g i)):=by
 intro pins s σ H x v Q I rx h;obtain ⟨i,rfl,q⟩:=h;obtain ⟨t,rfl⟩:=rx;exact rule i t s _ _ ⟨.int (g i),H,I.tok _,⟨_,rfl⟩,q⟩
theorem sR:LW X (unaryOp .USub) (rU fun i=>.int (-i)):=ZT fun _ _ _ _ _ q=>neg_int q
end
def QG:V->V->Bool
 | .aU,.aU=>true | .aU,.int _=>true | .int _,.aU=>true | .aU,.bl _=>true | .bl _,.aU=>true | .aU,.str _=>true | .str _,.aU=>true
 | .int _,.int _=>true | .bl _,.bl _=>true | .str _,.str _=>true | .oR _,.oR _=>true
 | .int _,.str _=>true | .str _,.int _=>true | .bl _,.str _=>true | .str _,.bl _=>true
 | _,_=>false
def Ri:R2:=fun x y H Q=>QG x y=true/\Q (.bl (decide (x=y))) H
def rNe:R2:=fun x y H Q=>QG x y=true/\Q (.bl (!decide (x=y))) H
theorem Nh:decide (V.int i=V.int j)=(i==j):=by
 rw [Bool.eq_iff_iff];simp
theorem My:decide (V.bl i=V.bl j)=(i==j):=by
 rw [Bool.eq_iff_iff];simp
theorem Ni:decide (V.str i=V.str j)=(i==j):=by
 rw [Bool.eq_iff_iff];simp
theorem Ng:decide (V.oR i=V.oR j)=(i.toList==j.toList):=by
 rw [Bool.eq_iff_iff];cases i;cases j;simp
section
variable {X:Cx} {a b c:Expr} {ta tb tc:TE} {pos:Pos}
theorem fJ (I:Inv X pins σ H s) (q:Q (.bl k) H) (e:k=k'):EP X pins σ Q (.bool k') s:=by
 subst e;exact ⟨.bl k,H,I,rfl,q⟩
theorem gu:eX X (compareOp .Eq) Ri:=by
 intro pins s σ H x y v u Q I rx ry h;obtain ⟨hs,q⟩:=h
 cases x with
 | aU=>
  cases rx
  cases y with
  | aU=>cases ry;exact PySem.EqNone.eq_none_none (fJ I q (by simp))
  | bl j=>cases ry;exact PySem.EqNone.eq_none_bool (fJ I q (by simp))
  | int j=>obtain ⟨t',rfl⟩:=ry;exact PySem.EqNone.eq_none_int (fJ I q (by simp))
  | str j=>obtain ⟨t',rfl⟩:=ry;exact PySem.EqNone.eq_none_str (fJ I q (by simp))
  | _=>exact absurd (show false=true from hs) f7
 | bl i=>
  cases rx
  cases y with
  | aU=>cases ry;exact PySem.EqNone.eq_bool_none (fJ I q (by simp))
  | bl j=>cases ry;exact eq_bool (fJ I q My)
  | str j=>obtain ⟨t',rfl⟩:=ry;exact PySem.EqMixed.eq_bool_str (fJ I q (by simp))
  | _=>exact absurd (show false=true from hs) f7
 | int i=>
  obtain ⟨t,rfl⟩:=rx
  cases y with
  | aU=>cases ry;exact PySem.EqNone.eq_int_none (fJ I q (by simp))
  | int j=>obtain ⟨t',rfl⟩:=ry;exact eq_int (fJ I q Nh)
  | str j=>obtain ⟨t',rfl⟩:=ry;exact PySem.EqMixed.eq_int_str (fJ I q (by simp))
  | _=>exact absurd (show false=true from hs) f7
 | str i=>
  obtain ⟨t,rfl⟩:=rx
  cases y with
  | aU=>cases ry;exact PySem.EqNone.eq_str_none (fJ I q (by simp))
  | bl j=>cases ry;exact PySem.EqMixed.eq_str_bool (fJ I q (by simp))
  | int j=>obtain ⟨t',rfl⟩:=ry;exact PySem.EqMixed.eq_str_int (fJ I q (by simp))
  | str j=>obtain ⟨t',rfl⟩:=ry;exact eq_str (fJ I q Ni)
  | _=>exact absurd (show false=true from hs) f7
 | oR i=>
  obtain ⟨t,rfl⟩:=rx
  cases y with
  | oR j=>obtain ⟨t',rfl⟩:=ry;exact PySem.W.eq_bytes (fJ I q Ng)
  | _=>exact absurd (show false=true from hs) f7
 | _=>cases y<;>exact absurd (show false=true from hs) f7
theorem CJ:eX X (compareOp .NotEq) rNe:=by
 intro pins s σ H x y v u Q I rx ry h;obtain ⟨hs,q⟩:=h
 cases x with
 | aU=>
  cases rx
  cases y with
  | aU=>cases ry;exact PySem.EqNone.ne_none_none (fJ I q (by simp))
  | bl j=>cases ry;exact PySem.EqNone.ne_none_bool (fJ I q (by simp))
  | int j=>obtain ⟨t',rfl⟩:=ry;exact PySem.EqNone.ne_none_int (fJ I q (by simp))
  | str j=>obtain ⟨t',rfl⟩:=ry;exact PySem.EqNone.ne_none_str (fJ I q (by simp))
  | _=>exact absurd (show false=true from hs) f7
 | bl i=>
  cases rx
  cases y with
  | aU=>cases ry;exact PySem.EqNone.ne_bool_none (fJ I q (by simp))
  | bl j=>cases ry;exact ne_bool (fJ I q (congrArg not My))
  | str j=>obtain ⟨t',rfl⟩:=ry;exact PySem.EqMixed.ne_bool_str (fJ I q (by simp))
  | _=>exact absurd (show false=true from hs) f7
 | int i=>
  obtain ⟨t,rfl⟩:=rx
  cases y with
  | aU=>cases ry;exact PySem.EqNone.ne_int_none (fJ I q (by simp))
  | int j=>obtain ⟨t',rfl⟩:=ry;exact ne_int (fJ I q (congrArg not Nh))
  | str j=>obtain ⟨t',rfl⟩:=ry;exact PySem.EqMixed.ne_int_str (fJ I q (by simp))
  | _=>exact absurd (show false=true from hs) f7
 | str i=>
  obtain ⟨t,rfl⟩:=rx
  cases y with
  | aU=>cases ry;exact PySem.EqNone.ne_str_none (fJ I q (by simp))
  | bl j=>cases ry;exact PySem.EqMixed.ne_str_bool (fJ I q (by simp))
  | int j=>obtain ⟨t',rfl⟩:=ry;exact PySem.EqMixed.ne_str_int (fJ I q (by simp))
  | str j=>obtain ⟨t',rfl⟩:=ry;exact ne_str (fJ I q (congrArg not Ni))
  | _=>exact absurd (show false=true from hs) f7
 | oR i=>
  obtain ⟨t,rfl⟩:=rx
  cases y with
  | oR j=>obtain ⟨t',rfl⟩:=ry;exact PySem.W.ne_bytes (fJ I q (congrArg not Ng))
  | _=>exact absurd (show false=true from hs) f7
 | _=>cases y<;>exact absurd (show false=true from hs) f7
theorem uG:eX X (compareOp .Lt) (vj fun i j=>.bl (decide (i<j))):=DY fun _ _ _ _ _ _ _ q=>lt_int q
theorem mR:eX X (compareOp .LtE) (vj fun i j=>.bl (decide (i<=j))):=DY fun _ _ _ _ _ _ _ q=>le_int q
theorem Ms:eX X (compareOp .Gt) (vj fun i j=>.bl (decide (j<i))):=DY fun _ _ _ _ _ _ _ q=>gt_int q
theorem Zq:eX X (compareOp .GtE) (vj fun i j=>.bl (decide (j<=i))):=DY fun _ _ _ _ _ _ _ q=>ge_int q
theorem G':eX X (compareOp .Is) (fun x y H Q=>y=.aU/\Q (.bl (decide (x=.aU))) H):=by
 intro pins s σ H x y v u Q I rx ry h;obtain ⟨rfl,q⟩:=h;cases ry;refine is_none_gen (fJ I q ?_);cases x<;>first
  | (cases rx;rfl)
  | (obtain ⟨t,rfl⟩:=rx;rfl)
theorem Nl:eX X (compareOp .IsNot) (fun x y H Q=>y=.aU/\Q (.bl (!decide (x=.aU))) H):=by
 intro pins s σ H x y v u Q I rx ry h;obtain ⟨rfl,q⟩:=h;cases ry;refine isnot_none_gen (fJ I q ?_);cases x<;>first
  | (cases rx;rfl)
  | (obtain ⟨t,rfl⟩:=rx;rfl)
theorem GY (b:Expr) (h:op≠.In:=by decide) (h2:op≠.NotIn:=by decide):behindInMarks op b=false:=by
 have e1:(op==CmpOp.In)=false:=by cases op<;>first | rfl | exact absurd rfl h
 have e2:(op==CmpOp.NotIn)=false:=by cases op<;>first | rfl | exact absurd rfl h2
 cases b<;>simp [behindInMarks,e1,e2]
theorem Np (ho:eX X (compareOp op) r) (ha:PE X a ta) (hb:PE X b tb) (hm:behindInMarks op b=false):PE X (.Compare a [op] [b] pos) (qe r ta tb):=by
 intro pins s σ H Q I h;exact wpAny_Compare1 (ID ha hb I h fun v u s2 x y H2 I2 rx ry q=>ho pins s2 σ H2 x y v u Q I2 rx ry q) hm
def CI (t:TE):TT:=fun σ H Q=>t σ H fun x H'=>∃k,x=.bl k/\Q k H'
theorem As (ho:eX X (compareOp op) r) (ha:PE X a ta) (hb:PE X b tb) (hm:behindInMarks op b=false):PT X (.Compare a [op] [b] pos) (CI (qe r ta tb)):=by
 intro pins s σ H Q I h;refine wpAny_isTrue_Compare1 (av (ha pins s σ H _ I h) fun v s1 zz=>L2.eT zz fun x H1 I1 r1 q1=>av (hb pins s1 σ H1 _ I1 q1) fun u s2 zz=>L2.eT zz fun y H2 I2 r2 q2=>
  av (ho pins s2 σ H2 x y v u _ I2 r1 r2 q2) fun c s3 zz=>?_) hm
 obtain ⟨z,H3,I3,r3,k,e,q3⟩:=zz;subst e;cases r3;exact wpAny_truthy_bool ⟨H3,I3,q3⟩
theorem vU {X:Cx} {a b:Expr} {ta tb:TE} {pos:Pos} {op:CmpOp} {r:R2} (ho:eX X (compareOp op) r) (ha:PE X a ta) (hb:PE X b tb) (h:op≠.In:=by decide) (h2:op≠.NotIn:=by decide):PE X (.Compare a [op] [b] pos) (qe r ta tb):=Np ho ha hb (GY _ h h2)
theorem dh {X:Cx} {a b:Expr} {ta tb:TE} {pos:Pos} {op:CmpOp} {r:R2} (ho:eX X (compareOp op) r) (ha:PE X a ta) (hb:PE X b tb) (h:op≠.In:=by decide) (h2:op≠.NotIn:=by decide):PT X (.Compare a [op] [b] pos) (CI (qe r ta tb)):=As ho ha hb (GY _ h h2)
def MK (r r':R2) (ta tb tc:TE):TE:=fun σ H Q=>ta σ H fun x H1=>tb σ H1 fun y H2=>r x y H2 fun z H3=>∃k,z=.bl k/\
 (if k=true then tc σ H3 fun w' H4=>r' y w' H4 Q else Q (.bl false) H3)
theorem HE (ho:eX X (compareOp op) r) (lQ:eX X (compareOp vm) r') (ha:PE X a ta) (hb:PE X b tb) (hc:PE X c tc)
 (hm:lastMarks [op,vm] [b,c]=false:=by with_unfolding_all rfl):PE X (.Compare a [op,vm] [b,c] pos) (MK r r' ta tb tc):=by
 intro pins s σ H Q I h;refine Compare_chain (av (ha pins s σ H _ I h) fun v s1 zz=>L2.eT zz fun x H1 I1 r1 q1=>chain_link (av (hb pins s1 σ H1 _ I1 q1) fun u s2 zz=>L2.eT zz fun y H2 I2 r2 q2=>
  av (ho pins s2 σ H2 x y v u _ I2 r1 r2 q2) fun d s3 zz=>?_)) hm
 obtain ⟨z,H3,I3,r3,k,e,q3⟩:=zz;subst e;cases r3;refine wpAny_truthy_bool ?_
 cases k with
 | false=>exact ite_ff ⟨.bl false,H3,I3,rfl,q3⟩
 | true=>exact ite_tt (chain_last (av (hc pins s3 σ H3 _ I3 q3) fun w' s4 zz=>L2.eT zz fun z' H4 I4 r4 q4=>lQ pins s4 σ H4 y z' u w' Q I4 r2 r4 q4))
theorem O6 (ho:eX X (compareOp op) r) (lQ:eX X (compareOp vm) r') (ha:PE X a ta) (hb:PE X b tb) (hc:PE X c tc)
 (hm:lastMarks [op,vm] [b,c]=false:=by with_unfolding_all rfl):PT X (.Compare a [op,vm] [b,c] pos) (CI (MK r r' ta tb tc)):=by
 intro pins s σ H Q I h;refine isTrue_chain (av (ha pins s σ H _ I h) fun v s1 zz=>L2.eT zz fun x H1 I1 r1 q1=>test_link (av (hb pins s1 σ H1 _ I1 q1) fun u s2 zz=>L2.eT zz fun y H2 I2 r2 q2=>
  av (ho pins s2 σ H2 x y v u _ I2 r1 r2 q2) fun d s3 zz=>?_)) hm
 obtain ⟨z,H3,I3,r3,k,e,q3⟩:=zz;subst e;cases r3;refine wpAny_truthy_bool ?_
 cases k with
 | false=>
  obtain ⟨k',e',q'⟩:=q3;cases e';exact ite_ff ⟨H3,I3,q'⟩
 | true=>
  refine ite_tt (test_last (av (hc pins s3 σ H3 _ I3 q3) fun w' s4 zz=>L2.eT zz fun z' H4 I4 r4 q4=>av (lQ pins s4 σ H4 y z' u w' _ I4 r2 r4 q4) fun d' s5 zz=>?_));obtain ⟨z2,H5,I5,r5,k2,e2,q5⟩:=zz;subst e2;cases r5;exact wpAny_truthy_bool ⟨H5,I5,q5⟩
theorem CU:(sizeLine:Nat)<2 ^ 63:=by rw [sizeLine_eq];decide
theorem y9 (r:bq [x] us):∃u,us=[u]/\bR x u:=by
 cases r with
 | cons r1 r2=>cases r2;exact ⟨_,rfl,r1⟩
theorem Mv (r:bq [x,y] us):∃u w',us=[u,w']/\bR x u/\bR y w':=by
 cases r with
 | cons r1 r2=>
  cases r2 with
  | cons r3 r4=>cases r4;exact ⟨_,_,rfl,r1,r3⟩
theorem H_ (hc:X.calm=true):rC X (.builtin "max") (fun xs H Q=>∃i j,xs=[.int i,.int j]/\Q (.int (if j>i then j else i)) H):=by
 intro pins s σ H xs us Q I r h;obtain ⟨i,j,rfl,q⟩:=h;obtain ⟨u,w',rfl,⟨t,rfl⟩,⟨t',rfl⟩⟩:=Mv r;refine max_two_ints (I.ok.hd hc) fun h' tk k=>⟨_,H,I.kept k,?_,q⟩
 by_cases hj:j>i
 ·rw [if_pos hj,if_pos hj];exact ⟨_,rfl⟩
 ·rw [if_neg hj,if_neg hj];exact ⟨_,rfl⟩
theorem yT (hc:X.calm=true):rC X (.builtin "min") (fun xs H Q=>∃i j,xs=[.int i,.int j]/\Q (.int (if j<i then j else i)) H):=by
 intro pins s σ H xs us Q I r h;obtain ⟨i,j,rfl,q⟩:=h;obtain ⟨u,w',rfl,⟨t,rfl⟩,⟨t',rfl⟩⟩:=Mv r;refine min_two_ints (I.ok.hd hc) fun h' tk k=>⟨_,H,I.kept k,?_,q⟩
 by_cases hj:j<i
 ·rw [if_pos hj,if_pos hj];exact ⟨_,rfl⟩
 ·rw [if_neg hj,if_neg hj];exact ⟨_,rfl⟩
end
structure vP (h:Heap) (x dx C:Addr) (mA:Str->Option Value):Prop where
 obj:h.get? x=some (PySem.W.instObj C dx)
 ns:h.Ns1 dx mA
 ne:dx≠x
theorem WE {h:Heap} {dx:Addr} {mA:Str->Option Value} (n:h.Ns1 dx mA):∃od,h.get? dx=some od/\∀name,PySem.W.lookIn name od=some (mA name):=by
 obtain ⟨o,es,ep,ho,hd,hk,_,hm⟩:=n;refine ⟨o,ho,fun name=>?_⟩;have e:=hm name;unfold nsFind findBy at e;rw [<-Array.find?_toList] at e;unfold PySem.W.lookIn;rw [hd];dsimp only;split
 ·rename_i y q
  rw [q] at e;exact congrArg some e
 ·rename_i q
  rw [q] at e;have a:es.toList.any (·.refKey)=false:=by
   rw [List.any_eq_false];intro y hy;obtain ⟨z,t,mz⟩:=hk y (Array.mem_toList_iff.mp hy);simp [DictEntry.refKey,mz]
  have a':¬es.toList.any (·.refKey)=true:=by rw [a];exact f7
  rw [if_neg a'];exact congrArg some e
theorem vP.look (I:vP h x dx C mA):∃od,PySem.W.InstAt h x (PySem.W.instObj C dx) C (some od)/\∀name,PySem.W.lookIn name od=some (mA name):=
 let ⟨od,ho,hl⟩:=WE I.ns
 ⟨od,⟨I.obj,rfl,rfl,ho⟩,hl⟩
section
variable {prog:Program} {w:World} {A:Around} {E:Value->Shared->Prop} {s:Shared} {K:aF} {x dx C f:Addr} {mA:Str->Option Value} {name:Str} {v:Value}
theorem UI (X:K.In s.heap) (I:vP s.heap x dx C mA) (hg:PySem.W.plainGet K C name=true) (hh:PySem.W.hasDictIn K C=true)
 (ha:PySem.W.findIn K (.ref C) name=some none) (hv:mA name=some v) (fg:PySem.W.handedIn v=true) (h:Q v { s with toks:=s.toks+1 }):
 wpAny (model prog w) A (getAttr (.ref x) name expr) Q E s:=by
 obtain ⟨od,J,hl⟩:=I.look;exact PySem.W.get_value X J (PySem.W.plainGet_of hg).1 (PySem.W.findObj_own hh ha rfl (by rw [hl,hv])) fg h
theorem VC (X:K.In s.heap) (I:vP s.heap x dx C mA) (hg:PySem.W.plainGet K C name=true)
 (hf:PySem.W.findIn K (.ref C) name=some (some (.ref f))) (ht:PySem.W.isFn K (.ref f)=true) (hv:mA name=none) (h:Q (.ref f,[.ref x]) s):
 wpAny (model prog w) A (getMethod (.ref x) name pl) Q E s:=by
 obtain ⟨od,J,hl⟩:=I.look;exact PySem.W.method_fn X J (PySem.W.plainGet_of hg).1 (PySem.W.plainGet_of hg).2 hf (beq_iff_eq.mp ht) (by show (PySem.W.lookIn name od).map (·.isSome)=some false;rw [hl,hv];rfl) h
theorem Vc (X:K.In s.heap) (I:vP s.heap x dx C mA)
 (hs:PySem.W.findIn K (.ref C) "__setattr__"=some (some (.builtin "object.__setattr__"))) (hp:PySem.W.plainOver K C=true) (ht:PySem.W.takerIn K C name=some none) (hh:PySem.W.hasDictIn K C=true)
 (hw:PySem.Within mA ns) (hsz:ns.length<=sizeLine)
 (h:∀h',vP h' x dx C (fun y=>if y=name then some v else mA y)->Heap.SameBut dx s.heap h'->Q () { s with heap:=h',toks:=s.toks+2 }):
 wpAny (model prog w) A (setAttr (.ref x) name v) Q E s:=by
 obtain ⟨od,J,hl⟩:=I.look;refine PySem.W.set_plain X J hs (PySem.W.osa_open (s:={ s with toks:=s.toks+1 }) (r:=none) X J hp ht fun b=>?_);obtain ⟨cd,hc,zB⟩:=PySem.W.any_some hh;have hx:s.heap.get? x=some ⟨.ref C,some dx,.plain,#[]⟩:=I.obj;refine ag (aV (ag (ag (wpAny_loadPart hx (ag (PySem.W.Looks.here (s:={ s with toks:=s.toks+1 }) (PySem.W.looks_clsIn X hc) ?_))))));rw [zB];refine aV (a:=some dx) (ag (aV (ag ?_)));refine wpAny_nsSet1 (s:={ s with toks:=s.toks+1 }) I.ns fun h' rZ jT=>?_;obtain ⟨oD,esD,epD,K1,Lf,Ll⟩:=rZ.count (PySem.Within.cons name v hw);refine ag (wpAny_lookBehind K1 (by rw [Lf];exact pastItsLine_dict (eE Ll (by rw [kI];lia))) ?_);exact aV (h _ ⟨(jT.2 _ (aD I.ne)).trans I.obj,rZ,I.ne⟩ jT)
theorem VI (X:K.In s.heap) (hm:PySem.W.makesIn K C=true)
 (hi:PySem.W.findIn K (.ref C) "__init__"=some (some (.ref f))) (hf:PySem.W.typeIn K (.ref f)=some (.type "function"))
 (h:codeAny (model prog w) (A.under (.builtin "type.__call__" ⟨.ref C::vs,kw⟩)) (.call (.ref f) ⟨.ref (s.heap.objs.size+1)::vs,kw⟩) (PySem.W.InitBack (s.heap.objs.size+1) R)
  { s with heap:=(s.heap.push PySem.W.emptyDict).push (PySem.W.instObj C s.heap.objs.size) }):
 codeAny (model prog w) A (.call (.ref C) ⟨vs,kw⟩) R s:=by
 obtain ⟨hh,g,d,t,os⟩:=s;exact PySem.W.make_core (PySem.W.makes_of X hm) (PySem.W.looks_findIn X hi) (fun self=>PySem.W.bind_fn X self hf) (.inl rfl) h
end
def aP (f:Str) (v:V):List (Str×V)->List (Str×V)
 | []=>[(f,v)]
 | (g,x)::r=>if g=f then (g,v)::r else (g,x)::aP f v r
theorem lN (f g:Str) (v:V):∀fs:List (Str×V),(aP f v fs).lookup g=if g=f then some v else fs.lookup g
 | []=>by
  show List.lookup g [(f,v)]=_
  by_cases h:g=f
  ·have hb:(g==f)=true:=beq_iff_eq.mpr h;simp only [List.lookup,hb,if_pos h]
  ·have hb:(g==f)=false:=beq_eq_false_iff_ne.mpr h;simp only [List.lookup,hb,if_neg h]
 | (k,x)::r=>by
  have ih:=lN f g v r;rw [show aP f v ((k,x)::r)=(if k=f then (k,v)::r else (k,x)::aP f v r) from rfl]
  by_cases hk:k=f
  ·rw [if_pos hk]
   by_cases h:g=k
   ·have hb:(g==k)=true:=beq_iff_eq.mpr h;simp only [List.lookup,hb,if_pos (h.trans hk)]
   ·have hb:(g==k)=false:=beq_eq_false_iff_ne.mpr h;simp only [List.lookup,hb,if_neg (fun e:g=f=>h (e.trans hk.symm))]
  ·rw [if_neg hk]
   by_cases h:g=k
   ·have hb:(g==k)=true:=beq_iff_eq.mpr h;simp only [List.lookup,hb,if_neg (fun e:g=f=>hk (h.symm.trans e))]
   ·have hb:(g==k)=false:=beq_eq_false_iff_ne.mpr h;simp only [List.lookup,hb];exact ih
theorem Ic (f:Str) (v:V):∀fs:List (Str×V),f∈(aP f v fs).map (·.1)/\∀g,g∈fs.map (·.1)->g∈(aP f v fs).map (·.1)
 | []=>⟨by simp [aP],fun g h=>by simp at h⟩
 | (k,x)::r=>by
  obtain ⟨i1,i2⟩:=Ic f v r;rw [show aP f v ((k,x)::r)=(if k=f then (k,v)::r else (k,x)::aP f v r) from rfl]
  by_cases hk:k=f
  ·rw [if_pos hk];subst hk;exact ⟨by simp,fun g h=>by simpa using h⟩
  ·rw [if_neg hk];refine ⟨?_,fun g h=>?_⟩
   ·rw [eU];exact gz _ i1
   ·rw [eU] at h ⊢;rcases eV.mp h with e | e
    ·exact eV.mpr (.inl e)
    ·exact gz _ (i2 g e)
theorem Ql (f:Str) (v:V):∀fs:List (Str×V),(aP f v fs).length<=fs.length+1
 | []=>by simp [aP]
 | (k,x)::r=>by
  have ih:=Ql f v r;rw [show aP f v ((k,x)::r)=(if k=f then (k,v)::r else (k,x)::aP f v r) from rfl]
  by_cases hk:k=f
  ·rw [if_pos hk,kI,kI];exact Nat.le.step Nat.le.refl
  ·rw [if_neg hk,kI,kI];lia
theorem jD.some_of (r:jD (some v) o):∃u,o=some u/\bR v u:=by
 cases o with
 | none=>exact (show False from r).elim
 | some u=>exact ⟨u,rfl,r⟩
theorem jD.none_of (r:jD none o):o=none:=by
 cases o with
 | none=>rfl
 | some u=>exact (show False from r).elim
theorem WR (r:bR v u):PySem.W.handedIn u=true:=by
 cases v with
 | aU=>cases (show u=Value.none from r);rfl
 | bl b=>cases (show u=Value.bool b from r);rfl
 | int i=>obtain ⟨t,e⟩:=(show ∃t,u=Value.int i t from r);cases e;rfl
 | str x=>obtain ⟨t,e⟩:=(show ∃t,u=Value.str x t from r);cases e;rfl
 | oR b=>obtain ⟨t,e⟩:=(show ∃t,u=Value.bytes b t from r);cases e;rfl
 | x_ b=>obtain ⟨t,e⟩:=(show ∃t,u=Value.float b t from r);cases e;rfl
 | ref a=>cases (show u=Value.ref a from r);rfl
 | ty n=>cases (show u=Value.type n from r);rfl
section
variable {P:Program} {w:World} {H H':Hp} {h h':Heap} {a C dx:Addr} {fs fs':List (Str×V)}
theorem Hm (af:eI P w H h) (e:H a=some (.ins C dx fs)):∃mA,vP h a dx C mA/\(∀f,jD (fs.lookup f) (mA f))/\PySem.Within mA (fs.map (·.1))/\fs.length<=1000/\H dx=some (.own a):=by
 obtain ⟨d,z,ne,ob,mA,n,r,q⟩:=(show eh P w H h a (.ins C dx fs) from af a _ e);exact ⟨mA,⟨ob,n,ne⟩,r,q,z,d⟩
end
structure rn (K:aF) (C:Addr):Prop where
 pg:PySem.W.plainGet K C Str.empty=true
 hd:PySem.W.hasDictIn K C=true
 po:PySem.W.plainOver K C=true
 sa:PySem.W.findIn K (.ref C) "__setattr__"=some (some (.builtin "object.__setattr__"))
theorem rn.get {K:aF} {C:Addr} (c:rn K C) (f:Str):PySem.W.plainGet K C f=true:=c.pg
def l_ (K:aF) (C:Addr) (f:Str):Prop:=PySem.W.findIn K (.ref C) f=some none
theorem l_.AQ {K:aF} {C:Addr} {f:Str} (n:l_ K C f):PySem.W.takerIn K C f=some none:=by
 unfold PySem.W.takerIn;rw [show PySem.W.findIn K (.ref C) f=some none from n];rfl
structure jk (K:aF) (C:Addr) (m:Str) (f:Addr):Prop where
 at_:PySem.W.findIn K (.ref C) m=some (some (.ref f))
 fn:PySem.W.isFn K (.ref f)=true
 kp:PySem.W.keepIn K (.ref f)=true
section
variable {X:Cx} {pins:List (Addr×Obj)} {σ:St} {H:Hp} {s:Shared} {a C dx:Addr} {fs:List (Str×V)} {f:Str} {v:V} {A:Around} {E:Value->Shared->Prop}
theorem Xd (I:Inv X pins σ H s) (e:H a=some (.ins C dx fs)) (c:rn X.K C) (n:l_ X.K C f) (l:fs.lookup f=some v)
 (h:∀u s',Inv X pins σ H s'->bR v u->Q u s'):wpAny (model X.prog X.w) A (getAttr (.ref a) f b) Q E s:=by
 obtain ⟨mA,O,r,_,_,_⟩:=Hm I.af e;obtain ⟨u,hu,ru⟩:=jD.some_of (v:=v) (o:=mA f) (by rw [<-l];exact r f);exact UI I.gM O (c.get f) c.hd n hu (WR ru) (h u _ (I.tok _) ru)
theorem Qi (I:Inv X pins σ H s) (e:H a=some (.ins C dx fs)) (c:rn X.K C) (k:jk X.K C m g) (l:fs.lookup m=none)
 (h:Q (.ref g,[.ref a]) s):wpAny (model X.prog X.w) A (getMethod (.ref a) m pl) Q E s:=by
 obtain ⟨mA,O,r,_,_,_⟩:=Hm I.af e;have hn:mA m=none:=jD.none_of (by rw [<-l];exact r m);exact VC I.gM O (c.get m) k.at_ k.fn hn h
theorem Xz (I:Inv X pins σ H s) (e:H a=some (.ins C dx fs)) (c:rn X.K C) (n:l_ X.K C f) (hl:fs.length<1000) (ry:bR y u)
 (h:∀s',Inv X pins σ (upd H a (.ins C dx (aP f y fs))) s'->Q () s'):wpAny (model X.prog X.w) A (setAttr (.ref a) f u) Q E s:=by
 obtain ⟨mA,O,r,wi,_,ho⟩:=Hm I.af e;have hz:(fs.map (·.1)).length<=sizeLine:=by rw [aB,sizeLine_eq];lia
 refine Vc I.gM O c.sa c.po n.AQ c.hd wi hz fun h' O' sb=>h _ ?_;have hd:∃o,h'.get? dx=some o:=let ⟨o,_,_,e',_⟩:=O'.ns;⟨o,e'⟩;refine I.write (x:=a) (e:=dx) (by rw [e];exact True.intro) (.inr ho) (fun b q hb z=>(sb.2 b hb).trans z) hd ?_;refine ⟨by rw [ak O.ne];exact ho,?_,O.ne,O'.obj,_,O'.ns,fun g=>?_,fun g hg=>?_⟩
 ·have:=Ql f y fs;lia
 ·show jD ((aP f y fs).lookup g) (if g=f then some u else mA g);rw [lN]
  by_cases q:g=f
  ·rw [if_pos q,if_pos q];exact ry
  ·rw [if_neg q,if_neg q];exact r g
 ·by_cases q:g=f
  ·rw [q];exact (Ic f y fs).1
  ·refine (Ic f y fs).2 g (wi g fun z=>hg ?_);show (if g=f then some u else mA g)=none;rw [if_neg q];exact z
theorem Inv.made (I:Inv X pins σ H s):Inv X pins σ (upd (upd H s.heap.objs.size (.own (s.heap.objs.size+1))) (s.heap.objs.size+1) (.ins C s.heap.objs.size []))
 { s with heap:=(s.heap.push PySem.W.emptyDict).push (PySem.W.instObj C s.heap.objs.size) }:=by
 have e1:(s.heap.push PySem.W.emptyDict).get? s.heap.objs.size=some PySem.W.emptyDict:=ki s.heap rfl;have e2:((s.heap.push PySem.W.emptyDict).push (PySem.W.instObj C s.heap.objs.size)).get? (s.heap.objs.size+1)=some (PySem.W.instObj C s.heap.objs.size):=by
  have:=ki (s.heap.push PySem.W.emptyDict) (o:=PySem.W.instObj C s.heap.objs.size) rfl
  rwa [Heap.size_push] at this
 have e3:(s.heap.push PySem.W.emptyDict).Ns s.heap.objs.size (fun _=>none):=⟨PySem.W.emptyDict,#[],_,e1,rfl,(fun e he=>absurd he (by simp)),fun _=>rfl⟩;have I1:=I.laid (a:=s.heap.objs.size) (o:=.own (s.heap.objs.size+1)) (h':=s.heap.push PySem.W.emptyDict) (t':=s.toks) (fun b u q=>cX _ q) (az _) ⟨_,e1⟩;refine I1.laid (a:=s.heap.objs.size+1) (o:=.ins C s.heap.objs.size []) (t':=s.toks) (fun b u q=>cX _ q) (Nat.le_of_eq (Heap.size_push _ _)) ?_;have ne:s.heap.objs.size≠s.heap.objs.size+1:=gY (Nat.lt_succ_self _);refine ⟨by rw [ak ne,ai],d9 _,ne,e2,fun _=>none,(Heap.Ns1.of_empty e3).at fun o q=>cX _ q,fun _=>True.intro,fun y hy=>absurd rfl hy⟩
theorem UA {w:World} (hb:attributeBase e f env (eval e env)=eval e env)
 (h:wpAny (model prog w) A (eval e env) (fun o au=>wpAny (model prog w) A (getAttr o f true) Q E au) E s):wpAny (model prog w) A (eval (.Attribute e f pos) env) Q E s:=
 Attribute_any_ h (by rw [arm_eval_Attribute,hb])
end
def QH (K:aF) (ta:TE) (f:Str):TE:=fun σ H Q=>ta σ H fun x H1=>∃a C dx fs v,x=.ref a/\H1 a=some (.ins C dx fs)/\rn K C/\l_ K C f/\fs.lookup f=some v/\Q v H1
def Y7 (K:aF) (ta tv:TE) (f:Str):TS:=fun D σ H=>tv σ H fun y H1=>ta σ H1 fun x H2=>∃a C dx fs,x=.ref a/\H2 a=some (.ins C dx fs)/\rn K C/\l_ K C f/\fs.length<1000/\
 D.nx σ (upd H2 a (.ins C dx (aP f y fs)))
section
variable {X:Cx} {o e value:Expr} {f:Str} {pos pos' IK:Pos} {ta tv:TE}
theorem fQ (he:PE X e ta) (hb:attributeBase e f X.env (eval e X.env)=eval e X.env):PE X (.Attribute e f pos) (QH X.K ta f):=by
 intro pins s σ H Q I h;refine UA hb (av (he pins s σ H _ I h) fun u s1 zz=>?_);obtain ⟨x,H1,I1,rx,a,C,dx,fs,v,ex,ea,c,n,l,q⟩:=zz;subst ex;obtain rfl:u=Value.ref a:=rx;exact Xd I1 ea c n l fun u' s2 I2 ru=>⟨v,H1,I2,ru,q⟩
theorem rH (ha:PE X o ta) (hv:PE X value tv) (hs:swapsWith value (some (.Attribute o f pos')) pos.line X.env=pure false):PS X (.Assign [.Attribute o f pos'] value pos) (Y7 X.K ta tv f):=by
 intro pins s σ H D I h;refine plainObj_wpAny_Assign_Attribute (av (hv pins s σ H _ I h) fun u s1 zz=>L2.eT zz fun y H1 I1 ry q=>av (ha pins s1 σ H1 _ I1 q) fun ov s2 zz=>?_) hs;obtain ⟨x,H2,I2,rx,a,C,dx,fs,ex,ea,c,n,l,q2⟩:=zz;subst ex;obtain rfl:ov=Value.ref a:=rx;exact Xz I2 ea c n l ry fun s3 I3=>⟨σ,_,I3,q2⟩
end
section
variable {X:Cx} {pins:List (Addr×Obj)} {σ:St} {H:Hp} {s:Shared} {A:Around} {E:Value->Shared->Prop} {Q:Value->Shared->Prop} {c:Value} {b:Bool}
end
structure cY (k:Nat) (A:Around):Prop where
 hd:A.handled=none
 dp:A.depth+3*k+5<recursionLimit
 un:A.units+16*k+200<cLine
theorem cY.mono (r:cY k A) (h:j<=k):cY j A:=⟨r.hd,by have:=r.dp;lia,by have:=r.un;lia⟩
theorem cY.deeper (r:cY (k+1) A) (env:Env):cY k (A.deeper env):=
 ⟨r.hd,by have:=r.dp;show A.depth+1+3*k+5<_;lia,by have:=r.un;show A.units+3+16*k+200<_;lia⟩
theorem Xg {A:Around} {C:Addr} {us:List Value} {kw:List (Str×Value)}:(A.under (.builtin "type.__call__" ⟨.ref C::us,kw⟩)).depth=A.depth+1:=by
 first | rfl | simp [Around.under,Code.weight,Code.isCreation,Code.isGuard,Code.isCaller,Code.frames,Code.isFrame,guardIds]
theorem Xh {A:Around} {C:Addr} {us:List Value} {kw:List (Str×Value)}:(A.under (.builtin "type.__call__" ⟨.ref C::us,kw⟩)).units=A.units+1:=by
 first | rfl | simp [Around.under,Code.cUnits,Code.frames,Code.isFrame]
theorem cY.make (r:cY (k+1) A) (C:Addr) (us:List Value) (kw:List (Str×Value)):cY k (A.under (.builtin "type.__call__" ⟨.ref C::us,kw⟩)):=
 ⟨r.hd,by have:=r.dp;rw [Xg];lia,by have:=r.un;rw [Xh];lia⟩
theorem cY.depth (r:cY k A):A.depth<recursionLimit:=by have:=r.dp;lia
theorem cY.units (r:cY k A):A.units+64<cLine:=by have:=r.un;lia
def pK:TA:=fun _ H Q=>Q [] H
def kj (ta:TE) (tr:TA):TA:=fun σ H Q=>ta σ H fun x H1=>tr σ H1 fun xs H2=>Q (x::xs) H2
section
variable {X:Cx} {e:Expr} {es:List Expr} {te:TE} {t:TA} {pos:Pos}
theorem oh:PA X [] pK:=fun _ _ _ _ H Q I h=>Calls.spliced_nil ⟨[],H,I,.nil,h⟩
theorem uP (ha:PE X e te) (hr:PA X es t) (hs:starEach (e::es) X.env=(false,eval e X.env)::starEach es X.env:=by rfl):PA X (e::es) (kj te t):=by
 intro pos pins s σ H Q I h;rw [hs];show wpAny _ _ (spliced ((false,eval e X.env)::backTo pos (starEach es X.env))) _ _ s;refine Calls.spliced_cons (av (ha pins s σ H _ I h) fun u s1 zz=>?_);obtain ⟨x,H1,I1,r1,q1⟩:=zz;exact av (hr pos pins s1 σ H1 _ I1 q1) fun us s2 zz=>L2.eT zz fun xs H2 I2 r2 q2=>⟨x::xs,H2,I2,.cons r1 r2,q2⟩
theorem dc {n:Nat} (h:Nat.ble n sizeLine=true):n<=sizeLine:=Nat.le_of_ble_eq_true h
theorem cA {X:Cx} {x:Str} {e:Expr} {te:TE} {pos pos':Pos} (i:Nat) (hN:X.N.Nodup) (he:PE X e te) (hi:X.N[i]?=some x:=by rfl) (hx:Loc X.env.scope x:=by exact Or.inl rfl) (hs:swapsWith e (some (.Name x pos')) pos.line X.env=pure false:=by rfl) (hf:X.fn x=true\/X.env.scope.names.lookup x=some .local:=by first | exact .inl rfl | exact .inr rfl | assumption):PS X (.Assign [.Name x pos'] e pos) (zV te (uD i)):=pQ (i:=i) hN hi hx he hs hf
theorem bS {X:Cx} {x:Str} {pos:Pos} (i:Nat) (hN:X.N.Nodup) (hi:X.N[i]?=some x:=by rfl) (hx:Loc X.env.scope x:=by exact Or.inl rfl) (hf:X.fn x=true\/X.env.scope.names.lookup x=some .local:=by first | exact .inl rfl | exact .inr rfl | assumption):PG X (.Name x pos) (uD i):=UW (i:=i) hN hi hx hf
theorem bM {X:Cx} {a:Expr} {ta:TE} (ha:PE X a ta) (hs:starEach [a] X.env=(false,eval a X.env)::starEach [] X.env:=by rfl):PA X [a] (kj ta pK):=uP ha oh hs
theorem bw {X:Cx} {a b:Expr} {ta tb:TE} (ha:PE X a ta) (hb:PE X b tb) (hs:starEach [a,b] X.env=(false,eval a X.env)::starEach [b] X.env:=by rfl) (jT:starEach [b] X.env=(false,eval b X.env)::starEach [] X.env:=by rfl):PA X [a,b] (kj ta (kj tb pK)):=uP ha (bM hb jT) hs
theorem iw {X:Cx} {a b c:Expr} {ta tb tc:TE} (ha:PE X a ta) (hb:PE X b tb) (hc:PE X c tc) (hs:starEach [a,b,c] X.env=(false,eval a X.env)::starEach [b,c] X.env:=by rfl) (jT:starEach [b,c] X.env=(false,eval b X.env)::starEach [c] X.env:=by rfl) (lr:starEach [c] X.env=(false,eval c X.env)::starEach [] X.env:=by rfl):PA X [a,b,c] (kj ta (kj tb (kj tc pK))):=uP ha (bw hb hc jT lr) hs
theorem jz {X:Cx} {a b c d:Expr} {ta tb tc td:TE} (ha:PE X a ta) (hb:PE X b tb) (hc:PE X c tc) (hd:PE X d td) (hs:starEach [a,b,c,d] X.env=(false,eval a X.env)::starEach [b,c,d] X.env:=by rfl) (jT:starEach [b,c,d] X.env=(false,eval b X.env)::starEach [c,d] X.env:=by rfl) (lr:starEach [c,d] X.env=(false,eval c X.env)::starEach [d] X.env:=by rfl) (rY:starEach [d] X.env=(false,eval d X.env)::starEach [] X.env:=by rfl):PA X [a,b,c,d] (kj ta (kj tb (kj tc (kj td pK)))):=uP ha (iw hb hc hd jT lr rY) hs
def IE (t:TA):TE:=fun σ H Q=>t σ H fun xs H1=>xs.length<=sizeLine/\∀p,H1 p=none->Q (.ref p) (upd H1 p (.tup xs))
def Zb (t:TA):TE:=fun σ H Q=>t σ H fun xs H1=>xs.length<=sizeLine/\∀p,H1 p=none->Q (.ref p) (upd H1 p (.lst xs))
theorem dB {x1} (h:PA X es t):PE X (.Tuple es x1 pos) (IE t):=by
 intro pins s σ H Q I hq;refine wpAny_Tuple_spliced (av (h pos pins s σ H _ I hq) fun us s1 zz=>?_);obtain ⟨xs,H1,I1,r,z,q⟩:=zz;refine ⟨by rw [<-r.length];exact z,?_⟩;have hf:H1 s1.heap.objs.size=none:=I1.af.fresh (az _);refine ⟨.ref s1.heap.objs.size,upd H1 s1.heap.objs.size (.tup xs),I1.laid (t':=s1.toks) (fun b u e=>cX _ e) (az _) ?_,rfl,q _ hf⟩;exact ⟨z,us,r,⟨_,ki _ rfl,rfl,_,rfl⟩⟩
theorem jo (h:PA X es t):PE X (.List es pos) (Zb t):=by
 intro pins s σ H Q I hq;refine wpAny_List_spliced (av (h pos pins s σ H _ I hq) fun us s1 zz=>?_);obtain ⟨xs,H1,I1,r,z,q⟩:=zz;refine ⟨by rw [<-r.length];exact z,?_⟩;have hf:H1 s1.heap.objs.size=none:=I1.af.fresh (az _);refine ⟨.ref s1.heap.objs.size,upd H1 s1.heap.objs.size (.lst xs),I1.laid (t':=s1.toks) (fun b u e=>cX _ e) (az _) ?_,rfl,q _ hf⟩;exact ⟨z,us,0,r,ki _ rfl⟩
end
abbrev Sp:=List V->Hp->VK->XK->Prop
abbrev mI:=List Env->Hp->Shared->XK->Value->Shared->Prop
structure vM (P:Program) (w:World) (K:aF) (mg:Str->Option Value) (base:Heap) (A:Around) (outer:List Env) (s:Shared) (H:Hp):Prop where
 frames:A.frames=some outer
 mod:Mod K mg base
 bs:∀b o,base.get? b=some o->s.heap.get? b=some o/\H b=none
 oS:base.objs.size<=s.heap.objs.size
 eS:s.heap.FunFrames base outer
 pC:∀b∈kf outer,H b=none
 af:eI P w H s.heap
 bare:AllBare s.gens
def CE (outer:List Env) (P:Program) (w:World) (H:Hp) (s:Shared) (Q:VK) (u:Value) (s':Shared):Prop:=
 ∃v H',s'.os=s.os/\AllBare s'.gens/\Un (kf outer) [] H H' s.heap s'.heap/\eI P w H' s'.heap/\bR v u/\Q v H'
def CR (CX:mI) (outer:List Env) (P:Program) (w:World) (H:Hp) (s:Shared) (Q:VK) (E:XK) (r:Result) (s':Shared):Prop:=
 match r with
 | .ok (.ret u)=>CE outer P w H s Q u s'
 | .ok _=>False
 | .error e=>CX outer H s E e s'
structure ar (P:Program) (w:World) (K:aF) (mg:Str->Option Value) (base:Heap) (CX:mI) (k:Nat) (f:Addr) (fd:FuncData) (ps:List Str) (sp:Sp):Prop where
 len:∀vs H Q E,sp vs H Q E->vs.length=ps.length
 run:∀(A:Around) (outer:List Env) (s:Shared) (H:Hp) (args:Args) (us:List Value) (vs:List V) (Q:VK) (E:XK),cY k A->vM P w K mg base A outer s H->BindsTo s fd args (ps.zip us)->bq vs us->sp vs H Q E->
  codeAny (model P w) A (.call (.ref f) args) (CR CX outer P w H s Q E) s
theorem vM.make {P:Program} {w:World} {K:aF} {mg:Str->Option Value} {base:Heap} {A:Around} {outer:List Env} {s:Shared} {H:Hp} (e:vM P w K mg base A outer s H) (C:Addr) (us:List Value) (kw:List (Str×Value)):
 vM P w K mg base (A.under (.builtin "type.__call__" ⟨.ref C::us,kw⟩)) outer s H:=⟨by first | exact e.frames | (simpa [Around.under,Code.envs,Code.isFrame,pushEnvs] using e.frames),e.mod,e.bs,e.oS,e.eS,e.pC,e.af,e.bare⟩
section
variable {X:Cx} {pins:List (Addr×Obj)} {σ:St} {H:Hp} {s s':Shared}
theorem Inv.ye (I:Inv X pins σ H s):vM X.prog X.w X.K X.mg X.base X.A X.stack s H:=
 ⟨I.ok.frames,I.ok.mod,I.bs,eE I.ok.oS I.sz,I.stack,I.jK,I.af,I.bare⟩
theorem Inv.after (I:Inv X pins σ H s) (h:CE X.stack X.prog X.w H s Q u s'):EP X pins σ Q u s':=by
 obtain ⟨v,H',os,bare,un,af,r,q⟩:=h;obtain ⟨hh,g,d,t,os'⟩:=s';obtain rfl:os'=s.os:=os;exact ⟨v,H',I.call (h':=hh) (g':=g) (d':=d) (t':=t) (ch:=[]) un af bare (fun b z=>absurd z (by simp)),r,q⟩
end
def F_ (sp:Sp) (ja:List V) (E:XK) (t:TA):TE:=fun σ H Q=>t σ H fun vs H1=>sp (vs++ja) H1 Q E
def GC (C:Addr) (m:Str) (sp:Sp) (ja:List V) (E:XK) (ta:TE) (t:TA):TE:=fun σ H Q=>ta σ H fun x H1=>∃a dx fs,x=.ref a/\H1 a=some (.ins C dx fs)/\fs.lookup m=none/\
 t σ H1 fun vs H2=>sp (x::(vs++ja)) H2 Q E
def ZL (C:Addr) (sp:Sp) (ja:List V) (E:XK) (t:TA):TE:=fun σ H Q=>t σ H fun vs H1=>∀x dx,H1 x=none->H1 dx=none->dx≠x->
 sp (.ref x::(vs++ja)) (upd (upd H1 dx (.own x)) x (.ins C dx [])) (fun v H2=>v=.aU/\Q (.ref x) H2) E
def eY (K:aF) (fd:FuncData) (ps:List Str) (ds:List Value):Prop:=
 ∀(s:Shared) (us:List Value),K.In s.heap->(us++ds).length=ps.length->BindsTo s fd ⟨us,[]⟩ (ps.zip (us++ds))
theorem eY.all {K:aF} {fd:FuncData} {ps:List Str} (h:∀us:List Value,us.length=ps.length->bindArgs fd ⟨us,[]⟩=pure (ps.zip us)):eY K fd ps []:=fun s us _ hl=>by
 rw [List.append_nil] at hl ⊢;exact .of_eq (h us hl)
def pO (CX:mI) (X:Cx) (E:XK):Prop:=∀(pins:List (Addr×Obj)) (σ:St) (H:Hp) (s:Shared) (e:Value) (s':Shared),Inv X pins σ H s->CX X.stack H s E e s'->X.xe e s'
section
variable {X:Cx} {CX:mI} {k:Nat} {f C:Addr} {fd:FuncData} {ps:List Str} {sp:Sp} {ja:List V} {ds:List Value} {E:XK} {x m:Str} {p pos apos:Pos} {e o:Expr} {es:List Expr} {ta:TE} {t:TA}
theorem Hk (F:ar X.prog X.w X.K X.mg X.base CX k f fd ps sp) (hr:cY k X.A) (hb:eY X.K fd ps ds) (hd:bq ja ds) (hx:pO CX X E)
 (I:Inv X pins σ H s) (r:bq vs us) (h:sp (vs++ja) H Q E):wpAny (model X.prog X.w) X.A (call (.ref f) us) (EP X pins σ Q) X.xe s:=by
 have r2:bq (vs++ja) (us++ds):=r.append hd;have hl:(us++ds).length=ps.length:=by rw [<-r2.length];exact F.len _ _ _ _ h
 refine wpAny_call (codeAny_mono (F.run X.A X.stack s H ⟨us,[]⟩ (us++ds) (vs++ja) Q E hr I.ye (hb s us I.gM hl) r2 h) fun r s' hq=>?_)
 cases r with
 | error e=>exact hx pins σ H s e s' I hq
 | ok fl=>
  cases fl with
  | ret u=>exact I.after hq
  | next=>exact False.elim hq
  | brk=>exact False.elim hq
  | cont=>exact False.elim hq
theorem Hs (F:ar X.prog X.w X.K X.mg X.base CX k f fd ps sp) (hr:cY k X.A) (hg:Gl X x) (hm:X.mg x=some (.ref f)) (hk:PySem.W.keepIn X.K (.ref f)=true) (hb:eY X.K fd ps ds) (hd:bq ja ds) (hx:pO CX X E)
 (ha:PA X (e::es) t) (m5:(x==("__debug__":Str))=false:=by decide) (he:starEach (e::es) X.env=(false,eval e X.env)::starEach es X.env:=by rfl) (fh:(backTo pos (starEach es X.env)).any (·.1)=false:=by rfl):
 PE X (.Call (.Name x p) (e::es) [] pos) (F_ sp ja E t):=by
 intro pins s σ H Q I h;refine wpAny_Call_Name_kw (yJ I hg hm ?_ m5);refine PySem.W.callWith_K (h₀:=X.base) I.ok.mod.zh hk (av (ha pos pins s σ H _ I h) fun us s1 zz=>L2.eT zz fun vs H1 I1 r q=>⟨I1.gM,?_⟩) he fh;exact Hk F hr hb hd hx I1 r q
theorem jI (he:PE X o ta) (c:rn X.K C) (hm:jk X.K C m f) (F:ar X.prog X.w X.K X.mg X.base CX k f fd ps sp) (hr:cY k X.A) (hb:eY X.K fd ps ds) (hd:bq ja ds) (hx:pO CX X E) (ha:PA X (e::es) t)
 (qI:starEach (e::es) X.env=(false,eval e X.env)::starEach es X.env:=by rfl) (fh:(backTo pos (starEach es X.env)).any (·.1)=false:=by rfl)
 (ht:eval (.Call (.Attribute o m apos) (e::es) [] pos) X.env=(do
  let ov <-eval o X.env
  standAt apos.atName
  let (f,first) <-holding [ov] (getMethod ov m pl)
  callWith pos f first (backTo pos (starEach (e::es) X.env)) (backToKw pos (keywordEach [] X.env))):=by rfl):
 PE X (.Call (.Attribute o m apos) (e::es) [] pos) (GC C m sp ja E ta t):=by
 intro pins s σ H Q I h;refine PySem.W.methodCall_KW (pl:=pl) (av (he pins s σ H _ I h) fun u s1 zz=>?_) ht;obtain ⟨x,H1,I1,rx,a,dx,fs,ex,ea,l,q⟩:=zz;subst ex;obtain rfl:u=Value.ref a:=rx;refine Qi I1 ea c hm l ?_;refine PySem.W.callWith_K (first:=[.ref a]) (h₀:=X.base) I.ok.mod.zh hm.kp (av (ha pos pins s1 σ H1 _ I1 q) fun us s2 zz=>L2.eT zz fun vs H2 I2 r q2=>⟨I2.gM,?_⟩) qI fh;exact Hk (us:=.ref a::us) (vs:=.ref a::vs) F hr hb hd hx I2 (.cons rfl r) q2
theorem yO (he:PE X o ta) (c:rn X.K C) (hm:jk X.K C m f) (F:ar X.prog X.w X.K X.mg X.base CX k f fd ps sp) (hr:cY k X.A) (hb:eY X.K fd ps ds) (hd:bq ja ds) (hx:pO CX X E)
 (ht:eval (.Call (.Attribute o m apos) [] [] pos) X.env=(do
  let ov <-eval o X.env
  standAt apos.atName
  let (f,first) <-holding [ov] (getMethod ov m pl)
  callWith pos f first (backTo pos (starEach [] X.env)) (backToKw pos (keywordEach [] X.env))):=by rfl):
 PE X (.Call (.Attribute o m apos) [] [] pos) (GC C m sp ja E ta pK):=by
 intro pins s σ H Q I h;refine PySem.W.methodCall_KW (pl:=pl) (av (he pins s σ H _ I h) fun u s1 zz=>?_) ht;obtain ⟨x,H1,I1,rx,a,dx,fs,ex,ea,l,q⟩:=zz;subst ex;obtain rfl:u=Value.ref a:=rx;refine Qi I1 ea c hm l ?_;exact PySem.W.callWith_K0 (first:=[.ref a]) I1.gM hm.kp (Hk (us:=[.ref a]) (vs:=[.ref a]) F hr hb hd hx I1 (.cons rfl .nil) q)
structure Mk (K:aF) (C f:Addr):Prop where
 makes:PySem.W.makesIn K C=true
 init:PySem.W.findIn K (.ref C) "__init__"=some (some (.ref f))
 fn:PySem.W.isFn K (.ref f)=true
 kp:PySem.W.keepIn K (.ref C)=true
theorem V' (M:Mk X.K C f) (F:ar X.prog X.w X.K X.mg X.base CX k f fd ps sp) (hr:cY (k+1) X.A) (hb:eY X.K fd ps ds) (hd:bq ja ds)
 (hx:pO CX X E) (I:Inv X pins σ H s) (r:bq vs us)
 (h:∀x dx,H x=none->H dx=none->dx≠x->sp (.ref x::(vs++ja)) (upd (upd H dx (.own x)) x (.ins C dx [])) (fun v H2=>v=.aU/\Q (.ref x) H2) E):
 wpAny (model X.prog X.w) X.A (call (.ref C) us) (EP X pins σ Q) X.xe s:=by
 have hq:=h (s.heap.objs.size+1) s.heap.objs.size (I.af.fresh (nS _)) (I.af.fresh (az _)) (gY (Nat.lt_succ_self _));have I2:=Inv.made (C:=C) I;have r2:bq (V.ref (s.heap.objs.size+1)::(vs++ja)) (Value.ref (s.heap.objs.size+1)::(us++ds)):=.cons rfl (r.append hd);have hl:(Value.ref (s.heap.objs.size+1)::us++ds).length=ps.length:=by
  have e:=r2.length;rw [F.len _ _ _ _ hq] at e;exact e.symm
 refine wpAny_call (VI (f:=f) I.gM M.makes M.init (beq_iff_eq.mp M.fn) (codeAny_mono (F.run _ X.stack _ _ ⟨Value.ref (s.heap.objs.size+1)::us,[]⟩ (Value.ref (s.heap.objs.size+1)::(us++ds)) _ _ E (hr.make C us [])
  (I2.ye.make C us []) (hb _ (Value.ref (s.heap.objs.size+1)::us) I2.gM hl) r2 hq) fun r s' iW=>?_))
 cases r with
 | error e=>exact hx pins σ _ _ e s' I2 iW
 | ok fl=>
  cases fl with
  | ret u=>
   obtain ⟨v,H',I3,rv,ev,q3⟩:=I2.after iW;subst ev;exact ⟨rv,⟨V.ref (s.heap.objs.size+1),H',I3,rfl,q3⟩⟩
  | next=>exact False.elim iW
  | brk=>exact False.elim iW
  | cont=>exact False.elim iW
theorem Ht (M:Mk X.K C f) (F:ar X.prog X.w X.K X.mg X.base CX k f fd ps sp) (hr:cY (k+1) X.A) (hg:Gl X x) (hm:X.mg x=some (.ref C)) (hb:eY X.K fd ps ds) (hd:bq ja ds) (hx:pO CX X E)
 (ha:PA X (e::es) t) (m5:(x==("__debug__":Str))=false:=by decide) (he:starEach (e::es) X.env=(false,eval e X.env)::starEach es X.env:=by rfl) (fh:(backTo pos (starEach es X.env)).any (·.1)=false:=by rfl):
 PE X (.Call (.Name x p) (e::es) [] pos) (ZL C sp ja E t):=by
 intro pins s σ H Q I h;refine wpAny_Call_Name_kw (yJ I hg hm ?_ m5);refine PySem.W.callWith_K (h₀:=X.base) I.ok.mod.zh M.kp (av (ha pos pins s σ H _ I h) fun us s1 zz=>L2.eT zz fun vs H1 I1 r q=>⟨I1.gM,?_⟩) he fh;exact V' M F hr hb hd hx I1 r q
end
section
variable {X:Cx} {CX:mI} {k:Nat} {f C:Addr} {fd:FuncData} {ps ks:List Str} {sp:Sp} {E:XK} {x m:Str} {p pos apos kpos:Pos} {e o:Expr} {es:List Expr} {kws:List Keyword} {te ta:TE} {t tk:TA} {nm:Option Str}
variable {g:List Value->List Value->List Value} {gV:List V->List V->List V}
end
structure cG (N P:List Str) (sc:Scope):Prop where
 kind:sc.kind=.function
 co:sc.isCoroutine=false
 gen:sc.isGenerator=false
 nd:N.Nodup
 pre:N.take P.length=P
 par:∀x∈P,sc.names.lookup x=some .local\/sc.names.lookup x=some .cell
 xj:∀y∈sc.names,y.2≠.free
theorem cV {N P:List Str} {sc:Scope} (h1:sc.kind=.function:=by rfl) (h2:sc.isCoroutine=false:=by rfl) (h3:sc.isGenerator=false:=by rfl) (h4:N.Nodup:=by decide+kernel) (h5:N.take P.length=P:=by rfl) (h6:∀x∈P,sc.names.lookup x=some .local\/sc.names.lookup x=some .cell:=by decide+kernel) (h7:∀y∈sc.names,y.2≠.free:=by decide+kernel):cG N P sc:=⟨h1,h2,h3,h4,h5,h6,h7⟩
theorem Pn {kindOf:Str->Option NameKind} {x:Str}:∀{binds:List (Str×Value)} {m:Str->Option Value},(∀v,(x,v)∉binds)->bindL kindOf binds m x=m x
 | [],_,_=>rfl
 | (n,v)::r,m,h=>by
  unfold bindL;rw [Pn fun w hw=>h w (gz _ hw)];split
  ·have:x≠n:=by rintro rfl;exact h v eG
   simp [this]
  ·rfl
theorem Pk {kindOf:Str->Option NameKind} {x:Str}:∀{binds:List (Str×Value)} {m:Str->Option Value},(∀v,(x,v)∉binds)->bindC kindOf binds m x=m x
 | [],_,_=>rfl
 | (n,v)::r,m,h=>by
  unfold bindC;rw [Pk fun w hw=>h w (gz _ hw)];split
  ·rfl
  ·have:x≠n:=by rintro rfl;exact h v eG
   simp [this]
theorem Pm {kindOf:Str->Option NameKind} {x:Str} {v:Value}:∀{P:List Str} {vs:List Value} {i:Nat} {m:Str->Option Value},P.Nodup->P[i]?=some x->vs[i]?=some v->kindOf x=some .local->
 bindL kindOf (P.zip vs) m x=some v
 | [],_,_,_,_,h,_,_=>by simp at h
 | _::_,[],_,_,_,_,h,_=>by simp at h
 | p::P,w::vs,0,m,nd,h1,h2,hk=>by
  simp at h1 h2;subst h1;subst h2;show bindL kindOf ((p,w)::P.zip vs) m p=_;unfold bindL;rw [Pn fun v hv=>(List.nodup_cons.mp nd).1 (List.of_mem_zip hv).1,if_pos hk];simp
 | p::P,w::vs,i+1,m,nd,h1,h2,hk=>by
  show bindL kindOf ((p,w)::P.zip vs) m x=_;unfold bindL;exact Pm (i:=i) (List.nodup_cons.mp nd).2 (by simpa using h1) (by simpa using h2) hk
theorem Pj {kindOf:Str->Option NameKind} {x:Str} {v:Value}:∀{P:List Str} {vs:List Value} {i:Nat} {m:Str->Option Value},P.Nodup->P[i]?=some x->vs[i]?=some v->kindOf x≠some .local->
 bindC kindOf (P.zip vs) m x=some v
 | [],_,_,_,_,h,_,_=>by simp at h
 | _::_,[],_,_,_,_,h,_=>by simp at h
 | p::P,w::vs,0,m,nd,h1,h2,hk=>by
  simp at h1 h2;subst h1;subst h2;show bindC kindOf ((p,w)::P.zip vs) m p=_;unfold bindC;rw [Pk fun v hv=>(List.nodup_cons.mp nd).1 (List.of_mem_zip hv).1,if_neg hk];simp
 | p::P,w::vs,i+1,m,nd,h1,h2,hk=>by
  show bindC kindOf ((p,w)::P.zip vs) m x=_;unfold bindC;exact Pj (i:=i) (List.nodup_cons.mp nd).2 (by simpa using h1) (by simpa using h2) hk
def jn (N:List Str) (vs:List V):St:=vs.map some++List.replicate (N.length-vs.length) none
def n_ (CX:mI) (P:Program) (w:World) (K:aF) (mg:Str->Option Value) (base:Heap) (N:List Str) (qual:Str) (scope:Scope) (f:Addr) (cd:Value) (A:Around) (outer:List Env) (s:Shared) (H:Hp) (E:XK):Cx where
 prog:=P
 w:=w
 K:=K
 mg:=mg
 base:=base
 A:=A.deeper (envOfC qual scope s.heap.objs.size f cd)
 N:=N
 bU:=s
 gr:=H
 env:=envOfC qual scope s.heap.objs.size f cd
 outer:=outer
 stack:=envOfC qual scope s.heap.objs.size f cd::outer
 ex:=[]
 calm:=true
 fn:=fun _=>true
 pn:=[]
 xe:=fun e s'=>wpAny (model P w) (A.deeper (envOfC qual scope s.heap.objs.size f cd)) (leaving (envOfC qual scope s.heap.objs.size f cd) e) (fun _ AX=>CX outer H s E e AX) (fun e' AX=>CX outer H s E e' AX) s'
theorem NW {sc:Scope} {n:Nat} {x:Str} (h:sc.names.lookup x=some .cell):∃c,(cellsFrom n sc.names []).lookup x=some c:=by
 have q:=PySem.W.cellsFrom_some sc.names n [] (.inl h);exact Option.isSome_iff_exists.mp q
theorem WT {CX:mI} {P:Program} {w:World} {K:aF} {mg:Str->Option Value} {base:Heap} {N ps:List Str} {qual:Str} {scope:Scope} {f:Addr} {cd:Value} {A:Around} {outer:List Env} {s s1:Shared} {H:Hp} {E:XK} {us:List Value} {vs:List V}
 (S:cG N ps scope) (hd:A.handled=none) (e0:vM P w K mg base A outer s H) (hl:vs.length=ps.length) (r:bq vs us)
 (x:InCallC s s.heap.objs.size (bindL (envOfC qual scope s.heap.objs.size f cd).kindOf (ps.zip us) fun _=>none) (cellsFrom (s.heap.objs.size+1) scope.names []) (bindC (envOfC qual scope s.heap.objs.size f cd).kindOf (ps.zip us) fun _=>none) s1):
 Inv (n_ CX P w K mg base N qual scope f cd A outer s H E) [] (jn N vs) H s1:=by
 have fh:ps.length<=N.length:=by have:=congrArg List.length S.pre;rw [ie] at this;lia
 obtain ⟨h1,tk,rfl,hk⟩:=x.done;have Bc:∀b:Addr,b∉(n_ CX P w K mg base N qual scope f cd A outer s H E).ex:=fun b z=>absurd (show b∈([]:List Addr) from z) (by simp);refine ⟨⟨e0.mod,S.kind,rfl,rfl,az _,fun y z c h1 h2=>?_,fun y hy=>?_,fun y c _ h=>?_,fun _=>hd,Around.frames_deeper e0.frames,.inr ⟨rfl,rfl⟩,fun b z=>absurd z (Bc b),e0.bs,e0.oS,fun b _ _=>Bc b,fun b z=>absurd z (Bc b),e0.eS,e0.pC⟩,
  rfl,e0.bare,Un.kept hk,⟨_,x.toInCall.ns,fun i y v h1 h2 h3=>?_⟩,fun y c h=>⟨_,x.cell y c h⟩,e0.af.fresh (az _),fun y c h=>?_,fun p hp=>absurd (show p∈([]:List (Addr×Obj)) from hp) (by simp),e0.af.kept hk,?_⟩
 ·exact name_of_addr x.apart (zL h1) (zL h2)
 ·have hy:scope.names.lookup y=some .cell\/scope.names.lookup y=some .free:=hy;rcases hy with hy | hy
  ·exact NW hy
  ·exact absurd rfl (S.xj _ (zL hy))
 ·exact bp (x.above y c (zL h))
 ·have hi:i<vs.length:=by
   unfold jn at h2
   by_cases hi:i<vs.length
   ·exact hi
   ·rw [rf (by simpa using hi)] at h2;rw [List.getElem?_replicate] at h2;split at h2<;>cases h2
  have ha:vs[i]?=some v:=by
   unfold jn at h2;rw [sk (by simpa using hi),f9] at h2
   cases e:vs[i]? with
   | none=>rw [e] at h2;cases h2
   | some a=>rw [e] at h2;cases h2;rfl
  obtain ⟨u,hu,rv⟩:=r.get ha;have hp:ps[i]?=some y:=by
   rw [<-S.pre,List.getElem?_take_of_lt (by lia)];exact h1
  have Rz:ps.Nodup:=by rw [<-S.pre];exact S.nd.sublist (List.take_sublist _ _)
  refine ⟨u,rv,?_⟩;rcases S.par y (gq hp) with k | k
  ·exact .inl ⟨k,Pm Rz hp hu k⟩
  ·obtain ⟨c,e⟩:=NW (n:=s.heap.objs.size+1) k;refine .inr ⟨.inl k,c,e,?_⟩;have q:=x.cell y c e;rw [Pj Rz hp hu (by show scope.names.lookup y≠_;rw [k];decide)] at q;exact q
 ·exact e0.af.fresh (bp (x.above y c (zL h)))
 ·unfold jn;show _=N.length;rw [ig,aB,List.length_replicate];lia
theorem QQ {CX:mI} {P:Program} {w:World} {K:aF} {mg:Str->Option Value} {base:Heap} {k:Nat} {f:Addr} {name qual:Str} {params:Arguments} {body:List Stmt} {scope:Scope} {dV kV doc pm dn ct oc:Value} {an od:Option Addr}
 {o4:Array (Option Value)} {N ps:List Str} {sp:Sp} (lk:K.lookup f=some ⟨oc,od,.func (PySem.W.fnOf name qual params body scope dV kV doc pm an dn ct),o4⟩) (oN:PySem.W.codeIn K dn qual=true) (S:cG N ps scope)
 (len:∀vs H Q E,sp vs H Q E->vs.length=ps.length)
 (iY:∀(A:Around) (outer:List Env) (s:Shared) (H:Hp) (vs:List V) (Q:VK) (E:XK),cY k (A.deeper (envOfC qual scope s.heap.objs.size f dn))->sp vs H Q E->
  ∃t,g7 (n_ CX P w K mg base N qual scope f dn A outer s H E) body t/\t { nx:=fun _ H'=>Q .aU H',rt:=Q } (jn N vs) H):
 ar P w K mg base CX (k+1) f (PySem.W.fnOf name qual params body scope dV kV doc pm an dn ct) ps sp:=by
 refine ⟨len,fun A outer s H args us vs Q E hr e0 hb r pz=>?_⟩;have hl:=len _ _ _ _ pz;have KX:K.In s.heap:=e0.mod.zh.keeps fun b o e=>(e0.bs b o e).1;have lim:s.heap.NoLimit:=e0.mod.nolimit.keeps fun b o e=>(e0.bs b o e).1;have l7:∀y∈ps.zip us,scope.names.lookup y.1=some .local\/(scope.names.lookup y.1=some .cell/\((cellsFrom (s.heap.objs.size+1) scope.names []).lookup y.1).isSome=true):=fun ⟨n,v⟩ hy=>by
  rcases S.par n (List.of_mem_zip hy).1 with q | q
  ·exact .inl q
  ·exact .inr ⟨q,PySem.W.cellsFrom_some _ _ _ (.inl q)⟩
 refine codeAny_call_function hr.depth (KX _ _ lk) rfl S.co S.gen rfl (PySem.W.codeRec_of KX oN) (hb _ _ _ _ ?_);refine wpAny_newFunctionEnv_cells S.kind l7 fun env he s1 x=>?_;subst he;refine ⟨lim.keeps x.toInCall.keep,codeAny_func ?_⟩;obtain ⟨t,ht,hq⟩:=iY A outer s H vs Q E (hr.deeper _) pz;have I:Inv (n_ CX P w K mg base N qual scope f dn A outer s H E) [] (jn N vs) H s1:=WT S hr.hd e0 hl r x;refine wpAny_mono (ht [] s1 (jn N vs) H _ I hq) (fun fl s' hs=>?_) fun e s' hs=>hs;have fin:∀{aa:St} {H':Hp} {v:V} {u:Value},Inv (n_ CX P w K mg base N qual scope f dn A outer s H E) [] aa H' s'->bR v u->Q v H'->CE outer P w H s Q u s':=
  fun {aa H' v u} J rv q=>⟨v,H',J.os,J.bare,J.base,J.af,rv,q⟩
 cases fl with
 | ret u=>
  obtain ⟨v,aa,H',J,rv,q⟩:=hs;exact fin J rv q
 | next=>
  obtain ⟨aa,H',J,q⟩:=hs;exact fin (v:=V.aU) (u:=Value.none) J rfl q
 | brk=>
  obtain ⟨_,_,_,q⟩:=hs;exact False.elim q
 | cont=>
  obtain ⟨_,_,_,q⟩:=hs;exact False.elim q
section
variable {X:Cx} {x:Str} {p pos:Pos} {e:Expr} {es:List Expr} {t:TA} {id T:String} {r:List V->Hp->VK->Prop}
def Q_ (r:List V->Hp->VK->Prop) (t:TA):TE:=fun σ H Q=>t σ H fun vs H1=>r vs H1 Q
theorem jx (hc:rC X (.builtin id) r) (hg:Gl X x) (hm:X.mg x=none) (hv:bootBuiltins x=some (.builtin id)) (ha:PA X (e::es) t) (hn:x≠"__name__":=by decide) (m5:(x==("__debug__":Str))=false:=by decide)
 (he:starEach (e::es) X.env=(false,eval e X.env)::starEach es X.env:=by rfl) (fh:(backTo pos (starEach es X.env)).any (·.1)=false:=by rfl):PE X (.Call (.Name x p) (e::es) [] pos) (Q_ r t):=by
 intro pins s σ H Q I h;refine wpAny_Call_Name_kw (wa I hg hm hv ?_ hn m5);exact PyProof.Rows.callWith_builtin1 (av (ha pos pins s σ H _ I h) fun us s1 zz=>L2.eT zz fun vs H1 I1 r1 q1=>hc pins s1 σ H1 vs us Q I1 r1 q1) he fh
theorem uU (hc:rC X (.type T) r) (hg:Gl X x) (hm:X.mg x=none) (hv:bootBuiltins x=some (.type T)) (ha:PA X (e::es) t) (hn:x≠"__name__":=by decide) (m5:(x==("__debug__":Str))=false:=by decide)
 (he:starEach (e::es) X.env=(false,eval e X.env)::starEach es X.env:=by rfl) (fh:(backTo pos (starEach es X.env)).any (·.1)=false:=by rfl):PE X (.Call (.Name x p) (e::es) [] pos) (Q_ r t):=by
 intro pins s σ H Q I h;refine wpAny_Call_Name_kw (wa I hg hm hv ?_ hn m5);exact PyProof.Rows.callWith_type1 (av (ha pos pins s σ H _ I h) fun us s1 zz=>L2.eT zz fun vs H1 I1 r1 q1=>hc pins s1 σ H1 vs us Q I1 r1 q1) he fh
end
end L2
namespace HT
open PySem PyProof.Rows
section
open PySem.SeqAt
open PySem.AutoSeq1 (wpAny_loadPart')
open PySem.MeetsSeq PySem.MeetsSeq2 PySem.MeetsSeq3
end
section
variable {prog:Program} {w:World} {A:Around} {E:Value->Shared->Prop} {s:Shared}
def cv (n d:Nat):Option Int->Nat
 | none=>d
 | some v=>if v<0 then (v+(n:Int)).toNat else min v.toNat n
theorem eM (n d:Nat):cv n d none=d:=rfl
theorem dO (n d k:Nat):cv n d (some (k:Int))=min k n:=by
 show (if (k:Int)<0 then ((k:Int)+(n:Int)).toNat else min (k:Int).toNat n)=min k n;rw [if_neg (by exact Int.not_lt.mpr (Int.natCast_nonneg k)),i7]
theorem T5 (n d:Nat) (hd:d<=n) (o:Option Int):cv n d o<=n:=by
 cases o with
 | none=>exact hd
 | some v=>
  show (if v<0 then (v+(n:Int)).toNat else min v.toNat n)<=n
  by_cases hv:v<0
  ·rw [if_pos hv];lia
  ·rw [if_neg hv];exact Nat.min_le_right _ _
theorem Nb (v:Int) (n d:Nat):(if v<0 then max (v+(n:Int)) 0 else min v (n:Int))=((cv n d (some v):Nat):Int):=by
 show (if v<0 then max (v+(n:Int)) 0 else min v (n:Int))=(((if v<0 then (v+(n:Int)).toNat else min v.toNat n):Nat):Int)
 by_cases hv:v<0
 ·simp only [if_pos hv];lia
 ·simp only [if_neg hv];lia
theorem Xa (lo hi:Option Int) (n:Nat):Builtin.Slice.sliceAdjust lo hi 1 (n:Int)=(((cv n 0 lo:Nat):Int),((cv n n hi:Nat):Int)):=by
 have h1:¬((1:Int)<0):=by lia
 unfold Builtin.Slice.sliceAdjust;simp only [h1,if_false];refine Prod.ext ?_ ?_
 ·cases lo with
  | none=>rfl
  | some v=>exact Nb v n 0
 ·cases hi with
  | none=>rfl
  | some v=>exact Nb v n n
theorem Xv (i j:Nat):Builtin.Slice.slicePlaces (i:Int) (j:Int) 1=j-i:=by
 unfold Builtin.Slice.slicePlaces;have h1:(1:Int)>0:=by exact Int.NonNeg.mk (1-Nat.succ 0)
 simp only [h1,if_true,Int.ediv_one];split<;>lia
theorem PU (p:IsPart v o) (h:Q o s):wpAny (model prog w) A (Builtin.Slice.slicePartIndex v) Q E s:=by
 cases p with
 | none=>exact slicePart_none h
 | int i t=>exact slicePart_int h
theorem X_ {sl:Addr} {vl vu:Value} {lo hi:Option Int} {n:Nat} {Q:Int×Int×Nat->Shared->Prop} (hs:s.heap.IsSliceOf sl vl vu .none) (pl:IsPart vl lo) (pu:IsPart vu hi)
 (h:Q (((cv n 0 lo:Nat):Int),1,cv n n hi-cv n 0 lo) s):wpAny (model prog w) A (Builtin.Slice.sliceApplied (.ref sl) (pure (n:Int))) Q E s:=by
 obtain ⟨os,B0,Sl,Fq⟩:=id hs;unfold Builtin.Slice.sliceApplied Builtin.Slice.sliceFields;refine ag (ag (wpAny_field B0 Fq (x:=vl) rfl (ag (wpAny_field B0 Fq (x:=vu) rfl (ag (wpAny_field B0 Fq (x:=.none) rfl (aV ?_)))))));refine ag (slicePart_none ?_);show wpAny _ _ (if ((1:Int)==0)=true then _ else _) _ _ s;rw [if_neg (by decide)];refine ag (PU pl (ag (PU pu (ag (aV ?_)))));show wpAny _ _ (match Builtin.Slice.sliceAdjust lo hi 1 (n:Int) with | (lo,hi)=>pure (lo,(1:Int),Builtin.Slice.slicePlaces lo hi 1)) _ _ s;rw [Xa lo hi n];show wpAny _ _ (pure (((cv n 0 lo:Nat):Int),(1:Int),Builtin.Slice.slicePlaces ((cv n 0 lo:Nat):Int) ((cv n n hi:Nat):Int) 1)) _ _ s;rw [Xv];exact aV h
theorem VN (xs:Array Value) (i k:Nat):((List.range k).filterMap fun (m:Nat)=>xs[((i:Int)+(m:Int)*1).toNat]?).toArray=((xs.toList.drop i).take k).toArray:=by
 have e:(fun (m:Nat)=>xs[((i:Int)+(m:Int)*1).toNat]?)=fun m=>xs[i+m]?:=by
  funext m
  have:((i:Int)+(m:Int)*1).toNat=i+m:=by lia
  rw [this]
 rw [e];have:=pick_run xs i k;rw [List.filterMap_map] at this;have e2:((fun x=>xs[x]?) ∘ fun x=>i+x)=fun m=>xs[i+m]?:=rfl;rw [e2] at this;rw [this]
theorem gG {t sl:Addr} {items:Array Value} {vl vu:Value} {lo hi:Option Int} {Q:Value->Shared->Prop} (ht:IsTup s.heap t items) (hs:s.heap.IsSliceOf sl vl vu .none) (pl:IsPart vl lo) (pu:IsPart vu hi)
 (hw:¬(cv items.size 0 lo=0/\cv items.size items.size hi=items.size))
 (h:Q (.ref s.heap.objs.size) { s with heap:=s.heap.push { cls:=.type "tuple",data:=.seq ((items.toList.drop (cv items.size 0 lo)).take (cv items.size items.size hi-cv items.size 0 lo)).toArray } })
 (hsz:items.size<=sizeLine):wpAny (model prog w) A (getItem (.ref t) (.ref sl)) Q E s:=by
 have nA:sizeOk (.seq ((items.toList.drop (cv items.size 0 lo)).take (cv items.size items.size hi-cv items.size 0 lo)).toArray):=by
  show ((items.toList.drop (cv items.size 0 lo)).take (cv items.size items.size hi-cv items.size 0 lo)).toArray.size<=sizeLine;rw [ik,ie,vI,rh];omega
 have hj:cv items.size items.size hi<=items.size:=T5 _ _ (az _) hi;obtain ⟨os,B0,Sl,Fq⟩:=id hs;have hTs:s.TypeIs (.ref sl) "slice":=⟨os,B0,Sl⟩;unfold getItem
 try with_reducible refine wpAny_holding ?_
 first | refine ag (aV ?_) | skip
 refine ag (wpAny_sequenceKey ht.typeIs (by decide) ?_);refine ag (wpAny_callSpecial?_slot (name:=Str.ofString "__getitem__") ht.typeIs PyProof.Rows.slot_tuple_getitem
  (wpAny_call_entry PyProof.Rows.slot_tuple_getitem ht.typeIs entry_tuple_getitem ?_ (args_tuple_getitem _ _)))
 show wpAny _ _ (Builtin.Tuple.tupleItemsOf (.ref t)>>=_) _ _ s;refine ag (tupleItemsOf_ ht ?_);refine ag (wpAny_typeOf hTs ?_);rw [if_pos (by decide)];refine ag (X_ hs pl pu ?_);have lz:¬((((cv items.size 0 lo:Nat):Int)==0 && (1:Int)==1 && (cv items.size items.size hi-cv items.size 0 lo)==items.size)=true):=by
  intro q;rw [Bool.and_eq_true,Bool.and_eq_true] at q;have q1:((cv items.size 0 lo:Nat):Int)=0:=eq_of_beq q.1.1;have q2:cv items.size items.size hi-cv items.size 0 lo=items.size:=eq_of_beq q.2;exact hw ⟨by lia,by omega⟩
 show wpAny _ _ (if (((cv items.size 0 lo:Nat):Int)==0 && (1:Int)==1 && (cv items.size items.size hi-cv items.size 0 lo)==items.size)=true then _ else _) _ _ s;rw [if_neg lz,VN]
 first
  | exact ag (m:=Builtin.Tuple.tupleExact _) (wpAny_newObj_type (aV ⟨_,rfl,aV h⟩) nA)
  | exact ag (m:=Builtin.Tuple.tupleExact _) (wpAny_newObj_type (ag (aV (aV ⟨_,rfl,aV h⟩))) nA)
  | exact ag (ag (m:=Builtin.Tuple.tupleExact _) (wpAny_newObj_type (aV (aV ⟨_,rfl,aV h⟩)) nA))
  | exact ag (ag (m:=Builtin.Tuple.tupleExact _) (wpAny_newObj_type (aV ⟨_,rfl,aV h⟩) nA))
end
end HT
namespace L2
open PySem PySem.Spec PyProof.Rows
abbrev TO:=St->Hp->(Option Int->Hp->Prop)->Prop
def PO (X:Cx) (e:Option Expr) (t:TO):Prop:=
 ∀(pins:List (Addr×Obj)) (s:Shared) (σ:St) (H:Hp) (Q:Option Int->Hp->Prop),Inv X pins σ H s->t σ H Q->
  wpAny (model X.prog X.w) X.A (evalPart e X.env) (fun u s'=>∃o H',Inv X pins σ H' s'/\IsPart u o/\Q o H') X.xe s
def Vv:TO:=fun _ H Q=>Q none H
def ZN (t:TE):TO:=fun σ H Q=>t σ H fun x H1=>∃i,x=.int i/\Q (some i) H1
section
variable {X:Cx} {e:Expr} {te:TE} {lo hi:Option Expr} {tl th:TO} {pos p2:Pos}
theorem pR:PO X none Vv:=by
 intro pins s σ H Q I h;rw [evalPart_none];exact aV ⟨none,H,I,.none,h⟩
theorem pT (h:PE X e te):PO X (some e) (ZN te):=by
 intro pins s σ H Q I hw;rw [evalPart_some];refine av (h pins s σ H _ I hw) fun u s1 zz=>?_;obtain ⟨x,H1,I1,r1,q1⟩:=zz;obtain ⟨i,rfl,q⟩:=q1;obtain ⟨t,rfl⟩:=r1;exact ⟨some i,H1,I1,.int i t,q⟩
def FO (X:Cx) (r:V->Option Int->Option Int->Hp->VK->Prop):Prop:=
 ∀(pins:List (Addr×Obj)) (s:Shared) (σ:St) (H:Hp) (x:V) (v vl vu:Value) (lo hi:Option Int) (sl:Addr) (Q:VK),Inv X pins σ H s->bR x v->s.heap.IsSliceOf sl vl vu .none->IsPart vl lo->IsPart vu hi->r x lo hi H Q->
  ∃T id,typeLookup (.type T) "__getitem__"=pure (some (.builtin id))/\s.TypeIs v T/\wpAny (model X.prog X.w) X.A (getItem v (.ref sl)) (EP X pins σ Q) X.xe s
def ZW (r:V->Option Int->Option Int->Hp->VK->Prop) (te:TE) (tl th:TO):TE:=fun σ H Q=>te σ H fun x H1=>tl σ H1 fun l H2=>th σ H2 fun u H3=>r x l u H3 Q
theorem pW (hr:FO X r) (he:PE X e te) (hl:PO X lo tl) (hu:PO X hi th):PE X (.Subscript e (.Slice lo hi none p2) pos) (ZW r te tl th):=by
 intro pins s σ H Q I h;refine Subscript_ (av (he pins s σ H _ I h) fun v s1 zz=>?_);obtain ⟨x,H1,I1,r1,q1⟩:=zz;refine wpAny_Slice (av (hl pins s1 σ H1 _ I1 q1) fun vl s2 zz=>L2.eT zz fun l H2 I2 pl q2=>av (hu pins s2 σ H2 _ I2 q2) fun vu s3 zz=>?_);obtain ⟨u,H3,I3,pu,q3⟩:=zz;rw [evalPart_none];refine aV ?_;have I4:Inv X pins σ H3 { s3 with heap:=s3.heap.push { cls:=.type "slice",data:=.fields #[vl,vu,.none] } }:=I3.kept (t':=s3.toks) fun b ob q=>cX _ q;obtain ⟨T,id,hT,ht,hg⟩:=hr pins { s3 with heap:=s3.heap.push { cls:=.type "slice",data:=.fields #[vl,vu,.none] } } σ H3 x v vl vu l u s3.heap.objs.size Q I4 r1 (Heap.IsSliceOf.new ..) pl pu q3;show wpAny (model X.prog X.w) X.A (subscriptTail e (.Slice lo hi none p2) v (.ref s3.heap.objs.size)) (EP X pins σ Q) X.xe { s3 with heap:=s3.heap.push { cls:=.type "slice",data:=.fields #[vl,vu,.none] } };exact tail_any (ops:=[.ref s3.heap.objs.size,v]) ht hT hg (by with_unfolding_all rfl)
def kO (xs:List V) (lo hi:Option Int):List V:=(xs.drop (HT.cv xs.length 0 lo)).take (HT.cv xs.length xs.length hi-HT.cv xs.length 0 lo)
theorem Qp (xs:List V) (lo hi:Option Int):(kO xs lo hi).length<=xs.length:=by
 unfold kO;rw [ie,vI];lia
def Y6 (K:aF):V->Option Int->Option Int->Hp->VK->Prop:=fun x lo hi H Q=>∃a xs,x=.ref a/\c_ K H a xs/\
 ¬(HT.cv xs.length 0 lo=0/\HT.cv xs.length xs.length hi=xs.length)/\∀p,H p=none->Q (.ref p) (upd H p (.tup (kO xs lo hi)))
theorem CP:FO X (Y6 X.K):=by
 intro pins s σ H x v vl vu lo hi sl Q I rx hs pl pu h;obtain ⟨a,xs,rfl,hx,hw,q⟩:=h;cases rx;obtain ⟨its,r,ht,hz⟩:=I.tuple hx;have hlen:its.toArray.size=xs.length:=by rw [ik];exact r.length.symm
 refine ⟨"tuple",_,PyProof.Rows.slot_tuple_getitem.lookup,ht.typeIs,?_⟩;refine HT.gG ht hs pl pu (by rw [hlen];exact hw) ?_ (by rw [hlen];exact hz);rw [hlen];refine ⟨.ref s.heap.objs.size,_,I.laid (t':=s.toks) (o:=.tup (kO xs lo hi)) (fun b ob q=>cX _ q) (az _) ?_,rfl,q _ (I.af.fresh (az _))⟩;exact ⟨eE (Qp xs lo hi) hz,_,(r.drop (HT.cv xs.length 0 lo)).take (HT.cv xs.length xs.length hi-HT.cv xs.length 0 lo),IsTup.new _ _⟩
end
def pk (n:Nat) (i:Int):Option Nat:=if 0<=i then (if i<n then some i.toNat else none) else if-(n:Int)<=i then some (i+n).toNat else none
def iI {α:Type} (xs:List α) (i:Int):Option α:=(pk xs.length i).bind fun j=>xs[j]?
theorem Nj (h:pk n i=some j):seqIndex? i n=some j/\j<n/\-(n:Int)<=i/\i<n:=by
 unfold pk at h
 by_cases h0:0<=i
 ·rw [if_pos h0] at h
  by_cases h1:i<n
  ·rw [if_pos h1] at h;have e:i.toNat=j:=eF h;exact ⟨by rw [seqIndex_of h0 h1,e],by lia,by lia,h1⟩
  ·rw [if_neg h1] at h;cases h
 ·rw [if_neg h0] at h
  by_cases h1: -(n:Int)<=i
  ·rw [if_pos h1] at h;have e:(i+n).toNat=j:=eF h;exact ⟨by rw [seqIndex_neg (by lia) h1,e],by lia,h1,by lia⟩
  ·rw [if_neg h1] at h;cases h
theorem MY (h:iI xs i=some v):∃j,seqIndex? i xs.length=some j/\xs[j]?=some v/\j<xs.length/\-(xs.length:Int)<=i/\i<xs.length:=by
 unfold iI at h
 cases e:pk xs.length i with
 | none=>rw [e] at h;cases h
 | some j=>
  rw [e] at h;obtain ⟨h1,h2,h3,h4⟩:=Nj e;exact ⟨j,h1,h,h2,h3,h4⟩
theorem ko {α:Type} {xs:List α} {j:Nat} {v:α} (h:xs[j]?=some v):iI xs (j:Int)=some v:=by
 have hj:j<xs.length:=(gO.mp h).1;have e:pk xs.length (j:Int)=some j:=by
  unfold pk;rw [if_pos (by exact Int.NonNeg.mk (j+0)),if_pos (by lia)];simp
 unfold iI;rw [e];exact h
theorem V5 (xs:List α) (v:α):iI (xs++[v]) (-1)=some v:=by
 have hl:(xs++[v]).length=xs.length+1:=by simp
 have e:pk (xs++[v]).length (-1)=some xs.length:=by
  unfold pk;rw [hl,if_neg (by decide),if_pos (by lia)];congr 1;lia
 unfold iI;rw [e];show (xs++[v])[xs.length]?=some v;simp
def TZ (b:Expr):Prop:=∀o i,subscripted b false o i=operate [o,i] (getItem o i)
def yn (X:Cx) (r:R2):Prop:=
 ∀(value slice:Expr) (pins:List (Addr×Obj)) (s:Shared) (σ:St) (H:Hp) (x y:V) (v u:Value) (Q:VK),Inv X pins σ H s->bR x v->bR y u->r x y H Q->
  subscripted slice false v u=operate [v,u] (getItem v u)->wpAny (model X.prog X.w) X.A (subscriptTail value slice v u) (EP X pins σ Q) X.xe s
def MtR (X:Cx) (id:String) (r:V->List V->Hp->VK->Prop):Prop:=
 ∀(pins:List (Addr×Obj)) (s:Shared) (σ:St) (H:Hp) (x:V) (xs:List V) (v:Value) (us:List Value) (Q:VK),Inv X pins σ H s->bR x v->bq xs us->r x xs H Q->
  wpAny (model X.prog X.w) X.A (call (.builtin id) (v::us)) (EP X pins σ Q) X.xe s
section
variable {X:Cx} {a b:Expr} {ta tb:TE} {pos:Pos}
theorem de (hr:yn X r) (ha:PE X a ta) (hb:PE X b tb) (hs:TZ b):PE X (.Subscript a b pos) (qe r ta tb):=by
 intro pins s σ H Q I h;exact Subscript_ (ID ha hb I h fun v u s2 x y H2 I2 rx ry q=>hr a b pins s2 σ H2 x y v u Q I2 rx ry q (hs _ _))
def Q9 (K:aF):R2:=fun x y H Q=>∃p xs i v,x=.ref p/\y=.int i/\ax K H p xs/\iI xs i=some v/\Q v H
def QA (K:aF):R2:=fun x y H Q=>∃p xs i v,x=.ref p/\y=.int i/\c_ K H p xs/\iI xs i=some v/\Q v H
theorem Hn:yn X (Q9 X.K):=by
 intro value slice pins s σ H x y v u Q I rx ry h hs;obtain ⟨p,xs,i,z,rfl,rfl,hq,he,q⟩:=h;cases rx;obtain ⟨t,rfl⟩:=ry;obtain ⟨its,r,pl,hz⟩:=I.list hq;obtain ⟨j,h1,h2,h3,h4,h5⟩:=MY he;obtain ⟨w,ew,tG⟩:=r.get h2;have hl:=r.length;have hn:=CU;have fin:EP X pins σ Q w s:=⟨z,H,I,tG,q⟩
 by_cases h0:0<=i
 ·have hj:i.toNat=j:=by
   rw [seqIndex_of h0 h5] at h1;exact eF h1
  exact item_listR pl.isList h0 (by lia) (by rw [hj];simpa using ew) fin hs
 ·have hj:(i+(its.toArray.size:Int)).toNat=j:=by
   rw [seqIndex_neg (by lia) h4] at h1;rw [ik,<-hl];exact eF h1
  exact subscriptTail_builtinR (x:=w) pl.isList.typeIs slot_list_getitem.lookup
   (wpAny_getItem_list_neg (Q:=fun r s'=>r=w/\EP X pins σ Q r s') pl.isList (by lia) (by rw [ik]<;>lia) (by lia) (by rw [hj];simpa using ew) ⟨rfl,fin⟩) hs
theorem M8:yn X (QA X.K):=by
 intro value slice pins s σ H x y v u Q I rx ry h hs;obtain ⟨p,xs,i,z,rfl,rfl,hq,he,q⟩:=h;cases rx;obtain ⟨t,rfl⟩:=ry;obtain ⟨its,r,pl,hz⟩:=I.tuple hq;obtain ⟨j,h1,h2,h3,h4,h5⟩:=MY he;obtain ⟨w,ew,tG⟩:=r.get h2;have hl:=r.length;have hn:=CU;have fin:EP X pins σ Q w s:=⟨z,H,I,tG,q⟩;exact subscriptTail_builtinR (x:=w) pl.typeIs slot_tuple_getitem.lookup
  (getItem_tuple (j:=j) (Q:=fun r s'=>r=w/\EP X pins σ Q r s') pl (by lia) (by lia) (by rw [ik,<-hl];exact h1) (by simpa using ew) ⟨rfl,fin⟩) hs
theorem Xi (its:List Value) (n j:Nat) (u:Value):Obj.mapSeq (·.setIfInBounds j u) { cls:=.type "list",data:=.seq its.toArray n }={ cls:=.type "list",data:=.seq (its.set j u).toArray n }:=by
 simp [Obj.mapSeq]
theorem Inv.lst (I:Inv X pins σ H s) (h:H p=some (.lst xs)):
 ∃(its:List Value) (n:Nat),bq xs its/\s.heap.get? p=some { cls:=.type "list",data:=.seq its.toArray n }/\xs.length<=sizeLine:=by
 obtain ⟨z,its,n,r,e⟩:=I.af p _ h;exact ⟨its,n,r,e,z⟩
theorem Inv.xl {pins:List (Addr×Obj)} {σ:St} {H:Hp} {s:Shared} {p:Addr} {xs ys:List V} {its its':List Value} {n n':Nat} {f:Obj->Obj} (I:Inv X pins σ H s) (h:H p=some (.lst xs))
 (ho:s.heap.get? p=some { cls:=.type "list",data:=.seq its.toArray n }) (hf:f { cls:=.type "list",data:=.seq its.toArray n }={ cls:=.type "list",data:=.seq its'.toArray n' }) (r:bq ys its') (hz:ys.length<=sizeLine) (t:Nat):
 Inv X pins σ (upd H p (.lst ys)) { s with heap:=s.heap.update p f,toks:=t }:=by
 have e:(s.heap.update p f).get? p=some { cls:=.type "list",data:=.seq its'.toArray n' }:=by
  rw [Heap.get?_update_self f ho (by rw [hf]<;>rfl),hf]
 refine I.write (x:=p) (e:=p) (by rw [h];trivial) (.inl rfl) (fun b u hb q=>(Heap.get?_update_other _ _ (aD hb)).trans q) ⟨_,e⟩ ?_;exact ⟨hz,its',n',r,e⟩
def Zu:V->V->V->Hp->(Hp->Prop)->Prop:=fun o i v H Q=>∃p xs k j,o=.ref p/\i=.int k/\H p=some (.lst xs)/\pk xs.length k=some j/\Q (upd H p (.lst (xs.set j v)))
theorem yR:Qy X Zu:=by
 intro pins s σ H o i v ov iv u Q I ro ri rv h;obtain ⟨p,xs,k,j,rfl,rfl,hp,hj,q⟩:=h;cases ro;obtain ⟨t,rfl⟩:=ri;obtain ⟨its,n,r,ho,hz⟩:=I.lst hp;obtain ⟨h1,h2,h3,h4⟩:=Nj hj;have hl:=r.length;have hn:=CU;have I':Inv X pins σ (upd H p (.lst (xs.set j v))) { s with heap:=s.heap.update p (Obj.mapSeq (·.setIfInBounds j u)) }:=
  I.xl hp ho (Xi its n j u) (r.set rv j) (by rw [List.length_set];exact hz) s.toks
 by_cases h0:0<=k
 ·have hk:k.toNat=j:=by
   rw [seqIndex_of h0 h4] at h1;exact eF h1
  exact PySem.W.ki_setAt ho h0 (by lia) (by rw [ik,<-hl];exact h4) (by rw [hk];exact ⟨_,I',q⟩)
 ·have hk:(k+(its.toArray.size:Int)).toNat=j:=by
   rw [seqIndex_neg (by lia) h3] at h1;rw [ik,<-hl];exact eF h1
  exact PySem.W.ki_setBack ho (by lia) (by rw [ik,<-hl];exact h3) (by lia) (by rw [hk];exact ⟨_,I',q⟩)
theorem XR (lo hi:Option Int) (n:Nat):(sliceBounds lo hi none n).1=((HT.cv n 0 lo:Nat):Int)/\(sliceBounds lo hi none n).2.1=((HT.cv n n hi:Nat):Int)/\(sliceBounds lo hi none n).2.2=1:=by
 refine ⟨?_,?_,rfl⟩
 ·cases lo with
  | none=>simp [sliceBounds,HT.cv]
  | some i=>
   simp only [sliceBounds,HT.cv,Option.getD_none,show (1:Int)>0 by decide,if_true]
   by_cases h:i<0
   ·simp only [h,if_true]<;>lia
   ·simp only [h,if_false]<;>lia
 ·cases hi with
  | none=>simp [sliceBounds,HT.cv]
  | some i=>
   simp only [sliceBounds,HT.cv,Option.getD_none,show (1:Int)>0 by decide,if_true]
   by_cases h:i<0
   ·simp only [h,if_true]<;>lia
   ·simp only [h,if_false]<;>lia
theorem XU (its:List Value) (lo hi:Option Int):slicePick its.toArray lo hi none=((its.drop (HT.cv its.length 0 lo)).take (HT.cv its.length its.length hi-HT.cv its.length 0 lo)).toArray:=by
 obtain ⟨h1,h2,h3⟩:=XR lo hi its.toArray.size;unfold slicePick;rw [h1,h2,h3];simp only [sliceRange_one,pick_run,ik]<;>rfl
def Y5 (K:aF):V->Option Int->Option Int->Hp->VK->Prop:=fun x lo hi H Q=>∃a xs,x=.ref a/\ax K H a xs/\∀p,H p=none->Q (.ref p) (upd H p (.lst (kO xs lo hi)))
theorem wu:FO X (Y5 X.K):=by
 intro pins s σ H x v vl vu lo hi sl Q I rx hs pl pu h;obtain ⟨a,xs,rfl,hx,q⟩:=h;cases rx;obtain ⟨its,r,ht,hz⟩:=I.list hx;have hlen:=r.length;refine ⟨"list",_,slot_list_getitem.lookup,ht.isList.typeIs,?_⟩;refine wpAny_getItem_list_slice ht.isList hs pl pu .none (by simp) ?_ (by rw [ik]<;>lia);rw [XU,<-hlen];refine ⟨.ref s.heap.objs.size,_,I.laid (t':=s.toks) (o:=.lst (kO xs lo hi)) (fun b ob q=>cX _ q) (az _) ?_,rfl,q _ (I.af.fresh (az _))⟩;exact ⟨eE (Qp xs lo hi) hz,_,0,(r.drop (HT.cv xs.length 0 lo)).take (HT.cv xs.length xs.length hi-HT.cv xs.length 0 lo),ki _ rfl⟩
def jE:V->Bool
 | .aU=>true
 | .bl _=>true
 | .int _=>true
 | .str _=>true
 | _=>false
def pF:V->V->Bool
 | .aU,.aU=>true
 | .bl a,.bl b=>a==b
 | .bl a,.int b=>(if a then 1 else 0)==b
 | .int a,.bl b=>a==(if b then 1 else 0)
 | .int a,.int b=>a==b
 | .str a,.str b=>a==b
 | _,_=>false
theorem M4 (ry:bR y u) (rx:bR x v) (fy:jE y=true) (fx:jE x=true):SeqAt.EqAt A s u v (pF y x):=by
 cases y with
 | aU=>
  cases ry
  cases x with
  | aU=>cases rx;exact SeqAt.EqAt.same _
  | bl b=>cases rx;exact SeqAt.EqAt.none_bool b
  | int b=>obtain ⟨t,rfl⟩:=rx;exact SeqAt.EqAt.none_int b t
  | str b=>obtain ⟨t,rfl⟩:=rx;exact SeqAt.EqAt.none_str b t
  | _=>exact absurd (show false=true from fx) f7
 | bl a=>
  cases ry
  cases x with
  | aU=>cases rx;exact SeqAt.EqAt.bool_none a
  | bl b=>cases rx;exact SeqAt.EqAt.bool_bool a b
  | int b=>obtain ⟨t,rfl⟩:=rx;exact SeqAt.EqAt.bool_int a b t
  | str b=>obtain ⟨t,rfl⟩:=rx;exact SeqAt.EqAt.bool_str a b t
  | _=>exact absurd (show false=true from fx) f7
 | int a=>
  obtain ⟨t',rfl⟩:=ry
  cases x with
  | aU=>cases rx;exact SeqAt.EqAt.int_none a t'
  | bl b=>cases rx;exact SeqAt.EqAt.int_bool a t' b
  | int b=>obtain ⟨t,rfl⟩:=rx;exact SeqAt.EqAt.int_int a t' b t
  | str b=>obtain ⟨t,rfl⟩:=rx;exact SeqAt.EqAt.int_str a t' b t
  | _=>exact absurd (show false=true from fx) f7
 | str a=>
  obtain ⟨t',rfl⟩:=ry
  cases x with
  | aU=>cases rx;exact SeqAt.EqAt.str_none a t'
  | bl b=>cases rx;exact SeqAt.EqAt.str_bool a t' b
  | int b=>obtain ⟨t,rfl⟩:=rx;exact SeqAt.EqAt.str_int a t' b t
  | str b=>obtain ⟨t,rfl⟩:=rx;exact SeqAt.EqAt.str_str a t' b t
  | _=>exact absurd (show false=true from fx) f7
 | _=>exact absurd (show false=true from fy) f7
def mG (x:V) (u:Value):Bool:=match u with
 | .none=>pF .aU x
 | .bool b=>pF (.bl b) x
 | .int i _=>pF (.int i) x
 | .str z _=>pF (.str z) x
 | _=>false
theorem M5 (r:bR y u) (f:jE y=true):mG x u=pF y x:=by
 cases y with
 | aU=>cases r;rfl
 | bl b=>cases r;rfl
 | int i=>obtain ⟨t,rfl⟩:=r;rfl
 | str z=>obtain ⟨t,rfl⟩:=r;rfl
 | _=>exact absurd (show false=true from f) f7
theorem CY {xs:List V} {us:List Value} (h:bq xs us) (f:xs.all jE=true):us.any (mG x)=xs.any fun y=>pF y x:=by
 induction h with
 | nil=>rfl
 | cons r t ih=>
  rw [List.all_cons,Bool.and_eq_true] at f;rw [List.any_cons,List.any_cons,M5 r f.1,ih f.2]
theorem Dt (rx:bR x v) (fx:jE x=true) {xs:List V} {us:List Value} (h:bq xs us) (f:xs.all jE=true):∀u∈us,SeqAt.EqAt A s u v (mG x u):=by
 induction h with
 | nil=>intro u hu;cases hu
 | cons r t ih=>
  intro u' hu;rw [List.all_cons,Bool.and_eq_true] at f;rcases eV.mp hu with rfl | hu
  ·rw [M5 r f.1];exact M4 r rx f.1 fx
  ·exact ih f.2 u' hu
def uf (x:V) (xs:List V):Bool:=xs.any fun y=>pF y x
def EK (K:aF) (neg:Bool):R2:=fun x y H Q=>∃p xs,y=.ref p/\(ax K H p xs\/c_ K H p xs)/\jE x=true/\xs.all jE=true/\Q (.bl (if neg then !uf x xs else uf x xs)) H
theorem HW:eX X (compareOp .In) (EK X.K false):=by
 intro pins s σ H x y v u Q I rx ry h;obtain ⟨p,xs,rfl,hq,fx,fs,q⟩:=h;cases ry;rcases hq with hq | hq
 ·obtain ⟨its,r,pl,hz⟩:=I.list hq;refine SeqAt.in_listAt (mG x) pl.isList (fun w hw=>Dt rx fx r fs w (by simpa using hw)) ⟨.bl _,H,I,rfl,?_⟩;rw [show its.toArray.any (mG x)=its.any (mG x) by simp,CY r fs];exact q
 ·obtain ⟨its,r,pl,hz⟩:=I.tuple hq;refine SeqAt.in_tupleAt (mG x) pl (fun w hw=>Dt rx fx r fs w (by simpa using hw)) ⟨.bl _,H,I,rfl,?_⟩;rw [show its.toArray.any (mG x)=its.any (mG x) by simp,CY r fs];exact q
theorem XH:eX X (compareOp .NotIn) (EK X.K true):=by
 intro pins s σ H x y v u Q I rx ry h;obtain ⟨p,xs,rfl,hq,fx,fs,q⟩:=h;cases ry;rcases hq with hq | hq
 ·obtain ⟨its,r,pl,hz⟩:=I.list hq;refine SeqAt.notIn_listAt (mG x) pl.isList (fun w hw=>Dt rx fx r fs w (by simpa using hw)) ⟨.bl _,H,I,rfl,?_⟩;rw [show its.toArray.any (mG x)=its.any (mG x) by simp,CY r fs];exact q
 ·obtain ⟨its,r,pl,hz⟩:=I.tuple hq;refine SeqAt.notIn_tupleAt (mG x) pl (fun w hw=>Dt rx fx r fs w (by simpa using hw)) ⟨.bl _,H,I,rfl,?_⟩;rw [show its.toArray.any (mG x)=its.any (mG x) by simp,CY r fs];exact q
theorem wC:rC X (.builtin "len") (fun xs H Q=>∃p ys,xs=[.ref p]/\(ax X.K H p ys\/c_ X.K H p ys)/\Q (.int ys.length) H):=by
 intro pins s σ H xs us Q I r h;obtain ⟨p,ys,rfl,hq,q⟩:=h;obtain ⟨u,rfl,rx⟩:=y9 r;cases rx;have hn:=CU;rcases hq with hq | hq
 ·obtain ⟨its,r',pl,hz⟩:=I.list hq;have hlen:=r'.length;exact Calls.call_len_list pl.isList (by simp only [ik]<;>lia) ⟨.int ys.length,H,I.tok _,⟨s.toks+1,by rw [ik,hlen]⟩,q⟩
 ·obtain ⟨its,r',pl,hz⟩:=I.tuple hq;have hlen:=r'.length;exact len_tuple pl (by simp only [ik]<;>lia) ⟨.int ys.length,H,I.tok _,⟨s.toks+1,by rw [ik,hlen]⟩,q⟩
theorem yY:rC X (.type "list") (fun xs H Q=>∃p ys,xs=[.ref p]/\(ax X.K H p ys\/c_ X.K H p ys)/\∀l,H l=none->Q (.ref l) (upd H l (.lst ys))):=by
 intro pins s σ H xs us Q I r h;obtain ⟨p,ys,rfl,hq,q⟩:=h;obtain ⟨u,rfl,rx⟩:=y9 r;cases rx;have fin:∀(its:List Value),bq ys its->ys.length<=sizeLine->∀(h':Heap) (c':Nat),(∀b o',s.heap.get? b=some o'->h'.get? b=some o')->
  h'.get? s.heap.objs.size=some { cls:=.type "list",dict:=none,data:=.seq its.toArray c',slots:= #[] }->EP X pins σ Q (.ref s.heap.objs.size) { s with heap:=h' }:=fun its r' hz h' c' kp e=>
  ⟨.ref s.heap.objs.size,_,I.laid (t':=s.toks) kp (az _) (show eh X.prog X.w _ h' _ (.lst ys) from ⟨hz,its,c',r',e⟩),rfl,q _ (I.af.fresh (az _))⟩
 rcases hq with hq | hq
 ·obtain ⟨its,r',pl,hz⟩:=I.list hq;have hlen:=r'.length;obtain ⟨o,ho,hc,n,hd⟩:=pl.isList;exact call_list_seq p (.inl rfl) ho hc hd (fun h' c' kp e=>fin its r' hz h' c' kp e) (by simp only [ik]<;>lia)
 ·obtain ⟨its,r',pl,hz⟩:=I.tuple hq;have hlen:=r'.length;obtain ⟨o,ho,hc,n,hd⟩:=pl;exact call_list_seq p (.inr rfl) ho hc hd (fun h' c' kp e=>fin its r' hz h' c' kp e) (by simp only [ik]<;>lia)
theorem Qv:rC X (.type "tuple") (fun xs H Q=>∃p ys,xs=[.ref p]/\((ax X.K H p ys/\∀l,H l=none->Q (.ref l) (upd H l (.tup ys)))\/(c_ X.K H p ys/\Q (.ref p) H))):=by
 intro pins s σ H xs us Q I r h;obtain ⟨p,ys,rfl,h⟩:=h;obtain ⟨u,rfl,rx⟩:=y9 r;cases rx;rcases h with ⟨hq,q⟩ | ⟨hq,q⟩
 ·obtain ⟨its,r',pl,hz⟩:=I.list hq;have hlen:=r'.length;refine call_tuple_list pl.isList (fun h' kp=>?_) (by simp only [ik]<;>lia);have I1:Inv X pins σ H { s with heap:=h' }:=I.kept (t':=s.toks) kp;have I2:Inv X pins σ (upd H h'.objs.size (.tup ys)) { s with heap:=h'.push { cls:=.type "tuple",data:=.seq its.toArray } }:=
   I1.laid (t':=s.toks) (fun b o e=>cX _ e) (az _) (show eh X.prog X.w _ _ _ (.tup ys) from ⟨hz,its,r',IsTup.new _ _⟩)
  exact ⟨.ref h'.objs.size,_,I2,rfl,q _ (I1.af.fresh (az _))⟩
 ·obtain ⟨its,r',pl,hz⟩:=I.tuple hq;exact call_tuple_same pl ⟨.ref p,H,I,rfl,q⟩
def QX (K:aF) (T:String) (x:V) (H:Hp):Prop:=match x with
 | .str _=>T="str"
 | .int _=>T="int"
 | .ref p=>(T="list"/\∃xs,ax K H p xs)\/(T="tuple"/\∃o,K.lookup p=some o/\o.cls=.type "tuple"/\o.dict=none)\/
  (T="dict"/\((∃kvs,H p=some (.dK kvs))\/∃kvs,H p=some (.dT kvs)))\/(T="set"/\∃S n,H p=some (.set S n))
 | _=>False
theorem UL (I:Inv X pins σ H s) (r:bR x v) (ty:QX X.K T x H):
 s.TypeIs v T/\∀a,v=.ref a->∃ob,s.heap.get? a=some ob/\ob.dict=none:=by
 cases x with
 | str z=>
  obtain ⟨t,rfl⟩:=r;cases (show T="str" from ty);exact ⟨typeIs_str s z t,fun _ e=>nomatch e⟩
 | int i=>
  obtain ⟨t,rfl⟩:=r;cases (show T="int" from ty);exact ⟨typeIs_int s i t,fun _ e=>nomatch e⟩
 | ref p=>
  cases r;rcases ty with ⟨rfl,xs,hq⟩ | ⟨rfl,o,hk,hc,hd⟩ | ⟨rfl,hk⟩ | ⟨rfl,S,n,hk⟩
  ·obtain ⟨its,_,pl,_⟩:=I.list hq;refine ⟨pl.isList.typeIs,fun a e=>?_⟩;cases e;obtain ⟨o,n,e,c,hd,_⟩:=pl;exact ⟨o,e,hd⟩
  ·refine ⟨⟨o,I.gM p o hk,hc⟩,fun a e=>?_⟩;cases e;exact ⟨o,I.gM _ o hk,hd⟩
  ·have z:∃o,s.heap.get? p=some o/\o.ExactDict:=by
    rcases hk with ⟨kvs,hk⟩ | ⟨kvs,hk⟩
    ·obtain ⟨_,_,_,_,o,_,_,e,ex,_⟩:=I.af p _ hk;exact ⟨o,e,ex⟩
    ·obtain ⟨_,_,_,_,o,_,_,e,ex,_⟩:=I.af p _ hk;exact ⟨o,e,ex⟩
   obtain ⟨o,e,ex⟩:=z;refine ⟨⟨o,e,ex.1⟩,fun a e2=>?_⟩;cases e2;exact ⟨o,e,ex.2.1⟩
  ·obtain ⟨o,_,_,_,e,ex,_⟩:=I.af p _ hk;refine ⟨⟨o,e,ex.1⟩,fun a e2=>?_⟩;cases e2;exact ⟨o,e,ex.2.1⟩
 | _=>exact False.elim ty
def ZZ (K:aF) (T:String) (r:V->List V->Hp->VK->Prop) (to:TE) (t:TA):TE:=fun σ H Q=>to σ H fun x H1=>QX K T x H1/\t σ H1 fun xs H2=>r x xs H2 Q
variable {o e:Expr} {es:List Expr} {to:TE} {t:TA} {name:Str} {apos gn:Pos} {T id:String} {r:V->List V->Hp->VK->Prop}
theorem rE (pa:PlainAttrs T) (slot:Slot T name id) (hty:typeOf (.builtin id)=pure (.type "method_descriptor")) (hm:MtR X id r) (ho:PE X o to) (ha:PA X (e::es) t)
 (qS:attributeBase o name X.env (eval o X.env)=eval o X.env:=by rfl)
 (Lc:((backTo gn (starEach (e::es) X.env)).all (fun x=> !x.1) && (backToKw gn (keywordEach [] X.env)).all (fun x=>x.1.isSome)
  && decide ((e::es).length+([]:List Keyword).length+(if ([]:List Keyword).isEmpty then 0 else 1)<30))=true:=by rfl)
 (B8:(apos.endLine==gn.line)=true:=by rfl) (hs:starEach (e::es) X.env=(false,eval e X.env)::starEach es X.env:=by rfl) (xG:(backTo gn (starEach es X.env)).any (·.1)=false:=by rfl):
 PE X (.Call (.Attribute o name apos) (e::es) [] gn) (ZZ X.K T r to t):=by
 intro pins s σ H Q I h;refine wpAny_Call_method_late qS Lc B8 rfl (av (ho pins s σ H _ I h) fun v s1 zz=>?_);obtain ⟨x,H1,I1,r1,ty,q1⟩:=zz;obtain ⟨h1,h2⟩:=UL I1 r1 ty;refine ⟨T,id,pa,slot,hty,h1,h2,?_⟩;have hA:=ha gn pins s1 σ H1 _ I1 q1;rw [hs] at hA ⊢;refine Calls.callWith_builtin (by show (false || (backTo gn (starEach es X.env)).any (·.1))=false;rw [xG]<;>rfl) (Calls.evalArgs_plain ?_);exact av hA fun us s2 zz=>L2.eT zz fun vs H2 I2 r2 q2=>hm pins s2 σ H2 x vs v us Q I2 r1 r2 q2
end
def MtM (X:Cx) (id:String) (r:V->List V->Hp->VK->Prop):Prop:=
 ∀(pins:List (Addr×Obj)) (s:Shared) (σ:St) (H:Hp) (x:V) (xs:List V) (v:Value) (us:List Value) (Q:VK),Inv X pins σ H s->bR x v->bq xs us->r x xs H Q->
  wpAny (model X.prog X.w) X.A (call (.builtin id) (v::us)) (EP X pins σ Q) X.xe s
theorem bq.one {x:V} {us:List Value} (h:bq [x] us):∃u,us=[u]/\bR x u:=by
 cases h with
 | cons r t=>
  cases t;exact ⟨_,rfl,r⟩
theorem bq.rep (h:bq xs us):∀k:Nat,bq (List.replicate k xs).flatten (List.replicate k us).flatten
 | 0=>.nil
 | k+1=>by
  rw [List.replicate_succ,List.replicate_succ,List.flatten_cons,List.flatten_cons];exact bq.append h (bq.rep h k)
theorem OZ (its:List Value):∀(k:Nat) (acc:List Value),
 List.foldl (fun x1 x2=>x1++x2) acc.toArray (List.replicate k its.toArray)=(acc++(List.replicate k its).flatten).toArray
 | 0,acc=>by simp
 | k+1,acc=>by
  have e:acc.toArray++its.toArray=(acc++its).toArray:=by simp
  have e2:(acc++its)++(List.replicate k its).flatten=acc++(List.replicate (k+1) its).flatten:=by
   rw [List.replicate_succ,List.flatten_cons,List.append_assoc]
  rw [<-e2,<-OZ its k (acc++its),<-e,List.replicate_succ,List.foldl_cons]
section
variable {X:Cx} {pins:List (Addr×Obj)} {σ:St} {H:Hp} {s:Shared} {l b:Addr} {xs ys zs:List V}
theorem Inv.JN {its its':List Value} {n:Nat} {f:Array Value->Array Value} {t':Nat} (I:Inv X pins σ H s) (hH:H l=some (.lst xs))
 (e:s.heap.get? l=some { cls:=.type "list",data:=.seq its.toArray n }) (hf:f its.toArray=its'.toArray) (hv:bq ys its') (hz:ys.length<=sizeLine):
 Inv X pins σ (upd H l (.lst ys)) { s with heap:=s.heap.update l (Obj.mapSeq f),toks:=t' }:=by
 have q:=PySem.IsL.update e f;rw [hf] at q;refine I.write (x:=l) (e:=l) (by rw [hH];exact trivial) (.inl rfl) (fun b' u hb hu=>(Heap.get?_update_other s.heap (Obj.mapSeq f) (aD hb)).trans hu) ⟨_,q⟩ ?_;exact ⟨hz,its',_,hv,q⟩
theorem Inv.xn (I:Inv X pins σ H s) (hv:bq ys its) (hz:ys.length<=sizeLine):
 Inv X pins σ (upd H s.heap.objs.size (.lst ys)) { s with heap:=s.heap.push { cls:=.type "list",data:=.seq its.toArray },toks:=t' }:=
 I.laid (fun _ _ q=>cX _ q) (az _) ⟨hz,its,0,hv,ki _ rfl⟩
theorem Inv.fresh (I:Inv X pins σ H s):H s.heap.objs.size=none:=I.af.fresh (az _)
theorem Inv.ud (I:Inv X pins σ H s) (hH:H l=some (.lst xs)):xs.length<=sizeLine/\∃(its:List Value) (n:Nat),bq xs its/\xs.length=its.length/\s.heap.get? l=some { cls:=.type "list",data:=.seq its.toArray n }:=by
 obtain ⟨z,its,n,r,e⟩:=I.af l _ hH;exact ⟨z,its,n,r,r.length,e⟩
theorem Wk (h:n<=sizeLine):Builtin.List.listTooLong n=false:=by
 unfold Builtin.List.listTooLong;exact fY (by exact Nat.not_lt_of_le h)
end
section
variable {X:Cx}
def U_:V->List V->Hp->VK->Prop:=fun x vs H Q=>∃l xs y,x=.ref l/\vs=[y]/\H l=some (.lst xs)/\xs.length<sizeLine/\Q .aU (upd H l (.lst (xs++[y])))
theorem pV:MtM X "list.append" U_:=by
 intro pins s σ H x vs v us Q I rx rv h;obtain ⟨l,xs,y,rfl,rfl,hH,hz,q⟩:=h;cases rx;obtain ⟨u,rfl,ru⟩:=rv.one;obtain ⟨z,its,n,r,hl,e⟩:=I.ud hH;refine call_meets rg ⟨_,e,rfl⟩ F.entry_list_append (F.args_list_append_2 _ _) (PySem.list_append l its.toArray n u (by rw [ik];lia)) ⟨e,?_⟩;refine ⟨.aU,_,I.JN (its':=its++[u]) hH e (by simp) (r.append (.cons ru .nil)) ?_,rfl,q⟩;rw [ig,List.length_singleton];exact hz
def Y3:R2:=fun x y H Q=>∃l b xs zs,x=.ref l/\y=.ref b/\H l=some (.lst xs)/\H b=some (.lst zs)/\xs.length+zs.length<=sizeLine/\∀p,H p=none->Q (.ref p) (upd H p (.lst (xs++zs)))
theorem uJ:eX X (binaryOp .Add) Y3:=by
 intro pins s σ H x y v u Q I rx ry h;obtain ⟨l,b,xs,zs,rfl,rfl,hH,hB,hz,q⟩:=h;cases rx;cases ry;obtain ⟨z,its,n,r,hl,e⟩:=I.ud hH;obtain ⟨z2,Bj,n2,r2,jW,e2⟩:=I.ud hB;refine PySem.P.add_list e e2 ?_ (by rw [ik,ik];lia);have ea:its.toArray++Bj.toArray=(its++Bj).toArray:=by simp
 rw [ea];exact ⟨.ref _,_,I.xn (t':=s.toks) (r.append r2) (by rw [ig];omega),rfl,q _ I.fresh⟩
def Y4:R2:=fun x y H Q=>∃l k xs,x=.ref l/\y=.int k/\H l=some (.lst xs)/\-(2 ^ 63)<=k/\k<2 ^ 63/\xs.length*k.toNat<=sizeLine/\
 ∀p,H p=none->Q (.ref p) (upd H p (.lst (List.replicate k.toNat xs).flatten))
theorem Vo (xs:List α) (k:Nat):(List.replicate k xs).flatten.length=k*xs.length:=by
 induction k with
 | zero=>simp
 | succ k ih=>rw [List.replicate_succ,List.flatten_cons,ig,ih,Nat.succ_mul,Nat.add_comm]
theorem CV:eX X (binaryOp .Mult) Y4:=by
 intro pins s σ H x y v u Q I rx ry h;obtain ⟨l,k,xs,rfl,rfl,hH,h1,h2,hz,q⟩:=h;cases rx;obtain ⟨t,rfl⟩:=ry;obtain ⟨z,its,n,r,hl,e⟩:=I.ud hH;have hlen:its.toArray.size*k.toNat<=sizeLine:=by rw [ik,<-hl];exact hz
 have Lj:¬its.toArray.size*k.toNat>(2 ^ 63-1) / 8:=by
  have:(sizeLine:Nat)<=(2 ^ 63-1) / 8:=by decide
  lia
 have Lb:¬(!Builtin.List.listFitsIndex k)=true:=by
  rw [fitsIndex_both h1 h2];exact f7
 have B7:¬Builtin.List.listTooLong (its.toArray.size*k.toNat)=true:=by
  rw [Wk hlen];exact f7
 have K6:List.foldl (fun x1 x2=>x1++x2) #[] (List.replicate (if its.toArray.isEmpty=true then 0 else k.toNat) its.toArray)=(List.replicate k.toNat its).flatten.toArray:=by
  have f0:∀m:Nat,List.foldl (fun x1 x2=>x1++x2) #[] (List.replicate m its.toArray)=(List.replicate m its).flatten.toArray:=fun m=>by
   have:=OZ its m [];rw [List.nil_append] at this;exact this
  rw [f0]
  cases its with
  | nil=>simp
  | cons a r'=>rw [if_neg (by simp)]
 refine wpAny_binaryOp_repeat_ref (T:="list") (U:="int") (by decide) ⟨_,e,rfl⟩ (fun s'=>typeIs_int s' k t) noFill_list_mul F.fills_int_mul F.slot_int_rmul repeat_list F.slot_int_index.lookup
  (call_meets F.slot_int_rmul (typeIs_int s k t) F.entry_int_rmul (F.args_int_rmul_2 _ _) (int___rmul___int_list k t l its.toArray n)
   ⟨e,rfl,⟨_,e,rfl⟩,call_meets F.slot_list_mul ⟨_,e,rfl⟩ F.entry_list_mul (F.args_list_mul_2 _ _) (AutoListH.list___mul___list_int_3 l its.toArray n k t Lb Lj B7) ⟨e,?_⟩⟩)
 rw [K6];exact ⟨.ref _,_,I.xn (t':=s.toks) (r.rep k.toNat) (by rw [Vo,Nat.mul_comm];exact hz),rfl,q _ I.fresh⟩
end
section
variable {prog:Program} {w:World} {A:Around} {E:Value->Shared->Prop} {s:Shared}
set_option maxRecDepth 100000 in
end
section
variable {X:Cx}
end
end L2
namespace Ts
open PySem PySem.W PySem.Calls PyProof.Rows
theorem X' {P:Params}:∀(ns:List Int) (vs:List Value),WellAll P h vs (ns.map WData.int)->IntsAre vs ns:=by
 intro ns
 induction ns with
 | nil=>
  intro vs w;rw [List.map_nil] at w;cases w;exact .nil
 | cons n ns ih=>
  intro vs w;rw [eU] at w
  cases w with
  | cons a b=>
   cases a;exact .cons _ _ (ih _ b)
theorem WV {l:OpenLaw} {n:Nat} (hn:l.most=some n) {P:Params} {h:Heap} {args:List WData} {vals:List Value}
 (uo:l.row.toRowW.claim.pre args=true) (EY:WellAll P h vals args):
 ∃a vs ns,vals=[Value.ref a]/\args=[WData.list (ns.map WData.int)]/\h.get? a=some { cls:=.type "list",data:=.seq vs.toArray }/\IntsAre vs ns/\ns.length<=n:=by
 have Kp:WShape.hasAll [] args [.list .int]=true:=(pre_splitW uo).1;have hc:l.pre.holds [] { args:=args }=true:=(pre_splitW uo).2;obtain ⟨d,r,rfl,h1,h2⟩:=hasAllW_cons Kp;obtain rfl:=hasAllW_nil h2;obtain ⟨xs,rfl,h3⟩:=hasW_list h1;obtain ⟨ns,rfl⟩:=items_int h3;have hlen:ns.length<=n:=by
  unfold OpenLaw.pre at hc;have h4:(WTm.not (.lt (.lit (.int (n:Int))) (.len (.arg 0)))).holds [] { args:=[.list (ns.map .int)] }=true:=by
   have h4:=(holds_andW hc).1;rw [hn] at h4;exact h4
  have h5:=condW_of h4 (w_not (w_lt w_lit (w_len_list (w_arg rfl))));rw [aB] at h5;refine mH fun q=>?_;have q':(n:Int)<((ns.length:Nat):Int):=by omega
  first
   | (rw [jt q'] at h5;exact absurd h5 (by decide))
   | (simp at h5;omega)
 cases EY with
 | cons w1 w2=>
  cases w2
  cases w1 with
  | list ho bL=>exact ⟨_,_,ns,rfl,rfl,ho,X' ns _ bL,hlen⟩
theorem WY (l:OpenLaw) (args:List WData):l.row.toRowW.claim.post args (.bool true) args=true:=
 postW_of (r:=l.row.toRowW) (X:=(true==true))
  (show WShape.has [] (.bool true) .bool=true by first | rfl | decide | simp [WShape.has,WShape.arms,WShape.armsAll])
  (show (WTm.eq .res (.lit (.bool true))).value [] { args:=args,res:=some (.bool true),after:=args }=some (.bool (true==true)) from w_eq_bool (w_res rfl) w_lit) rfl
theorem lC {l:OpenLaw} {n:Nat} {q:Program} {loose:List Str} {XP:(Str->Option Value)->Heap->Prop} {YP:World->Heap->Prop} {d:DefRec}
 (hn:l.most=some n) (BL:d.params.defaults=[])
 (call:∀(w:World) (bU au:Shared) (mg mb:Str->Option Value) (fa:Addr) (o:Obj) (pm cd doc:Value) (a:Addr) (vs:List Value) (ns:List Int),
  Ground q loose [] XP w bU mg mb au.heap->YP w au.heap->
  au.heap.get? fa=some o->o.data=.func (docDef d.name d.params d.body d.scope pm cd doc)->au.heap.CodeRec cd d.name->mg d.name=some (.ref fa)->
  au.heap.get? a=some { cls:=.type "list",data:=.seq vs.toArray }->IntsAre vs ns->ns.length<=n->au.gens= #[]->
  codeAny (model l.prog w) callerA (.call (.ref fa) ⟨[.ref a],[]⟩) (fun r s'=>r=.ok (.ret (.bool true))/\OldK au.heap s'.heap/\s'.os=au.os/\AllBare s'.gens) au):
 WalkO q loose XP YP l.row.toRowW d [] (fun f vs=>PySem.call f vs):=by
 intro w bU au mg mb G Y fa o pm cd doc dV kV ho hd oN hD B6 hg args vals as uo hlay hrd EY ur;obtain rfl:dV=.none:=Dflts.none hD BL;obtain rfl:kV=.none:=Dflts.noKw hD;obtain ⟨a,vs,ns,rfl,rfl,xI,hints,hlen⟩:=WV hn uo EY;refine enter_call (codeAny_mono (call w bU au mg mb fa o pm cd doc a vs ns G Y ho (fd_plain hd) oN B6 xI hints hlen hg) fun r s' hq=>?_);obtain ⟨rfl,h2,h3,h4⟩:=hq;exact ⟨.inl ⟨.bool true,.bool true,[],rfl,fun _=>rfl,.bool true,WY l _,fun _=>⟨List.Pairwise.nil,fun _ hm=>(nomatch hm)⟩⟩,h2,h3,h4⟩
section
variable {prog:Program} {w:World} {A:Around} {E:Value->Shared->Prop} {s:Shared} {K:Frag}
end
end Ts
namespace L2
open PySem PySem.Spec PyProof.Rows
theorem P1:∀{vs:List Value} {ns:List Int},IntsAre vs ns->bq (ns.map V.int) vs
 | _,_,.nil=>.nil
 | _,_,.cons n t h=>.cons ⟨t,rfl⟩ (P1 h)
def AJ (H:Hp):Prop:=∀b,H b=none\/∃o xs,H b=some (.gH o (.lst xs))
theorem VG {P:Program} {w:World} {K:aF} {mg mb:Str->Option Value} {CX:mI} {k:Nat} {fa a:Addr} {fd:FuncData} {x:Str} {sp:Sp} {au:Shared} {vs:List Value} {ns:List Int}
 (KX:K.In au.heap) (nG:au.heap.Ns mainGlobals mg) (hb:au.heap.Ns builtinsNs mb) (zC:∀x:Str,x≠"__name__"->mb x=bootBuiltins x) (KI:au.heap.NoLimit) (hg:au.gens= #[])
 (ha:au.heap.get? a=some { cls:=.type "list",data:=.seq vs.toArray }) (hi:IntsAre vs ns) (hl:ns.length<=sizeLine) (hr:cY k callerA)
 (F:∀base:Heap,K.In base->base.Ns mainGlobals mg->ar P w K mg base CX k fa fd [x] sp) (BQ:∀(s:Shared) (u:Value),BindsTo s fd ⟨[u],[]⟩ [(x,u)])
 (pz:∀H:Hp,AJ H->ax K H a (ns.map V.int)->sp [.ref a] H (fun v _=>v=.bl true) fun _ _ _=>False)
 (BS:∀H e s',CX [] H au (fun _ _ _=>False) e s'->False):
 codeAny (model P w) callerA (.call (.ref fa) ⟨[.ref a],[]⟩) (fun r s'=>r=.ok (.ret (.bool true))/\OldK au.heap s'.heap/\s'.os=au.os/\AllBare s'.gens) au:=by
 have rv:=P1 hi;have JO:=hi.length;have core:∀H:Hp,AJ H->ax K H a (ns.map V.int)->eI P w H au.heap->(∀b,H b≠none->b=a)->(H a≠none->K.lookup a=none)->
  codeAny (model P w) callerA (.call (.ref fa) ⟨[.ref a],[]⟩) (fun r s'=>r=.ok (.ret (.bool true))/\OldK au.heap s'.heap/\s'.os=au.os/\AllBare s'.gens) au:=by
  intro H hO hS af hA hK;have nQ:∀{b:Addr} {o:Obj},au.heap.get? b=some o->H b=none->(sI au.heap H).get? b=some o:=fun e n=>VD e n;have Bc:∀{b:Addr} {o:Obj} {es:Array DictEntry} {ep:Nat},au.heap.get? b=some o->o.data=.dict es ep->H b=none:=fun {b o es ep} e d=>by
   cases q:H b with
   | none=>rfl
   | some u=>
    have e':b=a:=hA b (by rw [q];simp);subst e';rw [ha] at e;cases e;have d':Data.seq vs.toArray _=Data.dict es ep:=d;cases d'
  have EN:∀{b:Addr} {m:Str->Option Value},au.heap.Ns b m->(sI au.heap H).Ns b m:=fun {b m} ⟨o,es,ep,e,d,r⟩=>⟨o,es,ep,nQ e (Bc e d),d,r⟩;have zD:K.In (sI au.heap H):=fun b o e=>nQ (KX b o e) (by
   cases q:H b with
   | none=>rfl
   | some u=>
    have e':b=a:=hA b (by rw [q];simp);subst e';rw [hK (by rw [q];simp)] at e;cases e)
  have hM:Mod K mg (sI au.heap H):=⟨zD,EN nG,⟨mb,EN hb,zC⟩,let ⟨mc,h1,h2⟩:=KI;⟨mc,EN h1,h2⟩⟩;have e0:vM P w K mg (sI au.heap H) callerA [] au H:=⟨rfl,hM,fun b o e=>Vs e,Nat.le_of_eq (WS _ _),trivial,fun b hb=>absurd (show b∈([]:List Addr) from hb) (by simp),af,.of_eq hg⟩;refine codeAny_mono ((F _ zD (EN nG)).run callerA [] au H ⟨[.ref a],[]⟩ [.ref a] [.ref a] _ _ hr e0 (BQ au (.ref a)) (.cons rfl .nil) (pz H hO hS)) fun r s' h=>?_
  cases r with
  | error e=>exact (BS H e s' h).elim
  | ok fl=>
   cases fl with
   | next=>exact False.elim h
   | brk=>exact False.elim h
   | cont=>exact False.elim h
   | ret u=>
    obtain ⟨v,H',os,bare,un,jV,r',q⟩:=h;have q':v=.bl true:=q;subst q';obtain rfl:u=Value.bool true:=r';refine ⟨rfl,OldK.of_keep fun b o e=>?_,os,bare⟩
    cases q:H b with
    | none=>exact un.keep b o e q (by intro z;exact absurd (show b∈([]:List Addr) from z) (by simp)) (by simp)
    | some u=>
     rcases hO b with z | ⟨ob,xs,z⟩
     ·rw [q] at z;cases z
     ·have z2:=un.gm b ob _ z;obtain ⟨e1,_⟩:=af b _ z;obtain ⟨e2,_⟩:=jV b _ z2;rw [e] at e1;cases e1;exact e2
 cases hk:K.lookup a with
 | some o=>
  have e:=KX a o hk;rw [ha] at e;cases e;refine core (fun _=>none) (fun _=>.inl rfl) (.inr ⟨_,vs.toArray,_,hk,rfl,rfl,rfl,by rw [ik,JO];exact hl,by simpa using rv⟩) (fun b u z=>by have z':(none:Option HO)=some u:=z;cases z') (fun b z=>absurd rfl z) fun z=>absurd rfl z
 | none=>
  refine core (fun b=>if b=a then some (.gH { cls:=.type "list",data:=.seq vs.toArray } (.lst (ns.map V.int))) else none) (fun b=>?_) (.inl (.inr ⟨{ cls:=.type "list",data:=.seq vs.toArray },if_pos rfl⟩)) (fun b u z=>?_) (fun b z=>?_) fun _=>hk
  ·by_cases hb:b=a
   ·exact .inr ⟨_,_,if_pos hb⟩
   ·exact .inl (if_neg hb)
  ·by_cases hb:b=a
   ·have z':=(if_pos hb).symm.trans z;cases z';subst hb;exact ⟨ha,by rw [aB];exact hl,vs,_,rv,ha⟩
   ·have z':=(if_neg hb).symm.trans z;cases z'
  ·by_cases hb:b=a
   ·exact hb
   ·exact absurd (if_neg hb) z
abbrev aL {K:aF} {h:Heap} (_:K.In h):aF:=K
theorem V0 {l:PySem.W.OpenLaw} {n k:Nat} {q:Program} {loose:List Str} {XP:(Str->Option Value)->Heap->Prop} {YP:World->Heap->Prop} {d:DefRec} {K:Params->aF} {CX:World->mI} {sp:World->Sp} {x:Str}
 (hn:l.most=some n) (rZ:n<=sizeLine) (BL:d.params.defaults=[]) (hr:cY k callerA)
 (hY:∀(w:World) (h:Heap),YP w h->(K w.params).In h)
 (F:∀(w:World) (mg:Str->Option Value) (fa:Addr) (h:Heap),(K w.params).In h->h.Ns mainGlobals mg->mg d.name=some (.ref fa)->
  ∃fd:FuncData,(∀(s:Shared) (u:Value),BindsTo s fd ⟨[u],[]⟩ [(x,u)])/\
   ∀base:Heap,(K w.params).In base->base.Ns mainGlobals mg->ar l.prog w (K w.params) mg base (CX w) k fa fd [x] (sp w))
 (pz:∀(w:World) (H:Hp) (a:Addr) (ns:List Int),ns.length<=n->AJ H->ax (K w.params) H a (ns.map V.int)->sp w [.ref a] H (fun v _=>v=.bl true) fun _ _ _=>False)
 (BS:∀(w:World) (H:Hp) (s:Shared) (e:Value) (s':Shared),CX w [] H s (fun _ _ _=>False) e s'->False):
 PySem.W.WalkO q loose XP YP l.row.toRowW d [] (fun f vs=>PySem.call f vs):=by
 refine Ts.lC hn BL fun w bU au mg mb fa o pm cd doc a vs ns G Y ho hd oN B6 xI hints hlen hg=>?_;have KX:=hY w _ Y;obtain ⟨fd,hb,hF⟩:=F w mg fa _ KX G.T.g B6;exact VG KX G.T.g G.T.b G.T.builtins G.T.nolimit hg xI hints (eE hlen rZ) hr hF hb (fun H hO hS=>pz w H a ns hlen hO hS) fun H e s'=>BS w H au e s'
theorem W7 {l:PySem.W.OpenLaw} {n k:Nat} {q:Program} {loose:List Str} {XP:(Str->Option Value)->Heap->Prop} {YP:World->Heap->Prop} {d:DefRec} {K:Params->aF} {CX:mI} {sp:aF->Sp} {x:Str}
 (hn:l.most=some n) (rZ:n<=sizeLine) (BL:d.params.defaults=[]) (hr:cY k callerA)
 (hY:∀(w:World) (h:Heap),YP w h->(K w.params).In h)
 (F:∀(w:World) (mg:Str->Option Value) (fa:Addr) (h:Heap),(K w.params).In h->h.Ns mainGlobals mg->mg d.name=some (.ref fa)->
  ∃fd:FuncData,(∀(s:Shared) (u:Value),BindsTo s fd ⟨[u],[]⟩ [(x,u)])/\
   ∀base:Heap,(K w.params).In base->base.Ns mainGlobals mg->ar l.prog w (K w.params) mg base CX k fa fd [x] (sp (K w.params)))
 (pz:∀(K:aF) (H:Hp) (a:Addr) (ns:List Int),ns.length<=n->AJ H->ax K H a (ns.map V.int)->sp K [.ref a] H (fun v _=>v=.bl true) fun _ _ _=>False)
 (BS:∀(H:Hp) (s:Shared) (e:Value) (s':Shared),CX [] H s (fun _ _ _=>False) e s'->False):
 PySem.W.WalkO q loose XP YP l.row.toRowW d [] (fun f vs=>PySem.call f vs):=
 V0 (K:=K) (CX:=fun _=>CX) (sp:=fun w=>sp (K w.params)) hn rZ BL hr hY F (fun w H a ns h1 h2 h3=>pz (K w.params) H a ns h1 h2 h3) fun _ H s e s'=>BS H s e s'
def ma (s:Stmt) (j:Nat):Stmt:=match s with
 | .ClassDef _ _ _ body _ _ _ _ _ _ _=>body.getD j (.Pass ⟨0,0,0,0⟩)
 | _=>.Pass ⟨0,0,0,0⟩
def rL (s:Stmt):Arguments:=match s with
 | .FunctionDef _ a _ _ _ _ _ _ _ _=>a
 | _=>{ posonlyargs:=[],args:=[],vararg:=none,kwonlyargs:=[],kw_defaults:=[],kwarg:=none,defaults:=[] }
def oi (s:Stmt):List Stmt:=match s with
 | .FunctionDef _ _ b _ _ _ _ _ _ _=>b
 | _=>[]
def aZ (s:Stmt):Scope:=match s with
 | .FunctionDef _ _ _ _ _ _ sc _ _ _=>sc
 | _=>{ kind:=.function,names:=[],isGenerator:=false,isCoroutine:=false }
abbrev a9:mI:=fun _ _ _ _ _ _=>False
abbrev E0:XK:=fun _ _ _=>False
theorem gv:pO a9 X E0:=fun _ _ _ _ _ _ _ h=>h.elim
structure gZ (K:aF) (x qual:Str) (st:Stmt) (f:Addr) (fd:FuncData):Prop where
 ex:∃(oc:Value) (od:Option Addr) (kV doc pm:Value) (an:Option Addr) (dn ct:Value) (o4:Array (Option Value)),
  fd=PySem.W.fnOf x qual (rL st) (oi st) (aZ st) .none kV doc pm an dn ct/\K.lookup f=some ⟨oc,od,.func fd,o4⟩/\PySem.W.codeIn K dn qual=true
 kp:PySem.W.keepIn K (.ref f)=true
section
theorem gZ.ok {x qual:Str} {st:Stmt} {f:Addr} {fd:FuncData} {N ps:List Str} {k:Nat} {sp:Sp} (F:gZ K x qual st f fd) (S:cG N ps (aZ st)) (len:∀vs H Q E,sp vs H Q E->vs.length=ps.length)
 (iY:∀(dn:Value) (A:Around) (outer:List Env) (s:Shared) (H:Hp) (vs:List V) (Q:VK) (E:XK),cY k (A.deeper (envOfC qual (aZ st) s.heap.objs.size f dn))->sp vs H Q E->
  ∃t,g7 (n_ a9 P w K mg base N qual (aZ st) f dn A outer s H E).zg (oi st) t/\t { nx:=fun _ H'=>Q .aU H',rt:=Q } (jn N vs) H):ar P w K mg base a9 (k+1) f fd ps sp:=by
 obtain ⟨oc,od,kV,doc,pm,an,dn,ct,o4,rfl,lk,oN⟩:=F.ex;refine QQ lk oN S len fun A outer s H vs Q E hr pz=>?_;obtain ⟨t,h,q⟩:=iY dn A outer s H vs Q E hr pz;exact ⟨t,h.zg,q⟩
theorem gZ.ix {x qual:Str} {st:Stmt} {f:Addr} {fd:FuncData} {N ps:List Str} {k:Nat} {sp:Sp} (F:gZ K x qual st f fd) (S:cG N ps (aZ st)) (iY:∀(dn:Value) (A:Around) (outer:List Env) (s:Shared) (H:Hp) (vs:List V) (Q:VK) (E:XK),cY k (A.deeper (envOfC qual (aZ st) s.heap.objs.size f dn))->sp vs H Q E->
  ∃t,g7 (n_ a9 P w K mg base N qual (aZ st) f dn A outer s H E).zg (oi st) t/\t { nx:=fun _ H'=>Q .aU H',rt:=Q } (jn N vs) H) (len:∀vs H Q E,sp vs H Q E->vs.length=ps.length:=by intro _ _ _ _ h;repeat (first|(obtain ⟨rfl,_⟩:=h;rfl)|obtain ⟨_,h⟩:=h)):ar P w K mg base a9 (k+1) f fd ps sp:=F.ok S len iY
theorem gZ.binds {x qual:Str} {st:Stmt} {f:Addr} {fd:FuncData} {ps:List Str} (F:gZ K x qual st f fd)
 (h:∀(kV doc pm:Value) (an:Option Addr) (dn ct:Value) (us:List Value),us.length=ps.length->bindArgs (PySem.W.fnOf x qual (rL st) (oi st) (aZ st) .none kV doc pm an dn ct) ⟨us,[]⟩=pure (ps.zip us)):eY K fd ps []:=by
 obtain ⟨oc,od,kV,doc,pm,an,dn,ct,o4,rfl,lk,oN⟩:=F.ex;exact .all (h kV doc pm an dn ct)
theorem Hb {x qual:Str} {st:Stmt} {f:Addr} {oc:Value} {od an:Option Addr} {o4:Array (Option Value)} {kV doc pm dn ct:Value} (l:K.lookup f=some ⟨oc,od,.func (PySem.W.fnOf x qual (rL st) (oi st) (aZ st) .none kV doc pm an dn ct),o4⟩)
 (c:PySem.W.codeIn K dn qual=true) (k:PySem.W.keepIn K (.ref f)=true):gZ K x qual st f (PySem.W.fnOf x qual (rL st) (oi st) (aZ st) .none kV doc pm an dn ct):=⟨⟨oc,od,kV,doc,pm,an,dn,ct,o4,rfl,l,c⟩,k⟩
end
theorem lY (hr:cY k A):A.units+1<cLine:=Nat.lt_of_le_of_lt (Nat.add_le_add_left (by decide:1<=64) _) hr.units
theorem gK (h:n<=1000):n<sizeLine:=Nat.lt_of_le_of_lt h (by decide)
section
variable {X:Cx}
theorem pv (i:Nat) (hN:X.N[i]?=some x:=by rfl) (hv:FH X.env.scope x:=by first | exact Or.inl rfl | exact Or.inr (Or.inl rfl) | exact Or.inr (Or.inr rfl)) (hd:(x==("__debug__":Str))=false:=by decide)
 (oN:(x==("__classdict__":Str))=false:=by decide):PE X (.Name x pos) (rq i):=Tv hN hv hd oN
end
theorem ip {A B:Prop} (h:B):if false=true then A else B:=by
 rw [if_neg f7];exact h
theorem mL {A B:Prop} (h:A):if true=true then A else B:=by
 rw [if_pos rfl];exact h
theorem hV {c A B:Prop} [Decidable c] (h1:c->A) (h2:¬c->B):if c then A else B:=by
 by_cases h:c
 ·rw [if_pos h];exact h1 h
 ·rw [if_neg h];exact h2 h
theorem uE {c A B:Prop} [Decidable c] (hc:c) (h:B):if (!decide c)=true then A else B:=by
 rw [jt hc];exact ip h
def aI (H H':Hp):Prop:=∀b o,H b=some o->H' b=some o
theorem aI.refl (H:Hp):aI H H:=fun _ _ h=>h
theorem aI.trans (a:aI H H1) (b:aI H1 H2):aI H H2:=fun c o h=>b c o (a c o h)
theorem aI.free (e:aI H H') (h:H' l=Option.none):H l=Option.none:=by
 cases q:H l with
 | none=>rfl
 | some o=>
  rw [e l o q] at h;cases h
section
variable {prog:Program} {w:World} {A:Around} {R:Result->Shared->Prop} {s:Shared}
theorem WH (I:Nat->Shared->Prop)
 (turn:∀n s,I n s->wpAny (model prog w) A (pyNext it) (fun r au=>match r with
  | none=>R (.ok .next) au
  | some v=>wpAny (model prog w) A (letOwnedTupleGo target it v) (fun _ vb=>wpAny (model prog w) A (assign target env v) (fun _ gh=>
   wpAny (model prog w) A (forIn ifs true fun c r=>if r=true then do let ok <-isTrue c env (eval c env);pure (ForInStep.yield ok) else pure (ForInStep.yield r)) (fun ok jr=>
    if ok=true then wpAny (model prog w) A (eval elt env) (fun x tD=>
     wpAny (model prog w) A (call (.builtin "list.append") [acc,x]) (fun _ AR=>∃m,m<n/\I m AR) (fun _ _=>False) tD) (fun _ _=>False) jr
    else ∃m,m<n/\I m jr) (fun _ _=>False) gh) (fun _ _=>False) vb) (fun _ _=>False) au) (fun _ _=>False) s)
 (n:Nat) (h:I n s):codeAny (model prog w) A (.compLoop (.ListComp elt [⟨target,iter,ifs,0⟩] scope pos) 0 it acc env) R s:=by
 refine codeAny_loop rfl I (fun n s hI=>?_) n h;show wpAny _ A ((compTurn (.ListComp elt [⟨target,iter,ifs,0⟩] scope pos) 0 it acc env).onRaise (fun x=>do noteFrame x env;theTreesLotGoes x)) _ _ s;refine wpAny_noted ?_;rw [compTurn_list];refine ag (wpAny_standAt (ag (wpAny_mono (turn n s hI) (fun r au bV=>?_) fun _ _ h'=>h'.elim)))
 cases r with
 | none=>exact aV bV
 | some v=>
  refine ag (wpAny_mono bV (fun _ vb Bk=>?_) fun _ _ h'=>h'.elim);refine ag (wpAny_mono Bk (fun _ gh jR=>ag (wpAny_mono jR (fun ok jr ug=>?_) fun _ _ h'=>h'.elim)) fun _ _ h'=>h'.elim)
  cases ok with
  | false=>exact aV ⟨rfl,ug⟩
  | true=>
   exact ag (ag (wpAny_mono ug (fun x tD Ka=>ag (wpAny_mono Ka (fun _ AR J_=>aV (aV ⟨rfl,J_⟩)) fun _ _ h'=>h'.elim)) fun _ _ h'=>h'.elim))
end
theorem Xb {env:Env} {f:(Str×NameKind)->List (Str×Addr)->Sem (ForInStep (List (Str×Addr)))}
 (h1:∀n k cs,k≠NameKind.free->f (n,k) cs=pure (.yield cs)) (h2:∀n a cs,env.cells.lookup n=some a->f (n,.free) cs=pure (.yield ((n,a)::cs))):
 ∀(names:List (Str×NameKind)) (acc:List (Str×Addr)),(∀x∈names,x.2=.free->∃c,env.cells.lookup x.1=some c)->(∀x c,acc.lookup x=some c->env.cells.lookup x=some c)->
  ∃cl,forIn names acc f=pure cl/\(∀x c,cl.lookup x=some c->env.cells.lookup x=some c/\((∃c',acc.lookup x=some c')\/(x,NameKind.free)∈names))/\
   ∀x,((∃c,acc.lookup x=some c)\/(x,NameKind.free)∈names)->∃c,cl.lookup x=some c:=by
 intro names
 induction names with
 | nil=>exact fun acc _ ha=>⟨acc,rfl,fun x c e=>⟨ha x c e,.inl ⟨c,e⟩⟩,fun x hx=>hx.elim (fun z=>z) fun z=>nomatch z⟩
 | cons y r ih=>
  intro acc hn ha;obtain ⟨n,k⟩:=y;have hr:∀x∈r,x.2=.free->∃c,env.cells.lookup x.1=some c:=fun x hx=>hn x (gz _ hx)
  by_cases hk:k=.free
  ·subst hk;obtain ⟨a,e⟩:=hn (n,.free) eG rfl;have e:env.cells.lookup n=some a:=e;have uv:∀x c,((n,a)::acc).lookup x=some c->env.cells.lookup x=some c:=fun x c q=>by
    rw [gp] at q
    cases hx:x==n with
    | true=>rw [hx] at q;cases q;rw [beq_iff_eq.mp hx];exact e
    | false=>rw [hx] at q;exact ha x c q
   obtain ⟨cl,e1,e2,e3⟩:=ih ((n,a)::acc) hr uv;refine ⟨cl,?_,fun x c q=>?_,fun x hx=>?_⟩
   ·rw [List.forIn_cons,h2 n a acc e,pure_bind];exact e1
   ·obtain ⟨q1,q2⟩:=e2 x c q;refine ⟨q1,?_⟩;rcases q2 with ⟨c',q2⟩ | q2
    ·rw [gp] at q2
     cases hx:x==n with
     | true=>rw [beq_iff_eq.mp hx];exact .inr eG
     | false=>rw [hx] at q2;exact .inl ⟨c',q2⟩
    ·exact .inr (gz _ q2)
   ·refine e3 x ?_;rcases hx with ⟨c,hx⟩ | hx
    ·refine .inl ?_;rw [gp]
     cases x==n with
     | true=>exact ⟨a,rfl⟩
     | false=>exact ⟨c,hx⟩
    ·rcases eV.mp hx with z | z
     ·cases z;exact .inl ⟨a,by rw [gp,pG]⟩
     ·exact .inr z
  ·obtain ⟨cl,e1,e2,e3⟩:=ih acc hr ha;refine ⟨cl,?_,fun x c q=>?_,fun x hx=>?_⟩
   ·rw [List.forIn_cons,h1 n k acc hk,pure_bind];exact e1
   ·obtain ⟨q1,q2⟩:=e2 x c q;exact ⟨q1,q2.elim .inl fun z=>.inr (gz _ z)⟩
   ·refine e3 x ?_;rcases hx with hx | hx
    ·exact .inl hx
    ·rcases eV.mp hx with z | z
     ·cases z;exact absurd rfl hk
     ·exact .inr z
theorem Qd {scope:Scope} {env:Env} (h:∀x∈scope.names,x.2=.free->∃c,env.cells.lookup x.1=some c):
 ∃cl,closureFor scope env=pure cl/\(∀x c,cl.lookup x=some c->env.cells.lookup x=some c/\(x,NameKind.free)∈scope.names)/\∀x,(x,NameKind.free)∈scope.names->∃c,cl.lookup x=some c:=by
 obtain ⟨cl,e1,e2,e3⟩:=Xb (env:=env) (f:=fun x cs=>if (x.2==NameKind.free)=true then do let a <-cellOf env x.1;pure (ForInStep.yield ((x.1,a)::cs)) else pure (ForInStep.yield cs))
  (fun n k cs hk=>by
   have:(k==NameKind.free)=false:=by simpa using hk
   simp only [this,Bool.false_eq_true,if_false])
  (fun n a cs e=>by
   simp only [pG,if_true,cellOf,e,pure_bind])
  scope.names [] h (fun x c q=>nomatch q)
 refine ⟨cl,?_,fun x c q=>?_,fun x hx=>e3 x (.inr hx)⟩
 ·unfold closureFor
  first
   | (rw [show (forIn scope.names ([]:List (Str×Addr)) _:Sem (List (Str×Addr)))=pure cl from e1];rfl)
   | (simp only [e1,pure_bind];done)
   | exact (congrArg (fun z=>z>>=fun cs=>pure cs) e1).trans (pure_bind _ _)
 ·obtain ⟨q1,q2⟩:=e2 x c q;exact ⟨q1,q2.elim (fun ⟨_,z⟩=>nomatch z) fun z=>z⟩
theorem Qw {env:Env}:∀{names:List (Str×NameKind)} {x:Str},names.lookup x=some .free->
 (names.map fun (n,k)=>if (k==NameKind.free && env.scope.kind==.function && env.kindOf n==some .cell) then (n,NameKind.cell) else (n,k)).lookup x=some .cell\/
 (names.map fun (n,k)=>if (k==NameKind.free && env.scope.kind==.function && env.kindOf n==some .cell) then (n,NameKind.cell) else (n,k)).lookup x=some .free
 | [],_,h=>by simp at h
 | (n,k)::r,x,h=>by
  have ih:= @Qw env r x;show List.lookup x ((if (k==NameKind.free && env.scope.kind==.function && env.kindOf n==some .cell)=true then (n,NameKind.cell) else (n,k))::_)=_\/
   List.lookup x ((if (k==NameKind.free && env.scope.kind==.function && env.kindOf n==some .cell)=true then (n,NameKind.cell) else (n,k))::_)=_
  cases hx:x==n with
  | true=>
   simp only [gp,hx] at h;cases h
   by_cases hc:(NameKind.free==NameKind.free && env.scope.kind==.function && env.kindOf n==some .cell)=true
   ·rw [if_pos hc];exact .inl (by simp [gp,hx])
   ·rw [if_neg hc];exact .inr (by simp [gp,hx])
  | false=>
   simp only [gp,hx] at h
   by_cases hc:(k==NameKind.free && env.scope.kind==.function && env.kindOf n==some .cell)=true
   ·rw [if_pos hc];simp only [gp,hx];exact ih h
   ·rw [if_neg hc];simp only [gp,hx];exact ih h
def gS (X:Cx) (scope:Scope) (cl:List (Str×Addr)) (N:List Str) (ex:List Addr) (s:Shared) (H:Hp):Cx where
 prog:=X.prog
 w:=X.w
 K:=X.K
 mg:=X.mg
 base:=X.base
 A:=X.A
 N:=N
 bU:=s
 gr:=H
 env:=compEnvC scope cl s.heap.objs.size X.env
 outer:=X.stack
 stack:=X.stack
 ex:=ex
 fn:=fun x=>scope.names.lookup x==some .local
 calm:=X.calm
 pn:=[]
 xe:=fun _ _=>False
def rJ (js:List (Option Nat)) (σ:St):St:=js.map fun j=>match j with
 | none=>none
 | some j=>(σ[j]?).join
structure iP (sc:Scope) (NX:List Str) (scope:Scope) (N:List Str) (js:List (Option Nat)):Prop where
 kind:scope.kind=.function
 cell:∀x∈scope.names,x.2≠.cell
 loc:∀x∈scope.names,x.2=.local->scope.names.lookup x.1=some .local
 free:∀x∈scope.names,x.2=.free->scope.names.lookup x.1=some .free/\(sc.names.lookup x.1=some .cell\/sc.names.lookup x.1=some .free)
 len:js.length=N.length
 at_:∀p∈js.zip N,p.1=none\/∃j∈List.range NX.length,p.1=some j/\NX[j]?=some p.2/\(p.2,NameKind.free)∈scope.names
theorem lU {sc:Scope} {NX:List Str} {scope:Scope} {N:List Str} {js:List (Option Nat)} (h1:scope.kind=.function:=by rfl) (h2:∀x∈scope.names,x.2≠.cell:=by decide+kernel) (h3:∀x∈scope.names,x.2=.local->scope.names.lookup x.1=some .local:=by decide+kernel) (h4:∀x∈scope.names,x.2=.free->scope.names.lookup x.1=some .free/\(sc.names.lookup x.1=some .cell\/sc.names.lookup x.1=some .free):=by decide+kernel) (h5:js.length=N.length:=by rfl) (h6:∀p∈js.zip N,p.1=none\/∃j∈List.range NX.length,p.1=some j/\NX[j]?=some p.2/\(p.2,NameKind.free)∈scope.names:=by decide+kernel):iP sc NX scope N js:=⟨h1,h2,h3,h4,h5,h6⟩
section
variable {X:Cx} {pins:List (Addr×Obj)} {σ:St} {H:Hp} {s:Shared} {scope:Scope} {N:List Str} {js:List (Option Nat)} {cl:List (Str×Addr)} {ex:List Addr}
theorem VE (I:Inv X pins σ H s) (C:iP X.env.scope X.N scope N js) (c2:∀x c,cl.lookup x=some c->X.env.cells.lookup x=some c/\(x,NameKind.free)∈scope.names)
 (c3:∀x,(x,NameKind.free)∈scope.names->∃c,cl.lookup x=some c) (hex:∀b∈ex,rB X pins H b/\b<s.heap.objs.size)
 (nG:h1.Ns s.heap.objs.size fun _=>none) (hk:∀b o,s.heap.get? b=some o->h1.get? b=some o):Inv (gS X scope cl N ex s H) [] (rJ js σ) H { s with heap:=h1,toks:=tk }:=by
 have fr:∀x,(x,NameKind.free)∈scope.names->(relabel scope X.env).names.lookup x=some .cell\/(relabel scope X.env).names.lookup x=some .free:=fun x hx=>Qw (C.free _ hx rfl).1;refine ⟨⟨I.ok.mod,C.kind,I.ok.glob,I.ok.blt,az _,fun x y c e1 e2=>I.ok.inj x y c (c2 x c e1).1 (c2 y c e2).1,fun x hx=>?_,fun x c hf e=>?_,I.ok.hd,I.ok.frames,.inl rfl,fun b hb=>⟨gY (hex b hb).2,fun x c e=>(hex b hb).1.2.2.2.2.1 x c (c2 x c e).1⟩,I.bs,eE I.ok.oS I.sz,fun b o e hb=>?_,fun b hb hf=>?_,I.stack,I.jK⟩,
  rfl,I.bare,Un.kept hk,⟨fun _=>none,nG,fun i x v e1 e2 e3=>?_⟩,fun x c e=>?_,I.af.fresh (az _),fun x c e=>I.cE x c (c2 x c e).1,fun p hp=>absurd (show p∈([]:List (Addr×Obj)) from hp) (by simp),I.af.kept hk,?_⟩
 ·
  have hx:(relabel scope X.env).names.lookup x=some .cell\/(relabel scope X.env).names.lookup x=some .free:=hx;have hm:(x,NameKind.free)∈scope.names:=by
   have key:∀k,(relabel scope X.env).names.lookup x=some k->k=.cell\/k=.free->(x,NameKind.free)∈scope.names:=fun k hl hk=>by
    have m:=zL hl;obtain ⟨⟨n,k'⟩,hm,e⟩:=eD.mp m;dsimp only at e
    by_cases hc:(k'==NameKind.free && X.env.scope.kind==.function && X.env.kindOf n==some .cell)=true
    ·rw [if_pos hc] at e;cases e;have:k'=.free:=by
      simp only [Bool.and_eq_true,beq_iff_eq] at hc;exact hc.1.1
     subst this;exact hm
    ·rw [if_neg hc] at e;cases e;rcases hk with z | z
     ·exact absurd z (C.cell _ hm)
     ·subst z;exact hm
   rcases hx with z | z
   ·exact key _ z (.inl rfl)
   ·exact key _ z (.inr rfl)
  exact c3 x hm
 ·have hf:(scope.names.lookup x==some .local)=true:=hf;have e':=(C.free _ (c2 x c e).2 rfl).1;rw [e'] at hf;exact absurd hf (by decide)
 ·obtain ⟨⟨_,_,_,hz,_,_⟩,bb⟩:=hex b hb;rcases hz with z | z
  ·exact I.ok.jP b o e z
  ·exact absurd (jb (jb (dt e) I.ok.oS) z) (jC _)
 ·obtain ⟨⟨_,hL,BG,_⟩,_⟩:=hex b hb;rcases eV.mp (I.jJ b hf) with z | z
  ·exact hL z
  ·exact BG z
 ·
  unfold rJ at e2;rw [f9] at e2
  cases ej:js[i]? with
  | none=>rw [ej] at e2;cases e2
  | some oj=>
   rw [ej] at e2
   cases oj with
   | none=>cases e2
   | some j=>
    have nP:(σ[j]?).join=some v:=eF e2;have LL:σ[j]?=some (some v):=by
     cases q:σ[j]? with
     | none=>rw [q] at nP;cases nP
     | some z=>rw [q] at nP;exact congrArg some nP
    have e1:N[i]?=some x:=e1;have hz:(some j,x)∈js.zip N:=oU.mpr ⟨i,by rw [List.getElem?_zip_eq_some];exact ⟨ej,e1⟩⟩;obtain ⟨a1,a2⟩:X.N[j]?=some x/\(x,NameKind.free)∈scope.names:=by
     rcases C.at_ _ hz with q | ⟨j',_,q,a1,a2⟩
     ·cases q
     ·cases q;exact ⟨a1,a2⟩
    have a1:X.N[j]?=some x:=a1;have a2:(x,NameKind.free)∈scope.names:=a2;obtain ⟨b1,b2⟩:=C.free _ a2 rfl;have b2:X.env.scope.names.lookup x=some .cell\/X.env.scope.names.lookup x=some .free:=b2;obtain ⟨m,_,hl⟩:=I.loc;obtain ⟨u,r,l⟩:=hl j x v a1 LL (.inr b2);refine ⟨u,r,?_⟩;rcases l with ⟨k,_⟩ | ⟨_,c,hc,z⟩
    ·have k:X.env.scope.names.lookup x=some .local:=k;rcases b2 with b2 | b2<;>(rw [b2] at k;cases k)
    ·obtain ⟨c',jh⟩:=c3 x a2;have:=(c2 x c' jh).1;rw [hc] at this;cases this;obtain ⟨o,ho,hd⟩:=z;exact .inr ⟨fr x a2,c,jh,⟨o,hk _ _ ho,hd⟩⟩
 ·obtain ⟨v,o,ho,hd⟩:=I.cell x c (c2 x c e).1;exact ⟨v,o,hk _ _ ho,hd⟩
 ·show (rJ js σ).length=N.length;unfold rJ;rw [aB];exact C.len
end
def ym (X:Cx) (ifs:List Expr) (t:TT):Prop:=
 ∀(pins:List (Addr×Obj)) (s:Shared) (σ:St) (H:Hp) (Q:Bool->Hp->Prop),Inv X pins σ H s->t σ H Q->
  wpAny (model X.prog X.w) X.A (forIn ifs true fun c r=>if r=true then do let ok <-isTrue c X.env (eval c X.env);pure (ForInStep.yield ok) else pure (ForInStep.yield r)) (TP X pins σ Q) X.xe s
def YL:TT:=fun _ H Q=>Q true H
theorem pX:ym X [] YL:=fun _ _ _ H _ I h=>wpAny_tests_nil ⟨H,I,h⟩
theorem Ar (h:PT X c t):ym X [c] t:=fun pins s σ H Q I hw=>wpAny_tests_one (h pins s σ H Q I hw)
def yI (js:List (Option Nat)) (g:TG) (tc:TT) (te:TE) (σ:St) (Q:VK) (J:It) (H1:Hp) (D:Addr):Prop:=∃W:Nat->Nat->St->Hp->Prop,(∃m,W 0 m (rJ js σ) (upd H1 D (.lst [])))/\
 ∀i m aa H',W i m aa H'->(J.stop i H'/\Q (.ref D) H')\/(J.go i H'/\∃N:St->Hp->Prop,(∀i9 H2,N i9 H2->∃m',m'<m/\W (i+1) m' i9 H2)/\
  ∀x H2,J.wD i H' x H2->g x aa H2 fun eg H3=>tc eg H3 fun ok H4=>if ok=true then te eg H4 fun y H5=>∃ys,H5 D=some (.lst ys)/\ys.length<sizeLine/\N eg (upd H5 D (.lst (ys++[y]))) else N eg H4)
def CH (js:List (Option Nat)) (wi:TI) (g:TG) (tc:TT) (te:TE):TE:=fun σ H Q=>wi σ H fun J H1=>∀D,H1 D=none->yI js g tc te σ Q J H1 D
def lT (l:List (Str×NameKind)):Scope:={ kind:=.function,names:=l,isGenerator:=false,isCoroutine:=false,more:=[] }
section
variable {X:Cx} {tg iter elt:Expr} {ifs:List Expr} {scope:Scope} {pos:Pos} {N:List Str} {js:List (Option Nat)} {wi:TI} {g:TG} {tc:TT} {te:TE}
theorem NZ {cl:List (Str×Addr)} {pins:List (Addr×Obj)} {σ:St} {H:Hp} {s:Shared} {E:Value->Shared->Prop} {Q:VK} {RR:Value->Addr->Result->Shared->Prop} (hc:mQ X) (C:iP X.env.scope X.N scope N js)
 (c2:∀x c,cl.lookup x=some c->X.env.cells.lookup x=some c/\(x,NameKind.free)∈scope.names) (c3:∀x,(x,NameKind.free)∈scope.names->∃c,cl.lookup x=some c)
 (hb:∀cl ex s H,mQ (gS X scope cl N ex s H)->PG (gS X scope cl N ex s H) tg g/\ym (gS X scope cl N ex s H) ifs tc/\PE (gS X scope cl N ex s H) elt te)
 {it:Addr} {fp:List Addr} {tn:Nat->Heap->Prop} {J:It} (I:Inv X pins σ H s) (T:vS X.prog X.w X.K tg J fp it tn) (st:tn 0 s.heap) (f2:∀b∈fp,rB X pins H b)
 (q:∀D,H D=none->yI js g tc te σ Q J H D)
 (hRR:∀D C' H' s',Q (.ref D) H'->(∃m,s'.heap.Ns C' m)->H' C'=none->X.bU.heap.objs.size<=C'->C'≠X.env.locals->(∀x c,X.env.cells.lookup x=some c->c≠C')->(∀p∈X.pn++pins,p.1≠C')->Inv X pins σ H' s'->RR (.ref D) C' (.ok .next) s'):
 wpAny (model X.prog X.w) X.A (newList []) (fun acc jr=>wpAny (model X.prog X.w) X.A (newFunctionEnv scope X.env.globals cl [] X.env.qual none .none (some X.env)) (fun Cc tD=>
  codeAny (model X.prog X.w) X.A (.compStart (.ListComp elt [⟨tg,iter,ifs,0⟩] scope pos) 0 (.ref it) acc { Cc with scope:=relabel scope X.env }) (RR acc Cc.locals) tD) E jr) E s:=by
 have hD:H s.heap.objs.size=none:=I.fresh;have I3:Inv X pins σ (upd H s.heap.objs.size (.lst [])) { s with heap:=s.heap.push { cls:=.type "list",data:=.seq ([]:List Value).toArray } }:=I.xn (its:=[]) (ys:=[]) (t':=s.toks) .nil (d9 _);refine wpAny_newObj_type (wpAny_newFunctionEnv C.cell (by intro y hy;simp at hy) (fun bV mx mw=>?_) C.kind);dsimp only at mx mw ⊢;generalize lr:({ s with heap:=s.heap.push { cls:=.type "list",data:=.seq ([]:List Value).toArray } }:Shared)=s3 at I3;have KY:s.heap.push { cls:=.type "list",dict:=none,data:=.seq ([]:List Value).toArray }=s3.heap:=by rw [<-lr]
 rw [KY] at mx mw ⊢;have kp:∀b o,s3.heap.get? b=some o->bV.get? b=some o:=fun b o e=>mw.extBut b o (gY (dt e)) (cX _ e);have bb:∀b∈fp,b<s.heap.objs.size:=fun b hb=>by
  obtain ⟨o,e,_⟩:=T.obj 0 s.heap st b hb;exact dt e
 have Rb:s3.heap.objs.size=s.heap.objs.size+1:=by rw [<-KY,Heap.size_push]
 have f3:∀b∈fp,rB X pins (upd H s.heap.objs.size (.lst [])) b:=fun b hb=>by
  obtain ⟨h1,h2⟩:=f2 b hb;exact ⟨by rw [ak (gY (bb b hb))];exact h1,h2⟩
 have IY:∀tk,Inv (gS X scope cl N fp s3 (upd H s.heap.objs.size (.lst []))) [] (rJ js σ) (upd H s.heap.objs.size (.lst [])) { s3 with heap:=bV,toks:=tk }:=fun tk=>
  VE I3 C c2 c3 (fun b hb=>⟨f3 b hb,by rw [Rb];exact Nat.lt_succ_of_lt (bb b hb)⟩) mx kp
 have gw:tn 0 bV:=T.keep 0 s.heap bV st fun b hb o e=>kp b o (by rw [<-KY];exact cX _ e);obtain ⟨W,⟨m0,w0⟩,turn⟩:=q s.heap.objs.size hD;have Lk:mQ (gS X scope cl N fp s3 (upd H s.heap.objs.size (.lst []))):=hc.in_ I3 rfl rfl fun _ _ _ z=>z;have hbY:=hb cl fp s3 (upd H s.heap.objs.size (.lst [])) Lk;obtain ⟨hg,hif,he⟩:=hbY;have mf:∀{H':Hp},(∀b∈fp,H' b=none)->∀b∈fp,rB (gS X scope cl N fp s3 (upd H s.heap.objs.size (.lst []))) [] H' b:=fun hn b hb=>by
  obtain ⟨_,hL,BG,_,m6,_⟩:=f2 b hb;refine ⟨hn b hb,gY (by show b<s3.heap.objs.size;rw [Rb];exact Nat.lt_succ_of_lt (bb b hb)),fun z=>?_,.inl hb,fun x c e=>m6 x c (c2 x c e).1,fun p hp=>absurd (show p∈([]:List (Addr×Obj)) from hp) (by simp)⟩;rcases eV.mp (I.jJ b z) with z | z
  ·exact hL z
  ·exact BG z
 have loop:∀s4:Shared,s4={ s3 with heap:=bV,toks:=s.toks+([]:List (Str×Value)).length }->
  codeAny (model X.prog X.w) X.A (.compLoop (.ListComp elt [⟨tg,iter,ifs,0⟩] scope pos) 0 (.ref it) (.ref s.heap.objs.size) (compEnvC scope cl s3.heap.objs.size X.env)) (RR (.ref s.heap.objs.size) s3.heap.objs.size) s4:=by
  rintro s4 rfl;refine WH (fun n s'=>∃i aa H',Inv (gS X scope cl N fp s3 (upd H s.heap.objs.size (.lst []))) [] aa H' s'/\tn i s'.heap/\(∀b∈fp,H' b=none)/\W i n aa H') ?_ m0
   ⟨0,_,_,IY _,gw,fun b hb=>(f3 b hb).1,w0⟩
  rintro n s5 ⟨i,Cz,H5,I5,kX,F8,w5⟩;rcases turn i n Cz H5 w5 with ⟨stop,qn⟩ | ⟨go,Nx,hN,step⟩
  ·refine av (T.done (gS X scope cl N fp s3 (upd H s.heap.objs.size (.lst []))) rfl rfl rfl Lk i [] s5 Cz H5 _ I5 (mf F8) kX stop) fun r s6 ⟨hr,I6⟩=>?_;subst hr;obtain ⟨m,hn,_⟩:=I6.loc;refine hRR _ _ H5 s6 qn ⟨m,hn⟩ I6.free (eE I3.sz (az _)) (Nat.ne_of_gt I3.lt) (fun x c e z=>?_) (fun p hp z=>?_) (I3.rd I6.os I6.base I6.af I6.bare fun b hb=>?_)
   ·obtain ⟨v,o,ho,_⟩:=I3.cell x c e;exact absurd (dt ho) (by rw [z];exact jC _)
   ·exact absurd (dt (I3.pin p hp).1) (by rw [z];exact jC _)
   ·obtain ⟨_,hL,_,hx,m6,hp⟩:=f2 b hb;exact ⟨hx,hL,m6,hp⟩
  ·refine av (T.item (gS X scope cl N fp s3 (upd H s.heap.objs.size (.lst []))) rfl rfl rfl Lk i [] s5 Cz H5 _ I5 (mf F8) kX go) fun r s6 zz=>L2.SR zz fun u hr h6=>?_;subst hr;refine av h6 fun _ s7 zz=>?_;obtain ⟨x,H7,I7,r7,y7,IU,fr7⟩:=zz;have I7':=I7.pinned (mf fr7) (T.obj _ _ IU);refine av (hg _ s7 Cz H7 x u _ I7' r7 (step x H7 y7)) fun _ s8 zz=>?_;obtain ⟨Cy,H8,I8,q8⟩:=zz;refine av (hif _ s8 Cy H8 _ I8 q8) fun ok s9 zz=>?_;obtain ⟨H9,I9,q9⟩:=zz;have again:∀{s':Shared} {aa:St} {H':Hp},Inv (gS X scope cl N fp s3 (upd H s.heap.objs.size (.lst []))) ([]++Aj fp s7.heap) aa H' s'->Nx aa H'->
    ∃m,m<n/\∃i zS Mb,Inv (gS X scope cl N fp s3 (upd H s.heap.objs.size (.lst []))) [] zS Mb s'/\tn i s'.heap/\(∀b∈fp,Mb b=none)/\W i m zS Mb:=fun {s' aa H'} I' n'=>by
    obtain ⟨m',hm,w'⟩:=hN aa H' n';refine ⟨m',hm,i+1,aa,H',I'.gA,T.keep _ _ _ IU fun b hb o e=>(I'.pin (b,o) (kJ _ (kJ _ (DI hb e)))).1,fun b hb=>?_,w'⟩;obtain ⟨o,e,d⟩:=T.obj _ _ IU b hb;exact (I'.pin (b,o) (kJ _ (kJ _ (DI hb e)))).2.1
   cases ok with
   | false=>exact again I9 q9
   | true=>
    refine av (he _ s9 Cy H9 _ I9 q9) fun yv ow zz=>?_;obtain ⟨y,sC,I10,JD,ys,hDD,KD,n10⟩:=zz;refine av (pV _ ow Cy sC (.ref s.heap.objs.size) [y] (.ref s.heap.objs.size) [yv] (fun _ H'=>Nx Cy H') I10 rfl (.cons JD .nil) ⟨_,ys,y,rfl,rfl,hDD,KD,n10⟩) fun _ wO zz=>?_;obtain ⟨_,Ma,I11,_,n11⟩:=zz;exact again I11 n11
 have e4:({ s with heap:=bV,toks:=s.toks+([]:List (Str×Value)).length }:Shared)={ s3 with heap:=bV,toks:=s.toks+([]:List (Str×Value)).length }:=by rw [<-lr]
 exact codeAny_compStart_list (loop _ e4) (T.self _ 0 _ _ _ gw (loop _ e4))
theorem VJ (hc:mQ X) (hi:PI X tg iter wi) (C:iP X.env.scope X.N scope N js)
 (hb:∀cl ex s H,mQ (gS X scope cl N ex s H)->PG (gS X scope cl N ex s H) tg g/\ym (gS X scope cl N ex s H) ifs tc/\PE (gS X scope cl N ex s H) elt te)
 (hs:∀x,foldedSetIterable iter X.env x=pure x:=by intro _;rfl):PE X (.ListComp elt [⟨tg,iter,ifs,0⟩] scope pos) (CH js wi g tc te):=by
 intro pins s σ H Q I h;obtain ⟨cl,m6,c2,c3⟩:=Qd (scope:=scope) (env:=X.env) fun x hx hf=>I.ok.has x.1 (C.free x hx hf).2;rw [eval_ListComp];refine wpAny_comprehension_free (use:=none) rfl hs m6 C.kind C.loc (av (hi pins s σ H _ I h) fun xv au bV=>av bV fun EU gh jR=>?_);obtain ⟨it,fp,tn,J,H2,rfl,I2,T,aT,f2,q⟩:=jR;refine NZ (RR:=fun acc C'=>compPost (model X.prog X.w) X.A X.xe none (EP X pins σ Q) acc C') hc C c2 c3 hb I2 T aT f2 q ?_;intro D C' H' s' hq nG oM hsz hL uu xH I';obtain ⟨m,hn⟩:=nG;refine ⟨m,hn,fun h' sb=>⟨.ref D,H',?_,rfl,hq⟩⟩;exact I'.turned (t':=s'.toks) (fun b o hb e=>(sb.2 b hb).trans e) oM (aD (aD hL)) (.inr hsz) uu xH
theorem pe (hc:X.calm=true) (hi:PI X tg iter wi) (C:iP X.env.scope X.N scope N js)
 (hb:∀cl ex s H,PG (gS X scope cl N ex s H) tg g/\ym (gS X scope cl N ex s H) ifs tc/\PE (gS X scope cl N ex s H) elt te)
 (hs:∀x,foldedSetIterable iter X.env x=pure x:=by intro _;rfl):PE X (.ListComp elt [⟨tg,iter,ifs,0⟩] scope pos) (CH js wi g tc te):=VJ (.inl hc) hi C (fun cl ex s H _=>hb cl ex s H) hs
theorem VQ (hN:X.N.Nodup) (kG:X.N[i]?=some y) (hy:X.env.scope.names.lookup y=some .local) (hc:mQ X) (hi:PI X tg iter wi) (C:iP X.env.scope X.N scope N js)
 (hb:∀cl ex s H,mQ (gS X scope cl N ex s H)->PG (gS X scope cl N ex s H) tg g/\ym (gS X scope cl N ex s H) ifs tc/\PE (gS X scope cl N ex s H) elt te)
 (Km:swapsWith (.ListComp elt [⟨tg,iter,ifs,0⟩] scope pos) (some (.Name y py)) wK.line X.env=pure true:=by rfl)
 (hs:∀x,foldedSetIterable iter X.env x=pure x:=by intro _;rfl):PS X (.Assign [.Name y py] (.ListComp elt [⟨tg,iter,ifs,0⟩] scope pos) wK) (zV (CH js wi g tc te) (uD i)):=by
 intro pins s σ H D I h;obtain ⟨cl,m6,c2,c3⟩:=Qd (scope:=scope) (env:=X.env) fun x hx hf=>I.ok.has x.1 (C.free x hx hf).2;rw [exec_Assign_Name_used _ _ _ _ Km];refine ag (wpAny_standAt (ag ?_));show wpAny _ X.A (do let _ <-comprehension (.ListComp elt [⟨tg,iter,ifs,0⟩] scope pos) scope X.env _ (newList []) false (eval iter X.env) (some (assign (.Name y py) X.env))) _ _ s;refine ag (wpAny_mono (wpAny_comprehension_free (use:=some (assign (.Name y py) X.env)) (Q:=fun _ s'=>SP X pins D .next s') rfl hs m6 C.kind C.loc (av (hi pins s σ H _ I h) fun xv au bV=>av bV fun EU gh jR=>?_))
  (fun _ s' hq=>aV (aV hq)) fun _ _ e=>e)
 obtain ⟨it,fp,tn,J,H2,rfl,I2,T,aT,f2,q⟩:=jR;refine NZ (Q:=fun x H1=>uD i x σ H1 D.nx) (RR:=fun acc C'=>compPost (model X.prog X.w) X.A X.xe (some (assign (.Name y py) X.env)) (fun _ s'=>SP X pins D .next s') acc C') hc C c2 c3 hb I2 T aT f2 q ?_;intro Da C' H' s' hq nG oM hsz hL uu xH I';obtain ⟨m,hn⟩:=nG;show wpAny _ X.A (assign (.Name y py) X.env (.ref Da)) _ _ _;refine wpAny_assign_Name (Pq I' hN kG (.inl hy) (v:=.ref Da) rfl (fun s2 I2 hx=>?_) (.inr hy));obtain ⟨a,sba,ha⟩:=hx;have cW:C'≠a:=by
  rcases ha with z | z
  ·rw [z];exact hL
  ·exact fun e=>uu y a z e.symm
 refine ⟨m,hn.sameBut sba cW,fun h' sb=>⟨_,H',?_,hq⟩⟩;exact I2.turned (t':=s2.toks) (fun b o hb e=>(sb.2 b hb).trans e) oM hL (.inr hsz) uu xH
theorem De (hN:X.N.Nodup) (kG:X.N[i]?=some y) (hy:X.env.scope.names.lookup y=some .local) (hc:X.calm=true) (hi:PI X tg iter wi) (C:iP X.env.scope X.N scope N js)
 (hb:∀cl ex s H,PG (gS X scope cl N ex s H) tg g/\ym (gS X scope cl N ex s H) ifs tc/\PE (gS X scope cl N ex s H) elt te)
 (Km:swapsWith (.ListComp elt [⟨tg,iter,ifs,0⟩] scope pos) (some (.Name y py)) wK.line X.env=pure true:=by rfl)
 (hs:∀x,foldedSetIterable iter X.env x=pure x:=by intro _;rfl):PS X (.Assign [.Name y py] (.ListComp elt [⟨tg,iter,ifs,0⟩] scope pos) wK) (zV (CH js wi g tc te) (uD i)):=VQ hN kG hy (.inl hc) hi C (fun cl ex s H _=>hb cl ex s H) Km hs
end
section
variable {g:TG} {tc:TT} {te:TE} {js:List (Option Nat)} {σ:St} {H:Hp} {Q:VK} {D:Addr}
theorem AG {lo:Int} {n:Nat} (Pv:Nat->St->Hp->Prop) (h0:Pv 0 (rJ js σ) (upd H D (.lst [])))
 (hs:∀i aa H',i<n->Pv i aa H'->g (.int (lo+i)) aa H' fun eg H3=>tc eg H3 fun ok H4=>if ok=true then te eg H4 fun y H5=>∃ys,H5 D=some (.lst ys)/\ys.length<sizeLine/\Pv (i+1) eg (upd H5 D (.lst (ys++[y]))) else Pv (i+1) eg H4)
 (hd:∀aa H',Pv n aa H'->Q (.ref D) H'):
 yI js g tc te σ Q (vK lo n) H D:=by
 refine ⟨fun i m σ H=>m=n-i/\i<=n/\Pv i σ H,⟨n,by simp,d9 _,h0⟩,?_⟩;rintro i m aa H' ⟨rfl,hi,p⟩
 by_cases bb:i<n
 ·refine .inr ⟨bb,Pv (i+1),fun i9 H2 p'=>⟨n-(i+1),by omega,rfl,bb,p'⟩,fun x H2 y=>?_⟩;obtain ⟨e,y⟩:=y;subst e y;exact hs i aa _ bb p
 ·have e:i=n:=by lia
  subst e;exact .inl ⟨az _,hd aa H' p⟩
theorem uT {K:aF} {a:Addr} {xs:List V} (Pv:Nat->St->Hp->Prop) (h0:Pv 0 (rJ js σ) (upd H D (.lst []))) (hl:∀i aa H',i<=xs.length->Pv i aa H'->ax K H' a xs)
 (hs:∀i x aa H',xs[i]?=some x->Pv i aa H'->g x aa H' fun eg H3=>tc eg H3 fun ok H4=>if ok=true then te eg H4 fun y H5=>∃ys,H5 D=some (.lst ys)/\ys.length<sizeLine/\Pv (i+1) eg (upd H5 D (.lst (ys++[y]))) else Pv (i+1) eg H4)
 (hd:∀aa H',Pv xs.length aa H'->Q (.ref D) H'):
 yI js g tc te σ Q (zO K a) H D:=by
 refine ⟨fun i m σ H=>m=xs.length-i/\i<=xs.length/\Pv i σ H,⟨xs.length,by simp,d9 _,h0⟩,?_⟩;rintro i m aa H' ⟨rfl,hi,p⟩;have q:=hl i aa H' hi p
 by_cases bb:i<xs.length
 ·refine .inr ⟨⟨xs,xs[i],q,by simp [bb]⟩,Pv (i+1),fun i9 H2 p'=>⟨xs.length-(i+1),by omega,rfl,bb,p'⟩,fun x H2 y=>?_⟩;obtain ⟨e,y⟩:=y;subst e;exact hs i x aa _ (y xs q) p
 ·have e:i=xs.length:=by lia
  subst e;exact .inl ⟨⟨xs,q,az _⟩,hd aa H' p⟩
end
end L2
set_option maxHeartbeats 4000000
namespace L2
open PySem PySem.Spec PyProof.Rows
abbrev sg:List Value:=[.type "ValueError",.type "Exception",.type "BaseException",.type "object"]
def jv (a C:Addr) (dx:Option Addr):HO:=.ext fun h=>∃t:Addr,h.get? a=some (fH C dx (.ref t) .none)
def u7 (d:Addr) (fs:List (Str×V)):HO:=.ext fun h=>∃mA,h.Ns1 d mA/\(∀f,jD (fs.lookup f) (mA f))/\PySem.Within mA (fs.map (·.1))
section
variable {P:Program} {w:World} {H:Hp} {h:Heap} {a d C:Addr} {dx:Option Addr} {t:Addr} {fs:List (Str×V)}
theorem HA (e:h.get? a=some (fH C dx (.ref t) .none)):eh P w H h a (jv a C dx):=⟨⟨t,e⟩,⟨_,e⟩,fun _ _ ⟨t',e'⟩ k=>⟨t',k _ e'⟩⟩
theorem Hz (ok:eI P w H h) (e:H a=some (jv a C dx)):∃t:Addr,h.get? a=some (fH C dx (.ref t) .none):=(ok a _ e).1
theorem UG (n:h.Ns1 d mA) (r:∀f,jD (fs.lookup f) (mA f)) (wi:PySem.Within mA (fs.map (·.1))):eh P w H h d (u7 d fs):=by
 refine ⟨⟨mA,n,r,wi⟩,?_,fun h1 h2 ⟨m,n1,r1,w1⟩ k=>⟨m,n1.at k,r1,w1⟩⟩;obtain ⟨o,_,_,e,_⟩:=n;exact ⟨o,e⟩
theorem UM (e:H a=some o):upd H a o=H:=by
 funext b
 by_cases hb:b=a
 ·rw [hb,ai,e]
 ·rw [ak hb]
end
theorem Inv.kT (I:Inv X pins σ H s) (kp:∀b u,b≠a->s.heap.get? b=some u->h'.get? b=some u) (hf:H a=none)
 (hs:X.bU.heap.objs.size<=a) (hL:a≠X.env.locals) (hc:∀x c,X.env.cells.lookup x=some c->c≠a) (hp:∀p∈X.pn++pins,p.1≠a) (new:eh X.prog X.w (upd H a o) h' a o):Inv X pins σ (upd H a o) { s with heap:=h',toks:=t' }:=by
 have na:∀b u,H b=some u->b≠a:=fun b u e=>aR e hf;refine I.step (g':=s.gens) (d':=s.drawn) (ch:=[a]) (fun b hb=>?_) (fun b u _ _ hb e _=>kp b u (fun z=>hb (by simp [z])) e) (fun b u _ _ hb e _=>⟨u.slots,kp b u (fun z=>hb (by simp [z])) e⟩) (fun b u hb _ n=>by rw [ak fun z=>hb (by simp [z])];exact n)
  (fun b u hb e=>⟨u,kp b u (fun z=>hb (by simp [z])) e⟩) (fun b xs e=>by rw [ak (na b _ e)];exact e) (fun b u xs e=>by rw [ak (na b _ e)];exact e) (fun b ps e=>⟨#[],by rw [ak (na b _ e),e];simp⟩) (fun m hm=>?_) (fun b u e=>?_) I.bare
 ·have e:b=a:=by simpa using hb
  subst e;exact ⟨.inr hs,hL,hc,hp⟩
 ·obtain ⟨ob,es,ep,ho,r⟩:=hm;exact ⟨ob,es,ep,kp _ ob (aD hL) ho,r⟩
 ·by_cases hb:b=a
  ·subst hb;rw [ai] at e;cases e;exact new
  ·rw [ak hb] at e;refine (I.af b u e).fv (fun c v jh q=>kp c v ?_ q) (fun c q=>by rw [ak (na c _ q)];exact q) fun c xs q=>by rw [ak (na c _ q)];exact q
   rcases jh with z | z
   ·rw [z];exact hb
   ·exact na c _ z
structure rA (K:aF) (C M fI:Addr):Prop where
 obj:∃(nm q:Str) (N:Addr) (bs:List Value) (sn:List Str) (sub:List Value) (ab:Bool) (col:Option Bool) (dd:Option Addr) (k0 k1 k2 k3 k5:Option Value),
  K.lookup C=some (excClassObj nm q C N bs (.ref M::sg) true sn sub ab col dd k0 k1 k2 k3 k5 "ValueError.__new__")/\PySem.W.nsOkIn K N=true/\PySem.W.nsIn K N "__init__"=some (some (.ref fI))
 tail:PySem.W.tailIn K sg (.ref M::sg)=true
 fn:PySem.W.isFn K (.ref fI)=true
 kp:PySem.W.keepIn K (.ref C)=true
 sa:PySem.W.findIn K (.ref C) "__setattr__"=some (some (.builtin "object.__setattr__"))
theorem Xu {K:aF} {h:Heap} {N:Addr} {m:Str->Option Value} {n:Str} {v:Value} (X:K.In h) (G:h.Ns N m) (e:PySem.W.nsIn K N n=some (some v)):m n=some v:=by
 obtain ⟨o,es,ep,ho,hd,_,hf⟩:=G;unfold PySem.W.nsIn at e;split at e
 ·rename_i c d B_ n' sl q
  have z:=X _ _ q;rw [ho] at z;cases z;cases hd;split at e
  ·rename_i en he
   cases e;rw [<-hf];unfold nsFind findBy;rw [<-Array.find?_toList,he];rfl
  ·split at e<;>cases e
 ·cases e
section
variable {prog:Program} {w:World} {A:Around} {E:Value->Shared->Prop} {h:Heap} {g:Array GenState} {d:Drawn} {t:Nat} {os:OsState}
variable {nm q:Str} {C N:Addr} {bs bm:List Value} {qP:Bool} {sn:List Str} {sub:List Value} {ab:Bool} {col:Option Bool} {dd:Option Addr} {k0 k1 k2 k3 k5:Option Value}
theorem XW (T:OwnTail h sg bm)
 (hC:h.get? C=some (excClassObj nm q C N bs bm qP sn sub ab col dd k0 k1 k2 k3 k5 "ValueError.__new__")) (hn:h.Ns N mN) (hi:mN "__init__"=some (.ref fI)) (BJ:h.get? fI=some oI) (BH:oI.cls=.type "function")
 (hq:wpAny (model prog w) A (call (.ref fI) (.ref (h.objs.size+1)::args)) (fun r s'=>r=.none/\Q (.done (.ret (.ref (h.objs.size+1)))) s') E
  ⟨(h.push { cls:=.type "tuple",data:=.seq args.toArray }).push (fH C none (.ref h.objs.size) .none),g,d,t,os⟩) (hz:args.length<=sizeLine):
 wpAny (model prog w) A (Builtin.«type.__call__» ⟨.ref C::args,[]⟩) Q E ⟨h,g,d,t,os⟩:=by
 have F:=PySem.F.excBase_ValueError
 repeat (first | with_reducible refine wpAny_loadPart_at hC ?_ | with_reducible refine wpAny_madeBy_exc hC ?_ | wp_step)
 refine codeAny_call_builtin_code (Code.quiet_builtin _ F.quiet) (wpAny_check_new_subT F T hC ?_);refine codeAny_exc_new_subT F T hC ?_ hz;show wpAny _ _ _ _ _ _;have kp:∀b o,h.get? b=some o->((h.push { cls:=.type "tuple",data:=.seq args.toArray }).push (fH C none (.ref h.objs.size) .none)).get? b=some o:=
  fun b o e=>cX _ (cX _ e)
 have S8:=kp _ _ hC;have Ld:=kp _ _ BJ;have xK:((h.push { cls:=.type "tuple",data:=.seq args.toArray }).push (fH C none (.ref h.objs.size) .none)).Ns N mN:=hn.keeps kp;have eR:((h.push { cls:=.type "tuple",data:=.seq args.toArray }).push (fH C none (.ref h.objs.size) .none)).get? (h.objs.size+1)=some (fH C none (.ref h.objs.size) .none):=by heap_get
 have hcC:(Value.ref C::bm).contains (.ref C)=true:=by simp
 have T1:=T.keeps kp;unfold isInstance
 repeat (first | with_reducible refine wpAny_loadPart_at eR ?_ | (with_reducible refine wpAny_isSubtype_exc S8 ?_;rw [hcC]) | wp_step)
 show wpAny _ _ (typeLookup (.ref C) _) _ _ _;refine wpAny_typeLookup_tail S8 xK T1 F.mroIs F.init.lookup ?_;rw [hi];refine wpAny_holding (ag ?_);unfold bindSpecial;refine ag (wpAny_typeOf (T:="function") ⟨_,Ld,BH⟩ ?_);rw [if_pos (by decide)];refine aV (ag (wpAny_mono hq (fun r s' hr=>?_) fun _ _ x=>x));obtain ⟨rfl,hQ⟩:=hr
 wp_walk
 exact hQ
theorem V7 (T:OwnTail h sg bm)
 (hC:h.get? C=some (excClassObj nm q C N bs bm qP sn sub ab col dd k0 k1 k2 k3 k5 "ValueError.__new__")) (hn:h.Ns N mN) (hi:mN "__init__"=some (.ref fI)) (BJ:h.get? fI=some oI) (BH:oI.cls=.type "function")
 (hq:wpAny (model prog w) (A.under (.builtin "type.__call__" ⟨.ref C::args,[]⟩)) (call (.ref fI) (.ref (h.objs.size+1)::args)) (fun r s'=>r=.none/\Q (.ref (h.objs.size+1)) s') E
  ⟨(h.push { cls:=.type "tuple",data:=.seq args.toArray }).push (fH C none (.ref h.objs.size) .none),g,d,t,os⟩) (hz:args.length<=sizeLine):
 wpAny (model prog w) A (call (.ref C) args) Q E ⟨h,g,d,t,os⟩:=by
 have f1:=tc_lookup;have f2:=tc_bind (.ref C);have hT:(⟨h,g,d,t,os⟩:Shared).TypeIs (.ref C) "type":=⟨_,hC,rfl⟩;refine wpAny_call (codeAny_of_tree ?_);show wpAny _ _ (callAny (.ref C) _) _ _ _
 repeat (any_goals (first | assumption | with_reducible refine wpAny_loadPart_at hC ?_ | wp_step))
 refine ⟨rfl,?_⟩;refine codeAny_call_builtin_at (Code.quiet_builtin _ (by decide+kernel)) entry_typeCall (wpAny_check_type_call_sub hC (XW T hC hn hi BJ BH ?_ hz));exact hq
end
def TF (C:Addr) (sp:Sp) (E:XK) (t:TA):TE:=fun σ H Q=>t σ H fun vs H1=>vs.length<=sizeLine/\∀x,H1 x=none->sp (.ref x::vs) (upd H1 x (jv x C none)) (fun v H2=>v=.aU/\Q (.ref x) H2) E
section
variable {X:Cx} {CX:mI} {k:Nat} {f C Mo:Addr} {fd:FuncData} {ps:List Str} {sp:Sp} {E:XK} {x:Str} {p pos:Pos} {e:Expr} {es:List Expr} {t:TA}
theorem WU {pins:List (Addr×Obj)} {σ:St} {H:Hp} {s:Shared} {Q:VK} {us:List Value} {vs:List V} (M:rA X.K C Mo f) (F:ar X.prog X.w X.K X.mg X.base CX k f fd ps sp) (hr:cY (k+1) X.A) (hb:eY X.K fd ps [])
 (hx:pO CX X E) (I:Inv X pins σ H s) (r:bq vs us) (hz:vs.length<=sizeLine)
 (hq:∀x,H x=none->sp (.ref x::vs) (upd H x (jv x C none)) (fun v H2=>v=.aU/\Q (.ref x) H2) E):wpAny (model X.prog X.w) X.A (call (.ref C) us) (EP X pins σ Q) X.xe s:=by
 obtain ⟨nm,q,N,bs,sn,sub,ab,col,dd,k0,k1,k2,k3,k5,lk,JJ,JX⟩:=M.obj;have hK:=I.gM;have hC:=hK _ _ lk;have T:=PySem.W.tail_of_in hK M.tail;have nG:s.heap.Ns N (s.heap.nsMap N):=.of_isNs (PySem.W.isNs_of_in hK JJ);have gx:=Xu hK nG JX;have hlf:∃oI,s.heap.get? f=some oI/\oI.cls=.type "function":=by
  have ty:PySem.W.typeIn X.K (.ref f)=some (.type "function"):=beq_iff_eq.mp M.fn;unfold PySem.W.typeIn at ty
  cases hl:X.K.lookup f with
  | none=>simp [hl] at ty
  | some o=>exact ⟨o,hK _ _ hl,by simpa [hl] using ty⟩
 obtain ⟨oI,BJ,BH⟩:=hlf;have h1:=hq (s.heap.objs.size+1) (I.af.fresh (nS _));have kp:∀b o,s.heap.get? b=some o->((s.heap.push { cls:=.type "tuple",data:=.seq us.toArray }).push (fH C none (.ref s.heap.objs.size) .none)).get? b=some o:=
  fun b o e=>cX _ (cX _ e)
 have eR:((s.heap.push { cls:=.type "tuple",data:=.seq us.toArray }).push (fH C none (.ref s.heap.objs.size) .none)).get? (s.heap.objs.size+1)=some (fH C none (.ref s.heap.objs.size) .none):=by
  have z:=ki (s.heap.push { cls:=.type "tuple",data:=.seq us.toArray }) (o:=fH C none (.ref s.heap.objs.size) .none) rfl
  rwa [Heap.size_push] at z
 have I2:Inv X pins σ (upd H (s.heap.objs.size+1) (jv (s.heap.objs.size+1) C none)) { s with heap:=(s.heap.push { cls:=.type "tuple",data:=.seq us.toArray }).push (fH C none (.ref s.heap.objs.size) .none) }:=
  I.laid (t':=s.toks) kp (nS _) (HA eR)
 have r2:bq (V.ref (s.heap.objs.size+1)::vs) (Value.ref (s.heap.objs.size+1)::us):=.cons rfl r;have hl:(Value.ref (s.heap.objs.size+1)::us).length=ps.length:=by rw [<-r2.length];exact F.len _ _ _ _ h1
 have nK:=hb { s with heap:=(s.heap.push { cls:=.type "tuple",data:=.seq us.toArray }).push (fH C none (.ref s.heap.objs.size) .none) } (Value.ref (s.heap.objs.size+1)::us) I2.gM (by simpa using hl);rw [List.append_nil] at nK;obtain ⟨hh,gg,qZ,tt,oo⟩:=s;refine V7 T hC nG gx BJ BH ?_ (by rw [<-r.length];exact hz);refine wpAny_call (codeAny_mono (F.run _ X.stack _ _ ⟨Value.ref (hh.objs.size+1)::us,[]⟩ (Value.ref (hh.objs.size+1)::us) _ _ E (hr.make C us []) (I2.ye.make C us []) nK r2 h1) fun r s' iW=>?_)
 cases r with
 | error e=>exact hx pins σ _ _ e s' I2 iW
 | ok fl=>
  cases fl with
  | ret u=>
   obtain ⟨v,H',I3,rv,ev,q3⟩:=I2.after iW;subst ev;exact ⟨rv,⟨V.ref (hh.objs.size+1),H',I3,rfl,q3⟩⟩
  | next=>exact False.elim iW
  | brk=>exact False.elim iW
  | cont=>exact False.elim iW
theorem VM (M:rA X.K C Mo f) (F:ar X.prog X.w X.K X.mg X.base CX k f fd ps sp) (hr:cY (k+1) X.A) (hg:Gl X x) (hm:X.mg x=some (.ref C)) (hb:eY X.K fd ps []) (hx:pO CX X E)
 (ha:PA X (e::es) t) (m5:(x==("__debug__":Str))=false:=by decide) (he:starEach (e::es) X.env=(false,eval e X.env)::starEach es X.env:=by rfl) (fh:(backTo pos (starEach es X.env)).any (·.1)=false:=by rfl):
 PE X (.Call (.Name x p) (e::es) [] pos) (TF C sp E t):=by
 intro pins s σ H Q I h;refine wpAny_Call_Name_kw (yJ I hg hm ?_ m5);refine PySem.W.callWith_K (h₀:=X.base) I.ok.mod.zh M.kp (av (ha pos pins s σ H _ I h) fun us s1 zz=>?_) he fh;obtain ⟨vs,H1,I1,r,z,q⟩:=zz;refine ⟨I1.gM,?_⟩;exact WU M F hr hb hx I1 r z q
end
theorem Wr (I:Inv X pins σ H s) (M:rA X.K C Mo f)
 (hH:H x=some (jv x C dx)) (hz:us.length<=sizeLine) (hq:∀s',Inv X pins σ H s'->Q .none s'):wpAny (model X.prog X.w) A (call (.builtin "ValueError.__init__") (.ref x::us)) Q E s:=by
 obtain ⟨nm,q,N,bs,sn,sub,ab,col,dd,k0,k1,k2,k3,k5,lk,JJ,JX⟩:=M.obj;have hK:=I.gM;have hC:=hK _ _ lk;have T:=PySem.W.tail_of_in hK M.tail;have F:=PySem.F.excBase_ValueError;obtain ⟨t,eR⟩:=Hz I.af hH;have fin:∀(v:Addr) (tk:Nat),Inv X pins σ H { s with heap:=(s.heap.push { cls:=.type "tuple",data:=.seq us.toArray }).update x (Obj.mapFields (·.setIfInBounds 0 (.ref v))),toks:=tk }:=fun v tk=>by
  have e1:(s.heap.push { cls:=.type "tuple",data:=.seq us.toArray }).get? x=some (fH C dx (.ref t) .none):=cX _ eR;have e2:((s.heap.push { cls:=.type "tuple",data:=.seq us.toArray }).update x (Obj.mapFields (·.setIfInBounds 0 (.ref v)))).get? x=some (fH C dx (.ref v) .none):=Heap.get?_update_self _ e1 rfl;have z:=I.write (x:=x) (e:=x) (o:=jv x C dx) (h':=(s.heap.push { cls:=.type "tuple",data:=.seq us.toArray }).update x (Obj.mapFields (·.setIfInBounds 0 (.ref v)))) (t':=tk) (by rw [hH];exact True.intro) (.inl rfl)
   (fun b u hb e=>(Heap.get?_update_other _ _ (aD hb)).trans (cX _ e)) ⟨_,e2⟩ (HA e2)
  rwa [UM hH] at z
 obtain ⟨hh,gg,qZ,tt,oo⟩:=s;refine wpAny_call (codeAny_call_builtin F.init.plain F.initEntry (wpAny_check_init_subT F T hC eR rfl ?_))
 wp_walk
 exact hq _ (fin _ _)
open PySem PySem.Spec PyProof.Rows Builtin Builtin.ObjectAttr
structure QL (K:aF) (Mo:Addr):Prop where
 ty:PySem.W.typeIn K (.ref Mo)=some (.type "type")
 ga:PySem.W.specialIn K (.ref Mo) "__getattribute__"=some (some (.builtin "type.__getattribute__"))
 gt:PySem.W.findIn K (.type "type") "__getattribute__"=some (some (.builtin "type.__getattribute__"))
 op:PySem.W.nsIn K cStatics "thirdparty.any"=some none
 fc:PySem.W.findCls K (.ref Mo) (.type "type") "__init__"=some (.val (.builtin "ValueError.__init__"))
 si:PySem.W.subIn K (.type "type") (.type "type")=some true
def ZH (K:aF) (t:TA):TE:=fun σ H Q=>t σ H fun vs H1=>∃x rest C Mo f dx,vs=.ref x::rest/\H1 x=some (jv x C dx)/\rA K C Mo f/\rest.length<=sizeLine/\Q .aU H1
theorem US (B:QL X.K Mo) (hg:Gl X x) (hm:X.mg x=some (.ref Mo)) (ha:PA X (e::es) t) (m5:(x==("__debug__":Str))=false:=by decide)
 (qI:starEach (e::es) X.env=(false,eval e X.env)::starEach es X.env:=by rfl) (fh:(backTo pos (starEach es X.env)).any (·.1)=false:=by rfl)
 (ht:eval (.Call (.Attribute (.Name x p) "__init__" apos) (e::es) [] pos) X.env=(do
  let ov <-eval (.Name x p) X.env
  standAt apos.atName
  let (f,first) <-holding [ov] (getMethod ov "__init__" pl)
  callWith pos f first (backTo pos (starEach (e::es) X.env)) (backToKw pos (keywordEach [] X.env))):=by rfl):
 PE X (.Call (.Attribute (.Name x p) "__init__" apos) (e::es) [] pos) (ZH X.K t):=by
 intro pins s σ H Q I h;refine PySem.W.methodCall_KW (pl:=pl) (yJ I hg hm ?_ m5) ht;unfold getMethod;refine ag ((PySem.W.looks_specialIn I.gM B.ga).here ?_);dsimp only;rw [if_pos (by decide+kernel)];refine ag (PySem.W.cls_open I.gM (PySem.W.looks_opaque I.gM B.op) (PySem.W.looks_typeIn I.gM B.ty) B.gt (PySem.W.looks_hook I.gM rfl) B.si B.fc ?_);refine aV ?_;show wpAny _ _ (handedOut (.builtin "ValueError.__init__")) _ _ _;rw [PySem.W.handedOut_of (by decide+kernel)];refine aV (aV ?_);refine PyProof.Rows.callWith_builtin1 (av (ha pos pins _ σ H _ (I.tok _) h) fun us s1 zz=>?_) qI fh;obtain ⟨vs,H1,I1,r1,y,rest,C,Mo',f,dx,e1,hH,M,hz,q⟩:=zz;subst e1
 cases r1 with
 | cons ra rb=>
  cases ra;exact Wr I1 M hH (by rw [<-rb.length];exact hz) fun s2 I2=>⟨.aU,H1,I2,rfl,q⟩
theorem X6 {X:Cx} {A:Around} {E:Value->Shared->Prop} {C Mo f0 x:Addr} {dx:Option Addr} {pins:List (Addr×Obj)} {σ:St} {H:Hp} {s:Shared} {Q:Unit->Shared->Prop} {nm:Str} {y:V} {u:Value} (I:Inv X pins σ H s) (M:rA X.K C Mo f0)
 (na:PySem.W.findIn X.K (.ref C) nm=some none) (hH:H x=some (jv x C none)) (ru:bR y u)
 (hq:∀d s',H d=none->d≠x->Inv X pins σ (upd (upd H x (jv x C (some d))) d (u7 d [(nm,y)])) s'->Q () s'):wpAny (model X.prog X.w) A (setAttr (.ref x) nm u) Q E s:=by
 obtain ⟨cnm,q,N,bs,sn,sub,ab,col,dd,k0,k1,k2,k3,k5,lk,JJ,JX⟩:=M.obj;have hK:=I.gM;have hC:=hK _ _ lk;have SF:=PySem.F.store_object;obtain ⟨t,eR⟩:=Hz I.af hH;have LT:PySem.W.Looks (model X.prog X.w) s.heap (typeOf (.ref x)) (.ref C):=(PySem.W.Looks.ld eR).andThen .now;have m6:PySem.W.clsIn X.K C=some { name:=cnm,bases:=bs,mro:=.ref C::.ref Mo::sg,ns:=N,qualname:=q,hasDict:=true,slotNames:=sn,subclasses:=sub,abstract:=ab,collection:=col,hasDel:=false }:=by
  unfold PySem.W.clsIn;rw [lk]
 have LM:PySem.W.Looks (model X.prog X.w) s.heap (mroOf (.ref C)) (.ref C::.ref Mo::sg):=(PySem.W.looks_clsIn hK m6).andThen .now;have IT:PySem.W.Looks (model X.prog X.w) s.heap (isInstance (.ref x) (.type "object")) true:=LT.andThen (PySem.W.looks_mroIn hK (by unfold PySem.W.mroIn;rw [m6];rfl));have Kc:x≠s.heap.objs.size:=gY (dt eR);have fin:∀(h':Heap) (tk:Nat),h'.Ns1 s.heap.objs.size (fun z=>if z=nm then some u else none)->
  Heap.SameBut s.heap.objs.size ((s.heap.push { cls:=.type "dict",data:=.dict #[] }).update x fun o=>{ cls:=o.cls,dict:=some s.heap.objs.size,data:=o.data,slots:=o.slots }) h'->Q () { s with heap:=h',toks:=tk }:=fun h' tk n1 sb=>by
  refine hq s.heap.objs.size _ I.fresh (aD Kc) ?_;have e1:(s.heap.push { cls:=.type "dict",data:=.dict #[] }).get? x=some (fH C none (.ref t) .none):=cX _ eR;have e2:((s.heap.push { cls:=.type "dict",data:=.dict #[] }).update x fun o=>{ cls:=o.cls,dict:=some s.heap.objs.size,data:=o.data,slots:=o.slots }).get? x=some (fH C (some s.heap.objs.size) (.ref t) .none):=Heap.get?_update_self _ e1 rfl;have I1:=I.write (x:=x) (e:=x) (o:=jv x C (some s.heap.objs.size)) (h':=(s.heap.push { cls:=.type "dict",data:=.dict #[] }).update x fun o=>{ cls:=o.cls,dict:=some s.heap.objs.size,data:=o.data,slots:=o.slots }) (t':=s.toks)
   (by rw [hH];exact True.intro) (.inl rfl) (fun b v hb e=>(Heap.get?_update_other _ _ (aD hb)).trans (cX _ e)) ⟨_,e2⟩ (HA e2)
  have e3:((s.heap.push { cls:=.type "dict",data:=.dict #[] }).update x fun o=>{ cls:=o.cls,dict:=some s.heap.objs.size,data:=o.data,slots:=o.slots }).objs.size=s.heap.objs.size+1:=by
   rw [Heap.size_after_update,Heap.size_push]
  have hf:upd H x (jv x C (some s.heap.objs.size)) s.heap.objs.size=none:=by rw [ak (aD Kc)];exact I.fresh
  have hd0:X.bU.heap.objs.size<=s.heap.objs.size:=I.sz;have kp:∀b o,b≠s.heap.objs.size->((s.heap.push { cls:=.type "dict",data:=.dict #[] }).update x fun o=>{ cls:=o.cls,dict:=some s.heap.objs.size,data:=o.data,slots:=o.slots }).get? b=some o->h'.get? b=some o:=fun b o hb e=>(sb.2 b hb).trans e;have new:eh X.prog X.w (upd (upd H x (jv x C (some s.heap.objs.size))) s.heap.objs.size (u7 s.heap.objs.size [(nm,y)])) h' s.heap.objs.size (u7 s.heap.objs.size [(nm,y)]):=by
   refine UG n1 (fun z=>?_) (fun z hz=>?_)
   ·show jD (List.lookup z [(nm,y)]) (if z=nm then some u else none);rw [gp]
    by_cases e:z=nm
    ·subst e;rw [pG,if_pos rfl];exact ru
    ·rw [show (z==nm)=false from beq_eq_false_iff_ne.mpr e,if_neg e];exact True.intro
   ·by_cases e:z=nm
    ·subst e;exact eG
    ·exact absurd (if_neg e) hz
  exact I1.kT (t':=tk) kp hf hd0 (fun z=>by
   have:=I.lt;rw [z] at this;exact jC _ this) (fun y' c e z=>by
   obtain ⟨v,o,ho,_⟩:=I.cell y' c e;have:=dt ho;rw [z] at this;exact jC _ this) (fun p hp z=>by
   have:=dt (I.pin p hp).1;rw [z] at this;exact jC _ this) new
 obtain ⟨hh,gg,qZ,tt,oo⟩:=s;unfold setAttr;refine ag (wpAny_mkText (ag ?_));unfold callSpecial? specialOf;refine ag (ag (LT.at ((PySem.W.looks_findIn hK M.sa).at (wpAny_holding (ag ?_)))));rw [SF.slot.bind];refine aV (ag (wpAny_call (codeAny_call_builtin SF.slot.plain SF.entry (@PySem.W.check_slot (model X.prog X.w) _ _ ⟨hh,gg,qZ,tt+1,oo⟩ "object.__setattr__" "object" "__setattr__" (.ref x) [.str nm tt,u] [] _ SF.kind SF.split IT (SF.args (.ref x) (.str nm tt) u) ?_))));show wpAny _ A.in1 (Builtin.«object.__setattr__» ⟨[.ref x,.str nm tt,u],[]⟩) _ _ _;rw [PySem.W.osa_eq,refuse_eq];refine ag (ag (LT.at (ag (LM.at ?_))));rw [refuseLoop_ref,refuseLoop_ref,PySem.F.store_ValueError.passes];refine aV (ag (LT.at (ag ((PySem.W.looks_findIn hK na).at (ag (aV ?_))))));refine ag (aV (ag (ag (wpAny_loadPart (o:=fH C none (.ref t) .none) eR (ag ((PySem.W.looks_clsIn hK m6).at ?_))))));have Bn:(hh.push { cls:=.type "dict",data:=.dict #[] }).get? x=some (fH C none (.ref t) .none):=cX _ eR;refine ag (wpAny_alloc' ?_);refine ag (wpAny_update' Bn ?_);refine aV ?_;have hgd:((hh.push { cls:=.type "dict",data:=.dict #[] }).update x fun o=>{ cls:=o.cls,dict:=some hh.objs.size,data:=o.data,slots:=o.slots }).get? hh.objs.size=some { cls:=.type "dict",data:=.dict #[] }:=
  (Heap.get?_update_ne _ _ _ _ Kc.symm).trans (Heap.get?_push_at rfl rfl)
 have oJ:((hh.push { cls:=.type "dict",data:=.dict #[] }).update x fun o=>{ cls:=o.cls,dict:=some hh.objs.size,data:=o.data,slots:=o.slots }).Ns hh.objs.size (fun _=>none):=
  ⟨_,#[],_,hgd,rfl,fun e he=>absurd he (by simp),fun _=>rfl⟩
 show wpAny _ _ (storeInDict hh.objs.size (.str nm tt) nm u) _ _ _;unfold storeInDict newKeyGuard;refine ag (aV (ag (wpAny_nsSet1 (Heap.Ns1.of_empty oJ) fun h' Ff hs=>?_)));obtain ⟨oD,esD,epD,K1,Lf,Ll⟩:=Ff.count (Within.cons nm u Within.nil);refine ag (wpAny_lookBehind K1 (by rw [Lf];exact pastItsLine_dict (eE Ll (by rw [kI,LS,sizeLine_eq];lia))) ?_)
 wp_walk
 exact fin _ _ Ff hs
def Zy (K:aF) (ta tv:TE) (f:Str):TS:=fun D σ H=>tv σ H fun y H1=>ta σ H1 fun x H2=>∃a C Mo f0,x=.ref a/\H2 a=some (jv a C none)/\rA K C Mo f0/\PySem.W.findIn K (.ref C) f=some none/\
 ∀d,H2 d=none->d≠a->D.nx σ (upd (upd H2 a (jv a C (some d))) d (u7 d [(f,y)]))
theorem UZ {X:Cx} {o value:Expr} {f:Str} {pos pos':Pos} {ta tv:TE} (ha:PE X o ta) (hv:PE X value tv) (hs:swapsWith value (some (.Attribute o f pos')) pos.line X.env=pure false):PS X (.Assign [.Attribute o f pos'] value pos) (Zy X.K ta tv f):=by
 intro pins s σ H D I h;refine plainObj_wpAny_Assign_Attribute (av (hv pins s σ H _ I h) fun u s1 zz=>L2.eT zz fun y H1 I1 ry q=>av (ha pins s1 σ H1 _ I1 q) fun ov s2 zz=>?_) hs;obtain ⟨x,H2,I2,rx,a,C,Mo,f0,ex,ea,M,na,q2⟩:=zz;subst ex;obtain rfl:ov=Value.ref a:=rx;exact X6 (dx:=none) I2 M na ea ry fun d s3 hd hda I3=>⟨σ,_,I3,q2 d hd hda⟩
def oZ (h0 h:Heap) (H:Hp) (a C:Addr) (dx:Option Addr):Prop:=
 h0.get? a=none/\H a=none/\∃t tb,h.get? a=some (fH C dx t tb)/\
  (tb=.none\/∃T oT ts,tb=.ref T/\T≠a/\h0.get? T=none/\H T=none/\h.get? T=some oT/\oT.data=.fields ts/\ts[3]?=some .none)
def Hl (h0 h:Heap) (H:Hp) (a C:Addr) (dx:Option Addr) (L:Addr):Prop:=
 h0.get? a=none/\H a=none/\∃t T oT ts,h.get? a=some (fH C dx t (.ref T))/\T≠a/\h0.get? T=none/\H T=none/\h.get? T=some oT/\oT.data=.fields ts/\ts[3]?=some (rawInt L)
def mV (fs:List Addr) (h0 h h':Heap) (H:Hp):Prop:=
 (∀b o,(H b≠none\/h0.get? b≠none)->b∉fs->h.get? b=some o->h'.get? b=some o)/\∀b o,(H b≠none\/h0.get? b≠none)->h.get? b=some o->∃sl,h'.get? b=some { o with slots:=sl }
theorem mV.trans (x:mV fs h0 h1 h2 H) (y:mV fs h0 h2 h3 H):mV fs h0 h1 h3 H:=
 ⟨fun b o z hb e=>y.1 b o z hb (x.1 b o z hb e),fun b o z e=>by
  obtain ⟨_,e1⟩:=x.2 b o z e;obtain ⟨sl,e2⟩:=y.2 b _ z e1;exact ⟨sl,e2⟩⟩
theorem YK (C:Addr) (dx:Option Addr) (t tb v:Value):Obj.mapFields (·.setIfInBounds 1 v) (fH C dx t tb)=fH C dx t v:=by simp [Obj.mapFields]
section
variable {M:Model} {A:Around} {E:Value->Shared->Prop} {s:Shared} {base h0:Heap} {H:Hp} {env:Env} {outer:List Env} {L a C:Addr} {dx:Option Addr}
theorem OW (oM:A.frames=some (env::outer)) (hl:s.heap.FunFrames base (env::outer)) (hf:env.frame=some L)
 (he:s.heap.get? a=some (fH C dx t tb)) (SE:h0.get? a=none) (S0:H a=none) (zo:∀b o,h0.get? b=some o->∃o',s.heap.get? b=some o') (gX:∀b,s.heap.objs.size<=b->H b=none)
 (hq:∀h',Hl h0 h' H a C dx L->mV (kf (env::outer)) h0 s.heap h' H->Q () { s with heap:=h' }):
 wpAny M A (do let fr <-frameOf env;let pl <-entryPlaceOf L Ft;let b <-EntryCells.newEntry head fr .none (rawInt L) .none pl;setField (.ref a) 1 b) Q E s:=by
 have K7:a∉kf (env::outer):=fun hm=>by
  obtain ⟨_,o,ho,hnf⟩:=hl.mem hm;rw [he] at ho;cases ho;exact hnf _ rfl
 refine ag (wpAny_frameOf_fun oM hl hf fun bV lq=>?_);refine ag (wpAny_entryPlaceOf fun pl fh=>?_);unfold EntryCells.newEntry newFields;refine ag (wpAny_newObj_type ?_ (fh.sizeOk5 _ _ _ _ _));have Sk:bV.get? a=some (fH C dx t tb):=(lq.2.1 a K7).trans he;have Sj:=cX (h:=bV) { cls:=.type "traceback",dict:=none,data:=.fields ([head,.ref L,.none,rawInt L,.none]++(if pl.isEmpty then List.replicate 6 Value.none else pl)).toArray } Sk;refine wpAny_setField Sj rfl (by simp) ?_;have pB:bV.objs.size≠a:=Nat.ne_of_gt (dt Sk);have he3:=(Heap.get?_update_self (Obj.mapFields (·.setIfInBounds 1 (Value.ref bV.objs.size))) Sj rfl).trans (congrArg some (YK C dx t tb (.ref bV.objs.size)));have hT3:=(Heap.get?_update_other (bV.push { cls:=.type "traceback",dict:=none,data:=.fields ([head,.ref L,.none,rawInt L,.none]++(if pl.isEmpty then List.replicate 6 Value.none else pl)).toArray })
  (Obj.mapFields (·.setIfInBounds 1 (Value.ref bV.objs.size))) (aD pB)).trans (ki bV rfl)
 have kb:∀b o,b≠a->bV.get? b=some o->((bV.push { cls:=.type "traceback",dict:=none,data:=.fields ([head,.ref L,.none,rawInt L,.none]++(if pl.isEmpty then List.replicate 6 Value.none else pl)).toArray }).update a (Obj.mapFields (·.setIfInBounds 1 (Value.ref bV.objs.size)))).get? b=some o:=
  fun b o hb e=>(Heap.get?_update_other _ _ (aD hb)).trans (cX _ e)
 have ne:∀b,(H b≠none\/h0.get? b≠none)->b≠a:=fun b z e=>by
  subst e;exact z.elim (fun q=>q S0) fun q=>q SE
 refine hq _ ⟨SE,S0,t,bV.objs.size,_,_,he3,pB,(by
  cases q:h0.get? bV.objs.size with
  | none=>rfl
  | some o=>
   obtain ⟨o',e'⟩:=zo _ o q;exact absurd (dt e') (by rw [lq.1];exact jC _)),gX _ (by rw [lq.1];exact az _),hT3,rfl,by simp⟩ ⟨fun b o z hb e=>?_,fun b o z e=>?_⟩
 ·exact kb b o (ne b z) ((lq.2.1 b hb).trans e)
 ·obtain ⟨sl,e1⟩:=lq.2.2 b o e;exact ⟨sl,kb b _ (ne b z) e1⟩
theorem OR (oM:A.frames=some (env::outer)) (hl:s.heap.FunFrames base (env::outer)) (hf:env.frame=some L) (fl:oZ h0 s.heap H a C dx) (zo:∀b o,h0.get? b=some o->∃o',s.heap.get? b=some o') (gX:∀b,s.heap.objs.size<=b->H b=none)
 (hq:∀h',Hl h0 h' H a C dx L->mV (kf (env::outer)) h0 s.heap h' H->Q () { s with heap:=h' }):wpAny M A (noteFrame (.ref a) env) Q E s:=by
 obtain ⟨f1,f2,t,tb,he,hb⟩:=fl;unfold noteFrame;simp only [hf];rcases hb with rfl | ⟨T,oT,ts,rfl,pB,m7,xV,hT,hd,h3⟩
 ·refine ag (wpAny_field he rfl (x:=.none) rfl ?_);rw [if_neg (by decide)];exact OW oM hl hf he f1 f2 zo gX hq
 ·refine ag (wpAny_field he rfl (x:=.ref T) rfl ?_);rw [if_pos (show (Value.ref T !=Value.none)=true from by simp)];refine ag (wpAny_field hT hd h3 ?_);rw [if_neg (show ¬((Value.none==rawInt L)=true) from by simp [rawInt])];refine ag (wpAny_setField hT hd (Array.getElem?_eq_some_iff.mp h3).1 ?_);have other:∀b,b≠T->(s.heap.update T (Obj.mapFields (·.setIfInBounds 3 Value.none))).get? b=s.heap.get? b:=fun b hb=>Heap.get?_update_other _ _ (aD hb);have noT:∀b o,s.heap.get? b=some o->(∀vs,o.data≠.fields vs)->b≠T:=fun b o e hn q=>by
   rw [q,hT] at e;cases e;exact hn ts hd
  have neT:∀b,(H b≠none\/h0.get? b≠none)->b≠T:=fun b z e=>by
   subst e;exact z.elim (fun q=>q xV) fun q=>q m7
  have sze:(s.heap.update T (Obj.mapFields (·.setIfInBounds 3 Value.none))).objs.size=s.heap.objs.size:=Heap.size_after_update ..;refine OW (s:={ s with heap:=s.heap.update T (Obj.mapFields (·.setIfInBounds 3 Value.none)) }) oM (hl.of_keeps fun b o e hn=>⟨o,(other b (noT b o e hn)).trans e,rfl⟩) hf ((other a (aD pB)).trans he) f1 f2
   (fun b o e=>by
    obtain ⟨o',e'⟩:=zo b o e;exact ⟨o',(other b fun z=>by rw [z,m7] at e;cases e).trans e'⟩) (fun b hb=>gX b (by rw [sze] at hb;exact hb)) fun h' n k=>hq h' n ⟨fun b o z hb e=>k.1 b o z hb ((other b (neT b z)).trans e),fun b o z e=>k.2 b o z ((other b (neT b z)).trans e)⟩
theorem OO (n:Hl h0 s.heap H a C dx L) (hq:∀h',oZ h0 h' H a C dx->mV [] h0 s.heap h' H->Q () { s with heap:=h' }):wpAny M A (setFlight (.ref a) none) Q E s:=by
 obtain ⟨f1,f2,t,T,oT,ts,he,pB,m7,xV,hT,hd,h3⟩:=n;have neT:∀b,(H b≠none\/h0.get? b≠none)->b≠T:=fun b z e=>by
  subst e;exact z.elim (fun q=>q xV) fun q=>q m7
 have lr:3<ts.size:=(Array.getElem?_eq_some_iff.mp h3).1;unfold setFlight;refine ag (wpAny_field he rfl (x:=.ref T) rfl ?_);rw [if_pos (show (Value.ref T !=Value.none)=true from by simp)];refine wpAny_setField hT hd lr (hq _ ⟨f1,f2,t,.ref T,(Heap.get?_update_other _ _ pB).trans he,.inr ⟨T,_,_,rfl,pB,m7,xV,Heap.get?_update_self _ hT (Obj.isFreed_of_fields (Obj.data_mapFields hd _)),Obj.data_mapFields hd _,by simp [lr]⟩⟩ ⟨fun b o z _ e=>?_,fun b o z e=>⟨o.slots,?_⟩⟩)
 ·exact (Heap.get?_update_other _ _ (aD (neT b z))).trans e
 ·exact (Heap.get?_update_other _ _ (aD (neT b z))).trans e
theorem VY (fl:oZ h0 s.heap H a C dx) (hq:∀h',oZ h0 h' H a C dx->mV [] h0 s.heap h' H->Q () { s with heap:=h' }):wpAny M A (setFlight (.ref a) none) Q E s:=by
 obtain ⟨f1,f2,t,tb,he,hb⟩:=id fl;rcases hb with rfl | ⟨T,oT,ts,rfl,pB,m7,xV,hT,hd,h3⟩
 ·unfold setFlight;refine ag (wpAny_field he rfl (x:=.none) rfl ?_);rw [if_neg (by decide)];exact aV (hq s.heap fl ⟨fun _ _ _ _ e=>e,fun _ o _ e=>⟨o.slots,e⟩⟩)
 ·have neT:∀b,(H b≠none\/h0.get? b≠none)->b≠T:=fun b z e=>by
   subst e;exact z.elim (fun q=>q xV) fun q=>q m7
  have lr:3<ts.size:=(Array.getElem?_eq_some_iff.mp h3).1;unfold setFlight;refine ag (wpAny_field he rfl (x:=.ref T) rfl ?_);rw [if_pos (show (Value.ref T !=Value.none)=true from by simp)];refine wpAny_setField hT hd lr (hq _ ⟨f1,f2,t,.ref T,(Heap.get?_update_other _ _ pB).trans he,.inr ⟨T,_,_,rfl,pB,m7,xV,Heap.get?_update_self _ hT (Obj.isFreed_of_fields (Obj.data_mapFields hd _)),Obj.data_mapFields hd _,by simp [lr]⟩⟩ ⟨fun b o z _ e=>?_,fun b o z e=>⟨o.slots,?_⟩⟩)
  ·exact (Heap.get?_update_other _ _ (aD (neT b z))).trans e
  ·exact (Heap.get?_update_other _ _ (aD (neT b z))).trans e
theorem WD (oM:A.frames=some (env::outer)) (hl:s.heap.FunFrames base (env::outer)) (hf:env.frame=some L) (fl:oZ h0 s.heap H a C dx) (zo:∀b o,h0.get? b=some o->∃o',s.heap.get? b=some o') (gX:∀b,s.heap.objs.size<=b->H b=none)
 (hq:∀h',oZ h0 h' H a C dx->mV (kf (env::outer)) h0 s.heap h' H->Q () { s with heap:=h' }):wpAny M A (leaving env (.ref a)) Q E s:=by
 unfold leaving;refine ag (OR oM hl hf fl zo gX fun h1 n1 k1=>?_);exact OO (s:={ s with heap:=h1 }) n1 fun h2 f2 k2=>hq h2 f2 (k1.trans ⟨fun b o z _ e=>k2.1 b o z (by simp) e,k2.2⟩)
end
def nV (P:Program) (w:World):mI:=fun outer H s E e s'=>∃(a C:Addr) (dx:Option Addr) (H':Hp),e=.ref a/\s'.os=s.os/\AllBare s'.gens/\Un (kf outer) [] H H' s.heap s'.heap/\eI P w H' s'.heap/\
 oZ s.heap s'.heap H' a C dx/\E (.ref C) dx H'
theorem eI.iF {P:Program} {w:World} (ok:eI P w H h) (k:mV fs h0 h h' H) (hf:∀b∈fs,H b=none):eI P w H h':=fun b u e=>by
 refine (ok b u e).fv (fun c v hc q=>?_) (fun _ q=>q) fun _ _ q=>q;have hn:H c≠none:=by
  rcases hc with rfl | hc
  ·rw [e];simp
  ·rw [hc];simp
 exact k.1 c v (.inl hn) (fun z=>hn (hf c z)) q
theorem Un.iF (u:Un fs ex H H' h0 h1) (k:mV gs h0 h1 h2 H') (hg:∀b o,h0.get? b=some o->b∈gs->b∈fs):Un fs ex H H' h0 h2:=by
 refine ⟨fun b o e n hb hx=>k.1 b o (.inr (by rw [e];simp)) (fun z=>hb (hg b o e z)) (u.keep b o e n hb hx),fun b o e n hb hx=>?_,u.free,fun b o e hx=>?_,u.gB,u.gm,u.iu⟩
 ·obtain ⟨sl,q⟩:=u.slot b o e n hb hx;obtain ⟨za,q'⟩:=k.2 b _ (.inr (by rw [e];simp)) q;exact ⟨za,q'⟩
 ·obtain ⟨o',q⟩:=u.there b o e hx;obtain ⟨sl,q'⟩:=k.2 b _ (.inr (by rw [e];simp)) q;exact ⟨_,q'⟩
section
variable {P:Program} {w:World} {K:aF} {mg:Str->Option Value} {base:Heap} {N:List Str} {qual:Str} {scope:Scope} {f:Addr} {cd:Value} {A:Around} {outer:List Env} {s:Shared} {H:Hp} {EX:XK}
theorem Mt (I:Inv (n_ (nV P w) P w K mg base N qual scope f cd A outer s H EX) pins σ H' s') (fl:oZ s.heap s'.heap H' a C dx) (hE:EX (.ref C) dx H'):
 (n_ (nV P w) P w K mg base N qual scope f cd A outer s H EX).xe (.ref a) s':=by
 show wpAny (model P w) (A.deeper (envOfC qual scope s.heap.objs.size f cd)) (leaving (envOfC qual scope s.heap.objs.size f cd) (.ref a)) (fun _ AX=>nV P w outer H s EX (.ref a) AX) _ s';refine WD (L:=s.heap.objs.size) I.ok.frames I.stack rfl fl (fun b o e=>I.base.there b o e (by intro z;exact absurd (show b∈([]:List Addr) from z) (by simp))) (fun b hb=>I.af.fresh hb) fun h' f' k=>?_;refine ⟨a,C,dx,H',rfl,I.os,I.bare,I.base.iF k fun b o e hb=>?_,I.af.iF k I.jK,f',hE⟩;unfold kf at hb;rw [List.filterMap_cons] at hb;rcases eV.mp hb with z | z
 ·exact absurd (dt e) (by rw [z];exact jC _)
 ·exact z
theorem oZ.back (fl:oZ h1 h H a C dx) (k:∀b o,h0.get? b=some o->∃o',h1.get? b=some o'):oZ h0 h H a C dx:=by
 have no:∀b,h1.get? b=none->h0.get? b=none:=fun b e=>by
  cases q:h0.get? b with
  | none=>rfl
  | some o=>
   obtain ⟨o',e'⟩:=k b o q;rw [e] at e';cases e'
 obtain ⟨f1,f2,t,tb,he,hb⟩:=fl;refine ⟨no a f1,f2,t,tb,he,?_⟩;rcases hb with z | ⟨T,oT,ts,e,pB,m7,r⟩
 ·exact .inl z
 ·exact .inr ⟨T,oT,ts,e,pB,no T m7,r⟩
theorem Zs (h:∀C dx H',E C dx H'->EX C dx H'):pO (nV P w) (n_ (nV P w) P w K mg base N qual scope f cd A outer s H EX) E:=by
 intro pins σ H1 s1 e s' I hx;obtain ⟨a,C,dx,H',rfl,os,bare,un,af,fl,hE⟩:=hx;have I':=I.rd (s':=s') (ch:=[]) os un af bare (fun b z=>absurd z (by simp));exact Mt I' (fl.back fun b o e=>I.base.there b o e (by intro z;exact absurd (show b∈([]:List Addr) from z) (by simp))) (h _ _ _ hE)
end
def forget (H:Hp) (a:Addr):Hp:=fun b=>if b=a then none else H b
theorem s_ (h:b≠a):forget H a b=H b:=by unfold forget;rw [if_neg h]
theorem Qq:forget H a a=none:=by unfold forget;rw [if_pos rfl]
theorem DS (h:H b=none):forget H a b=none:=by
 unfold forget;split
 ·rfl
 ·exact h
theorem Inv.forget (I:Inv X pins σ H s) (hH:H a=some (jv a C dx)):Inv X pins σ (L2.forget H a) s:=by
 have ne:∀b u,H b=some u->(∀φ,u≠.ext φ)->b≠a:=fun b u e hu z=>by
  subst z;rw [hH] at e;exact hu _ (eF e).symm
 refine ⟨I.ok,I.os,I.bare,⟨I.base.keep,I.base.slot,fun b o e n hx=>DS (I.base.free b o e n hx),I.base.there,fun b xs e=>?_,fun b o u e=>?_,fun b ps e=>?_⟩,I.loc,I.cell,DS I.free,fun x c e=>DS (I.cE x c e),fun p hp=>?_,fun b u e=>?_,I.len⟩
 ·have q:=I.base.gB b xs e;rw [s_ (ne b _ q (fun _ z=>nomatch z))];exact q
 ·have q:=I.base.gm b o u e;rw [s_ (ne b _ q (fun _ z=>nomatch z))];exact q
 ·obtain ⟨more,q⟩:=I.base.iu b ps e;exact ⟨more,by rw [s_ (ne b _ q (fun _ z=>nomatch z))];exact q⟩
 ·obtain ⟨e,n,r⟩:=I.pin p hp;exact ⟨e,DS n,r⟩
 ·by_cases hb:b=a
  ·rw [hb,Qq] at e;cases e
  ·rw [s_ hb] at e;exact (I.af b u e).fv (fun c v _ q=>q) (fun c q=>by rw [s_ (ne c _ q (fun _ z=>nomatch z))];exact q) fun c xs q=>by rw [s_ (ne c _ q (fun _ z=>nomatch z))];exact q
def UJ (K:aF) (H0:Hp) (EX:XK) (te:TE):TS:=fun _ σ H=>te σ H fun x H1=>∃a C Mo f dx,x=.ref a/\H1 a=some (jv a C dx)/\rA K C Mo f/\H0 a=none/\EX (.ref C) dx (forget H1 a)
theorem Xx (hh:A.handled=none)
 (h:wpAny M A x (fun v au=>∃e C dx t nm q N bs bm qP sn sub ab col dd k0 k1 k2 k3 k5 Rw,v=.ref e/\bm.contains (.type "BaseException")=true/\au.heap.get? C=some (excClassObj nm q C N bs bm qP sn sub ab col dd k0 k1 k2 k3 k5 Rw)/\
  au.heap.get? e=some (fH C dx t .none)/\E (.ref e) au) E s):wpAny M A (raiseStmt env (some x) none) Q E s:=by
 unfold raiseStmt;refine ag (wpAny_mono h (fun v au bV=>?_) fun _ _ x=>x);obtain ⟨e,C,dx,t,nm,q,N,bs,bm,qP,sn,sub,ab,col,dd,k0,k1,k2,k3,k5,Rw,rfl,qS,hC,he,hE⟩:=bV;have hcB:(Value.ref C::bm).contains (.type "BaseException")=true:=by rw [List.contains_cons,qS,Bool.or_true]
 obtain ⟨hp,g,d,tk,os⟩:=au
 repeat (first | with_reducible refine wpAny_loadPart_at he ?_ | with_reducible refine wpAny_loadPart_at hC ?_ | (with_reducible refine wpAny_isSubtype_exc hC ?_;rw [hcB]) | wp_step)
 exact wpAny_raiseNew_none hh hE
section
variable {P:Program} {w:World} {K:aF} {mg:Str->Option Value} {base:Heap} {N:List Str} {qual:Str} {scope:Scope} {f:Addr} {cd:Value} {A:Around} {outer:List Env} {s:Shared} {H:Hp} {EX:XK}
theorem VP (he:PE (n_ (nV P w) P w K mg base N qual scope f cd A outer s H EX) x te):PS (n_ (nV P w) P w K mg base N qual scope f cd A outer s H EX) (.Raise (some x) none pos) (UJ K H EX te):=by
 intro pins s1 σ H1 D I h;rw [arm_exec_Raise];refine ag (wpAny_standAt (Xx (I.ok.hd rfl) ?_));refine ag (av (he pins s1 σ H1 _ I h) fun v s2 zz=>ag (wpAny_standAt (aV ?_)));obtain ⟨y,H2,I2,ry,a,C,Mo,f',dx,e1,hH,M,h0,hE⟩:=zz;subst e1;cases ry;obtain ⟨nm,q,Nn,bs,sn,sub,ab,col,dd,k0,k1,k2,k3,k5,lk,_,_⟩:=M.obj;obtain ⟨t,eR⟩:=Hz I2.af hH;refine ⟨a,C,dx,.ref t,nm,q,Nn,bs,_,_,sn,sub,ab,col,dd,k0,k1,k2,k3,k5,_,rfl,rfl,I2.gM _ _ lk,eR,?_⟩;refine Mt (I2.forget hH) ⟨?_,Qq,.ref t,.none,eR,.inl rfl⟩ hE
 cases q0:s.heap.get? a with
 | none=>rfl
 | some o=>
  have z:=I2.base.free a o q0 h0 (by intro z;exact absurd (show a∈([]:List Addr) from z) (by simp));rw [hH] at z;cases z
end
def Yb (X:Cx) (pins:List (Addr×Obj)) (Ex:Addr->Option Addr->St->Hp->Prop):Value->Shared->Prop:=fun e s'=>∃a C dx σ H sF H1 s1,e=.ref a/\Inv X pins sF H1 s1/\Inv X pins σ H s'/\
 (∀b o,s1.heap.get? b=some o->∃o',s'.heap.get? b=some o')/\oZ s1.heap s'.heap H a C dx/\Ex C dx σ H
def Ad (X:Cx) (pins:List (Addr×Obj)) (Ex:Addr->Option Addr->St->Hp->Prop):Cx where
 prog:=X.prog
 w:=X.w
 K:=X.K
 mg:=X.mg
 base:=X.base
 A:=X.A
 N:=X.N
 bU:=X.bU
 gr:=X.gr
 env:=X.env
 outer:=X.outer
 stack:=X.stack
 ex:=X.ex
 fn:=X.fn
 calm:=X.calm
 pn:=X.pn++pins
 xe:=Yb X pins Ex
def A9 (X:Cx) (e:Value):Cx where
 prog:=X.prog
 w:=X.w
 K:=X.K
 mg:=X.mg
 base:=X.base
 A:=X.A.mark (some e)
 N:=X.N
 bU:=X.bU
 gr:=X.gr
 env:=X.env
 outer:=X.outer
 stack:=X.stack
 ex:=X.ex
 fn:=X.fn
 calm:=false
 pn:=X.pn
 xe:=fun _ _=>False
section
variable {X:Cx} {pins nq:List (Addr×Obj)} {Ex:Addr->Option Addr->St->Hp->Prop} {σ:St} {H:Hp} {s:Shared} {e:Value}
theorem Inv.AN (I:Inv X pins σ H s):Inv (Ad X pins Ex) [] σ H s:=
 ⟨⟨I.ok.mod,I.ok.kind,I.ok.glob,I.ok.blt,I.ok.above,I.ok.inj,I.ok.has,I.ok.ux,I.ok.hd,I.ok.frames,I.ok.vd,I.ok.zH,I.ok.bs,I.ok.oS,I.ok.jP,I.ok.kg,I.ok.eS,I.ok.pC⟩,
  I.os,I.bare,I.base,I.loc,I.cell,I.free,I.cE,fun p hp=>I.pin p (by have z:p∈(X.pn++pins)++[]:=hp;simpa using z),I.af,I.len⟩
theorem Inv.hX (I:Inv (Ad X pins Ex) nq σ H s):Inv X pins σ H s:=
 ⟨⟨I.ok.mod,I.ok.kind,I.ok.glob,I.ok.blt,I.ok.above,I.ok.inj,I.ok.has,I.ok.ux,I.ok.hd,I.ok.frames,I.ok.vd,I.ok.zH,I.ok.bs,I.ok.oS,I.ok.jP,I.ok.kg,I.ok.eS,I.ok.pC⟩,
  I.os,I.bare,I.base,I.loc,I.cell,I.free,I.cE,fun p hp=>I.pin p (iL _ hp),I.af,I.len⟩
theorem Inv.va (I:Inv X pins σ H s):Inv (A9 X e) pins σ H s:=
 ⟨⟨I.ok.mod,I.ok.kind,I.ok.glob,I.ok.blt,I.ok.above,I.ok.inj,I.ok.has,I.ok.ux,(fun z=>absurd (show false=true from z) f7),I.ok.frames,I.ok.vd,I.ok.zH,I.ok.bs,I.ok.oS,I.ok.jP,I.ok.kg,I.ok.eS,I.ok.pC⟩,
  I.os,I.bare,I.base,I.loc,I.cell,I.free,I.cE,I.pin,I.af,I.len⟩
theorem Inv.jy (hd:X.calm=true->X.A.handled=none) (I:Inv (A9 X e) pins σ H s):Inv X pins σ H s:=
 ⟨⟨I.ok.mod,I.ok.kind,I.ok.glob,I.ok.blt,I.ok.above,I.ok.inj,I.ok.has,I.ok.ux,hd,I.ok.frames,I.ok.vd,I.ok.zH,I.ok.bs,I.ok.oS,I.ok.jP,I.ok.kg,I.ok.eS,I.ok.pC⟩,
  I.os,I.bare,I.base,I.loc,I.cell,I.free,I.cE,I.pin,I.af,I.len⟩
theorem SP.hX (h:SP (Ad X pins Ex) [] D f s):SP X pins D f s:=by
 cases f with
 | next=>obtain ⟨aa,H',I,q⟩:=h;exact ⟨aa,H',I.hX,q⟩
 | brk=>obtain ⟨aa,H',I,q⟩:=h;exact ⟨aa,H',I.hX,q⟩
 | cont=>obtain ⟨aa,H',I,q⟩:=h;exact ⟨aa,H',I.hX,q⟩
 | ret u=>obtain ⟨v,aa,H',I,r,q⟩:=h;exact ⟨v,aa,H',I.hX,r,q⟩
theorem SP.jy (hd:X.calm=true->X.A.handled=none) (h:SP (A9 X e) pins D f s):SP X pins D f s:=by
 cases f with
 | next=>obtain ⟨aa,H',I,q⟩:=h;exact ⟨aa,H',I.jy hd,q⟩
 | brk=>obtain ⟨aa,H',I,q⟩:=h;exact ⟨aa,H',I.jy hd,q⟩
 | cont=>obtain ⟨aa,H',I,q⟩:=h;exact ⟨aa,H',I.jy hd,q⟩
 | ret u=>obtain ⟨v,aa,H',I,r,q⟩:=h;exact ⟨v,aa,H',I.jy hd,r,q⟩
theorem Inv.qX (I:Inv X pins σ H s) (k:mV (X.env.locals::X.fs) h0 s.heap h' H) (h1:∀b o,X.bU.heap.get? b=some o->h0.get? b≠none) (hL:h0.get? X.env.locals≠none) (hC:∀x c,X.env.cells.lookup x=some c->h0.get? c≠none) (hP:∀p∈X.pn++pins,h0.get? p.1≠none):
 Inv X pins σ H { s with heap:=h' }:=by
 obtain ⟨m,⟨oL,es,ep,xJ,r⟩,hl⟩:=id I.loc;obtain ⟨sl,hL'⟩:=k.2 _ oL (.inr hL) xJ;have cellK:∀x c,X.env.cells.lookup x=some c->∀v,s.heap.IsCell c v->h'.IsCell c v:=fun x c e v ⟨o,ho,hd⟩=>by
  obtain ⟨sl,q⟩:=k.2 c o (.inr (hC x c e)) ho;exact ⟨_,q,hd⟩
 refine ⟨I.ok,I.os,I.bare,⟨fun b o e n hb hx=>?_,fun b o e n hb hx=>?_,I.base.free,fun b o e hx=>?_,I.base.gB,I.base.gm,I.base.iu⟩,⟨m,⟨_,es,ep,hL',r⟩,fun i x v e1 e2 e3=>?_⟩,fun x c e=>?_,I.free,I.cE,fun p hp=>?_,?_,I.len⟩
 ·refine k.1 b o (.inr (h1 b o e)) (fun z=>?_) (I.base.keep b o e n hb hx);rcases eV.mp z with z | z
  ·exact absurd (jb (dt e) I.ok.above) (by rw [z];exact jC _)
  ·exact hb z
 ·obtain ⟨sl,q⟩:=I.base.slot b o e n hb hx;obtain ⟨za,q'⟩:=k.2 b _ (.inr (h1 b o e)) q;exact ⟨za,q'⟩
 ·obtain ⟨o',q⟩:=I.base.there b o e hx;obtain ⟨za,q'⟩:=k.2 b _ (.inr (h1 b o e)) q;exact ⟨_,q'⟩
 ·obtain ⟨u,rv,l⟩:=hl i x v e1 e2 e3;refine ⟨u,rv,?_⟩;rcases l with l | ⟨kd,c,e,z⟩
  ·exact .inl l
  ·exact .inr ⟨kd,c,e,cellK x c e _ z⟩
 ·obtain ⟨v,z⟩:=I.cell x c e;exact ⟨v,cellK x c e v z⟩
 ·obtain ⟨e,n,ne,nf,d⟩:=I.pin p hp;refine ⟨k.1 p.1 p.2 (.inr (hP p hp)) (fun z=>?_) e,n,ne,nf,d⟩;rcases eV.mp z with z | z
  ·exact ne z
  ·exact nf z
 ·refine I.af.iF k fun b hb=>?_;rcases eV.mp hb with z | z
  ·rw [z];exact I.free
  ·obtain ⟨_,o,ho,_⟩:=I.ok.eS.mem z;exact I.base.free b o ho (I.ok.pC b z) fun q=>I.ok.kg b q z
theorem Wn {P:Program} {w:World} (hP:X.prog=P) (hw:X.w=w) (h:∀C dx σ H',E (.ref C) dx H'->Ex C dx σ H'):pO (nV P w) (Ad X pins Ex) E:=by
 subst hP hw;intro nq σ H1 s1 e s' I hx;obtain ⟨a,C,dx,H',rfl,os,bare,un,af,fl,hE⟩:=hx;have I':=I.rd (s':=s') (ch:=[]) os un af bare (fun b z=>absurd z (by simp));exact ⟨a,C,dx,σ,H',σ,H1,s1,rfl,I.hX,I'.hX,fun b o e=>un.there b o e (by simp),fl,h _ _ _ _ hE⟩
end
def Zf (K:aF) (Cn:Addr) (Ex:Addr->Option Addr->St->Hp->Prop) (tb ts:TS):TS:=fun D σ H=>tb D σ H/\∀C dx aa H',Ex C dx aa H'->PySem.W.exmOne K (.ref C) (.ref Cn)=some true/\ts D aa H'
theorem Tx (Br:X.stack=X.env::X.outer) (oM:X.env.frame=some X.env.locals) (hg:Gl X cn) (hm:X.mg cn=some (.ref Cn))
 (hb:∀pins,g7 (Ad X pins Ex) body tb) (hs:∀e,g7 (A9 X e) (b0::AS) ts) (hex:X.ex=[]:=by rfl) (m5:(cn==("__debug__":Str))=false:=by decide):
 PS X (.Try body [.ExceptHandler (some (.Name cn np)) none (b0::AS) hpos] [] [] pos) (Zf X.K Cn Ex tb ts):=by
 intro pins s σ H D I h;obtain ⟨h1,h2⟩:=h;refine wpAny_Try_except (wpAny_mono (hb pins [] s σ H D I.AN h1) (fun f s1 q=>?_) fun e s1 he=>?_)
 ·have q':=SP.hX q
  cases f with
  | next=>exact wpAny_execs_nil q'
  | ret v=>exact q'
  | brk=>exact q'
  | cont=>exact q'
 ·obtain ⟨a,C,dx,aa,H',sF,H1,s0,rfl,I0,I1,th,fl,hx⟩:=he;obtain ⟨KC,hq⟩:=h2 C dx aa H' hx;have BG:kf (X.env::X.outer)=X.env.locals::X.fs:=by
   unfold Cx.fs kf;rw [List.filterMap_cons,oM]
  have k1:∀b o,X.bU.heap.get? b=some o->s0.heap.get? b≠none:=fun b o e=>by
   obtain ⟨o',q⟩:=I0.base.there b o e (by rw [hex];simp);rw [q];simp
  have kL:s0.heap.get? X.env.locals≠none:=by
   obtain ⟨m,⟨o,_,_,ho,_⟩,_⟩:=I0.loc;rw [ho];simp
  have kC:∀x c,X.env.cells.lookup x=some c->s0.heap.get? c≠none:=fun x c e=>by
   obtain ⟨v,o,ho,_⟩:=I0.cell x c e;rw [ho];simp
  have kP:∀p∈X.pn++pins,s0.heap.get? p.1≠none:=fun p hp=>by
   rw [(I0.pin p hp).1];simp
  have K_:X.A.frames=some (X.env::X.outer):=by rw [<-Br];exact I.ok.frames
  refine OR (L:=X.env.locals) K_ (by rw [<-Br];exact I1.stack) oM fl th (fun b hb=>I1.af.fresh hb) fun nN n2 JT=>?_;rw [BG] at JT;have I2:=I1.qX JT k1 kL kC kP;refine OO (s:={ s1 with heap:=nN }) n2 fun h3 f3 RJ=>?_;have JS:mV (X.env.locals::X.fs) s0.heap nN h3 H':=⟨fun b o z _ e=>RJ.1 b o z (by simp) e,RJ.2⟩;have I3:=I2.qX JS k1 kL kC kP;have I3':Inv (A9 X (.ref a)) pins aa H' { s1 with heap:=h3 }:=I3.va;have noE:∀{E:Value->Shared->Prop} {e:Value} {s:Shared},False->E e s:=fun z=>z.elim;refine wpAny_handleBy_cons (codeAny_handlers_test (yJ I3' hg hm ?_ m5)) (by intro z;cases z);obtain ⟨_,_,t,tb',eR,_⟩:=id f3;have LT:PySem.W.Looks (model X.prog X.w) h3 (typeOf (.ref a)) (.ref C):=(PySem.W.Looks.ld eR).andThen .now;refine (PySem.W.exm_one I3.gM LT KC).here (s:={ s1 with heap:=h3 }) ?_;refine codeAny_handlers_suite ?_;refine VY (s:={ s1 with heap:=h3 }) f3 fun h4 f4 RI=>?_;have JR:mV (X.env.locals::X.fs) s0.heap h3 h4 H':=⟨fun b o z _ e=>RI.1 b o z (by simp) e,RI.2⟩;have I4:=I3.qX JR k1 kL kC kP;refine wpAny_mono (hs (.ref a) pins _ aa H' D I4.va hq) (fun f s5 q5=>SP.jy I.ok.hd q5) fun _ _ z=>z.elim
section
variable {X:Cx} {a b c d:Expr} {ta tb tc td:TE} {pos:Pos}
def Vh (r r' AY:R2) (ta tb tc td:TE):TE:=fun σ H Q=>ta σ H fun x H1=>tb σ H1 fun y H2=>r x y H2 fun z H3=>∃k,z=.bl k/\
 (if k=true then tc σ H3 fun x2 H4=>r' y x2 H4 fun z2 H5=>∃k2,z2=.bl k2/\(if k2=true then td σ H5 fun x3 H6=>AY x2 x3 H6 Q else Q (.bl false) H5) else Q (.bl false) H3)
theorem Ph (ho:eX X (compareOp op) r) (lQ:eX X (compareOp vm) r') (K2:eX X (compareOp A') AY) (ha:PE X a ta) (hb:PE X b tb) (hc:PE X c tc) (hd:PE X d td)
 (hm:lastMarks [op,vm,A'] [b,c,d]=false:=by with_unfolding_all rfl):PT X (.Compare a [op,vm,A'] [b,c,d] pos) (CI (Vh r r' AY ta tb tc td)):=by
 intro pins s σ H Q I h;refine isTrue_chain (av (ha pins s σ H _ I h) fun v s1 zz=>L2.eT zz fun x H1 I1 r1 q1=>test_link (av (hb pins s1 σ H1 _ I1 q1) fun u s2 zz=>L2.eT zz fun y H2 I2 r2 q2=>
  av (ho pins s2 σ H2 x y v u _ I2 r1 r2 q2) fun z s3 zz=>?_)) hm
 obtain ⟨z',H3,I3,r3,k,e,q3⟩:=zz;subst e;cases r3;refine wpAny_truthy_bool ?_
 cases k with
 | false=>
  obtain ⟨k',e',q'⟩:=q3;cases e';exact ite_ff ⟨H3,I3,q'⟩
 | true=>
  refine ite_tt (test_link (av (hc pins s3 σ H3 _ I3 q3) fun x2 s4 zz=>L2.eT zz fun y4 H4 I4 r4 q4=>av (lQ pins s4 σ H4 y y4 u x2 _ I4 r2 r4 q4) fun z2 s5 zz=>?_));obtain ⟨z5,H5,I5,r5,k2,e2,q5⟩:=zz;subst e2;cases r5;refine wpAny_truthy_bool ?_
  cases k2 with
  | false=>
   obtain ⟨k',e',q'⟩:=q5;cases e';exact ite_ff ⟨H5,I5,q'⟩
  | true=>
   refine ite_tt (test_last (av (hd pins s5 σ H5 _ I5 q5) fun x3 s6 zz=>L2.eT zz fun y6 H6 I6 r6 q6=>av (K2 pins s6 σ H6 y4 y6 x2 x3 _ I6 r4 r6 q6) fun z3 s7 zz=>?_));obtain ⟨z7,H7,I7,r7,k3,e3,q7⟩:=zz;subst e3;cases r7;exact wpAny_truthy_bool ⟨H7,I7,q7⟩
theorem NQ:∀{xs:List V} {us:List Value},xs.length=us.length->(∀(i:Nat) x u,xs[i]?=some x->us[i]?=some u->bR x u)->bq xs us
 | [],[],_,_=>.nil
 | [],_::_,h,_=>by simp at h
 | _::_,[],h,_=>by simp at h
 | x::xs,u::us,h,r=>.cons (r 0 x u rfl rfl) (NQ (by simpa using h) fun i y v e1 e2=>r (i+1) y v (by simpa using e1) (by simpa using e2))
theorem XX (h:ItemsOf (fun i v=>∃t,v=.int (0+(i:Int)*1) t) acc j):bq ((List.range j).map fun (i:Nat)=>V.int (i:Int)) acc.toList:=by
 refine NQ (by simp [h.1]) fun i x u e1 e2=>?_;rw [f9] at e1;have hi:i<j:=by
  have:=(gO.mp e2).1;rw [rh,h.1] at this;exact this
 rw [List.getElem?_range hi] at e1;cases e1;obtain ⟨t,e⟩:=h.2 i u (by simpa using e2);exact ⟨t,by rw [e];congr 1;lia⟩
def X0 (ta:TA):TE:=fun σ H Q=>ta σ H fun vs H1=>∃j:Nat,vs=[.int j]/\j<=1000000/\∀l,H1 l=none->Q (.ref l) (upd H1 l (.lst ((List.range j).map fun (i:Nat)=>V.int (i:Int))))
theorem XI {ta:TA} {p p2 mi:Pos} (hc:X.calm=true) (hg:Gl X "list") (hm:X.mg "list"=none) (hg2:Gl X "range") (xM:X.mg "range"=none) (ha:PA X [a] ta)
 (hs:starEach [.Call (.Name "range" p2) [a] [] mi] X.env=[(false,eval (.Call (.Name "range" p2) [a] [] mi) X.env)]:=by rfl) (jT:starEach [a] X.env=[(false,eval a X.env)]:=by rfl):
 PE X (.Call (.Name "list" p) [.Call (.Name "range" p2) [a] [] mi] [] pos) (X0 ta):=by
 intro pins s σ H Q I h;refine Call_ (wa I hg hm boot_list (PyProof.Rows.callWith_type1 ?_ hs rfl));rw [hs];show wpAny _ _ (spliced ((false,eval (.Call (.Name "range" p2) [a] [] mi) X.env)::backTo pos [])) _ _ s;refine Calls.spliced_cons (Call_ (wa I hg2 xM boot_range (PyProof.Rows.callWith_type1 (av (ha mi pins s σ H _ I h) fun us s1 zz=>?_) jT rfl)));obtain ⟨vs,H1,I1,r1,q1⟩:=zz;obtain ⟨j,e,hj,q⟩:=q1;subst e;obtain ⟨u,rfl,t,rfl⟩:=y9 r1;refine call_range_1 ?_;refine Calls.spliced_nil ?_;have I2:∀(t u v:Tok) (tk:Nat),Inv X pins σ H1 { s1 with heap:=s1.heap.push { cls:=.type "range",data:=.fields #[.int 0 t,.int (j:Int) u,.int 1 v] },toks:=tk }:=fun t u v tk=>I1.kept fun b o e=>cX _ e;refine call_list_range (n:=j) (I.ok.hd hc) (IsRange.new ..) (small_one (by lia) (by exact Int.NonNeg.mk (2 ^ 62-Nat.succ 0)) (by exact Int.NonNeg.mk (j+Nat.succ 4611686018427387903)) (by lia)) (by rw [rangeSize_one];split<;>lia) (by lia) fun h' tk acc c' kp hl hi=>?_;have I3:=I2 s1.toks t (s1.toks+1) (s1.toks+2);refine ⟨.ref _,_,I3.laid (t':=tk) (o:=.lst ((List.range j).map fun (i:Nat)=>V.int (i:Int))) kp (az _) ?_,rfl,q _ I3.fresh⟩;refine ⟨by rw [aB,List.length_range,sizeLine_eq];lia,acc.toList,c',?_,by simpa using hl⟩;exact XX hi
end
section
variable {Y:Cx} {K:aF} {tg:Expr}
theorem Vl (h:Y.K=K):yn Y (QA K):=by subst h;exact M8
theorem Aw (h:Y.K=K):yn Y (Q9 K):=by subst h;exact Hn
theorem TQ (h:Y.K=K):eX Y (compareOp .In) (EK K false):=by subst h;exact HW
theorem WK (h:Y.K=K):eX Y (compareOp .NotIn) (EK K true):=by subst h;exact XH
theorem Hu (hK:Y.K=K) (hc:Y.calm=true) (h:nU Y es t) (hn:(assignEach es Y.env).length=n:=by rfl) (qI:(assignEach es Y.env).findIdx? (·.1)=none:=by rfl):PG Y (.Tuple es k pos) (Q0 K n t):=by
 subst hK;exact uK hc h hn qI
end
section
variable {P:Program} {w:World} {H:Hp} {h:Heap} {a C:Addr} {dx:Option Addr} {t tb:Value}
end
section
variable {X:Cx} {pins:List (Addr×Obj)} {σ:St} {H:Hp} {s:Shared} {a C:Addr} {dx:Option Addr} {t tb:Value}
end
open PySem PySem.Spec PyProof.Rows Builtin
section
variable {prog:Program} {w:World} {A:Around} {E:Value->Shared->Prop} {s:Shared} {K:aF} {x C:Addr} {ox od:Obj} {name:Str}
end
section
variable {X:Cx} {K:aF} {e:Expr} {f:Str} {pos:Pos} {ta:TE}
end
section
end
section
variable {X:Cx} {CX:mI} {k:Nat} {f:Addr} {fd:FuncData} {ps:List Str} {sp:Sp} {ja:List V} {ds:List Value} {E:XK} {x:Str} {p pos:Pos} {e:Expr} {es:List Expr} {t:TA}
end
theorem Dq:∀{xs:List V} {j:Nat} {x:V},xs.all jE=true->xs[j]?=some x->jE x=true
 | [],_,_,_,e=>by simp at e
 | y::xs,j,x,h,e=>by
  rw [List.all_cons,Bool.and_eq_true] at h
  cases j with
  | zero=>simp at e;subst e;exact h.1
  | succ j=>exact Dq h.2 (by simpa using e)
theorem UD (r1:bq xs us) (r2:bq ys vs) (f1:xs.all jE=true) (f2:ys.all jE=true) (j:Nat) (h1:j<us.toArray.size) (h2:j<vs.toArray.size):
 SeqAt.EqAt A s us.toArray[j] vs.toArray[j] (pF (xs.getD j .aU) (ys.getD j .aU)):=by
 have l1:=r1.length;have l2:=r2.length;rw [ik] at h1 h2;have g1:xs[j]?=some (xs.getD j .aU):=by rw [Cm,kK (by lia)];rfl
 have g2:ys[j]?=some (ys.getD j .aU):=by rw [Cm,kK (by lia)];rfl
 obtain ⟨u,hu,ru⟩:=r1.get g1;obtain ⟨v,hv,rv⟩:=r2.get g2;have e1:us.toArray[j]=u:=by
  have:=(gO.mp hu).2;simpa using this
 have e2:vs.toArray[j]=v:=by
  have:=(gO.mp hv).2;simpa using this
 rw [e1,e2];exact M4 ru rv (Dq f1 g1) (Dq f2 g2)
section
variable {X:Cx} {K:aF}
end
section
variable {X:Cx} {K:aF}
end
section
variable {X:Cx} {Rn:List (Addr×Obj)} {Ex:Addr->Option Addr->St->Hp->Prop} {k:Nat} {f:Addr} {fd:FuncData} {ps:List Str} {sp:Sp} {ja:List V} {ds:List Value} {x:Str} {p pos:Pos} {e:Expr} {es:List Expr} {t:TA}
end
def Z6 (t u:TS):TS:=fun D σ H=>∀N:St->Hp->Prop,(∀aa H',u D aa H'->N aa H')->t { D with nx:=N } σ H
theorem cx {X:Cx} {st:Stmt} {rest:List Stmt} {t u:TS} (h1:PS X st t) (h2:g7 X rest u):g7 X (st::rest) (Z6 t u):=fun pins s σ H D I h=>a_ h1 h2 pins s σ H D I (h (u D) fun _ _ z=>z)
def Ab:R2:=fun x y H Q=>∃p xs i v,x=.ref p/\y=.int i/\H p=some (.lst xs)/\iI xs i=some v/\Q v H
def CG:R2:=fun x y H Q=>∃p xs i v,x=.ref p/\y=.int i/\H p=some (.tup xs)/\iI xs i=some v/\Q v H
theorem dW:yn X Ab:=by
 intro value slice pins s σ H x y v u Q I rx ry zz hs;obtain ⟨p,xs,i,v',e1,e2,h,e,q⟩:=zz;exact Hn value slice pins s σ H x y v u Q I rx ry ⟨p,xs,i,v',e1,e2,ax.of h,e,q⟩ hs
theorem Vk:yn X CG:=by
 intro value slice pins s σ H x y v u Q I rx ry zz hs;obtain ⟨p,xs,i,v',e1,e2,h,e,q⟩:=zz;exact M8 value slice pins s σ H x y v u Q I rx ry ⟨p,xs,i,v',e1,e2,c_.of h,e,q⟩ hs
theorem a8 {X:Cx} {a:Expr} {ta:TE} {k:Int} {j pos mi} (h:PE X a ta):PE X (.Subscript a (.Constant (.int k) j mi) pos) (qe CG ta (tC (.int k))):=de Vk h aw (fun _ _=>rfl)
theorem ay (h:H p=some (.tup xs)) (e:iI xs i=some v) (q:Q v H):tC (.int i) σ H fun y H2=>CG (.ref p) y H2 Q:=⟨p,xs,i,v,rfl,rfl,h,e,q⟩
theorem jO (h:H p=some (.lst xs)) (e:iI xs i=some v) (q:Q v H):tC (.int i) σ H fun y H2=>Ab (.ref p) y H2 Q:=⟨p,xs,i,v,rfl,rfl,h,e,q⟩
theorem oW (h0:σ[j]?=some (some (.int i))) (h:H p=some (.lst xs)) (e:iI xs i=some v) (q:Q v H):rq j σ H fun y H2=>Ab (.ref p) y H2 Q:=⟨.int i,h0,p,xs,i,v,rfl,rfl,h,e,q⟩
end L2
namespace MA
def it (f:Nat->Nat):Nat->Nat->Nat
 | 0,x=>x
 | k+1,x=>f (it f k x)
theorem yH (f:Nat->Nat) (a:Nat):∀(b:Nat) (x:Nat),it f (a+b) x=it f a (it f b x):=by
 intro b x
 induction a with
 | zero=>rw [Nat.zero_add];rfl
 | succ a ih=>rw [Nat.succ_add];show f (it f (a+b) x)=f (it f a (it f b x));rw [ih]
theorem zZ (h:∀x,x<n->f x<n) (hx:x<n):∀k,it f k x<n
 | 0=>hx
 | k+1=>h _ (zZ h hx k)
theorem NN (h:∀x,x<n->f x<n) (hx:x<n):∃p,1<=p/\p<=n/\it f p (it f n x)=it f n x:=by
 have nn:¬((List.range (n+1)).map fun k=>it f k x).Nodup:=fun nd=>by
  have:=List.Nodup.length_le_of_subset nd (l₂:=List.range n) (fun y hy=>by
   obtain ⟨k,_,rfl⟩:=eD.mp hy;exact List.mem_range.mpr (zZ h hx k))
  simp at this;exact False.elim (jC n this)
 have ex:∃i j,i<j/\j<=n/\it f i x=it f j x:=by
  apply fj;intro no;apply nn;rw [List.nodup_iff_pairwise_ne,List.pairwise_map];refine List.Pairwise.imp_of_mem (R:=(·<·)) (fun {a b} ha hb lR e=>no ⟨a,b,lR,?_,e⟩) List.pairwise_lt_range;have:=List.mem_range.mp hb;exact Nat.le_of_lt_succ this
 obtain ⟨i,j,fi,hj,e⟩:=ex;refine ⟨j-i,by lia,by lia,?_⟩;have e1:it f n x=it f (n-i) (it f i x):=by rw [<-yH];congr 1;lia
 have e2:it f (j-i) (it f n x)=it f (n-i) (it f j x):=by rw [<-yH,<-yH];congr 1;lia
 rw [e2,e1,e]
end MA
namespace MB
open MA
abbrev B3:=Nat×Nat×Int
structure Rx where
 t:Nat->Int
 p:Nat->Nat
 q:Option Nat
def put (f:Nat->α) (i:Nat) (v:α):Nat->α:=fun j=>if j=i then v else f j
def fG (s:Rx) (x:B3):Rx:=if s.t x.1<s.t x.2.1-x.2.2 then ⟨put s.t x.1 (s.t x.2.1-x.2.2),put s.p x.1 x.2.1,some x.1⟩ else s
def begin (s:Rx):Rx:=⟨s.t,s.p,none⟩
def Zw (B:List B3) (s:Rx):Rx:=B.foldl fG (begin s)
def bg (B:List B3):Nat->Rx
 | 0=>⟨fun _=>0,fun _=>0,none⟩
 | k+1=>Zw B (bg B k)
def Cs (n:Nat) (B:List B3):Prop:=∀x∈B,x.1<n/\x.2.1<n
structure Rx.In (s:Rx) (n:Nat):Prop where
 p:∀i,s.p i<n
 q:∀i,s.q=some i->i<n
theorem VX (h:s.In n) (h1:x.1<n) (h2:x.2.1<n):(fG s x).In n:=by
 unfold fG;split
 ·refine ⟨fun i=>?_,fun i e=>?_⟩
  ·show put s.p x.1 x.2.1 i<n;unfold put;split
   ·exact h2
   ·exact h.p i
  ·have:x.1=i:=eF e;lia
 ·exact h
theorem Nr:∀{B:List B3} {s:Rx},s.In n->Cs n B->(B.foldl fG s).In n
 | [],_,h,_=>h
 | x::B,s,h,hb=>by
  rw [List.foldl_cons];exact Nr (VX h (hb x eG).1 (hb x eG).2) fun y hy=>hb y (gz _ hy)
theorem V6 (h:s.In n):(begin s).In n:=⟨h.p,fun _ e=>nomatch e⟩
theorem DD (hn:0<n) (hb:Cs n B):∀k,(bg B k).In n
 | 0=>⟨fun _=>hn,fun _ e=>nomatch e⟩
 | k+1=>Nr (V6 (DD hn hb k)) hb
def CK (f:Nat->Nat) (n x:Nat) (ring:List Nat):Prop:=∃L,1<=L/\L<=n/\ring=(List.range L).map (fun j=>it f j (it f n x))/\it f L (it f n x)=it f n x/\∀j,0<j->j<L->it f j (it f n x)≠it f n x
structure Gh where
 s:Rx
 m:Nat->Int
 τ:Nat->Nat
 r:Nat->Nat
 c:Nat
def iR (k:Nat) (g:Gh) (x:B3):Gh:=if g.s.t x.1<g.s.t x.2.1-x.2.2 then ⟨fG g.s x,put g.m x.1 x.2.2,put g.τ x.1 (g.c+1),put g.r x.1 k,g.c+1⟩ else g
def T3 (B:List B3) (k:Nat) (g:Gh):Gh:=B.foldl (iR k) { g with s:=begin g.s }
def uS (B:List B3):Nat->Gh
 | 0=>⟨⟨fun _=>0,fun _=>0,none⟩,fun _=>0,fun _=>0,fun _=>0,0⟩
 | k+1=>T3 B (k+1) (uS B k)
theorem VW:(iR k g x).s=fG g.s x:=by
 unfold iR;split
 ·rfl
 ·rename_i h
  unfold fG;rw [if_neg h]
theorem Nq:∀{B:List B3} {g:Gh},(B.foldl (iR k) g).s=B.foldl fG g.s
 | [],_=>rfl
 | x::B,g=>by rw [List.foldl_cons,List.foldl_cons,Nq,VW]
theorem PD:∀k,(uS B k).s=bg B k
 | 0=>rfl
 | k+1=>by
  show (B.foldl (iR (k+1)) { uS B k with s:=begin (uS B k).s }).s=B.foldl fG (begin (bg B k));rw [Nq,PD k]
structure Inv (B:List B3) (k:Nat) (g:Gh):Prop where
 mem:∀v,1<=g.r v->(v,g.s.p v,g.m v)∈B
 le:∀v,1<=g.r v->g.s.t v<=g.s.t (g.s.p v)-g.m v
 st:∀v,1<=g.r v->g.s.p v≠v->g.s.t v<g.s.t (g.s.p v)-g.m v\/g.τ (g.s.p v)<g.τ v
 lo:∀v,1<=g.r v->g.s.p v=v->g.m v<0
 cl:∀v,g.τ v<=g.c
 rr:∀v,g.r v<=k
 ch:∀v,1<=g.r v->g.r v<=g.r (g.s.p v)+1
 bd:∀x∈B,g.s.t x.2.1-x.2.2<=g.s.t x.1\/k<=g.r x.2.1+1
 q:∀v,g.s.q=some v->g.r v=k
theorem Ib (h:Inv B k g) (hk:1<=k) (hx:x∈B):Inv B k (iR k g x):=by
 obtain ⟨a,b,m⟩:=x
 by_cases hc:g.s.t a<g.s.t b-m
 ·have e:iR k g (a,b,m)=⟨⟨put g.s.t a (g.s.t b-m),put g.s.p a b,some a⟩,put g.m a m,put g.τ a (g.c+1),put g.r a k,g.c+1⟩:=by
   unfold iR;rw [if_pos hc];unfold fG;rw [if_pos hc]
  rw [e];have hb1:=(h.bd (a,b,m) hx).resolve_left (by show ¬g.s.t b-m<=g.s.t a;exact Int.not_le.mpr hc);have nK:k<=g.r b+1:=hb1;have up:∀v,g.s.t v<=put g.s.t a (g.s.t b-m) v:=fun v=>by
   unfold put;split
   ·rename_i z;rw [z];exact f_ hc
   ·lia
  have II:∀v,g.r v<=put g.r a k v:=fun v=>by
   unfold put;split
   ·rename_i z;rw [z];exact h.rr a
   ·exact Nat.le.refl
  refine ⟨fun v hv=>?_,fun v hv=>?_,fun v hv hp=>?_,fun v hv hp=>?_,fun v=>?_,fun v=>?_,fun v hv=>?_,fun y hy=>?_,fun v hv=>?_⟩
  ·by_cases e:v=a
   ·subst e;simp [put];exact hx
   ·simp only [put,if_neg e] at hv ⊢;exact h.mem v hv
  ·by_cases e:v=a
   ·subst e;have:=up b;simp only [put,if_pos] at this ⊢;lia
   ·simp only [put,if_neg e] at hv ⊢;have h1:=h.le v hv;have h2:=up (g.s.p v);simp only [put] at h2;lia
  ·by_cases e:v=a
   ·subst e;have gF:b≠v:=by simpa [put] using hp
    right;have h1:=h.cl b;simp only [put,if_pos,if_neg gF];lia
   ·simp only [put,if_neg e] at hv hp ⊢
    by_cases e2:g.s.p v=a
    ·left;have h1:=h.le v hv;rw [e2] at h1 ⊢;simp only [if_pos];lia
    ·rw [if_neg e2,if_neg e2];exact h.st v hv hp
  ·by_cases e:v=a
   ·subst e;have gF:b=v:=by simpa [put] using hp
    subst gF;simp only [put,if_pos];lia
   ·simp only [put,if_neg e] at hv hp ⊢;exact h.lo v hv hp
  ·have h1:=h.cl v;show put g.τ a (g.c+1) v<=g.c+1;unfold put;split<;>lia
  ·have h1:=h.rr v;show put g.r a k v<=k;unfold put;split<;>lia
  ·by_cases e:v=a
   ·subst e;have h2:=II b;show put g.r v k v<=put g.r v k (put g.s.p v b v)+1;have e1:put g.r v k v=k:=by simp [put]
    have e2:put g.s.p v b v=b:=by simp [put]
    rw [e1,e2];lia
   ·have e1:put g.r a k v=g.r v:=by simp [put,e]
    have e2:put g.s.p a b v=g.s.p v:=by simp [put,e]
    show put g.r a k v<=put g.r a k (put g.s.p a b v)+1;have fg:1<=g.r v:=by rw [<-e1];exact hv
    have h1:=h.ch v fg;have h2:=II (g.s.p v);rw [e1,e2];lia
  ·obtain ⟨a',b',m'⟩:=y;show put g.s.t a (g.s.t b-m) b'-m'<=put g.s.t a (g.s.t b-m) a'\/k<=put g.r a k b'+1
   by_cases e:b'=a
   ·right;have:put g.r a k b'=k:=by simp [put,e]
    lia
   ·have e1:put g.s.t a (g.s.t b-m) b'=g.s.t b':=by simp [put,e]
    rcases h.bd (a',b',m') hy with z | z
    ·left;have z:g.s.t b'-m'<=g.s.t a':=z;have h2:=up a';rw [e1];lia
    ·right;have z:k<=g.r b'+1:=z;have h2:=II b';lia
  ·have:a=v:=eF hv;subst this;simp [put]
 ·have e:iR k g (a,b,m)=g:=by
   unfold iR;rw [if_neg hc]
  rw [e];exact h
def yq (k:Nat) (g:Gh) (x:B3):Prop:=g.s.t x.2.1-x.2.2<=g.s.t x.1\/k<=g.r x.2.1
theorem Xc (hr:∀v,g.r v<=k) (h:yq k g y):yq k (iR k g x) y:=by
 obtain ⟨a,b,m⟩:=x;obtain ⟨a',b',m'⟩:=y
 by_cases hc:g.s.t a<g.s.t b-m
 ·have e:iR k g (a,b,m)=⟨⟨put g.s.t a (g.s.t b-m),put g.s.p a b,some a⟩,put g.m a m,put g.τ a (g.c+1),put g.r a k,g.c+1⟩:=by
   unfold iR;rw [if_pos hc];unfold fG;rw [if_pos hc]
  rw [e];show put g.s.t a (g.s.t b-m) b'-m'<=put g.s.t a (g.s.t b-m) a'\/k<=put g.r a k b'
  by_cases e:b'=a
  ·right;simp [put,e]
  ·have e1:put g.s.t a (g.s.t b-m) b'=g.s.t b':=by simp [put,e]
   have e2:put g.r a k b'=g.r b':=by simp [put,e]
   have up:g.s.t a'<=put g.s.t a (g.s.t b-m) a':=by
    unfold put;split
    ·rename_i z;rw [z];exact f_ hc
    ·lia
   rcases h with z | z
   ·left;have z:g.s.t b'-m'<=g.s.t a':=z;rw [e1];lia
   ·right;rw [e2];exact z
 ·have e:iR k g (a,b,m)=g:=by
   unfold iR;rw [if_neg hc]
  rw [e];exact h
theorem Wv:yq k (iR k g x) x:=by
 obtain ⟨a,b,m⟩:=x
 by_cases hc:g.s.t a<g.s.t b-m
 ·have e:iR k g (a,b,m)=⟨⟨put g.s.t a (g.s.t b-m),put g.s.p a b,some a⟩,put g.m a m,put g.τ a (g.c+1),put g.r a k,g.c+1⟩:=by
   unfold iR;rw [if_pos hc];unfold fG;rw [if_pos hc]
  rw [e];show put g.s.t a (g.s.t b-m) b-m<=put g.s.t a (g.s.t b-m) a\/k<=put g.r a k b
  by_cases e:b=a
  ·right;simp [put,e]
  ·left;simp [put,e]
 ·have e:iR k g (a,b,m)=g:=by
   unfold iR;rw [if_neg hc]
  rw [e];left;show g.s.t b-m<=g.s.t a;lia
theorem HP (hk:1<=k):∀(C:List B3) (g:Gh),(∀x∈C,x∈B)->Inv B k g->Inv B k (C.foldl (iR k) g)
 | [],_,_,h=>h
 | x::C,g,hc,h=>HP hk C _ (fun y hy=>hc y (gz _ hy)) (Ib h hk (hc x eG))
theorem OY (hk:1<=k):∀(C:List B3) (g:Gh),(∀x∈C,x∈B)->Inv B k g->yq k g y->yq k (C.foldl (iR k) g) y
 | [],_,_,_,h=>h
 | x::C,g,hc,hi,h=>OY hk C _ (fun y hy=>hc y (gz _ hy)) (Ib hi hk (hc x eG)) (Xc hi.rr h)
theorem OX (hk:1<=k):∀(C:List B3) (g:Gh),(∀x∈C,x∈B)->Inv B k g->∀y∈C,yq k (C.foldl (iR k) g) y
 | x::C,g,hc,hi,y,hy=>by
  have kG:=Ib hi hk (hc x eG);have jh:∀z∈C,z∈B:=fun z hz=>hc z (gz _ hz);rcases eV.mp hy with e | e
  ·subst e;exact OY hk C _ jh kG Wv
  ·exact OX hk C _ jh kG y e
theorem PR:∀k,Inv B (k+1) { uS B k with s:=begin (uS B k).s }
 | 0=>⟨fun v hv=>absurd hv (by show ¬1<=0;lia),fun v hv=>absurd hv (by show ¬1<=0;lia),fun v hv=>absurd hv (by show ¬1<=0;lia),fun v hv=>absurd hv (by show ¬1<=0;lia),fun v=>az _,fun v=>d9 _,fun v hv=>absurd hv (by show ¬1<=0;lia),
  fun x hx=>.inr (by show 0+1<=0+1;exact Nat.le.refl),fun v hv=>by cases hv⟩
 | k+1=>by
  have h0:=PR (B:=B) k;have h1:=HP (B:=B) (by lia) B _ (fun x hx=>hx) h0;have hd:=OX (B:=B) (by lia) B _ (fun x hx=>hx) h0;exact ⟨h1.mem,h1.le,h1.st,h1.lo,h1.cl,fun v=>Nat.le_succ_of_le (h1.rr v),h1.ch,fun x hx=>(hd x hx).elim .inl fun z=>.inr (Nat.succ_le_succ z),fun v hv=>by cases hv⟩
theorem Xy (k:Nat):Inv B (k+1) (uS B (k+1)):=HP (B:=B) (by lia) B _ (fun x hx=>hx) (PR k)
def rD (p:Nat->Nat) (f:Nat->Int):Nat->Nat->Int
 | 0,_=>0
 | j+1,s=>rD p f j s+f (it p j s)
theorem VZ (hn:1<=n) (hb:Cs n B) (hq:(bg B n).q=some x) (hr:CK (bg B n).p n x ring):
 ∃(L s:Nat) (m:Nat->Int),1<=L/\L<=n/\ring=(List.range L).map (fun j=>it (bg B n).p j s)/\it (bg B n).p L s=s/\(∀j,j<L->(it (bg B n).p j s,it (bg B n).p (j+1) s,m (it (bg B n).p j s))∈B)/\rD (bg B n).p m L s<0:=by
 obtain ⟨k,rfl⟩:∃k,n=k+1:=⟨n-1,by lia⟩;have I:=Xy (B:=B) k;have es:=PD (B:=B) (k+1);rw [<-es] at hq hr ⊢;generalize uS B (k+1)=g at*;have gx:g.s.In (k+1):=by rw [es];exact DD (by exact hn) hb _
 have hx:x<k+1:=gx.q x hq;have zp:g.r x=k+1:=I.q x hq;have step:∀j,j<=k->k+1<=g.r (it g.s.p j x)+j:=fun j=>by
  induction j with
  | zero=>intro _;show k+1<=g.r x+0;lia
  | succ j ih=>
   intro hj;have h1:=ih (by exact bp hj);have h2:=I.ch (it g.s.p j x) (by lia);show k+1<=g.r (g.s.p (it g.s.p j x))+(j+1);lia
 have lt:∀j,it g.s.p j x<k+1:=fun j=>zZ (fun y _=>gx.p y) hx j;have among:∀j,∃i,i<=k/\it g.s.p j x=it g.s.p i x:=by
  have ex:∃i j,i<j/\j<=k+1/\it g.s.p i x=it g.s.p j x:=by
   apply fj;intro no;have nd:((List.range (k+1+1)).map fun j=>it g.s.p j x).Nodup:=by
    rw [List.nodup_iff_pairwise_ne,List.pairwise_map];refine List.Pairwise.imp_of_mem (R:=(·<·)) (fun {a b} ha hb lR e=>no ⟨a,b,lR,?_,e⟩) List.pairwise_lt_range;have:=List.mem_range.mp hb;lia
   have:=List.Nodup.length_le_of_subset nd (l₂:=List.range (k+1)) (fun y hy=>by
    obtain ⟨j,_,rfl⟩:=eD.mp hy;exact List.mem_range.mpr (lt j))
   simp at this;exact False.elim (jC k this)
  obtain ⟨i,j,fi,hj,e⟩:=ex;intro d
  induction d with
  | zero=>exact ⟨0,d9 _,rfl⟩
  | succ d ih=>
   obtain ⟨c,hc,ec⟩:=ih
   by_cases h:c+1<=k
   ·exact ⟨c+1,h,congrArg g.s.p ec⟩
   ·
    have hck:c=k:=by lia
    subst hck;have e2:it g.s.p (c+1) x=it g.s.p (i+(c+1-j)) x:=by
     have a1:it g.s.p (c+1) x=it g.s.p (c+1-j) (it g.s.p j x):=by rw [<-yH];congr 1;omega
     have a2:it g.s.p (i+(c+1-j)) x=it g.s.p (c+1-j) (it g.s.p i x):=by rw [<-yH];congr 1;lia
     rw [a1,a2,e]
    exact ⟨i+(c+1-j),by omega,(congrArg g.s.p ec).trans e2⟩
 have wW:∀j,1<=g.r (it g.s.p j x):=fun j=>by
  obtain ⟨i,hi,e⟩:=among j;rw [e];have:=step i hi;lia
 obtain ⟨L,L1,Ln,er,eL,cW⟩:=hr;have pS:∀j,1<=g.r (it g.s.p j (it g.s.p (k+1) x)):=fun j=>by rw [<-yH];exact wW _
 generalize it g.s.p (k+1) x=s at*;refine ⟨L,s,g.m,L1,Ln,er,eL,fun j hj=>I.mem _ (pS j),?_⟩;have IP:∀j,rD g.s.p g.m j s<=g.s.t (it g.s.p j s)-g.s.t s:=fun j=>by
  induction j with
  | zero=>show (0:Int)<=g.s.t s-g.s.t s;lia
  | succ j ih=>
   have h1:=I.le _ (pS j);show rD g.s.p g.m j s+g.m (it g.s.p j s)<=g.s.t (g.s.p (it g.s.p j s))-g.s.t s;lia
 by_cases hL:L=1
 ·subst hL;have h1:=I.lo s (pS 0) eL;show (0:Int)+g.m s<0;lia
 ·
  have alt:∀j,j<=L->rD g.s.p g.m j s<g.s.t (it g.s.p j s)-g.s.t s\/g.τ (it g.s.p j s)+j<=g.τ s:=fun j=>by
   induction j with
   | zero=>intro _;right;show g.τ s+0<=g.τ s;exact Nat.le.refl
   | succ j ih=>
    intro hj;have hnj:g.s.p (it g.s.p j s)≠it g.s.p j s:=fun z=>by
     have fv:∀d,it g.s.p (j+d) s=it g.s.p j s:=fun d=>by
      induction d with
      | zero=>rfl
      | succ d ih2=>show g.s.p (it g.s.p (j+d) s)=_;rw [ih2];exact z
     have e1:=fv (L-j);rw [show j+(L-j)=L by lia,eL] at e1;have e2:it g.s.p 1 s=s:=by
      show g.s.p s=s;have z':=z;rw [<-e1] at z';exact z'
     exact cW 1 (by exact Nat.le.refl) (by lia) e2
    have h1:=I.le _ (pS j);rcases ih (by exact bp hj) with h2 | h2
    ·left;show rD g.s.p g.m j s+g.m (it g.s.p j s)<g.s.t (g.s.p (it g.s.p j s))-g.s.t s;lia
    ·rcases I.st _ (pS j) hnj with h3 | h3
     ·left;have h4:=IP j;show rD g.s.p g.m j s+g.m (it g.s.p j s)<g.s.t (g.s.p (it g.s.p j s))-g.s.t s;lia
     ·right;show g.τ (g.s.p (it g.s.p j s))+(j+1)<=g.τ s;lia
  rcases alt L (az _) with h | h
  ·rw [eL] at h;lia
  ·rw [eL] at h;lia
theorem Wi {B:List B3} {p:Nat->Nat} {L s:Nat} {m:Nat->Int} (eL:it p L s=s) (hm:∀j,j<L->(it p j s,it p (j+1) s,m (it p j s))∈B) (hs:rD p m L s<0) (t:Nat->Int) (ht:∀x∈B,t x.2.1-t x.1<=x.2.2):False:=by
 have:∀j,j<=L->t (it p j s)-t s<=rD p m j s:=fun j=>by
  induction j with
  | zero=>intro _;show t s-t s<=0;lia
  | succ j ih=>
   intro hj;have h1:=ih (by exact bp hj);have h2:t (it p (j+1) s)-t (it p j s)<=m (it p j s):=ht _ (hm j (by exact hj));show t (it p (j+1) s)-t s<=rD p m j s+m (it p j s);lia
 have h:=this L (az _);rw [eL] at h;lia
theorem Ww {B:List B3} {n:Nat} (hn:1<=n) (hb:Cs n B):(∃k,k<n/\(bg B (k+1)).q=none)\/((∀k,k<n->(bg B (k+1)).q≠none)/\¬∃p:Nat->Int,∀x∈B,p x.2.1-p x.1<=x.2.2):=by
 by_cases h:∃k,k<n/\(bg B (k+1)).q=none
 ·exact .inl h
 ·have lz:∀k,k<n->(bg B (k+1)).q≠none:=fun k hk e=>h ⟨k,hk,e⟩;refine .inr ⟨lz,?_⟩;rintro ⟨p,hp⟩;have hq:=lz (n-1) (by omega);rw [show n-1+1=n by lia] at hq
  cases hx:(bg B n).q with
  | none=>exact hq hx
  | some x=>
   have gx:=DD (n:=n) (by exact hn) hb n;obtain ⟨ze,h1,h2,h3⟩:=NN (fun y _=>gx.p y) (gx.q x hx);have least:∃L,1<=L/\L<=n/\it (bg B n).p L (it (bg B n).p n x)=it (bg B n).p n x/\∀j,0<j->j<L->it (bg B n).p j (it (bg B n).p n x)≠it (bg B n).p n x:=by
    have:∀d L,1<=L->L<=n->L<=d->it (bg B n).p L (it (bg B n).p n x)=it (bg B n).p n x->∃L,1<=L/\L<=n/\it (bg B n).p L (it (bg B n).p n x)=it (bg B n).p n x/\∀j,0<j->j<L->it (bg B n).p j (it (bg B n).p n x)≠it (bg B n).p n x:=by
     intro d
     induction d with
     | zero=>intro L a _ b;lia
     | succ d ih=>
      intro L a1 a2 a3 a4
      by_cases z:∀j,0<j->j<L->it (bg B n).p j (it (bg B n).p n x)≠it (bg B n).p n x
      ·exact ⟨L,a1,a2,a4,z⟩
      ·have:∃j,0<j/\j<L/\it (bg B n).p j (it (bg B n).p n x)=it (bg B n).p n x:=by
        apply fj;intro no;exact z fun j b1 b2 b3=>no ⟨j,b1,b2,b3⟩
       obtain ⟨j,b1,b2,b3⟩:=this;exact ih j b1 (by lia) (by lia) b3
    exact this n ze h1 h2 h2 h3
   obtain ⟨L,l1,l2,l3,l4⟩:=least;obtain ⟨L',s,m,_,_,_,e1,e2,e3⟩:=VZ (n:=n) (x:=x) hn hb hx ⟨L,l1,l2,rfl,l3,l4⟩;exact Wi e1 e2 e3 p hp
end MB
namespace Y0
open PySem L2
def top (i:Nat):Stmt:=PySem.Challenge.pw_momentties_k17_looser_is_kept_too.main.body.getD i (.Pass ⟨0,0,0,0⟩)
abbrev cO:Stmt:=ma (top 3) 0
abbrev c7:Stmt:=top 5
abbrev cz:Stmt:=top 6
abbrev c9:Stmt:=top 7
abbrev bH:Stmt:=top 8
abbrev c8:Stmt:=top 9
abbrev bE:Stmt:=top 10
abbrev br:Stmt:=top 12
abbrev eK:Stmt:=top 13
abbrev b_:Stmt:=top 16
abbrev e_:Stmt:=top 17
abbrev dM:Stmt:=top 18
abbrev dJ:Stmt:=top 19
abbrev dH:Stmt:=top 20
abbrev dN:Stmt:=top 21
abbrev di:Stmt:=top 22
abbrev bu:Stmt:=top 23
abbrev bj:Stmt:=top 24
abbrev cQ:Stmt:=ma (top 26) 0
abbrev ck:Stmt:=ma (top 26) 1
abbrev cP:Stmt:=ma (top 26) 2
abbrev cb:Stmt:=ma (top 26) 3
abbrev aY:Stmt:=ma (top 26) 4
abbrev bo:Stmt:=ma (top 26) 5
abbrev aW:Stmt:=ma (top 26) 6
abbrev aS:Stmt:=ma (top 26) 7
abbrev bQ:Stmt:=ma (top 26) 8
abbrev aQ:Stmt:=ma (top 26) 9
abbrev bx:Stmt:=top 27
abbrev bJ:Stmt:=top 28
abbrev dG:Stmt:=top 29
abbrev gC:Stmt:=top 30
abbrev aO:Stmt:=top 36
abbrev bC:Stmt:=top 37
abbrev bz:Stmt:=top 38
abbrev aN:Stmt:=top 39
abbrev eO:Stmt:=ma (top 40) 0
abbrev eN:Stmt:=ma (top 40) 1
abbrev dP:Stmt:=ma (top 40) 2
abbrev cZ:Stmt:=ma (top 40) 3
abbrev iV:Stmt:=top 42
abbrev jM:Stmt:=top 43
abbrev jN:Stmt:=top 44
abbrev kY:Stmt:=top 45
abbrev qh:Stmt:=top 46
abbrev fe:Stmt:=top 47
abbrev gD:Stmt:=top 48
abbrev qi:Stmt:=top 49
structure Fn (K:aF) (mg:Str->Option Value) (x:Str) (st:Stmt) (ps:List Str) (f:Addr) (fd:FuncData):Prop where
 F:gZ K x x st f fd
 b:eY K fd ps []
 g:mg x=some (.ref f)
theorem cf {X:Cx} {k:Nat} {f:Addr} {fd:FuncData} {ps:List Str} {sp:Sp} {x:Str} {st:Stmt} {e:Expr} {es:List Expr} {t:TA} {p pos:Pos} (G:ar X.prog X.w X.K X.mg X.base a9 k f fd ps sp) (hr:cY k X.A) (F:Fn X.K X.mg x st ps f fd) (ha:PA X (e::es) t) (hg:Gl X x:=by rfl) (m5:(x==("__debug__":Str))=false:=by decide) (he:starEach (e::es) X.env=(false,eval e X.env)::starEach es X.env:=by rfl) (fh:(backTo pos (starEach es X.env)).any (·.1)=false:=by rfl):PE X (.Call (.Name x p) (e::es) [] pos) (F_ sp [] E0 t):=Hs G hr hg F.g F.F.kp F.b .nil gv ha m5 he fh
end Y0
namespace L2
open PySem
def cp (d:Addr) (H H':Hp):Prop:=∀b o,H b=some o->b≠d->H' b=some o
theorem cp.refl (d:Addr) (H:Hp):cp d H H:=fun _ _ e _=>e
theorem cp.trans (x:cp d H H1) (y:cp d H1 H2):cp d H H2:=fun b o e n=>y b o (x b o e n) n
theorem aI.keep (x:aI H H1):cp d H H1:=fun b o e _=>x b o e
theorem aG (h:H p=none):aI H (upd H p o):=fun b u e=>by rw [ak (aR e h)];exact e
end L2
namespace Y0
open PySem L2
def pM (K:aF) (H:Hp) (sa:Addr) (ns:List Int):Prop:=(∃o,H sa=some (.gH o (.lst (ns.map V.int))))\/
 ∃(o:Obj) (its:Array Value) (n:Nat),K.lookup sa=some o/\o.cls=.type "list"/\o.dict=none/\o.data=.seq its n/\its.size<=sizeLine/\bq (ns.map V.int) its.toList
theorem pM.sq {K:aF} (h:pM K H sa ns):ax K H sa (ns.map V.int):=by
 rcases h with ⟨o,h⟩ | h
 ·exact .inl (.inr ⟨o,h⟩)
 ·exact .inr h
theorem pM.same {K:aF} (h:pM K H sa ns) (k:aI H H1):pM K H1 sa ns:=by
 rcases h with ⟨o,h⟩ | h
 ·exact .inl ⟨o,k _ _ h⟩
 ·exact .inr h
theorem pM.keep {K:aF} (h:pM K H sa ns) (k:cp l H H1) (hl:H l=some (.lst xs)):pM K H1 sa ns:=by
 rcases h with ⟨o,h⟩ | h
 ·exact .inl ⟨o,k _ _ h (cH h hl nofun)⟩
 ·exact .inr h
structure dD (K:aF) (sa:Addr) (H:Hp) (d:Addr):Prop where
 at_:∃p:Nat,H d=some (.lst [.ref sa,.int p])
 scr:∃ns:List Int,pM K H sa ns
theorem dD.same {K:aF} (x:dD K sa H d) (k:aI H H1):dD K sa H1 d:=by
 obtain ⟨⟨p,h⟩,⟨ns,r⟩⟩:=x;exact ⟨⟨p,k _ _ h⟩,⟨ns,r.same k⟩⟩
def Al (K:aF):Sp:=fun vs H Q _=>∃d sa m,vs=[.ref d,.int m]/\dD K sa H d/\1<=m/\∀r H',0<=r->r<m->dD K sa H' d->cp d H H'->Q (.int r) H'
theorem scN:cG ["_law_dice","_law_many"] ["_law_dice","_law_many"] (aZ iV):=cV
theorem tU (F:Fn K mg "_law_next" iV ["_law_dice","_law_many"] f fd) (len:mg "len"=none):ar P w K mg base a9 1 f fd ["_law_dice","_law_many"] (Al K):=by
 refine F.F.ok scN (fun _ _ _ _ h=>?_) fun _ A _ s H _ Q E hr h=>?_
 ·obtain ⟨d,sa,m,rfl,_⟩:=h;rfl
 ·obtain ⟨d,sa,m,rfl,D,hm,k⟩:=h;obtain ⟨⟨p,hd⟩,⟨ns,hs0⟩⟩:=id D;refine ⟨_,a_ (uL (bP g9 (de dW (pv 0) aw (fun _ _=>rfl)) aw) (yC (pv 0) aw yR))
   (a_ (dR (dh Ms (de dW (pv 0) aw (fun _ _=>rfl)) (jx wC (by rfl) len uy (bM (de dW (pv 0) aw (fun _ _=>rfl))))) (aE (cC aw)) dZ)
   (aE (cC (bP G_ (de Hn (de dW (pv 0) aw (fun _ _=>rfl)) (bP iQ (de dW (pv 0) aw (fun _ _=>rfl)) aw) (fun _ _=>rfl)) (pv 1))))),?_⟩
  refine ⟨_,rfl,jO hd rfl ⟨_,_,rfl,rfl,_,rfl,_,_,_,_,rfl,rfl,hd,rfl,?_⟩⟩;have BN:upd H d (.lst ([V.ref sa,V.int p].set 1 (.int ((p:Int)+1)))) d=some (.lst [.ref sa,.int ((p:Int)+1)]):=ai;have kp:cp d H (upd H d (.lst ([V.ref sa,V.int p].set 1 (.int ((p:Int)+1))))):=fun b o e n=>by rw [ak n];exact e
  have jT:=hs0.keep kp hd;have RX:=jT.sq;have D1:dD K sa (upd H d (.lst ([V.ref sa,V.int p].set 1 (.int ((p:Int)+1))))) d:=⟨⟨p+1,BN⟩,⟨ns,jT⟩⟩;refine ⟨_,rfl,jO BN rfl ⟨_,rfl,jO BN rfl ⟨_,_,rfl,.inl RX,_,_,rfl,rfl,_,rfl,?_⟩⟩⟩;refine hV (fun _=>?_) (fun hc=>?_)
  ·exact k 0 _ (Int.le_refl _) (by exact hm) D1 kp
  ·have bb:p<ns.length:=by
    rw [aB] at hc;simp only [yj] at hc;omega
   have ha:iI (ns.map V.int) ((p:Int)+1-1)=some (.int ns[p]):=by
    rw [show (p:Int)+1-1=((p:Nat):Int) by lia];exact ko (by rw [f9,kK bb];rfl)
   refine ⟨_,rfl,jO BN rfl ⟨_,rfl,jO BN rfl ⟨_,_,rfl,rfl,_,_,_,_,rfl,rfl,RX,ha,_,rfl,_,_,rfl,rfl,(by show (0:Int)<m;exact hm),?_⟩⟩⟩;exact k _ _ (Int.emod_nonneg _ (by exact Int.ne_of_gt hm)) (Int.emod_lt_of_pos _ (by exact hm)) D1 kp
end Y0
namespace L2
open PySem
def Y' (t:TS):TS:=fun D σ H=>∃R:St->Hp->Prop,t { D with nx:=R } σ H/\∀aa H',R aa H'->D.nx aa H'
theorem yE (h:PS X st t):PS X st (Y' t):=by
 intro pins s σ H D I hw;obtain ⟨R,h1,h2⟩:=hw;refine av (h pins s σ H _ I h1) fun f s1 q=>?_
 cases f with
 | next=>obtain ⟨aa,H',I',r⟩:=q;exact ⟨aa,H',I',h2 aa H' r⟩
 | brk=>exact q
 | cont=>exact q
 | ret v=>exact q
theorem Tw (h:PS X.zg st t):PS X st t:=fun pins s σ H D I hw=>
 wpAny_mono (h pins s σ H D (I.iU _) hw) (fun _ _ q=>q.dF) fun _ _ z=>False.elim z
def fC (H:Hp) (a:Addr) (ps:List Addr) (rows:List (List Int)):Prop:=H a=some (.lst (ps.map V.ref))/\Paired (fun p r=>H p=some (.tup (r.map V.int))) ps rows
def eJ (H:Hp) (a:Addr) (rows:List (List Int)):Prop:=∃ps,fC H a ps rows
theorem gL (h:Paired F l m) (i:∀a b,F a b->G a b):Paired G l m:=Paired.xk h i
theorem fC.same (h:fC H a ps rows) (k:aI H H'):fC H' a ps rows:=⟨k _ _ h.1,gL h.2 fun _ _ e=>k _ _ e⟩
theorem fC.keep (h:fC H a ps rows) (k:cp d H H') (hd:H d=some (.lst xs)) (ne:a≠d):fC H' a ps rows:=
 ⟨k _ _ h.1 ne,gL h.2 fun _ _ e=>k _ _ e (cH e hd nofun)⟩
theorem eJ.same (h:eJ H a rows) (k:aI H H'):eJ H' a rows:=let ⟨ps,r⟩:=h;⟨ps,r.same k⟩
theorem eJ.keep (h:eJ H a rows) (k:cp d H H') (hd:H d=some (.lst xs)) (ne:a≠d):eJ H' a rows:=let ⟨ps,r⟩:=h;⟨ps,r.keep k hd ne⟩
theorem fC.len (h:fC H a ps rows):ps.length=rows.length:=h.2.length
theorem fC.push (h:fC H a ps rows) (hp:H p=some (.tup (r.map V.int))):fC (upd H a (.lst (ps.map V.ref++[.ref p]))) a (ps++[p]) (rows++[r]):=by
 have na:∀q xs,H q=some (.tup xs)->q≠a:=fun q xs e=>cH e h.1 nofun;refine ⟨by rw [ai,ef];rfl,Paired.snoc (gL h.2 fun q r e=>?_) ?_⟩
 ·rw [ak (na q _ e)];exact e
 ·rw [ak (na p _ hp)];exact hp
theorem oq (k:cp d H0 H) (h:H0 l=none):cp d H0 (upd H l o):=fun b u e n=>by
 rw [ak (aR e h)];exact k b u e n
theorem cp.free (k:cp d H0 H) (h:H l=none) (hd:∃o,H d=some o):H0 l=none:=by
 cases q:H0 l with
 | none=>rfl
 | some o=>
  by_cases e:l=d
  ·subst e;obtain ⟨o',e'⟩:=hd;rw [h] at e';cases e'
  ·rw [k l o q e] at h;cases h
end L2
namespace Y0
open PySem L2
theorem dD.there {K:aF} (x:dD K sa H d):∃o,H d=some o:=let ⟨p,e⟩:=x.at_;⟨_,e⟩
theorem dD.upd {K:aF} (x:dD K sa H d) (hl:H l=some (.lst xs)) (hd:l≠d):dD K sa (upd H l o) d:=by
 obtain ⟨⟨p,h⟩,⟨ns,r⟩⟩:=x;exact ⟨⟨p,by rw [ak (aD hd)];exact h⟩,⟨ns,r.keep (fun b u e n=>by rw [ak n];exact e) hl⟩⟩
theorem dD.new {K:aF} (x:dD K sa H d) (hl:H l=none):dD K sa (L2.upd H l o) d:=x.same (aG hl)
def g8 (m n t:Int):Int:=if m=0 then 0 else 1+(m-1+t) % (n-1)
def ND:Sp:=fun vs H Q _=>∃m n t,vs=[.int m,.int n,.int t]/\2<=n/\Q (.int (g8 m n t)) H
theorem YF:cG ["_law_moment","_law_many","_law_turn"] ["_law_moment","_law_many","_law_turn"] (aZ jM):=cV
theorem qm (F:Fn K mg "_law_named" jM ["_law_moment","_law_many","_law_turn"] f fd):ar P w K mg base a9 1 f fd ["_law_moment","_law_many","_law_turn"] ND:=by
 refine F.F.ok YF (fun _ _ _ _ h=>?_) fun _ A _ s H _ Q E hr h=>?_
 ·obtain ⟨m,n,t,rfl,_⟩:=h;rfl
 ·obtain ⟨m,n,t,rfl,hn,k⟩:=h;refine ⟨_,a_ (dR (dh gu (pv 0) aw) (aE (cC aw)) dZ)
   (aE (cC (bP g9 aw (bP G_ (bP g9 (bP iQ (pv 0) aw) (pv 2)) (bP iQ (pv 1) aw))))),?_⟩
  refine ⟨_,rfl,rfl,_,rfl,?_⟩;refine hV (fun hc=>?_) (fun hc=>?_)
  ·have e:m=0:=by simpa using hc
   have q:g8 m n t=0:=by unfold g8;rw [if_pos e]
   rw [q] at k;exact k
  ·have e:¬m=0:=by simpa using hc
   have q:g8 m n t=1+(m-1+t) % (n-1):=by unfold g8;rw [if_neg e]
   rw [q] at k;exact ⟨_,rfl,_,_,rfl,rfl,_,rfl,_,_,rfl,rfl,_,rfl,_,_,rfl,rfl,_,_,rfl,rfl,(by show (0:Int)<n-1;lia),_,_,rfl,rfl,k⟩
def w9 (n:Int) (c:Nat) (rows:List (List Int)):Prop:=∀(k:Nat) r,rows[k]?=some r->∃a l m:Int,r=[a,n-1-k,l,m]/\0<=a/\a<n-c/\1<=l/\l<=m/\m<=60
theorem w9.snoc (h:w9 n c rows) (h1:0<=a) (h2:a<n-c) (h3:1<=l) (h4:l<=m) (h5:m<=60):w9 n c (rows++[[a,n-1-rows.length,l,m]]):=by
 intro k r e
 by_cases hk:k<rows.length
 ·rw [sk hk] at e;exact h k r e
 ·rw [rf (by exact mH hk)] at e;have pA:k-rows.length=0:=by
   cases q:k-rows.length with
   | zero=>rfl
   | succ z=>rw [q] at e;simp at e
  rw [pA] at e;cases e;have:k=rows.length:=by lia
  subst this;exact ⟨a,l,m,rfl,h1,h2,h3,h4,h5⟩
def Ct (wd:Int) (rows:List (List Int)):Prop:=wd≠8->rows.length<=3/\∀r∈rows,r.getD 3 0-r.getD 2 0<wd
def N9 (K:aF):Sp:=fun vs H Q _=>∃d sa n wd,vs=[.ref d,.int n,.int wd]/\dD K sa H d/\2<=n/\n<=8/\1<=wd/\wd<=8/\
 ∀(l:Addr) (c:Nat) rows H',(c:Int)<=n-1->rows.length=c->w9 n c rows->eJ H' l rows->H l=none->dD K sa H' d->cp d H H'->Ct wd rows->Q (.ref l) H'
abbrev nF:List Str:=["_law_d","_law_many","_law_wide","_law_count","_law_falls_here","_law_k","_law_least","_law_most"]
theorem tE:cG nF ["_law_d","_law_many","_law_wide"] (aZ jN):=cV
theorem qu (F:Fn K mg "_law_falls" jN ["_law_d","_law_many","_law_wide"] f fd) (FN:Fn K mg "_law_next" iV ["_law_dice","_law_many"] fN pE)
 (GN:ar P w K mg base a9 1 fN pE ["_law_dice","_law_many"] (Al K)) (min:mg "min"=none) (range:mg "range"=none):ar P w K mg base a9 2 f fd ["_law_d","_law_many","_law_wide"] (N9 K):=by
 refine F.F.ok tE (fun _ _ _ _ h=>?_) fun _ A _ s H _ Q E hr h=>?_
 ·obtain ⟨d,sa,n,wd,rfl,_⟩:=h;rfl
 ·obtain ⟨d,sa,n,wd,rfl,D,xK,rZ,qG,E',k⟩:=h;refine ⟨_,a_ (cA 3 tE.nd (cf GN hr FN (bw (pv 0) (bP g9 (jx (yT rfl) (by rfl) min (by decide+kernel) (bw aw (bP iQ (pv 1) aw))) aw))))
   (a_ (yE (dR (PW.pt (sQ (dh gu (pv 2) aw) (sV (dh gu (cf GN hr FN (bw (pv 0) aw)) aw))))
    (aE (cA 3 tE.nd (cf GN hr FN (bw (pv 0) (pv 1))))) dZ))
   (a_ (cA 4 tE.nd (jo oh))
   (a_ (jw PassesOwn.never rfl (tf rfl range (bM (pv 3))) (bS 5 tE.nd)
    (a_ (cA 6 tE.nd (bP g9 aw (cf GN hr FN (bw (pv 0) (pv 2)))))
    (a_ (cA 7 tE.nd (bP g9 (pv 6) (cf GN hr FN (bw (pv 0) (pv 2)))))
    (a_ (yE (dR (PW.pt (sQ (dh gu (pv 2) aw) (sV (dh gu (cf GN hr FN (bw (pv 0) aw)) aw))))
     (a_ (cA 6 tE.nd (bP g9 aw (cf GN hr FN (bw (pv 0) aw))))
     (aE (cA 7 tE.nd (bP g9 (pv 6) (cf GN hr FN (bw (pv 0) (bP iQ aw (pv 6)))))))) dZ))
    (aE (gJ (rE su rg sr pV (pv 4)
     (bM (dB (jz (cf GN hr FN (bw (pv 0) (bP iQ (pv 1) (pv 3)))) (bP iQ (bP iQ (pv 1) aw) (pv 5)) (pv 6) (pv 7)))))))))))
   (aE (cC (pv 4)))))),?_⟩
  refine ⟨_,rfl,_,rfl,_,_,rfl,rfl,_,_,rfl,_,_,rfl,rfl,d,sa,_,rfl,D,(by split<;>lia),fun c0 H1 BP xS D1 k1=>?_⟩;have So:c0<=n-1:=by
   revert xS
   split<;>intro xS<;>lia
  have hc3:c0<=3:=by
   revert xS
   split<;>intro xS<;>lia
  refine ⟨fun aa H'=>∃c:Nat,(c:Int)<=n-1/\(wd≠8->c<=3)/\aa=[some (.ref d),some (.int n),some (.int wd),some (.int (c:Int)),none,none,none,none]/\dD K sa H' d/\cp d H H',?_,?_⟩
  ·
   refine ⟨_,rfl,rfl,_,rfl,?_⟩;refine hV (fun h8=>?_) (fun _=>?_)
   ·have h8:wd=8:=by simpa using h8
    refine ⟨_,rfl,d,sa,_,rfl,D1,by decide,fun r H2 _ _ D2 k2=>⟨rfl,_,rfl,?_⟩⟩;refine hV (fun _=>?_) (fun _=>?_)
    ·refine ⟨_,rfl,_,rfl,d,sa,_,rfl,D2,by exact f_ xK,fun c H3 h0 h1 D3 k3=>⟨c.toNat,by lia,fun z=>absurd h8 z,?_,D3,(k1.trans k2).trans k3⟩⟩;rw [lE h0];rfl
    ·exact ⟨c0.toNat,by lia,fun z=>absurd h8 z,by rw [lE BP];rfl,D2,k1.trans k2⟩
   ·refine ip ?_;exact ⟨c0.toNat,by lia,fun _=>by lia,by rw [lE BP];rfl,D1,k1⟩
  ·rintro aa H2 ⟨c,hc,hcw,rfl,D2,k2⟩;refine ⟨d9 _,fun l hl=>?_⟩;have KO:H l=none:=k2.free hl D2.there;have ld:l≠d:=fun e=>by
    subst e;obtain ⟨o,q⟩:=D2.there;rw [hl] at q;cases q
   refine ⟨_,rfl,_,rfl,by exact Int.NonNeg.mk (c+Nat.succ 4611686018427387903),by lia,AE (n:=c) (fun i aa H'=>∃v1 v2 v3 ps rows,aa=[some (.ref d),some (.int n),some (.int wd),some (.int (c:Int)),some (.ref l),v1,v2,v3]/\fC H' l ps rows/\rows.length=i/\w9 n c rows/\dD K sa H' d/\cp d H H'/\(wd≠8->∀r∈rows,r.getD 3 0-r.getD 2 0<wd))
    ⟨none,none,none,[],[],rfl,⟨ai,.nil⟩,rfl,(fun k r e=>by simp at e),D2.new hl,oq k2 KO,fun _ r hr=>nomatch hr⟩ ?_ ?_⟩
   ·rintro i aa H3 hi ⟨v1,v2,v3,ps,rows,rfl,R3,hlen,hF,D3,k3,mE⟩;have kl:∀{H4:Hp},cp d H3 H4->fC H4 l ps rows:=fun k4=>by
     obtain ⟨p,e⟩:=D3.at_;exact R3.keep k4 e ld
    refine ⟨_,rfl,_,rfl,d,sa,_,rfl,D3,qG,fun r1 H4 Fy L5 D4 k4=>⟨_,_,rfl,rfl,?_⟩⟩;refine ⟨_,rfl,_,rfl,_,rfl,d,sa,_,rfl,D4,qG,fun r2 H5 SD SA D5 k5=>⟨_,_,rfl,rfl,?_⟩⟩;refine ⟨fun aa H'=>∃a b:Int,1<=a/\a<=b/\b<=60/\(wd≠8->b-a<wd)/\aa=[some (.ref d),some (.int n),some (.int wd),some (.int (c:Int)),some (.ref l),some (.int (0+(i:Int))),some (.int a),some (.int b)]/\dD K sa H' d/\cp d H3 H',?_,?_⟩
    ·refine ⟨_,rfl,rfl,_,rfl,?_⟩;refine hV (fun h8=>?_) (fun _=>?_)
     ·have h8:wd=8:=by simpa using h8
      refine ⟨_,rfl,d,sa,_,rfl,D5,by decide,fun r H6 _ _ D6 k6=>⟨rfl,_,rfl,?_⟩⟩;refine hV (fun _=>?_) (fun _=>?_)
      ·refine ⟨_,rfl,d,sa,_,rfl,D6,by decide,fun r3 H7 h3a h3b D7 k7=>⟨_,_,rfl,rfl,?_⟩⟩;refine ⟨_,rfl,_,rfl,_,rfl,_,_,rfl,rfl,d,sa,_,rfl,D7,by lia,fun r4 H8 h4a h4b D8 k8=>⟨_,_,rfl,rfl,?_⟩⟩;exact ⟨1+r3,1+r3+r4,by lia,by lia,by lia,fun z=>absurd h8 z,rfl,D8,(((k4.trans k5).trans k6).trans k7).trans k8⟩
      ·exact ⟨1+r1,1+r1+r2,by lia,by lia,by lia,fun z=>absurd h8 z,rfl,D6,(k4.trans k5).trans k6⟩
     ·refine ip ?_;exact ⟨1+r1,1+r1+r2,by lia,by lia,by lia,fun _=>by lia,rfl,D5,k4.trans k5⟩
    ·rintro aa H6 ⟨a,b,ha,lR,hb,hba,rfl,D6,k6⟩;have R6:=kl k6;refine ⟨_,rfl,.inl ⟨rfl,_,ax.of R6.1⟩,?_⟩;refine ⟨_,rfl,_,rfl,_,rfl,_,_,rfl,rfl,d,sa,_,rfl,D6,by lia,fun r5 H7 h5a h5b D7 k7=>?_⟩;have R7:=kl (k6.trans k7);refine ⟨_,rfl,_,_,rfl,rfl,_,rfl,_,_,rfl,rfl,_,rfl,_,rfl,dc rfl,fun p hp=>?_⟩;have R8:=R7.same (aG (o:=.tup [.int r5,.int (n-1-(0+(i:Int))),.int a,.int b]) hp);refine ⟨l,_,_,rfl,rfl,R8.1,?_,?_⟩
     ·rw [aB,R8.len];exact gK (by lia)
     ·have e0:(0:Int)+(i:Int)=(rows.length:Int):=by rw [hlen];lia
      refine ⟨_,_,_,ps++[p],rows++[[r5,n-1-(0+(i:Int)),a,b]],rfl,R8.push ai,by rw [ig,hlen];rfl,?_,?_,?_,fun z r hr=>?_⟩
      ·rw [e0];exact hF.snoc h5a h5b ha lR hb
      ·exact (D7.new hp).upd R8.1 ld
      ·exact oq (oq ((k3.trans k6).trans k7) (((k3.trans k6).trans k7).free hp D7.there)) KO
      ·rcases i8.mp hr with y | y
       ·exact mE z r y
       ·rw [iK.mp y];exact hba z
   ·rintro aa H3 ⟨v1,v2,v3,ps,rows,rfl,R3,hlen,hF,D3,k3,mE⟩;exact ⟨_,rfl,k l c rows H3 hc hlen hF ⟨ps,R3⟩ KO D3 k3 fun z=>⟨by rw [hlen];exact hcw z,mE z⟩⟩
theorem HR {x n:Int} (h0:0<=x) (h1:x<2*n) (hn:0<n):x % n=if x<n then x else x-n:=by
 by_cases h:x<n
 ·rw [if_pos h,Int.emod_eq_of_lt h0 h]
 ·rw [if_neg h];have e:x % n=(x-n) % n:=by
   first
    | exact (Int.sub_emod_right x n).symm
    | (have:=Int.sj (a:=x-n) (b:=n);rw [Int.sub_add_cancel] at this;exact this)
  rw [e,Int.emod_eq_of_lt (by lia) (by lia)]
theorem MZ {xs:List Int} {i:Int} (h0:0<=i) (h1:i<xs.length):∃v,v∈xs/\iI (xs.map V.int) i=some (.int v):=by
 obtain ⟨j,rfl⟩:∃j:Nat,i=j:=⟨i.toNat,by lia⟩;have hi:j<xs.length:=by lia
 exact ⟨xs[j],zK hi,ko (by rw [f9,kK hi];rfl)⟩
def uC (n:Int) (r:List Int):Prop:=∃a b l m:Int,r=[a,b,l,m]/\0<=a/\a<n/\0<=b/\b<n/\a≠b/\-60<=l/\l<=m/\m<=60
def MV (K:aF):Sp:=fun vs H Q _=>∃d sa n la wd,vs=[.ref d,.int n,.int la,.int wd]/\dD K sa H d/\2<=n/\n<=8/\1<=la/\la<=60/\1<=wd/\wd<=8/\
 ∀(l:Addr) rows H',rows.length<=12->(∀r∈rows,uC n r)->eJ H' l rows->H l=none->dD K sa H' d->cp d H H'->Q (.ref l) H'
abbrev nT:List Str:=["_law_d","_law_many","_law_last","_law_wide","_law_ties_here","_law_k","_law_times","_law_count","_law_one","_law_other","_law_near","_law_least"]
theorem qg:cG nT ["_law_d","_law_many","_law_last","_law_wide"] (aZ kY):=cV
theorem coT:iP (aZ kY) nT (lT [(".0",.local),("_law_k",.local),("_law_next",.globalImplicit),("_law_d",.free),("_law_last",.free)]) ["_law_k","_law_d","_law_last"] [none,some 0,some 2]:=lU
theorem ndT:(["_law_k","_law_d","_law_last"]:List Str).Nodup:=by decide+kernel
theorem tL (F:Fn K mg "_law_ties" kY ["_law_d","_law_many","_law_last","_law_wide"] f fd) (FN:Fn K mg "_law_next" iV ["_law_dice","_law_many"] fN pE)
 (GN:ar P w K mg base a9 1 fN pE ["_law_dice","_law_many"] (Al K)) (min:mg "min"=none) (max:mg "max"=none) (range:mg "range"=none):ar P w K mg base a9 2 f fd ["_law_d","_law_many","_law_last","_law_wide"] (MV K):=by
 refine F.F.ok qg (fun _ _ _ _ h=>?_) fun _ A _ s H _ Q E hr h=>?_
 ·obtain ⟨d,sa,n,la,wd,rfl,_⟩:=h;rfl
 ·obtain ⟨d,sa,n,la,wd,rfl,D,xK,rZ,kF,jW,qG,E',k⟩:=h;refine ⟨_,cx (cA 4 qg.nd (jo oh))
   (cx (cA 6 qg.nd (bP uJ (jo (bM aw)) (pe rfl (tf rfl range (bM (bP iQ (pv 1) aw))) coT
    (fun cl ex s0 H0=>⟨bS 0 ndT,pX,cf GN hr FN (bw (pv 1) (bP g9 (pv 2) aw))⟩))))
   (cx (cA 7 qg.nd (cf GN hr FN (bw (pv 0) aw)))
   (cx (yE (dR (PW.pt (sQ (dh gu (pv 3) aw) (sV (dh gu (cf GN hr FN (bw (pv 0) aw)) aw))))
    (aE (cA 7 qg.nd (cf GN hr FN (bw (pv 0) aw)))) dZ))
   (cx (jw PassesOwn.never rfl (tf rfl range (bM (pv 7))) (bS 5 qg.nd)
    (cx (cA 8 qg.nd (cf GN hr FN (bw (pv 0) (pv 1))))
    (cx (cA 9 qg.nd (bP G_ (bP g9 (bP g9 (pv 8) aw) (cf GN hr FN (bw (pv 0) (bP iQ (pv 1) aw)))) (pv 1)))
    (cx (cA 10 qg.nd (bP iQ (de dW (pv 6) (pv 9) (fun _ _=>rfl)) (de dW (pv 6) (pv 8) (fun _ _=>rfl))))
    (cx (yE (dR (dh gu (cf GN hr FN (bw (pv 0) aw)) aw)
     (aE (cA 10 qg.nd (bP iQ (cf GN hr FN (bw (pv 0) (bP g9 (bP TR aw (pv 2)) aw))) (pv 2)))) dZ))
    (cx (cA 11 qg.nd (jx (H_ rfl) (by rfl) max (by decide+kernel) (bw (sO sR aw) (bP iQ (pv 10) (cf GN hr FN (bw (pv 0) (bP g9 (pv 3) aw)))))))
    (aE (gJ (rE su rg sr pV (pv 4)
     (bM (dB (jz (pv 8) (pv 9) (pv 11) (jx (yT rfl) (by rfl) min (by decide+kernel) (bw aw (jx (H_ rfl) (by rfl) max (by decide+kernel)
      (bw (pv 11) (bP g9 (pv 10) (cf GN hr FN (bw (pv 0) (bP g9 (pv 3) aw))))))))))))))))))))
   (aE (cC (pv 4))))))),?_⟩
  refine fun M0 m0=>⟨d9 _,fun l hl=>m0 _ _ ?_⟩;clear m0 M0;have ld:l≠d:=fun e=>by
   subst e;obtain ⟨o,q⟩:=D.there;rw [hl] at q;cases q
  refine fun M0 m0=>⟨dc rfl,fun z hz=>?_⟩;refine ⟨_,rfl,_,_,rfl,rfl,_,rfl,by lia,by lia,fun Da cK=>?_⟩;have zl:z≠l:=aD (aR (ai (H:=H) (a:=l) (o:=.lst [])) hz);have RN:H z=none:=by rw [ak zl] at hz;exact hz
  have Md:Da≠l:=aD (aR (show upd (upd H l (.lst [])) z (.lst [.int 0]) l=some (.lst []) by rw [ak (aD zl),ai]) cK);have Mc:Da≠z:=aD (aR (ai (H:=upd H l (.lst [])) (a:=z) (o:=.lst [.int 0])) cK);have uw:H Da=none:=by rw [ak Mc,ak Md] at cK;exact cK
  have nd:∀{a:Addr},H a=none->a≠d:=fun {a} e q=>by
   subst q;obtain ⟨o,q⟩:=D.there;rw [e] at q;cases q
  refine AG (n:=(n-1).toNat) (fun i aa H'=>∃v,∃ts:List Int,aa=[v,some (.ref d),some (.int la)]/\ts.length=i/\(∀t∈ts,0<=t/\t<=la)/\H' Da=some (.lst (ts.map V.int))/\H' l=some (.lst [])/\H' z=some (.lst [.int 0])/\dD K sa H' d/\cp d H H') ?_ ?_ ?_
  ·exact ⟨none,[],rfl,rfl,(fun t ht=>nomatch ht),ai,by rw [ak (aD Md),ak (aD zl),ai],by rw [ak (aD Mc),ai],((D.new hl).new hz).new cK,oq (oq (oq (cp.refl d H) hl) RN) uw⟩
  ·rintro i aa H3 hi ⟨v,ts,rfl,hlen,Kl,e1,e2,e3,D3,k3⟩;refine ⟨_,rfl,_,rfl,_,_,rfl,rfl,d,sa,_,rfl,D3,by lia,fun r H4 h0 h1 D4 k4=>?_⟩;have f1:=k4 _ _ e1 (nd uw);refine ⟨_,f1,?_,_,ts++[r],rfl,by rw [ig,hlen];rfl,fun t ht=>?_,?_,?_,?_,D4.upd f1 (nd uw),oq (k3.trans k4) uw⟩
   ·rw [aB];exact gK (by omega)
   ·rcases i8.mp ht with q | q
    ·exact Kl t q
    ·rw [iK.mp q];lia
   ·rw [ai,ef];rfl
   ·rw [ak (aD Md)];exact k4 _ _ e2 ld
   ·rw [ak (aD Mc)];exact k4 _ _ e3 (nd RN)
  ·rintro aa H3 ⟨v,ts,rfl,hlen,Kl,e1,e2,e3,D3,k3⟩;refine ⟨z,Da,_,_,rfl,rfl,e3,e1,?_,fun tl oF=>m0 _ _ ?_⟩
   ·rw [aB];exact bp (gK (by simp;omega))
   clear m0 M0;have jS:H tl=none:=k3.free oF D3.there;have QZ:tl≠l:=aD (aR e2 oF);obtain ⟨tt,lP,bb,gx⟩:∃tt:List Int,[V.int 0]++ts.map V.int=tt.map V.int/\(tt.length:Int)=n/\∀t∈tt,0<=t/\t<=la:=by
    refine ⟨0::ts,rfl,by rw [kI,hlen];omega,fun t ht=>?_⟩;rcases eV.mp ht with q | q
    ·rw [q];lia
    ·exact Kl t q
   rw [lP];have g1:upd H3 tl (.lst (tt.map V.int)) tl=some (.lst (tt.map V.int)):=ai;have g2:upd H3 tl (.lst (tt.map V.int)) l=some (.lst []):=by rw [ak (aD QZ)];exact e2
   have D4:dD K sa (upd H3 tl (.lst (tt.map V.int))) d:=D3.new oF;have k4:cp d H (upd H3 tl (.lst (tt.map V.int))):=oq k3 jS;refine fun M0 m0=>⟨_,rfl,d,sa,_,rfl,D4,by decide,fun c0 H5 BP xS D5 k5=>m0 _ _ ?_⟩;clear m0 M0;have l5:=k5 _ _ g2 ld;have t5:=k5 _ _ g1 (nd jS);refine fun M0 m0=>⟨fun aa H'=>∃c:Nat,c<=12/\aa=[some (.ref d),some (.int n),some (.int la),some (.int wd),some (.ref l),none,some (.ref tl),some (.int (c:Int)),none,none,none,none]/\dD K sa H' d/\cp d H H'/\H' l=some (.lst [])/\H' tl=some (.lst (tt.map V.int)),?_,?_⟩
   ·refine ⟨_,rfl,rfl,_,rfl,?_⟩;refine hV (fun _=>?_) (fun _=>?_)
    ·refine ⟨_,rfl,d,sa,_,rfl,D5,by decide,fun r H6 _ _ D6 k6=>⟨rfl,_,rfl,?_⟩⟩;refine hV (fun _=>?_) (fun _=>?_)
     ·refine ⟨_,rfl,d,sa,_,rfl,D6,by decide,fun c H7 h0 h1 D7 k7=>⟨c.toNat,by lia,?_,D7,((k4.trans k5).trans k6).trans k7,(k6.trans k7) _ _ l5 ld,(k6.trans k7) _ _ t5 (nd jS)⟩⟩;rw [lE h0];rfl
     ·exact ⟨c0.toNat,by lia,by rw [lE BP];rfl,D6,(k4.trans k5).trans k6,k6 _ _ l5 ld,k6 _ _ t5 (nd jS)⟩
    ·refine ip ?_;exact ⟨c0.toNat,by lia,by rw [lE BP];rfl,D5,k4.trans k5,l5,t5⟩
   ·rintro aa H6 ⟨c,hc,rfl,D6,k6,l6,t6⟩;refine m0 _ _ fun M1 m1=>⟨_,rfl,_,rfl,by exact Int.NonNeg.mk (c+Nat.succ 4611686018427387903),by lia,AE (n:=c) (fun i aa H'=>∃v1 v2 v3 v4 v5 ps rows,aa=[some (.ref d),some (.int n),some (.int la),some (.int wd),some (.ref l),v1,some (.ref tl),some (.int (c:Int)),v2,v3,v4,v5]/\fC H' l ps rows/\rows.length=i/\(∀r∈rows,uC n r)/\
     H' tl=some (.lst (tt.map V.int))/\dD K sa H' d/\cp d H H') ⟨none,none,none,none,none,[],[],rfl,⟨l6,.nil⟩,rfl,(fun r hr=>nomatch hr),t6,D6,k6⟩ ?_ ?_⟩
    ·rintro i aa H7 hi ⟨v1,v2,v3,v4,v5,ps,rows,rfl,R7,vy,af,t7,D7,k7⟩;have kl:∀{H8:Hp},cp d H7 H8->fC H8 l ps rows:=fun k8=>by
      obtain ⟨p,e⟩:=D7.at_;exact R7.keep k8 e ld
     refine fun M2 m2=>⟨_,rfl,_,rfl,d,sa,_,rfl,D7,by exact f_ xK,fun o1 H8 Fy L5 D8 k8=>m2 _ _ ?_⟩;clear m2 M2;refine fun M2 m2=>⟨_,rfl,_,_,rfl,rfl,_,rfl,_,rfl,_,_,rfl,rfl,d,sa,_,rfl,D8,by lia,fun o2 H9 SD SA D9 k9=>⟨_,_,rfl,rfl,_,rfl,_,_,rfl,rfl,(by show (0:Int)<n;exact f_ xK),m2 _ _ ?_⟩⟩;clear m2 M2;have hw:=HR (x:=o1+1+o2) (n:=n) (by lia) (by lia) (by exact f_ xK);have ho:0<=(o1+1+o2) % n/\(o1+1+o2) % n<n/\o1≠(o1+1+o2) % n:=by
      rw [hw];split<;>lia
     obtain ⟨B2,ho2,Fe⟩:=ho;have t9:=(k8.trans k9) _ _ t7 (nd jS);obtain ⟨w1,Kh,ha1⟩:=MZ (xs:=tt) B2 (by lia);obtain ⟨w2,Kg,ha2⟩:=MZ (xs:=tt) Fy (by lia);have b1:=gx w1 Kh;have b2:=gx w2 Kg;refine fun M2 m2=>⟨_,rfl,oW rfl t9 ha1 ⟨_,rfl,oW rfl t9 ha2 ⟨_,_,rfl,rfl,m2 _ _ ?_⟩⟩⟩;clear m2 M2;refine fun M2 m2=>⟨fun aa H'=>∃nr:Int,-60<=nr/\nr<=60/\aa=[some (.ref d),some (.int n),some (.int la),some (.int wd),some (.ref l),some (.int (0+(i:Int))),some (.ref tl),some (.int (c:Int)),some (.int o1),some (.int ((o1+1+o2) % n)),some (.int nr),v5]/\dD K sa H' d/\cp d H7 H',?_,?_⟩
     ·refine ⟨_,rfl,d,sa,_,rfl,D9,by decide,fun r sC _ _ FV vq=>⟨rfl,_,rfl,?_⟩⟩;refine hV (fun _=>?_) (fun _=>?_)
      ·refine ⟨_,rfl,_,rfl,_,_,rfl,rfl,.inl ⟨by decide,by decide⟩,_,_,rfl,rfl,d,sa,_,rfl,FV,by lia,fun r' Ma g0 F7 Me xt=>⟨_,rfl,_,_,rfl,rfl,r'-la,by lia,by lia,rfl,Me,((k8.trans k9).trans vq).trans xt⟩⟩
      ·exact ⟨w1-w2,by lia,by lia,rfl,FV,(k8.trans k9).trans vq⟩
     ·rintro aa sC ⟨nr,hnr1,hnr2,rfl,FV,vq⟩;refine m2 _ _ fun M3 m3=>⟨_,rfl,_,rfl,_,rfl,_,rfl,_,_,rfl,rfl,d,sa,_,rfl,FV,by lia,fun r1 Ma h3a h3b Me xt=>⟨_,_,rfl,rfl,_,_,rfl,m3 _ _ ?_⟩⟩;clear m3 M3 m2 M2;obtain ⟨le,SN,le1,le2⟩:∃le,(if nr-r1> -60 then nr-r1 else-60)=le/\-60<=le/\le<=60:=⟨_,rfl,by split<;>lia,by split<;>lia⟩;rw [SN];clear SN;have R11:=kl (vq.trans xt);refine ⟨_,rfl,.inl ⟨rfl,_,ax.of R11.1⟩,?_⟩;refine ⟨_,rfl,_,rfl,_,rfl,_,rfl,_,rfl,_,rfl,_,rfl,_,_,rfl,rfl,d,sa,_,rfl,Me,by lia,fun r2 H12 h4a h4b Tr ET=>⟨_,_,rfl,rfl,_,_,rfl,_,_,rfl,dc rfl,fun p hp=>?_⟩⟩;obtain ⟨mo,SM,mo1,mo2⟩:∃mo,(if (if nr+r2>le then nr+r2 else le)<60 then (if nr+r2>le then nr+r2 else le) else 60)=mo/\le<=mo/\mo<=60:=⟨_,rfl,by repeat' split<;>lia,by split<;>lia⟩;rw [SM];clear SM;have R12:=kl ((vq.trans xt).trans ET);have FQ:=R12.same (aG (o:=.tup [.int o1,.int ((o1+1+o2) % n),.int le,.int mo]) hp);have kA:=((k7.trans vq).trans xt).trans ET;refine ⟨l,_,_,rfl,rfl,FQ.1,?_,?_⟩
      ·rw [aB,FQ.len];exact gK (by lia)
      ·refine ⟨_,_,_,_,_,ps++[p],rows++[[o1,(o1+1+o2) % n,le,mo]],rfl,FQ.push ai,by rw [ig,vy];rfl,fun r hr=>?_,?_,?_,?_⟩
       ·rcases i8.mp hr with q | q
        ·exact af r q
        ·rw [iK.mp q];exact ⟨_,_,_,_,rfl,Fy,L5,B2,ho2,Fe,le1,mo1,mo2⟩
       ·rw [ak QZ,ak (aD (aR ((((vq.trans xt).trans ET)) _ _ t7 (nd jS)) hp).symm)];exact ((vq.trans xt).trans ET) _ _ t7 (nd jS)
       ·exact (Tr.new hp).upd FQ.1 ld
       ·exact oq (oq kA (kA.free hp Tr.there)) hl
    ·rintro aa H7 ⟨v1,v2,v3,v4,v5,ps,rows,rfl,R7,vy,af,t7,D7,k7⟩;exact m1 _ _ ⟨_,rfl,k l rows H7 (by lia) af ⟨ps,R7⟩ hl D7 k7⟩
theorem aX {l:List α} {m:List β} {i:Nat} {a:α} (h:Paired F l m) (e:l[i]?=some a):∃b,m[i]?=some b/\F a b:=by
 induction h generalizing i with
 | nil=>simp at e
 | cons r t ih=>
  cases i with
  | zero=>simp at e;subst e;exact ⟨_,rfl,r⟩
  | succ i=>
   obtain ⟨b,h1,h2⟩:=ih (i:=i) (by simpa using e);exact ⟨b,by simpa using h1,h2⟩
theorem dD.qD {K:aF} (x:dD K sa H d) (k:cp l H H1) (hl:H l=some (.lst xs)) (hd:l≠d):dD K sa H1 d:=by
 obtain ⟨⟨p,h⟩,⟨ns,r⟩⟩:=x;exact ⟨⟨p,k _ _ h (aD hd)⟩,⟨ns,r.keep k hl⟩⟩
theorem O2 (a:cp d H H1) (b:cp l H1 H2) (hl:H l=none):cp d H H2:=fun c o e n=>b c o (a c o e n) (aR e hl)
theorem Dz (hn:2<=n) (h0:0<=m):0<=g8 m n t/\g8 m n t<n:=by
 unfold g8;split
 ·lia
 ·have h1:=Int.emod_nonneg (m-1+t) (show n-1≠0 by lia);have h2:=Int.emod_lt_of_pos (m-1+t) (show 0<n-1 by lia);omega
theorem Ig (hn:2<=n) (h0:m≠0):0<g8 m n t:=by
 unfold g8;rw [if_neg h0];have h1:=Int.emod_nonneg (m-1+t) (show n-1≠0 by lia);omega
theorem DJ (hn:2<=n) (ha:0<=a) (uv:a<n) (hb:0<=b) (dQ:b<n) (ht:0<=t) (xA:t<n) (e:g8 a n t=g8 b n t):a=b:=by
 by_cases a0:a=0
 ·by_cases b0:b=0
  ·lia
  ·have:=Ig (t:=t) hn b0;have z:g8 a n t=0:=by unfold g8;rw [if_pos a0]
   lia
 ·by_cases b0:b=0
  ·have:=Ig (t:=t) hn a0;have z:g8 b n t=0:=by unfold g8;rw [if_pos b0]
   lia
  ·unfold g8 at e;rw [if_neg a0,if_neg b0,HR (x:=a-1+t) (n:=n-1) (by lia) (by lia) (by lia),HR (x:=b-1+t) (n:=n-1) (by lia) (by lia) (by lia)] at e
   revert e
   split<;>split<;>intro e<;>lia
def lG (n t:Int):List Int->List Int
 | [a,b,l,m]=>[g8 a n t,g8 b n t,l,m]
 | r=>r
def ZA (n:Int) (r:List Int):Prop:=∃a b l m:Int,r=[a,b,l,m]/\0<=a/\a<n/\0<b/\b<n/\a≠b/\1<=l/\l<=m/\m<=60
structure cB (n la:Int) (T F:List (List Int)):Prop where
 n1:1<=n
 n2:n<=8
 l1:1<=la
 l2:la<=60
 tl:T.length<=24
 fl:F.length<=7
 t:∀r∈T,uC n r
 f:∀r∈F,ZA n r
 one:∀(i j:Nat) r r',F[i]?=some r->F[j]?=some r'->r[1]?=r'[1]?->i=j
 own:∀r∈F,∀r'∈F,r[0]?≠r'[1]?
theorem uC.JC (hn:2<=n) (ht:0<=t) (xA:t<n) (h:uC n r):uC n (lG n t r):=by
 obtain ⟨a,b,l,m,rfl,h1,h2,h3,h4,h5,h6,h7,h8⟩:=h;have ha:=Dz (t:=t) hn h1;have hb:=Dz (t:=t) hn h3;exact ⟨_,_,l,m,rfl,ha.1,ha.2,hb.1,hb.2,fun e=>h5 (DJ hn h1 h2 h3 h4 ht xA e),h6,h7,h8⟩
theorem W9 {n la t:Int} {c:Nat} {T F:List (List Int)} (hn:2<=n) (rZ:n<=8) (kF:1<=la) (jW:la<=60) (ht:0<=t) (xA:t<n) (hT:∀r∈T,uC n r) (xU:T.length<=12) (hc:(c:Int)<=n-1) (hlen:F.length=c) (hF:w9 n c F):
 cB n la (T.map (lG n t)) (F.map (lG n t)):=by
 have at_:∀(i:Nat) r,(F.map (lG n t))[i]?=some r->∃a l m:Int,r=[g8 a n t,g8 (n-1-i) n t,l,m]/\i<c/\0<=a/\a<n-c/\1<=l/\l<=m/\m<=60:=fun i r e=>by
  rw [f9] at e
  cases q:F[i]? with
  | none=>rw [q] at e;cases e
  | some r0=>
   rw [q] at e;have hi:i<c:=by rw [<-hlen];exact (gO.mp q).1
   obtain ⟨a,l,m,rfl,r1⟩:=hF i r0 q;cases e;exact ⟨a,l,m,rfl,hi,r1⟩
 have mem:∀r,r∈F.map (lG n t)->∃i:Nat,(F.map (lG n t))[i]?=some r:=fun r hr=>oU.mp hr;refine ⟨by exact f_ hn,rZ,kF,jW,by rw [aB];lia,by rw [aB];lia,fun r hr=>?_,fun r hr=>?_,fun i j r r' e e' q=>?_,fun r hr r' aJ=>?_⟩
 ·obtain ⟨r0,h0,rfl⟩:=eD.mp hr;exact (hT r0 h0).JC hn ht xA
 ·obtain ⟨i,e⟩:=mem r hr;obtain ⟨a,l,m,rfl,hi,h1,h2,h3,h4,h5⟩:=at_ i r e;have ha:=Dz (t:=t) hn h1;have hb:=Dz (m:=n-1-i) (t:=t) hn (by lia);exact ⟨_,_,l,m,rfl,ha.1,ha.2,Ig hn (by lia),hb.2,fun z=>by
   have:=DJ hn h1 (by lia) (by lia) (by lia) ht xA z;lia,h3,h4,h5⟩
 ·obtain ⟨a,l,m,rfl,hi,_⟩:=at_ i r e;obtain ⟨a',l',m',rfl,hj,_⟩:=at_ j r' e';have z:g8 (n-1-i) n t=g8 (n-1-j) n t:=by simpa using q
  have:=DJ hn (by lia) (by lia) (by lia) (by lia) ht xA z;lia
 ·obtain ⟨i,e⟩:=mem r hr;obtain ⟨j,e'⟩:=mem r' aJ;obtain ⟨a,l,m,rfl,hi,h1,h2,_⟩:=at_ i r e;obtain ⟨a',l',m',rfl,hj,_⟩:=at_ j r' e';intro q;have z:g8 a n t=g8 (n-1-j) n t:=by simpa using q
  have:=DJ hn h1 (by lia) (by lia) (by lia) ht xA z;lia
theorem Ct.JC (h:Ct wd rows) (hF:w9 n0 c rows):Ct wd (rows.map (lG n t)):=fun z=>by
 obtain ⟨h1,h2⟩:=h z;refine ⟨by rw [aB];exact h1,fun r hr=>?_⟩;obtain ⟨r0,h0,rfl⟩:=eD.mp hr;obtain ⟨i,e⟩:=oU.mp h0;obtain ⟨a,l,m,e',_⟩:=hF i r0 e;have:=h2 r0 h0;subst e';exact this
def Mp (K:aF):Sp:=fun vs H Q _=>∃d sa mo la wd,vs=[.ref d,.int mo,.int la,.int wd]/\dD K sa H d/\2<=mo/\mo<=8/\1<=la/\la<=60/\1<=wd/\wd<=8/\
 ∀(p ta fa:Addr) n l T F H',H' p=some (.tup [.int n,.int l,.ref ta,.ref fa])->eJ H' ta T->eJ H' fa F->cB n l T F->2<=n->n<=mo->l<=la->dD K sa H' d->cp d H H'->ta≠d->fa≠d->Ct wd F/\T.length<=12->Q (.ref p) H'
abbrev nW:List Str:=["_law_d","_law_most","_law_last","_law_wide","_law_many","_law_falls_here","_law_ties_here","_law_turn","_law_found","_law_rows"]
theorem vh:cG nW ["_law_d","_law_most","_law_last","_law_wide"] (aZ qh):=cV
abbrev RC:List Str:=["_law_r","_law_many","_law_turn"]
theorem coW:iP (aZ qh) nW (lT [(".0",.local),("_law_r",.local),("_law_named",.globalImplicit),("_law_many",.free),("_law_turn",.free)]) RC [none,some 4,some 7]:=lU
theorem Y2:RC.Nodup:=by decide+kernel
theorem wY (F:Fn K mg "_law_web" qh ["_law_d","_law_most","_law_last","_law_wide"] f fd)
 (FN:Fn K mg "_law_next" iV ["_law_dice","_law_many"] fN pE) (GN:ar P w K mg base a9 1 fN pE ["_law_dice","_law_many"] (Al K))
 (FM:Fn K mg "_law_named" jM ["_law_moment","_law_many","_law_turn"] fM yc) (GM:ar P w K mg base a9 1 fM yc ["_law_moment","_law_many","_law_turn"] ND)
 (FF:Fn K mg "_law_falls" jN ["_law_d","_law_many","_law_wide"] fF zF) (GF:ar P w K mg base a9 2 fF zF ["_law_d","_law_many","_law_wide"] (N9 K))
 (FT:Fn K mg "_law_ties" kY ["_law_d","_law_many","_law_last","_law_wide"] fT pD) (GT:ar P w K mg base a9 2 fT pD ["_law_d","_law_many","_law_last","_law_wide"] (MV K)):
 ar P w K mg base a9 3 f fd ["_law_d","_law_most","_law_last","_law_wide"] (Mp K):=by
 refine F.F.ok vh (fun _ _ _ _ h=>?_) fun _ A _ s H _ Q E hr h=>?_
 ·obtain ⟨d,sa,mo,la,wd,rfl,_⟩:=h;rfl
 ·obtain ⟨d,sa,mo,la,wd,rfl,D,Fg,xM,kF,jW,qG,E',k⟩:=h;have fU:cY 1 _:=hr.mono (by decide);refine ⟨_,a_ (pQ (i:=4) vh.nd rfl (Or.inr rfl) (bP g9 aw (cf GN fU FN (bw (pv 0) (bP iQ (pv 1) aw)))))
   (a_ (cA 2 vh.nd (bP g9 aw (cf GN fU FN (bw (pv 0) (pv 2)))))
   (a_ (cA 5 vh.nd (cf GF hr FF (iw (pv 0) (pv 4) (pv 3))))
   (a_ (cA 6 vh.nd (cf GT hr FT (jz (pv 0) (pv 4) (pv 2) (pv 3))))
   (a_ (pQ (i:=7) vh.nd rfl (Or.inr rfl) (cf GN fU FN (bw (pv 0) (pv 4))))
   (a_ (cA 8 vh.nd (jo oh))
   (a_ (jw PassesOwn.never rfl (jq (jo (bw (pv 6) (pv 5)))) (bS 9 vh.nd)
    (aE (gJ (rE su rg sr pV (pv 8)
     (bM (pe rfl (jq (pv 9)) coW (fun cl ex s0 H0=>⟨bS 0 Y2,pX,
      dB (uP (cf GM fU FM (iw (a8 (pv 0)) (pv 1) (pv 2)))
       (uP (cf GM fU FM (iw (a8 (pv 0)) (pv 1) (pv 2)))
       (bw (a8 (pv 0)) (a8 (pv 0)))))⟩)))))))
   (aE (cC (dB (jz (pv 4) (pv 2) (de dW (pv 8) aw (fun _ _=>rfl)) (de dW (pv 8) aw (fun _ _=>rfl)))))))))))),?_⟩
  refine ⟨_,rfl,_,rfl,_,_,rfl,rfl,d,sa,_,rfl,D,by lia,fun r1 H1 Fy L5 D1 k1=>⟨_,_,rfl,rfl,?_⟩⟩;refine ⟨_,rfl,_,rfl,d,sa,_,rfl,D1,by omega,fun r2 H2 SD SA D2 k2=>⟨_,_,rfl,rfl,?_⟩⟩;refine ⟨_,rfl,_,rfl,_,rfl,d,sa,_,_,rfl,D2,by lia,by lia,qG,E',fun fl c F0 H3 hc m6 Lz RF Fm D3 k3 mE=>?_⟩;refine ⟨_,rfl,_,rfl,_,rfl,_,rfl,d,sa,_,_,_,rfl,D3,by lia,by lia,by lia,by lia,qG,E',fun tl T0 H4 xU m7 RT oF D4 k4=>?_⟩;refine ⟨_,rfl,_,rfl,d,sa,_,rfl,D4,by lia,fun t H5 Bq htb D5 k5=>?_⟩;have fld:fl≠d:=fun e=>by
   subst e;obtain ⟨o,q⟩:=D2.there;rw [Fm] at q;cases q
  have ZU:tl≠d:=fun e=>by
   subst e;obtain ⟨o,q⟩:=D3.there;rw [oF] at q;cases q
  have Tf:eJ H5 fl F0:=by
   obtain ⟨p,e⟩:=D3.at_;exact RF.keep (k4.trans k5) e fld
  have Td:eJ H5 tl T0:=by
   obtain ⟨p,e⟩:=D4.at_;exact RT.keep k5 e ZU
  have kA:cp d H H5:=(((k1.trans k2).trans k3).trans k4).trans k5;refine ⟨d9 _,fun fo xP=>?_⟩;have L7:fo≠d:=fun e=>by
   subst e;obtain ⟨o,q⟩:=D5.there;rw [xP] at q;cases q
  have xO:H fo=none:=kA.free xP D5.there;have RF6:=Tf.same (aG (o:=.lst []) xP);have RT6:=Td.same (aG (o:=.lst []) xP);have AO:tl≠fo:=by
   obtain ⟨ps,e,_⟩:=Td;exact aR e xP
  have BV:fl≠fo:=by
   obtain ⟨ps,e,_⟩:=Tf;exact aR e xP
  refine ⟨_,rfl,_,rfl,dc rfl,fun ll zw=>⟨ll,rfl,⟨_,ax.of ai⟩,?_⟩⟩;have xo:ll≠fo:=aD (aR (ai (H:=H5) (a:=fo) (o:=.lst [])) zw);have KG:H5 ll=none:=by rw [ak xo] at zw;exact zw
  have KH:H ll=none:=kA.free KG D5.there;generalize zE:upd (upd H5 fo (.lst [])) ll (.lst [V.ref tl,V.ref fl])=H7;have e7:H7 fo=some (.lst []):=by rw [<-zE,ak (aD xo),ai]
  have e7l:H7 ll=some (.lst [V.ref tl,V.ref fl]):=by rw [<-zE,ai]
  have RF7:eJ H7 fl F0:=by rw [<-zE];exact RF6.same (aG zw)
  have RT7:eJ H7 tl T0:=by rw [<-zE];exact RT6.same (aG zw)
  have D7:dD K sa H7 d:=by rw [<-zE];exact (D5.new xP).new zw
  have k7:cp d H H7:=by rw [<-zE];exact oq (oq kA xO) KH
  refine om (K:=K) (a:=ll) (xs:=[V.ref tl,V.ref fl]) (fun i aa H'=>∃v ls,aa=[some (.ref d),some (.int mo),some (.int (1+r2)),some (.int wd),some (.int (2+r1)),some (.ref fl),some (.ref tl),some (.int t),some (.ref fo),v]/\
   H' fo=some (.lst (ls.map V.ref))/\Paired (fun a rs=>eJ H' a rs/\a≠fo/\a≠d) ls (([T0,F0].take i).map fun R=>R.map (lG (2+r1) t))/\cp fo H7 H') ⟨none,[],rfl,e7,.nil,cp.refl fo H7⟩ ?_ ?_ ?_
  ·rintro i aa H8 _ ⟨v,ls,rfl,_,_,k8⟩;exact ax.of (k8 _ _ e7l xo)
  ·rintro i x aa H8 hx ⟨v,ls,rfl,e8,zd,k8⟩;obtain ⟨a0,R0,rfl,RA,a0fo,htk,Kp,hln⟩:∃a0 R0,x=.ref a0/\eJ H8 a0 R0/\a0≠fo/\(([T0,F0].take (i+1)).map fun R=>R.map (lG (2+r1) t))=(([T0,F0].take i).map fun R=>R.map (lG (2+r1) t))++[R0.map (lG (2+r1) t)]/\
    (∀r∈R0,∃a b l m:Int,r=[a,b,l,m])/\R0.length<=12:=by
    match i,hx with
    | 0,hx=>
     cases hx;exact ⟨tl,T0,rfl,RT7.keep k8 e7 AO,AO,rfl,fun r hr=>by
      obtain ⟨a,b,l,m,e,_⟩:=m7 r hr;exact ⟨a,b,l,m,e⟩,xU⟩
    | 1,hx=>
     cases hx;exact ⟨fl,F0,rfl,RF7.keep k8 e7 BV,BV,rfl,fun r hr=>by
      obtain ⟨i,e⟩:=oU.mp hr;obtain ⟨a,l,m,e,_⟩:=Lz i r e;exact ⟨a,_,l,m,e⟩,by lia⟩
    | i+2,hx=>cases hx
   obtain ⟨JE,RP⟩:=RA;refine ⟨_,rfl,.inl ⟨rfl,_,ax.of e8⟩,?_⟩;refine ⟨_,rfl,a0,rfl,⟨_,ax.of RP.1⟩,fun Da cK=>?_⟩;refine uT (xs:=JE.map V.ref) (fun j aa H'=>∃v ps,aa=[v,some (.int (2+r1)),some (.int t)]/\fC H' Da ps ((R0.take j).map (lG (2+r1) t))/\aI H8 H') ?_ ?_ ?_ ?_
   ·exact ⟨none,[],rfl,⟨ai,.nil⟩,aG cK⟩
   ·rintro j aa H9 _ ⟨v,ps,rfl,_,s9⟩;exact ax.of (s9 _ _ RP.1)
   ·rintro j x aa H9 vt ⟨v,ps,rfl,R9,s9⟩;rw [f9] at vt
    cases hq:JE[j]? with
    | none=>rw [hq] at vt;cases vt
    | some q=>
     rw [hq] at vt;cases vt;obtain ⟨r,hr,iG⟩:=aX RP.2 hq;obtain ⟨a,b,l,m,rfl⟩:=Kp r (gq hr);have um:=s9 _ _ iG;refine ⟨_,rfl,ay um rfl ⟨_,rfl,_,rfl,_,_,_,rfl,by lia,?_⟩⟩;refine ⟨_,rfl,ay um rfl ⟨_,rfl,_,rfl,_,_,_,rfl,by lia,?_⟩⟩;refine ⟨_,rfl,ay um rfl ⟨_,rfl,ay um rfl ⟨dc rfl,fun p hp=>?_⟩⟩⟩;have LY:=R9.same (aG (o:=.tup [.int (g8 a (2+r1) t),.int (g8 b (2+r1) t),.int l,.int m]) hp);have L4:H8 Da=none:=cK;refine ⟨_,LY.1,?_,_,ps++[p],rfl,?_,fun b o e=>?_⟩
     ·rw [aB,LY.len,aB,ie];exact gK (by lia)
     ·have hj:(R0.take (j+1)).map (lG (2+r1) t)=(R0.take j).map (lG (2+r1) t)++[[g8 a (2+r1) t,g8 b (2+r1) t,l,m]]:=by
       rw [lD,hr,ef];rfl
      rw [hj];exact LY.push ai
     ·rw [ak (aR e L4),ak (aR (s9 _ _ e) hp)];exact s9 _ _ e
   ·rintro aa H9 ⟨v,ps,rfl,R9,s9⟩;have e9:=s9 _ _ e8;refine ⟨fo,_,.ref Da,rfl,rfl,e9,?_,?_⟩
    ·rw [aB,zd.length,aB,ie];exact gK (by simp;lia)
    ·have vD:Da≠fo:=aD (aR e8 cK);have L3:Da≠d:=fun e=>by
      subst e;obtain ⟨p,q⟩:=(D7.qD k8 e7 L7).at_;rw [cK] at q;cases q
     have ku:cp fo H9 (upd H9 fo (.lst (ls.map V.ref++[.ref Da]))):=fun b o e n=>by rw [ak n];exact e
     refine ⟨_,ls++[Da],rfl,by rw [ai,ef];rfl,?_,fun b o e n=>by rw [ak n];exact s9 _ _ (k8 b o e n)⟩;rw [htk];refine Paired.snoc (gL zd fun a rs z=>⟨(z.1.same s9).keep ku e9 z.2.1,z.2⟩) ⟨?_,vD,L3⟩;have hl:R0.take (JE.map V.ref).length=R0:=by
      rw [aB,RP.len];exact jB
     rw [hl] at R9;exact eJ.keep ⟨ps,R9⟩ ku e9 vD
  ·rintro aa H8 ⟨v,ls,rfl,e8,zd,k8⟩;have zd:Paired (fun a rs=>eJ H8 a rs/\a≠fo/\a≠d) ls [T0.map (lG (2+r1) t),F0.map (lG (2+r1) t)]:=zd
   cases zd with
   | @cons lt _ ls1 _ q1 pl9=>
    cases pl9 with
    | @cons lf _ ls2 _ q2 JF=>
     cases JF;refine ⟨_,rfl,_,rfl,_,rfl,jO e8 rfl ⟨_,rfl,jO e8 rfl ⟨dc rfl,fun p hp=>?_⟩⟩⟩;have sm:=aG (o:=.tup [.int (2+r1),.int (1+r2),.ref lt,.ref lf]) hp;exact k p lt lf _ _ _ _ _ ai (q1.1.same sm) (q2.1.same sm) (W9 (by lia) (by lia) (by lia) (by lia) Bq htb m7 xU hc m6 Lz) (by lia) (by lia) (by lia) ((D7.qD k8 e7 L7).same sm) (oq (O2 k7 k8 xO) ((O2 k7 k8 xO).free hp (D7.qD k8 e7 L7).there)) q1.2.2 q2.2.2 ⟨mE.JC Lz,by rw [aB];exact xU⟩
end Y0
namespace L2
open PySem PySem.Spec PyProof.Rows
section
theorem gZ.Rr {x qual:Str} {st:Stmt} {f:Addr} {fd:FuncData} {N ps:List Str} {k:Nat} {sp:Sp} (F:gZ K x qual st f fd) (S:cG N ps (aZ st)) (len:∀vs H Q E,sp vs H Q E->vs.length=ps.length)
 (iY:∀(dn:Value) (A:Around) (outer:List Env) (s:Shared) (H:Hp) (vs:List V) (Q:VK) (E:XK),cY k (A.deeper (envOfC qual (aZ st) s.heap.objs.size f dn))->sp vs H Q E->
  ∃t,g7 (n_ (nV P w) P w K mg base N qual (aZ st) f dn A outer s H E) (oi st) t/\t { nx:=fun _ H'=>Q .aU H',rt:=Q } (jn N vs) H):ar P w K mg base (nV P w) (k+1) f fd ps sp:=by
 obtain ⟨oc,od,kV,doc,pm,an,dn,ct,o4,rfl,lk,oN⟩:=F.ex;exact QQ lk oN S len fun A outer s H vs Q E hr pz=>iY dn A outer s H vs Q E hr pz
end
theorem jc {c A B:Prop} [Decidable c] (hc:c) (h:A):if decide c=true then A else B:=by
 rw [jt hc];exact mL h
theorem kQ {c A B:Prop} [Decidable c] (hc:¬c) (h:B):if decide c=true then A else B:=by
 rw [fY hc];exact ip h
theorem QN {Q:VK} {H:Hp} {b b':Bool} (k:Q (.bl b) H) (e:b=b'):Q (.bl b') H:=e▸k
theorem Av:∀{ns:List Int},uf (.int a) (ns.map V.int)=decide (a∈ns)
 | []=>by simp [uf]
 | n::r=>by
  have ih:=Av (a:=a) (ns:=r);unfold uf at ih ⊢;rw [eU,List.any_cons,ih];show ((n==a) || decide (a∈r))=decide (a∈n::r)
  by_cases e:n=a
  ·subst e;simp
  ·have:¬a=n:=fun z=>e z.symm;simp [e,this]
theorem AD:∀{ns:List Int},(ns.map V.int).all jE=true
 | []=>rfl
 | n::r=>by
  rw [eU,List.all_cons,AD (ns:=r)];rfl
theorem N_ {α:Type} {xs:List α} {i:Nat} (h:i<=xs.length):(xs.drop (HT.cv xs.length 0 none)).take (HT.cv xs.length xs.length (some (i:Int))-HT.cv xs.length 0 none)=xs.take i:=by
 rw [HT.eM,HT.dO,List.drop_zero,Nat.sub_zero,Nat.min_eq_left h]
end L2
namespace Y0
open PySem L2
structure lF (mg:Str->Option Value):Prop where
 mm:∃t,mg "MOST_MOMENTS"=some (.int 8 t)
 ll:∃t,mg "LATEST_LAST"=some (.int 60 t)
 ws:∃t,mg "WIDEST_SPAN"=some (.int 60 t)
 lf:∃t,mg "LONGEST_FALL"=some (.int 60 t)
 list:mg "list"=none
def FZ:Sp:=fun vs H Q _=>∃n a b,vs=[.int n,.int a,.int b]/\Q (.bl (decide (0<=a/\a<n/\0<=b/\b<n/\a≠b))) H
def MP:Sp:=fun vs H Q _=>∃n la,vs=[.int n,.int la]/\1<=n/\n<=8/\1<=la/\la<=60/\Q .aU H
def NC:Sp:=fun vs H Q _=>∃n a T,vs=[.int n,.ref a]/\eJ H a T/\(∀r∈T,uC n r)/\Q .aU H
def OC:Sp:=fun vs H Q _=>∃n a la T F,vs=[.int n,.ref a]/\eJ H a F/\cB n la T F/\∀H',aI H H'->Q .aU H'
theorem sc2:cG ["many","one","other"] ["many","one","other"] (aZ aO):=cV
theorem wZ {f:Addr} {fd:FuncData} (F:Fn K mg "are_two_moments" aO ["many","one","other"] f fd):ar P w K mg base a9 1 f fd ["many","one","other"] FZ:=by
 refine F.F.ok sc2 (fun _ _ _ _ h=>?_) fun _ A _ s H _ Q E hr h=>?_
 ·obtain ⟨n,a,b,rfl,_⟩:=h;rfl
 ·obtain ⟨n,a,b,rfl,k⟩:=h;refine ⟨_,aE (cC (Ah (HE mR uG aw (pv 1) (pv 0)) (Ah (HE mR uG aw (pv 2) (pv 0)) (Ai (vU CJ (pv 1) (pv 2)))))),?_⟩;refine ⟨_,rfl,_,_,rfl,rfl,_,rfl,hV (fun h1=>⟨_,rfl,_,_,rfl,rfl,_,rfl,hV (fun h2=>⟨_,rfl,_,_,rfl,rfl,_,rfl,hV (fun h3=>⟨_,rfl,_,_,rfl,rfl,_,rfl,hV (fun h4=>⟨_,rfl,_,rfl,rfl,?_⟩) (fun h4=>?_)⟩) (fun h3=>⟨false,rfl,ip ?_⟩)⟩) (fun h2=>?_)⟩) (fun h1=>⟨false,rfl,ip ?_⟩)⟩
  all_goals simp only [yj] at*
  ·refine QN (Q:=Q) k ?_
   by_cases e:a=b
   ·subst e;simp
   ·simp [e];lia
  all_goals (refine QN (Q:=Q) k (fY fun z=>?_);omega)
theorem scS:cG ["many","last"] ["many","last"] (aZ bC):=cV
theorem tQ (F:Fn K mg "look_over_size" bC ["many","last"] f fd) (T:lF mg):ar P w K mg base a9 1 f fd ["many","last"] MP:=by
 obtain ⟨t1,m1⟩:=T.mm;obtain ⟨t2,m2⟩:=T.ll;refine F.F.ok scS (fun _ _ _ _ h=>?_) fun _ A _ s H _ Q E hr h=>?_
 ·obtain ⟨n,a,rfl,_⟩:=h;rfl
 ·obtain ⟨n,la,rfl,n1,n2,l1,l2,k⟩:=h;refine ⟨_,a_ (dR (yF (O6 mR mR aw (pv 0) (yK (v:=.int 8) rfl m1 ⟨_,rfl⟩))) wA dZ) (aE (dR (yF (O6 mR mR aw (pv 1) (yK (v:=.int 60) rfl m2 ⟨_,rfl⟩))) wA dZ)),?_⟩;refine ⟨_,rfl,_,_,rfl,rfl,_,rfl,jc n1 ⟨_,_,rfl,rfl,_,rfl,uE n2 ?_⟩⟩;exact ⟨_,rfl,_,_,rfl,rfl,_,rfl,jc l1 ⟨_,_,rfl,rfl,_,rfl,uE l2 k⟩⟩
abbrev nLT:List Str:=["many","ties","at","one","other","least","most"]
theorem vX:cG nLT ["many","ties"] (aZ bz):=cV
theorem qo (F:Fn K mg "look_over_ties" bz ["many","ties"] f fd) (T:lF mg) (F2:Fn K mg "are_two_moments" aO ["many","one","other"] f2 LG)
 (G2:ar P w K mg base a9 1 f2 LG ["many","one","other"] FZ):ar P w K mg base a9 2 f fd ["many","ties"] NC:=by
 obtain ⟨t1,m1⟩:=T.ws;refine F.F.ok vX (fun _ _ _ _ h=>?_) fun _ A _ s H _ Q E hr h=>?_
 ·obtain ⟨n,a,_,rfl,_⟩:=h;rfl
 ·obtain ⟨n,a,rows,rfl,⟨ps,R⟩,af,k⟩:=h;refine ⟨_,a_ (cA 2 vX.nd aw) (aE (jw PassesOwn.never rfl (jq (pv 1))
   (uK rfl (dX (bS 3 vX.nd) (dX (bS 4 vX.nd) (dX (bS 5 vX.nd) (dX (bS 6 vX.nd) rM)))))
   (a_ (dR (yF (Ak (cf G2 hr F2 (iw (pv 0) (pv 3) (pv 4))))) wA dZ)
   (a_ (dR (yF (Ph mR mR mR (sO sR (yK (v:=.int 60) rfl m1 ⟨_,rfl⟩)) (pv 5) (pv 6) (yK (v:=.int 60) rfl m1 ⟨_,rfl⟩))) wA dZ)
   (aE (Hj (i:=2) vX.nd rfl (Or.inl rfl) aw GQ)))))),?_⟩
  refine ⟨_,rfl,a,rfl,⟨_,ax.of R.1⟩,om (K:=K) (a:=a) (xs:=ps.map V.ref) (fun i aa H'=>∃z v1 v2 v3 v4,aa=[some (.int n),some (.ref a),some (.int z),v1,v2,v3,v4]/\H'=H) ⟨0,none,none,none,none,rfl,rfl⟩ ?_ ?_ ?_⟩
  ·rintro i aa H' _ ⟨z,v1,v2,v3,v4,rfl,rfl⟩;exact ax.of R.1
  ·rintro i x aa H' hx ⟨z,v1,v2,v3,v4,rfl,rfl⟩;rw [f9] at hx
   cases hq:ps[i]? with
   | none=>rw [hq] at hx;cases hx
   | some q=>
    rw [hq] at hx;cases hx;obtain ⟨r,aJ,iG⟩:=aX R.2 hq;obtain ⟨a',b',l,m,rfl,h1,h2,h3,h4,h5,h6,h7,h8⟩:=af r (gq aJ);refine ⟨q,_,rfl,c_.of iG,rfl,_,_,rfl,_,_,rfl,_,_,rfl,_,_,rfl,rfl,?_⟩;refine ⟨_,rfl,_,rfl,_,rfl,n,a',b',rfl,_,rfl,uE ⟨h1,h2,h3,h4,h5⟩ ?_⟩;refine ⟨_,rfl,_,rfl,_,_,rfl,rfl,_,rfl,jc (by omega) ⟨_,rfl,_,_,rfl,rfl,_,rfl,jc h7 ⟨_,_,rfl,rfl,_,rfl,uE h8 ?_⟩⟩⟩;exact ⟨_,rfl,_,_,rfl,rfl,_,_,_,_,_,rfl,rfl⟩
  ·rintro aa H' ⟨z,v1,v2,v3,v4,rfl,rfl⟩;exact k
end Y0
namespace L2
open PySem PySem.Spec PyProof.Rows
theorem jl {b:Bool} {A B:Prop} (e:b=false) (h:B):if b=true then A else B:=by
 rw [e];exact ip h
theorem sP {b:Bool} {A B:Prop} (e:b=true) (h:A):if b=true then A else B:=by
 rw [e];exact mL h
theorem Du (f:Str) (v:V):∀fs:List (Str×V),(aP f v fs).length<=fs.length+1
 | []=>az _
 | (g,x)::r=>by
  unfold aP;split
  ·exact nS _
  ·exact Nat.succ_le_succ (Du f v r)
theorem fC.get {rows:List (List Int)} (R:fC H a ps rows) {i:Nat} (hx:(ps.map V.ref)[i]?=some x):∃q r,x=.ref q/\ps[i]?=some q/\rows[i]?=some r/\H q=some (.tup (r.map V.int)):=by
 rw [f9] at hx
 cases hq:ps[i]? with
 | none=>rw [hq] at hx;cases hx
 | some q=>
  rw [hq] at hx;cases hx;obtain ⟨r,aJ,iG⟩:=Y0.aX R.2 hq;exact ⟨q,r,rfl,rfl,aJ,iG⟩
end L2
namespace Y0
open PySem L2
def sG (r:List Int):Int:=r.getD 1 0
structure nY (K:aF) (mg:Str->Option Value) (C:Addr):Prop where
 cl:rn K C
 nM:l_ K C "many"
 nL:l_ K C "last"
 nT:l_ K C "told_ties"
 nF:l_ K C "told_falls"
 Bg:mg "Web"=some (.ref C)
def og (n la:Int) (ta fa:Addr):List (Str×V):=aP "told_falls" (.ref fa) (aP "told_ties" (.ref ta) (aP "last" (.int la) (aP "many" (.int n) [])))
theorem k1:¬(("many":Str)="told_falls"):=by decide+kernel
theorem k2:¬(("many":Str)="told_ties"):=by decide+kernel
theorem k3:¬(("many":Str)="last"):=by decide+kernel
theorem k4:¬(("last":Str)="told_falls"):=by decide+kernel
theorem k5:¬(("last":Str)="told_ties"):=by decide+kernel
theorem k6:¬(("told_ties":Str)="told_falls"):=by decide+kernel
theorem uN (n la:Int) (ta fa:Addr):(og n la ta fa).lookup ("many":Str)=some (.int n):=by
 unfold og;rw [lN,if_neg k1,lN,if_neg k2,lN,if_neg k3,lN,if_pos rfl]
theorem UN (n la:Int) (ta fa:Addr):(og n la ta fa).lookup ("last":Str)=some (.int la):=by
 unfold og;rw [lN,if_neg k4,lN,if_neg k5,lN,if_pos rfl]
theorem UO (n la:Int) (ta fa:Addr):(og n la ta fa).lookup ("told_ties":Str)=some (.ref ta):=by
 unfold og;rw [lN,if_neg k6,lN,if_pos rfl]
theorem NR (n la:Int) (ta fa:Addr):(og n la ta fa).lookup ("told_falls":Str)=some (.ref fa):=by
 unfold og;rw [lN,if_pos rfl]
theorem zW (n la:Int) (ta fa:Addr) {m:Str} (h1:¬m="told_falls") (h2:¬m="told_ties") (h3:¬m="last") (h4:¬m="many"):(og n la ta fa).lookup m=none:=by
 unfold og;rw [lN,if_neg h1,lN,if_neg h2,lN,if_neg h3,lN,if_neg h4]
 all_goals rfl
def jG (C:Addr) (H:Hp) (p:Addr) (n la:Int) (T F:List (List Int)):Prop:=∃dx ta fa,H p=some (.ins C dx (og n la ta fa))/\eJ H ta T/\eJ H fa F
theorem jG.same (h:jG C H p n la T F) (k:aI H H'):jG C H' p n la T F:=by
 obtain ⟨dx,ta,fa,e,r1,r2⟩:=h;exact ⟨dx,ta,fa,k _ _ e,r1.same k,r2.same k⟩
def MG (C:Addr):Sp:=fun vs H Q _=>∃p dx n la a b T F,vs=[.ref p,.int n,.int la,.ref a,.ref b]/\H p=some (.ins C dx [])/\eJ H a T/\eJ H b F/\cB n la T F/\
 ∀H',jG C H' p n la T F->cp p H H'->Q .aU H'
def yB (C:Addr) (g:List (List Int)->List (List Int)->List (List Int)):Sp:=fun vs H Q _=>∃p n la T F,vs=[.ref p]/\jG C H p n la T F/\∀l H',H l=none->aI H H'->eJ H' l (g T F)->Q (.ref l) H'
abbrev RG:List Str:=["many","falls","ends","at","one","other","least","most"]
theorem u9:cG RG ["many","falls"] (aZ aN):=cV
theorem Yl:iP (aZ aN) RG (lT [(".0",.local),("fall",.local)]) ["fall"] [none]:=lU
theorem RB:([x]:List Str).Nodup:=by simp
theorem oB (F:Fn K mg "look_over_falls" aN ["many","falls"] f fd) (T:lF mg) (F2:Fn K mg "are_two_moments" aO ["many","one","other"] f2 LG)
 (G2:ar P w K mg base a9 1 f2 LG ["many","one","other"] FZ):ar P w K mg base a9 2 f fd ["many","falls"] OC:=by
 obtain ⟨t1,m1⟩:=T.lf;refine F.F.ok u9 (fun _ _ _ _ h=>?_) fun _ A _ s H _ Q E hr h=>?_
 ·obtain ⟨n,a,_,_,_,rfl,_⟩:=h;rfl
 ·obtain ⟨n,a,la,TT,rows,rfl,⟨ps,R⟩,af,k⟩:=h;refine ⟨_,a_ (De (i:=2) u9.nd rfl rfl rfl (jq (pv 1)) Yl (fun cl ex s0 H0=>⟨bS 0 RB,pX,a8 (pv 0)⟩))
   (a_ (cA 3 u9.nd aw) (aE (jw PassesOwn.never rfl (jq (pv 1))
   (uK rfl (dX (bS 4 u9.nd) (dX (bS 5 u9.nd) (dX (bS 6 u9.nd) (dX (bS 7 u9.nd) rM)))))
   (a_ (dR (PW.pt (uH (yF (Ak (cf G2 hr F2 (iw (pv 0) (pv 4) (pv 5))))) (yG (As HW (pv 4) (pv 2) (by with_unfolding_all rfl))))) wA dZ)
   (a_ (dR (PW.pt (uH (dh gu (pv 5) aw) (yG (As HW (pv 5) (pW wu (pv 2) pR (pT (pv 3))) (by with_unfolding_all rfl))))) wA dZ)
   (a_ (dR (yF (Ph mR mR mR aw (pv 6) (pv 7) (yK (v:=.int 60) rfl m1 ⟨_,rfl⟩))) wA dZ)
   (aE (Hj (i:=3) u9.nd rfl (Or.inl rfl) aw GQ)))))))),?_⟩
  refine ⟨_,rfl,a,rfl,⟨_,ax.of R.1⟩,fun Da cK=>?_⟩;refine uT (xs:=ps.map V.ref) (fun j aa H'=>∃v,aa=[v]/\H' Da=some (.lst (((rows.take j).map sG).map V.int))/\aI H H') ?_ ?_ ?_ ?_
  ·exact ⟨none,rfl,ai,aG cK⟩
  ·rintro j aa H1 _ ⟨v,rfl,_,s1⟩;exact ax.of (s1 _ _ R.1)
  ·rintro j x aa H1 hx ⟨v,rfl,e1,s1⟩;obtain ⟨q,r,rfl,hq,aJ,iG⟩:=R.get hx;obtain ⟨a',b',l,m,rfl,_⟩:=af.f r (gq aJ);refine ⟨_,rfl,ay (s1 _ _ iG) rfl ⟨_,e1,?_,_,rfl,?_,fun b o e=>?_⟩⟩
   ·rw [aB,aB,ie];have:=af.fl;exact gK (by lia)
   ·rw [ai,lD,aJ,ef,ef];rfl
   ·rw [ak (aR e cK)];exact s1 _ _ e
  ·rintro aa H1 ⟨v,rfl,e1,s1⟩;have hl:rows.take (ps.map V.ref).length=rows:=by
    rw [aB,R.len];exact jB
   rw [hl] at e1;have R1:=R.same s1;refine ⟨_,rfl,a,rfl,⟨_,ax.of R1.1⟩,om (K:=K) (a:=a) (xs:=ps.map V.ref) (fun i aa H'=>∃z v1 v2 v3 v4,z=(i:Int)/\aa=[some (.int n),some (.ref a),some (.ref Da),some (.int z),v1,v2,v3,v4]/\aI H1 H') ⟨0,none,none,none,none,rfl,rfl,aI.refl _⟩ ?_ ?_ ?_⟩
   ·rintro i aa H' _ ⟨z,v1,v2,v3,v4,_,rfl,s2⟩;exact ax.of (s2 _ _ R1.1)
   ·rintro i x aa H2 hx ⟨z,v1,v2,v3,v4,rfl,rfl,s2⟩;have R2:=R1.same s2;obtain ⟨q,r,rfl,hq,aJ,iG⟩:=R2.get hx;have d_:=gq aJ;obtain ⟨a',b',l,m,e4,h1,h2,h3,h4,h5,h6,h7,h8⟩:=af.f r d_;subst e4;have e2:=s2 _ _ e1;refine ⟨q,_,rfl,c_.of iG,rfl,_,_,rfl,_,_,rfl,_,_,rfl,_,_,rfl,rfl,?_⟩;refine ⟨_,rfl,_,rfl,_,rfl,n,a',b',rfl,_,rfl,uE ⟨h1,h2,by exact f_ h3,h4,h5⟩ ?_⟩;refine ⟨_,rfl,_,rfl,Da,_,rfl,.inl (ax.of e2),rfl,AD,_,rfl,jl ?_ ?_⟩
    ·show uf _ _=false;rw [Av];refine fY fun z=>?_;obtain ⟨r',j8,e⟩:=eD.mp z;obtain ⟨a2,b2,l2,m2,e5,_⟩:=af.f r' j8;subst e5;refine af.own _ d_ _ j8 ?_;have e6:b2=a':=e;show some a'=some b2;rw [e6]
    ·refine ⟨_,rfl,rfl,_,rfl,kQ (by intro z;have:=V.int.inj z;lia) ?_⟩;refine ⟨_,rfl,_,rfl,_,rfl,_,rfl,Da,_,rfl,ax.of e2,fun p hp=>⟨p,_,rfl,.inl (ax.of ai),rfl,?_,_,rfl,jl ?_ ?_⟩⟩
     ·unfold kO;rw [N_ (by rw [aB,aB];exact bp (gO.mp aJ).1),<-List.map_take];exact AD
     ·show uf _ _=false;unfold kO;rw [N_ (by rw [aB,aB];exact bp (gO.mp aJ).1),<-List.map_take,Av];refine fY fun z=>?_;obtain ⟨j,hj⟩:=oU.mp z;have hji:j<i:=by
       have:=(gO.mp hj).1;rw [ie] at this;lia
      rw [List.getElem?_take_of_lt hji,f9] at hj
      cases j8:rows[j]? with
      | none=>rw [j8] at hj;cases hj
      | some r'=>
       rw [j8] at hj;have e:sG r'=b':=eF hj;obtain ⟨a2,b2,l2,m2,e5,_⟩:=af.f r' (gq j8);subst e5;have e6:b2=b':=e;have:=af.one j i _ _ j8 aJ (by show some b2=some b';rw [e6]);lia
     ·refine ⟨_,rfl,_,_,rfl,rfl,_,rfl,jc h6 ⟨_,rfl,_,_,rfl,rfl,_,rfl,jc h7 ⟨_,_,rfl,rfl,_,rfl,uE h8 ?_⟩⟩⟩;exact ⟨_,rfl,_,_,rfl,rfl,_,_,_,_,_,(by show (i:Int)+1=_;lia),rfl,s2.trans (aG hp)⟩
   ·rintro aa H' ⟨z,v1,v2,v3,v4,_,rfl,s2⟩;exact k _ (s1.trans s2)
theorem scI:cG ["self","many","last","ties","falls"] ["self","many","last","ties","falls"] (aZ eO):=cV
theorem tY (F:gZ K "__init__" "Web.__init__" eO f fd) (T:lF mg) (TC:nY K mg C)
 (FS:Fn K mg "look_over_size" bC ["many","last"] fS LA) (GS:ar P w K mg base a9 1 fS LA ["many","last"] MP)
 (FT:Fn K mg "look_over_ties" bz ["many","ties"] fT pD) (GT:ar P w K mg base a9 2 fT pD ["many","ties"] NC)
 (FF:Fn K mg "look_over_falls" aN ["many","falls"] fF zF) (GF:ar P w K mg base a9 2 fF zF ["many","falls"] OC):
 ar P w K mg base a9 3 f fd ["self","many","last","ties","falls"] (MG C):=by
 refine F.ok scI (fun _ _ _ _ h=>?_) fun _ A _ s H _ Q E hr h=>?_
 ·obtain ⟨p,dx,n,la,a,b,_,_,rfl,_⟩:=h;rfl
 ·obtain ⟨p,dx,n,la,a,b,rT,rF,rfl,hp,RT,RF,af,k⟩:=h;have fU:cY 1 _:=hr.mono (by decide);refine ⟨_,a_ (gJ (cf GS fU FS (bw (pv 1) (pv 2))))
   (a_ (gJ (cf GT hr FT (bw (pv 1) (pv 3))))
   (a_ (gJ (cf GF hr FF (bw (pv 1) (pv 4))))
   (a_ (rH (pv 0) (pv 1) rfl) (a_ (rH (pv 0) (pv 2) rfl)
   (a_ (rH (pv 0) (uU yY (by rfl) T.list (by decide+kernel) (bM (pv 3))) rfl)
   (aE (rH (pv 0) (uU yY (by rfl) T.list (by decide+kernel) (bM (pv 4))) rfl))))))),?_⟩
  refine ⟨_,rfl,_,rfl,n,la,rfl,af.n1,af.n2,af.l1,af.l2,?_⟩;refine ⟨_,rfl,_,rfl,n,a,rT,rfl,RT,af.t,?_⟩;refine ⟨_,rfl,_,rfl,n,b,la,rT,rF,rfl,RF,af,fun H1 s1=>?_⟩;have i6:=s1 _ _ hp;have RT1:=RT.same s1;have RF1:=RF.same s1;obtain ⟨AZ,Q1⟩:=RT1;obtain ⟨EM,Q2⟩:=RF1;refine ⟨_,rfl,_,rfl,p,C,dx,_,rfl,i6,TC.cl,TC.nM,(by show 0<1000;decide),?_⟩;refine ⟨_,rfl,_,rfl,p,C,dx,_,rfl,ai,TC.cl,TC.nL,(by show 1<1000;decide),?_⟩;rw [NP];have kp:∀{o:HO},cp p H1 (upd H1 p o):=fun {o} b u e ne=>by rw [ak ne];exact e
  have np:∀{x:Addr} {xs:List V},H1 x=some (.lst xs)->x≠p:=fun {x xs} e=>cH e i6 nofun;refine ⟨_,rfl,a,_,rfl,.inl (ax.of (by rw [ak (np Q1.1)];exact Q1.1)),fun l1 kF=>?_⟩;have ES:l1≠p:=aD (aR ai kF);have KN:H1 l1=none:=by rw [ak ES] at kF;exact kF
  refine ⟨_,rfl,p,C,dx,_,rfl,(by rw [ak (aD ES),ai]),TC.cl,TC.nT,Nat.lt_of_le_of_lt (Du _ _ _) (by show 2<1000;decide),?_⟩;generalize Lx:upd (upd (upd H1 p (.ins C dx (aP "last" (.int la) (aP "many" (.int n) [])))) l1 (.lst (AZ.map V.ref))) p (.ins C dx (aP "told_ties" (.ref l1) (aP "last" (.int la) (aP "many" (.int n) []))))=H2;have zj:cp p H1 H2:=fun x o e ne=>by rw [<-Lx,ak ne,ak (aR e KN),ak ne];exact e
  have p2:H2 p=some (.ins C dx (aP "told_ties" (.ref l1) (aP "last" (.int la) (aP "many" (.int n) [])))):=by rw [<-Lx,ai]
  have l2:H2 l1=some (.lst (AZ.map V.ref)):=by rw [<-Lx,ak ES,ai]
  refine ⟨_,rfl,b,_,rfl,.inl (ax.of (zj _ _ Q2.1 (np Q2.1))),fun l3 oK=>?_⟩;have JP:l3≠p:=aD (aR p2 oK);have l31:l3≠l1:=aD (aR l2 oK);have KL:H1 l3=none:=by
   cases q:H1 l3 with
   | none=>rfl
   | some o=>rw [zj _ _ q JP] at oK;cases oK
  refine ⟨_,rfl,p,C,dx,_,rfl,(by rw [ak (aD JP)];exact p2),TC.cl,TC.nF,Nat.lt_of_le_of_lt (Du _ _ _) (Nat.lt_of_le_of_lt (Nat.succ_le_succ (Du _ _ _)) (by show 3<1000;decide)),?_⟩;generalize Fw:upd (upd H2 l3 (.lst (EM.map V.ref))) p (.ins C dx (aP "told_falls" (.ref l3) (aP "told_ties" (.ref l1) (aP "last" (.int la) (aP "many" (.int n) [])))))=H4;have JU:cp p H1 H4:=fun x o e ne=>by rw [<-Fw,ak ne,ak (aR e KL)];exact zj _ _ e ne
  have tp:∀{x:Addr} {xs:List V},H1 x=some (.tup xs)->x≠p:=fun {x xs} e=>cH e i6 nofun;refine k H4 ⟨dx,l1,l3,by rw [<-Fw,ai];rfl,⟨AZ,?_,gL Q1.2 fun x r e=>JU _ _ e (tp e)⟩,⟨EM,?_,gL Q2.2 fun x r e=>JU _ _ e (tp e)⟩⟩ (fun x o e ne=>JU _ _ (s1 _ _ e) ne)
  ·rw [<-Fw,ak ES,ak (aD l31)];exact l2
  ·rw [<-Fw,ak JP,ai]
theorem YA:cG ["self"] ["self"] (aZ eN):=cV
theorem YB:cG ["self"] ["self"] (aZ dP):=cV
theorem ql (F:gZ K "ties" "Web.ties" eN f fd) (T:lF mg) (TC:nY K mg C):ar P w K mg base a9 1 f fd ["self"] (yB C fun T _=>T):=by
 refine F.ok YA (fun _ _ _ _ h=>?_) fun _ A _ s H _ Q E hr h=>?_
 ·obtain ⟨p,_,_,_,_,rfl,_⟩:=h;rfl
 ·obtain ⟨p,n,la,rT,rF,rfl,⟨dx,ta,fa,hp,⟨ps,R⟩,_⟩,k⟩:=h;refine ⟨_,aE (cC (uU yY (by rfl) T.list (by decide+kernel) (bM (fQ (pv 0) rfl)))),?_⟩;refine ⟨_,rfl,p,C,dx,_,_,rfl,hp,TC.cl,TC.nT,UO _ _ _ _,ta,_,rfl,.inl (ax.of R.1),fun l hl=>?_⟩;exact k l _ hl (aG hl) ⟨ps,ai,(R.same (aG hl)).2⟩
theorem oE (F:gZ K "falls" "Web.falls" dP f fd) (T:lF mg) (TC:nY K mg C):ar P w K mg base a9 1 f fd ["self"] (yB C fun _ F=>F):=by
 refine F.ok YB (fun _ _ _ _ h=>?_) fun _ A _ s H _ Q E hr h=>?_
 ·obtain ⟨p,_,_,_,_,rfl,_⟩:=h;rfl
 ·obtain ⟨p,n,la,rT,rF,rfl,⟨dx,ta,fa,hp,_,⟨ps,R⟩⟩,k⟩:=h;refine ⟨_,aE (cC (uU yY (by rfl) T.list (by decide+kernel) (bM (fQ (pv 0) rfl)))),?_⟩;refine ⟨_,rfl,p,C,dx,_,_,rfl,hp,TC.cl,TC.nF,NR _ _ _ _,fa,_,rfl,.inl (ax.of R.1),fun l hl=>?_⟩;exact k l _ hl (aG hl) ⟨ps,ai,(R.same (aG hl)).2⟩
end Y0
namespace L2
open PySem PySem.Spec PyProof.Rows
theorem p_ {l l':List α} {m m':List β} (h:Paired F l m) (h':Paired F l' m'):Paired F (l++l') (m++m'):=by
 induction h with
 | nil=>exact h'
 | cons r t ih=>exact .cons r ih
theorem fC.cat (h1:fC H a ps r) (h2:fC H b qs s) (hp:H p=none):fC (upd H p (.lst (ps.map V.ref++qs.map V.ref))) p (ps++qs) (r++s):=
 ⟨by rw [ai,ef],p_ (h1.same (aG hp)).2 (h2.same (aG hp)).2⟩
theorem fC.more (h:fC H l ps rows) (s:aI H0 H) (hl:H0 l=none) (hp:H p=none):
 fC (upd (upd H p (.tup (r.map V.int))) l (.lst (ps.map V.ref++[.ref p]))) l (ps++[p]) (rows++[r])/\aI H0 (upd (upd H p (.tup (r.map V.int))) l (.lst (ps.map V.ref++[.ref p])))/\upd H p (.tup (r.map V.int)) l=some (.lst (ps.map V.ref)):=by
 have R:=h.same (aG (o:=.tup (r.map V.int)) hp);refine ⟨R.push ai,fun b o e=>?_,R.1⟩;rw [ak (aR e hl),ak (aR (s _ _ e) hp)];exact s _ _ e
end L2
namespace Y0
open PySem L2
def kR (la:Int):Nat->List (List Int)
 | 0=>[]
 | k+1=>kR la k++[[0,(k:Int)+1,la],[(k:Int)+1,0,0]]
theorem yV (la:Int):∀k,(kR la k).length=2*k
 | 0=>rfl
 | k+1=>by unfold kR;rw [ig,yV la k];rfl
def ZF:List Int->List (List Int)
 | [a,b,l,m]=>[[a,b,m],[b,a,-l]]
 | _=>[]
def jF (rows:List (List Int)):List (List Int):=(rows.map ZF).flatten
def vO (rows:List (List Int)):Prop:=∀r∈rows,∃a b l m:Int,r=[a,b,l,m]
theorem uV:∀{rows:List (List Int)},vO rows->(jF rows).length=2*rows.length
 | [],_=>rfl
 | r::t,h=>by
  obtain ⟨a,b,l,m,rfl⟩:=h _ eG;have ih:=uV (rows:=t) fun r hr=>h r (gz _ hr);unfold jF at ih ⊢;rw [eU,List.flatten_cons,ig,ih,kI];show 2+2*t.length=2*(t.length+1);lia
theorem cB.l9 (h:cB n la T F):vO T:=fun r hr=>by
 obtain ⟨a,b,l,m,e,_⟩:=h.t r hr;exact ⟨a,b,l,m,e⟩
theorem cB.jA (h:cB n la T F):vO F:=fun r hr=>by
 obtain ⟨a,b,l,m,e,_⟩:=h.f r hr;exact ⟨a,b,l,m,e⟩
def gQ (n la:Int) (T F:List (List Int)):List (List Int):=kR la (n-1).toNat++jF T++jF F
structure Yc (mg:Str->Option Value):Prop where
 range:mg "range"=none
def MO (C:Addr):Sp:=fun vs H Q _=>∃p n la T F,vs=[.ref p]/\jG C H p n la T F/\1<=n/\n<=8/\∀l H',H l=none->aI H H'->eJ H' l (kR la (n-1).toNat)->Q (.ref l) H'
def MR:Sp:=fun vs H Q _=>∃a rows,vs=[.ref a]/\eJ H a rows/\vO rows/\rows.length<=100/\∀l H',H l=none->aI H H'->eJ H' l (jF rows)->Q (.ref l) H'
def MW (C:Addr):Sp:=fun vs H Q _=>∃p a n la T F T',vs=[.ref p,.ref a]/\jG C H p n la T F/\cB n la T F/\eJ H a T'/\vO T'/\T'.length<=100/\∀l H',H l=none->aI H H'->eJ H' l (gQ n la T' F)->Q (.ref l) H'
def Hg (C:Addr):Sp:=fun vs H Q _=>∃p n la T F,vs=[.ref p]/\jG C H p n la T F/\cB n la T F/\∀l H',H l=none->aI H H'->eJ H' l (gQ n la T F)->Q (.ref l) H'
theorem Iz:cG ["web","bounds","moment"] ["web"] (aZ c7):=cV
theorem tR (F:Fn K mg "room_bounds" c7 ["web"] f fd) (T:Yc mg) (TC:nY K mg C):ar P w K mg base a9 1 f fd ["web"] (MO C):=by
 refine F.F.ok Iz (fun _ _ _ _ h=>?_) fun _ A _ s H _ Q E hr h=>?_
 ·obtain ⟨p,_,_,_,_,rfl,_⟩:=h;rfl
 ·obtain ⟨p,n,la,rT,rF,rfl,⟨dx,ta,fa,hp,_,_⟩,n1,n2,k⟩:=h;refine ⟨_,a_ (cA 1 Iz.nd (jo oh))
   (a_ (jw PassesOwn.never rfl (WM rfl T.range (bw aw (fQ (pv 0) rfl))) (bS 2 Iz.nd)
    (a_ (gJ (rE su rg sr pV (pv 1) (bM (dB (iw aw (pv 2) (fQ (pv 0) rfl))))))
    (aE (gJ (rE su rg sr pV (pv 1) (bM (dB (iw (pv 2) aw aw))))))))
   (aE (cC (pv 1)))),?_⟩
  refine ⟨d9 _,fun l hl=>?_⟩;have s0:=aG (o:=.lst []) hl;refine ⟨_,rfl,p,C,dx,_,_,rfl,s0 _ _ hp,TC.cl,TC.nM,uN _ _ _ _,1,n,rfl,⟨by decide,by decide,by lia,by lia⟩,?_⟩;refine AE (n:=(n-1).toNat) (fun i aa H'=>∃v ps,aa=[some (.ref p),some (.ref l),v]/\fC H' l ps (kR la i)/\aI H H') ⟨none,[],rfl,⟨ai,.nil⟩,s0⟩ ?_ ?_
  ·rintro i aa H1 hi ⟨v,ps,rfl,R1,s1⟩;have small:∀j:Nat,j<=20->j<sizeLine:=fun j hj=>gK (by lia);refine ⟨_,rfl,.inl ⟨rfl,_,ax.of R1.1⟩,_,rfl,_,rfl,p,C,dx,_,_,rfl,s1 _ _ hp,TC.cl,TC.nL,UN _ _ _ _,dc rfl,fun p1 i6=>?_⟩;obtain ⟨R2,s2,e2⟩:=R1.more (r:=[0,1+(i:Int),la]) s1 hl i6;refine ⟨l,_,_,rfl,rfl,e2,?_,?_⟩
   ·rw [aB,R1.len,yV];exact small _ (by omega)
   refine ⟨_,rfl,.inl ⟨rfl,_,ax.of R2.1⟩,_,rfl,dc rfl,fun p2 jg=>?_⟩;obtain ⟨R3,s3,e3⟩:=R2.more (r:=[1+(i:Int),0,0]) s2 hl jg;refine ⟨l,_,_,rfl,rfl,e3,?_,?_⟩
   ·rw [aB,R2.len,ig,yV];exact small _ (by simp;omega)
   refine ⟨_,ps++[p1]++[p2],rfl,?_,s3⟩;have e:kR la (i+1)=kR la i++[[0,1+(i:Int),la]]++[[1+(i:Int),0,0]]:=by
    rw [List.append_assoc,Int.add_comm 1 (i:Int)];rfl
   rw [e];exact R3
  ·rintro aa H1 ⟨v,ps,rfl,R1,s1⟩;exact ⟨_,rfl,k l _ hl s1 ⟨ps,R1⟩⟩
abbrev nSb:List Str:=["spans","bounds","one","other","least","most"]
theorem yu:cG nSb ["spans"] (aZ cz):=cV
theorem tO (F:Fn K mg "span_bounds" cz ["spans"] f fd):ar P w K mg base a9 1 f fd ["spans"] MR:=by
 refine F.F.ok yu (fun _ _ _ _ h=>?_) fun _ A _ s H _ Q E hr h=>?_
 ·obtain ⟨a,_,rfl,_⟩:=h;rfl
 ·obtain ⟨a,rows,rfl,⟨qs,R⟩,h4,hlen,k⟩:=h;refine ⟨_,a_ (cA 1 yu.nd (jo oh))
   (a_ (jw PassesOwn.never rfl (jq (pv 0))
    (uK rfl (dX (bS 2 yu.nd) (dX (bS 3 yu.nd) (dX (bS 4 yu.nd) (dX (bS 5 yu.nd) rM)))))
    (a_ (gJ (rE su rg sr pV (pv 1) (bM (dB (iw (pv 2) (pv 3) (pv 5))))))
    (aE (gJ (rE su rg sr pV (pv 1) (bM (dB (iw (pv 3) (pv 2) (sO sR (pv 4))))))))))
   (aE (cC (pv 1)))),?_⟩
  refine ⟨d9 _,fun l hl=>?_⟩;have s0:=aG (o:=.lst []) hl;refine ⟨_,rfl,a,rfl,⟨_,ax.of (s0 _ _ R.1)⟩,om (K:=K) (a:=a) (xs:=qs.map V.ref) (fun i aa H'=>∃v1 v2 v3 v4 ps,aa=[some (.ref a),some (.ref l),v1,v2,v3,v4]/\fC H' l ps (jF (rows.take i))/\aI H H') ⟨none,none,none,none,[],rfl,⟨ai,.nil⟩,s0⟩ ?_ ?_ ?_⟩
  ·rintro i aa H1 _ ⟨v1,v2,v3,v4,ps,rfl,R1,s1⟩;exact ax.of (s1 _ _ R.1)
  ·rintro i x aa H1 hx ⟨v1,v2,v3,v4,ps,rfl,R1,s1⟩;obtain ⟨q,r,rfl,hq,aJ,iG⟩:=R.get hx;obtain ⟨a',b',le,mo,e4⟩:=h4 r (gq aJ);subst e4;have hi:i<rows.length:=(gO.mp aJ).1;have oO:vO (rows.take i):=fun r hr=>h4 r (List.mem_of_mem_take hr);have kF:(jF (rows.take i)).length<=200:=by rw [uV oO,ie];lia
   refine ⟨q,_,rfl,c_.of (s1 _ _ iG),rfl,_,_,rfl,_,_,rfl,_,_,rfl,_,_,rfl,rfl,?_⟩;refine ⟨_,rfl,.inl ⟨rfl,_,ax.of R1.1⟩,_,rfl,_,rfl,_,rfl,dc rfl,fun p1 i6=>?_⟩;obtain ⟨R2,s2,e2⟩:=R1.more (r:=[a',b',mo]) s1 hl i6;refine ⟨l,_,_,rfl,rfl,e2,?_,?_⟩
   ·rw [aB,R1.len];exact gK (by lia)
   refine ⟨_,rfl,.inl ⟨rfl,_,ax.of R2.1⟩,_,rfl,_,rfl,_,rfl,_,rfl,dc rfl,fun p2 jg=>?_⟩;obtain ⟨R3,s3,e3⟩:=R2.more (r:=[b',a',-le]) s2 hl jg;refine ⟨l,_,_,rfl,rfl,e3,?_,?_⟩
   ·rw [aB,R2.len,ig];exact gK (by simp;lia)
   refine ⟨_,_,_,_,ps++[p1]++[p2],rfl,?_,s3⟩;have e:jF (rows.take (i+1))=jF (rows.take i)++[[a',b',mo]]++[[b',a',-le]]:=by
    unfold jF;rw [lD,aJ,ef,List.flatten_append,List.append_assoc];rfl
   rw [e];exact R3
  ·rintro aa H1 ⟨v1,v2,v3,v4,ps,rfl,R1,s1⟩;have hle:rows.take (qs.map V.ref).length=rows:=by
    rw [aB,R.len];exact jB
   rw [hle] at R1;exact ⟨_,rfl,k l _ hl s1 ⟨ps,R1⟩⟩
theorem Y9:cG ["web","ties"] ["web","ties"] (aZ c9):=cV
theorem tJ (F:Fn K mg "bounds_with" c9 ["web","ties"] f fd) (TC:nY K mg C)
 (FR:Fn K mg "room_bounds" c7 ["web"] fR LB) (GR:ar P w K mg base a9 1 fR LB ["web"] (MO C))
 (FS:Fn K mg "span_bounds" cz ["spans"] fS LA) (GS:ar P w K mg base a9 1 fS LA ["spans"] MR)
 (mF:jk K C "falls" fM) (bF:eY K yc ["self"] []) (GF:ar P w K mg base a9 1 fM yc ["self"] (yB C fun _ F=>F)):ar P w K mg base a9 2 f fd ["web","ties"] (MW C):=by
 refine F.F.ok Y9 (fun _ _ _ _ h=>?_) fun _ A _ s H _ Q E hr h=>?_
 ·obtain ⟨p,a,_,_,_,_,_,rfl,_⟩:=h;rfl
 ·obtain ⟨p,a,n,la,rT,rF,T',rfl,W0,af,RT,Ss,xU,k⟩:=h;refine ⟨_,aE (cC (bP uJ (bP uJ (cf GR hr FR (bM (pv 0))) (cf GS hr FS (bM (pv 1))))
   (cf GS hr FS (bM (yO (pv 0) TC.cl mF GF hr bF .nil gv))))),?_⟩
  refine ⟨_,rfl,p,n,la,rT,rF,rfl,W0,af.n1,af.n2,fun l1 H1 kF s1 R1=>?_⟩;refine ⟨_,rfl,a,T',rfl,RT.same s1,Ss,xU,fun l2 H2 jW s2 R2=>?_⟩;obtain ⟨AZ,LZ⟩:=R1.same s2;obtain ⟨EM,R2⟩:=R2;have e1:=LZ.len;have e2:=R2.len;rw [yV] at e1;rw [uV Ss] at e2;have n2:=af.n2;refine ⟨l1,l2,_,_,rfl,rfl,LZ.1,R2.1,?_,fun l3 oK=>?_⟩
  ·rw [aB,aB];exact bp (gK (by lia))
  have R3:=LZ.cat R2 oK;have s3:=aG (o:=.lst (AZ.map V.ref++EM.map V.ref)) oK;have wN:=(s1.trans s2).trans s3;obtain ⟨dx,ta,fa,hp,_,_⟩:=id (W0.same wN);refine ⟨_,rfl,p,dx,_,rfl,hp,zW _ _ _ _ (by decide+kernel) (by decide+kernel) (by decide+kernel) (by decide+kernel),p,n,la,rT,rF,rfl,W0.same wN,fun l4 H4 BA s4 R4=>?_⟩;refine ⟨l4,rF,rfl,R4,af.jA,by have:=af.fl;lia,fun l5 H5 B9 s5 R5=>?_⟩;have Tg:=(R3.same s4).same s5;obtain ⟨ps5,R5⟩:=R5;have e5:=R5.len;rw [uV af.jA] at e5;have fl:=af.fl;refine ⟨l3,l5,_,_,rfl,rfl,Tg.1,R5.1,?_,fun l6 vz=>?_⟩
  ·rw [aB,aB,ig];exact bp (gK (by lia))
  have Rf:=(wN.trans s4).trans s5;exact k l6 _ (Rf.free vz) (Rf.trans (aG vz)) ⟨_,Tg.cat R5 vz⟩
theorem YH:cG ["web"] ["web"] (aZ bH):=cV
theorem tK (F:Fn K mg "told_bounds" bH ["web"] f fd) (TC:nY K mg C)
 (FB:Fn K mg "bounds_with" c9 ["web","ties"] fB sf) (GB:ar P w K mg base a9 2 fB sf ["web","ties"] (MW C))
 (mT:jk K C "ties" fM) (bT:eY K yc ["self"] []) (GT:ar P w K mg base a9 1 fM yc ["self"] (yB C fun T _=>T)):ar P w K mg base a9 3 f fd ["web"] (Hg C):=by
 refine F.F.ok YH (fun _ _ _ _ h=>?_) fun _ A _ s H _ Q E hr h=>?_
 ·obtain ⟨p,_,_,_,_,rfl,_⟩:=h;rfl
 ·obtain ⟨p,n,la,rT,rF,rfl,W0,af,k⟩:=h;have fU:cY 1 _:=hr.mono (by decide);refine ⟨_,aE (cC (cf GB hr FB (bw (pv 0) (yO (pv 0) TC.cl mT GT fU bT .nil gv)))),?_⟩;obtain ⟨dx,ta,fa,hp,_,_⟩:=id W0;refine ⟨_,rfl,_,rfl,p,dx,_,rfl,hp,zW _ _ _ _ (by decide+kernel) (by decide+kernel) (by decide+kernel) (by decide+kernel),p,n,la,rT,rF,rfl,W0,fun l1 H1 kF s1 R1=>?_⟩;exact ⟨p,l1,n,la,rT,rF,rT,rfl,W0.same s1,af,R1,af.l9,by have:=af.tl;lia,fun l H' hl s' R=>k l H' (s1.free hl) (s1.trans s') R⟩
end Y0
namespace L2
open PySem PySem.Spec PyProof.Rows
section
variable {κ:Type} [DecidableEq κ]
def fq (kvs:List (κ×V)) (k:κ):Option V:=(kvs.find? fun kv=>decide (kv.1=k)).map (·.2)
def dU (kvs:List (κ×V)) (k:κ) (v:V):List (κ×V):=
 if (kvs.any fun kv=>decide (kv.1=k))=true then kvs.map (fun kv=>if kv.1=k then (kv.1,v) else kv) else kvs++[(k,v)]
theorem pZ {p:κ×V} {r:List (κ×V)} {k:κ} (e:p.1=k):fq (p::r) k=some p.2:=by simp [fq,List.find?_cons,e]
theorem pY {p:κ×V} {r:List (κ×V)} {k:κ} (e:¬p.1=k):fq (p::r) k=fq r k:=by simp [fq,List.find?_cons,e]
theorem wz (k:κ):∀kvs:List (κ×V),(kvs.any fun kv=>decide (kv.1=k))=(fq kvs k).isSome
 | []=>rfl
 | p::r=>by
  rw [List.any_cons]
  by_cases e:p.1=k
  ·simp only [pZ e,jt e,Bool.true_or,Option.isSome_some]
  ·rw [pY e,fY e,Bool.false_or];exact wz k r
theorem OK (k j:κ) (y:V):∀kvs:List (κ×V),fq (kvs.map fun kv=>if kv.1=k then (kv.1,y) else kv) j=(fq kvs j).map fun x=>if j=k then y else x
 | []=>rfl
 | p::r=>by
  have ih:=OK k j y r;rw [eU]
  by_cases h:p.1=k
  ·rw [if_pos h]
   by_cases e:p.1=j
   ·rw [pZ (p:=(p.1,y)) e,pZ e,Option.map_some,if_pos (e.symm.trans h)]
   ·rw [pY (p:=(p.1,y)) e,pY e,ih]
  ·rw [if_neg h]
   by_cases e:p.1=j
   ·rw [pZ (p:=p) e,pZ e,Option.map_some,if_neg (fun z=>h (e.trans z))]
   ·rw [pY (p:=p) e,pY e,ih]
theorem P0 (k j:κ) (y:V):∀kvs:List (κ×V),fq kvs k=none->fq (kvs++[(k,y)]) j=if j=k then some y else fq kvs j
 | [],_=>by
  by_cases e:k=j
  ·rw [if_pos e.symm];exact pZ (p:=(k,y)) e
  ·rw [if_neg (fun z=>e z.symm)];exact pY (p:=(k,y)) e
 | p::r,hn=>by
  rw [List.cons_append];have hk:¬p.1=k:=fun z=>by rw [pZ z] at hn;cases hn
  rw [pY hk] at hn;have ih:=P0 k j y r hn
  by_cases e:p.1=j
  ·rw [pZ e,pZ e,if_neg (fun z=>hk (e.trans z))]
  ·rw [pY e,pY e,ih]
theorem A6 (kvs:List (κ×V)) (k j:κ) (y:V):fq (dU kvs k y) j=if j=k then some y else fq kvs j:=by
 unfold dU
 by_cases a:(kvs.any fun kv=>decide (kv.1=k))=true
 ·rw [if_pos a,OK];rw [wz] at a
  by_cases e:j=k
  ·obtain ⟨x,hx⟩:=Option.isSome_iff_exists.mp a;rw [if_pos e,e,hx,Option.map_some,if_pos rfl]
  ·rw [if_neg e]
   cases fq kvs j with
   | none=>rfl
   | some x=>rw [Option.map_some,if_neg e]
 ·rw [if_neg a];refine P0 k j y kvs ?_;rw [wz] at a
  cases q:fq kvs k with
  | none=>rfl
  | some x=>rw [q] at a;exact (a rfl).elim
theorem yX (kvs:List (κ×V)) (k:κ) (v:V):(dU kvs k v).length<=kvs.length+1:=by
 unfold dU;split
 ·rw [aB];exact Nat.le.step Nat.le.refl
 ·rw [ig,kI,LS];exact Nat.le.refl
theorem jD.d8 (r:jD o u):o.isSome=u.isSome:=by
 cases o with
 | none=>cases u with
  | none=>rfl
  | some _=>exact (show False from r).elim
 | some _=>cases u with
  | none=>exact (show False from r).elim
  | some _=>rfl
theorem KV.val {kvs:List (κ×V)} {vs:List (κ×Value)} (r:KV kvs vs) (k:κ):jD (fq kvs k) (valueAt vs k):=by
 unfold KV at r
 induction r with
 | nil=>exact True.intro
 | @cons p q ps qs h t ih=>
  obtain ⟨h1,h2⟩:=h
  by_cases e:p.1=k
  ·have e':q.1=k:=h1.symm.trans e;have b:valueAt (q::qs) k=some q.2:=by simp [valueAt,List.find?_cons,e']
   rw [pZ e,b];exact h2
  ·have e':¬q.1=k:=fun z=>e (h1.trans z);have b:valueAt (q::qs) k=valueAt qs k:=by simp [valueAt,List.find?_cons,e']
   rw [pY e,b];exact ih
theorem KV.any (r:KV kvs vs) (k:κ):(kvs.any fun kv=>decide (kv.1=k))=vs.any fun kv=>decide (kv.1=k):=by
 unfold KV at r
 induction r with
 | nil=>rfl
 | cons h t ih=>rw [List.any_cons,List.any_cons,ih,h.1]
theorem KV.wU (r:KV kvs vs) (k:κ) (ry:bR y u):
 KV (kvs.map fun kv=>if kv.1=k then (kv.1,y) else kv) (vs.map fun kv=>if kv.1=k then (kv.1,u) else kv):=by
 unfold KV at r ⊢
 induction r with
 | nil=>exact .nil
 | @cons p q ps qs h t ih=>
  rw [eU,eU];refine .cons ?_ ih;obtain ⟨h1,h2⟩:=h
  by_cases e:p.1=k
  ·rw [if_pos e,if_pos (h1.symm.trans e)];exact ⟨h1,ry⟩
  ·rw [if_neg e,if_neg (fun z=>e (h1.trans z))];exact ⟨h1,h2⟩
theorem KV.put (r:KV kvs vs) (k:κ) (ry:bR y u):KV (dU kvs k y) (stored vs k u):=by
 unfold dU stored;rw [r.any k]
 by_cases e:(vs.any fun kv=>decide (kv.1=k))=true
 ·rw [if_pos e,if_pos e];exact r.wU k ry
 ·rw [if_neg e,if_neg e];exact Paired.snoc r ⟨rfl,ry⟩
theorem KV.length (r:KV kvs vs):kvs.length=vs.length:=Paired.length r
end
theorem yz {P:Program} {w:World} (r:bR (kV k) u):(md P w).is k u=true:=by
 cases k with
 | inl i=>obtain ⟨t,e⟩:=(show ∃t,u=Value.int i t from r);subst e;exact X4 P w i t
 | inr x=>obtain ⟨t,e⟩:=(show ∃t,u=Value.str x t from r);subst e;exact X5 P w x t
theorem O_ {P:Program} {w:World}:∀{ks:List Key} {us:List Value},bq (ks.map kV) us->ItemsAre (md P w) ks us
 | [],_,r=>by rw [List.map_nil] at r;cases r;exact .nil
 | k::ks,_,r=>by
  rw [eU] at r
  cases r with
  | cons h t=>exact .cons (yz h) (O_ t)
abbrev KT (H:Hp):List (List Key×V)->List (List Key×Addr×Value)->Prop:=Paired fun p q=>p.1=q.1/\H q.2.1=some (.tup (p.1.map kV))/\bR p.2 q.2.2
theorem KT.val {H:Hp} {kvs:List (List Key×V)} {xs:List (List Key×Addr×Value)} (r:KT H kvs xs) (k:List Key):jD (fq kvs k) ((atKey xs k).map (·.2)):=by
 induction r with
 | nil=>exact True.intro
 | @cons p q ps qs h t ih=>
  obtain ⟨h1,_,h2⟩:=h
  by_cases e:p.1=k
  ·have e':q.1=k:=h1.symm.trans e;have b:atKey (q::qs) k=some q.2:=by simp [atKey,List.find?_cons,e']
   rw [pZ e,b];exact h2
  ·have e':¬q.1=k:=fun z=>e (h1.trans z);have b:atKey (q::qs) k=atKey qs k:=by simp [atKey,List.find?_cons,e']
   rw [pY e,b];exact ih
theorem KT.wU (r:KT H kvs xs) (k:List Key) (ry:bR y u):
 KT H (kvs.map fun kv=>if kv.1=k then (kv.1,y) else kv) (xs.map (putAt k u)):=by
 induction r with
 | nil=>exact .nil
 | @cons p q ps qs h t ih=>
  rw [eU,eU];refine .cons ?_ ih;obtain ⟨h1,h2,h3⟩:=h;unfold putAt
  by_cases e:p.1=k
  ·rw [if_pos e,if_pos (h1.symm.trans e)];exact ⟨h1,h2,ry⟩
  ·rw [if_neg e,if_neg (fun z=>e (h1.trans z))];exact ⟨h1,h2,h3⟩
theorem KT.put (r:KT H kvs xs) (k:List Key) (hb:H b=some (.tup (k.map kV))) (ry:bR y u):
 KT H (dU kvs k y) (storedH xs k b u):=by
 have e:(kvs.any fun kv=>decide (kv.1=k))=(atKey xs k).isSome:=by
  rw [wz,(r.val k).d8,Option.isSome_map]
 unfold dU storedH;rw [e]
 by_cases q:(atKey xs k).isSome=true
 ·rw [if_pos q,if_pos q];exact r.wU k ry
 ·rw [if_neg q,if_neg q];exact Paired.snoc r ⟨rfl,hb,ry⟩
theorem KT.keeps (r:KT H kvs xs) (ht:∀b ys,H b=some (.tup ys)->H' b=some (.tup ys)):KT H' kvs xs:=
 Paired.xk r fun _ _ z=>⟨z.1,ht _ _ z.2.1,z.2.2⟩
section
variable {P:Program} {w:World} {H:Hp} {h:Heap} {a:Addr}
theorem Mh (ok:eI P w H h) (e:Rd H a u):eh P w H h a u:=e.ok ok
theorem zX (ok:eI P w H h) (e:Rd H a (.dK kvs)):kvs.length<=sizeLine/\(a==sysModules)=false/\∃vs,KV kvs vs/\h.DictOf (md P w) a vs:=
 show eh P w H h a (.dK kvs) from Mh ok e
theorem QP (ok:eI P w H h) (e:H a=some (.dK kvs)):kvs.length<=sizeLine/\(a==sysModules)=false/\∃vs,KV kvs vs/\h.DictOf (md P w) a vs:=zX ok (.inl e)
theorem Af (ok:eI P w H h) (e:H a=some (.tup (ks.map kV))):(tupleKind (md P w)).is h ks a:=by
 obtain ⟨_,its,r,o,h1,h2,n,h3⟩:=(show eh P w H h a (.tup (ks.map kV)) from ok a _ e);exact ⟨o,its.toArray,n,h1,h2,h3,by simpa using O_ r⟩
theorem zY (ok:eI P w H h) (e:Rd H a (.dT kvs)):kvs.length<=sizeLine/\(a==sysModules)=false/\
 ∃xs,KT H kvs xs/\h.DictOfH (tupleKind (md P w)) a xs:=by
 obtain ⟨z,y,xs,r,o,es,ep,h1,h2,h3,h4,h5⟩:=(show eh P w H h a (.dT kvs) from Mh ok e);refine ⟨z,y,xs,r,o,es,ep,h1,h2,h3,h4,fun x hx=>?_,h5⟩;have all:∀{l:List (List Key×V)} {m:List (List Key×Addr×Value)},KT H l m->∀x∈m,(tupleKind (md P w)).is h x.1 x.2.1:=by
  intro l m q
  induction q with
  | nil=>intro x hx;exact nomatch hx
  | @cons p q ps qs hq t ih=>
   intro x hx;rcases eV.mp hx with e | hx
   ·subst e;exact Af ok (by rw [<-hq.1];exact hq.2.1)
   ·exact ih x hx
 exact all r x hx
theorem Zh (ok:eI P w H h) (e:H a=some (.dT kvs)):kvs.length<=sizeLine/\(a==sysModules)=false/\
 ∃xs,KT H kvs xs/\h.DictOfH (tupleKind (md P w)) a xs:=zY ok (.inl e)
end
def fm (H:Hp) (a:Addr) (y:V) (r:Option V):Prop:=
 (∃kvs k,Rd H a (.dK kvs)/\y=kV k/\r=fq kvs k)\/∃kvs k b,Rd H a (.dT kvs)/\y=.ref b/\H b=some (.tup (k.map kV))/\r=fq kvs k
def rz (H:Hp) (a:Addr) (y v:V) (H':Hp):Prop:=
 (∃kvs k,H a=some (.dK kvs)/\y=kV k/\kvs.length<sizeLine/\H'=upd H a (.dK (dU kvs k v)))\/
 ∃kvs k b,H a=some (.dT kvs)/\y=.ref b/\H b=some (.tup (k.map kV))/\kvs.length<sizeLine/\H'=upd H a (.dT (dU kvs k v))
theorem fm.k {H:Hp} {a:Addr} {kvs:List (Key×V)} {k:Key} (e:H a=some (.dK kvs)):fm H a (kV k) (fq kvs k):=.inl ⟨kvs,k,.inl e,rfl,rfl⟩
theorem fm.t {H:Hp} {a b:Addr} {kvs:List (List Key×V)} {k:List Key} (e:H a=some (.dT kvs)) (eb:H b=some (.tup (k.map kV))):fm H a (.ref b) (fq kvs k):=.inr ⟨kvs,k,b,.inl e,rfl,eb,rfl⟩
theorem rz.k {H:Hp} {a:Addr} {kvs:List (Key×V)} {k:Key} {v:V} (e:H a=some (.dK kvs)) (hl:kvs.length<sizeLine):rz H a (kV k) v (upd H a (.dK (dU kvs k v))):=.inl ⟨kvs,k,e,rfl,hl,rfl⟩
theorem rz.t {H:Hp} {a b:Addr} {kvs:List (List Key×V)} {k:List Key} {v:V} (e:H a=some (.dT kvs)) (eb:H b=some (.tup (k.map kV))) (hl:kvs.length<sizeLine):
 rz H a (.ref b) v (upd H a (.dT (dU kvs k v))):=.inr ⟨kvs,k,b,e,rfl,eb,hl,rfl⟩
section
variable {X:Cx} {pins:List (Addr×Obj)} {σ:St} {H:Hp} {s:Shared} {a:Addr} {y v:V} {u r:Value} {o:Option V} {A:Around} {E:Value->Shared->Prop}
theorem Inv.big (I:Inv X pins σ H s):sysModules<s.heap.objs.size:=by
 have h:mainGlobals<s.heap.objs.size:=(I.mod.glob.keeps I.bk).lt;exact Nat.lt_trans (by decide) h
theorem Wt (hu:A.units+1<cLine) (I:Inv X pins σ H s) (g:fm H a y (some v)) (ry:bR y u) (h:∀w' s',Inv X pins σ H s'->bR v w'->Q w' s'):
 wpAny (model X.prog X.w) A (getItem (.ref a) u) Q E s:=by
 rcases g with ⟨kvs,k,e,ey,l⟩ | ⟨kvs,k,b,e,ey,eb,l⟩
 ·subst ey;obtain ⟨z,hd,vs,rel,dd⟩:=zX I.af e;obtain ⟨w',hw,tG⟩:=jD.some_of (v:=v) (o:=valueAt vs k) (by rw [l];exact rel.val k);exact wpAny_getItem_of (yz ry) dd.mapOf hw (h w' _ (I.tok _) tG)
 ·subst ey;cases (show u=Value.ref b from ry);obtain ⟨z,hd,xs,rel,dd⟩:=zY I.af e;obtain ⟨w',hw,tG⟩:=jD.some_of (v:=v) (o:=(atKey xs k).map (·.2)) (by rw [l];exact rel.val k);obtain ⟨p,hp,jg⟩:=Option.map_eq_some_iff.mp hw;refine wpAny_getItem_heap (tupleKind_room_in1 hu) (Af I.af eb) dd hp ?_;rw [jg];exact h w' _ (I.tok _) tG
theorem Yr (hu:A.units+1<cLine) (I:Inv X pins σ H s) (g:fm H a y o) (ry:bR y u) (h:∀s',Inv X pins σ H s'->Q (.bool o.isSome) s'):
 wpAny (model X.prog X.w) A (compareOp .In u (.ref a)) Q E s:=by
 rcases g with ⟨kvs,k,e,ey,l⟩ | ⟨kvs,k,b,e,ey,eb,l⟩
 ·subst ey;obtain ⟨z,hd,vs,rel,dd⟩:=zX I.af e;refine wpAny_in_of (yz ry) hd dd.mapOf ?_;rw [<-(rel.val k).d8,<-l];exact h _ (I.tok _)
 ·subst ey;cases (show u=Value.ref b from ry);obtain ⟨z,hd,xs,rel,dd⟩:=zY I.af e;refine wpAny_in_heap (tupleKind_room_in1 hu) (Af I.af eb) hd dd ?_;have q:=(rel.val k).d8;rw [Option.isSome_map] at q;rw [<-q,<-l];exact h _ (I.tok _)
theorem UB (hu:A.units+1<cLine) (I:Inv X pins σ H s) (g:fm H a y o) (ry:bR y u) (h:∀s',Inv X pins σ H s'->Q (.bool (!o.isSome)) s'):
 wpAny (model X.prog X.w) A (compareOp .NotIn u (.ref a)) Q E s:=by
 rcases g with ⟨kvs,k,e,ey,l⟩ | ⟨kvs,k,b,e,ey,eb,l⟩
 ·subst ey;obtain ⟨z,hd,vs,rel,dd⟩:=zX I.af e;refine wpAny_notIn_of (yz ry) hd dd.mapOf ?_;rw [<-(rel.val k).d8,<-l];exact h _ (I.tok _)
 ·subst ey;cases (show u=Value.ref b from ry);obtain ⟨z,hd,xs,rel,dd⟩:=zY I.af e;refine wpAny_notIn_heap (tupleKind_room_in1 hu) (Af I.af eb) hd dd ?_;have q:=(rel.val k).d8;rw [Option.isSome_map] at q;rw [<-q,<-l];exact h _ (I.tok _)
theorem Hy (I:Inv X pins σ H s) (mu:zM (H a)) (hs:Heap.SameBut a s.heap h') (he:∃q,h'.get? a=some q) (new:eh X.prog X.w (upd H a ob) h' a ob):
 Inv X pins σ (upd H a ob) { s with heap:=h',toks:=t' }:=
 I.write (x:=a) (e:=a) mu (.inl rfl) (fun b q hb z=>(hs.2 b hb).trans z) he new
theorem Mz {P:Program} {w:World} (z:kvs.length<=sizeLine) (hd:(a==sysModules)=false) (rel:KV kvs vs) (dd:h'.DictOf (md P w) a vs):
 eh P w H' h' a (.dK kvs):=⟨z,hd,vs,rel,dd⟩
theorem Wu (hu:A.units+1<cLine) (I:Inv X pins σ H s) (g:rz H a y v H') (ry:bR y u) (rv:bR v r) (h:∀s',Inv X pins σ H' s'->Q () s'):
 wpAny (model X.prog X.w) A (setItem (.ref a) u r) Q E s:=by
 rcases g with ⟨kvs,k,e,ey,l,eH⟩ | ⟨kvs,k,b,e,ey,eb,l,eH⟩
 ·subst ey eH;obtain ⟨z,hd,vs,rel,dd⟩:=QP I.af e;have hz:vs.length<=sizeLine:=by rw [<-rel.length];exact z
  have hl:(dU kvs k v).length<=sizeLine:=by have:=yX kvs k v;lia
  refine wpAny_setItem_pairs (hsz:=hz) (yz ry) dd fun h' qZ hs=>h _ ?_;have he:∃q,h'.get? a=some q:=let ⟨q,_,_,hq,_⟩:=qZ;⟨q,hq⟩;exact Hy I (by rw [e];exact True.intro) hs he (Mz hl hd (rel.put k rv) qZ)
 ·subst ey eH;cases (show u=Value.ref b from ry);obtain ⟨z,hd,xs,rel,dd⟩:=Zh I.af e;have hz:xs.length<=sizeLine:=by rw [<-Paired.length rel];exact z
  have hl:(dU kvs k v).length<=sizeLine:=by have:=yX kvs k v;lia
  refine wpAny_setItem_heap (hsz:=hz) (tupleKind_room_in1 hu) (Af I.af eb) dd fun h' qZ hs=>h _ ?_;obtain ⟨q,es,ep,hq,h2,h3,h4,_,h5⟩:=qZ;refine Hy I (by rw [e];exact True.intro) hs ⟨q,hq⟩ ⟨hl,hd,_,(rel.put k eb rv).keeps fun c ys ec=>?_,q,es,ep,hq,h2,h3,h4,h5⟩;rw [ak (cH ec e nofun)];exact ec
end
section
variable {X:Cx} {pins:List (Addr×Obj)} {σ:St} {H:Hp} {s:Shared} {a:Addr} {kvs:List (Key×V)} {k:Key} {u:Value} {A:Around} {E:Value->Shared->Prop}
end
def Qx (i:Expr):Prop:=∀ov iv,subscripted i false ov iv=operate [ov,iv] (getItem ov iv)
theorem Vf {prog:Program} {w:World} {A:Around} {E:Value->Shared->Prop} {s:Shared} {env:Env} {value slice:Expr} {pos:Pos} {T id:String} {Q:Value->Shared->Prop}
 (hl:typeLookup (.type T) "__getitem__"=pure (some (.builtin id))) (hs:Qx slice)
 (h:wpAny (model prog w) A (eval value env) (fun o au=>wpAny (model prog w) A (eval slice env) (fun i gh=>gh.TypeIs o T/\wpAny (model prog w) A (getItem o i) Q E gh) E au) E s):
 wpAny (model prog w) A (eval (.Subscript value slice pos) env) Q E s:=by
 refine Subscript_ (wpAny_mono h (fun o au bV=>wpAny_mono bV (fun i gh jR=>?_) fun _ _ x=>x) fun _ _ x=>x);obtain ⟨hT,jR⟩:=jR;unfold subscriptTail;refine ag ?_;rw [getitemInPython_of_ne hT.not_modules];refine ag (wpAny_specialOf hT hl ?_);have fin:wpAny (model prog w) A (subscripted slice false o i) (fun r jr=>wpAny (model prog w) A (letTemporaryGo value o r>>=fun _=>pure r) Q E jr) E gh:=by
  rw [hs o i];exact wpAny_operating (wpAny_mono jR (fun r jr ug=>ag (wpAny_letTemporaryGo (aV ug))) fun _ _ x=>x)
 first
  | exact aV (ag fin)
  | exact ag (aV (ag fin))
  | exact ag fin
theorem XA (I:Inv X pins σ H s) (g:fm H a y o):s.TypeIs (.ref a) "dict":=by
 rcases g with ⟨kvs,k,e,_,_⟩ | ⟨kvs,k,b,e,_,_,_⟩
 ·obtain ⟨_,_,vs,_,dd⟩:=zX I.af e;exact dd.typeIs
 ·obtain ⟨_,_,xs,_,dd⟩:=zY I.af e;exact dd.typeIs
def ZI (td ty:TE):TE:=fun σ H Q=>td σ H fun x H1=>ty σ H1 fun y H2=>∃a v,x=.ref a/\fm H2 a y (some v)/\Q v H2
def Y_ (ty td:TE):TE:=fun σ H Q=>ty σ H fun y H1=>td σ H1 fun x H2=>∃a o,x=.ref a/\fm H2 a y o/\Q (.bl o.isSome) H2
def Vi (ty td:TE):TE:=fun σ H Q=>ty σ H fun y H1=>td σ H1 fun x H2=>∃a o,x=.ref a/\fm H2 a y o/\Q (.bl (!o.isSome)) H2
def Zx (td ty tv:TE):TS:=fun D σ H=>tv σ H fun v H1=>td σ H1 fun x H2=>ty σ H2 fun y H3=>∃a H4,x=.ref a/\rz H3 a y v H4/\D.nx σ H4
section
variable {X:Cx} {o i e value:Expr} {pos pos' IK:Pos} {td ty tv:TE}
theorem nc (hu:X.A.units+1<cLine) (ho:PE X o td) (hi:PE X i ty) (hs:Qx i):PE X (.Subscript o i pos) (ZI td ty):=by
 intro pins s σ H Q I h;refine Vf PySem.F.slot_dict_getitem.lookup hs (av (ho pins s σ H _ I h) fun u s1 zz=>L2.eT zz fun x H1 I1 rx q1=>av (hi pins s1 σ H1 _ I1 q1) fun iv s2 zz=>?_);obtain ⟨y,H2,I2,ry,a,v,ex,g,q2⟩:=zz;subst ex;obtain rfl:u=Value.ref a:=rx;exact ⟨XA I2 g,Wt hu I2 g ry fun w' s3 I3 tG=>⟨v,H2,I3,tG,q2⟩⟩
theorem Ha (hu:X.A.units+1<cLine) (hi:PE X i ty) (ho:PE X o td):PC X .In i o (Y_ ty td):=by
 intro pins s σ H Q I h;refine av (hi pins s σ H _ I h) fun iv s1 zz=>L2.eT zz fun y H1 I1 ry q1=>av (ho pins s1 σ H1 _ I1 q1) fun u s2 zz=>?_;obtain ⟨x,H2,I2,rx,a,ov,ex,g,q2⟩:=zz;subst ex;obtain rfl:u=Value.ref a:=rx;exact Yr hu I2 g ry fun s3 I3=>⟨.bl ov.isSome,H2,I3,rfl,q2⟩
theorem DC (hu:X.A.units+1<cLine) (hi:PE X i ty) (ho:PE X o td):PC X .NotIn i o (Vi ty td):=by
 intro pins s σ H Q I h;refine av (hi pins s σ H _ I h) fun iv s1 zz=>L2.eT zz fun y H1 I1 ry q1=>av (ho pins s1 σ H1 _ I1 q1) fun u s2 zz=>?_;obtain ⟨x,H2,I2,rx,a,ov,ex,g,q2⟩:=zz;subst ex;obtain rfl:u=Value.ref a:=rx;exact UB hu I2 g ry fun s3 I3=>⟨.bl (!ov.isSome),H2,I3,rfl,q2⟩
theorem Dd (hu:X.A.units+1<cLine) (ho:PE X o td) (hi:PE X i ty) (hv:PE X value tv) (hs:swapsWith value (some (.Subscript o i pos')) pos.line X.env=pure false):
 PS X (.Assign [.Subscript o i pos'] value pos) (Zx td ty tv):=by
 intro pins s σ H D I h;refine wpAny_Assign_Subscript (av (hv pins s σ H _ I h) fun r s1 zz=>L2.eT zz fun v H1 I1 rv q1=>av (ho pins s1 σ H1 _ I1 q1) fun u s2 zz=>L2.eT zz fun x H2 I2 rx q2=>av (hi pins s2 σ H2 _ I2 q2) fun iv s3 zz=>?_) hs;obtain ⟨y,H3,I3,ry,a,H4,ex,g,q3⟩:=zz;subst ex;obtain rfl:u=Value.ref a:=rx;exact Wu hu I3 g ry rv fun s4 I4=>⟨σ,H4,I4,q3⟩
end
theorem Ox {P:Program} {w:World} (h:Heap) (hb:sysModules<h.objs.size):eh P w H (h.push { cls:=.type "dict",data:=.dict #[] }) h.objs.size (.dK []):=
 ⟨d9 _,beq_eq_false_iff_ne.mpr (aD (gY hb)),[],.nil,Heap.DictOf.new h⟩
theorem V9 {P:Program} {w:World} (h:Heap) (hb:sysModules<h.objs.size):eh P w H (h.push { cls:=.type "dict",data:=.dict #[] }) h.objs.size (.dT []):=
 ⟨d9 _,beq_eq_false_iff_ne.mpr (aD (gY hb)),[],.nil,_,#[],0,ki _ rfl,⟨rfl,rfl,rfl⟩,rfl,rfl,List.nodup_nil⟩
def T9:TE:=fun _ H Q=>∀p,H p=none->Q (.ref p) (upd H p (.dK []))
def TB:TE:=fun _ H Q=>∀p,H p=none->Q (.ref p) (upd H p (.dT []))
section
variable {X:Cx} {pos:Pos}
theorem OT:PE X (.Dict [] [] pos) T9:=fun pins s σ H Q I h=>
 wpAny_Dict_empty ⟨.ref s.heap.objs.size,_,I.laid (a:=s.heap.objs.size) (o:=.dK []) (t':=s.toks) (fun _ _ q=>cX _ q) (az _) (Ox s.heap I.big),rfl,h _ (I.af.fresh (az _))⟩
theorem VL:PE X (.Dict [] [] pos) TB:=fun pins s σ H Q I h=>
 wpAny_Dict_empty ⟨.ref s.heap.objs.size,_,I.laid (a:=s.heap.objs.size) (o:=.dT []) (t':=s.toks) (fun _ _ q=>cX _ q) (az _) (V9 s.heap I.big),rfl,h _ (I.af.fresh (az _))⟩
end
def Hh:List (TE×TE)->St->Hp->(List (V×V)->Hp->Prop)->Prop
 | [],_,H,Q=>Q [] H
 | (tk,tv)::r,σ,H,Q=>tk σ H fun x H1=>tv σ H1 fun y H2=>Hh r σ H2 fun ps H3=>Q ((x,y)::ps) H3
abbrev VV:List (V×V)->List (Value×Value)->Prop:=Paired fun p q=>bR p.1 q.1/\bR p.2 q.2
def FU (X:Cx) (pos:Pos) (keys:List (Option Expr)) (values:List Expr) (wG:List (TE×TE)):Prop:=
 ∀(pins:List (Addr×Obj)) (s:Shared) (σ:St) (H:Hp) (Q:List (V×V)->Hp->Prop),Inv X pins σ H s->Hh wG σ H Q->
  wpAny (model X.prog X.w) X.A (evalPairs (pairTrees keys values X.env pos)) (fun vs s'=>∃ps H',Inv X pins σ H' s'/\VV ps vs/\Q ps H') X.xe s
theorem UY:FU X pos [] [] []:=fun pins s σ H Q I h=>pairTrees_nil_walk ⟨[],H,I,.nil,h⟩
theorem VO (hk:PE X k tk) (hv:PE X v tv) (hr:FU X pos ks vs wG):
 FU X pos (some k::ks) (v::vs) ((tk,tv)::wG):=fun pins s σ H Q I h=>
 pairTrees_cons_walk (av (hk pins s σ H _ I h) fun u s1 zz=>L2.eT zz fun x H1 I1 rx q1=>av (hv pins s1 σ H1 _ I1 q1) fun w2 s2 zz=>L2.eT zz fun y H2 I2 ry q2=>
  av (hr pins s2 σ H2 _ I2 q2) fun ws s3 zz=>L2.eT zz fun ps H3 I3 rel q3=>⟨(x,y)::ps,H3,I3,.cons ⟨rx,ry⟩ rel,q3⟩)
def uI (kvs more:List (Key×V)):List (Key×V):=more.foldl (fun acc kv=>dU acc kv.1 kv.2) kvs
theorem KV.merge:∀{more:List (Key×V)} {rs:List (Key×Value)} {kvs:List (Key×V)} {vs:List (Key×Value)},KV more rs->KV kvs vs->KV (uI kvs more) (merged vs rs):=by
 intro more rs kvs vs r;unfold KV at r
 induction r generalizing kvs vs with
 | nil=>intro q;exact q
 | @cons p q ps qs h t ih=>
  intro r0;have e:KV (dU kvs p.1 p.2) (stored vs q.1 q.2):=by
   have:=r0.put p.1 h.2;rw [<-h.1];exact this
  exact ih e
theorem Qu:∀(more kvs:List (Key×V)),(uI kvs more).length<=kvs.length+more.length
 | [],kvs=>by show kvs.length<=kvs.length+0;exact Nat.le.refl
 | p::r,kvs=>by
  have h1:=Qu r (dU kvs p.1 p.2);have h2:=yX kvs p.1 p.2;show (uI (dU kvs p.1 p.2) r).length<=_;rw [kI];lia
theorem PN {P:Program} {w:World}:∀{kvs:List (Key×V)} {ws:List (Value×Value)},VV (kvs.map fun kv=>(kV kv.1,kv.2)) ws->∃rs,Carries (md P w) ws rs/\KV kvs rs
 | [],_,r=>by rw [List.map_nil] at r;cases r;exact ⟨[],True.intro,.nil⟩
 | p::kvs,_,r=>by
  rw [eU] at r
  cases r with
  | @cons a b as bs h t=>
   obtain ⟨rs,c,q⟩:=PN (P:=P) (w:=w) t;obtain ⟨b1,b2⟩:=b;exact ⟨(p.1,b2)::rs,⟨yz h.1,rfl,c⟩,.cons ⟨rfl,h.2⟩ q⟩
def ZJ (wG:List (TE×TE)):TE:=fun σ H Q=>∀p,H p=none->Hh wG σ (upd H p (.dK [])) fun ps H2=>H2 p=some (.dK [])/\∃kvs:List (Key×V),ps=kvs.map (fun kv=>(kV kv.1,kv.2))/\kvs.length<=15/\Q (.ref p) (upd H2 p (.dK (uI [] kvs)))
theorem UT (h:FU X pos keys values wG) (bL:keys.all (·.isSome)=true) (hl:keys.length=values.length) (h0:keys≠[])
 (h15:keys.length<=15):PE X (.Dict keys values pos) (ZJ wG):=by
 intro pins s σ H Q I q;have hn:=I.af.fresh (az s.heap.objs.size);have I1:=I.laid (a:=s.heap.objs.size) (o:=.dK []) (h':=s.heap.push { cls:=.type "dict",data:=.dict #[] }) (t':=s.toks) (fun _ _ q=>cX _ q) (az _) (Ox s.heap I.big);refine wpAny_Dict_walk (knd:=md X.prog X.w) bL hl h0 h15 (av (h pins _ σ _ _ I1 (q _ hn)) fun ws s2 zz=>?_);obtain ⟨ps,H2,I2,rel,e,kvs,ep,lk,q2⟩:=zz;subst ep;obtain ⟨rs,c,rk⟩:=PN (P:=X.prog) (w:=X.w) rel;obtain ⟨z,hd,vs0,r0,dd⟩:=QP I2.af e;cases r0;refine ⟨rs,c,dd,fun h' qZ hs=>⟨.ref s.heap.objs.size,_,?_,rfl,q2⟩⟩;have hz:(uI [] kvs).length<=sizeLine:=by
  have h1:=Qu kvs [];rw [LS] at h1;rw [sizeLine_eq];lia
 have he:∃q,h'.get? s.heap.objs.size=some q:=let ⟨q,_,_,hq,_⟩:=qZ;⟨q,hq⟩;exact Hy I2 (by rw [e];exact True.intro) hs he (Mz hz hd (rk.merge .nil) qZ)
structure M1 (X:Cx) (o:Expr) (m:Str) (apos:Pos) (e:Expr) (gn:Pos):Prop where
 base:attributeBase o m X.env (eval o X.env)=eval o X.env
 mE:((backTo gn (starEach [e] X.env)).all (fun x=> !x.1) && (backToKw gn (keywordEach [] X.env)).all (fun x=>x.1.isSome)
  && decide (([e]:List Expr).length+([]:List Keyword).length+(if ([]:List Keyword).isEmpty then 0 else 1)<30))=true
 line:(apos.endLine==gn.line)=true
 trees:backTo gn (starEach [e] X.env)=[(false,eval e X.env)]
section
variable {X:Cx} {pins:List (Addr×Obj)} {σ:St} {H:Hp} {s:Shared} {a:Addr} {y d:V} {u r:Value} {o:Option V} {A:Around} {E:Value->Shared->Prop}
end
section
variable {X:Cx} {o e f:Expr} {apos gn:Pos} {td ty tx:TE}
end
section
variable {X:Cx} {pins:List (Addr×Obj)} {σ:St} {H:Hp} {s:Shared} {a:Addr} {kvs:List (Key×V)} {A:Around} {E:Value->Shared->Prop}
end
section
variable {X:Cx} {pins:List (Addr×Obj)} {σ:St} {H:Hp} {s:Shared} {a:Addr} {y:V} {u:Value} {A:Around} {E:Value->Shared->Prop}
end
end L2
namespace MT
variable {n:Nat} {m:Nat->Nat->Nat->Option Int} {pt:Nat->Nat->Nat->Prop} {low:Int}
end MT
namespace MU
structure aj where
 tie:Bool
 a:Nat
 b:Nat
 v:Int
inductive Wd where
 | told | sum | aA | bh | sure | back | aq
structure Row where
 cD:aj
 word:Wd
 used:List Nat
abbrev Key:=Bool×Nat×Nat
def aj.key (w:aj):Key:=(w.tie,w.a,w.b)
structure St where
 rows:List Row
 best:Key->Option Nat
 bar:Option Nat
abbrev cq:=Nat->Option (Nat×Int×Int)
def ah (st:St) (i:Nat):Option aj:=(st.rows[i]?).map (·.cD)
def val (st:St) (k:Key):Option Int:=(st.best k).bind fun i=>(ah st i).map (·.v)
def dE (tie:Bool) (v u:Int):Prop:=if tie=true then v<u else u<v
theorem XJ (h1:dE b x y) (h2:dE b y z):dE b x z:=by
 unfold dE at*;cases b<;>simp_all<;>lia
theorem Ij (h1:¬dE b x y) (h2:¬dE b y z):¬dE b x z:=by
 unfold dE at*;cases b<;>simp_all<;>lia
theorem PM (h:dE b x y):¬dE b y x:=by
 unfold dE at*;cases b<;>simp_all<;>exact f_ h
def gP (st:St) (w:aj):Prop:=if w.tie=true/\w.a=w.b then w.v<0 else ∀u,val st w.key=some u->dE w.tie w.v u
def iA (w:aj):Prop:=w.tie=true/\w.a=w.b/\w.v<0
instance (w:aj):Decidable (iA w):=by unfold iA;infer_instance
open Classical in
instance (st:St) (w:aj):Decidable (gP st w):=propDecidable _
def take (st:St) (w:aj) (word:Wd) (used:List Nat):St:=
 if gP st w then { rows:=st.rows++[⟨w,word,used⟩],best:=fun k=>if k=w.key then some st.rows.length else st.best k,bar:=if st.bar=none/\iA w then some st.rows.length else st.bar } else st
def a7 (p q:aj):Option aj:=if p.tie=true/\q.tie=true/\p.b=q.a then some ⟨true,p.a,q.b,p.v+q.v⟩ else none
def cT (F:cq) (p:aj):Option aj:=if p.tie=true/\p.a≠p.b then (F p.b).map fun f=>⟨false,p.a,p.b,f.2.2-p.v⟩ else none
def da (F:cq) (p:aj):Option aj:=if p.tie=true/\p.a≠p.b/\p.v<0 then (F p.a).map fun f=>⟨true,f.1,p.b,f.2.1+p.v⟩ else none
def df (F:cq) (p:aj):Option aj:=if p.tie=false then (F p.b).map fun f=>⟨true,p.a,f.1,-min p.v f.2.1⟩ else none
def bf (F:cq) (p q:aj):Option aj:=if p.tie=false/\q.tie=true/\q.b=p.a/\q.a≠p.b then (F p.b).map fun f=>⟨false,q.a,p.b,min p.v f.2.2-q.v⟩ else none
def cS (F:cq) (p:aj):Option aj:=if p.tie=false/\p.a≠p.b/\0<p.v then (F p.a).bind fun o=>(F p.b).map fun f=>⟨false,o.1,p.b,min p.v f.2.2-o.2.1⟩ else none
def put (st:St) (o:Option aj) (word:Wd) (used:List Nat):St:=match o with
 | some w=>take st w word used
 | none=>st
def aK (f:aj->Option aj) (word:Wd) (i:Nat) (st:St):St:=put st ((ah st i).bind f) word [i]
def ao (f:aj->aj->Option aj) (word:Wd) (i j:Nat) (st:St):St:=put st ((ah st i).bind fun p=>(ah st j).bind fun q=>f p q) word [i,j]
def cL (n:Nat) (st:St) (tie:Bool) (a:Nat):List Nat:=(List.range n).filterMap fun b=>st.best (tie,a,b)
def dq (n:Nat) (st:St) (b:Nat):List Nat:=(List.range n).filterMap fun a=>st.best (true,a,b)
def dY (n:Nat) (F:cq) (at_ a b:Nat) (IV:St):St:=
 let gw:=aK (cT F) .aA at_ IV
 let aT:=aK (da F) .bh at_ gw
 let cj:=(cL n aT true b).foldl (fun st j=>ao a7 .sum at_ j st) aT
 let cy:=(dq n cj a).foldl (fun st j=>ao a7 .sum j at_ st) cj
 (cL n cy false b).foldl (fun st j=>ao (bf F) .back j at_ st) cy
def fu (n:Nat) (F:cq) (at_ a:Nat) (IV:St):St:=
 let gw:=aK (df F) .sure at_ IV
 let aT:=aK (cS F) .aq at_ gw
 (dq n aT a).foldl (fun st j=>ao (bf F) .back at_ j st) aT
def look (n:Nat) (F:cq) (at_:Nat) (st:St):St:=match ah st at_ with
 | some w=>if st.best w.key=some at_ then (if w.tie=true then dY n F at_ w.a w.b st else fu n F at_ w.a st) else st
 | none=>st
def run (n:Nat) (F:cq) (st:St):Nat->St
 | 0=>st
 | t+1=>look n F t (run n F st t)
structure Ext (s s':St):Prop where
 rows:∃more,s'.rows=s.rows++more
 best:∀k,s'.best k=s.best k\/∃j,s'.best k=some j/\s.rows.length<=j
 bar:s.bar≠none->s'.bar≠none
structure cm (n:Nat) (s:St):Prop where
 at_:∀k i,s.best k=some i->∃w,ah s i=some w/\w.key=k
 top:∀i w,ah s i=some w->∃j,i<=j/\s.best w.key=some j
 lt:∀i w,ah s i=some w->w.a<n/\w.b<n
 ne:s.bar=none->∀i w,ah s i=some w->w.a≠w.b
 drop:s.bar=none->∀i j w w',ah s i=some w->ah s j=some w'->w.key=w'.key->i<j->dE w.tie w'.v w.v
theorem m_ {w:aj} (h:ah s i=some w):i<s.rows.length:=by
 unfold ah at h
 cases q:s.rows[i]? with
 | none=>rw [q] at h;cases h
 | some r=>exact (gO.mp q).1
theorem bY {w:aj} (e:Ext s s') (h:ah s i=some w):ah s' i=some w:=by
 obtain ⟨more,hm⟩:=e.rows;have hi:=m_ h;unfold ah at h ⊢;rw [hm,sk hi];exact h
theorem Ext.refl (s:St):Ext s s:=⟨⟨[],by simp⟩,fun _=>.inl rfl,fun h=>h⟩
theorem Ext.len (e:Ext s s'):s.rows.length<=s'.rows.length:=by
 obtain ⟨more,hm⟩:=e.rows;rw [hm,ig];lia
theorem Ext.trans (x:Ext a b) (y:Ext b c):Ext a c:=by
 refine ⟨?_,fun k=>?_,fun h=>y.bar (x.bar h)⟩
 ·obtain ⟨m1,h1⟩:=x.rows;obtain ⟨m2,h2⟩:=y.rows;exact ⟨m1++m2,by rw [h2,h1,List.append_assoc]⟩
 ·rcases y.best k with h | ⟨j,h,hj⟩
  ·rcases x.best k with h' | ⟨j,h',hj⟩
   ·exact .inl (h.trans h')
   ·exact .inr ⟨j,h.trans h',hj⟩
  ·exact .inr ⟨j,h,eE x.len hj⟩
theorem A0 (st:St) (w:aj) (word:Wd) (used:List Nat):Ext st (take st w word used):=by
 unfold take;split
 ·refine ⟨⟨_,rfl⟩,fun k=>?_,fun h=>?_⟩
  ·show (if k=w.key then some st.rows.length else st.best k)=_\/∃j,(if k=w.key then some st.rows.length else st.best k)=some j/\_
   by_cases e:k=w.key
   ·rw [if_pos e];exact .inr ⟨_,rfl,az _⟩
   ·rw [if_neg e];exact .inl rfl
  ·show (if st.bar=none/\iA w then some st.rows.length else st.bar)≠none;rw [if_neg fun z=>h z.1];exact h
 ·exact Ext.refl st
theorem yS {w:aj} (h:ah ⟨rows++[r],best,bar⟩ i=some w):(i<rows.length/\(rows[i]?).map (·.cD)=some w)\/(i=rows.length/\w=r.cD):=by
 unfold ah at h
 by_cases c:i<rows.length
 ·left;refine ⟨c,?_⟩;have h:((rows++[r])[i]?).map (·.cD)=some w:=h
  rwa [sk c] at h
 ·right;have h:((rows++[r])[i]?).map (·.cD)=some w:=h;rw [rf (by exact mH c)] at h
  cases q:i-rows.length with
  | zero=>rw [q] at h;exact ⟨by lia,by cases h;rfl⟩
  | succ z=>rw [q] at h;cases h
theorem Pw {w:aj} (g:cm n st) (ha:w.a<n) (hb:w.b<n) (hw:w.tie=false->w.a≠w.b):cm n (take st w word used):=by
 unfold take;split
 next hn=>
  have old:∀{i u},ah st i=some u->ah { rows:=st.rows++[⟨w,word,used⟩],best:=fun k=>if k=w.key then some st.rows.length else st.best k,bar:=if st.bar=none/\iA w then some st.rows.length else st.bar } i=some u:=fun {i u} h=>by
   have hi:=m_ h;unfold ah at h ⊢;rw [sk hi];exact h
  have new:ah { rows:=st.rows++[⟨w,word,used⟩],best:=fun k=>if k=w.key then some st.rows.length else st.best k,bar:=if st.bar=none/\iA w then some st.rows.length else st.bar } st.rows.length=some w:=by
   unfold ah;rw [rf (az _),Nat.sub_self];rfl
  have nb:(if st.bar=none/\iA w then some st.rows.length else st.bar)=none->st.bar=none/\¬iA w:=fun h=>by
   by_cases c:st.bar=none/\iA w
   ·rw [if_pos c] at h;cases h
   ·rw [if_neg c] at h;exact ⟨h,fun z=>c ⟨h,z⟩⟩
  have QU:¬iA w->w.a≠w.b:=fun hb e=>by
   cases ht:w.tie with
   | false=>exact hw ht e
   | true=>
    unfold gP at hn;rw [if_pos ⟨ht,e⟩] at hn;exact hb ⟨ht,e,hn⟩
  refine ⟨fun k i h=>?_,fun i u h=>?_,fun i u h=>?_,fun h0 i u h=>?_,fun h0 i j u u' h h' hk fi=>?_⟩
  ·have h:(if k=w.key then some st.rows.length else st.best k)=some i:=h
   by_cases c:k=w.key
   ·rw [if_pos c] at h;cases h;exact ⟨w,new,c.symm⟩
   ·rw [if_neg c] at h;obtain ⟨u,hu,hk⟩:=g.at_ k i h;exact ⟨u,old hu,hk⟩
  ·show ∃j,i<=j/\(if u.key=w.key then some st.rows.length else st.best u.key)=some j;rcases yS h with ⟨hi,hu⟩ | ⟨hi,rfl⟩
   ·by_cases c:u.key=w.key
    ·rw [if_pos c];exact ⟨_,bp hi,rfl⟩
    ·rw [if_neg c];exact g.top i u hu
   ·rw [if_pos rfl];exact ⟨_,Nat.le_of_eq hi,rfl⟩
  ·rcases yS h with ⟨_,hu⟩ | ⟨_,rfl⟩
   ·exact g.lt i u hu
   ·exact ⟨ha,hb⟩
  ·obtain ⟨b0,b1⟩:=nb h0;rcases yS h with ⟨_,hu⟩ | ⟨_,rfl⟩
   ·exact g.ne b0 i u hu
   ·exact QU b1
  ·obtain ⟨b0,b1⟩:=nb h0;rcases yS h' with ⟨hj,kE⟩ | ⟨hj,e'⟩
   ·rcases yS h with ⟨_,hu⟩ | ⟨hi,_⟩
    ·exact g.drop b0 i j u u' hu kE hk fi
    ·lia
   ·have e':u'=w:=e';rw [e'] at hk ⊢;rcases yS h with ⟨hi,hu⟩ | ⟨hi,_⟩
    ·
     have hu:ah st i=some u:=hu;obtain ⟨j0,hij0,dm⟩:=g.top i u hu;obtain ⟨u0,E_,hk0⟩:=g.at_ _ _ dm;have hv:val st w.key=some u0.v:=by
      unfold val;have hk:u.key=w.key:=hk;rw [<-hk,dm];show (ah st j0).map (·.v)=_;rw [E_];rfl
     unfold gP at hn;rw [if_neg fun z=>QU b1 z.2] at hn;have h1:=hn _ hv;have ht:u.tie=w.tie:=congrArg Prod.fst hk;rw [ht]
     by_cases c:i=j0
     ·subst c;rw [hu] at E_;cases E_;exact h1
     ·have h2:=g.drop b0 i j0 u u0 hu E_ hk0.symm (by lia);rw [ht] at h2;exact XJ h1 h2
    ·lia
 next=>exact g
theorem rO (st:St) (o:Option aj) (word:Wd) (used:List Nat):Ext st (put st o word used):=by
 cases o with
 | none=>exact Ext.refl st
 | some w=>exact A0 st w word used
def Imp (s s':St):Prop:=Ext s s'/\∀k u,k.2.1≠k.2.2->val s k=some u->∃u',val s' k=some u'/\¬dE k.1 u u'
theorem yZ (b:Bool) (u:Int):¬dE b u u:=by unfold dE;split<;>exact Int.not_lt.mpr (Int.le_refl u)
theorem Imp.refl (s:St):Imp s s:=⟨Ext.refl s,fun k u _ h=>⟨u,h,yZ _ _⟩⟩
theorem Imp.trans (x:Imp a b) (y:Imp b c):Imp a c:=by
 refine ⟨x.1.trans y.1,fun k u hk h=>?_⟩;obtain ⟨u1,h1,n1⟩:=x.2 k u hk h;obtain ⟨u2,h2,n2⟩:=y.2 k u1 hk h1;exact ⟨u2,h2,Ij n1 n2⟩
theorem pf {w:aj} (h:s.best k=some i) (hw:ah s i=some w):val s k=some w.v:=by
 unfold val;rw [h];show (ah s i).map (·.v)=_;rw [hw];rfl
theorem Dw {w:aj} (h:gP st w):val (take st w word used) w.key=some w.v/\ah (take st w word used) st.rows.length=some w/\(take st w word used).rows.length=st.rows.length+1:=by
 have e:take st w word used={ rows:=st.rows++[⟨w,word,used⟩],best:=fun k=>if k=w.key then some st.rows.length else st.best k,bar:=if st.bar=none/\iA w then some st.rows.length else st.bar }:=by
  unfold take;rw [if_pos h]
 have hw:ah (take st w word used) st.rows.length=some w:=by
  rw [e];unfold ah;rw [rf (az _),Nat.sub_self];rfl
 refine ⟨pf (i:=st.rows.length) (by rw [e];show (if w.key=w.key then some st.rows.length else st.best w.key)=_;rw [if_pos rfl]) hw,hw,?_⟩;rw [e];show (st.rows++[_]).length=_;rw [ig];rfl
theorem wy {w:aj} (h:¬gP st w):take st w word used=st:=by
 unfold take;rw [if_neg h]
theorem WZ {w:aj} (hk:k≠w.key) (h:val st k=some u):val (take st w word used) k=some u:=by
 by_cases c:gP st w
 ·have e:=A0 st w word used;unfold val at h ⊢;have hb:(take st w word used).best k=st.best k:=by
   unfold take;rw [if_pos c];show (if k=w.key then some st.rows.length else st.best k)=_;rw [if_neg hk]
  rw [hb]
  cases q:st.best k with
  | none=>rw [q] at h;cases h
  | some i=>
   rw [q] at h;have h:(ah st i).map (·.v)=some u:=h;show (ah (take st w word used) i).map (·.v)=some u
   cases q2:ah st i with
   | none=>rw [q2] at h;cases h
   | some r=>rw [bY e q2];rw [q2] at h;exact h
 ·rw [wy c];exact h
theorem OH (st:St) (w:aj) (word:Wd) (used:List Nat):Imp st (take st w word used):=by
 refine ⟨A0 st w word used,fun k u hk h=>?_⟩
 by_cases c:k=w.key
 ·by_cases hn:gP st w
  ·have h2:=hn;unfold gP at h2;have:¬(w.tie=true/\w.a=w.b):=fun z=>hk (by rw [c];exact z.2);rw [if_neg this] at h2;have h3:=h2 u (by rw [<-c];exact h);refine ⟨w.v,by rw [c];exact (Dw hn).1,fun z=>?_⟩;rw [c] at z;exact PM h3 z
  ·rw [wy hn];exact ⟨u,h,yZ _ _⟩
 ·exact ⟨u,WZ c h,yZ _ _⟩
theorem DL {w:aj} (h:w.a≠w.b):∃u,val (take st w word used) w.key=some u/\¬dE w.tie w.v u:=by
 by_cases c:gP st w
 ·exact ⟨w.v,(Dw c).1,yZ _ _⟩
 ·rw [wy c];unfold gP at c;rw [if_neg fun z=>h z.2] at c;have c:=Classical.not_forall.mp c;obtain ⟨u,hu⟩:=c;have hu:=Classical.not_imp.mp hu;exact ⟨u,hu.1,hu.2⟩
theorem Pt {w:aj} (h:iA w):(take st w word used).bar≠none:=by
 have hn:gP st w:=by
  unfold gP;rw [if_pos ⟨h.1,h.2.1⟩];exact h.2.2
 unfold take;rw [if_pos hn];show (if st.bar=none/\iA w then some st.rows.length else st.bar)≠none
 by_cases c:st.bar=none
 ·rw [if_pos ⟨c,h⟩];simp
 ·rw [if_neg fun z=>c z.1];exact c
theorem NK (st:St) (o:Option aj) (word:Wd) (used:List Nat):Imp st (put st o word used):=by
 cases o with
 | none=>exact Imp.refl st
 | some w=>exact OH st w word used
theorem dz (hf:∀s j,Imp s (f s j)):∀(l:List Nat) (s:St),Imp s (l.foldl f s)
 | [],s=>Imp.refl s
 | j::l,s=>(hf s j).trans (dz hf l (f s j))
theorem gc (f:aj->Option aj) (word:Wd) (i:Nat) (s:St):Imp s (aK f word i s):=NK ..
theorem cJ (f:aj->aj->Option aj) (word:Wd) (i j:Nat) (s:St):Imp s (ao f word i j s):=NK ..
theorem XE (n:Nat) (F:cq) (at_ a b:Nat) (s:St):Imp s (dY n F at_ a b s):=
 ((((gc _ _ _ _).trans (gc _ _ _ _)).trans (dz (fun _ _=>cJ ..) _ _)).trans (dz (fun _ _=>cJ ..) _ _)).trans (dz (fun _ _=>cJ ..) _ _)
theorem XG (n:Nat) (F:cq) (at_ a:Nat) (s:St):Imp s (fu n F at_ a s):=
 ((gc _ _ _ _).trans (gc _ _ _ _)).trans (dz (fun _ _=>cJ ..) _ _)
theorem uW (n:Nat) (F:cq) (at_:Nat) (s:St):Imp s (look n F at_ s):=by
 unfold look;split
 ·split
  ·split
   ·exact XE ..
   ·exact XG ..
  ·exact Imp.refl s
 ·exact Imp.refl s
structure g_ (n:Nat) (F:cq) (most:Int):Prop where
 lt:∀e f,F e=some f->f.1<n/\e<n
 own:∀e f,F e=some f->F f.1=none
 num:∀e f,F e=some f->1<=f.2.1/\f.2.1<=f.2.2/\f.2.2<=most
def sD (n:Nat) (w:aj):Prop:=w.a<n/\w.b<n/\(w.tie=false->w.a≠w.b)
theorem HF (g:cm n st) (h:∀w,o=some w->sD n w):cm n (put st o word used):=by
 cases o with
 | none=>exact g
 | some w=>exact Pw g (h w rfl).1 (h w rfl).2.1 (h w rfl).2.2
theorem mX (g:cm n s) (hf:∀p w,p.a<n->p.b<n->f p=some w->sD n w):cm n (aK f word i s):=by
 refine HF g fun w h=>?_
 cases q:ah s i with
 | none=>rw [q] at h;cases h
 | some p=>
  rw [q] at h;have:=g.lt i p q;exact hf p w this.1 this.2 h
theorem wk (g:cm n s) (hf:∀p q w,p.a<n->p.b<n->q.a<n->q.b<n->f p q=some w->sD n w):cm n (ao f word i j s):=by
 refine HF g fun w h=>?_
 cases e1:ah s i with
 | none=>rw [e1] at h;cases h
 | some p=>
  rw [e1] at h;have h:(ah s j).bind (fun q=>f p q)=some w:=h
  cases e2:ah s j with
  | none=>rw [e2] at h;cases h
  | some q=>
   rw [e2] at h;have h1:=g.lt i p e1;have h2:=g.lt j q e2;exact hf p q w h1.1 h1.2 h2.1 h2.2 h
theorem uX (hf:∀s j,cm n s->cm n (f s j)):∀(l:List Nat) (s:St),cm n s->cm n (l.foldl f s)
 | [],_,g=>g
 | j::l,s,g=>uX hf l (f s j) (hf s j g)
theorem Au (p q w:aj) (h1:p.a<n) (_:p.b<n) (_:q.a<n) (h4:q.b<n) (h:a7 p q=some w):sD n w:=by
 unfold a7 at h;split at h
 ·cases h;exact ⟨h1,h4,fun z=>nomatch z⟩
 ·cases h
theorem Ax (p w:aj) (h1:p.a<n) (h2:p.b<n) (h:cT F p=some w):sD n w:=by
 unfold cT at h;split at h
 next c=>
  cases q:F p.b with
  | none=>rw [q] at h;cases h
  | some f=>rw [q] at h;cases h;exact ⟨h1,h2,fun _=>c.2⟩
 ·cases h
theorem Az (hF:g_ n F most) (p w:aj) (_:p.a<n) (h2:p.b<n) (h:da F p=some w):sD n w:=by
 unfold da at h;split at h
 ·cases q:F p.a with
  | none=>rw [q] at h;cases h
  | some f=>rw [q] at h;cases h;exact ⟨(hF.lt _ _ q).1,h2,fun z=>nomatch z⟩
 ·cases h
theorem Dv (hF:g_ n F most) (p w:aj) (h1:p.a<n) (_:p.b<n) (h:df F p=some w):sD n w:=by
 unfold df at h;split at h
 ·cases q:F p.b with
  | none=>rw [q] at h;cases h
  | some f=>rw [q] at h;cases h;exact ⟨h1,(hF.lt _ _ q).1,fun z=>nomatch z⟩
 ·cases h
theorem HB (p q w:aj) (_:p.a<n) (h2:p.b<n) (h3:q.a<n) (_:q.b<n) (h:bf F p q=some w):sD n w:=by
 unfold bf at h;split at h
 next c=>
  cases e:F p.b with
  | none=>rw [e] at h;cases h
  | some f=>rw [e] at h;cases h;exact ⟨h3,h2,fun _=>c.2.2.2⟩
 ·cases h
theorem DF (hF:g_ n F most) (p w:aj) (_:p.a<n) (h2:p.b<n) (h:cS F p=some w):sD n w:=by
 unfold cS at h;split at h
 ·cases e:F p.a with
  | none=>rw [e] at h;cases h
  | some o=>
   rw [e] at h;have h:(F p.b).map (fun f=>(⟨false,o.1,p.b,min p.v f.2.2-o.2.1⟩:aj))=some w:=h
   cases e2:F p.b with
   | none=>rw [e2] at h;cases h
   | some f=>
    rw [e2] at h;cases h;refine ⟨(hF.lt _ _ e).1,h2,fun _ z=>?_⟩;have z:o.1=p.b:=z;have:=hF.own _ _ e;rw [z,e2] at this;cases this
 ·cases h
theorem WG (hF:g_ n F most) (g:cm n s):cm n (look n F at_ s):=by
 unfold look;split
 ·split
  ·split
   ·refine uX (fun _ _ g=>wk g HB) _ _ (uX (fun _ _ g=>wk g Au) _ _ (uX (fun _ _ g=>wk g Au) _ _ (mX (mX g Ax) (Az hF))))
   ·exact uX (fun _ _ g=>wk g HB) _ _ (mX (mX g (Dv hF)) (DF hF))
  ·exact g
 ·exact g
theorem yP (hF:g_ n F most) (g:cm n s):∀t,cm n (run n F s t)
 | 0=>g
 | t+1=>WG hF (yP hF g t)
def Add (C:aj->Prop) (s s':St):Prop:=∀i w,s.rows.length<=i->ah s' i=some w->C w
theorem Add.refl (s:St):Add C s s:=fun i w h e=>absurd (m_ e) (by exact Nat.not_lt_of_le h)
theorem Add.trans (x:Add C a b) (e:Ext b c) (y:Add C b c):Add C a c:=fun i w h hw=>by
 by_cases hi:i<b.rows.length
 ·have:∃w',ah b i=some w':=⟨_,by unfold ah;rw [kK hi];rfl⟩;obtain ⟨w',kD⟩:=this;have:=bY e kD;rw [hw] at this;cases this;exact x i w h kD
 ·exact y i w (by exact mH hi) hw
theorem OG {w:aj} (h:C w):Add C s (take s w word used):=fun i u hi hu=>by
 by_cases c:gP s w
 ·obtain ⟨_,h1,h2⟩:=Dw (word:=word) (used:=used) c;have:=m_ hu;have e:i=s.rows.length:=by lia
  rw [e,h1] at hu;cases hu;exact h
 ·rw [wy c] at hu;exact absurd (m_ hu) (by exact Nat.not_lt_of_le hi)
theorem rN (h:∀w,o=some w->C w):Add C s (put s o word used):=by
 cases o with
 | none=>exact Add.refl s
 | some w=>exact OG (h w rfl)
theorem we (hp:ah s i=some p) (h:∀w,f p=some w->C w):Add C s (aK f word i s):=rN fun w e=>by rw [hp] at e;exact h w e
theorem GJ (hp:ah s i=some p) (hq:ah s j=some q) (h:∀w,f p q=some w->C w):Add C s (ao f word i j s):=rN fun w e=>by
 rw [hp] at e;have e:(ah s j).bind (fun q=>f p q)=some w:=e;rw [hq] at e;exact h w e
theorem wB (hf:∀s j,Imp s (f s j)):∀(l:List Nat) (s0 s:St),Imp s0 s->(∀j∈l,∀s1,Imp s0 s1->Add C s1 (f s1 j))->Add C s (l.foldl f s)
 | [],_,s,_,_=>Add.refl s
 | j::l,s0,s,h0,h=>(h j eG s h0).trans (dz hf l (f s j)).1 (wB hf l s0 (f s j) (h0.trans (hf s j)) fun k hk=>h k (gz _ hk))
theorem Ia (hf:∀s j,Imp s (f s j)):∀(l:List Nat) (s:St) (j:Nat),j∈l->∃s1,Imp s s1/\Imp (f s1 j) (l.foldl f s)
 | [],_,_,h=>nomatch h
 | k::l,s,j,h=>by
  rcases eV.mp h with e | h
  ·subst e;exact ⟨s,Imp.refl s,dz hf l (f s j)⟩
  ·obtain ⟨s1,h1,h2⟩:=Ia hf l (f s k) j h;exact ⟨s1,(hf s k).trans h1,h2⟩
theorem HU (h:j∈cL n st tie a):∃b,b<n/\st.best (tie,a,b)=some j:=by
 obtain ⟨b,hb,e⟩:=List.mem_filterMap.mp h;exact ⟨b,List.mem_range.mp hb,e⟩
theorem DO (h:j∈dq n st b):∃a,a<n/\st.best (true,a,b)=some j:=by
 obtain ⟨a,ha,e⟩:=List.mem_filterMap.mp h;exact ⟨a,List.mem_range.mp ha,e⟩
theorem A7 (g:cm n s) (h:val s k=some u):∃i w,s.best k=some i/\ah s i=some w/\w.key=k/\w.v=u:=by
 unfold val at h
 cases q:s.best k with
 | none=>rw [q] at h;cases h
 | some i=>
  obtain ⟨w,hw,hk⟩:=g.at_ k i q;rw [q] at h;have h:(ah s i).map (·.v)=some u:=h;rw [hw] at h;exact ⟨i,w,rfl,hw,hk,eF h⟩
theorem iD {w:aj} {t:Bool} {a b:Nat} (h:w.key=(t,a,b)):w.tie=t/\w.a=a/\w.b=b:=by
 unfold aj.key at h;exact ⟨congrArg Prod.fst h,congrArg (fun z=>z.2.1) h,congrArg (fun z=>z.2.2) h⟩
theorem rK (g:cm n s) (hb:s.bar=none) (h:val s (t,a,b)=some u):a≠b/\a<n/\b<n:=by
 obtain ⟨i,w,_,hw,hk,_⟩:=A7 g h;obtain ⟨_,h2,h3⟩:=iD hk;have h4:=g.ne hb i w hw;have h5:=g.lt i w hw;rw [h2,h3] at h4;rw [h2,h3] at h5;exact ⟨h4,h5⟩
theorem NT {n:Nat} {F:cq} {most:Int} (hF:g_ n F most) {s:St} (g:cm n s) {at_ a b c:Nat} {p:aj} {u:Int} (hp:ah s at_=some p) (pt:p.tie=true) (pa:p.a=a) (pb:p.b=b) (hu:val s (true,b,c)=some u) (xT:b≠c) (hc:c<n):
 (a≠c->∃x,x<=p.v+u/\val (dY n F at_ a b s) (true,a,c)=some x)/\(a=c->p.v+u<0->(dY n F at_ a b s).bar≠none):=by
 have i2:Imp s (aK (da F) .bh at_ (aK (cT F) .aA at_ s)):=(gc _ _ _ _).trans (gc _ _ _ _);have g2:cm n (aK (da F) .bh at_ (aK (cT F) .aA at_ s)):=mX (mX g Ax) (Az hF);unfold dY;dsimp only;generalize aK (da F) .bh at_ (aK (cT F) .aA at_ s)=s2 at*;obtain ⟨u2,xy,nb⟩:=i2.2 (true,b,c) u xT hu;have hle:u2<=u:=by
  unfold dE at nb;simp at nb;exact nb
 obtain ⟨j,q,hj,hq,hqk,hqv⟩:=A7 g2 xy;obtain ⟨qt,qa,qb⟩:=iD hqk;have d_:j∈cL n s2 true b:=List.mem_filterMap.mpr ⟨c,List.mem_range.mpr hc,hj⟩;obtain ⟨s3,i3,RM⟩:=Ia (f:=fun st j=>ao a7 .sum at_ j st) (fun _ _=>cJ ..) _ s2 j d_;have jU:=bY (i2.1.trans i3.1) hp;have hq3:=bY i3.1 hq;have hw:a7 p q=some ⟨true,a,c,p.v+u2⟩:=by
  unfold a7;rw [if_pos ⟨pt,qt,by rw [pb,qa]⟩,pa,qb,hqv]
 have hd:ao a7 .sum at_ j s3=take s3 ⟨true,a,c,p.v+u2⟩ .sum [at_,j]:=by
  unfold ao;rw [jU];show put s3 ((ah s3 j).bind fun q=>a7 p q) .sum [at_,j]=_;rw [hq3];show put s3 (a7 p q) .sum [at_,j]=_;rw [hw];rfl
 rw [hd] at RM;have iZ:=RM.trans ((dz (f:=fun st j=>ao a7 .sum j at_ st) (fun _ _=>cJ ..) (dq n ((cL n s2 true b).foldl (fun st j=>ao a7 .sum at_ j st) s2) a) _).trans (dz (f:=fun st j=>ao (bf F) .back j at_ st) (fun _ _=>cJ ..) (cL n ((dq n ((cL n s2 true b).foldl (fun st j=>ao a7 .sum at_ j st) s2) a).foldl (fun st j=>ao a7 .sum j at_ st) ((cL n s2 true b).foldl (fun st j=>ao a7 .sum at_ j st) s2)) false b) _));refine ⟨fun vC=>?_,fun vC bb=>?_⟩
 ·obtain ⟨x,hx,nx⟩:=DL (st:=s3) (word:=.sum) (used:=[at_,j]) (w:=⟨true,a,c,p.v+u2⟩) vC;obtain ⟨y,hy,ny⟩:=iZ.2 (true,a,c) x vC hx;refine ⟨y,?_,hy⟩;unfold dE at nx ny;simp at nx ny;lia
 ·exact iZ.1.bar (Pt ⟨rfl,vC,by show p.v+u2<0;lia⟩)
theorem OL (hF:g_ n F most) (g:cm n s) (hp:ah s at_=some p) (pt:p.tie=false) (pa:p.a=a)
 (hB:∀x v,val (fu n F at_ a s) (true,x,a)=some v->-B<=v) (Fx:0<=B) (bG:(fu n F at_ a s).bar=none):
 Add (fun w=>(w.tie=true->-most<=w.v)/\(w.tie=false->w.v<=most+B)) s (fu n F at_ a s):=by
 unfold fu at hB bG ⊢;dsimp only at hB bG ⊢;have g1:cm n (aK (df F) .sure at_ s):=mX g (Dv hF);have i1:Imp s (aK (df F) .sure at_ s):=gc _ _ _ _;have A1:Add (fun w=>(w.tie=true->-most<=w.v)/\(w.tie=false->w.v<=most+B)) s (aK (df F) .sure at_ s):=we hp fun w e=>by
  unfold df at e;rw [if_pos pt] at e
  cases q:F p.b with
  | none=>rw [q] at e;cases e
  | some f=>
   rw [q] at e;cases e;have:=hF.num _ _ q;refine ⟨fun _=>?_,nofun⟩
   show-most<=-min p.v f.2.1
   lia
 generalize aK (df F) .sure at_ s=s1 at*;have i6:=bY i1.1 hp;have g2:cm n (aK (cS F) .aq at_ s1):=mX g1 (DF hF);have i2:Imp s1 (aK (cS F) .aq at_ s1):=gc _ _ _ _;have A2:Add (fun w=>(w.tie=true->-most<=w.v)/\(w.tie=false->w.v<=most+B)) s1 (aK (cS F) .aq at_ s1):=we i6 fun w e=>by
  unfold cS at e;split at e
  ·cases q:F p.a with
   | none=>rw [q] at e;cases e
   | some o=>
    rw [q] at e;have e:(F p.b).map (fun f=>(⟨false,o.1,p.b,min p.v f.2.2-o.2.1⟩:aj))=some w:=e
    cases q2:F p.b with
    | none=>rw [q2] at e;cases e
    | some f=>
     rw [q2] at e;cases e;have h1:=hF.num _ _ q;have h2:=hF.num _ _ q2;refine ⟨nofun,fun _=>?_⟩;show min p.v f.2.2-o.2.1<=most+B;omega
  ·cases e
 generalize aK (cS F) .aq at_ s1=s2 at*;have jg:=bY i2.1 i6;have i3:Imp s2 ((dq n s2 a).foldl (fun st j=>ao (bf F) .back at_ j st) s2):=dz (fun _ _=>cJ ..) _ _;have b2:=fj fun z=>i3.1.bar z bG;have A3:Add (fun w=>(w.tie=true->-most<=w.v)/\(w.tie=false->w.v<=most+B)) s2 ((dq n s2 a).foldl (fun st j=>ao (bf F) .back at_ j st) s2):=wB (f:=fun st j=>ao (bf F) .back at_ j st) (fun _ _=>cJ ..) _ s2 s2 (Imp.refl _) fun j hj sx hx=>by
  obtain ⟨c,_,dm⟩:=DO hj;obtain ⟨q,hq,hk⟩:=g2.at_ _ _ dm;obtain ⟨_,qa,qb⟩:=iD hk;have wV:=g2.ne b2 j q hq;rw [qa,qb] at wV;obtain ⟨v',fg,nb⟩:=i3.2 (true,c,a) q.v wV (pf dm hq);have ur:=hB c v' fg;unfold dE at nb;simp at nb;refine GJ (bY hx.1 jg) (bY hx.1 hq) fun w e=>?_;unfold bf at e;split at e
  ·cases z:F p.b with
   | none=>rw [z] at e;cases e
   | some f=>
    rw [z] at e;cases e;have h2:=hF.num _ _ z;refine ⟨nofun,fun _=>?_⟩;show min p.v f.2.2-q.v<=most+B;lia
  ·cases e
 exact (A1.trans i2.1 A2).trans i3.1 A3
theorem Nt (t:Nat):∀d,Imp (run n F s t) (run n F s (t+d))
 | 0=>Imp.refl _
 | d+1=>(Nt t d).trans (uW n F (t+d) _)
theorem sZ (h:t<=t'):Imp (run n F s t) (run n F s t'):=by
 have:=Nt (n:=n) (F:=F) (s:=s) t (t'-t)
 rwa [show t+(t'-t)=t' by lia] at this
section
variable {n:Nat} {F:cq} {most:Int} {s0:St}
def pt (n:Nat) (F:cq) (s0:St) (t a b:Nat):Prop:=∃w,ah (run n F s0 t) t=some w/\w.tie=true/\w.a=a/\w.b=b/\(run n F s0 t).best (true,a,b)=some t
theorem Ds {w:aj} (hw:ah s t=some w) (ht:w.tie=true) (ha:w.a=a) (hb:w.b=b) (dm:s.best (true,a,b)=some t):look n F t s=dY n F t a b s:=by
 unfold look;rw [hw];have hk:w.key=(true,a,b):=by unfold aj.key;rw [ht,ha,hb]
 dsimp only;rw [hk,if_pos dm,if_pos ht,ha,hb]
theorem Hr (g:cm n s) (g':cm n s') (e:Ext s s') (h:val s' k≠val s k):∃j w,s.rows.length<=j/\ah s' j=some w/\w.key=k/\val s' k=some w.v:=by
 rcases e.best k with hb | ⟨j,hj,hlen⟩
 ·exfalso;apply h;unfold val;rw [hb]
  cases q:s.best k with
  | none=>rfl
  | some i=>
   show (ah s' i).map (·.v)=(ah s i).map (·.v);obtain ⟨w,hw,_⟩:=g.at_ k i q;rw [hw,bY e hw]
 ·obtain ⟨w,hw,hk⟩:=g'.at_ k j hj;exact ⟨j,w,hlen,hw,hk,pf hj hw⟩
theorem OV (h:t<=t') (g:cm n (run n F s0 t)) (hi:(run n F s0 t).best k=some i) (hj:(run n F s0 t').best k=some j):i<=j:=by
 rcases (sZ (n:=n) (F:=F) (s:=s0) h).1.best k with e | ⟨j',e,hl⟩
 ·rw [e,hi] at hj;cases hj;exact az _
 ·rw [e] at hj;cases hj;obtain ⟨w,hw,_⟩:=g.at_ k i hi;exact eE (bp (m_ hw)) hl
theorem X8 (h:t<=t') (g:cm n (run n F s0 t)) (g':cm n (run n F s0 t')) (bG:(run n F s0 t').bar=none) (hi:(run n F s0 t).best k=some i) (hj:(run n F s0 t').best k=some j) (cW:i≠j):val (run n F s0 t') k≠val (run n F s0 t) k:=by
 obtain ⟨w,hw,hk⟩:=g.at_ k i hi;obtain ⟨w',kD,pA⟩:=g'.at_ k j hj;have hle:=OV h g hi hj;have:=g'.drop bG i j w w' (bY (sZ h).1 hw) kD (hk.trans pA.symm) (by lia);rw [pf hi hw,pf hj kD];intro e;have e:w'.v=w.v:=eF e;rw [e] at this;exact yZ _ _ this
end
variable {n:Nat} {F:cq} {most:Int} {s0:St}
theorem HV (hp:ah s t=some p) (ht:p.tie=false) (hb:s.best p.key=some t):look n F t s=fu n F t p.a s:=by
 unfold look;rw [hp];dsimp only;rw [if_pos hb,if_neg (by rw [ht];decide)]
theorem Pb (hp:ah s t=some p) (hb:s.best p.key≠some t):look n F t s=s:=by
 unfold look;rw [hp];dsimp only;rw [if_neg hb]
end MU
namespace MH
theorem Hc:∀(M N:Nat) (f:Nat->Nat),(∀i,i<N->f i<M)->(∀i j,i<j->j<N->f i≠f j)->N<=M
 | 0,N,f,h,_=>by
  cases N with
  | zero=>exact az _
  | succ N=>exact absurd (h 0 (Nat.succ_pos _)) (so _)
 | M+1,N,f,h,hi=>by
  by_cases c:∃p,p<N/\f p=M
  ·obtain ⟨p,hp,ep⟩:=c;have k:=Hc M (N-1) (fun i=>f (if i<p then i else i+1)) (fun i kG=>by
    have h1:(if i<p then i else i+1)<N:=by split<;>lia
    have h2:=h _ h1;have h3:f (if i<p then i else i+1)≠M:=fun z=>by
     by_cases c:i<p
     ·rw [if_pos c] at z;exact hi i p c hp (z.trans ep.symm)
     ·rw [if_neg c] at z;exact hi p (i+1) (by lia) (by lia) (ep.trans z.symm)
    show f (if i<p then i else i+1)<M;lia) (fun i j fi hj=>by
    show f (if i<p then i else i+1)≠f (if j<p then j else j+1);refine hi _ _ ?_ ?_
    ·split<;>split<;>lia
    ·split<;>lia)
   lia
  ·have k:=Hc M N f (fun i kG=>by
    have h1:=h i kG;have h2:f i≠M:=fun z=>c ⟨i,kG,z⟩;lia) hi
   exact Nat.le.step k
open Classical in
def cnt (P:Nat->Prop):Nat->Nat
 | 0=>0
 | N+1=>cnt P N+if P N then 1 else 0
theorem pd {P:Nat->Prop} (h:P N):cnt P (N+1)=cnt P N+1:=by
 rw [cnt,if_pos h]
theorem sU {P:Nat->Prop} (h:¬P N):cnt P (N+1)=cnt P N:=by
 rw [cnt,if_neg h,Nat.add_zero]
theorem NY (P:Nat->Prop):∀N,∃e:Nat->Nat,(∀i,i<cnt P N->P (e i)/\e i<N)/\∀i j,i<j->j<cnt P N->e i<e j
 | 0=>⟨fun i=>i,fun i h=>absurd h (so _),fun i j _ h=>absurd h (so _)⟩
 | N+1=>by
  obtain ⟨e,h1,h2⟩:=NY P N
  by_cases c:P N
  ·have ec:cnt P (N+1)=cnt P N+1:=pd c;refine ⟨fun i=>if i<cnt P N then e i else N,fun i hi=>?_,fun i j fi hj=>?_⟩
   ·by_cases d:i<cnt P N
    ·show P (if i<cnt P N then e i else N)/\(if i<cnt P N then e i else N)<N+1;rw [if_pos d];have:=h1 i d;exact ⟨this.1,by lia⟩
    ·show P (if i<cnt P N then e i else N)/\(if i<cnt P N then e i else N)<N+1;rw [if_neg d];exact ⟨c,by exact Nat.le.refl⟩
   ·show (if i<cnt P N then e i else N)<(if j<cnt P N then e j else N);rw [if_pos (show i<cnt P N by lia)]
    by_cases d:j<cnt P N
    ·rw [if_pos d];exact h2 i j fi d
    ·rw [if_neg d];exact (h1 i (by lia)).2
  ·have ec:cnt P (N+1)=cnt P N:=sU c;rw [ec];exact ⟨e,fun i hi=>⟨(h1 i hi).1,by have:=(h1 i hi).2;exact Nat.le.step this⟩,h2⟩
theorem ZD {P:Nat->Prop} (code:Nat->Nat) (h:∀i,i<N->P i->code i<M) (hi:∀i j,i<j->j<N->P i->P j->code i≠code j):cnt P N<=M:=by
 obtain ⟨e,h1,h2⟩:=NY P N;exact Hc M (cnt P N) (fun i=>code (e i)) (fun i z=>h _ (h1 i z).2 (h1 i z).1) fun i j fi hj=>hi _ _ (h2 i j fi hj) (h1 j hj).2 (h1 i (by lia)).1 (h1 j hj).1
theorem GG {P Q R:Nat->Prop} (h:∀i,P i->Q i\/R i):∀N,cnt P N<=cnt Q N+cnt R N
 | 0=>az _
 | N+1=>by
  have ih:=GG h N;have hq:cnt Q N<=cnt Q (N+1):=by
   by_cases c:Q N
   ·rw [pd c];exact Nat.le.step Nat.le.refl
   ·rw [sU c];exact Nat.le.refl
  have hr:cnt R N<=cnt R (N+1):=by
   by_cases c:R N
   ·rw [pd c];exact Nat.le.step Nat.le.refl
   ·rw [sU c];exact Nat.le.refl
  by_cases c:P N
  ·rw [pd c];rcases h N c with q | q
   ·rw [pd q];lia
   ·rw [pd q];lia
  ·rw [sU c];lia
theorem yM:∀(N:Nat) (l:List Nat),l.Nodup->(∀z∈l,z<N)->l.length<=N
 | 0,l,_,h=>by
  cases l with
  | nil=>exact az _
  | cons x t=>exact absurd (h x eG) (so _)
 | N+1,l,hn,h=>by
  by_cases c:N∈l
  ·have k:=yM N (l.erase N) (hn.erase N) (fun z hz=>by
    have h1:=h z (List.mem_of_mem_erase hz);have h2:z≠N:=fun e=>by
     rw [e] at hz;exact (hn.mem_erase_iff.mp hz).1 rfl
    lia)
   rw [List.length_erase_of_mem c] at k;lia
  ·have k:=yM N l hn (fun z hz=>by
    have h1:=h z hz;have h2:z≠N:=fun e=>c (e▸hz);lia)
   exact Nat.le.step k
end MH
set_option linter.unusedVariables false
namespace MH
structure Bd (n:Nat) (L most:Int) (T:Nat) (len:Nat->Nat) (m w:Nat->Nat->Nat->Option Int) (pt pw:Nat->Nat->Nat->Prop):Prop where
 n8:n<=8
 L0:0<=L
 Bf:0<=most
 go:∀t,t<T->t<len t
 xp:∀t,t<T->len t<=len (t+1)
 lt:∀t a b v,t<=T->m t a b=some v->a<n/\b<n/\a≠b
 known:∀t a b,t<T->pt t a b->∃v,m t a b=some v
 iT:∀t a b,t<T->pw t a b->a<n/\b<n/\a≠b/\∃v,w t a b=some v
 mono:∀t a b v,t<T->m t a b=some v->∃v',v'<=v/\m (t+1) a b=some v'
 AK:∀t a b v,t<T->w t a b=some v->∃v',v<=v'/\w (t+1) a b=some v'
 told:∀i,0<i->i<n->(∃v,v<=L/\m 0 0 i=some v)/\∃v,v<=0/\m 0 i 0=some v
 uY:∀a b,w 0 a b=none
 sum:∀t a b c v u,t<T->pt t a b->m t a b=some v->m t b c=some u->a≠c->∃x,x<=v+u/\m (t+1) a c=some x
 bar:∀t a b v u,t<T->pt t a b->m t a b=some v->m t b a=some u->0<=v+u
 one:∀t a b a' b',t<T->pt t a b->pt t a' b'->a=a'/\b=b'
 JH:∀t a b a' b',t<T->pw t a b->pw t a' b'->a=a'/\b=b'
 apart:∀t a b a' b',t<T->pt t a b->¬pw t a' b'
 cause:∀t a b,t<T->m (t+1) a b≠m t a b->(∃c v q y,pt t a c/\c≠b/\m t a c=some v/\m t c b=some q/\m (t+1) a b=some y/\v+q<=y)\/(∃c,pt t c b/\c≠a)\/∃e y,pw t a e/\m (t+1) a b=some y/\-most<=y
 aA:∀t a b e v v',t<T->pt t a b->m t a b=some v->t<=e->e<T->pw e a b->w e a b=some v'->1-v<=v'
 qc:∀t a b B,t<T->0<=B->(∀x y v,m (t+1) x y=some v->-B<=v)->w (t+1) a b≠w t a b->∃y,w (t+1) a b=some y/\y<=most+B
 grow:∀t,t<T->len (t+1)<=len t+20
 vE:∀t,t<T->(∀a b,¬pt t a b)->len (t+1)<=len t+8
 vF:∀t,t<T->(∀a b,¬pt t a b)->(∀a b,¬pw t a b)->len (t+1)=len t
 fv:∀t0 t a b v,t<=T->len t0<=t->t0<=t->m t0 a b=some v->m t a b=some v->∃s,s<t/\pt s a b/\m s a b=some v
 drop:∀t t' a b v v',t<t'->t'<T->pt t a b->pt t' a b->m t a b=some v->m t' a b=some v'->v'<v
 uZ:∀t t' a b v v',t<t'->t'<T->pw t a b->pw t' a b->w t a b=some v->w t' a b=some v'->v<v'
 once:∀t t' a b,t<t'->t'<T->pt t a b->pt t' a b->len t<=t'
 nh:∀t t' a b,t<t'->t'<T->pw t a b->pw t' a b->len t<=t'
section
variable {n:Nat} {L most:Int} {T:Nat} {len:Nat->Nat} {m w:Nat->Nat->Nat->Option Int} {pt pw:Nat->Nat->Nat->Prop}
def Kn (m:Nat->Nat->Nat->Option Int) (t a b:Nat) (x:Int):Prop:=∃v,v<=x/\m t a b=some v
theorem Kn.le (h:Kn m t a b x) (hx:x<=y):Kn m t a b y:=by
 obtain ⟨v,h1,h2⟩:=h;exact ⟨v,by lia,h2⟩
theorem Bd.n9 (R:Bd n L most T len m w pt pw) (h:m t a b=some v):∀d,t+d<=T->∃v',v'<=v/\m (t+d) a b=some v'
 | 0,_=>⟨v,Int.le_refl _,h⟩
 | d+1,hd=>by
  obtain ⟨v1,h1,e1⟩:=R.n9 h d (by exact bp hd);obtain ⟨v2,h2,e2⟩:=R.mono _ _ _ _ (by exact hd) e1;exact ⟨v2,by lia,e2⟩
theorem Bd.lg (R:Bd n L most T len m w pt pw) (h:m t a b=some v) (ht:t<=t') (hT:t'<=T):∃v',v'<=v/\m t' a b=some v':=by
 obtain ⟨v',h1,h2⟩:=R.n9 h (t'-t) (by lia);rw [show t+(t'-t)=t' by lia] at h2;exact ⟨v',h1,h2⟩
theorem Bd.kn (R:Bd n L most T len m w pt pw) (h:Kn m t a b x) (ht:t<=t') (hT:t'<=T):Kn m t' a b x:=by
 obtain ⟨v,h1,h2⟩:=h;obtain ⟨v',h3,h4⟩:=R.lg h2 ht hT;exact ⟨v',by lia,h4⟩
theorem Bd.same (R:Bd n L most T len m w pt pw) (h:m t a b=some v) (h':m t' a b=some v) (h1:t<=s) (h2:s<=t') (hT:t'<=T):m s a b=some v:=by
 obtain ⟨v1,l1,e1⟩:=R.lg h h1 (by lia);obtain ⟨v2,l2,e2⟩:=R.lg e1 h2 hT;rw [h'] at e2;cases e2;rw [e1,show v1=v by lia]
def gW (m:Nat->Nat->Nat->Option Int) (t x:Nat):Int:=(m t x 0).getD 0
theorem Bd.cR (R:Bd n L most T len m w pt pw) (hx:0<x) (hn:x<n) (ht:t<=T):m t x 0=some (gW m t x)/\gW m t x<=0:=by
 obtain ⟨v,h1,h2⟩:=(R.told x hx hn).2;obtain ⟨v',h3,h4⟩:=R.lg h2 (d9 t) ht;unfold gW;rw [h4];exact ⟨rfl,by show v'<=0;lia⟩
theorem Bd.d0 (R:Bd n L most T len m w pt pw) (hx:0<x) (hn:x<n) (ht:t<T):gW m (t+1) x<=gW m t x:=by
 obtain ⟨v,h1,h2⟩:=R.mono _ _ _ _ ht (R.cR hx hn (bp ht)).1;have:=(R.cR (t:=t+1) hx hn ht).1;rw [h2] at this;have:=eF this;lia
theorem Bd.nz (R:Bd n L most T len m w pt pw) (hx:0<x) (hn:x<n) (ht:t<=T):Kn m t 0 x L:=by
 obtain ⟨v,h1,h2⟩:=(R.told x hx hn).1;exact R.kn ⟨v,h1,h2⟩ (d9 t) ht
def lV (n:Nat) (L:Int) (m:Nat->Nat->Nat->Option Int) (t x:Nat):Prop:= -L<=gW m t x/\∀z,0<z->z<n->z≠x->Kn m t x z (gW m t x+max L (-gW m t z))
def yw (n:Nat) (m:Nat->Nat->Nat->Option Int) (t x:Nat) (l:List Nat):Prop:=l.Nodup/\x∈l/\(∀z∈l,0<z/\z<n)/\∀z∈l,z≠x->Kn m t x z (gW m t x-gW m t z)
theorem lV.next (R:Bd n L most T len m w pt pw) (hx:0<x) (hn:x<n) (ht:t<T) (h:lV n L m t x) (e:m (t+1) x 0=m t x 0):lV n L m (t+1) x:=by
 have er:gW m (t+1) x=gW m t x:=by unfold gW;rw [e]
 refine ⟨by rw [er];exact h.1,fun z h1 h2 h3=>?_⟩;have hz:=R.d0 h1 h2 ht;rw [er];exact (R.kn (h.2 z h1 h2 h3) (nS t) ht).le (by omega)
theorem yw.next (R:Bd n L most T len m w pt pw) (ht:t<T) (h:yw n m t x l) (e:m (t+1) x 0=m t x 0):yw n m (t+1) x l:=by
 have er:gW m (t+1) x=gW m t x:=by unfold gW;rw [e]
 obtain ⟨h1,h2,h3,h4⟩:=h;refine ⟨h1,h2,h3,fun z hz cW=>?_⟩;have:=R.d0 (h3 z hz).1 (h3 z hz).2 ht;rw [er];exact (R.kn (h4 z hz cW) (nS t) ht).le (by lia)
theorem lV.AL (R:Bd n L most T len m w pt pw) (hx:0<x) (hn:x<n) (h:lV n L m s x):∀d,s+d<=T->m (s+d) x 0=m s x 0->lV n L m (s+d) x
 | 0,_,_=>h
 | d+1,hd,e=>by
  have h1:=(R.cR (t:=s) hx hn (by lia)).1;have h2:m (s+(d+1)) x 0=some (gW m s x):=e.trans h1;have h3:=R.same h1 h2 (s:=s+d) (by lia) (by exact Nat.le.step Nat.le.refl) hd;exact lV.next R (t:=s+d) hx hn (by exact hd) (lV.AL R hx hn h d (by exact bp hd) (h3.trans h1.symm)) (h2.trans h3.symm)
theorem Bd.looked (R:Bd n L most T len m w pt pw) (hs:s<T) (h:pt s x 0) (hx:0<x) (hn:x<n) (e:m (s+1) x 0=m s x 0):lV n L m (s+1) x:=by
 obtain ⟨h1,_⟩:=R.cR (t:=s) hx hn (bp hs);have er:gW m (s+1) x=gW m s x:=by unfold gW;rw [e]
 obtain ⟨p,i6,jg⟩:=R.nz hx hn (bp hs);have hb:=R.bar _ _ _ _ _ hs h h1 jg;refine ⟨by rw [er];lia,fun z z1 z2 z3=>?_⟩;obtain ⟨q,Fb,xD⟩:=R.nz z1 z2 (bp hs);obtain ⟨y,hy,ey⟩:=R.sum _ _ _ _ _ _ hs h h1 xD (aD z3);refine ⟨y,?_,ey⟩;rw [er];lia
theorem Bd.wJ (R:Bd n L most T len m w pt pw) (hx:0<x) (hn:x<n) (ht:t<=T) (h0:len t0<=t) (h1:t0<=t) (e:m t x 0=m t0 x 0):lV n L m t x:=by
 have hr:=(R.cR (t:=t) hx hn ht).1;obtain ⟨s,hs,hp,hv⟩:=R.fv t0 t x 0 _ ht h0 h1 (e.symm.trans hr) hr;have e1:=R.same hv hr (s:=s+1) (by exact Nat.le.step Nat.le.refl) (by exact hs) ht;have hf:=R.looked (by lia) hp hx hn (e1.trans hv.symm);have:=lV.AL R hx hn hf (t-(s+1)) (by lia);rw [show s+1+(t-(s+1))=t by omega] at this;exact this (hr.trans e1.symm)
theorem Bd.over (R:Bd n L most T len m w pt pw) (ht:t<T) (hx:0<x) (hn:x<n) (hc:c≠0) (hp:pt t x c) (hv:m t x c=some v) (hq:m t c 0=some q) (hy:m (t+1) x 0=some y) (hle:v+q<=y) (cW:m (t+1) x 0≠m t x 0):
 c<n/\c≠x/\gW m t c=q/\gW m (t+1) x=v+q/\gW m (t+1) x<gW m t x/\gW m (t+1) c<=q:=by
 obtain ⟨l1,l2,l3⟩:=R.lt _ _ _ _ (bp ht) hv;have iW:=(R.cR (t:=t) (x:=c) (by lia) l2 (bp ht)).1;rw [hq] at iW;have eq:=eF iW;obtain ⟨z,hz,ez⟩:=R.sum _ _ _ _ _ _ ht hp hv hq (show x≠0 by exact Nat.ne_of_gt hx);rw [hy] at ez;have ez:=eF ez;have RO:=(R.cR (t:=t+1) hx hn ht).1;rw [hy] at RO;have ey:=eF RO;have lO:=(R.cR (t:=t) hx hn (bp ht)).1;have hmn:=R.d0 hx hn ht;have Fs:=R.d0 (x:=c) (by lia) l2 ht;refine ⟨l2,aD l3,eq.symm,by lia,?_,by lia⟩;have:gW m (t+1) x≠gW m t x:=fun z=>cW (by rw [lO,hy,<-z,ey]);lia
theorem Bd.qj (R:Bd n L most T len m w pt pw) (ht:t<T) (hx:0<x) (hn:x<n) (hc:c≠0) (hp:pt t x c) (hv:m t x c=some v) (hq:m t c 0=some q) (hy:m (t+1) x 0=some y) (hle:v+q<=y) (cW:m (t+1) x 0≠m t x 0) (h:lV n L m t c):lV n L m (t+1) x:=by
 obtain ⟨Fs,Lg,eq,er,bb,xS⟩:=R.over ht hx hn hc hp hv hq hy hle cW;obtain ⟨f1,f2⟩:=h;have L0:=R.L0;obtain ⟨u,hu,eu⟩:=f2 x hx hn (aD Lg);have hb:=R.bar _ _ _ _ _ ht hp hv eu;rw [eq] at hu;refine ⟨by lia,fun z h1 h2 h3=>?_⟩;have hz:=R.d0 h1 h2 ht
 by_cases e:z=c
 ·subst e;obtain ⟨v',fg,LJ⟩:=R.mono _ _ _ _ ht hv;exact ⟨v',by omega,LJ⟩
 ·obtain ⟨u',kE,LK⟩:=f2 z h1 h2 e;obtain ⟨x',lO,F9⟩:=R.sum _ _ _ _ _ _ ht hp hv LK (aD h3);rw [eq] at kE;exact ⟨x',by omega,F9⟩
theorem Bd.oz (R:Bd n L most T len m w pt pw) (ht:t<T) (hx:0<x) (hn:x<n) (hc:c≠0) (hp:pt t x c) (hv:m t x c=some v) (hq:m t c 0=some q) (hy:m (t+1) x 0=some y) (hle:v+q<=y) (cW:m (t+1) x 0≠m t x 0) (h:yw n m t c l):yw n m (t+1) x (x::l):=by
 obtain ⟨Fs,Lg,eq,er,bb,xS⟩:=R.over ht hx hn hc hp hv hq hy hle cW;obtain ⟨g1,g2,g3,g4⟩:=h;have hxl:x∉l:=fun z=>by
  obtain ⟨u,hu,eu⟩:=g4 x z (aD Lg);have hb:=R.bar _ _ _ _ _ ht hp hv eu;rw [eq] at hu;lia
 refine ⟨List.nodup_cons.mpr ⟨hxl,g1⟩,eG,fun z hz=>?_,fun z hz qL=>?_⟩
 ·rcases eV.mp hz with rfl | hz
  ·exact ⟨hx,hn⟩
  ·exact g3 z hz
 ·rcases eV.mp hz with e | hz
  ·exact absurd e qL
  ·have hzr:=R.d0 (g3 z hz).1 (g3 z hz).2 ht
   by_cases e:z=c
   ·subst e;obtain ⟨v',fg,LJ⟩:=R.mono _ _ _ _ ht hv;exact ⟨v',by lia,LJ⟩
   ·obtain ⟨u',kE,LK⟩:=g4 z hz e;obtain ⟨x',lO,F9⟩:=R.sum _ _ _ _ _ _ ht hp hv LK (aD qL);rw [eq] at kE;exact ⟨x',by lia,F9⟩
def gen (len:Nat->Nat):Nat->Nat
 | 0=>0
 | g+1=>len (gen len g)
def vQ (n:Nat) (most:Int) (m:Nat->Nat->Nat->Option Int) (pt:Nat->Nat->Nat->Prop) (t:Nat):Prop:=(∃c,pt t c 0)\/∃x y,0<x/\x<n/\m (t+1) x 0=some y/\m (t+1) x 0≠m t x 0/\-most<=y
def vL (n:Nat) (L:Int) (m:Nat->Nat->Nat->Option Int) (k t0 t:Nat):Prop:=∀x,0<x->x<n->lV n L m t x\/∃l,yw n m t x l/\(k+1<=l.length\/(k<=l.length/\m t x 0=m t0 x 0))
theorem Bd.oP (R:Bd n L most T len m w pt pw) (ht:t<T) (hs:¬vQ n most m pt t) (h:vL n L m k t0 t):vL n L m k t0 (t+1):=fun x hx hn=>by
 by_cases e:m (t+1) x 0=m t x 0
 ·rcases h x hx hn with f | ⟨l,c,hl⟩
  ·exact .inl (f.next R hx hn ht e)
  ·refine .inr ⟨l,c.next R ht e,?_⟩;rcases hl with hl | ⟨hl,e0⟩
   ·exact .inl hl
   ·exact .inr ⟨hl,e.trans e0⟩
 ·rcases R.cause t x 0 ht e with ⟨c,v,q,y,hp,hc,hv,hq,hy,hle⟩ | ⟨c,hp,_⟩ | ⟨e',y,_,hy,ur⟩
  ·obtain ⟨Fs,_⟩:=R.over ht hx hn hc hp hv hq hy hle e;rcases h c (by lia) Fs with f | ⟨l,ch,hl⟩
   ·exact .inl (R.qj ht hx hn hc hp hv hq hy hle e f)
   ·refine .inr ⟨x::l,R.oz ht hx hn hc hp hv hq hy hle e ch,.inl ?_⟩;rw [kI];rcases hl with hl | ⟨hl,_⟩<;>lia
  ·exact absurd (.inl ⟨c,hp⟩) hs
  ·exact absurd (.inr ⟨x,y,hx,hn,hy,e,ur⟩) hs
theorem Bd.lA (R:Bd n L most T len m w pt pw) (hs:∀t,t0<=t->t<len t0->¬vQ n most m pt t) (h:vL n L m k t0 t0):∀d,t0+d<=T->t0+d<=len t0->vL n L m k t0 (t0+d)
 | 0,_,_=>h
 | d+1,h1,h2=>R.oP (t:=t0+d) (by exact h1) (hs (t0+d) (by lia) (by exact h2)) (R.lA hs h d (by exact bp h1) (by exact bp h2))
theorem Bd.oQ (R:Bd n L most T len m w pt pw) (h0:t0<=len t0) (hT:len t0<=T) (hs:∀t,t0<=t->t<len t0->¬vQ n most m pt t) (h:vL n L m k t0 t0):vL n L m (k+1) (len t0) (len t0):=fun x hx hn=>by
 have:=R.lA hs h (len t0-t0) (by lia) (by lia);rw [show t0+(len t0-t0)=len t0 by lia] at this;rcases this x hx hn with f | ⟨l,c,hl⟩
 ·exact .inl f
 ·rcases hl with hl | ⟨hl,e⟩
  ·exact .inr ⟨l,c,.inr ⟨hl,rfl⟩⟩
  ·exact .inl (R.wJ hx hn hT (az _) h0 e)
theorem Bd.j_ (R:Bd n L most T len m w pt pw) (h:gen len g<=T) (h2:gen len (g+1)<=T):gen len g<=gen len (g+1):=by
 by_cases c:gen len g=T
 ·rw [c];show T<=len (gen len g);rw [c];have:gen len (g+1)=len T:=by show len (gen len g)=_;rw [c]
  by_cases z:T=0
  ·lia
  ·have h3:=R.go (T-1) (by lia);have h4:=R.xp (T-1) (by lia);rw [show T-1+1=T by lia] at h4;omega
 ·exact bp (R.go _ (by lia))
theorem Bd.lB (R:Bd n L most T len m w pt pw):∀k,gen len (g+k)<=T->(∀i,i<=k->gen len (g+i)<=T)->(∀t,gen len g<=t->t<gen len (g+k)->¬vQ n most m pt t)->(∀i,i<=k->gen len g<=gen len (g+i))->(∀i,i<k->gen len (g+i)<=gen len (g+k))->vL n L m (k+1) (gen len (g+k)) (gen len (g+k))
 | 0,_,_,_,_,_=>fun x hx hn=>.inr ⟨[x],⟨List.nodup_cons.mpr ⟨by simp,List.nodup_nil⟩,eG,fun z hz=>by rw [iK.mp hz];exact ⟨hx,hn⟩,fun z hz cW=>absurd (iK.mp hz) cW⟩,.inr ⟨az _,rfl⟩⟩
 | k+1,hT,hle,hs,hm,hu=>by
  have h1:gen len (g+k)<=gen len (g+(k+1)):=hu k (by exact Nat.le.refl);have ih:=R.lB (g:=g) k (hle k (by exact Nat.le.step Nat.le.refl)) (fun i hi=>hle i (by exact Nat.le.step hi)) (fun t a b=>hs t a (by lia)) (fun i hi=>hm i (by exact Nat.le.step hi)) (fun i hi=>by
   have h2:∀j,j<=k-i->gen len (g+i)<=gen len (g+(i+j)):=fun j=>by
    induction j with
    | zero=>intro _;exact az _
    | succ j ih=>
     intro hj;exact eE (ih (by exact bp hj)) (R.j_ (g:=g+(i+j)) (hle (i+j) (by lia)) (hle (i+j+1) (by lia)))
   have:=h2 (k-i) (az _)
   rwa [show i+(k-i)=k by lia] at this)
  exact R.oQ (t0:=gen len (g+k)) h1 hT (fun t a b=>hs t (by have:=hm k (by exact Nat.le.step Nat.le.refl);lia) b) ih
end
end MH
set_option maxRecDepth 4000
namespace MH
theorem wj {P:Nat->Prop} (Rl:Nat->Nat->Prop) (h:∀i,i<N->P i->∃c,c<M/\Rl i c) (hi:∀i j c,i<j->j<N->P i->P j->Rl i c->Rl j c->False):cnt P N<=M:=by
 classical
 refine ZD (fun i=>if z:∃c,c<M/\Rl i c then Classical.choose z else 0) (fun i hN hP=>?_) (fun i j fi hN hP Sz e=>?_)
 ·have z:=h i hN hP;show (if z:∃c,c<M/\Rl i c then Classical.choose z else 0)<M;rw [dif_pos z];exact (Classical.choose_spec z).1
 ·have z1:=h i (by lia) hP;have z2:=h j hN Sz;have e:(if z:∃c,c<M/\Rl i c then Classical.choose z else 0)=(if z:∃c,c<M/\Rl j c then Classical.choose z else 0):=e;rw [dif_pos z1,dif_pos z2] at e;have h1:=(Classical.choose_spec z1).2;have h2:=(Classical.choose_spec z2).2;rw [<-e] at h2;exact hi i j _ fi hN hP Sz h1 h2
theorem Nc {P:Nat->Prop}:∀{N:Nat},(∀i,i<N->P i)->cnt P N=N
 | 0,_=>rfl
 | N+1,h=>by rw [pd (h N (by exact Nat.le.refl)),Nc fun i hi=>h i (by exact Nat.le.step hi)]
theorem dec {k a r a' r':Nat} (hr:r<k) (aJ:r'<k) (h:a*k+r=a'*k+r'):a=a'/\r=r':=by
 have hk:0<k:=by lia
 have e1:(a*k+r) / k=a:=by rw [Nat.add_comm,Nat.add_mul_div_right _ _ hk,Nat.div_eq_of_lt hr,Nat.zero_add]
 have e2:(a'*k+r') / k=a':=by rw [Nat.add_comm,Nat.add_mul_div_right _ _ hk,Nat.div_eq_of_lt aJ,Nat.zero_add]
 rw [h,e2] at e1;subst e1;exact ⟨rfl,by lia⟩
theorem enc {k a r N:Nat} (ha:a<N) (hr:r<k):a*k+r<N*k:=by
 have h1:(a+1)*k<=N*k:=Nat.mul_le_mul_right _ ha;rw [Nat.add_mul,Nat.one_mul] at h1;lia
def kc (a b:Nat):Nat:=a*7+if b<a then b else b-1
def N8 (a b:Nat):Prop:=a<8/\b<8/\a≠b
theorem oX (h:N8 a b):kc a b<56:=by
 obtain ⟨h1,h2,h3⟩:=h;unfold kc;split<;>lia
theorem uF {a b a' b':Nat} (h:N8 a b) (h':N8 a' b') (e:kc a b=kc a' b'):a=a'/\b=b':=by
 obtain ⟨h1,h2,h3⟩:=h;obtain ⟨h4,h5,h6⟩:=h';unfold kc at e;obtain ⟨e1,e2⟩:=dec (show (if b<a then b else b-1)<7 by split<;>omega) (show (if b'<a' then b' else b'-1)<7 by split<;>omega) e;subst e1;refine ⟨rfl,?_⟩;split at e2<;>split at e2<;>lia
section
variable {n l mo T:Nat} {len:Nat->Nat} {m w:Nat->Nat->Nat->Option Int} {pt pw:Nat->Nat->Nat->Prop}
theorem Bd.m8 (R:Bd n L most T len m w pt pw):∀d,t0+d<=T->len (t0+d)<=len t0+20*cnt (fun i=>∃a b,pt (t0+i) a b) d+8*cnt (fun i=>∃a b,pw (t0+i) a b) d
 | 0,_=>by show len t0<=_;exact Nat.le.refl
 | d+1,h=>by
  have ih:=R.m8 (t0:=t0) d (by exact bp h);have hT:t0+d<T:=by exact h
  show len (t0+d+1)<=_
  by_cases c:∃a b,pt (t0+d) a b
  ·rw [pd c];have h1:=R.grow (t0+d) hT;have h2:cnt (fun i=>∃a b,pw (t0+i) a b) d<=cnt (fun i=>∃a b,pw (t0+i) a b) (d+1):=by
    by_cases z:∃a b,pw (t0+d) a b
    ·rw [pd z];exact Nat.le.step Nat.le.refl
    ·rw [sU z];exact Nat.le.refl
   lia
  ·rw [sU c];have c':∀a b,¬pt (t0+d) a b:=fun a b z=>c ⟨a,b,z⟩
   by_cases z:∃a b,pw (t0+d) a b
   ·rw [pd z];have:=R.vE (t0+d) hT c';lia
   ·rw [sU z];have:=R.vF (t0+d) hT c' fun a b q=>z ⟨a,b,q⟩;lia
theorem Bd.qB (R:Bd n L most T len m w pt pw):∀d,t+d<=T->len t<=len (t+d)
 | 0,_=>az _
 | d+1,h=>eE (R.qB d (by exact bp h)) (R.xp (t+d) (by exact h))
theorem Bd.eQ (R:Bd n L most T len m w pt pw) (h:t<=t') (hT:t'<=T):len t<=len t':=by
 have:=R.qB (t:=t) (t'-t) (by lia)
 rwa [show t+(t'-t)=t' by lia] at this
theorem Bd.n6 (R:Bd n L most T len m w pt pw) (hT:t0+d<=T) (hl:t0+d<=len t0):len (t0+d)<=len t0+1568:=by
 have h:=R.m8 d hT;have h8:=R.n8;have c1:cnt (fun i=>∃a b,pt (t0+i) a b) d<=56:=by
  refine wj (fun i c=>∃a b,pt (t0+i) a b/\N8 a b/\c=kc a b) (fun i hi hP=>?_) (fun i j c fi hj _ _ h1 h2=>?_)
  ·obtain ⟨a,b,hp⟩:=hP;obtain ⟨v,hv⟩:=R.known _ _ _ (show t0+i<T by lia) hp;obtain ⟨l1,l2,l3⟩:=R.lt _ _ _ _ (show t0+i<=T by lia) hv;have q:N8 a b:=⟨by lia,by lia,l3⟩;exact ⟨_,oX q,a,b,hp,q,rfl⟩
  ·obtain ⟨a,b,hp,hb,e1⟩:=h1;obtain ⟨a',b',gF,dQ,e2⟩:=h2;obtain ⟨rfl,rfl⟩:=uF hb dQ (e1.symm.trans e2);have:=R.once _ _ _ _ (show t0+i<t0+j by lia) (by lia) hp gF;have:=R.eQ (show t0<=t0+i by lia) (by lia);lia
 have c2:cnt (fun i=>∃a b,pw (t0+i) a b) d<=56:=by
  refine wj (fun i c=>∃a b,pw (t0+i) a b/\N8 a b/\c=kc a b) (fun i hi hP=>?_) (fun i j c fi hj _ _ h1 h2=>?_)
  ·obtain ⟨a,b,hp⟩:=hP;obtain ⟨l1,l2,l3,_⟩:=R.iT _ _ _ (show t0+i<T by lia) hp;have q:N8 a b:=⟨by lia,by lia,l3⟩;exact ⟨_,oX q,a,b,hp,q,rfl⟩
  ·obtain ⟨a,b,hp,hb,e1⟩:=h1;obtain ⟨a',b',gF,dQ,e2⟩:=h2;obtain ⟨rfl,rfl⟩:=uF hb dQ (e1.symm.trans e2);have:=R.nh _ _ _ _ (show t0+i<t0+j by lia) (by lia) hp gF;have:=R.eQ (show t0<=t0+i by lia) (by lia);lia
 lia
theorem Bd.gens (R:Bd n L most T len m w pt pw):∀N,((∀i,i<=N->gen len i<=T)/\len (gen len N)<=len 0+1568*N)\/len T<=len 0+1568*N
 | 0=>.inl ⟨fun i hi=>by rw [show i=0 by lia];exact d9 _,az _⟩
 | N+1=>by
  rcases R.gens N with ⟨h,hl⟩ | h
  ·have h0:=h N (az _)
   by_cases c:gen len (N+1)<=T
   ·refine .inl ⟨fun i hi=>?_,?_⟩
    ·by_cases e:i=N+1
     ·rw [e];exact c
     ·exact h i (by lia)
    ·have h1:=R.j_ h0 c;have:=R.n6 (t0:=gen len N) (d:=gen len (N+1)-gen len N) (by lia) (by show _<=gen len (N+1);lia);rw [show gen len N+(gen len (N+1)-gen len N)=gen len (N+1) by lia] at this;rw [Nat.mul_succ,<-Nat.add_assoc];exact eE this (Nat.add_le_add_right hl _)
   ·right;have:=R.n6 (t0:=gen len N) (d:=T-gen len N) (by lia) (by show _<=gen len (N+1);lia);rw [show gen len N+(T-gen len N)=T by lia] at this;rw [Nat.mul_succ,<-Nat.add_assoc];exact eE this (Nat.add_le_add_right hl _)
  ·right;rw [Nat.mul_succ,<-Nat.add_assoc];exact eE h (Nat.le_add_right _ _)
theorem Bd.cI (R:Bd n L most T len m w pt pw) (h:∀i,i<=N->gen len i<=T):∀j,i+j<=N->gen len i<=gen len (i+j)
 | 0,_=>az _
 | j+1,hj=>eE (R.cI h j (by exact bp hj)) (R.j_ (g:=i+j) (h (i+j) (by exact bp hj)) (h (i+j+1) (by omega)))
theorem Bd.narrow (R:Bd n (l:Int) (mo:Int) T len m w pt pw) (hg:∀i,i<=g+7->gen len i<=T) (hs:∀t,gen len g<=t->t<gen len (g+7)->¬vQ n (mo:Int) m pt t):∀a b,a<n->b<n->a≠b->Kn m (gen len (g+7)) a b (l:Int):=by
 have hT:=hg (g+7) (az _);have c:=R.lB (g:=g) 7 hT (fun i hi=>hg _ (by lia)) hs (fun i hi=>R.cI hg i (by lia)) (fun i hi=>by
  have:=R.cI hg (i:=g+i) (7-i) (by lia)
  rwa [show g+i+(7-i)=g+7 by lia] at this)
 have h8:=R.n8;have BX:∀x,0<x->x<n->lV n (l:Int) m (gen len (g+7)) x:=fun x hx hn=>by
  rcases c x hx hn with f | ⟨ls,⟨c1,c2,c3,_⟩,hl⟩
  ·exact f
  ·exfalso;have:=yM 8 (0::ls) (List.nodup_cons.mpr ⟨fun z=>by have:=(c3 0 z).1;exact False.elim (jC 0 this),c1⟩) (fun z hz=>by
    rcases eV.mp hz with e | hz
    ·lia
    ·have:=(c3 z hz).2;lia)
   rw [kI] at this;lia
 intro a b ha hb lR
 by_cases e:a=0
 ·subst e;exact R.nz (by lia) hb hT
 ·by_cases e':b=0
  ·subst e';obtain ⟨h1,h2⟩:=R.cR (t:=gen len (g+7)) (by lia) ha hT;exact ⟨_,by lia,h1⟩
  ·have h1:=(BX a (by lia) ha).2 b (by lia) hb (aD lR);have h2:=(BX b (by lia) hb).1;have h3:=(R.cR (t:=gen len (g+7)) (x:=a) (by lia) ha hT).2;exact h1.le (by lia)
theorem Bd.quiet (R:Bd n (l:Int) (mo:Int) T len m w pt pw) {N:Nat} (hN:N=7*(l+1)+7*(mo+1)+1) (hg:∀i,i<=7*N->gen len i<=T):∃b,b<N/\∀t,gen len (7*b)<=t->t<gen len (7*b+7)->¬vQ n (mo:Int) m pt t:=by
 refine fj fun hn=>?_;have hs:∀b,b<N->∃t,gen len (7*b)<=t/\t<gen len (7*b+7)/\vQ n (mo:Int) m pt t:=fun b hb=>by
  refine fj fun h=>hn ⟨b,hb,fun t h1 h2 h3=>h ⟨t,h1,h2,h3⟩⟩
 have h8:=R.n8;have tT:∀{b t},b<N->t<gen len (7*b+7)->t<T:=fun {b t} hb ht=>by
  have:=hg (7*b+7) (by lia);lia
 have key:=wj (P:=fun _=>True) (N:=N) (M:=7*(l+1)+7*(mo+1)) (fun b c=>∃t,gen len (7*b)<=t/\t<gen len (7*b+7)/\((∃x r,pt t (x+1) 0/\x<7/\r<l+1/\m t (x+1) 0=some (-(r:Int))/\c=x*(l+1)+r)\/
  ∃x r,x<7/\r<mo+1/\m (t+1) (x+1) 0=some (-(r:Int))/\m (t+1) (x+1) 0≠m t (x+1) 0/\c=7*(l+1)+(x*(mo+1)+r))) (fun b hb _=>by
  obtain ⟨t,h1,h2,h3⟩:=hs b hb;have ht:=tT hb h2;rcases h3 with ⟨x,hp⟩ | ⟨x,y,hx,hxn,hy,cW,ur⟩
  ·obtain ⟨v,hv⟩:=R.known _ _ _ ht hp;obtain ⟨l1,_,l3⟩:=R.lt _ _ _ _ (bp ht) hv;obtain ⟨e1,e2⟩:=R.cR (t:=t) (x:=x) (by lia) l1 (bp ht);rw [hv] at e1;have e1:=eF e1;obtain ⟨p,i6,jg⟩:=R.nz (t:=t) (x:=x) (by lia) l1 (bp ht);have hb:=R.bar _ _ _ _ _ ht hp hv jg;have hr:(-v).toNat<l+1:=by lia
   obtain ⟨x,rfl⟩:∃z,x=z+1:=⟨x-1,by lia⟩;exact ⟨x*(l+1)+(-v).toNat,by have:=enc (a:=x) (N:=7) (show x<7 by lia) hr;lia,t,h1,h2,.inl ⟨x,(-v).toNat,hp,by lia,hr,by rw [hv];congr 1;lia,rfl⟩⟩
  ·obtain ⟨e1,e2⟩:=R.cR (t:=t+1) hx hxn (show t+1<=T by exact ht);rw [hy] at e1;have e1:=eF e1;have hr:(-y).toNat<mo+1:=by lia
   obtain ⟨x,rfl⟩:∃z,x=z+1:=⟨x-1,by lia⟩;exact ⟨7*(l+1)+(x*(mo+1)+(-y).toNat),by have:=enc (a:=x) (N:=7) (show x<7 by lia) hr;lia,t,h1,h2,.inr ⟨x,(-y).toNat,by lia,hr,by rw [hy];congr 1;lia,cW,rfl⟩⟩)
  (fun b b' c zC dQ _ _ h1 h2=>by
   obtain ⟨t,t1,t2,h1⟩:=h1;obtain ⟨t',Z_,Ra,h2⟩:=h2;have lP:t<t':=by
    have:=R.cI hg (i:=7*b+7) (7*b'-(7*b+7)) (by omega);rw [show 7*b+7+(7*b'-(7*b+7))=7*b' by omega] at this;lia
   have Su:=tT dQ Ra;rcases h1 with ⟨x,r,hp,hx,hr,hv,e1⟩ | ⟨x,r,hx,hr,hv,cW,e1⟩
   ·rcases h2 with ⟨x',r',gF,lO,aJ,fg,e2⟩ | ⟨x',r',lO,aJ,fg,qL,e2⟩
    ·obtain ⟨rfl,rfl⟩:=dec hr aJ (e1.symm.trans e2);have:=R.drop _ _ _ _ _ _ lP Su hp gF hv fg;lia
    ·have:=enc (a:=x) (N:=7) hx hr;lia
   ·rcases h2 with ⟨x',r',gF,lO,aJ,fg,e2⟩ | ⟨x',r',lO,aJ,fg,qL,e2⟩
    ·have:=enc (a:=x') (N:=7) lO aJ;lia
    ·obtain ⟨rfl,rfl⟩:=dec hr aJ (show x*(mo+1)+r=x'*(mo+1)+r' by lia);have:=R.same hv fg (s:=t') (by exact lP) (by exact Nat.le.step Nat.le.refl) (by exact Su);exact qL (fg.trans this.symm))
 rw [Nc fun i _=>trivial] at key;lia
end
section
variable {n l mo T:Nat} {len:Nat->Nat} {m w:Nat->Nat->Nat->Option Int} {pt pw:Nat->Nat->Nat->Prop}
theorem Bd.xY (R:Bd n L most T len m w pt pw) (ht:t<T):∃g,(∀i,i<=g->gen len i<=t)/\t<gen len (g+1):=by
 have key:∀N,(∀i,i<=N->gen len i<=t/\i<=gen len i)\/∃g,(∀i,i<=g->gen len i<=t)/\t<gen len (g+1):=by
  intro N
  induction N with
  | zero=>exact .inl fun i hi=>by rw [show i=0 by lia];exact ⟨d9 _,d9 _⟩
  | succ N ih=>
   rcases ih with h | h
   ·by_cases c:gen len (N+1)<=t
    ·refine .inl fun i hi=>?_
     by_cases e:i=N+1
     ·rw [e];have h1:=h N (az _);have h2:gen len N<gen len (N+1):=R.go (gen len N) (by lia);exact ⟨c,by lia⟩
     ·exact h i (by lia)
    ·exact .inr ⟨N,fun i hi=>(h i hi).1,by lia⟩
   ·exact .inr h
 rcases key (t+1) with h | h
 ·have:=h (t+1) (az _);omega
 ·exact h
theorem Bd.m9 (R:Bd n L most T len m w pt pw) (h:∀i,i<=g'->gen len i<=t) (ht:t<=T) (hg:g<=g'):gen len g<=gen len g':=by
 have:=R.cI (N:=g') (fun i hi=>eE (h i hi) ht) (i:=g) (g'-g) (by lia)
 rwa [show g+(g'-g)=g' by lia] at this
theorem Bd.kS (R:Bd n L most T len m w pt pw) (hB:0<=B) (hT:t<=T) (h:∀x y v,m t x y=some v->-B<=v):∀s,s<=t->∀a b v,w s a b=some v->v<=most+B
 | 0,_,a,b,v,e=>by rw [R.uY] at e;cases e
 | s+1,hs,a,b,v,e=>by
  by_cases c:w (s+1) a b=w s a b
  ·exact R.kS hB hT h s (by exact bp hs) a b v (c▸e)
  ·obtain ⟨y,h1,h2⟩:=R.qc s a b B (by lia) hB (fun x y v' e'=>by
    obtain ⟨v2,l2,e2⟩:=R.lg e' hs hT;have:=h x y v2 e2;lia) c
   rw [e] at h1;cases h1;exact h2
theorem Bd.AU (R:Bd n (l:Int) (mo:Int) T len m w pt pw) (hg:∀i,i<=g+1->gen len i<=T) (hk:∀a b,a<n->b<n->a≠b->Kn m (gen len g) a b (l:Int))
 (hq:∀τ,gen len g<=τ->τ<gen len (g+1)->(∀a b,¬pt τ a b)/\∀a b,m (τ+1) a b=m τ a b) (h1:gen len g<=t) (h2:t<gen len (g+1)) (hp:pw t a b) (hv:w t a b=some v):1-(l:Int)<=v/\v<=(mo:Int)+l:=by
 have hT:=hg (g+1) (az _);have Fj:=R.j_ (hg g (by exact Nat.le.step Nat.le.refl)) hT;have same:∀x y d,gen len g+d<=gen len (g+1)->m (gen len g+d) x y=m (gen len g) x y:=fun x y d=>by
  induction d with
  | zero=>intro _;rfl
  | succ d ih=>exact fun hd=>((hq (gen len g+d) (by lia) (by exact hd)).2 x y).trans (ih (by exact bp hd))
 have qO:∀x y,m (gen len (g+1)) x y=m (gen len g) x y:=fun x y=>by
  have:=same x y (gen len (g+1)-gen len g) (by lia)
  rwa [show gen len g+(gen len (g+1)-gen len g)=gen len (g+1) by lia] at this
 have seen:∀x y q,m (gen len (g+1)) x y=some q->∃s,s<gen len g/\pt s x y/\m s x y=some q:=fun x y q iW=>by
  obtain ⟨s,hs,hp,hv⟩:=R.fv (gen len g) (gen len (g+1)) x y q hT (az _) Fj ((qO x y).symm.trans iW) iW;refine ⟨s,?_,hp,hv⟩;refine fj fun c=>?_;exact (hq s (by exact mH c) hs).1 x y hp
 have kn:∀x y,x<n->y<n->x≠y->Kn m (gen len (g+1)) x y (l:Int):=fun x y hx hy px=>R.kn (hk x y hx hy px) Fj hT;have low:∀x y q,m (gen len (g+1)) x y=some q->-(l:Int)<=q:=fun x y q iW=>by
  obtain ⟨x1,x2,x3⟩:=R.lt _ _ _ _ hT iW;obtain ⟨q',Fh,e'⟩:=kn y x x2 x1 (aD x3);obtain ⟨s,hs,ps,vs⟩:=seen x y q iW;obtain ⟨s',vv,ff,QW⟩:=seen y x q' e';have gT:=hg g (by exact Nat.le.step Nat.le.refl);rcases Nat.lt_trichotomy s s' with c | c | c
  ·have:=R.same vs iW (s:=s') (by exact bp c) (by lia) hT;have:=R.bar _ _ _ _ _ (by lia) ff QW this;lia
  ·subst c;have:=(R.one _ _ _ _ _ (by lia) ps ff).1;exact False.elim (x3 this)
  ·have:=R.same QW e' (s:=s) (by exact bp c) (by lia) hT;have:=R.bar _ _ _ _ _ (by lia) ps vs this;lia
 refine ⟨?_,R.kS (Int.natCast_nonneg l) hT (fun x y v e=>low x y v e) t (by exact bp h2) a b v hv⟩;obtain ⟨p1,p2,p3,_⟩:=R.iT _ _ _ (by lia) hp;obtain ⟨q,Fh,e'⟩:=kn a b p1 p2 p3;obtain ⟨s,hs,ps,vs⟩:=seen a b q e';have:=R.aA _ _ _ _ _ _ (by lia) ps vs (show s<=t by lia) (by lia) hp hv;lia
theorem Bd.after (R:Bd n (l:Int) (mo:Int) T len m w pt pw) (Si:∀i,i<=g1->gen len i<=T) (hk:∀a b,a<n->b<n->a≠b->Kn m (gen len g1) a b (l:Int)):
 len T<=len (gen len g1)+20*(56*(2*l+1))+8*((56*(2*l+1)+56*(mo+l+1))*56+(56*(mo+2*l+1)+56)):=by
 have h1:=Si g1 (az _);have h8:=R.n8;have g:=R.m8 (t0:=gen len g1) (T-gen len g1) (by lia);rw [show gen len g1+(T-gen len g1)=T by lia] at g;have kn:∀t x y,gen len g1<=t->t<=T->x<n->y<n->x≠y->Kn m t x y (l:Int):=fun t x y ht hT hx hy px=>R.kn (hk x y hx hy px) ht hT;have tie:∀t a b,gen len g1<=t->t<T->pt t a b->∃r,a<8/\N8 a b/\r<2*l+1/\m t a b=some ((r:Int)-l):=fun t a b h h' hp=>by
  obtain ⟨v,hv⟩:=R.known _ _ _ h' hp;obtain ⟨l1,l2,l3⟩:=R.lt _ _ _ _ (bp h') hv;obtain ⟨v1,hle,e1⟩:=kn t a b h (bp h') l1 l2 l3;rw [hv] at e1;cases e1;obtain ⟨u,hu,eu⟩:=kn t b a h (bp h') l2 l1 (aD l3);have:=R.bar _ _ _ _ _ h' hp hv eu;exact ⟨(v+l).toNat,by lia,⟨by lia,by lia,l3⟩,by lia,by rw [hv];congr 1;lia⟩
 have c1:cnt (fun i=>∃a b,pt (gen len g1+i) a b) (T-gen len g1)<=56*(2*l+1):=by
  refine wj (fun i c=>∃a b r,pt (gen len g1+i) a b/\a<8/\N8 a b/\r<2*l+1/\m (gen len g1+i) a b=some ((r:Int)-l)/\c=kc a b*(2*l+1)+r) (fun i hi hP=>?_) (fun i j c fi hj _ _ z1 z2=>?_)
  ·obtain ⟨a,b,hp⟩:=hP;obtain ⟨r,x1,x2,x3,x4⟩:=tie _ a b (Nat.le_add_right _ _) (by lia) hp;exact ⟨_,enc (oX x2) x3,a,b,r,hp,x1,x2,x3,x4,rfl⟩
  ·obtain ⟨a,b,r,hp,x1,x2,x3,x4,e1⟩:=z1;obtain ⟨a',b',r',gF,y1,y2,y3,y4,e2⟩:=z2;obtain ⟨ek,rfl⟩:=dec x3 y3 (e1.symm.trans e2);obtain ⟨rfl,rfl⟩:=uF x2 y2 ek;have:=R.drop _ _ _ _ _ _ (show gen len g1+i<gen len g1+j by lia) (by omega) hp gF x4 y4;lia
 have c2:cnt (fun i=>∃a b,pw (gen len g1+i) a b) (T-gen len g1)<=(56*(2*l+1)+56*(mo+l+1))*56+(56*(mo+2*l+1)+56):=by
  let Ga:Nat->Nat->Prop:=fun t g=>(∀i,i<=g->gen len i<=t)/\t<gen len (g+1)/\gen len (g+1)<=T
  let St:Nat->Prop:=fun τ=>(∃a b,pt τ a b)\/∃a b,m (τ+1) a b≠m τ a b
  have up:∀{t g},gen len g1<=t->t<T->(∀i,i<=g->gen len i<=t)->t<gen len (g+1)->g1<=g:=fun {t g} h h' z1 z2=>by
   refine fj fun c=>?_;have:=R.cI Si (i:=g+1) (g1-(g+1)) (by lia);rw [show g+1+(g1-(g+1))=g1 by omega] at this;lia
  have s1:=GG (P:=fun i=>∃a b,pw (gen len g1+i) a b/\gen len g1+i<T) (Q:=fun i=>(∃a b,pw (gen len g1+i) a b)/\∃g,Ga (gen len g1+i) g/\∃τ,gen len g<=τ/\τ<gen len (g+1)/\St τ)
   (R:=fun i=>(∃a b,pw (gen len g1+i) a b)/\((∃g,Ga (gen len g1+i) g/\∀τ,gen len g<=τ->τ<gen len (g+1)->¬St τ)\/∃g,gen len g<=gen len g1+i/\T<gen len (g+1))) (fun i hP=>by
    obtain ⟨a,b,hp,hT⟩:=hP;obtain ⟨g,z1,z2⟩:=R.xY hT
    by_cases c:gen len (g+1)<=T
    ·by_cases d:∃τ,gen len g<=τ/\τ<gen len (g+1)/\St τ
     ·exact .inl ⟨⟨a,b,hp⟩,g,⟨z1,z2,c⟩,d⟩
     ·exact .inr ⟨⟨a,b,hp⟩,.inl ⟨g,⟨z1,z2,c⟩,fun τ y1 y2 y3=>d ⟨τ,y1,y2,y3⟩⟩⟩
    ·exact .inr ⟨⟨a,b,hp⟩,.inr ⟨g,z1 g (az _),by lia⟩⟩) (T-gen len g1)
  have s0:cnt (fun i=>∃a b,pw (gen len g1+i) a b) (T-gen len g1)=cnt (fun i=>∃a b,pw (gen len g1+i) a b/\gen len g1+i<T) (T-gen len g1):=by
   have:∀N,N<=T-gen len g1->cnt (fun i=>∃a b,pw (gen len g1+i) a b) N=cnt (fun i=>∃a b,pw (gen len g1+i) a b/\gen len g1+i<T) N:=fun N=>by
    induction N with
    | zero=>intro _;rfl
    | succ N ih=>
     intro hN
     by_cases c:∃a b,pw (gen len g1+N) a b
     ·obtain ⟨a,b,hp⟩:=c;rw [pd ⟨a,b,hp⟩,pd (P:=fun i=>∃a b,pw (gen len g1+i) a b/\gen len g1+i<T) ⟨a,b,hp,by lia⟩,ih (by exact bp hN)]
     ·rw [sU c,sU (P:=fun i=>∃a b,pw (gen len g1+i) a b/\gen len g1+i<T) fun ⟨a,b,hp,_⟩=>c ⟨a,b,hp⟩,ih (by exact bp hN)]
   exact this _ (az _)
  have s2:=GG (P:=fun i=>(∃a b,pw (gen len g1+i) a b)/\((∃g,Ga (gen len g1+i) g/\∀τ,gen len g<=τ->τ<gen len (g+1)->¬St τ)\/∃g,gen len g<=gen len g1+i/\T<gen len (g+1)))
   (Q:=fun i=>(∃a b,pw (gen len g1+i) a b)/\∃g,Ga (gen len g1+i) g/\∀τ,gen len g<=τ->τ<gen len (g+1)->¬St τ) (R:=fun i=>(∃a b,pw (gen len g1+i) a b)/\∃g,gen len g<=gen len g1+i/\T<gen len (g+1)) (fun i hP=>hP.2.elim (fun z=>.inl ⟨hP.1,z⟩) fun z=>.inr ⟨hP.1,z⟩) (T-gen len g1)
  have xr:∀{t a b},t<T->pw t a b->a<8/\N8 a b:=fun {t a b} h hp=>by
   obtain ⟨x1,x2,x3,_⟩:=R.iT _ _ _ h hp;exact ⟨by lia,by lia,by lia,x3⟩
  have d3:cnt (fun i=>(∃a b,pw (gen len g1+i) a b)/\∃g,gen len g<=gen len g1+i/\T<gen len (g+1)) (T-gen len g1)<=56:=by
   refine wj (fun i c=>∃a b,pw (gen len g1+i) a b/\a<8/\N8 a b/\c=kc a b) (fun i hi hP=>?_) (fun i j c fi hj hP _ z1 z2=>?_)
   ·obtain ⟨⟨a,b,hp⟩,_⟩:=hP;obtain ⟨x1,x2⟩:=xr (show gen len g1+i<T by lia) hp;exact ⟨_,oX x2,a,b,hp,x1,x2,rfl⟩
   ·obtain ⟨_,g,z3,z4⟩:=hP;obtain ⟨a,b,hp,x1,x2,e1⟩:=z1;obtain ⟨a',b',gF,y1,y2,e2⟩:=z2;obtain ⟨rfl,rfl⟩:=uF x2 y2 (e1.symm.trans e2);have q1:=R.nh _ _ _ _ (show gen len g1+i<gen len g1+j by lia) (by omega) hp gF;have q2:gen len (g+1)<=len (gen len g1+i):=R.eQ z3 (by omega);omega
  have d2:cnt (fun i=>(∃a b,pw (gen len g1+i) a b)/\∃g,Ga (gen len g1+i) g/\∀τ,gen len g<=τ->τ<gen len (g+1)->¬St τ) (T-gen len g1)<=56*(mo+2*l+1):=by
   refine wj (fun i c=>∃a b r,pw (gen len g1+i) a b/\a<8/\N8 a b/\r<mo+2*l+1/\w (gen len g1+i) a b=some ((r:Int)+1-l)/\c=kc a b*(mo+2*l+1)+r) (fun i hi hP=>?_) (fun i j c fi hj _ _ z1 z2=>?_)
   ·obtain ⟨⟨a,b,hp⟩,g,⟨z1,z2,z3⟩,z4⟩:=hP;have hT:gen len g1+i<T:=by lia
    obtain ⟨x1,x2⟩:=xr hT hp;obtain ⟨_,_,_,v,hv⟩:=R.iT _ _ _ hT hp;have KZ:=up (Nat.le_add_right _ _) hT z1 z2;have Sh:∀i,i<=g+1->gen len i<=T:=fun k pA=>by
     by_cases e:k=g+1
     ·rw [e];exact z3
     ·have:=z1 k (by lia);lia
    have hle:gen len g1<=gen len g:=R.m9 z1 (bp hT) KZ;obtain ⟨y1,y2⟩:=R.AU Sh (fun x y hx hy px=>kn _ x y hle (Sh g (by exact Nat.le.step Nat.le.refl)) hx hy px) (fun τ q1 q2=>⟨fun x y gF=>z4 τ q1 q2 (.inl ⟨x,y,gF⟩),fun x y=>fj fun hc=>z4 τ q1 q2 (.inr ⟨x,y,hc⟩)⟩) (z1 g (az _)) z2 hp hv;have hr:(v-1+l).toNat<mo+2*l+1:=by lia
    exact ⟨_,enc (oX x2) hr,a,b,_,hp,x1,x2,hr,by rw [hv];congr 1;lia,rfl⟩
   ·obtain ⟨a,b,r,hp,x1,x2,x3,x4,e1⟩:=z1;obtain ⟨a',b',r',gF,y1,y2,y3,y4,e2⟩:=z2;obtain ⟨ek,rfl⟩:=dec x3 y3 (e1.symm.trans e2);obtain ⟨rfl,rfl⟩:=uF x2 y2 ek;have:=R.uZ _ _ _ _ _ _ (show gen len g1+i<gen len g1+j by lia) (by omega) hp gF x4 y4;lia
  have d1:cnt (fun i=>(∃a b,pw (gen len g1+i) a b)/\∃g,Ga (gen len g1+i) g/\∃τ,gen len g<=τ/\τ<gen len (g+1)/\St τ) (T-gen len g1)<=(56*(2*l+1)+56*(mo+l+1))*56:=by
   refine wj (fun i c=>∃g τ a b cg,Ga (gen len g1+i) g/\gen len g<=τ/\τ<gen len (g+1)/\pw (gen len g1+i) a b/\a<8/\N8 a b/\c=cg*56+kc a b/\
    ((∃x y r,pt τ x y/\x<8/\N8 x y/\r<2*l+1/\m τ x y=some ((r:Int)-l)/\cg=kc x y*(2*l+1)+r)\/
     ∃x y r,x<8/\N8 x y/\r<mo+l+1/\m (τ+1) x y=some ((r:Int)-mo)/\m (τ+1) x y≠m τ x y/\cg=56*(2*l+1)+(kc x y*(mo+l+1)+r))) (fun i hi hP=>?_) (fun i j c fi hj _ _ z1 z2=>?_)
   ·obtain ⟨⟨a,b,hp⟩,g,hG,τ,t1,t2,qI⟩:=hP;have hT:gen len g1+i<T:=by lia
    obtain ⟨x1,x2⟩:=xr hT hp;have KZ:=up (Nat.le_add_right _ _) hT hG.1 hG.2.1;have hle:gen len g1<=gen len g:=R.m9 hG.1 (bp hT) KZ;have EW:τ<T:=by have:=hG.2.2;lia
    have tc:∀x y,pt τ x y->∃cg,cg<56*(2*l+1)+56*(mo+l+1)/\∃x y r,pt τ x y/\x<8/\N8 x y/\r<2*l+1/\m τ x y=some ((r:Int)-l)/\cg=kc x y*(2*l+1)+r:=fun x y j9=>by
     obtain ⟨r,q1,q2,q3,q4⟩:=tie τ x y (by lia) EW j9;refine ⟨_,?_,x,y,r,j9,q1,q2,q3,q4,rfl⟩;have:=enc (oX q2) q3;lia
    have fin:∀cg,cg<56*(2*l+1)+56*(mo+l+1)->cg*56+kc a b<(56*(2*l+1)+56*(mo+l+1))*56:=fun cg hc=>enc hc (oX x2)
    by_cases c:∃x y,pt τ x y
    ·obtain ⟨x,y,j9⟩:=c;obtain ⟨cg,hc,rest⟩:=tc x y j9;exact ⟨_,fin cg hc,g,τ,a,b,cg,hG,t1,t2,hp,x1,x2,rfl,.inl rest⟩
    ·rcases qI with ⟨x,y,j9⟩ | ⟨x,y,cW⟩
     ·exact absurd ⟨x,y,j9⟩ c
     ·rcases R.cause τ x y EW cW with ⟨c',v,q,y',j9,_⟩ | ⟨c',j9,_⟩ | ⟨e',y',_,hy,ur⟩
      ·exact absurd ⟨x,c',j9⟩ c
      ·exact absurd ⟨c',y,j9⟩ c
      ·obtain ⟨l1,l2,l3⟩:=R.lt _ _ _ _ (show τ+1<=T by exact EW) hy;obtain ⟨v1,hle1,e1⟩:=kn (τ+1) x y (by lia) (by exact EW) l1 l2 l3;rw [hy] at e1;cases e1;have hr:(y'+mo).toNat<mo+l+1:=by lia
       refine ⟨_,fin (56*(2*l+1)+(kc x y*(mo+l+1)+(y'+mo).toNat)) ?_,g,τ,a,b,_,hG,t1,t2,hp,x1,x2,rfl,.inr ⟨x,y,_,by lia,⟨by lia,by lia,l3⟩,hr,by rw [hy];congr 1;lia,cW,rfl⟩⟩;have:=enc (oX ⟨by lia,by lia,l3⟩) hr;lia
   ·obtain ⟨g,τ,a,b,cg,hG,t1,t2,hp,x1,x2,e1,hcg⟩:=z1;obtain ⟨g',zR,a',b',cg',Ly,Z_,Ra,gF,y1,y2,e2,BO⟩:=z2;obtain ⟨ec,ek⟩:=dec (oX x2) (oX y2) (e1.symm.trans e2);obtain ⟨rfl,rfl⟩:=uF x2 y2 ek;subst ec;have hT:gen len g1+j<T:=by lia
    have Mf:τ<T:=by have:=hG.2.2;lia
    have zQ:zR<T:=by have:=Ly.2.2;lia
    have eτ:τ=zR:=by
     rcases hcg with ⟨x,y,r,p1,p2,p3,p4,p5,p6⟩ | ⟨x,y,r,p2,p3,p4,p5,pn,p6⟩
     ·rcases BO with ⟨x',y',r',q1,q2,q3,q4,q5,q6⟩ | ⟨x',y',r',q2,q3,q4,q5,qn,q6⟩
      ·obtain ⟨ek,rfl⟩:=dec p4 q4 (p6.symm.trans q6);obtain ⟨rfl,rfl⟩:=uF p3 q3 ek;rcases Nat.lt_trichotomy τ zR with c | c | c
       ·have:=R.drop _ _ _ _ _ _ c zQ p1 q1 p5 q5;lia
       ·exact c
       ·have:=R.drop _ _ _ _ _ _ c Mf q1 p1 q5 p5;lia
      ·have:=enc (oX p3) p4;lia
     ·rcases BO with ⟨x',y',r',q1,q2,q3,q4,q5,q6⟩ | ⟨x',y',r',q2,q3,q4,q5,qn,q6⟩
      ·have:=enc (oX q3) q4;lia
      ·obtain ⟨ek,rfl⟩:=dec p4 q4 (show kc x y*(mo+l+1)+r=kc x' y'*(mo+l+1)+r' by lia);obtain ⟨rfl,rfl⟩:=uF p3 q3 ek;rcases Nat.lt_trichotomy τ zR with c | c | c
       ·have:=R.same p5 q5 (s:=zR) (by exact c) (by exact Nat.le.step Nat.le.refl) (by exact zQ);exact absurd (q5.trans this.symm) qn
       ·exact c
       ·have:=R.same q5 p5 (s:=τ) (by exact c) (by exact Nat.le.step Nat.le.refl) (by exact Mf);exact absurd (p5.trans this.symm) pn
    subst eτ;have q1:=R.nh _ _ _ _ (show gen len g1+i<gen len g1+j by lia) hT hp gF;have q2:gen len (g+1)<=len (gen len g1+i):=R.eQ (hG.1 g (az _)) (by lia);have q3:gen len (g'+1)<=gen len (g+1):=by
     refine fj fun c=>?_;have Fj:g<g':=by
      refine fj fun d=>?_;have e0:∀k,k<=g+1->gen len k<=T:=fun k pA=>by
       by_cases e:k=g+1
       ·rw [e];exact hG.2.2
       ·have:=hG.1 k (by lia);lia
      have:=R.cI e0 (i:=g'+1) (g+1-(g'+1)) (by omega);rw [show g'+1+(g+1-(g'+1))=g+1 by omega] at this;exact c this
     have:=R.m9 (g:=g+1) Ly.1 (bp hT) (by exact Fj);lia
    have:=Ly.2.1;lia
  rw [s0];exact eE s1 (Nat.add_le_add d1 (eE s2 (Nat.add_le_add d2 d3)))
 have m1:=Nat.mul_le_mul_left 20 c1;have m2:=Nat.mul_le_mul_left 8 c2;exact eE g (Nat.add_le_add (Nat.add_le_add_left m1 _) m2)
theorem Bd.rows (R:Bd n (l:Int) (mo:Int) T len m w pt pw):len T<=len 0+1568*(7*(7*(l+1)+7*(mo+1)+1))+20*(56*(2*l+1))+8*((56*(2*l+1)+56*(mo+l+1))*56+(56*(mo+2*l+1)+56)):=by
 rcases R.gens (7*(7*(l+1)+7*(mo+1)+1)) with ⟨h1,h2⟩ | h
 ·obtain ⟨b,hb,hs⟩:=R.quiet rfl h1;have hg:∀i,i<=7*b+7->gen len i<=T:=fun i hi=>h1 i (by lia);have k:=R.after (g1:=7*b+7) hg (R.narrow hg hs);have e:=R.cI h1 (i:=7*b+7) (7*(7*(l+1)+7*(mo+1)+1)-(7*b+7)) (by omega);rw [show 7*b+7+(7*(7*(l+1)+7*(mo+1)+1)-(7*b+7))=7*(7*(l+1)+7*(mo+1)+1) by omega] at e;have k2:=R.eQ e (h1 _ (az _));exact eE k (Nat.add_le_add_right (Nat.add_le_add_right (eE k2 h2) _) _)
 ·exact eE h (eE (Nat.le_add_right _ _) (Nat.le_add_right _ _))
end
end MH
namespace MU
variable {n:Nat} {F:cq} {most:Int} {s0:St}
theorem HN (hF:g_ n F most) (g:cm n s) (hp:ah s at_=some p) (pa:p.a=a) (pb:p.b=b) (bG:(dY n F at_ a b s).bar=none):
 Add (fun w=>(w.tie=true->(w.a=a/\w.b≠b/\∃q,val s (true,b,w.b)=some q/\w.v=p.v+q)\/(w.b=b/\w.a≠a))/\(w.tie=false->w.v<=most-p.v/\∃f,F w.b=some f)) s (dY n F at_ a b s):=by
 unfold dY at bG ⊢;dsimp only at bG ⊢;generalize hC:(fun w:aj=>(w.tie=true->(w.a=a/\w.b≠b/\∃q,val s (true,b,w.b)=some q/\w.v=p.v+q)\/(w.b=b/\w.a≠a))/\(w.tie=false->w.v<=most-p.v/\∃f,F w.b=some f))=C;have g1:cm n (aK (cT F) .aA at_ s):=mX g Ax;have i1:Imp s (aK (cT F) .aA at_ s):=gc _ _ _ _;have T1:Add (fun w=>w.tie=true->w.b=b) s (aK (cT F) .aA at_ s):=we hp fun w e ht=>by
  unfold cT at e;split at e
  ·cases q:F p.b with
   | none=>rw [q] at e;cases e
   | some f=>rw [q] at e;cases e;cases ht
  ·cases e
 have A1:Add C s (aK (cT F) .aA at_ s):=we hp fun w e=>by
  subst hC;unfold cT at e;split at e
  ·cases q:F p.b with
   | none=>rw [q] at e;cases e
   | some f=>
    rw [q] at e;cases e;have:=hF.num _ _ q;exact ⟨nofun,fun _=>⟨by show f.2.2-p.v<=_;lia,f,q⟩⟩
  ·cases e
 generalize aK (cT F) .aA at_ s=s1 at*;have i6:=bY i1.1 hp;have g2:cm n (aK (da F) .bh at_ s1):=mX g1 (Az hF);have i2:Imp s1 (aK (da F) .bh at_ s1):=gc _ _ _ _;have T2:Add (fun w=>w.tie=true->w.b=b) s1 (aK (da F) .bh at_ s1):=we i6 fun w e _=>by
  unfold da at e;split at e
  ·cases q:F p.a with
   | none=>rw [q] at e;cases e
   | some f=>rw [q] at e;cases e;exact pb
  ·cases e
 have A2:Add C s1 (aK (da F) .bh at_ s1):=we i6 fun w e=>by
  subst hC;unfold da at e;split at e
  ·cases q:F p.a with
   | none=>rw [q] at e;cases e
   | some f=>
    rw [q] at e;cases e;refine ⟨fun _=>.inr ⟨pb,fun z=>?_⟩,nofun⟩;have z:f.1=a:=z;have:=hF.own _ _ q;rw [z,<-pa,q] at this;cases this
  ·cases e
 generalize aK (da F) .bh at_ s1=s2 at*;have jg:=bY i2.1 i6;have T12:=T1.trans i2.1 T2;have Bi:∀z,z≠b->val s2 (true,b,z)=val s (true,b,z):=fun z hz=>fj fun hc=>by
  obtain ⟨j,w,hj,hw,hk,_⟩:=Hr g g2 (i1.1.trans i2.1) hc;obtain ⟨kt,_,kb⟩:=iD hk;have:=T12 j w hj hw kt;exact hz (kb.symm.trans this)
 have i3:Imp s2 ((cL n s2 true b).foldl (fun st j=>ao a7 .sum at_ j st) s2):=dz (fun _ _=>cJ ..) _ _;have g3:cm n ((cL n s2 true b).foldl (fun st j=>ao a7 .sum at_ j st) s2):=uX (fun _ _ g=>wk g Au) _ _ g2;have i4:=dz (f:=fun st j=>ao a7 .sum j at_ st) (fun _ _=>cJ ..) (dq n ((cL n s2 true b).foldl (fun st j=>ao a7 .sum at_ j st) s2) a) ((cL n s2 true b).foldl (fun st j=>ao a7 .sum at_ j st) s2);have i5:=dz (f:=fun st j=>ao (bf F) .back j at_ st) (fun _ _=>cJ ..) (cL n ((dq n ((cL n s2 true b).foldl (fun st j=>ao a7 .sum at_ j st) s2) a).foldl (fun st j=>ao a7 .sum j at_ st) ((cL n s2 true b).foldl (fun st j=>ao a7 .sum at_ j st) s2)) false b) ((dq n ((cL n s2 true b).foldl (fun st j=>ao a7 .sum at_ j st) s2) a).foldl (fun st j=>ao a7 .sum j at_ st) ((cL n s2 true b).foldl (fun st j=>ao a7 .sum at_ j st) s2));have b4:=fj fun z=>i5.1.bar z bG;have b3:=fj fun z=>i4.1.bar z b4;have b2:=fj fun z=>i3.1.bar z b3;have A3:Add C s2 ((cL n s2 true b).foldl (fun st j=>ao a7 .sum at_ j st) s2):=wB (f:=fun st j=>ao a7 .sum at_ j st) (fun _ _=>cJ ..) _ s2 s2 (Imp.refl _) fun j hj sx hx=>by
  subst hC;obtain ⟨c,_,dm⟩:=HU hj;obtain ⟨q,hq,hk⟩:=g2.at_ _ _ dm;obtain ⟨_,qa,qb⟩:=iD hk;have wV:=g2.ne b2 j q hq;refine GJ (bY hx.1 jg) (bY hx.1 hq) fun w e=>?_;unfold a7 at e;split at e
  ·cases e;have Li:c≠b:=fun z=>wV (by rw [qa,qb,z]);refine ⟨fun _=>.inl ⟨pa,fun z=>wV (by rw [qa];exact z.symm),q.v,?_,rfl⟩,nofun⟩;show val s (true,b,q.b)=_;rw [qb,<-Bi c Li];exact pf dm hq
  ·cases e
 generalize (cL n s2 true b).foldl (fun st j=>ao a7 .sum at_ j st) s2=s3 at*;have jU:=bY i3.1 jg;have A4:Add C s3 ((dq n s3 a).foldl (fun st j=>ao a7 .sum j at_ st) s3):=wB (f:=fun st j=>ao a7 .sum j at_ st) (fun _ _=>cJ ..) _ s3 s3 (Imp.refl _) fun j hj sx hx=>by
  subst hC;obtain ⟨c,_,dm⟩:=DO hj;obtain ⟨q,hq,hk⟩:=g3.at_ _ _ dm;obtain ⟨_,qa,qb⟩:=iD hk;have wV:=g3.ne b3 j q hq;refine GJ (bY hx.1 hq) (bY hx.1 jU) fun w e=>?_;unfold a7 at e;split at e
  ·cases e;exact ⟨fun _=>.inr ⟨pb,fun z=>wV (by rw [qb];exact z)⟩,nofun⟩
  ·cases e
 generalize (dq n s3 a).foldl (fun st j=>ao a7 .sum j at_ st) s3=s4 at*;have Fd:=bY i4.1 jU;have A5:Add C s4 ((cL n s4 false b).foldl (fun st j=>ao (bf F) .back j at_ st) s4):=wB (f:=fun st j=>ao (bf F) .back j at_ st) (fun _ _=>cJ ..) _ s4 s4 (Imp.refl _) fun j hj sx hx=>rN fun w e=>by
  subst hC
  cases e1:ah sx j with
  | none=>rw [e1] at e;cases e
  | some q=>
   rw [e1] at e;have e:(ah sx at_).bind (fun p=>bf F q p)=some w:=e;rw [bY hx.1 Fd] at e;have e:bf F q p=some w:=e;unfold bf at e;split at e
   ·cases z:F q.b with
    | none=>rw [z] at e;cases e
    | some f=>
     rw [z] at e;cases e;have:=hF.num _ _ z;exact ⟨nofun,fun _=>⟨by show min q.v f.2.2-p.v<=_;lia,f,z⟩⟩
   ·cases e
 exact (((A1.trans i2.1 A2).trans i3.1 A3).trans i4.1 A4).trans i5.1 A5
theorem W':Add (fun w=>w.tie=false->∃f,F w.b=some f) s (fu n F at_ a s):=by
 unfold fu;dsimp only;have A1:Add (fun w:aj=>w.tie=false->∃f,F w.b=some f) s (aK (df F) .sure at_ s):=rN fun w e ht=>by
  cases q:ah s at_ with
  | none=>rw [q] at e;cases e
  | some p=>
   rw [q] at e;have e:df F p=some w:=e;unfold df at e;split at e
   ·cases z:F p.b with
    | none=>rw [z] at e;cases e
    | some f=>rw [z] at e;cases e;cases ht
   ·cases e
 have i1:Imp s (aK (df F) .sure at_ s):=gc _ _ _ _;generalize aK (df F) .sure at_ s=s1 at*;have A2:Add (fun w:aj=>w.tie=false->∃f,F w.b=some f) s1 (aK (cS F) .aq at_ s1):=rN fun w e ht=>by
  cases q:ah s1 at_ with
  | none=>rw [q] at e;cases e
  | some p=>
   rw [q] at e;have e:cS F p=some w:=e;unfold cS at e;split at e
   ·cases z:F p.a with
    | none=>rw [z] at e;cases e
    | some o=>
     rw [z] at e;have e:(F p.b).map (fun f=>(⟨false,o.1,p.b,min p.v f.2.2-o.2.1⟩:aj))=some w:=e
     cases z2:F p.b with
     | none=>rw [z2] at e;cases e
     | some f=>rw [z2] at e;cases e;exact ⟨f,z2⟩
   ·cases e
 have i2:Imp s1 (aK (cS F) .aq at_ s1):=gc _ _ _ _;generalize aK (cS F) .aq at_ s1=s2 at*;have A3:Add (fun w:aj=>w.tie=false->∃f,F w.b=some f) s2 ((dq n s2 a).foldl (fun st j=>ao (bf F) .back at_ j st) s2):=wB (f:=fun st j=>ao (bf F) .back at_ j st) (fun _ _=>cJ ..) _ s2 s2 (Imp.refl _) fun j _ sx _=>rN fun w e ht=>by
  cases q1:ah sx at_ with
  | none=>rw [q1] at e;cases e
  | some p=>
   rw [q1] at e;have e:(ah sx j).bind (fun q=>bf F p q)=some w:=e
   cases q2:ah sx j with
   | none=>rw [q2] at e;cases e
   | some q=>
    rw [q2] at e;have e:bf F p q=some w:=e;unfold bf at e;split at e
    ·cases z:F p.b with
     | none=>rw [z] at e;cases e
     | some f=>rw [z] at e;cases e;exact ⟨f,z⟩
    ·cases e
 have i3:Imp s2 ((dq n s2 a).foldl (fun st j=>ao (bf F) .back at_ j st) s2):=dz (fun _ _=>cJ ..) _ _;exact (A1.trans i2.1 A2).trans i3.1 A3
theorem gR (st:St) (o:Option aj) (word:Wd) (used:List Nat):(put st o word used).rows.length<=st.rows.length+1:=by
 cases o with
 | none=>exact nS _
 | some w=>
  show (take st w word used).rows.length<=_
  by_cases c:gP st w
  ·rw [(Dw c).2.2];exact az _
  ·rw [wy c];exact nS _
theorem pU (hf:∀s j,(f s j).rows.length<=s.rows.length+1):∀(l:List Nat) (s:St),(l.foldl f s).rows.length<=s.rows.length+l.length
 | [],s=>az _
 | j::l,s=>by
  have h1:=pU hf l (f s j);have h2:=hf s j;rw [kI];show (l.foldl f (f s j)).rows.length<=_;lia
theorem Dy:(cL n st tie a).length<=n:=by
 have:=List.length_filterMap_le (fun b=>st.best (tie,a,b)) (List.range n);rw [List.length_range] at this;exact this
theorem DN:(dq n st b).length<=n:=by
 have:=List.length_filterMap_le (fun a=>st.best (true,a,b)) (List.range n);rw [List.length_range] at this;exact this
theorem Vx:(dY n F at_ a b s).rows.length<=s.rows.length+(2+3*n):=by
 unfold dY;dsimp only;have h1:(aK (cT F) .aA at_ s).rows.length<=s.rows.length+1:=gR _ _ _ _;generalize aK (cT F) .aA at_ s=s1 at*;have h2:(aK (da F) .bh at_ s1).rows.length<=s1.rows.length+1:=gR _ _ _ _;generalize aK (da F) .bh at_ s1=s2 at*;have h3:=pU (f:=fun st j=>ao a7 .sum at_ j st) (fun _ _=>gR _ _ _ _) (cL n s2 true b) s2;have k3:=Dy (n:=n) (tie:=true) (st:=s2) (a:=b);generalize (cL n s2 true b).foldl (fun st j=>ao a7 .sum at_ j st) s2=s3 at*;have h4:=pU (f:=fun st j=>ao a7 .sum j at_ st) (fun _ _=>gR _ _ _ _) (dq n s3 a) s3;have k4:=DN (n:=n) (st:=s3) (b:=a);generalize (dq n s3 a).foldl (fun st j=>ao a7 .sum j at_ st) s3=s4 at*;have h5:=pU (f:=fun st j=>ao (bf F) .back j at_ st) (fun _ _=>gR _ _ _ _) (cL n s4 false b) s4;have k5:=Dy (n:=n) (tie:=false) (st:=s4) (a:=b);lia
theorem Wy:(fu n F at_ a s).rows.length<=s.rows.length+(2+n):=by
 unfold fu;dsimp only;have h1:(aK (df F) .sure at_ s).rows.length<=s.rows.length+1:=gR _ _ _ _;generalize aK (df F) .sure at_ s=s1 at*;have h2:(aK (cS F) .aq at_ s1).rows.length<=s1.rows.length+1:=gR _ _ _ _;generalize aK (cS F) .aq at_ s1=s2 at*;have h3:=pU (f:=fun st j=>ao (bf F) .back at_ j st) (fun _ _=>gR _ _ _ _) (dq n s2 a) s2;have k3:=DN (n:=n) (st:=s2) (b:=a);lia
theorem VH (h8:n<=8):(look n F at_ s).rows.length<=s.rows.length+26:=by
 unfold look;split
 ·split
  ·split
   ·exact eE Vx (by lia)
   ·exact eE Wy (by lia)
  ·lia
 ·lia
theorem Vp {x y k:Nat} (px:x≠y):(if x<k+1 then 1 else 0)+(if y<k+1 then 1 else 0)<=(if x<k then 1 else 0)+(if y<k then 1 else 0)+1/\(¬(k=x\/k=y)->(if x<k+1 then 1 else 0)+(if y<k+1 then 1 else 0)=(if x<k then 1 else 0)+(if y<k then 1 else 0)):=by
 have one:∀z,k≠z->(if z<k+1 then 1 else 0)=(if z<k then 1 else 0):=fun z h=>by
  by_cases c:z<k
  ·rw [if_pos c,if_pos (Nat.lt_succ_of_lt c)]
  ·rw [if_neg c,if_neg (by lia)]
 by_cases a:k=x
 ·subst a;rw [one y px,if_pos (Nat.lt_succ_self k),if_neg (jC k)];exact ⟨by lia,fun h=>absurd (.inl rfl) h⟩
 ·rw [one x a]
  by_cases b:k=y
  ·subst b;rw [if_pos (Nat.lt_succ_self k),if_neg (jC k)];exact ⟨az _,fun h=>absurd (.inr rfl) h⟩
  ·rw [one y b];exact ⟨nS _,fun _=>rfl⟩
theorem AI {f:St->Nat->St} {g:Nat->Option Nat} {s0:St} {x y:Nat} (px:x≠y) (hi:∀s j,Imp s (f s j)) (hf:∀s j,(f s j).rows.length<=s.rows.length+1) (hq:∀c j s,c=x\/c=y->g c=some j->Imp s0 s->(f s j).bar=none->(f s j).rows.length<=s.rows.length):
 ∀k,(((List.range k).filterMap g).foldl f s0).bar=none->(((List.range k).filterMap g).foldl f s0).rows.length+((if x<k then 1 else 0)+(if y<k then 1 else 0))<=s0.rows.length+k
 | 0,_=>az _
 | k+1,h=>by
  rw [List.range_succ,List.filterMap_append,List.foldl_append] at h ⊢;have i0:Imp s0 (((List.range k).filterMap g).foldl f s0):=dz hi _ _;have ih:=AI px hi hf hq k;obtain ⟨l1,l2⟩:=Vp (k:=k) px;generalize (if x<k then 1 else 0)+(if y<k then 1 else 0)=A at*;generalize (if x<k+1 then 1 else 0)+(if y<k+1 then 1 else 0)=B at*;generalize ((List.range k).filterMap g).foldl f s0=s at*
  cases hg:g k with
  | none=>
   rw [show [k].filterMap g=[] by rw [List.filterMap_cons,hg];rfl] at h ⊢;have ih:=ih h;show s.rows.length+_<=_;lia
  | some j=>
   rw [show [k].filterMap g=[j] by rw [List.filterMap_cons,hg];rfl] at h ⊢;have h:(f s j).bar=none:=h;have hs:s.bar=none:=fj fun c=>(hi s j).1.bar c h;have ih:=ih hs;have h1:=hf s j;show (f s j).rows.length+_<=_
   by_cases c:k=x\/k=y
   ·have:=hq k j s c hg i0 h;lia
   ·have:=l2 c;lia
theorem DE (g:cm n st) (hb:st.bar=none) (h:st.best (t,a,a)=some j):False:=by
 obtain ⟨w,h1,h2⟩:=g.at_ _ _ h;obtain ⟨_,e1,e2⟩:=iD h2;exact g.ne hb j w h1 (e1.trans e2.symm)
theorem Pc {w:aj} (ht:w.tie=true) (e:w.a=w.b) (h:(take st w word used).bar=none):(take st w word used).rows.length<=st.rows.length:=by
 by_cases c:gP st w
 ·refine absurd h ?_;unfold take;rw [if_pos c];have c':=c;unfold gP at c';rw [if_pos ⟨ht,e⟩] at c';show (if st.bar=none/\iA w then some st.rows.length else st.bar)≠none
  by_cases z:st.bar=none
  ·rw [if_pos ⟨z,ht,e,c'⟩];exact fun h=>nomatch h
  ·rw [if_neg fun q=>z q.1];exact z
 ·rw [wy c];exact az _
theorem Dn (h1:ah s i=some p) (h2:ah s j=some q):ao f word i j s=put s (f p q) word [i,j]:=by
 unfold ao;rw [h1,h2];rfl
variable {at_:Nat} {p:aj} {s:St}
theorem Wb (g:cm n s) (hp:ah s at_=some p) (pt:p.tie=true) (hn:s.bar=none) (hb:((cL n s true p.b).foldl (fun st j=>ao a7 .sum at_ j st) s).bar=none):((cL n s true p.b).foldl (fun st j=>ao a7 .sum at_ j st) s).rows.length+2<=s.rows.length+n:=by
 have hl:=g.lt _ _ hp;have h:=AI (f:=fun st j=>ao a7 .sum at_ j st) (g:=fun c=>s.best (true,p.b,c)) (s0:=s) (x:=p.a) (y:=p.b) (g.ne hn _ _ hp) (fun _ _=>cJ ..) (fun _ _=>gR _ _ _ _) (fun c j s' hc hj i dQ=>by
  have hj:s.best (true,p.b,c)=some j:=hj;rcases hc with rfl | rfl
  ·obtain ⟨q,h1,h2⟩:=g.at_ _ _ hj;obtain ⟨q1,q2,q3⟩:=iD h2;have e:=Dn (f:=a7) (word:=.sum) (bY i.1 hp) (bY i.1 h1);have e2:a7 p q=some ⟨true,p.a,q.b,p.v+q.v⟩:=if_pos ⟨pt,q1,q2.symm⟩;rw [e2] at e;have dQ:(ao a7 .sum at_ j s').bar=none:=dQ;show (ao a7 .sum at_ j s').rows.length<=_;rw [e] at dQ ⊢;exact Pc (w:=⟨true,p.a,q.b,p.v+q.v⟩) rfl q3.symm dQ
  ·exact (DE g hn hj).elim) n hb
 rw [if_pos hl.1,if_pos hl.2] at h;exact h
theorem Wc (g:cm n s) (hp:ah s at_=some p) (pt:p.tie=true) (hn:s.bar=none) (hb:((dq n s p.a).foldl (fun st j=>ao a7 .sum j at_ st) s).bar=none):((dq n s p.a).foldl (fun st j=>ao a7 .sum j at_ st) s).rows.length+2<=s.rows.length+n:=by
 have hl:=g.lt _ _ hp;have h:=AI (f:=fun st j=>ao a7 .sum j at_ st) (g:=fun c=>s.best (true,c,p.a)) (s0:=s) (x:=p.a) (y:=p.b) (g.ne hn _ _ hp) (fun _ _=>cJ ..) (fun _ _=>gR _ _ _ _) (fun c j s' hc hj i dQ=>by
  have hj:s.best (true,c,p.a)=some j:=hj;rcases hc with rfl | rfl
  ·exact (DE g hn hj).elim
  ·obtain ⟨q,h1,h2⟩:=g.at_ _ _ hj;obtain ⟨q1,q2,q3⟩:=iD h2;have e:=Dn (f:=a7) (word:=.sum) (bY i.1 h1) (bY i.1 hp);have e2:a7 q p=some ⟨true,q.a,p.b,q.v+p.v⟩:=if_pos ⟨q1,pt,q3⟩;rw [e2] at e;have dQ:(ao a7 .sum j at_ s').bar=none:=dQ;show (ao a7 .sum j at_ s').rows.length<=_;rw [e] at dQ ⊢;exact Pc (w:=⟨true,q.a,p.b,q.v+p.v⟩) rfl q2 dQ) n hb
 rw [if_pos hl.1,if_pos hl.2] at h;exact h
theorem Wo (g:cm n s) (hp:ah s at_=some p) (hn:s.bar=none) (hb:((cL n s false p.b).foldl (fun st j=>ao (bf F) .back j at_ st) s).bar=none):((cL n s false p.b).foldl (fun st j=>ao (bf F) .back j at_ st) s).rows.length+2<=s.rows.length+n:=by
 have hl:=g.lt _ _ hp;have h:=AI (f:=fun st j=>ao (bf F) .back j at_ st) (g:=fun c=>s.best (false,p.b,c)) (s0:=s) (x:=p.a) (y:=p.b) (g.ne hn _ _ hp) (fun _ _=>cJ ..) (fun _ _=>gR _ _ _ _) (fun c j s' hc hj i dQ=>by
  have hj:s.best (false,p.b,c)=some j:=hj;rcases hc with rfl | rfl
  ·obtain ⟨q,h1,h2⟩:=g.at_ _ _ hj;obtain ⟨q1,q2,q3⟩:=iD h2;have e:=Dn (f:=bf F) (word:=.back) (bY i.1 h1) (bY i.1 hp);have e2:bf F q p=none:=if_neg fun z=>z.2.2.2 q3.symm;rw [e2] at e;show (ao (bf F) .back j at_ s').rows.length<=_;rw [e];exact az _
  ·exact (DE g hn hj).elim) n hb
 rw [if_pos hl.1,if_pos hl.2] at h;exact h
theorem Wq (g:cm n s) (hp:ah s at_=some p) (hn:s.bar=none) (hb:((dq n s p.a).foldl (fun st j=>ao (bf F) .back at_ j st) s).bar=none):((dq n s p.a).foldl (fun st j=>ao (bf F) .back at_ j st) s).rows.length+2<=s.rows.length+n:=by
 have hl:=g.lt _ _ hp;have h:=AI (f:=fun st j=>ao (bf F) .back at_ j st) (g:=fun c=>s.best (true,c,p.a)) (s0:=s) (x:=p.a) (y:=p.b) (g.ne hn _ _ hp) (fun _ _=>cJ ..) (fun _ _=>gR _ _ _ _) (fun c j s' hc hj i dQ=>by
  have hj:s.best (true,c,p.a)=some j:=hj;rcases hc with rfl | rfl
  ·exact (DE g hn hj).elim
  ·obtain ⟨q,h1,h2⟩:=g.at_ _ _ hj;obtain ⟨q1,q2,q3⟩:=iD h2;have e:=Dn (f:=bf F) (word:=.back) (bY i.1 hp) (bY i.1 h1);have e2:bf F p q=none:=if_neg fun z=>z.2.2.2 q2;rw [e2] at e;show (ao (bf F) .back at_ j s').rows.length<=_;rw [e];exact az _) n hb
 rw [if_pos hl.1,if_pos hl.2] at h;exact h
theorem Wf (hF:g_ n F most) (g:cm n s) (hp:ah s at_=some p) (pt:p.tie=true) (hb:(dY n F at_ p.a p.b s).bar=none):(dY n F at_ p.a p.b s).rows.length+4<=s.rows.length+3*n:=by
 unfold dY at hb ⊢;dsimp only at hb ⊢;have h1:(aK (cT F) .aA at_ s).rows.length<=s.rows.length+1:=gR _ _ _ _;have g1:cm n (aK (cT F) .aA at_ s):=mX g Ax;have p1:=bY (gc (cT F) .aA at_ s).1 hp;generalize aK (cT F) .aA at_ s=s1 at*;have h2:(aK (da F) .bh at_ s1).rows.length<=s1.rows.length+1:=gR _ _ _ _;have g2:cm n (aK (da F) .bh at_ s1):=mX g1 (Az hF);have p2:=bY (gc (da F) .bh at_ s1).1 p1;generalize aK (da F) .bh at_ s1=s2 at*;have h3:=Wb g2 p2 pt;have i3:Imp s2 ((cL n s2 true p.b).foldl (fun st j=>ao a7 .sum at_ j st) s2):=dz (fun _ _=>cJ ..) _ _;have g3:cm n ((cL n s2 true p.b).foldl (fun st j=>ao a7 .sum at_ j st) s2):=uX (fun _ _ g=>wk g Au) _ _ g2;generalize (cL n s2 true p.b).foldl (fun st j=>ao a7 .sum at_ j st) s2=s3 at*;have p3:=bY i3.1 p2;have h4:=Wc g3 p3 pt;have i4:Imp s3 ((dq n s3 p.a).foldl (fun st j=>ao a7 .sum j at_ st) s3):=dz (fun _ _=>cJ ..) _ _;have g4:cm n ((dq n s3 p.a).foldl (fun st j=>ao a7 .sum j at_ st) s3):=uX (fun _ _ g=>wk g Au) _ _ g3;generalize (dq n s3 p.a).foldl (fun st j=>ao a7 .sum j at_ st) s3=s4 at*;have p4:=bY i4.1 p3;have i5:Imp s4 ((cL n s4 false p.b).foldl (fun st j=>ao (bf F) .back j at_ st) s4):=dz (fun _ _=>cJ ..) _ _;have b4:s4.bar=none:=fj fun c=>i5.1.bar c hb;have b3:s3.bar=none:=fj fun c=>i4.1.bar c b4;have b2:s2.bar=none:=fj fun c=>i3.1.bar c b3;have h3:=h3 b2 b3;have h4:=h4 b3 b4;have h5:=Wo g4 p4 b4 hb;lia
theorem P5 (hF:g_ n F most) (g:cm n s) (hp:ah s at_=some p) (hb:(fu n F at_ p.a s).bar=none):(fu n F at_ p.a s).rows.length<=s.rows.length+n:=by
 unfold fu at hb ⊢;dsimp only at hb ⊢;have h1:(aK (df F) .sure at_ s).rows.length<=s.rows.length+1:=gR _ _ _ _;have g1:cm n (aK (df F) .sure at_ s):=mX g (Dv hF);have p1:=bY (gc (df F) .sure at_ s).1 hp;generalize aK (df F) .sure at_ s=s1 at*;have h2:(aK (cS F) .aq at_ s1).rows.length<=s1.rows.length+1:=gR _ _ _ _;have g2:cm n (aK (cS F) .aq at_ s1):=mX g1 (DF hF);have p2:=bY (gc (cS F) .aq at_ s1).1 p1;generalize aK (cS F) .aq at_ s1=s2 at*;have i3:Imp s2 ((dq n s2 p.a).foldl (fun st j=>ao (bf F) .back at_ j st) s2):=dz (fun _ _=>cJ ..) _ _;have b2:s2.bar=none:=fj fun c=>i3.1.bar c hb;have h3:=Wq g2 p2 b2 hb;lia
def pw (n:Nat) (F:cq) (s0:St) (t a b:Nat):Prop:=∃w,ah (run n F s0 t) t=some w/\w.tie=false/\w.a=a/\w.b=b/\(run n F s0 t).best (false,a,b)=some t
theorem step (n:Nat) (F:cq) (s0:St) (hl:t<(run n F s0 t).rows.length):
 (∃p,ah (run n F s0 t) t=some p/\p.tie=true/\pt n F s0 t p.a p.b/\run n F s0 (t+1)=dY n F t p.a p.b (run n F s0 t))\/
 (∃p,ah (run n F s0 t) t=some p/\p.tie=false/\pw n F s0 t p.a p.b/\run n F s0 (t+1)=fu n F t p.a (run n F s0 t))\/
 ((∀a b,¬pt n F s0 t a b)/\(∀a b,¬pw n F s0 t a b)/\run n F s0 (t+1)=run n F s0 t):=by
 obtain ⟨p,hp⟩:∃p,ah (run n F s0 t) t=some p:=⟨_,by unfold ah;rw [kK hl];rfl⟩;have hl:run n F s0 (t+1)=look n F t (run n F s0 t):=rfl
 by_cases hb:(run n F s0 t).best p.key=some t
 ·cases vk:p.tie with
  | true=>
   have nK:(run n F s0 t).best (true,p.a,p.b)=some t:=by rw [<-hb];unfold aj.key;rw [vk]
   exact .inl ⟨p,hp,vk,⟨p,hp,vk,rfl,rfl,nK⟩,hl.trans (Ds hp vk rfl rfl nK)⟩
  | false=>
   have nK:(run n F s0 t).best (false,p.a,p.b)=some t:=by rw [<-hb];unfold aj.key;rw [vk]
   exact .inr (.inl ⟨p,hp,vk,⟨p,hp,vk,rfl,rfl,nK⟩,hl.trans (HV hp vk hb)⟩)
 ·refine .inr (.inr ⟨fun a b h=>?_,fun a b h=>?_,hl.trans (Pb hp hb)⟩)
  ·obtain ⟨w,h1,h2,h3,h4,h5⟩:=h;rw [hp] at h1;cases h1;exact hb (by unfold aj.key;rw [h2,h3,h4];exact h5)
  ·obtain ⟨w,h1,h2,h3,h4,h5⟩:=h;rw [hp] at h1;cases h1;exact hb (by unfold aj.key;rw [h2,h3,h4];exact h5)
variable {n:Nat} {F:cq} {most:Int} {s0:St}
theorem rQ (e:Ext s s') {w:aj} (hi:i<s.rows.length) (h:ah s' i=some w):ah s i=some w:=by
 obtain ⟨p,hp⟩:∃p,ah s i=some p:=⟨_,by unfold ah;rw [kK hi];rfl⟩;rw [bY e hp] at h;cases h;exact hp
theorem OA (hF:g_ n F most) (g0:cm n s0) (w0:∀a b,val s0 (false,a,b)=none) (hl:∀t,t<T->t<(run n F s0 t).rows.length) (hb:∀t,t<=T->(run n F s0 t).bar=none):∀t,t<=T->∀i w,ah (run n F s0 t) i=some w->w.tie=false->∃f,F w.b=some f
 | 0,_,i,w,h,ht=>by
  obtain ⟨j,_,hj⟩:=g0.top i w h;obtain ⟨u,hu,_⟩:=g0.at_ _ _ hj;have:=pf hj hu;have hk:w.key=(false,w.a,w.b):=by unfold aj.key;rw [ht]
  rw [hk,w0] at this;cases this
 | t+1,hT,i,w,h,ht=>by
  have ih:=OA hF g0 w0 hl hb t (by exact bp hT);have gd:=yP hF g0 t
  by_cases hi:i<(run n F s0 t).rows.length
  ·exact ih i w (rQ (uW n F t (run n F s0 t)).1 hi h) ht
  ·rcases step n F s0 (hl t (by exact hT)) with ⟨p,hp,_,_,e⟩ | ⟨p,hp,_,_,e⟩ | ⟨_,_,e⟩
   ·have bG:=hb (t+1) hT;rw [e] at bG h;exact ((HN hF gd hp rfl rfl bG i w (by exact mH hi) h).2 ht).2
   ·rw [e] at h;exact W' i w (by exact mH hi) h ht
   ·rw [e] at h;exact absurd (m_ h) (by omega)
theorem Wz (hp:ah s at_=some p):Add (fun w=>w.tie=true->w.a=p.a) s (fu n F at_ p.a s):=by
 unfold fu;dsimp only;have A1:Add (fun w:aj=>w.tie=true->w.a=p.a) s (aK (df F) .sure at_ s):=we hp fun w e ht=>by
  unfold df at e;split at e
  ·cases z:F p.b with
   | none=>rw [z] at e;cases e
   | some f=>rw [z] at e;cases e;rfl
  ·cases e
 have i1:Imp s (aK (df F) .sure at_ s):=gc _ _ _ _;generalize aK (df F) .sure at_ s=s1 at*;have A2:Add (fun w:aj=>w.tie=true->w.a=p.a) s1 (aK (cS F) .aq at_ s1):=rN fun w e ht=>by
  cases q:ah s1 at_ with
  | none=>rw [q] at e;cases e
  | some p=>
   rw [q] at e;have e:cS F p=some w:=e;unfold cS at e;split at e
   ·cases z:F p.a with
    | none=>rw [z] at e;cases e
    | some o=>
     rw [z] at e;have e:(F p.b).map (fun f=>(⟨false,o.1,p.b,min p.v f.2.2-o.2.1⟩:aj))=some w:=e
     cases z2:F p.b with
     | none=>rw [z2] at e;cases e
     | some f=>rw [z2] at e;cases e;cases ht
   ·cases e
 have i2:Imp s1 (aK (cS F) .aq at_ s1):=gc _ _ _ _;generalize aK (cS F) .aq at_ s1=s2 at*;have A3:Add (fun w:aj=>w.tie=true->w.a=p.a) s2 ((dq n s2 p.a).foldl (fun st j=>ao (bf F) .back at_ j st) s2):=wB (f:=fun st j=>ao (bf F) .back at_ j st) (fun _ _=>cJ ..) _ s2 s2 (Imp.refl _) fun j _ sx _=>rN fun w e ht=>by
  cases q1:ah sx at_ with
  | none=>rw [q1] at e;cases e
  | some p=>
   rw [q1] at e;have e:(ah sx j).bind (fun q=>bf F p q)=some w:=e
   cases q2:ah sx j with
   | none=>rw [q2] at e;cases e
   | some q=>
    rw [q2] at e;have e:bf F p q=some w:=e;unfold bf at e;split at e
    ·cases z:F p.b with
     | none=>rw [z] at e;cases e
     | some f=>rw [z] at e;cases e;cases ht
    ·cases e
 have i3:Imp s2 ((dq n s2 p.a).foldl (fun st j=>ao (bf F) .back at_ j st) s2):=dz (fun _ _=>cJ ..) _ _;exact (A1.trans i2.1 A2).trans i3.1 A3
theorem T4 {l mo:Nat} (h8:n<=8) (hF:g_ n F (mo:Int)) (g0:cm n s0) (told:∀i,0<i->i<n->(∃v,v<=(l:Int)/\val s0 (true,0,i)=some v)/\∃v,v<=0/\val s0 (true,i,0)=some v) (w0:∀a b,val s0 (false,a,b)=none)
 {T:Nat} (hl:∀t,t<T->t<(run n F s0 t).rows.length) (hb:∀t,t<=T->(run n F s0 t).bar=none):
 MH.Bd n (l:Int) (mo:Int) T (fun t=>(run n F s0 t).rows.length) (fun t a b=>val (run n F s0 t) (true,a,b)) (fun t a b=>val (run n F s0 t) (false,a,b)) (pt n F s0) (pw n F s0):=by
 have gd:=yP hF g0;have gk:∀t a b,pt n F s0 t a b->∃w,ah (run n F s0 t) t=some w/\w.tie=true/\w.a=a/\w.b=b/\val (run n F s0 t) (true,a,b)=some w.v/\run n F s0 (t+1)=dY n F t a b (run n F s0 t):=fun t a b ⟨w,h1,h2,h3,h4,h5⟩=>⟨w,h1,h2,h3,h4,pf h5 h1,Ds h1 h2 h3 h4 h5⟩;have jZ:∀t a b,pw n F s0 t a b->∃w,ah (run n F s0 t) t=some w/\w.tie=false/\w.a=a/\w.b=b/\val (run n F s0 t) (false,a,b)=some w.v/\(run n F s0 t).best (false,a,b)=some t:=fun t a b ⟨w,h1,h2,h3,h4,h5⟩=>⟨w,h1,h2,h3,h4,pf h5 h1,h5⟩;have ends:=OA hF g0 w0 hl hb;have wm:∀t a b v,t<T->val (run n F s0 t) (false,a,b)=some v->∃v',v<=v'/\val (run n F s0 (t+1)) (false,a,b)=some v':=fun t a b v ht h=>by
  have cW:=(rK (gd t) (hb t (by exact bp ht)) h).1;obtain ⟨u',h1,h2⟩:=(uW n F t (run n F s0 t)).2 (false,a,b) v cW h;refine ⟨u',?_,h1⟩;unfold dE at h2;simp at h2;exact h2
 have ZO:∀t a b v,val (run n F s0 t) (false,a,b)=some v->∀d,t+d<=T->∃v',v<=v'/\val (run n F s0 (t+d)) (false,a,b)=some v':=fun t a b v h d=>by
  induction d with
  | zero=>exact fun _=>⟨v,Int.le_refl _,h⟩
  | succ d ih=>
   intro hd;obtain ⟨v1,h1,e1⟩:=ih (by exact bp hd);obtain ⟨v2,h2,e2⟩:=wm (t+d) a b v1 (by exact hd) e1;exact ⟨v2,by lia,e2⟩
 have once:∀(k:Key) (t t':Nat) (x x':aj),t<t'->ah (run n F s0 t) t=some x->ah (run n F s0 t') t'=some x'->x'.key=k->(run n F s0 t).best k=some t->(run n F s0 t).rows.length<=t':=fun k t t' x x' lP hx lO hk dm=>by
  refine fj fun c=>?_;have h1:=rQ (sZ (n:=n) (F:=F) (s:=s0) (bp lP)).1 (by lia) lO;obtain ⟨j,hj,qQ⟩:=(gd t).top t' x' h1;rw [hk,dm] at qQ;cases qQ;lia
 exact
 { n8:=h8
   L0:=Int.natCast_nonneg _
   Bf:=Int.natCast_nonneg _
   go:=hl
   xp:=fun t _=>(uW n F t (run n F s0 t)).1.len
   lt:=fun t a b v ht h=>by
    obtain ⟨x1,x2,x3⟩:=rK (gd t) (hb t ht) h;exact ⟨x2,x3,x1⟩
   known:=fun t a b _ h=>by
    obtain ⟨w,_,_,_,_,h5,_⟩:=gk t a b h;exact ⟨w.v,h5⟩
   iT:=fun t a b ht h=>by
    obtain ⟨w,_,_,_,_,h5,_⟩:=jZ t a b h;obtain ⟨x1,x2,x3⟩:=rK (gd t) (hb t (by exact bp ht)) h5;exact ⟨x2,x3,x1,w.v,h5⟩
   mono:=fun t a b v ht h=>by
    have cW:=(rK (gd t) (hb t (by exact bp ht)) h).1;obtain ⟨u',h1,h2⟩:=(uW n F t (run n F s0 t)).2 (true,a,b) v cW h;refine ⟨u',?_,h1⟩;unfold dE at h2;simp at h2;exact h2
   AK:=wm
   told:=told
   uY:=w0
   sum:=fun t a b c v u ht h hv hu vC=>by
    obtain ⟨w,h1,h2,h3,h4,h5,h6⟩:=gk t a b h;have hv:val (run n F s0 t) (true,a,b)=some v:=hv;rw [hv] at h5;cases h5;have xT:=rK (gd t) (hb t (by exact bp ht)) hu;obtain ⟨x,hx,ex⟩:=(NT hF (gd t) h1 h2 h3 h4 hu xT.1 xT.2.2).1 vC;refine ⟨x,hx,?_⟩;show val (run n F s0 (t+1)) _=_;rw [h6];exact ex
   bar:=fun t a b v u ht h hv hu=>by
    obtain ⟨w,h1,h2,h3,h4,h5,h6⟩:=gk t a b h;have hv:val (run n F s0 t) (true,a,b)=some v:=hv;rw [hv] at h5;cases h5;have xT:=rK (gd t) (hb t (by exact bp ht)) hu;refine fj fun hc=>?_;have:=(NT hF (gd t) h1 h2 h3 h4 hu xT.1 xT.2.2).2 rfl (by lia);rw [<-h6] at this;exact this (hb (t+1) ht)
   one:=fun t a b a' b' _ h h'=>by
    obtain ⟨w,h1,_,h3,h4,_⟩:=gk t a b h;obtain ⟨w',lS,_,qU,oO,_⟩:=gk t a' b' h';rw [h1] at lS;cases lS;exact ⟨h3.symm.trans qU,h4.symm.trans oO⟩
   JH:=fun t a b a' b' _ h h'=>by
    obtain ⟨w,h1,_,h3,h4,_⟩:=jZ t a b h;obtain ⟨w',lS,_,qU,oO,_⟩:=jZ t a' b' h';rw [h1] at lS;cases lS;exact ⟨h3.symm.trans qU,h4.symm.trans oO⟩
   apart:=fun t a b a' b' _ h h'=>by
    obtain ⟨w,h1,h2,_⟩:=gk t a b h;obtain ⟨w',lS,nN,_⟩:=jZ t a' b' h';rw [h1] at lS;cases lS;rw [h2] at nN;cases nN
   cause:=fun t a b ht h=>by
    have h:val (run n F s0 (t+1)) (true,a,b)≠val (run n F s0 t) (true,a,b):=h;obtain ⟨j,w,hj,hw,hk,hv⟩:=Hr (gd t) (gd (t+1)) (uW n F t (run n F s0 t)).1 (k:=(true,a,b)) h;obtain ⟨kt,ka,kb⟩:=iD hk;have hv:val (run n F s0 (t+1)) (true,a,b)=some w.v:=hv;have bG:=hb (t+1) ht;rcases step n F s0 (hl t ht) with ⟨p,hp,mh,j9,e⟩ | ⟨p,hp,mh,zq,e⟩ | ⟨_,_,e⟩
    ·have hw:ah (run n F s0 (t+1)) j=some w:=hw;rw [e] at hw bG;rcases (HN hF (gd t) hp rfl rfl bG j w hj hw).1 kt with ⟨h1,h2,q,hq,hwv⟩ | ⟨h1,h2⟩
     ·rw [ka] at h1;rw [kb] at h2 hq;subst h1;obtain ⟨w',k1,_,_,_,k5,_⟩:=gk t _ _ j9;rw [hp] at k1;cases k1;exact .inl ⟨p.b,p.v,q,w.v,j9,aD h2,k5,hq,hv,by lia⟩
     ·rw [kb] at h1;rw [ka] at h2;subst h1;exact .inr (.inl ⟨p.a,j9,aD h2⟩)
    ·
     have hw:ah (run n F s0 (t+1)) j=some w:=hw;have g':cm n (fu n F t p.a (run n F s0 t)):=by rw [<-e];exact gd (t+1)
     have qT:=bG;rw [e] at hw qT;obtain ⟨B,Fx,hB⟩:∃B:Int,0<=B/\∀x v,val (fu n F t p.a (run n F s0 t)) (true,x,p.a)=some v->-B<=v:=by
      have:∀k,∃B:Int,0<=B/\∀x v,x<k->val (fu n F t p.a (run n F s0 t)) (true,x,p.a)=some v->-B<=v:=by
       intro k
       induction k with
       | zero=>exact ⟨0,Int.le_refl _,fun x v hx=>absurd hx (so _)⟩
       | succ k ih=>
        obtain ⟨B,h0,h1⟩:=ih
        cases q:val (fu n F t p.a (run n F s0 t)) (true,k,p.a) with
        | none=>
         refine ⟨B,h0,fun x v hx hv=>?_⟩
         by_cases e:x=k
         ·rw [e,q] at hv;cases hv
         ·exact h1 x v (by lia) hv
        | some u=>
         refine ⟨max B (-u),by lia,fun x v hx hv=>?_⟩
         by_cases e:x=k
         ·rw [e,q] at hv;cases hv;lia
         ·have:=h1 x v (by lia) hv;lia
      obtain ⟨B,h0,h1⟩:=this n;exact ⟨B,h0,fun x v hv=>h1 x v (rK g' qT hv).2.1 hv⟩
     have ur:=(OL hF (gd t) hp mh rfl hB Fx qT j w hj hw).1 kt;have own:w.a=p.a:=by
      have:=Wz (F:=F) (n:=n) hp j w hj hw kt;exact this
     rw [ka] at own;subst own;exact .inr (.inr ⟨p.b,w.v,zq,hv,ur⟩)
    ·have hw:ah (run n F s0 (t+1)) j=some w:=hw;rw [e] at hw;exact absurd (m_ hw) (by exact Nat.not_lt_of_le hj)
   aA:=fun t a b e v v' ht h hv hte heT zq fg=>by
    obtain ⟨w,h1,h2,h3,h4,h5,h6⟩:=gk t a b h;have hv:val (run n F s0 t) (true,a,b)=some v:=hv;rw [hv] at h5;cases h5;obtain ⟨x,k1,k2,k3,k4,_⟩:=jZ e a b zq;obtain ⟨f,hf⟩:=ends e (by exact bp heT) e x k1 k2;rw [k4] at hf;have cW:=(rK (gd t) (hb t (by exact bp ht)) hv).1;have K4:=hF.num _ _ hf;have hd:aK (cT F) .aA t (run n F s0 t)=take (run n F s0 t) ⟨false,a,b,f.2.2-w.v⟩ .aA [t]:=by
     unfold aK;rw [h1];show put _ (cT F w) _ _=_;unfold cT;rw [if_pos ⟨h2,by rw [h3,h4];exact cW⟩,h4,hf,h3];rfl
    obtain ⟨u,hu,nu⟩:=DL (st:=run n F s0 t) (word:=.aA) (used:=[t]) (w:=⟨false,a,b,f.2.2-w.v⟩) cW;have iz:Imp (aK (cT F) .aA t (run n F s0 t)) (dY n F t a b (run n F s0 t)):=by
     unfold dY;dsimp only;exact (((gc _ _ _ _).trans (dz (fun _ _=>cJ ..) _ _)).trans (dz (fun _ _=>cJ ..) _ _)).trans (dz (fun _ _=>cJ ..) _ _)
    rw [hd] at iz;obtain ⟨u2,xy,Ru⟩:=iz.2 (false,a,b) u cW hu;rw [<-h6] at xy;have ui:t+1<=e\/t=e:=by lia
    rcases ui with ui | ui
    ·obtain ⟨u3,l3,e3⟩:=ZO (t+1) a b u2 xy (e-(t+1)) (by lia);rw [show t+1+(e-(t+1))=e by lia] at e3;have fg:val (run n F s0 e) (false,a,b)=some v':=fg;rw [fg] at e3;cases e3;unfold dE at nu Ru;simp at nu Ru;lia
    ·subst ui;rw [h1] at k1;cases k1;rw [h2] at k2;cases k2
   qc:=fun t a b B ht Fx hB h=>by
    have h:val (run n F s0 (t+1)) (false,a,b)≠val (run n F s0 t) (false,a,b):=h;obtain ⟨j,w,hj,hw,hk,hv⟩:=Hr (gd t) (gd (t+1)) (uW n F t (run n F s0 t)).1 (k:=(false,a,b)) h;obtain ⟨kt,ka,kb⟩:=iD hk;have hv:val (run n F s0 (t+1)) (false,a,b)=some w.v:=hv;have hw:ah (run n F s0 (t+1)) j=some w:=hw;have bG:=hb (t+1) ht;refine ⟨w.v,hv,?_⟩;rcases step n F s0 (hl t ht) with ⟨p,hp,mh,j9,e⟩ | ⟨p,hp,mh,zq,e⟩ | ⟨_,_,e⟩
    ·have hpv: -B<=p.v:=by
      obtain ⟨w',k1,_,_,_,k5,_⟩:=gk t _ _ j9;rw [hp] at k1;cases k1;have cW:=(rK (gd t) (hb t (by exact bp ht)) k5).1;obtain ⟨u',q1,q2⟩:=(uW n F t (run n F s0 t)).2 (true,p.a,p.b) p.v cW k5;have:=hB p.a p.b u' q1;unfold dE at q2;simp at q2;lia
     rw [e] at hw bG;have:=((HN hF (gd t) hp rfl rfl bG j w hj hw).2 kt).1;lia
    ·have hB':∀x v,val (fu n F t p.a (run n F s0 t)) (true,x,p.a)=some v->-B<=v:=fun x v hx=>by
      rw [<-e] at hx;exact hB x p.a v hx
     rw [e] at hw bG;exact (OL hF (gd t) hp mh rfl hB' Fx bG j w hj hw).2 kt
    ·rw [e] at hw;exact absurd (m_ hw) (by exact Nat.not_lt_of_le hj)
   grow:=fun t ht=>by
    have dQ:=hb (t+1) ht;rcases step n F s0 (hl t ht) with ⟨p,hp,mh,_,e⟩ | ⟨p,hp,_,_,e⟩ | ⟨_,_,e⟩
    ·have:=Wf hF (gd t) hp mh (by rw [<-e];exact dQ);show (run n F s0 (t+1)).rows.length<=(run n F s0 t).rows.length+20;rw [e];lia
    ·have:=P5 hF (gd t) hp (by rw [<-e];exact dQ);show (run n F s0 (t+1)).rows.length<=(run n F s0 t).rows.length+20;rw [e];lia
    ·show (run n F s0 (t+1)).rows.length<=_;rw [e];exact Nat.le_add_right _ _
   vE:=fun t ht lz=>by
    rcases step n F s0 (hl t ht) with ⟨p,hp,_,j9,_⟩ | ⟨p,hp,_,_,e⟩ | ⟨_,_,e⟩
    ·exact absurd j9 (lz _ _)
    ·have:=P5 hF (gd t) hp (by rw [<-e];exact hb (t+1) ht);show (run n F s0 (t+1)).rows.length<=(run n F s0 t).rows.length+8;rw [e];lia
    ·show (run n F s0 (t+1)).rows.length<=_;rw [e];exact Nat.le_add_right _ _
   vF:=fun t ht lz hnw=>by
    rcases step n F s0 (hl t ht) with ⟨p,hp,_,j9,_⟩ | ⟨p,hp,_,zq,_⟩ | ⟨_,_,e⟩
    ·exact absurd j9 (lz _ _)
    ·exact absurd zq (hnw _ _)
    ·show (run n F s0 (t+1)).rows.length=_;rw [e]
   fv:=fun t0 t a b v ht h0 h1 hv fg=>by
    have hv:val (run n F s0 t0) (true,a,b)=some v:=hv;have fg:val (run n F s0 t) (true,a,b)=some v:=fg;obtain ⟨j,w,hj,hw,hk,hwv⟩:=A7 (gd t0) hv;obtain ⟨j',w',jX,kD,pA,Ke⟩:=A7 (gd t) fg;have ejj:j=j':=fj fun c=>X8 h1 (gd t0) (gd t) (hb t ht) hj jX c (fg.trans hv.symm);subst ejj;obtain ⟨kt,ka,kb⟩:=iD hk;have Sd:=m_ hw;have KR:j<t:=by
     have h0:(run n F s0 t0).rows.length<=t:=h0;lia
    obtain ⟨p,hp⟩:∃p,ah (run n F s0 j) j=some p:=⟨_,by unfold ah;rw [kK (hl j (by lia))];rfl⟩;have jg:=bY (sZ (n:=n) (F:=F) (s:=s0) (bp KR)).1 hp;rw [kD] at jg;cases jg;obtain ⟨kt',ka',kb'⟩:=iD pA;obtain ⟨i,hi,nK⟩:=(gd j).top j w' hp;rw [pA] at nK;have:=OV (bp KR) (gd j) nK jX;have e:i=j:=by lia
    rw [e] at nK;exact ⟨j,KR,⟨w',hp,kt',ka',kb',nK⟩,by show val (run n F s0 j) (true,a,b)=some v;rw [pf nK hp,Ke]⟩
   drop:=fun t t' a b v v' lP hT h h' hv fg=>by
    obtain ⟨w,h1,h2,h3,h4,h5,_⟩:=gk t a b h;obtain ⟨w',lS,nN,qU,oO,BU,_⟩:=gk t' a b h';have hv:val (run n F s0 t) (true,a,b)=some v:=hv;have fg:val (run n F s0 t') (true,a,b)=some v':=fg;rw [hv] at h5;rw [fg] at BU;cases h5;cases BU;have:=(gd t').drop (hb t' (by exact bp hT)) t t' w w' (bY (sZ (bp lP)).1 h1) lS (by unfold aj.key;rw [h2,h3,h4,nN,qU,oO]) lP;unfold dE at this;rw [h2] at this;simp at this;exact this
   uZ:=fun t t' a b v v' lP hT h h' hv fg=>by
    obtain ⟨w,h1,h2,h3,h4,h5,_⟩:=jZ t a b h;obtain ⟨w',lS,nN,qU,oO,BU,_⟩:=jZ t' a b h';have hv:val (run n F s0 t) (false,a,b)=some v:=hv;have fg:val (run n F s0 t') (false,a,b)=some v':=fg;rw [hv] at h5;rw [fg] at BU;cases h5;cases BU;have:=(gd t').drop (hb t' (by exact bp hT)) t t' w w' (bY (sZ (bp lP)).1 h1) lS (by unfold aj.key;rw [h2,h3,h4,nN,qU,oO]) lP;unfold dE at this;rw [h2] at this;simp at this;exact this
   once:=fun t t' a b lP hT h h'=>by
    obtain ⟨w,h1,h2,h3,h4,_,_⟩:=gk t a b h;obtain ⟨w',lS,nN,qU,oO,_,_⟩:=gk t' a b h';obtain ⟨_,_,_,_,_,h5⟩:=h;exact once (true,a,b) t t' w w' lP h1 lS (by unfold aj.key;rw [nN,qU,oO]) h5
   nh:=fun t t' a b lP hT h h'=>by
    obtain ⟨w,h1,h2,h3,h4,_,h5⟩:=jZ t a b h;obtain ⟨w',lS,nN,qU,oO,_,_⟩:=jZ t' a b h';exact once (false,a,b) t t' w w' lP h1 lS (by unfold aj.key;rw [nN,qU,oO]) h5 }
variable {n:Nat} {F:cq} {s0:St}
theorem XC (h8:n<=8) (hF:g_ n F ((60:Nat):Int)) (g0:cm n s0) (told:∀i,0<i->i<n->(∃v,v<=((60:Nat):Int)/\val s0 (true,0,i)=some v)/\∃v,v<=0/\val s0 (true,i,0)=some v) (w0:∀a b,val s0 (false,a,b)=none) (h0:s0.rows.length<=1000):
 ∃T,((run n F s0 T).rows.length<=T\/(run n F s0 T).bar≠none)/\(∀t,t<T->t<(run n F s0 t).rows.length/\(run n F s0 t).bar=none)/\∀t,t<=T->(run n F s0 t).rows.length<=16000000:=by
 have key:∀T,(∀t,t<T->t<(run n F s0 t).rows.length/\(run n F s0 t).bar=none)->(run n F s0 T).rows.length<=15900000+26:=fun T h=>by
  cases T with
  | zero=>exact eE h0 (by decide)
  | succ T=>
   have b:=(T4 (l:=60) (mo:=60) h8 hF g0 told w0 (T:=T) (fun t ht=>(h t (by exact Nat.le.step ht)).1) (fun t ht=>(h t (by lia)).2)).rows;have b:(run n F s0 T).rows.length<=(run n F s0 0).rows.length+1568*(7*(7*(60+1)+7*(60+1)+1))+20*(56*(2*60+1))+8*((56*(2*60+1)+56*(60+60+1))*56+(56*(60+2*60+1)+56)):=b;have e0:(run n F s0 0).rows.length=s0.rows.length:=rfl;have l:=VH (n:=n) (F:=F) (at_:=T) (s:=run n F s0 T) h8;have l:(run n F s0 (T+1)).rows.length<=(run n F s0 T).rows.length+26:=l;rw [e0] at b;lia
 have hex:∃T,(run n F s0 T).rows.length<=T\/(run n F s0 T).bar≠none:=fj fun hn=>by
  have all:∀t,t<(run n F s0 t).rows.length/\(run n F s0 t).bar=none:=fun t=>⟨fj fun c=>hn ⟨t,.inl (by exact mH c)⟩,fj fun c=>hn ⟨t,.inr c⟩⟩;have h1:=key 16000000 fun t _=>all t;have h2:=(all 16000000).1;lia
 have least:∀N,(∃T,T<=N/\((run n F s0 T).rows.length<=T\/(run n F s0 T).bar≠none)/\∀t,t<T->t<(run n F s0 t).rows.length/\(run n F s0 t).bar=none)\/∀t,t<=N->t<(run n F s0 t).rows.length/\(run n F s0 t).bar=none:=fun N=>by
  induction N with
  | zero=>
   by_cases c:(run n F s0 0).rows.length<=0\/(run n F s0 0).bar≠none
   ·exact .inl ⟨0,az _,c,fun t ht=>absurd ht (so _)⟩
   ·refine .inr fun t ht=>?_;rw [show t=0 by lia];exact ⟨fj fun z=>c (.inl (by exact mH z)),fj fun z=>c (.inr z)⟩
  | succ N ih=>
   rcases ih with ⟨T,h1,h2,h3⟩ | h
   ·exact .inl ⟨T,by exact Nat.le.step h1,h2,h3⟩
   ·by_cases c:(run n F s0 (N+1)).rows.length<=N+1\/(run n F s0 (N+1)).bar≠none
    ·exact .inl ⟨N+1,az _,c,fun t ht=>h t (by exact Nat.le_of_lt_succ ht)⟩
    ·refine .inr fun t ht=>?_
     by_cases e:t=N+1
     ·rw [e];exact ⟨fj fun z=>c (.inl (by lia)),fj fun z=>c (.inr z)⟩
     ·exact h t (by lia)
 obtain ⟨T0,m7⟩:=hex;rcases least T0 with ⟨T,_,h2,h3⟩ | h
 ·exact ⟨T,h2,h3,fun t ht=>eE (key t fun s hs=>h3 s (by lia)) (by lia)⟩
 ·have:=h T0 (az _);rcases m7 with z | z
  ·omega
  ·exact absurd this.2 z
end MU
set_option maxRecDepth 100000
namespace L2
theorem Mq {c A B:Prop} [Decidable c] (hc:¬c) (h:A):if (!decide c)=true then A else B:=by
 rw [fY hc];exact mL h
end L2
namespace Y0
open PySem L2
def lZ (tie:Bool):Str:=if tie=true then "tie" else "wait"
def lK (x:MU.aj):List V:=[.str (lZ x.tie),.int (x.a:Int),.int (x.b:Int),.int x.v]
def iq (H:Hp) (q:Addr) (x:MU.aj):Prop:=H q=some (.tup (lK x))
theorem iq.same (h:iq H q x) (s:aI H H'):iq H' q x:=s _ _ h
structure mS (H:Hp) (d:Addr) (F:MU.cq):Prop where
 at_:∃kvs:List (Key×V),H d=some (.dK kvs)/\(kvs.length<=100/\∀kv∈kvs,∃e:Nat,kv.1=Sum.inl (e:Int))/\(∀e:Nat,F e=none->fq kvs (.inl (e:Int))=none)/\∀(e:Nat) f,F e=some f->∃p,fq kvs (.inl (e:Int))=some (.ref p)/\H p=some (.tup [.int (f.1:Int),.int f.2.1,.int f.2.2])
theorem mS.same (h:mS H d F) (s:aI H H'):mS H' d F:=by
 obtain ⟨kvs,h1,h2,h3,h4⟩:=h.at_;refine ⟨kvs,s _ _ h1,h2,h3,fun e f hf=>?_⟩;obtain ⟨p,q1,q2⟩:=h4 e f hf;exact ⟨p,q1,s _ _ q2⟩
def mP (H:Hp) (Q:VK) (o:Option MU.aj):Prop:=(o=none->∀H',aI H H'->Q .aU H')/\∀x,o=some x->∀r H',H r=none->aI H H'->iq H' r x->Q (.ref r) H'
theorem mP.no (h:mP H Q o) (e:o=none):Q .aU H:=h.1 e H (aI.refl _)
theorem mP.yes (h:mP H Q o) (e:o=some x) (hr:H r=none):Q (.ref r) (upd H r (.tup (lK x))):=h.2 x e r _ hr (aG hr) ai
theorem sM {a b:Nat}:decide (V.int (a:Int)=V.int (b:Int))=decide (a=b):=decide_eq_decide.mpr ⟨fun q=>Int.ofNat.inj (V.int.inj q),fun q=>by rw [q]⟩
structure IB (mg:Str->Option Value):Prop where
 min:mg "min"=none
def MI:Sp:=fun vs H Q _=>∃d q F x,vs=[.ref d,.ref q]/\mS H d F/\iq H q x/\x.tie=true/\mP H Q (MU.cT F x)
def MQ:Sp:=fun vs H Q _=>∃d q F x,vs=[.ref d,.ref q]/\mS H d F/\iq H q x/\x.tie=true/\mP H Q (MU.da F x)
def Mn:Sp:=fun vs H Q _=>∃p q x y,vs=[.ref p,.ref q]/\iq H p x/\iq H q y/\x.tie=true/\y.tie=true/\mP H Q (MU.a7 x y)
def MS:Sp:=fun vs H Q _=>∃d q F x fa,vs=[.ref d,.ref q]/\mS H d F/\iq H q x/\x.tie=false/\F x.b=some fa/\mP H Q (MU.df F x)
def MD:Sp:=fun vs H Q _=>∃d p q F x y fa,vs=[.ref d,.ref p,.ref q]/\mS H d F/\iq H p x/\iq H q y/\x.tie=false/\y.tie=true/\F x.b=some fa/\mP H Q (MU.bf F x y)
def N0:Sp:=fun vs H Q _=>∃d q F x fa,vs=[.ref d,.ref q]/\mS H d F/\iq H q x/\x.tie=false/\F x.b=some fa/\mP H Q (MU.cS F x)
def ME:Sp:=fun vs H Q _=>∃q x,vs=[.ref q]/\iq H q x/\Q (.bl (decide (MU.iA x))) H
theorem QE:cG ["falls","tie","end"] ["falls","tie"] (aZ dM):=cV
theorem tW (F:Fn K mg "by_late" dM ["falls","tie"] f fd):ar P w K mg base a9 1 f fd ["falls","tie"] MI:=by
 refine F.F.ix QE fun _ A _ s H _ Q E hr h=>?_
 ·obtain ⟨d,q,Fa,x,rfl,FA,hw,ht,G⟩:=h;have hu:=lY hr;refine ⟨_,a_ (cA 2 QE.nd (a8 (pv 1)))
   (a_ (dR (PW.pt (uH (wc (DC hu (pv 2) (pv 0)) (by with_unfolding_all rfl)) (yG (dh gu (a8 (pv 1)) (pv 2))))) (aE (cC mY)) dZ)
   (aE (cC (dB (jz eZ (a8 (pv 1)) (pv 2) (bP iQ (a8 (nc hu (pv 0) (pv 2) (fun _ _=>rfl))) (a8 (pv 1)))))))),?_⟩
  obtain ⟨kvs,hd,hl,f0,f1⟩:=FA.at_;refine ⟨_,rfl,ay hw rfl ⟨_,rfl,_,rfl,d,_,rfl,fm.k (k:=Sum.inl (x.b:Int)) hd,_,rfl,?_⟩⟩
  cases hf:Fa x.b with
  | none=>
   rw [f0 _ hf];refine mL (G.no ?_);unfold MU.cT;rw [hf];split<;>rfl
  | some fa=>
   obtain ⟨p,e1,e2⟩:=f1 _ _ hf;rw [e1];refine ip ⟨_,rfl,ay hw rfl ⟨_,rfl,rfl,_,rfl,?_⟩⟩;rw [sM]
   by_cases c:x.a=x.b
   ·refine jc c (G.no ?_);unfold MU.cT;rw [if_neg fun z=>z.2 c]
   ·refine kQ c ?_;have hg:MU.cT Fa x=some ⟨false,x.a,x.b,fa.2.2-x.v⟩:=by
     unfold MU.cT;rw [if_pos ⟨ht,c⟩,hf];rfl
    refine ⟨_,rfl,ay hw rfl ⟨_,rfl,_,rfl,_,rfl,d,_,rfl,e1▸fm.k (k:=Sum.inl (x.b:Int)) hd,?_⟩⟩;refine ay e2 rfl ⟨_,rfl,ay hw rfl ⟨_,_,rfl,rfl,dc rfl,fun r aJ=>G.yes hg aJ⟩⟩
theorem Mi:cG ["falls","tie","end"] ["falls","tie"] (aZ dJ):=cV
theorem tP (F:Fn K mg "by_soon" dJ ["falls","tie"] f fd):ar P w K mg base a9 1 f fd ["falls","tie"] MQ:=by
 refine F.F.ix Mi fun _ A _ s H _ Q E hr h=>?_
 ·obtain ⟨d,q,Fa,x,rfl,FA,hw,ht,G⟩:=h;have hu:=lY hr;refine ⟨_,a_ (cA 2 Mi.nd (a8 (pv 1)))
   (a_ (dR (PW.pt (uH (wc (DC hu (pv 2) (pv 0)) (by with_unfolding_all rfl)) (uH (dh gu (a8 (pv 1)) (pv 2)) (yG (dh Zq (a8 (pv 1)) aw))))) (aE (cC mY)) dZ)
   (aE (cC (dB (jz eZ (a8 (nc hu (pv 0) (pv 2) (fun _ _=>rfl))) (a8 (pv 1)) (bP g9 (a8 (nc hu (pv 0) (pv 2) (fun _ _=>rfl))) (a8 (pv 1)))))))),?_⟩
  obtain ⟨kvs,hd,hl,f0,f1⟩:=FA.at_;refine ⟨_,rfl,ay hw rfl ⟨_,rfl,_,rfl,d,_,rfl,fm.k (k:=Sum.inl (x.a:Int)) hd,_,rfl,?_⟩⟩
  cases hf:Fa x.a with
  | none=>
   rw [f0 _ hf];refine mL (G.no ?_);unfold MU.da;rw [hf];split<;>rfl
  | some fa=>
   obtain ⟨p,e1,e2⟩:=f1 _ _ hf;rw [e1];refine ip ⟨_,rfl,ay hw rfl ⟨_,rfl,rfl,_,rfl,?_⟩⟩;rw [sM]
   by_cases c:x.b=x.a
   ·refine jc c (G.no ?_);unfold MU.da;rw [if_neg fun z=>z.2.1 c.symm]
   ·refine kQ c ⟨_,rfl,ay hw rfl ⟨_,_,rfl,rfl,_,rfl,?_⟩⟩
    by_cases c2:x.v<0
    ·refine kQ (by exact Int.not_le.mpr c2) ?_;have hg:MU.da Fa x=some ⟨true,fa.1,x.b,fa.2.1+x.v⟩:=by
      unfold MU.da;rw [if_pos ⟨ht,fun z=>c z.symm,c2⟩,hf];rfl
     refine ⟨_,rfl,_,rfl,d,_,rfl,e1▸fm.k (k:=Sum.inl (x.a:Int)) hd,?_⟩;refine ay e2 rfl ⟨_,rfl,ay hw rfl ⟨_,rfl,_,rfl,d,_,rfl,e1▸fm.k (k:=Sum.inl (x.a:Int)) hd,?_⟩⟩;refine ay e2 rfl ⟨_,rfl,ay hw rfl ⟨_,_,rfl,rfl,dc rfl,fun r aJ=>G.yes hg aJ⟩⟩
    ·refine jc (by lia) (G.no ?_);unfold MU.da;rw [if_neg fun z=>c2 z.2.2]
theorem T7:cG ["first","second"] ["first","second"] (aZ e_):=cV
theorem w_ (F:Fn K mg "by_sum" e_ ["first","second"] f fd):ar P w K mg base a9 1 f fd ["first","second"] Mn:=by
 refine F.F.ix T7 fun _ A _ s H _ Q E hr h=>?_
 ·obtain ⟨p,q,x,y,rfl,hx,hy,tx,ty,G⟩:=h;refine ⟨_,a_ (dR (dh CJ (a8 (pv 0)) (a8 (pv 1))) (aE (cC mY)) dZ)
   (aE (cC (dB (jz eZ (a8 (pv 0)) (a8 (pv 1)) (bP g9 (a8 (pv 0)) (a8 (pv 1))))))),?_⟩
  refine ⟨_,rfl,ay hx rfl ⟨_,rfl,ay hy rfl ⟨rfl,_,rfl,?_⟩⟩⟩;rw [sM]
  by_cases c:x.b=y.a
  ·refine uE c ?_;have hg:MU.a7 x y=some ⟨true,x.a,y.b,x.v+y.v⟩:=if_pos ⟨tx,ty,c⟩;exact ⟨_,rfl,ay hx rfl ⟨_,rfl,ay hy rfl ⟨_,rfl,ay hx rfl ⟨_,rfl,ay hy rfl ⟨_,_,rfl,rfl,dc rfl,fun r aJ=>G.yes hg aJ⟩⟩⟩⟩⟩
  ·exact Mq c (G.no (if_neg fun z=>c z.2.2))
theorem GU {a b:Int}:(if b<a then b else a)=min a b:=by
 rw [Int.min_def]
 by_cases c:b<a
 ·rw [if_pos c,if_neg (by exact Int.not_le.mpr c)]
 ·rw [if_neg c,if_pos (by lia)]
theorem Nv:cG ["falls","wait","fall"] ["falls","wait"] (aZ dH):=cV
theorem tN (F:Fn K mg "by_sure" dH ["falls","wait"] f fd) (T:IB mg):ar P w K mg base a9 1 f fd ["falls","wait"] MS:=by
 refine F.F.ix Nv fun _ A _ s H _ Q E hr h=>?_
 ·obtain ⟨d,q,Fa,x,fa,rfl,FA,hw,ht,hf,G⟩:=h;have hu:=lY hr;refine ⟨_,a_ (cA 2 Nv.nd (nc hu (pv 0) (a8 (pv 1)) (fun _ _=>rfl)))
   (aE (cC (dB (jz eZ (a8 (pv 1)) (a8 (pv 2)) (sO sR (jx (yT rfl) (by rfl) T.min (by decide+kernel) (bw (a8 (pv 1)) (a8 (pv 2))))))))),?_⟩
  obtain ⟨kvs,hd,hl,f0,f1⟩:=FA.at_;obtain ⟨p,e1,e2⟩:=f1 _ _ hf;have hg:MU.df Fa x=some ⟨true,x.a,fa.1,-min x.v fa.2.1⟩:=by
   unfold MU.df;rw [if_pos ht,hf];rfl
  refine ⟨_,rfl,_,rfl,ay hw rfl ⟨d,_,rfl,e1▸fm.k (k:=Sum.inl (x.b:Int)) hd,?_⟩⟩;refine ⟨_,rfl,ay hw rfl ⟨_,rfl,ay e2 rfl ⟨_,rfl,ay hw rfl ⟨_,rfl,ay e2 rfl ⟨_,_,rfl,_,rfl,dc rfl,fun r aJ=>?_⟩⟩⟩⟩⟩;have:=G.yes hg aJ;rw [GU];exact this
theorem Nu:cG ["falls","wait","tie","end"] ["falls","wait","tie"] (aZ dN):=cV
theorem ub (F:Fn K mg "by_back" dN ["falls","wait","tie"] f fd) (T:IB mg):ar P w K mg base a9 1 f fd ["falls","wait","tie"] MD:=by
 refine F.F.ix Nu fun _ A _ s H _ Q E hr h=>?_
 ·obtain ⟨d,p,q,Fa,x,y,fa,rfl,FA,hx,hy,tx,ty,hf,G⟩:=h;have hu:=lY hr;refine ⟨_,a_ (cA 3 Nu.nd (a8 (pv 1)))
   (a_ (dR (PW.pt (uH (dh CJ (a8 (pv 2)) (a8 (pv 1))) (yG (dh gu (a8 (pv 2)) (pv 3))))) (aE (cC mY)) dZ)
   (aE (cC (dB (jz eZ (a8 (pv 2)) (pv 3) (bP iQ (jx (yT rfl) (by rfl) T.min (by decide+kernel) (bw (a8 (pv 1)) (a8 (nc hu (pv 0) (pv 3) (fun _ _=>rfl))))) (a8 (pv 2)))))))),?_⟩
  obtain ⟨kvs,hd,hl,f0,f1⟩:=FA.at_;obtain ⟨pp,e1,e2⟩:=f1 _ _ hf;refine ⟨_,rfl,ay hx rfl ⟨_,rfl,ay hy rfl ⟨_,rfl,ay hx rfl ⟨rfl,_,rfl,?_⟩⟩⟩⟩;rw [sM]
  by_cases c:y.b=x.a
  ·refine uE c ⟨_,rfl,ay hy rfl ⟨_,rfl,rfl,_,rfl,?_⟩⟩;rw [sM]
   by_cases c2:y.a=x.b
   ·exact jc c2 (G.no (if_neg fun z=>z.2.2.2 c2))
   ·refine kQ c2 ?_;have hg:MU.bf Fa x y=some ⟨false,y.a,x.b,min x.v fa.2.2-y.v⟩:=by
     unfold MU.bf;rw [if_pos ⟨tx,ty,c,c2⟩,hf];rfl
    refine ⟨_,rfl,ay hy rfl ⟨_,rfl,_,rfl,ay hx rfl ⟨_,rfl,_,rfl,d,_,rfl,e1▸fm.k (k:=Sum.inl (x.b:Int)) hd,?_⟩⟩⟩;refine ay e2 rfl ⟨_,_,rfl,_,rfl,ay hy rfl ⟨_,_,rfl,rfl,dc rfl,fun r aJ=>?_⟩⟩;have:=G.yes hg aJ;rw [GU];exact this
  ·exact Mq c (G.no (if_neg fun z=>c z.2.2.1))
theorem HI:cG ["falls","wait","end","other"] ["falls","wait"] (aZ di):=cV
theorem qx (F:Fn K mg "by_cross" di ["falls","wait"] f fd) (T:IB mg):ar P w K mg base a9 1 f fd ["falls","wait"] N0:=by
 refine F.F.ix HI fun _ A _ s H _ Q E hr h=>?_
 ·obtain ⟨d,q,Fa,x,fa,rfl,FA,hw,ht,hf,G⟩:=h;have hu:=lY hr;refine ⟨_,a_ (cA 2 HI.nd (a8 (pv 1)))
   (a_ (dR (PW.pt (uH (wc (DC hu (a8 (pv 1)) (pv 0)) (by with_unfolding_all rfl)) (uH (dh gu (a8 (pv 1)) (pv 2)) (yG (dh mR (a8 (pv 1)) aw))))) (aE (cC mY)) dZ)
   (a_ (cA 3 HI.nd (nc hu (pv 0) (a8 (pv 1)) (fun _ _=>rfl)))
   (aE (cC (dB (jz eZ (a8 (pv 3)) (pv 2) (bP iQ (jx (yT rfl) (by rfl) T.min (by decide+kernel) (bw (a8 (pv 1)) (a8 (nc hu (pv 0) (pv 2) (fun _ _=>rfl))))) (a8 (pv 3))))))))),?_⟩
  obtain ⟨kvs,hd,hl,f0,f1⟩:=FA.at_;obtain ⟨pp,e1,e2⟩:=f1 _ _ hf;refine ⟨_,rfl,ay hw rfl ⟨_,rfl,ay hw rfl ⟨_,rfl,d,_,rfl,fm.k (k:=Sum.inl (x.a:Int)) hd,_,rfl,?_⟩⟩⟩
  cases ho:Fa x.a with
  | none=>
   rw [f0 _ ho];refine mL (G.no ?_);unfold MU.cS;rw [ho];split<;>rfl
  | some oa=>
   obtain ⟨po,o1,o2⟩:=f1 _ _ ho;rw [o1];refine ip ⟨_,rfl,ay hw rfl ⟨_,rfl,rfl,_,rfl,?_⟩⟩;rw [sM]
   by_cases c:x.a=x.b
   ·refine jc c (G.no ?_);unfold MU.cS;rw [if_neg fun z=>z.2.1 c]
   ·refine kQ c ⟨_,rfl,ay hw rfl ⟨_,_,rfl,rfl,_,rfl,?_⟩⟩
    by_cases c2:0<x.v
    ·refine kQ (by exact Int.not_le.mpr c2) ?_;have hg:MU.cS Fa x=some ⟨false,oa.1,x.b,min x.v fa.2.2-oa.2.1⟩:=by
      unfold MU.cS;rw [if_pos ⟨ht,c,c2⟩,ho,hf];rfl
     refine ⟨_,rfl,_,rfl,ay hw rfl ⟨d,_,rfl,o1▸fm.k (k:=Sum.inl (x.a:Int)) hd,?_⟩⟩;refine ⟨_,rfl,ay o2 rfl ⟨_,rfl,_,rfl,ay hw rfl ⟨_,rfl,_,rfl,d,_,rfl,e1▸fm.k (k:=Sum.inl (x.b:Int)) hd,?_⟩⟩⟩;refine ay e2 rfl ⟨_,_,rfl,_,rfl,ay o2 rfl ⟨_,_,rfl,rfl,dc rfl,fun r aJ=>?_⟩⟩;have:=G.yes hg aJ;rw [GU];exact this
    ·refine jc (by lia) (G.no ?_);unfold MU.cS;rw [if_neg fun z=>c2 z.2.2]
theorem T6:cG ["what"] ["what"] (aZ bj):=cV
theorem Dr:decide (V.str (lZ t)=V.str "tie")=t:=by
 cases t
 ·exact fY fun q=>absurd (V.str.inj q) (by decide+kernel)
 ·exact jt rfl
theorem ua (F:Fn K mg "bars_every_hand" bj ["what"] f fd):ar P w K mg base a9 1 f fd ["what"] ME:=by
 refine F.F.ix T6 fun _ A _ s H _ Q E hr h=>?_
 ·obtain ⟨q,x,rfl,hw,k⟩:=h;refine ⟨_,aE (cC (Ah (vU gu (a8 (pv 0)) eZ) (Ah (vU gu (a8 (pv 0)) (a8 (pv 0))) (Ai (vU uG (a8 (pv 0)) aw))))),?_⟩;have eb:∀b:Bool,b=decide (MU.iA x)->Q (.bl b) H:=fun b e=>by rw [e];exact k
  refine ⟨_,rfl,ay hw rfl ⟨rfl,_,rfl,?_⟩⟩;rw [Dr]
  cases ht:x.tie with
  | false=>exact ip (eb _ (fY fun z=>by have:=z.1;rw [ht] at this;cases this).symm)
  | true=>
   refine mL ⟨_,rfl,ay hw rfl ⟨_,rfl,ay hw rfl ⟨rfl,_,rfl,?_⟩⟩⟩;rw [sM]
   by_cases c:x.a=x.b
   ·refine jc c ⟨_,rfl,ay hw rfl ⟨_,_,rfl,rfl,eb _ ?_⟩⟩;exact decide_eq_decide.mpr ⟨fun z=>⟨ht,c,z⟩,fun z=>z.2.2⟩
   ·exact kQ c (eb _ (fY fun z=>c z.2.1).symm)
def M6:List Int->Option (Nat×Int×Int)
 | [a,_,l,m]=>some (a.toNat,l,m)
 | _=>none
def eC (F:List (List Int)):MU.cq:=fun e=>(F.find? fun r=>decide (r[1]?=some (e:Int))).bind M6
theorem Qr {F:List (List Int)} {e:Nat} (h:∀r∈F,r[1]?≠some (e:Int)):eC F e=none:=by
 unfold eC;have:(F.find? fun r=>decide (r[1]?=some (e:Int)))=none:=List.find?_eq_none.mpr fun r hr=>by simpa using h r hr
 rw [this];rfl
theorem cB.find {n la:Int} {T F:List (List Int)} (h:cB n la T F) {e:Nat} {f:Nat×Int×Int} (hf:eC F e=some f):∃a l m:Int,[a,(e:Int),l,m]∈F/\f=(a.toNat,l,m)/\0<=a/\a<n/\0<(e:Int)/\(e:Int)<n/\a≠(e:Int)/\1<=l/\l<=m/\m<=60:=by
 unfold eC at hf
 cases q:F.find? fun r=>decide (r[1]?=some (e:Int)) with
 | none=>rw [q] at hf;cases hf
 | some r=>
  rw [q] at hf;have hf:M6 r=some f:=hf;have hm:=List.mem_of_find?_eq_some q;have hp:=List.find?_some q;obtain ⟨a,b,l,m,rfl,x1,x2,x3,x4,x5,x6,x7,x8⟩:=h.f r hm;have hb:some b=some (e:Int):=of_decide_eq_true hp;cases hb;cases hf;exact ⟨a,l,m,hm,rfl,x1,x2,x3,x4,x5,x6,x7,x8⟩
theorem cB.ic {n la:Int} {T F:List (List Int)} (h:cB n la T F) {a l m:Int} {e:Nat} (hm:[a,(e:Int),l,m]∈F):eC F e=some (a.toNat,l,m):=by
 obtain ⟨i,hi⟩:=oU.mp hm;unfold eC
 cases q:F.find? fun r=>decide (r[1]?=some (e:Int)) with
 | none=>
  have:=List.find?_eq_none.mp q _ hm;simp at this
 | some r=>
  have Sa:=List.mem_of_find?_eq_some q;obtain ⟨j,hj⟩:=oU.mp Sa;have hp:r[1]?=some (e:Int):=of_decide_eq_true (List.find?_some (p:=fun r=>decide (r[1]?=some (e:Int))) q);have ij:=h.one i j _ _ hi hj (by rw [hp];rfl);subst ij;rw [hi] at hj;cases hj;rfl
theorem cB.nO {n:Nat} {la:Int} {T F:List (List Int)} (h:cB (n:Int) la T F):MU.g_ n (eC F) ((60:Nat):Int):=by
 refine ⟨fun e f hf=>?_,fun e f hf=>?_,fun e f hf=>?_⟩
 ·obtain ⟨a,l,m,hm,rfl,x1,x2,x3,x4,_⟩:=h.find hf;exact ⟨by show a.toNat<n;lia,by lia⟩
 ·obtain ⟨a,l,m,hm,rfl,x1,x2,x3,x4,_⟩:=h.find hf;refine Qr fun r hr=>?_;have:=h.own _ hm r hr;show r[1]?≠some ((a.toNat:Nat):Int);rw [show ((a.toNat:Nat):Int)=a by lia];exact fun z=>this z.symm
 ·obtain ⟨a,l,m,hm,rfl,x1,x2,x3,x4,x5,x6,x7,x8⟩:=h.find hf;exact ⟨x6,x7,x8⟩
theorem Wh {kvs:List (Key×V)} {k:Key} {v:V} {kv:Key×V} (h:kv∈dU kvs k v):kv.1=k\/∃qC∈kvs,kv.1=qC.1:=by
 unfold dU at h;split at h
 ·obtain ⟨qC,h0,rfl⟩:=eD.mp h;refine .inr ⟨qC,h0,?_⟩;split<;>rfl
 ·rcases i8.mp h with h | h
  ·exact .inr ⟨kv,h,rfl⟩
  ·rw [iK.mp h];exact .inl rfl
def Ny (C:Addr):Sp:=fun vs H Q _=>∃p n la T F,vs=[.ref p]/\jG C H p n la T F/\cB n la T F/\∀d H',H d=none->aI H H'->mS H' d (eC F)->Q (.ref d) H'
abbrev nBe:List Str:=["web","found","one","other","least","most"]
theorem yr:cG nBe ["web"] (aZ b_):=cV
theorem qz {f C fF:Addr} {fd zF:FuncData} (F:Fn K mg "falls_by_end" b_ ["web"] f fd) (TC:nY K mg C) (mF:jk K C "falls" fF) (bF:eY K zF ["self"] []) (GF:ar P w K mg base a9 1 fF zF ["self"] (yB C fun _ F=>F)):
 ar P w K mg base a9 2 f fd ["web"] (Ny C):=by
 refine F.F.ix yr fun _ A _ s H _ Q E hr h=>?_
 ·obtain ⟨p,n,la,rT,rF,rfl,W0,af,k⟩:=h;have hu:=lY hr;refine ⟨_,cx (cA 1 yr.nd OT)
   (cx (jw PassesOwn.never rfl (jq (yO (pv 0) TC.cl mF GF hr bF .nil gv))
    (uK rfl (dX (bS 2 yr.nd) (dX (bS 3 yr.nd) (dX (bS 4 yr.nd) (dX (bS 5 yr.nd) rM)))))
    (aE (Dd hu (pv 1) (pv 3) (dB (iw (pv 2) (pv 4) (pv 5))) rfl)))
   (aE (cC (pv 1)))),?_⟩
  refine fun N1 c1 d hd=>c1 _ _ ?_;have s1:=aG (o:=.dK []) hd;have e1:upd H d (.dK []) d=some (.dK []):=ai;generalize upd H d (.dK [])=H1 at*;obtain ⟨dx,ta,fa,ep,_,_⟩:=id W0;have nf:(og n la ta fa).lookup ("falls":Str)=none:=zW _ _ _ _ (by decide+kernel) (by decide+kernel) (by decide+kernel) (by decide+kernel);refine fun N2 c2=>⟨_,rfl,p,dx,_,rfl,s1 _ _ ep,nf,p,n,la,rT,rF,rfl,W0.same s1,fun l H2 hl s2 R2=>?_⟩;obtain ⟨qs,R⟩:=R2;have R:fC H2 l qs rF:=R;refine ⟨l,rfl,⟨_,ax.of R.1⟩,?_⟩;have fl:=af.fl;have sd:H2 d=some (.dK []):=s2 _ _ e1;have hdH:H d=none:=hd;refine om (K:=K) (a:=l) (xs:=qs.map V.ref) (fun i aa H'=>∃v1 v2 v3 v4 kvs,aa=[some (.ref p),some (.ref d),v1,v2,v3,v4]/\H' d=some (.dK kvs)/\(kvs.length<=i/\∀kv∈kvs,∃e:Nat,kv.1=Sum.inl (e:Int))/\(∀e:Nat,(∀r∈rF.take i,r[1]?≠some (e:Int))->fq kvs (.inl (e:Int))=none)/\
   (∀a b le mo:Int,[a,b,le,mo]∈rF.take i->∃q,fq kvs (.inl b)=some (.ref q)/\H' q=some (.tup [.int a,.int le,.int mo]))/\∀b o,H2 b=some o->b≠d->H' b=some o)
   ⟨none,none,none,none,[],rfl,sd,⟨az _,fun kv h=>nomatch h⟩,(fun e _=>rfl),(fun a b le mo h=>by simp at h),fun b o e _=>e⟩ ?_ ?_ ?_
  ·rintro i aa H3 _ ⟨v1,v2,v3,v4,kvs,rfl,_,_,_,_,kp⟩;exact ax.of (kp _ _ R.1 (cH R.1 sd nofun))
  ·rintro i x aa H3 hx ⟨v1,v2,v3,v4,kvs,rfl,ed,⟨hlen,mz⟩,h0,h1,kp⟩;obtain ⟨q,r,rfl,hq,aJ,iG⟩:=R.get hx;obtain ⟨a',b',le,mo,rfl,x1,x2,x3,x4,_⟩:=af.f r (gq aJ);have hi:i<rF.length:=(gO.mp aJ).1;refine ⟨q,_,rfl,c_.of (kp _ _ iG (cH iG sd nofun)),rfl,_,_,rfl,_,_,rfl,_,_,rfl,_,_,rfl,rfl,?_⟩;refine ⟨_,rfl,_,rfl,_,rfl,dc rfl,fun t ht=>?_⟩;have td:t≠d:=aD (aR ed ht);refine ⟨_,rfl,_,rfl,d,_,rfl,rz.k (k:=Sum.inl b') (by rw [ak (aD td)];exact ed) (gK (by lia)),?_⟩;have tk:rF.take (i+1)=rF.take i++[[a',b',le,mo]]:=by rw [lD,aJ];rfl
   refine ⟨_,_,_,_,_,rfl,ai,⟨eE (yX _ _ _) (by lia),fun kv ee=>?_⟩,fun e he=>?_,fun a b l2 m2 hm=>?_,fun b o e ne=>?_⟩
   ·rcases Wh ee with z | ⟨qC,z0,z⟩
    ·exact ⟨b'.toNat,by rw [z,lE (by exact f_ x3)]⟩
    ·rw [z];exact mz qC z0
   ·rw [tk] at he;have cW:b'≠(e:Int):=fun z=>he [a',b',le,mo] (kJ _ eG) (by rw [<-z];rfl);rw [A6,if_neg (fun z=>cW (Sum.inl.inj z).symm)];exact h0 e fun r hr=>he r (iL _ hr)
   ·rw [tk] at hm;rcases i8.mp hm with hm | hm
    ·have zC:b≠b':=fun z=>by
      obtain ⟨j,hj⟩:=oU.mp hm;have Sd:j<i:=by
       have:=(gO.mp hj).1;rw [ie] at this;lia
      have jX:rF[j]?=some [a,b,l2,m2]:=by
       rw [List.getElem?_take] at hj;rw [if_pos Sd] at hj;exact hj
      have:=af.one j i _ _ jX aJ (by rw [z];rfl);lia
     obtain ⟨q',Fb,xD⟩:=h1 a b l2 m2 hm;refine ⟨q',by rw [A6,if_neg (fun z=>zC (Sum.inl.inj z))];exact Fb,?_⟩;rw [ak (cH xD ed nofun),ak (aR xD ht)];exact xD
    ·have hm:=iK.mp hm;cases hm;refine ⟨t,by rw [A6,if_pos rfl],?_⟩;rw [ak td,ai]
   ·rw [ak ne,ak (aR (kp _ _ e ne) ht)];exact kp _ _ e ne
  ·rintro aa H3 ⟨v1,v2,v3,v4,kvs,rfl,ed,hlen,h0,h1,kp⟩;have hle:rF.take (qs.map V.ref).length=rF:=by rw [aB,R.len];exact jB
   rw [hle] at h0 h1;rw [aB,R.len] at hlen;refine c2 _ _ ⟨_,rfl,k d H3 hd (fun b o e=>kp _ _ (s2 _ _ (s1 _ _ e)) (aR e hdH)) ⟨kvs,ed,by lia,fun e he=>h0 e fun r hr z=>?_,fun e f hf=>?_⟩⟩
   ·obtain ⟨a',b',le,mo,rfl,_⟩:=af.f r hr;have z:some b'=some (e:Int):=z;cases z;rw [af.ic hr] at he;cases he
   ·obtain ⟨a,l',m',hm,rfl,x1,_⟩:=af.find hf;obtain ⟨q,Fb,xD⟩:=h1 _ _ _ _ hm;refine ⟨q,Fb,?_⟩;rw [xD];show some (HO.tup [.int a,.int l',.int m'])=some (HO.tup [.int ((a.toNat:Nat):Int),.int l',.int m']);rw [show ((a.toNat:Nat):Int)=a by lia]
end Y0
namespace L2
open PySem PySem.Spec PyProof.Rows
def vZ:List Value->List Str->Bool
 | [],[]=>true
 | .str x _::vs,s::ss=>decide (x=s) && vZ vs ss
 | _,_=>false
theorem PY:∀{vs:List Value} {ss:List Str},vZ vs ss=true->bq (ss.map V.str) vs
 | [],[],_=>.nil
 | .str x t::vs,s::ss,h=>by
  have h:(decide (x=s) && vZ vs ss)=true:=h;rw [Bool.and_eq_true,yj] at h;obtain ⟨e,h2⟩:=h;subst e;exact .cons ⟨t,rfl⟩ (PY h2)
 | [],_::_,h=>by cases h
 | .none::_,_,h=>nomatch (show false=true from h)
 | .bool _::_,_,h=>nomatch (show false=true from h)
 | .int _ _::_,_,h=>nomatch (show false=true from h)
 | .float _ _::_,_,h=>nomatch (show false=true from h)
 | .str _ _::_,[],h=>nomatch (show false=true from h)
 | .bytes _ _::_,_,h=>nomatch (show false=true from h)
 | .ref _::_,_,h=>nomatch (show false=true from h)
 | .builtin _::_,_,h=>nomatch (show false=true from h)
 | .type _::_,_,h=>nomatch (show false=true from h)
 | .ellipsis::_,_,h=>nomatch (show false=true from h)
 | .notImplemented::_,_,h=>nomatch (show false=true from h)
def NV (K:aF) (ss:List Str):Value->Bool
 | .ref b=>match K.lookup b with
  | some o=>(o.cls==.type "tuple") && (match o.data with
   | .seq its _=>decide (its.size<=sizeLine) && vZ its.toList ss
   | _=>false)
  | none=>false
 | _=>false
theorem Qa {K:aF} {ss:List Str} {v:Value} (h:NV K ss v=true):∃b,v=.ref b/\∀H,c_ K H b (ss.map V.str):=by
 cases v with
 | ref b=>
  refine ⟨b,rfl,fun H=>.inr ?_⟩
  have h:(match K.lookup b with
   | some o=>(o.cls==.type "tuple") && (match o.data with
    | .seq its _=>decide (its.size<=sizeLine) && vZ its.toList ss
    | _=>false)
   | none=>false)=true:=h
  cases q:K.lookup b with
  | none=>rw [q] at h;cases h
  | some o=>
   rw [q] at h
   have h:((o.cls==.type "tuple") && (match o.data with
    | .seq its _=>decide (its.size<=sizeLine) && vZ its.toList ss
    | _=>false))=true:=h
   rw [Bool.and_eq_true] at h;obtain ⟨h1,h2⟩:=h
   cases d:o.data with
   | seq its n=>
    rw [d] at h2;have h2:(decide (its.size<=sizeLine) && vZ its.toList ss)=true:=h2;rw [Bool.and_eq_true,yj] at h2;exact ⟨o,its,n,rfl,beq_iff_eq.mp h1,d,h2.1,PY h2.2⟩
   | _=>rw [d] at h2;cases h2
 | _=>cases h
abbrev Ip (K:aF) (a:Addr) (D:List (Str×List Str)):Prop:=KTD.tabLook (fun d v=>NV K d v) (fun b=>List.lookup b K) a D=true
section
variable {prog:Program} {w:World} {A:Around} {E:Value->Shared->Prop} {s:Shared} {a:Addr} {δ:Type} {R:δ->Value->Prop} {D:List (Str×δ)} {k:Str} {tk:Tok}
theorem X9 (T:KTD.TabOf R s.heap a D) (h1:∀d v,KTD.datumAt k D=some d->R d v->Q (some v) { s with toks:=s.toks+1 }) (h2:KTD.datumAt k D=none->Q none { s with toks:=s.toks+1 }):
 wpAny (model prog w) A (dictGet a (.str k tk)) Q E s:=by
 obtain ⟨_,o,es,ep,ho,hc,hd,hr⟩:=T;unfold dictGet
 try with_reducible refine wpAny_holding ?_
 refine ag (wpAny_pyHash_str (ag (KTD.kt_dictFind_strs (s:={ s with toks:=s.toks+1 }) ho hd (by obtain ⟨l⟩:=es;simpa using hr.exact) ?_)));have hq:Q (findBy (fun k v=>v.isStr k) es k) { s with toks:=s.toks+1 }:=by
  have hf:findBy (fun k v=>v.isStr k) es k=(es.toList.find? fun e=>e.key.isStr k).map (·.val):=by
   obtain ⟨l⟩:=es;simp [findBy]
  rw [hf]
  cases iH:KTD.datumAt k D with
  | some d=>obtain ⟨v,hv,Fm⟩:=hr.find_some iH;rw [hv];exact h1 d v iH Fm
  | none=>rw [hr.find_none iH];exact h2 iH
 rw [findBy_of_findIdx?] at hq
 cases hi:es.findIdx? fun e=>e.key.isStr k with
 | none=>rw [hi] at hq;exact aV hq
 | some i=>rw [hi] at hq;exact ag (wpAny_dictEntries (s:={ s with toks:=s.toks+1 }) ho hd (aV hq))
theorem Xj:MeetsIn prog w (Builtin.«dict.get» ⟨[.ref a,.str k tk],[]⟩) (fun _ R' s=>KTD.TabOf R s.heap a D/\(∀d v,KTD.datumAt k D=some d->R d v->R' (.ok (.ret v)) { s with toks:=s.toks+1 })/\(KTD.datumAt k D=none->R' (.ok (.ret .none)) { s with toks:=s.toks+1 })):=
 .of_wp fun A R' s ⟨T,h1,h2⟩=>by
  show wpAny _ _ (dictGet a (.str k tk)>>=_) _ _ s;refine ag (X9 T (fun d v ha hv=>aV ⟨v,rfl,h1 d v ha hv⟩) fun hn=>?_);show wpAny _ _ (Builtin.Dict.missed a (.str k tk)>>=_) _ _ _;exact ag (wpAny_missed_other T.1 (aV ⟨.none,rfl,h2 hn⟩))
end
def Vw (K:aF) (D:List (Str×List Str)) (td ty:TE):TE:=fun σ H Q=>td σ H fun x H1=>∃a,x=.ref a/\Ip K a D/\ty σ H1 fun y H2=>∃z,y=.str z/\(∀ss,KTD.datumAt z D=some ss->∀b,(∀H',c_ K H' b (ss.map V.str))->Q (.ref b) H2)/\(KTD.datumAt z D=none->Q .aU H2)
theorem WL (ho:PE X o td) (he:PE X e ty) (m:M1 X o "get" apos e gn):PE X (.Call (.Attribute o "get" apos) [e] [] gn) (Vw X.K D td ty):=by
 intro pins s σ H Q I h;refine wpAny_Call_method m.base m.mE m.line PySem.F.plainAttrs_dict PySem.F.slot_dict_get PySem.F.type_dict_get (av (ho pins s σ H _ I h) fun u s1 zz=>?_);obtain ⟨x,H1,I1,rx,a,ex,d,q1⟩:=zz;subst ex;obtain rfl:u=Value.ref a:=rx;have T:KTD.TabOf (fun (ss:List Str) v=>∃b,v=Value.ref b/\∀H,c_ X.K H b (ss.map V.str)) s1.heap a D:=KTD.tab_of_look (fun d v z=>Qa z) I1.gM d;obtain ⟨hsm,ob,es,ep,R_,hc,sd,bX⟩:=id T;refine ⟨⟨ob,R_,hc.1⟩,fun b e=>?_,?_⟩
 ·injection e with e
  subst e;exact ⟨ob,R_,hc.2.1⟩
 rw [m.trees];refine Calls.callWith_builtin rfl (Calls.evalArgs_plain (Calls.spliced_cons (av (he pins s1 σ H1 _ I1 q1) fun iv s2 zz=>Calls.spliced_nil ?_)));obtain ⟨y,H2,I2,ry,z,ey,g1,g2⟩:=zz;subst ey;obtain ⟨t,rfl⟩:=ry;have T2:KTD.TabOf (fun (ss:List Str) v=>∃b,v=Value.ref b/\∀H,c_ X.K H b (ss.map V.str)) s2.heap a D:=KTD.tab_of_look (fun d v z=>Qa z) I2.gM d;refine call_meetsIn PySem.F.slot_dict_get (show s2.TypeIs (.ref a) "dict" from ?_) PySem.F.entry_dict_get (PySem.F.args_dict_get_2 _ _) (Xj (D:=D)) ⟨T2,fun ss v ha hv=>?_,fun hn=>?_⟩
 ·obtain ⟨_,ob2,_,_,K0,So,_⟩:=id T2;exact ⟨ob2,K0,So.1⟩
 ·obtain ⟨b,rfl,hb⟩:=hv;exact ⟨.ref b,H2,I2.tok _,rfl,g1 ss ha b hb⟩
 ·exact ⟨.aU,H2,I2.tok _,rfl,g2 hn⟩
section
variable {X:Cx} {K:aF}
end
section
variable {X:Cx} {K:aF}
def Tz (K:aF):R2:=fun x y H Q=>∃p q xs,x=.ref p/\y=.ref q/\ax K H p xs/\ax K H q []/\Q (.bl (!xs.isEmpty)) H
theorem HD (hK:X.K=K) (hu:X.A.units+64<cLine):eX X (compareOp .NotEq) (Tz K):=by
 subst hK;intro pins s σ H x y v u Q I rx ry h;obtain ⟨p,q,xs,rfl,rfl,h1,h2,hq⟩:=h;cases rx;cases ry;obtain ⟨us,r1,p1,_⟩:=I.list h1;obtain ⟨vs,r2,p2,_⟩:=I.list h2;have l1:=r1.length;have l2:=r2.length;have v0:vs=[]:=LV.mp l2.symm;subst v0
 cases xs with
 | nil=>
  have u0:us=[]:=LV.mp l1.symm;subst u0;exact SeqAt.RcNeAt.lists (e:=fun _=>true) p1.isList p2.isList rfl (by lia) (fun j h1 _=>absurd h1 (so _)) _ _ _ _ ⟨.bl _,H,I,rfl,hq⟩
 | cons a t=>
  refine SeqAt.RcNeAt.lists_lengths p1.isList p2.isList ?_ (by lia) _ _ _ _ ⟨.bl _,H,I,rfl,hq⟩;rw [ik,<-l1];rfl
end
def yy (xs ys:List V):Bool:=((List.range (min xs.length ys.length)).all fun j=>pF (xs.getD j .aU) (ys.getD j .aU)) && xs.length==ys.length
theorem VA:∀{x:V},jE x=true->pF x x=true
 | .aU,_=>rfl
 | .bl b,_=>(pG b:(b==b)=true)
 | .int i,_=>(pG i:(i==i)=true)
 | .str s,_=>(pG s:(s==s)=true)
 | .oR _,h=>by cases h
 | .x_ _,h=>by cases h
 | .ref _,h=>by cases h
 | .ty _,h=>by cases h
theorem Qg (f:xs.all jE=true):yy xs xs=true:=by
 unfold yy;rw [pG,Bool.and_true,yk];intro j hj;have hj:=List.mem_range.mp hj;rw [Nat.min_self] at hj;have g:xs[j]?=some (xs.getD j .aU):=by rw [Cm,kK hj];rfl
 exact VA (Dq f g)
section
variable {X:Cx}
end
def yD:V->Bool
 | .int _=>true
 | .str _=>true
 | _=>false
theorem Xw:∀{xs:List V},xs.all yD=true->xs.all jE=true:=fun {xs} h=>yk.mpr fun x hx=>by
 have:=yk.mp h x hx;cases x<;>first | rfl | cases this
theorem UE (h:yD x=true) (h':yD y=true):pF x y=true↔x=y:=by
 cases x with
 | int i=>cases y with
  | int j=>show (i==j)=true↔_;rw [beq_iff_eq,V.int.injEq]
  | str s=>exact ⟨nofun,nofun⟩
  | _=>cases h'
 | str s=>cases y with
  | int j=>exact ⟨nofun,nofun⟩
  | str s'=>show (s==s')=true↔_;rw [beq_iff_eq,V.str.injEq]
  | _=>cases h'
 | _=>cases h
theorem WQ (h:xs.all yD=true) (h':ys.all yD=true):yy xs ys=true↔xs=ys:=by
 refine ⟨fun e=>?_,fun e=>by rw [e];exact Qg (Xw h')⟩;unfold yy at e;rw [Bool.and_eq_true,yk,beq_iff_eq] at e;obtain ⟨e1,e2⟩:=e;refine List.ext_getElem e2 fun i h1 h2=>?_;have:=e1 i (List.mem_range.mpr (by lia));rw [Cm,Cm,kK h1,kK h2] at this;exact (UE (yk.mp h _ (zK h1)) (yk.mp h' _ (zK h2))).mp this
section
variable {X:Cx} {K:aF}
def Zt (K:aF):R2:=fun x y H Q=>∃p q xs ys,x=.ref p/\y=.ref q/\c_ K H p xs/\c_ K H q ys/\xs.all jE=true/\ys.all jE=true/\Q (.bl (!yy xs ys)) H
theorem UQ (hK:X.K=K) (hu:X.A.units+64<cLine):eX X (compareOp .NotEq) (Zt K):=by
 subst hK;intro pins s σ H x y v u Q I rx ry h;obtain ⟨p,q,xs,ys,rfl,rfl,h1,h2,f1,f2,hq⟩:=h;cases rx;cases ry;obtain ⟨us,r1,p1,_⟩:=I.tuple h1;obtain ⟨vs,r2,p2,_⟩:=I.tuple h2;have l1:=r1.length;have l2:=r2.length;refine SeqAt.RcNeAt.tuples p1 p2 (by lia) (UD r1 r2 f1 f2) _ _ _ _ ⟨.bl _,H,I,rfl,?_⟩;rw [ik,ik,<-l1,<-l2];exact hq
end
open PySem
theorem DG:∀{ss:List Str},(ss.map V.str).all jE=true
 | []=>rfl
 | s::r=>by
  rw [eU,List.all_cons,DG (ss:=r)];rfl
end L2
namespace Y0
open PySem L2
seal L2.PE L2.PA L2.PT L2.PS L2.g7 L2.PG L2.nU L2.PI L2.PO
abbrev y8:List (Str×List Str):=[("sum",["tie","tie"]),("late",["tie"]),("soon",["tie"]),("sure",["wait"]),("back",["wait","tie"]),("cross",["wait"])]
structure yl (K:aF) (mg:Str->Option Value):Prop where
 at_:∃u,mg "USED_KINDS"=some (.ref u)/\Ip K u y8
 tuple:mg "tuple"=none
def km (xs:List MU.aj):List Str:=xs.map fun x=>lZ x.tie
inductive oY (F:MU.cq):Str->List MU.aj->Option MU.aj->Prop
 | sum (x y:MU.aj) (hx:x.tie=true) (hy:y.tie=true):oY F "sum" [x,y] (MU.a7 x y)
 | aA (x:MU.aj) (hx:x.tie=true):oY F "late" [x] (MU.cT F x)
 | bh (x:MU.aj) (hx:x.tie=true):oY F "soon" [x] (MU.da F x)
 | sure (x:MU.aj) (fa:Nat×Int×Int) (hx:x.tie=false) (hf:F x.b=some fa):oY F "sure" [x] (MU.df F x)
 | back (x y:MU.aj) (fa:Nat×Int×Int) (hx:x.tie=false) (hy:y.tie=true) (hf:F x.b=some fa):oY F "back" [x,y] (MU.bf F x y)
 | aq (x:MU.aj) (fa:Nat×Int×Int) (hx:x.tie=false) (hf:F x.b=some fa):oY F "cross" [x] (MU.cS F x)
theorem oY.kinds (h:oY F word xs o):PyProof.Rows.KTD.datumAt word y8=some (km xs)/\xs.length<=2:=by
 cases h with
 | sum x y hx hy=>refine ⟨?_,az _⟩;unfold km;rw [eU,eU,List.map_nil,hx,hy];decide+kernel
 | aA x hx=>refine ⟨?_,nS 1⟩;unfold km;rw [eU,List.map_nil,hx];decide+kernel
 | bh x hx=>refine ⟨?_,nS 1⟩;unfold km;rw [eU,List.map_nil,hx];decide+kernel
 | sure x fa hx hf=>refine ⟨?_,nS 1⟩;unfold km;rw [eU,List.map_nil,hx];decide+kernel
 | back x y fa hx hy hf=>refine ⟨?_,az _⟩;unfold km;rw [eU,eU,List.map_nil,hx,hy];decide+kernel
 | aq x fa hx hf=>refine ⟨?_,nS 1⟩;unfold km;rw [eU,List.map_nil,hx];decide+kernel
def T_ (H:Hp) (l:Addr) (ps:List Addr) (xs:List MU.aj):Prop:=H l=some (.lst (ps.map V.ref))/\Paired (iq H) ps xs
def Mis (word:Str) (xs:List MU.aj):Prop:=xs.length<=2/\∃ks,PyProof.Rows.KTD.datumAt word y8=some ks/\ks≠km xs
def PH:Sp:=fun vs H Q _=>∃d word ul ps F xs o,vs=[.ref d,.str word,.ref ul]/\mS H d F/\T_ H ul ps xs/\(oY F word xs o\/o=none/\Mis word xs)/\mP H Q o
theorem OF:∀{xs ys:List Str},xs.map V.str=ys.map V.str->xs=ys
 | [],[],_=>rfl
 | x::xs,y::ys,h=>by
  rw [eU,eU,List.cons.injEq,V.str.injEq] at h;rw [h.1,OF h.2]
 | [],_::_,h=>by cases h
 | _::_,[],h=>by cases h
theorem PQ {ss:List Str}:(ss.map V.str).all yD=true:=by rw [List.all_map];exact yk.mpr fun _ _=>rfl
theorem mP.same (g:mP H Q o) (s:aI H H1):mP H1 Q o:=⟨fun e H' s'=>g.1 e H' (s.trans s'),fun x e r H' hr s' h=>g.2 x e r H' (s.free hr) (s.trans s') h⟩
theorem YJ:cG ["falls","word","used"] ["falls","word","used"] (aZ bu):=cV
theorem Yp:iP (aZ bu) ["falls","word","used"] (lT [(".0",.local),("what",.local)]) ["what"] [none]:=lU
theorem YU:(["what"]:List Str).Nodup:=by decide+kernel
theorem mq (F:Fn K mg "what_follows" bu ["falls","word","used"] f fd) (T:yl K mg)
 (F1:Fn K mg "by_sum" e_ ["first","second"] f1 d1) (G1:ar P w K mg base a9 1 f1 d1 ["first","second"] Mn)
 (F2:Fn K mg "by_late" dM ["falls","tie"] f2 d2) (G2:ar P w K mg base a9 1 f2 d2 ["falls","tie"] MI)
 (F3:Fn K mg "by_soon" dJ ["falls","tie"] f3 d3) (G3:ar P w K mg base a9 1 f3 d3 ["falls","tie"] MQ)
 (F4:Fn K mg "by_sure" dH ["falls","wait"] f4 d4) (G4:ar P w K mg base a9 1 f4 d4 ["falls","wait"] MS)
 (F5:Fn K mg "by_back" dN ["falls","wait","tie"] f5 d5) (G5:ar P w K mg base a9 1 f5 d5 ["falls","wait","tie"] MD)
 (F6:Fn K mg "by_cross" di ["falls","wait"] f6 d6) (G6:ar P w K mg base a9 1 f6 d6 ["falls","wait"] N0):
 ar P w K mg base a9 2 f fd ["falls","word","used"] PH:=by
 obtain ⟨u,mU,IQ⟩:=T.at_;refine F.F.ix YJ fun _ A _ s H _ Q E hr h=>?_
 ·obtain ⟨d,word,ul,ps,Fa,xs,o,rfl,FA,⟨zk,Kt⟩,ask,G⟩:=h;refine ⟨_,cx (dR (dh (UQ (K:=K) rfl hr.units) (uU Qv (by rfl) T.tuple (by decide+kernel) (bM (pe rfl (jq (pv 2)) Yp (fun cl ex s0 H0=>⟨bS 0 YU,pX,a8 (pv 0)⟩))))
   (WL (D:=y8) (yK (v:=.ref u) rfl mU rfl) (pv 1) ⟨rfl,rfl,rfl,rfl⟩)) (aE (cC mY)) dZ)
   (cx (dR (dh gu (pv 1) eZ) (aE (cC (cf G1 hr F1 (bw (de dW (pv 2) aw (fun _ _=>rfl)) (de dW (pv 2) aw (fun _ _=>rfl)))))) dZ)
   (cx (dR (dh gu (pv 1) eZ) (aE (cC (cf G2 hr F2 (bw (pv 0) (de dW (pv 2) aw (fun _ _=>rfl)))))) dZ)
   (cx (dR (dh gu (pv 1) eZ) (aE (cC (cf G3 hr F3 (bw (pv 0) (de dW (pv 2) aw (fun _ _=>rfl)))))) dZ)
   (cx (dR (dh gu (pv 1) eZ) (aE (cC (cf G4 hr F4 (bw (pv 0) (de dW (pv 2) aw (fun _ _=>rfl)))))) dZ)
   (cx (dR (dh gu (pv 1) eZ) (aE (cC (cf G5 hr F5 (iw (pv 0) (de dW (pv 2) aw (fun _ _=>rfl)) (de dW (pv 2) aw (fun _ _=>rfl)))))) dZ)
   (aE (cC (cf G6 hr F6 (bw (pv 0) (de dW (pv 2) aw (fun _ _=>rfl))))))))))),?_⟩
  obtain ⟨ks,hk,jW,ask⟩:∃ks,PyProof.Rows.KTD.datumAt word y8=some ks/\xs.length<=2/\(ks=km xs/\oY Fa word xs o\/ks≠km xs/\o=none):=by
   rcases ask with a | ⟨rfl,h1,ks,h2,h3⟩
   ·exact ⟨_,a.kinds.1,a.kinds.2,.inl ⟨rfl,a⟩⟩
   ·exact ⟨ks,h2,h1,.inr ⟨h3,rfl⟩⟩
  have hlen:ps.length=xs.length:=Paired.length Kt;refine fun N1 c1=>⟨_,rfl,ul,rfl,⟨_,ax.of zk⟩,fun Da cK=>?_⟩;refine uT (xs:=ps.map V.ref) (fun j aa H'=>∃v,aa=[v]/\H' Da=some (.lst ((km (xs.take j)).map V.str))/\aI H H') ⟨none,rfl,ai,aG cK⟩ ?_ ?_ ?_
  ·rintro j aa H2 _ ⟨v,rfl,_,s2⟩;exact ax.of (s2 _ _ zk)
  ·rintro j x aa H2 hx ⟨v,rfl,e2,s2⟩;rw [f9] at hx
   cases q:ps[j]? with
   | none=>rw [q] at hx;cases hx
   | some p=>
    rw [q] at hx;cases hx;obtain ⟨x,vt,hw⟩:=aX Kt q;have hj:j<xs.length:=(gO.mp vt).1;refine ⟨_,rfl,ay (s2 _ _ hw) rfl ⟨_,e2,?_,_,rfl,?_,fun b o e=>?_⟩⟩
    ·unfold km;rw [aB,aB,ie];exact gK (by lia)
    ·unfold km;rw [ai,lD,vt,ef,ef];rfl
    ·rw [ak (aR e cK)];exact s2 _ _ e
  rintro aa H2 ⟨v,rfl,e2,s2⟩;have bL:xs.take (ps.map V.ref).length=xs:=by rw [aB,hlen];exact jB
  rw [bL] at e2;refine ⟨Da,_,rfl,.inl ⟨ax.of e2,fun t ht=>?_⟩⟩;have s3:=s2.trans (aG (o:=.tup ((km xs).map V.str)) ht);have e3:upd H2 t (.tup ((km xs).map V.str)) t=some (.tup ((km xs).map V.str)):=ai;generalize upd H2 t (.tup ((km xs).map V.str))=H3 at*;refine ⟨u,rfl,IQ,_,rfl,word,rfl,fun ss RW b hb=>?_,fun hn=>by rw [hk] at hn;cases hn⟩;rw [hk] at RW;cases RW;refine ⟨t,b,_,_,rfl,rfl,c_.of e3,hb H3,DG,DG,_,rfl,?_⟩;rcases ask with ⟨rfl,ask⟩ | ⟨ne,rfl⟩
  case inr=>
   refine sP ?_ ((G.same s3).1 rfl _ (aI.refl _));show (!yy ((km xs).map V.str) (ks.map V.str))=true;rw [Bool.not_eq_true'];exact LU.mpr fun z=>ne (OF ((WQ PQ PQ).mp z)).symm
  refine jl (by rw [Qg DG];rfl) (c1 _ _ ?_);clear c1 N1;have yo:=FA.same s3;have zP:=G.same s3;have lj:=s3 _ _ zk;have oH:Paired (iq H3) ps xs:=gL Kt fun p x e=>e.same s3
  cases ask with
  | sum x y hx hy=>
   cases oH with
   | cons w1 r=>cases r with
    | cons w2 r=>cases r
                 refine fun N1 c1=>⟨_,rfl,rfl,_,rfl,sP (by decide+kernel) ?_⟩;exact ⟨_,rfl,jO lj (ko (j:=0) rfl) ⟨_,rfl,jO lj (ko (j:=1) rfl) ⟨_,_,x,y,rfl,w1,w2,hx,hy,zP⟩⟩⟩
  | aA x hx=>
   cases oH with
   | cons w1 r=>cases r
                refine fun N1 c1=>⟨_,rfl,rfl,_,rfl,jl (by decide+kernel) (c1 _ _ ?_)⟩;refine fun N1 c1=>⟨_,rfl,rfl,_,rfl,sP (by decide+kernel) ?_⟩;exact ⟨_,rfl,_,rfl,jO lj (ko (j:=0) rfl) ⟨d,_,Fa,x,rfl,yo,w1,hx,zP⟩⟩
  | bh x hx=>
   cases oH with
   | cons w1 r=>cases r
                refine fun N1 c1=>⟨_,rfl,rfl,_,rfl,jl (by decide+kernel) (c1 _ _ ?_)⟩;refine fun N1 c1=>⟨_,rfl,rfl,_,rfl,jl (by decide+kernel) (c1 _ _ ?_)⟩;refine fun N1 c1=>⟨_,rfl,rfl,_,rfl,sP (by decide+kernel) ?_⟩;exact ⟨_,rfl,_,rfl,jO lj (ko (j:=0) rfl) ⟨d,_,Fa,x,rfl,yo,w1,hx,zP⟩⟩
  | sure x fa hx hf=>
   cases oH with
   | cons w1 r=>cases r
                refine fun N1 c1=>⟨_,rfl,rfl,_,rfl,jl (by decide+kernel) (c1 _ _ ?_)⟩;refine fun N1 c1=>⟨_,rfl,rfl,_,rfl,jl (by decide+kernel) (c1 _ _ ?_)⟩;refine fun N1 c1=>⟨_,rfl,rfl,_,rfl,jl (by decide+kernel) (c1 _ _ ?_)⟩;refine fun N1 c1=>⟨_,rfl,rfl,_,rfl,sP (by decide+kernel) ?_⟩;exact ⟨_,rfl,_,rfl,jO lj (ko (j:=0) rfl) ⟨d,_,Fa,x,fa,rfl,yo,w1,hx,hf,zP⟩⟩
  | back x y fa hx hy hf=>
   cases oH with
   | cons w1 r=>cases r with
    | cons w2 r=>cases r
                 refine fun N1 c1=>⟨_,rfl,rfl,_,rfl,jl (by decide+kernel) (c1 _ _ ?_)⟩;refine fun N1 c1=>⟨_,rfl,rfl,_,rfl,jl (by decide+kernel) (c1 _ _ ?_)⟩;refine fun N1 c1=>⟨_,rfl,rfl,_,rfl,jl (by decide+kernel) (c1 _ _ ?_)⟩;refine fun N1 c1=>⟨_,rfl,rfl,_,rfl,jl (by decide+kernel) (c1 _ _ ?_)⟩;refine fun N1 c1=>⟨_,rfl,rfl,_,rfl,sP (by decide+kernel) ?_⟩;exact ⟨_,rfl,_,rfl,jO lj (ko (j:=0) rfl) ⟨_,rfl,jO lj (ko (j:=1) rfl) ⟨d,_,_,Fa,x,y,fa,rfl,yo,w1,w2,hx,hy,hf,zP⟩⟩⟩
  | aq x fa hx hf=>
   cases oH with
   | cons w1 r=>cases r
                refine fun N1 c1=>⟨_,rfl,rfl,_,rfl,jl (by decide+kernel) (c1 _ _ ?_)⟩;refine fun N1 c1=>⟨_,rfl,rfl,_,rfl,jl (by decide+kernel) (c1 _ _ ?_)⟩;refine fun N1 c1=>⟨_,rfl,rfl,_,rfl,jl (by decide+kernel) (c1 _ _ ?_)⟩;refine fun N1 c1=>⟨_,rfl,rfl,_,rfl,jl (by decide+kernel) (c1 _ _ ?_)⟩;refine fun N1 c1=>⟨_,rfl,rfl,_,rfl,jl (by decide+kernel) (c1 _ _ ?_)⟩;exact ⟨_,rfl,_,rfl,jO lj (ko (j:=0) rfl) ⟨d,_,Fa,x,fa,rfl,yo,w1,hx,hf,zP⟩⟩
end Y0
namespace L2
open PySem
theorem ng (h:¬g=f):aP f v ((g,x)::r)=(g,x)::aP f v r:=if_neg h
theorem VR:aP f v ((f,x)::r)=(f,v)::r:=if_pos rfl
end L2
namespace Y0
open PySem L2
seal L2.PE L2.PA L2.PT L2.PS L2.g7 L2.PG L2.nU L2.PI L2.PO
structure o_ (K:aF) (mg:Str->Option Value) (C:Addr):Prop where
 cl:rn K C
 nM:l_ K C "many"
 nB:l_ K C "by_end"
 nR:l_ K C "rows"
 nE:l_ K C "best"
 nX:l_ K C "bar"
 len:mg "len"=none
 range:mg "range"=none
def iO (n:Nat) (be rl bd:Addr) (bar:V):List (Str×V):=[("many",.int (n:Int)),("by_end",.ref be),("rows",.ref rl),("best",.ref bd),("bar",bar)]
theorem cl1:(("by_end":Str)=="many")=false:=by decide+kernel
theorem cl2:(("rows":Str)=="many")=false:=by decide+kernel
theorem cl3:(("rows":Str)=="by_end")=false:=by decide+kernel
theorem cl4:(("best":Str)=="many")=false:=by decide+kernel
theorem cl5:(("best":Str)=="by_end")=false:=by decide+kernel
theorem cl6:(("best":Str)=="rows")=false:=by decide+kernel
theorem cl7:(("bar":Str)=="many")=false:=by decide+kernel
theorem cl8:(("bar":Str)=="by_end")=false:=by decide+kernel
theorem cl9:(("bar":Str)=="rows")=false:=by decide+kernel
theorem Yf:(("bar":Str)=="best")=false:=by decide+kernel
section
variable {n:Nat} {be rl bd:Addr} {bar:V}
theorem Mx:(iO n be rl bd bar).lookup ("many":Str)=some (.int (n:Int)):=by unfold iO;rw [gp,pG]
theorem QO:(iO n be rl bd bar).lookup ("by_end":Str)=some (.ref be):=by unfold iO;rw [gp,cl1,gp,pG]
theorem sT:(iO n be rl bd bar).lookup ("rows":Str)=some (.ref rl):=by unfold iO;rw [gp,cl2,gp,cl3,gp,pG]
theorem rG:(iO n be rl bd bar).lookup ("best":Str)=some (.ref bd):=by unfold iO;rw [gp,cl4,gp,cl5,gp,cl6,gp,pG]
theorem C7:(iO n be rl bd bar).lookup ("bar":Str)=some bar:=by unfold iO;rw [gp,cl7,gp,cl8,gp,cl9,gp,Yf,gp,pG]
theorem nZ {m:Str} (h1:(m=="many")=false:=by decide+kernel) (h2:(m=="by_end")=false:=by decide+kernel) (h3:(m=="rows")=false:=by decide+kernel) (h4:(m=="best")=false:=by decide+kernel) (h5:(m=="bar")=false:=by decide+kernel):(iO n be rl bd bar).lookup m=none:=by
 unfold iO;rw [gp,h1,gp,h2,gp,h3,gp,h4,gp,h5];rfl
theorem Z1:aP "bar" v (iO n be rl bd bar)=iO n be rl bd v:=by
 unfold iO;rw [ng (by decide+kernel),ng (by decide+kernel),ng (by decide+kernel),ng (by decide+kernel),VR]
end
def IC:Option Nat->V
 | none=>.aU
 | some i=>.int (i:Int)
def lL:MU.Wd->Str
 | .told=>"told"
 | .sum=>"sum"
 | .aA=>"late"
 | .bh=>"soon"
 | .sure=>"sure"
 | .back=>"back"
 | .aq=>"cross"
def cw (k:MU.Key):List Key:=[.inr (lZ k.1),.inl (k.2.1:Int),.inl (k.2.2:Int)]
theorem Pa (h:lZ a=lZ b):a=b:=by
 revert h
 cases a<;>cases b<;>decide+kernel
theorem O3 (h:cw k=cw k'):k=k':=by
 obtain ⟨t,a,b⟩:=k;obtain ⟨t',a',b'⟩:=k';unfold cw at h
 injection h with h1 h
 injection h with h2 h
 injection h with h3 _
 have e1:=Pa (Sum.inr.inj h1);have e2:=Int.ofNat.inj (Sum.inl.inj h2);have e3:=Int.ofNat.inj (Sum.inl.inj h3);have e1:t=t':=e1;have e2:a=a':=e2;have e3:b=b':=e3;rw [e1,e2,e3]
def pL (H:Hp) (q:Addr) (r:MU.Row):Prop:=∃pw pu,H q=some (.tup [.ref pw,.str (lL r.word),.ref pu])/\iq H pw r.cD/\H pu=some (.tup (r.used.map fun i:Nat=>V.int (i:Int)))
theorem pL.same (h:pL H q r) (s:aI H H'):pL H' q r:=by
 obtain ⟨pw,pu,h1,h2,h3⟩:=h;exact ⟨pw,pu,s _ _ h1,s _ _ h2,s _ _ h3⟩
structure gb (C:Addr) (H:Hp) (p be rl bd:Addr) (n:Nat) (F:MU.cq) (st:MU.St):Prop where
 ins:∃dx,H p=some (.ins C dx (iO n be rl bd (IC st.bar)))
 ic:mS H be F
 rows:∃qs,H rl=some (.lst (qs.map V.ref))/\Paired (pL H) qs st.rows
 best:∃kvs,H bd=some (.dT kvs)/\(kvs.length<=st.rows.length/\∀kv∈kvs,∃k:MU.Key,kv.1=cw k)/\∀k:MU.Key,fq kvs (cw k)=(st.best k).map fun i:Nat=>V.int (i:Int)
theorem gb.same (h:gb C H p be rl bd n F st) (s:aI H H'):gb C H' p be rl bd n F st:=by
 obtain ⟨⟨dx,h1⟩,h2,⟨qs,h3,h4⟩,⟨kvs,h5,h6,h7⟩⟩:=h;exact ⟨⟨dx,s _ _ h1⟩,h2.same s,⟨qs,s _ _ h3,gL h4 fun q r e=>e.same s⟩,⟨kvs,s _ _ h5,h6,h7⟩⟩
def dw (p rl bd:Addr) (H H':Hp):Prop:=∀b o,H b=some o->b≠p->b≠rl->b≠bd->H' b=some o
theorem dw.of (s:aI H H'):dw p rl bd H H':=fun b o e _ _ _=>s _ _ e
theorem dw.trans (a:dw p rl bd H H1) (b:dw p rl bd H1 H2):dw p rl bd H H2:=fun c o e h1 h2 h3=>b c o (a c o e h1 h2 h3) h1 h2 h3
open Classical in
def ML (C:Addr):Sp:=fun vs H Q _=>∃p be rl bd q n F st x,vs=[.ref p,.ref q]/\gb C H p be rl bd n F st/\MU.cm n st/\iq H q x/\∀H',aI H H'->Q (.bl (decide (MU.gP st x))) H'
theorem Dg (h:Paired (pL H) qs rows) {i:Nat} (hx:(rows[i]?).map (·.cD)=some x):∃q r pw pu,qs[i]?=some q/\rows[i]?=some r/\r.cD=x/\H q=some (.tup [.ref pw,.str (lL r.word),.ref pu])/\iq H pw x/\H pu=some (.tup (r.used.map fun i:Nat=>V.int (i:Int))):=by
 cases hr:rows[i]? with
 | none=>rw [hr] at hx;cases hx
 | some r=>
  rw [hr] at hx;have hx:some r.cD=some x:=hx;cases hx;have hl:=Paired.length h;have hi:=(gO.mp hr).1;obtain ⟨q,hq⟩:∃q,qs[i]?=some q:=⟨_,kK (by lia)⟩;obtain ⟨r',aJ,⟨pw,pu,e1,e2,e3⟩⟩:=aX h hq;rw [hr] at aJ;cases aJ;exact ⟨q,r,pw,pu,hq,rfl,rfl,e1,e2,e3⟩
theorem Iq:kO (lK x) none (some 3)=(cw x.key).map kV:=by
 unfold kO lK;rw [HT.eM,show (some (3:Int))=some ((3:Nat):Int) from rfl,HT.dO];rfl
theorem GV:¬(HT.cv (lK x).length 0 none=0/\HT.cv (lK x).length (lK x).length (some 3)=(lK x).length):=fun z=>by
 have h:=z.2;rw [show (some (3:Int))=some ((3:Nat):Int) from rfl,HT.dO] at h;have e:(lK x).length=4:=rfl;rw [e] at h;cases h
theorem Iy:cG ["self","what","key","known"] ["self","what"] (aZ ck):=cV
theorem tV (F:gZ K "is_news" "Closing.is_news" ck f fd) (T:o_ K mg C):ar P w K mg base a9 1 f fd ["self","what"] (ML C):=by
 refine F.ix Iy fun _ A _ s H _ Q E hr h=>?_
 ·obtain ⟨p,be,rl,bd,q,n,Fa,st,x,rfl,c,g,hw,k⟩:=h;have hu:=lY hr;refine ⟨_,cx (dR (PW.pt (sQ (dh gu (a8 (pv 1)) eZ) (sV (dh gu (a8 (pv 1)) (a8 (pv 1))))))
   (aE (cC (vU uG (a8 (pv 1)) aw))) dZ)
   (cx (cA 2 Iy.nd (pW CP (pv 1) pR (pT aw)))
   (cx (dR (wc (DC hu (pv 2) (fQ (pv 0) rfl)) (by with_unfolding_all rfl)) (aE (cC z_)) dZ)
   (cx (cA 3 Iy.nd (a8 (de dW (fQ (pv 0) rfl) (nc hu (fQ (pv 0) rfl) (pv 2) (fun _ _=>rfl)) (fun _ _=>rfl))))
   (aE (cC (OU (dh gu (a8 (pv 1)) eZ) (vU uG (a8 (pv 1)) (a8 (pv 3))) (vU Ms (a8 (pv 1)) (a8 (pv 3))))))))),?_⟩
  obtain ⟨dx,hp⟩:=c.ins;obtain ⟨qs,gj,bX⟩:=c.rows;obtain ⟨kvs,fz,p0,ee⟩:=c.best;have kb:∀(H':Hp) (b:Bool),aI H H'->(b=true↔MU.gP st x)->Q (.bl b) H':=fun H' b s' e=>by
   have:=k H' s';have e2:b=decide (MU.gP st x):=by
    by_cases z:MU.gP st x
    ·rw [e.mpr z];simp [z]
    ·cases b with
     | true=>exact absurd (e.mp rfl) z
     | false=>simp [z]
   rw [e2];exact this
  refine fun N1 c1=>⟨_,rfl,ay hw rfl ⟨rfl,_,rfl,?_⟩⟩;rw [Dr];have rest:¬(x.tie=true/\x.a=x.b)->N1 (L2.jn ["self","what","key","known"] [.ref p,.ref q]) H:=fun lz=>by
   refine c1 _ _ ?_;refine fun N2 c2=>⟨_,rfl,_,rfl,q,_,rfl,c_.of hw,GV,fun kt my=>c2 _ _ ?_⟩;rw [Iq];have s1:=aG (o:=.tup ((cw x.key).map kV)) my;have e1:upd H kt (.tup ((cw x.key).map kV)) kt=some (.tup ((cw x.key).map kV)):=ai;generalize upd H kt (.tup ((cw x.key).map kV))=H1 at*;have dg:=fm.t (k:=cw x.key) (s1 _ _ fz) e1;rw [ee] at dg;refine fun N3 c3=>⟨_,rfl,_,rfl,p,C,dx,_,_,rfl,s1 _ _ hp,T.cl,T.nE,rG,bd,_,rfl,dg,_,rfl,?_⟩;have nw:MU.gP st x↔∀u,MU.val st x.key=some u->MU.dE x.tie x.v u:=by
    unfold MU.gP;rw [if_neg lz]
   cases hb:st.best x.key with
   | none=>
    refine mL (kb H1 true s1 ⟨fun _=>nw.mpr fun u kE=>?_,fun _=>rfl⟩);unfold MU.val at kE;rw [hb] at kE;cases kE
   | some i=>
    rw [hb] at dg;refine ip (c3 _ _ ?_);obtain ⟨u,RU,xy⟩:=g.at_ _ _ hb;obtain ⟨q',r,pw,pu,g1,g2,g3,g4,g5,g6⟩:=Dg bX RU;have iH:iI (qs.map V.ref) (i:Int)=some (.ref q'):=ko (by rw [f9,g1];rfl);refine fun N4 c4=>⟨_,rfl,p,C,dx,_,_,rfl,s1 _ _ hp,T.cl,T.nR,sT,_,rfl,p,C,dx,_,_,rfl,s1 _ _ hp,T.cl,T.nE,rG,_,rfl,bd,_,rfl,dg,?_⟩;refine ⟨rl,_,_,_,rfl,rfl,s1 _ _ gj,iH,ay (s1 _ _ g4) rfl (c4 _ _ ?_)⟩;have hv:=MU.pf hb RU;refine ⟨_,rfl,ay (s1 _ _ hw) rfl ⟨rfl,_,rfl,?_⟩⟩;rw [Dr];have Rt:MU.gP st x↔MU.dE x.tie x.v u.v:=nw.trans ⟨fun z=>z _ hv,fun z u' kE=>by rw [hv] at kE;cases kE;exact z⟩
    cases ht:x.tie with
    | true=>
     refine mL ⟨_,rfl,ay (s1 _ _ hw) rfl ⟨_,rfl,ay (s1 _ _ g5) rfl ⟨_,_,rfl,rfl,kb _ _ s1 ?_⟩⟩⟩;rw [Rt,ht,yj];unfold MU.dE;rw [if_pos rfl]
    | false=>
     refine ip ⟨_,rfl,ay (s1 _ _ hw) rfl ⟨_,rfl,ay (s1 _ _ g5) rfl ⟨_,_,rfl,rfl,kb _ _ s1 ?_⟩⟩⟩;rw [Rt,ht,yj];unfold MU.dE;rw [if_neg (by decide)]
  cases ht:x.tie with
  | false=>exact ip (ip (rest fun z=>by rw [ht] at z;cases z.1))
  | true=>
   refine mL ⟨_,rfl,ay hw rfl ⟨_,rfl,ay hw rfl ⟨rfl,_,rfl,?_⟩⟩⟩;rw [sM]
   by_cases e:x.a=x.b
   ·refine jc e ⟨_,rfl,ay hw rfl ⟨_,_,rfl,rfl,kb H _ (aI.refl _) ?_⟩⟩;rw [yj];unfold MU.gP;rw [if_pos ⟨ht,e⟩]
   ·exact kQ e (rest fun z=>e z.2)
def Hf (C:Addr):Sp:=fun vs H Q _=>∃p be rl bd q pu n F st x wd us,vs=[.ref p,.ref q,.str (lL wd),.ref pu]/\gb C H p be rl bd n F st/\MU.cm n st/\iq H q x/\H pu=some (.tup (us.map fun i:Nat=>V.int (i:Int)))/\st.rows.length<=16500000/\
 ∀H',gb C H' p be rl bd n F (MU.take st x wd us)->dw p rl bd H H'->Q .aU H'
theorem M_:decide (IC o=V.aU)=decide (o=none):=by
 cases o with
 | none=>rfl
 | some i=>exact (fY fun z=>nomatch z).trans (fY fun z=>nomatch z).symm
theorem We (h:MU.gP st x):MU.take st x wd us={ rows:=st.rows++[⟨x,wd,us⟩],best:=fun k=>if k=x.key then some st.rows.length else st.best k,bar:=if st.bar=none/\MU.iA x then some st.rows.length else st.bar }:=by
 unfold MU.take;rw [if_pos h]
theorem Wg {kvs:List (List Key×V)} {k:List Key} {v:V} {kv:List Key×V} (h:kv∈dU kvs k v):kv.1=k\/∃qC∈kvs,kv.1=qC.1:=by
 unfold dU at h;split at h
 ·obtain ⟨qC,h0,rfl⟩:=eD.mp h;refine .inr ⟨qC,h0,?_⟩;split<;>rfl
 ·rcases i8.mp h with h | h
  ·exact .inr ⟨kv,h,rfl⟩
  ·rw [iK.mp h];exact .inl rfl
theorem Ao (h:n<=16500000):n<sizeLine:=Nat.lt_of_le_of_lt h (by decide)
theorem YG:cG ["self","what","word","used"] ["self","what","word","used"] (aZ cP):=cV
theorem tM {f C fN fB:Addr} {fd pE sf:FuncData} (F:gZ K "take" "Closing.take" cP f fd) (T:o_ K mg C)
 (mN:jk K C "is_news" fN) (bN:eY K pE ["self","what"] []) (GN:ar P w K mg base a9 1 fN pE ["self","what"] (ML C))
 (FB:Fn K mg "bars_every_hand" bj ["what"] fB sf) (GB:ar P w K mg base a9 1 fB sf ["what"] ME):ar P w K mg base a9 2 f fd ["self","what","word","used"] (Hf C):=by
 refine F.ix YG fun _ A _ s H _ Q E hr h=>?_
 ·obtain ⟨p,be,rl,bd,q,pu,n,Fa,st,x,wd,us,rfl,c,g,hw,By,hlen,k⟩:=h;have hu:=lY hr;refine ⟨_,aE (dR (Ak (jI (pv 0) T.cl mN GN hr bN .nil gv (bM (pv 1))))
   (cx (Dd hu (fQ (pv 0) rfl) (pW CP (pv 1) pR (pT aw)) (jx wC (by rfl) T.len uy (bM (fQ (pv 0) rfl))) rfl)
   (cx (yE (dR (PW.pt (sQ (dh G' (fQ (pv 0) rfl) mY) (sV (Ak (cf GB hr FB (bM (pv 1))))))) (aE (rH (pv 0) (jx wC (by rfl) T.len uy (bM (fQ (pv 0) rfl))) rfl)) dZ))
   (aE (gJ (rE su rg sr pV (fQ (pv 0) rfl) (bM (dB (iw (pv 1) (pv 2) (pv 3))))))))) dZ),?_⟩
  obtain ⟨dx,hp⟩:=c.ins;refine ⟨_,rfl,p,dx,_,rfl,hp,nZ,_,rfl,p,be,rl,bd,q,n,Fa,st,x,rfl,c,g,hw,fun H1 s1=>⟨_,rfl,?_⟩⟩
  by_cases hn:MU.gP st x
  ·refine sP (by simp [hn]) ?_;have c1:=c.same s1;have qG:=s1 _ _ hw;have xE:=s1 _ _ By;obtain ⟨vH,i6⟩:=c1.ins;obtain ⟨qs,gj,bX⟩:=c1.rows;obtain ⟨kvs,fz,p0,ee⟩:=c1.best;have xC:qs.length=st.rows.length:=Paired.length bX;refine fun N2 c2=>⟨_,rfl,p,C,vH,_,_,rfl,i6,T.cl,T.nR,sT,rl,_,rfl,.inl (ax.of gj),_,rfl,p,C,vH,_,_,rfl,i6,T.cl,T.nE,rG,_,rfl,_,rfl,q,_,rfl,c_.of qG,GV,fun kt my=>?_⟩;rw [Iq,aB,xC];have s2:=aG (o:=.tup ((cw x.key).map kV)) my;have e2:upd H1 kt (.tup ((cw x.key).map kV)) kt=some (.tup ((cw x.key).map kV)):=ai;generalize upd H1 kt (.tup ((cw x.key).map kV))=H2 at*;refine ⟨bd,_,rfl,rz.t (k:=cw x.key) (s2 _ _ fz) e2 (Ao (by have:=p0.1;lia)),c2 _ _ ?_⟩;have k3:∀b o,H1 b=some o->b≠bd->upd H2 bd (.dT (dU kvs (cw x.key) (.int (st.rows.length:Int)))) b=some o:=fun b o e ne=>by
    rw [ak ne];exact s2 _ _ e
   have e3:upd H2 bd (.dT (dU kvs (cw x.key) (.int (st.rows.length:Int)))) bd=some (.dT (dU kvs (cw x.key) (.int (st.rows.length:Int)))):=ai;generalize upd H2 bd (.dT (dU kvs (cw x.key) (.int (st.rows.length:Int))))=H3 at*;clear c2 N2;have zf:p≠bd:=cH i6 fz nofun;have Rh:rl≠bd:=cH gj fz nofun;have wX:p≠rl:=cH i6 gj nofun;have jU:=k3 _ _ i6 zf;have uj:=k3 _ _ gj Rh;have Kf:=k3 _ _ qG (cH qG fz nofun);refine fun N4 c4=>⟨fun aa H'=>aa=L2.jn ["self","what","word","used"] [.ref p,.ref q,.str (lL wd),.ref pu]/\(∃dx',H' p=some (.ins C dx' (iO n be rl bd (IC (if st.bar=none/\MU.iA x then some st.rows.length else st.bar)))))/\∀b o,H3 b=some o->b≠p->H' b=some o,?_,?_⟩
   ·refine ⟨_,rfl,p,C,vH,_,_,rfl,jU,T.cl,T.nX,C7,rfl,_,rfl,?_⟩;rw [M_]
    by_cases hb:st.bar=none
    ·refine jc hb ⟨_,rfl,q,x,rfl,Kf,_,rfl,?_⟩
     by_cases hB:MU.iA x
     ·refine jc hB ?_;refine ⟨_,rfl,p,C,vH,_,_,rfl,jU,T.cl,T.nR,sT,rl,_,rfl,.inl (ax.of uj),_,rfl,p,C,vH,_,rfl,jU,T.cl,T.nX,by show 5<1000;decide,rfl,⟨vH,?_⟩,fun b o e ne=>?_⟩
      ·rw [ai,Z1,if_pos ⟨hb,hB⟩,aB,xC];rfl
      ·rw [ak ne];exact e
     ·refine kQ hB ⟨rfl,⟨vH,?_⟩,fun b o e _=>e⟩;rw [if_neg fun z=>hB z.2];exact jU
    ·refine kQ hb (ip ⟨rfl,⟨vH,?_⟩,fun b o e _=>e⟩);rw [if_neg fun z=>hb z.1];exact jU
   ·rintro aa H4 ⟨rfl,⟨SU,Fd⟩,k4⟩;refine c4 _ _ ?_;have xB:=k4 _ _ uj (aD wX);have hw4:=k4 _ _ Kf (cH Kf jU nofun);have Bx:=k3 _ _ xE (cH xE fz nofun);have hpu4:=k4 _ _ Bx (cH Bx jU nofun);refine ⟨_,rfl,p,C,SU,_,_,rfl,Fd,T.cl,T.nR,sT,.inl ⟨rfl,_,ax.of xB⟩,_,rfl,_,rfl,_,rfl,dc rfl,fun rt Kr=>?_⟩;have s5:=aG (o:=.tup [.ref q,.str (lL wd),.ref pu]) Kr;have e5:upd H4 rt (.tup [.ref q,.str (lL wd),.ref pu]) rt=some (.tup [.ref q,.str (lL wd),.ref pu]):=ai;generalize upd H4 rt (.tup [.ref q,.str (lL wd),.ref pu])=H5 at*;refine ⟨rl,_,_,rfl,rfl,s5 _ _ xB,by rw [aB,xC];exact Ao (by omega),?_⟩;have k6:∀b o,H5 b=some o->b≠rl->upd H5 rl (.lst (qs.map V.ref++[.ref rt])) b=some o:=fun b o e ne=>by rw [ak ne];exact e
    have e6:upd H5 rl (.lst (qs.map V.ref++[.ref rt])) rl=some (.lst ((qs++[rt]).map V.ref)):=by rw [ai,ef];rfl
    generalize upd H5 rl (.lst (qs.map V.ref++[.ref rt]))=H6 at*;have all:∀b o,H1 b=some o->b≠p->b≠rl->b≠bd->H6 b=some o:=fun b o e n1 n2 n3=>k6 _ _ (s5 _ _ (k4 _ _ (k3 _ _ e n3) n1)) n2;have tup:∀b xs,H1 b=some (.tup xs)->H6 b=some (.tup xs):=fun b xs e=>all _ _ e (cH e i6 nofun) (cH e gj nofun) (cH e fz nofun);refine k H6 ?_ fun b o e n1 n2 n3=>all _ _ (s1 _ _ e) n1 n2 n3;rw [We hn];refine ⟨⟨SU,k6 _ _ (s5 _ _ Fd) wX⟩,?_,⟨qs++[rt],e6,?_⟩,⟨_,k6 _ _ (s5 _ _ (k4 _ _ e3 (aD zf))) (aD Rh),?_,fun kk=>?_⟩⟩
    ·obtain ⟨BW,f1,f2,f3,f4⟩:=c1.ic.at_;refine ⟨BW,all _ _ f1 (cH f1 i6 nofun) (cH f1 gj nofun) (cH f1 fz nofun),f2,f3,fun e f hf=>?_⟩;obtain ⟨pp,q1,q2⟩:=f4 e f hf;exact ⟨pp,q1,tup _ _ q2⟩
    ·refine p_ (gL bX fun qq r e=>?_) (.cons ?_ .nil)
     ·obtain ⟨pw,EL,r1,r2,r3⟩:=e;exact ⟨pw,EL,tup _ _ r1,tup _ _ r2,tup _ _ r3⟩
     ·exact ⟨q,pu,k6 _ _ e5 (cH e5 (s5 _ _ xB) nofun),tup _ _ qG,tup _ _ xE⟩
    ·refine ⟨?_,fun kv KP=>?_⟩
     ·show (dU kvs (cw x.key) _).length<=(st.rows++[_]).length;have:=yX kvs (cw x.key) (.int (st.rows.length:Int));have:=p0.1;rw [ig];show _<=st.rows.length+1;lia
     ·rcases Wg KP with z | z
      ·exact ⟨x.key,z⟩
      ·obtain ⟨qC,h0,e0⟩:=z;obtain ⟨k0,e1⟩:=p0.2 qC h0;exact ⟨k0,e0.trans e1⟩
    ·show fq (dU kvs (cw x.key) _) (cw kk)=(if kk=x.key then some st.rows.length else st.best kk).map _;rw [A6]
     by_cases ek:kk=x.key
     ·rw [if_pos (by rw [ek]),if_pos ek];rfl
     ·rw [if_neg fun z=>ek (O3 z),if_neg ek];exact ee kk
  ·refine jl (by simp [hn]) (k H1 ?_ (dw.of s1));rw [MU.wy hn];exact c.same s1
end Y0
namespace L2
open PySem PySem.Spec PyProof.Rows
theorem N' {js:List (Option Nat)} {g:TG} {tc:TT} {te:TE} {σ:St} {H:Hp} {D:Addr} {Q:VK} {K:aF} {a:Addr} {xs:List V} (Pv:Nat->St->Hp->Prop) (h0:Pv 0 (rJ js σ) (upd H D (.lst []))) (hl:∀i aa H',i<=xs.length->Pv i aa H'->c_ K H' a xs)
 (hs:∀i x aa H',xs[i]?=some x->Pv i aa H'->g x aa H' fun eg H3=>tc eg H3 fun ok H4=>if ok=true then te eg H4 fun y H5=>∃ys,H5 D=some (.lst ys)/\ys.length<sizeLine/\Pv (i+1) eg (upd H5 D (.lst (ys++[y]))) else Pv (i+1) eg H4)
 (hd:∀aa H',Pv xs.length aa H'->Q (.ref D) H'):
 yI js g tc te σ Q (zN K a) H D:=by
 refine ⟨fun i m σ H=>m=xs.length-i/\i<=xs.length/\Pv i σ H,⟨xs.length,by simp,d9 _,h0⟩,?_⟩;rintro i m aa H' ⟨rfl,hi,p⟩
 by_cases bb:i<xs.length
 ·refine .inr ⟨⟨xs,_,hl i aa H' hi p,kK bb⟩,Pv (i+1),fun i9 H2 p'=>⟨xs.length-(i+1),by omega,rfl,bb,p'⟩,fun x H2 y=>?_⟩;obtain ⟨e,y⟩:=y;subst e;exact hs i x aa _ (y xs (hl i aa _ hi p)) p
 ·have e:i=xs.length:=by lia
  subst e;exact .inl ⟨⟨xs,hl _ aa H' hi p,az _⟩,hd aa H' p⟩
theorem uQ {Y:Cx} {K:aF} {e:Expr} {f:Str} {pos:Pos} {ta:TE} (hK:Y.K=K) (he:PE Y e ta) (hb:attributeBase e f Y.env (eval e Y.env)=eval e Y.env):PE Y (.Attribute e f pos) (QH K ta f):=by
 subst hK;exact fQ he hb
end L2
namespace Y0
open PySem L2
seal L2.PE L2.PA L2.PT L2.PS L2.g7 L2.PG L2.nU L2.PI L2.PO
def CQ (C:Addr):Sp:=fun vs H Q _=>∃p be rl bd pu n F st wd us xs o,vs=[.ref p,.str (lL wd),.ref pu]/\gb C H p be rl bd n F st/\MU.cm n st/\H pu=some (.tup (us.map fun i:Nat=>V.int (i:Int)))/\Paired (fun i x=>MU.ah st i=some x) us xs/\oY F (lL wd) xs o/\st.rows.length<=16500000/\
 ∀H',gb C H' p be rl bd n F (MU.put st o wd us)->dw p rl bd H H'->Q .aU H'
theorem QB:cG ["self","word","used","what"] ["self","word","used"] (aZ cb):=cV
theorem Yh:iP (aZ cb) ["self","word","used","what"] (lT [(".0",.local),("number",.local),("self",.free)]) ["number","self"] [none,some 0]:=lU
theorem YW:(["number","self"]:List Str).Nodup:=by decide+kernel
theorem tZ {f C fT fW:Addr} {fd pD vG:FuncData} (F:gZ K "draw" "Closing.draw" cb f fd) (T:o_ K mg C)
 (mT:jk K C "take" fT) (bT:eY K pD ["self","what","word","used"] []) (GT:ar P w K mg base a9 2 fT pD ["self","what","word","used"] (Hf C))
 (FW:Fn K mg "what_follows" bu ["falls","word","used"] fW vG) (GW:ar P w K mg base a9 2 fW vG ["falls","word","used"] PH):ar P w K mg base a9 3 f fd ["self","word","used"] (CQ C):=by
 refine F.ix QB fun _ A _ s H _ Q E hr h=>?_
 ·obtain ⟨p,be,rl,bd,pu,n,Fa,st,wd,us,xs,o,rfl,c,g,By,RS,ask,hlen,k⟩:=h;refine ⟨_,cx (cA 3 QB.nd (cf GW hr FW (iw (fQ (pv 0) rfl) (pv 1) (pe rfl (Hi (pv 2)) Yh (fun cl ex s0 H0=>⟨bS 0 YW,pX,a8 (de dW (uQ (K:=K) rfl (pv 1) rfl) (pv 0) (fun _ _=>rfl))⟩)))))
   (aE (dR (dh Nl (pv 3) mY) (aE (gJ (jI (pv 0) T.cl mT GT hr bT .nil gv (iw (pv 3) (pv 1) (pv 2))))) dZ)),?_⟩
  obtain ⟨dx,hp⟩:=c.ins;obtain ⟨qs,gj,bX⟩:=c.rows;obtain ⟨hk,xw⟩:=ask.kinds;have zk:us.length=xs.length:=Paired.length RS;refine fun N1 c1=>⟨_,rfl,p,C,dx,_,_,rfl,hp,T.cl,T.nB,QO,_,rfl,_,rfl,pu,rfl,⟨_,c_.of By⟩,fun Da cK=>?_⟩;refine N' (xs:=us.map fun i:Nat=>V.int (i:Int)) (fun j aa H'=>∃v ps,aa=[v,some (.ref p)]/\H' Da=some (.lst (ps.map V.ref))/\Paired (iq H') ps (xs.take j)/\aI H H') ⟨none,[],rfl,ai,.nil,aG cK⟩ ?_ ?_ ?_
  ·rintro j aa H2 _ ⟨v,ps,rfl,_,_,s2⟩;exact c_.of (s2 _ _ By)
  ·rintro j x aa H2 hx ⟨v,ps,rfl,e2,jf,s2⟩;rw [f9] at hx
   cases q:us[j]? with
   | none=>rw [q] at hx;cases hx
   | some i=>
    rw [q] at hx;cases hx;obtain ⟨y,rX,hy⟩:=aX RS q;obtain ⟨q',r,pw,EL,g1,g2,g3,g4,g5,g6⟩:=Dg bX hy;have iH:iI (qs.map V.ref) (i:Int)=some (.ref q'):=ko (by rw [f9,g1];rfl);have hj:j<xs.length:=(gO.mp rX).1;have fh:ps.length=min j xs.length:=by rw [Paired.length jf,ie]
    refine ⟨_,rfl,p,C,dx,_,_,rfl,s2 _ _ hp,T.cl,T.nR,sT,oW rfl (s2 _ _ gj) iH (ay (s2 _ _ g4) rfl ⟨_,e2,?_,_,ps++[pw],rfl,?_,?_,fun b o e=>?_⟩)⟩
    ·rw [aB,fh];exact gK (by lia)
    ·rw [ai,ef];rfl
    ·have et:xs.take (j+1)=xs.take j++[y]:=by rw [lD,rX];rfl
     rw [et];have keep:∀b x,iq H2 b x->iq (upd H2 Da (.lst (ps.map V.ref++[.ref pw]))) b x:=fun b x e=>by
      unfold iq;rw [ak (cH e e2 nofun)];exact e
     exact p_ (gL jf fun b x e=>keep b x e) (.cons (keep _ _ (s2 _ _ g5)) .nil)
    ·rw [ak (aR e cK)];exact s2 _ _ e
  rintro aa H2 ⟨v,ps,rfl,e2,jf,s2⟩;have bL:xs.take (us.map fun i:Nat=>V.int (i:Int)).length=xs:=by rw [aB,zk];exact jB
  rw [bL] at jf;have c2:=c.same s2;refine ⟨be,_,Da,ps,Fa,xs,o,rfl,c2.ic,⟨e2,jf⟩,.inl ask,fun ho H3 s3=>c1 _ _ ?_,fun x ho r H3 aJ s3 hw=>c1 _ _ ?_⟩
  ·refine ⟨_,rfl,rfl,_,rfl,jl rfl ?_⟩;refine k H3 ?_ (dw.of (s2.trans s3));rw [ho];exact c2.same s3
  ·refine ⟨_,rfl,rfl,_,rfl,sP rfl ?_⟩;have c3:=c2.same s3;have kZ:=s2.trans s3;refine ⟨_,rfl,p,dx,_,rfl,kZ _ _ hp,nZ,_,rfl,_,rfl,_,rfl,p,be,rl,bd,r,pu,n,Fa,st,x,wd,us,rfl,c3,g,hw,kZ _ _ By,hlen,fun H4 c4 k4=>?_⟩;refine k H4 ?_ ((dw.of kZ).trans k4);rw [ho];exact c4
def ft (l:List Nat):List V:=l.map fun i:Nat=>V.int (i:Int)
def NB (C:Addr):Sp:=fun vs H Q _=>∃(p be rl bd:Addr) (n:Nat) (F:MU.cq) (st:MU.St) (t:Bool) (a:Nat),vs=[.ref p,.str (lZ t),.int (a:Int)]/\gb C H p be rl bd n F st/\n<=8/\∀l H',H l=none->aI H H'->H' l=some (.lst (ft (MU.cL n st t a)))->Q (.ref l) H'
def IG (C:Addr):Sp:=fun vs H Q _=>∃(p be rl bd:Addr) (n:Nat) (F:MU.cq) (st:MU.St) (b:Nat),vs=[.ref p,.int (b:Int)]/\gb C H p be rl bd n F st/\n<=8/\∀l H',H l=none->aI H H'->H' l=some (.lst (ft (MU.dq n st b)))->Q (.ref l) H'
theorem DV:(List.range (n+1)).filterMap f=(List.range n).filterMap f++(f n).toList:=by
 rw [List.range_succ,List.filterMap_append]
 cases h:f n with
 | none=>simp [h]
 | some x=>simp [h]
theorem YC:cG ["self","kind","a"] ["self","kind","a"] (aZ aY):=cV
theorem Yk:iP (aZ aY) ["self","kind","a"] (lT [(".0",.local),("b",.local),("a",.free),("kind",.free),("self",.free)]) ["b","a","kind","self"] [none,some 2,some 1,some 0]:=lU
theorem Yx:(["b","a","kind","self"]:List Str).Nodup:=by decide+kernel
theorem qp {f C:Addr} {fd:FuncData} (F:gZ K "known_of" "Closing.known_of" aY f fd) (T:o_ K mg C):ar P w K mg base a9 1 f fd ["self","kind","a"] (NB C):=by
 refine F.ix YC fun _ A _ s H _ Q E hr h=>?_
 ·obtain ⟨p,be,rl,bd,n,Fa,st,t,a,rfl,c,h8,k⟩:=h;have hu:=lY hr;refine ⟨_,aE (cC (pe rfl (tf rfl T.range (bM (fQ (pv 0) rfl))) Yk (fun cl ex s0 H0=>⟨bS 0 Yx,Ar (wc (Ha hu (dB (iw (pv 2) (pv 1) (pv 0))) (uQ (K:=K) rfl (pv 3) rfl)) (by with_unfolding_all rfl)),nc hu (uQ (K:=K) rfl (pv 3) rfl) (dB (iw (pv 2) (pv 1) (pv 0))) (fun _ _=>rfl)⟩))),?_⟩;obtain ⟨dx,hp⟩:=c.ins;obtain ⟨kvs,fz,p0,ee⟩:=c.best;refine ⟨_,rfl,p,C,dx,_,_,rfl,hp,T.cl,T.nM,Mx,_,rfl,by exact Int.NonNeg.mk (n+Nat.succ 4611686018427387903),by lia,fun Da cK=>?_⟩;refine AG (n:=((n:Int)).toNat) (fun i aa H'=>∃v,aa=[v,some (.int (a:Int)),some (.str (lZ t)),some (.ref p)]/\H' Da=some (.lst (ft ((List.range i).filterMap fun b=>st.best (t,a,b))))/\aI H H') ⟨none,rfl,ai,aG cK⟩ ?_ ?_
  ·rintro i aa H2 hi ⟨v,rfl,e2,s2⟩;have gx:i<n:=by exact hi
   have ei:((0:Int)+(i:Int))=(i:Int):=by lia
   refine ⟨_,rfl,_,rfl,_,rfl,dc rfl,fun kt my=>?_⟩;rw [ei];have s3:=aG (o:=.tup ((cw (t,a,i)).map kV)) my;have e3:upd H2 kt (.tup ((cw (t,a,i)).map kV)) kt=some (.tup ((cw (t,a,i)).map kV)):=ai;have ek:(HO.tup [V.str (lZ t),V.int (a:Int),V.int (i:Int)])=.tup ((cw (t,a,i)).map kV):=rfl;rw [ek];generalize upd H2 kt (.tup ((cw (t,a,i)).map kV))=H3 at*;have kZ:=s2.trans s3;have dg:=fm.t (k:=cw (t,a,i)) (kZ _ _ fz) e3;rw [ee] at dg;refine ⟨_,rfl,p,C,dx,_,_,rfl,kZ _ _ hp,T.cl,T.nE,rG,bd,_,rfl,dg,_,rfl,?_⟩;have fl:((List.range i).filterMap fun b=>st.best (t,a,b)).length<=i:=by
    have:=List.length_filterMap_le (fun b=>st.best (t,a,b)) (List.range i);rw [List.length_range] at this;exact this
   cases hb:st.best (t,a,i) with
   | none=>
    refine ip ⟨_,rfl,?_,kZ⟩;rw [DV,hb];show H3 Da=some (.lst (ft (_++[])));rw [List.append_nil];exact s3 _ _ e2
   | some j=>
    rw [hb] at dg;refine mL ?_;refine ⟨_,rfl,p,C,dx,_,_,rfl,kZ _ _ hp,T.cl,T.nE,rG,_,rfl,_,rfl,_,rfl,dc rfl,fun xq xN=>?_⟩;have s4:=aG (o:=.tup ((cw (t,a,i)).map kV)) xN;have e4:upd H3 xq (.tup ((cw (t,a,i)).map kV)) xq=some (.tup ((cw (t,a,i)).map kV)):=ai;rw [ek];generalize upd H3 xq (.tup ((cw (t,a,i)).map kV))=H4 at*;have AW:=kZ.trans s4;have Cb:=fm.t (k:=cw (t,a,i)) (AW _ _ fz) e4;rw [ee,hb] at Cb;refine ⟨bd,_,rfl,Cb,_,s4 _ _ (s3 _ _ e2),?_,_,rfl,?_,fun b o e=>?_⟩
    ·unfold ft;rw [aB];exact gK (by lia)
    ·rw [ai,DV,hb];unfold ft;rw [ef];rfl
    ·rw [ak (aR e cK)];exact AW _ _ e
  ·rintro aa H2 ⟨v,rfl,e2,s2⟩;exact k Da H2 cK s2 e2
theorem YI:cG ["self","b"] ["self","b"] (aZ bo):=cV
theorem Yn:iP (aZ bo) ["self","b"] (lT [(".0",.local),("a",.local),("b",.free),("self",.free)]) ["a","b","self"] [none,some 1,some 0]:=lU
theorem Y1:(["a","b","self"]:List Str).Nodup:=by decide+kernel
theorem o7 {f C:Addr} {fd:FuncData} (F:gZ K "ties_to" "Closing.ties_to" bo f fd) (T:o_ K mg C):ar P w K mg base a9 1 f fd ["self","b"] (IG C):=by
 refine F.ix YI fun _ A _ s H _ Q E hr h=>?_
 ·obtain ⟨p,be,rl,bd,n,Fa,st,b0,rfl,c,h8,k⟩:=h;have hu:=lY hr;refine ⟨_,aE (cC (pe rfl (tf rfl T.range (bM (fQ (pv 0) rfl))) Yn (fun cl ex s0 H0=>⟨bS 0 Y1,Ar (wc (Ha hu (dB (iw eZ (pv 0) (pv 1))) (uQ (K:=K) rfl (pv 2) rfl)) (by with_unfolding_all rfl)),nc hu (uQ (K:=K) rfl (pv 2) rfl) (dB (iw eZ (pv 0) (pv 1))) (fun _ _=>rfl)⟩))),?_⟩;obtain ⟨dx,hp⟩:=c.ins;obtain ⟨kvs,fz,p0,ee⟩:=c.best;refine ⟨_,rfl,p,C,dx,_,_,rfl,hp,T.cl,T.nM,Mx,_,rfl,by exact Int.NonNeg.mk (n+Nat.succ 4611686018427387903),by lia,fun Da cK=>?_⟩;refine AG (n:=((n:Int)).toNat) (fun i aa H'=>∃v,aa=[v,some (.int (b0:Int)),some (.ref p)]/\H' Da=some (.lst (ft ((List.range i).filterMap fun a=>st.best (true,a,b0))))/\aI H H') ⟨none,rfl,ai,aG cK⟩ ?_ ?_
  ·rintro i aa H2 hi ⟨v,rfl,e2,s2⟩;have gx:i<n:=by exact hi
   have ei:((0:Int)+(i:Int))=(i:Int):=by lia
   refine ⟨_,rfl,_,rfl,dc rfl,fun kt my=>?_⟩;rw [ei];have s3:=aG (o:=.tup ((cw (true,i,b0)).map kV)) my;have e3:upd H2 kt (.tup ((cw (true,i,b0)).map kV)) kt=some (.tup ((cw (true,i,b0)).map kV)):=ai;have ek:(HO.tup [V.str "tie",V.int (i:Int),V.int (b0:Int)])=.tup ((cw (true,i,b0)).map kV):=rfl;rw [ek];generalize upd H2 kt (.tup ((cw (true,i,b0)).map kV))=H3 at*;have kZ:=s2.trans s3;have dg:=fm.t (k:=cw (true,i,b0)) (kZ _ _ fz) e3;rw [ee] at dg;refine ⟨_,rfl,p,C,dx,_,_,rfl,kZ _ _ hp,T.cl,T.nE,rG,bd,_,rfl,dg,_,rfl,?_⟩;have fl:((List.range i).filterMap fun a=>st.best (true,a,b0)).length<=i:=by
    have:=List.length_filterMap_le (fun a=>st.best (true,a,b0)) (List.range i);rw [List.length_range] at this;exact this
   cases hb:st.best (true,i,b0) with
   | none=>
    refine ip ⟨_,rfl,?_,kZ⟩;rw [DV,hb];show H3 Da=some (.lst (ft (_++[])));rw [List.append_nil];exact s3 _ _ e2
   | some j=>
    rw [hb] at dg;refine mL ?_;refine ⟨_,rfl,p,C,dx,_,_,rfl,kZ _ _ hp,T.cl,T.nE,rG,_,rfl,_,rfl,dc rfl,fun xq xN=>?_⟩;have s4:=aG (o:=.tup ((cw (true,i,b0)).map kV)) xN;have e4:upd H3 xq (.tup ((cw (true,i,b0)).map kV)) xq=some (.tup ((cw (true,i,b0)).map kV)):=ai;rw [ek];generalize upd H3 xq (.tup ((cw (true,i,b0)).map kV))=H4 at*;have AW:=kZ.trans s4;have Cb:=fm.t (k:=cw (true,i,b0)) (AW _ _ fz) e4;rw [ee,hb] at Cb;refine ⟨bd,_,rfl,Cb,_,s4 _ _ (s3 _ _ e2),?_,_,rfl,?_,fun b o e=>?_⟩
    ·unfold ft;rw [aB];exact gK (by lia)
    ·rw [ai,DV,hb];unfold ft;rw [ef];rfl
    ·rw [ak (aR e cK)];exact AW _ _ e
  ·rintro aa H2 ⟨v,rfl,e2,s2⟩;exact k Da H2 cK s2 e2
end Y0
namespace MU
def Z9 (F:cq) (st:St):Prop:=∀i w,ah st i=some w->w.tie=false->∃f,F w.b=some f
structure ji (n:Nat) (F:cq) (st:St):Prop where
 good:cm n st
 ends:Z9 F st
def vN (n:Nat) (F:cq) (w:aj):Prop:=sD n w/\(w.tie=false->∃f,F w.b=some f)
variable {n:Nat} {F:cq} {most:Int} {st:St}
theorem ji.put (h:ji n F st) (ho:∀w,o=some w->vN n F w):ji n F (put st o wd us):=by
 refine ⟨HF h.good fun w e=>(ho w e).1,fun i w hw ht=>?_⟩
 by_cases hi:i<st.rows.length
 ·exact h.ends i w (rQ (rO _ _ _ _) hi hw) ht
 ·exact (rN (C:=fun w=>w.tie=false->∃f,F w.b=some f) (fun w e=>(ho w e).2) i w (by exact mH hi) hw) ht
theorem MX {p q w:aj} (h1:p.a<n) (h2:q.b<n) (h:a7 p q=some w):vN n F w:=by
 unfold a7 at h;split at h
 ·cases h;exact ⟨⟨h1,h2,fun z=>nomatch z⟩,fun z=>nomatch z⟩
 ·cases h
theorem Vn {p w:aj} (h1:p.a<n) (h2:p.b<n) (h:cT F p=some w):vN n F w:=by
 refine ⟨Ax p w h1 h2 h,fun _=>?_⟩;unfold cT at h;split at h
 ·cases q:F p.b with
  | none=>rw [q] at h;cases h
  | some f=>rw [q] at h;cases h;exact ⟨f,q⟩
 ·cases h
theorem Ve (hF:g_ n F most) {p w:aj} (h1:p.a<n) (h2:p.b<n) (h:da F p=some w):vN n F w:=by
 refine ⟨Az hF p w h1 h2 h,fun ht=>?_⟩;unfold da at h;split at h
 ·cases q:F p.a with
  | none=>rw [q] at h;cases h
  | some f=>rw [q] at h;cases h;cases ht
 ·cases h
theorem Vg (hF:g_ n F most) {p w:aj} (h1:p.a<n) (h2:p.b<n) (h:df F p=some w):vN n F w:=by
 refine ⟨Dv hF p w h1 h2 h,fun ht=>?_⟩;unfold df at h;split at h
 ·cases q:F p.b with
  | none=>rw [q] at h;cases h
  | some f=>rw [q] at h;cases h;cases ht
 ·cases h
theorem M' {p q w:aj} (h1:p.a<n) (h2:p.b<n) (h3:q.a<n) (h4:q.b<n) (h:bf F p q=some w):vN n F w:=by
 refine ⟨HB p q w h1 h2 h3 h4 h,fun _=>?_⟩;unfold bf at h;split at h
 ·cases e:F p.b with
  | none=>rw [e] at h;cases h
  | some f=>rw [e] at h;cases h;exact ⟨f,e⟩
 ·cases h
theorem V8 (hF:g_ n F most) {p w:aj} (h1:p.a<n) (h2:p.b<n) (h:cS F p=some w):vN n F w:=by
 refine ⟨DF hF p w h1 h2 h,fun _=>?_⟩;unfold cS at h;split at h
 ·cases e:F p.a with
  | none=>rw [e] at h;cases h
  | some o=>
   rw [e] at h;have h:(F p.b).map (fun f=>(⟨false,o.1,p.b,min p.v f.2.2-o.2.1⟩:aj))=some w:=h
   cases e2:F p.b with
   | none=>rw [e2] at h;cases h
   | some f=>rw [e2] at h;cases h;exact ⟨f,e2⟩
 ·cases h
theorem CA (h:ah st i=some x):aK f wd i st=put st (f x) wd [i]:=by
 unfold aK;rw [h];rfl
theorem CC (h:ah st i=some x) (h':ah st j=some y):ao f wd i j st=put st (f x y) wd [i,j]:=by
 unfold ao;rw [h];show put st ((ah st j).bind fun q=>f x q) wd [i,j]=_;rw [h'];rfl
theorem DH {l:List Nat} {i j:Nat} (h:l[i]?=some j):(l.take (i+1)).foldl f st=f ((l.take i).foldl f st) j:=by
 rw [lD,h,List.foldl_append];rfl
end MU
namespace Y0
open PySem L2
seal L2.PE L2.PA L2.PT L2.PS L2.g7 L2.PG L2.nU L2.PI L2.PO
section
variable {C p be rl bd:Addr} {n:Nat} {F:MU.cq} {st:MU.St} {σ:L2.St} {H:Hp} {Q:VK} {E:XK}
theorem EC {at_:Nat} {i:Nat} (h1:σ[i]?=some (some (.int (at_:Int)))) (k:∀t,H t=none->R [.ref t] (upd H t (.tup ([at_].map fun i:Nat=>V.int (i:Int))))):kj (IE (kj (rq i) pK)) pK σ H R:=
 ⟨_,h1,dc rfl,fun t ht=>k t ht⟩
theorem ED {a b:Nat} {i j:Nat} (h1:σ[i]?=some (some (.int (a:Int)))) (h2:σ[j]?=some (some (.int (b:Int)))) (k:∀t,H t=none->R [.ref t] (upd H t (.tup ([a,b].map fun i:Nat=>V.int (i:Int))))):kj (IE (kj (rq i) (kj (rq j) pK))) pK σ H R:=
 ⟨_,h1,_,h2,dc rfl,fun t ht=>k t ht⟩
theorem uR (hw:word=lL wd) (h0:σ[0]?=some (some (.ref p))) (c:gb C H p be rl bd n F st) (g:MU.cm n st)
 (hu:∀R:List V->Hp->Prop,(∀t,H t=none->R [.ref t] (upd H t (.tup (us.map fun i:Nat=>V.int (i:Int)))))->tu σ H R) (hx:Paired (fun i x=>MU.ah st i=some x) us xs) (ask:oY F (lL wd) xs o) (hlen:st.rows.length<=16500000)
 (k:∀H',gb C H' p be rl bd n F (MU.put st o wd us)->dw p rl bd H H'->Q .aU H'):GC C "draw" (CQ C) [] E (rq 0) (kj (tC (.str word)) tu) σ H Q:=by
 subst hw;obtain ⟨dx,hp⟩:=c.ins;refine ⟨_,h0,p,dx,_,rfl,hp,nZ,?_⟩;refine hu _ fun t ht=>?_;have s1:=aG (o:=.tup (us.map fun i:Nat=>V.int (i:Int))) ht;exact ⟨p,be,rl,bd,t,n,F,st,wd,us,xs,o,rfl,c.same s1,g,ai,hx,ask,hlen,fun H' c' k'=>k H' c' ((dw.of s1).trans k')⟩
end
theorem gb.apart (c:gb C H p be rl bd n F st) (h:H la=none):la≠p/\la≠rl/\la≠bd:=by
 obtain ⟨dx,hp⟩:=c.ins;obtain ⟨qs,gj,_⟩:=c.rows;obtain ⟨kvs,fz,_⟩:=c.best;exact ⟨aD (aR hp h),aD (aR gj h),aD (aR fz h)⟩
def PJ (C:Addr):Sp:=fun vs H Q _=>∃(p be rl bd:Addr) (n:Nat) (F:MU.cq) (st:MU.St) (at_:Nat) (x:MU.aj),vs=[.ref p,.int (at_:Int),.int (x.a:Int),.int (x.b:Int)]/\gb C H p be rl bd n F st/\MU.ji n F st/\MU.g_ n F ((60:Nat):Int)/\MU.ah st at_=some x/\x.tie=true/\n<=8/\st.rows.length<=16000000/\
 ∀H',gb C H' p be rl bd n F (MU.dY n F at_ x.a x.b st)->MU.ji n F (MU.dY n F at_ x.a x.b st)->dw p rl bd H H'->Q .aU H'
def PX (C:Addr):Sp:=fun vs H Q _=>∃(p be rl bd:Addr) (n:Nat) (F:MU.cq) (st:MU.St) (at_:Nat) (x:MU.aj),vs=[.ref p,.int (at_:Int),.int (x.a:Int)]/\gb C H p be rl bd n F st/\MU.ji n F st/\MU.g_ n F ((60:Nat):Int)/\MU.ah st at_=some x/\x.tie=false/\n<=8/\st.rows.length<=16000000/\
 ∀H',gb C H' p be rl bd n F (MU.fu n F at_ x.a st)->MU.ji n F (MU.fu n F at_ x.a st)->dw p rl bd H H'->Q .aU H'
abbrev nFt:List Str:=["self","at","a","b","number"]
theorem EA:cG nFt ["self","at","a","b"] (aZ aW):=cV
abbrev nFw:List Str:=["self","at","a","number"]
theorem QC:cG nFw ["self","at","a"] (aZ aS):=cV
theorem k_ (F:gZ K "draw_from_wait" "Closing.draw_from_wait" aS f fd) (T:o_ K mg C)
 (mD:jk K C "draw" fD) (bD:eY K LF ["self","word","used"] []) (GD:ar P w K mg base a9 3 fD LF ["self","word","used"] (CQ C))
 (mZ:jk K C "ties_to" fZ) (bZ:eY K L8 ["self","b"] []) (GZ:ar P w K mg base a9 1 fZ L8 ["self","b"] (IG C)):ar P w K mg base a9 4 f fd ["self","at","a"] (PX C):=by
 refine F.ix QC fun _ A _ s H _ Q E hr h=>?_
 ·obtain ⟨p,be,rl,bd,n,Fa,st,at_,x,rfl,c,S,hF,hx,ht,h8,hlen,k⟩:=h;have fU:cY 1 _:=hr.mono (by decide);refine ⟨_,cx (gJ (jI (pv 0) T.cl mD GD hr bD .nil gv (bw eZ (dB (bM (pv 1))))))
   (cx (gJ (jI (pv 0) T.cl mD GD hr bD .nil gv (bw eZ (dB (bM (pv 1))))))
   (aE (jw PassesOwn.never rfl (jq (jI (pv 0) T.cl mZ GZ fU bZ .nil gv (bM (pv 2)))) (bS 3 QC.nd)
    (aE (gJ (jI (pv 0) T.cl mD GD hr bD .nil gv (bw eZ (dB (bw (pv 1) (pv 3)))))))))),?_⟩
  obtain ⟨xa,xb⟩:=S.good.lt _ _ hx;obtain ⟨fa,z9⟩:=S.ends _ _ hx ht;have d1:MU.aK (MU.df Fa) .sure at_ st=MU.put st (MU.df Fa x) .sure [at_]:=MU.CA hx;have S1:MU.ji n Fa (MU.put st (MU.df Fa x) .sure [at_]):=S.put fun w e=>MU.Vg hF xa xb e;have uh:MU.ah (MU.put st (MU.df Fa x) .sure [at_]) at_=some x:=MU.bY (MU.rO _ _ _ _) hx;have l1:=MU.gR st (MU.df Fa x) .sure [at_];have goal:MU.fu n Fa at_ x.a st=(MU.dq n (MU.aK (MU.cS Fa) .aq at_ (MU.aK (MU.df Fa) .sure at_ st)) x.a).foldl (fun st j=>MU.ao (MU.bf Fa) .back at_ j st) (MU.aK (MU.cS Fa) .aq at_ (MU.aK (MU.df Fa) .sure at_ st)):=rfl;rw [d1] at goal;refine fun N1 c1=>uR (wd:=.sure) rfl rfl c S.good (fun R z=>EC rfl z) (.cons hx .nil) (.sure x fa ht z9) (by lia) fun H1 C1 k1=>c1 _ _ ?_;generalize MU.put st (MU.df Fa x) .sure [at_]=gw at*;clear c1 N1;have d2:MU.aK (MU.cS Fa) .aq at_ gw=MU.put gw (MU.cS Fa x) .aq [at_]:=MU.CA uh;have S2:MU.ji n Fa (MU.put gw (MU.cS Fa x) .aq [at_]):=S1.put fun w e=>MU.V8 hF xa xb e;have xw:MU.ah (MU.put gw (MU.cS Fa x) .aq [at_]) at_=some x:=MU.bY (MU.rO _ _ _ _) uh;have l2:=MU.gR gw (MU.cS Fa x) .aq [at_];rw [d2] at goal;refine fun N2 c2=>uR (wd:=.aq) rfl rfl C1 S1.good (fun R z=>EC rfl z) (.cons uh .nil) (.aq x fa ht z9) (by lia) fun H2 C2 k2=>c2 _ _ ?_;generalize MU.put gw (MU.cS Fa x) .aq [at_]=aT at*;clear c2 N2;have k02:=k1.trans k2;obtain ⟨dx,hp⟩:=C2.ins;refine ⟨_,rfl,p,dx,_,rfl,hp,nZ,_,rfl,p,be,rl,bd,n,Fa,aT,x.a,rfl,C2,h8,fun la H3 qM s3 e3=>?_⟩;obtain ⟨n1,n2,n3⟩:=C2.apart qM;have C3:=C2.same s3;refine ⟨la,rfl,⟨_,ax.of e3⟩,?_⟩;have d_:∀j∈MU.dq n aT x.a,∃y,MU.ah aT j=some y/\y.tie=true/\y.a<n/\y.b<n:=fun j hj=>by
   obtain ⟨cc,_,hb⟩:=MU.DO hj;obtain ⟨y,hy,hk⟩:=S2.good.at_ _ _ hb;obtain ⟨q1,q2,q3⟩:=MU.iD hk;exact ⟨y,hy,q1,S2.good.lt _ _ hy⟩
  have tl:=MU.DN (n:=n) (st:=aT) (b:=x.a);generalize MU.dq n aT x.a=L at*;refine om (K:=K) (a:=la) (xs:=ft L) (fun i aa H'=>∃v,aa=[some (.ref p),some (.int (at_:Int)),some (.int (x.a:Int)),v]/\gb C H' p be rl bd n Fa ((L.take i).foldl (fun st j=>MU.ao (MU.bf Fa) .back at_ j st) aT)/\MU.ji n Fa ((L.take i).foldl (fun st j=>MU.ao (MU.bf Fa) .back at_ j st) aT)/\MU.Ext aT ((L.take i).foldl (fun st j=>MU.ao (MU.bf Fa) .back at_ j st) aT)/\dw p rl bd H3 H') ⟨none,rfl,C3,S2,MU.Ext.refl _,dw.of (aI.refl _)⟩ ?_ ?_ ?_
  ·rintro i aa H4 _ ⟨v,rfl,_,_,_,k4⟩;exact ax.of (k4 _ _ e3 n1 n2 n3)
  ·rintro i y aa H4 hy ⟨v,rfl,C4,S4,x4,k4⟩;unfold ft at hy;rw [f9] at hy
   cases q:L[i]? with
   | none=>rw [q] at hy;cases hy
   | some j=>
    rw [q] at hy;cases hy;obtain ⟨y,rX,yt,ya,yb⟩:=d_ j (gq q);have fl:=MU.pU (f:=fun st j=>MU.ao (MU.bf Fa) .back at_ j st) (fun _ _=>MU.gR _ _ _ _) (L.take i) aT;rw [ie] at fl;rw [MU.DH q];have qF:=MU.bY x4 xw;have pq:=MU.bY x4 rX;have e4:MU.ao (MU.bf Fa) .back at_ j ((L.take i).foldl (fun st j=>MU.ao (MU.bf Fa) .back at_ j st) aT)=MU.put ((L.take i).foldl (fun st j=>MU.ao (MU.bf Fa) .back at_ j st) aT) (MU.bf Fa x y) .back [at_,j]:=MU.CC qF pq;rw [e4];generalize (L.take i).foldl (fun st j=>MU.ao (MU.bf Fa) .back at_ j st) aT=cy at*;refine uR (wd:=.back) rfl rfl C4 S4.good (fun R z=>ED rfl rfl z) (.cons qF (.cons pq .nil)) (.back x y fa ht yt z9) (by lia) fun H5 C5 k5=>⟨_,rfl,C5,S4.put fun w e=>MU.M' xa xb ya yb e,x4.trans (MU.rO _ _ _ _),k4.trans k5⟩
  ·rintro aa H4 ⟨v,rfl,C4,S4,x4,k4⟩;have bL:L.take (ft L).length=L:=by unfold ft;rw [aB];exact jB
   rw [bL,<-goal] at C4 S4;exact k H4 C4 S4 ((k02.trans (dw.of s3)).trans k4)
theorem mn (F:gZ K "draw_from_tie" "Closing.draw_from_tie" aW f fd) (T:o_ K mg C)
 (mD:jk K C "draw" fD) (bD:eY K LF ["self","word","used"] []) (GD:ar P w K mg base a9 3 fD LF ["self","word","used"] (CQ C))
 (mZ:jk K C "ties_to" fZ) (bZ:eY K L8 ["self","b"] []) (GZ:ar P w K mg base a9 1 fZ L8 ["self","b"] (IG C))
 (mK:jk K C "known_of" fK) (bK:eY K LC ["self","kind","a"] []) (GK:ar P w K mg base a9 1 fK LC ["self","kind","a"] (NB C)):ar P w K mg base a9 4 f fd ["self","at","a","b"] (PJ C):=by
 refine F.ix EA fun _ A _ s H _ Q E hr h=>?_
 ·obtain ⟨p,be,rl,bd,n,Fa,st,at_,x,rfl,c,S,hF,hx,ht,h8,hlen,k⟩:=h;have fU:cY 1 _:=hr.mono (by decide);refine ⟨_,cx (gJ (jI (pv 0) T.cl mD GD hr bD .nil gv (bw eZ (dB (bM (pv 1))))))
   (cx (gJ (jI (pv 0) T.cl mD GD hr bD .nil gv (bw eZ (dB (bM (pv 1))))))
   (cx (jw PassesOwn.never rfl (jq (jI (pv 0) T.cl mK GK fU bK .nil gv (bw eZ (pv 3)))) (bS 4 EA.nd)
    (aE (gJ (jI (pv 0) T.cl mD GD hr bD .nil gv (bw eZ (dB (bw (pv 1) (pv 4))))))))
   (cx (jw PassesOwn.never rfl (jq (jI (pv 0) T.cl mZ GZ fU bZ .nil gv (bM (pv 2)))) (bS 4 EA.nd)
    (aE (gJ (jI (pv 0) T.cl mD GD hr bD .nil gv (bw eZ (dB (bw (pv 4) (pv 1))))))))
   (aE (jw PassesOwn.never rfl (jq (jI (pv 0) T.cl mK GK fU bK .nil gv (bw eZ (pv 3)))) (bS 4 EA.nd)
    (aE (gJ (jI (pv 0) T.cl mD GD hr bD .nil gv (bw eZ (dB (bw (pv 4) (pv 1)))))))))))),?_⟩
  obtain ⟨xa,xb⟩:=S.good.lt _ _ hx;have d1:MU.aK (MU.cT Fa) .aA at_ st=MU.put st (MU.cT Fa x) .aA [at_]:=MU.CA hx;have S1:MU.ji n Fa (MU.put st (MU.cT Fa x) .aA [at_]):=S.put fun w e=>MU.Vn xa xb e;have uh:MU.ah (MU.put st (MU.cT Fa x) .aA [at_]) at_=some x:=MU.bY (MU.rO _ _ _ _) hx;have l1:=MU.gR st (MU.cT Fa x) .aA [at_];generalize l8:MU.dY n Fa at_ x.a x.b st=fin at*;unfold MU.dY at l8;dsimp only at l8;rw [d1] at l8;refine fun N1 c1=>uR (wd:=.aA) rfl rfl c S.good (fun R z=>EC rfl z) (.cons hx .nil) (.aA x ht) (by lia) fun H1 C1 k1=>c1 _ _ ?_;generalize MU.put st (MU.cT Fa x) .aA [at_]=gw at*;clear c1 N1;have d2:MU.aK (MU.da Fa) .bh at_ gw=MU.put gw (MU.da Fa x) .bh [at_]:=MU.CA uh;have S2:MU.ji n Fa (MU.put gw (MU.da Fa x) .bh [at_]):=S1.put fun w e=>MU.Ve hF xa xb e;have xw:MU.ah (MU.put gw (MU.da Fa x) .bh [at_]) at_=some x:=MU.bY (MU.rO _ _ _ _) uh;have l2:=MU.gR gw (MU.da Fa x) .bh [at_];rw [d2] at l8;refine fun N2 c2=>uR (wd:=.bh) rfl rfl C1 S1.good (fun R z=>EC rfl z) (.cons uh .nil) (.bh x ht) (by lia) fun H2 C2 k2=>c2 _ _ ?_;generalize MU.put gw (MU.da Fa x) .bh [at_]=aT at*;clear c2 N2;have kA:=k1.trans k2;clear k1 k2;have v4:∃v:Option V,(none:Option V)=v:=⟨_,rfl⟩;obtain ⟨v4,hv4⟩:=v4;have lenA:aT.rows.length<=st.rows.length+2:=by lia
  refine fun N3 c3=>?_;obtain ⟨dx,hp⟩:=C2.ins;refine ⟨_,rfl,p,dx,_,rfl,hp,nZ,_,rfl,p,be,rl,bd,n,Fa,aT,true,x.b,rfl,C2,h8,fun la H3 qM s3 e3=>?_⟩;obtain ⟨n1,n2,n3⟩:=C2.apart qM;have C3:=C2.same s3;refine ⟨la,rfl,⟨_,ax.of e3⟩,?_⟩;have d_:∀j∈MU.cL n aT true x.b,∃y,MU.ah aT j=some y/\y.tie=true/\y.a<n/\y.b<n:=fun j hj=>by
   obtain ⟨cc,_,hb⟩:=MU.HU hj;obtain ⟨y,hy,hk⟩:=S2.good.at_ _ _ hb;obtain ⟨q1,q2,q3⟩:=MU.iD hk;exact ⟨y,hy,q1,S2.good.lt _ _ hy⟩
  have tl:(MU.cL n aT true x.b).length<=n:=MU.Dy;generalize MU.cL n aT true x.b=L at*;refine om (K:=K) (a:=la) (xs:=ft L) (fun i aa H'=>∃v,aa=[some (.ref p),some (.int (at_:Int)),some (.int (x.a:Int)),some (.int (x.b:Int)),v]/\gb C H' p be rl bd n Fa ((L.take i).foldl (fun st j=>MU.ao MU.a7 .sum at_ j st) aT)/\MU.ji n Fa ((L.take i).foldl (fun st j=>MU.ao MU.a7 .sum at_ j st) aT)/\MU.Ext aT ((L.take i).foldl (fun st j=>MU.ao MU.a7 .sum at_ j st) aT)/\dw p rl bd H3 H') ⟨_,rfl,C3,S2,MU.Ext.refl _,dw.of (aI.refl _)⟩ ?_ ?_ ?_
  ·rintro i aa H4 _ ⟨v,rfl,_,_,_,k4⟩;exact ax.of (k4 _ _ e3 n1 n2 n3)
  ·rintro i y aa H4 hy ⟨v,rfl,C4,S4,x4,k4⟩;unfold ft at hy;rw [f9] at hy
   cases q:L[i]? with
   | none=>rw [q] at hy;cases hy
   | some j=>
    rw [q] at hy;cases hy;obtain ⟨y,rX,yt,ya,yb⟩:=d_ j (gq q);have fl:=MU.pU (f:=fun st j=>MU.ao MU.a7 .sum at_ j st) (fun _ _=>MU.gR _ _ _ _) (L.take i) aT;rw [ie] at fl;rw [MU.DH q];have qF:=MU.bY x4 xw;have pq:=MU.bY x4 rX;have e4:MU.ao MU.a7 .sum at_ j ((L.take i).foldl (fun st j=>MU.ao MU.a7 .sum at_ j st) aT)=MU.put ((L.take i).foldl (fun st j=>MU.ao MU.a7 .sum at_ j st) aT) (MU.a7 x y) .sum [at_,j]:=MU.CC qF pq;rw [e4];generalize (L.take i).foldl (fun st j=>MU.ao MU.a7 .sum at_ j st) aT=cy at*;refine uR (wd:=.sum) rfl rfl C4 S4.good (fun R z=>ED rfl rfl z) (.cons qF (.cons pq .nil)) (.sum x y ht yt) (by lia) fun H5 C5 k5=>⟨_,rfl,C5,S4.put fun w e=>MU.MX xa yb e,x4.trans (MU.rO _ _ _ _),k4.trans k5⟩
  rintro aa H4 ⟨v1,rfl,C5,S5,x1,k4⟩;have bL:L.take (ft L).length=L:=by unfold ft;rw [aB];exact jB
  rw [bL] at C5 S5 x1;refine c3 _ _ ?_;have kB:=(kA.trans (dw.of s3)).trans k4;have RQ:=MU.bY x1 xw;have lenB:(L.foldl (fun st j=>MU.ao MU.a7 .sum at_ j st) aT).rows.length<=st.rows.length+(2+1*n):=by
   have:=MU.pU (f:=fun st j=>MU.ao MU.a7 .sum at_ j st) (fun _ _=>MU.gR _ _ _ _) L aT;lia
  generalize L.foldl (fun st j=>MU.ao MU.a7 .sum at_ j st) aT=cj at*;clear d_ tl e3 n1 n2 n3 C3 qM s3 k4 bL x1 hp c3 N3;refine fun N4 c4=>?_;obtain ⟨dx,hp⟩:=C5.ins;refine ⟨_,rfl,p,dx,_,rfl,hp,nZ,_,rfl,p,be,rl,bd,n,Fa,cj,x.a,rfl,C5,h8,fun la H3 qM s3 e3=>?_⟩;obtain ⟨n1,n2,n3⟩:=C5.apart qM;have C3:=C5.same s3;refine ⟨la,rfl,⟨_,ax.of e3⟩,?_⟩;have d_:∀j∈MU.dq n cj x.a,∃y,MU.ah cj j=some y/\y.tie=true/\y.a<n/\y.b<n:=fun j hj=>by
   obtain ⟨cc,_,hb⟩:=MU.DO hj;obtain ⟨y,hy,hk⟩:=S5.good.at_ _ _ hb;obtain ⟨q1,q2,q3⟩:=MU.iD hk;exact ⟨y,hy,q1,S5.good.lt _ _ hy⟩
  have tl:(MU.dq n cj x.a).length<=n:=MU.DN;generalize MU.dq n cj x.a=L at*;refine om (K:=K) (a:=la) (xs:=ft L) (fun i aa H'=>∃v,aa=[some (.ref p),some (.int (at_:Int)),some (.int (x.a:Int)),some (.int (x.b:Int)),v]/\gb C H' p be rl bd n Fa ((L.take i).foldl (fun st j=>MU.ao MU.a7 .sum j at_ st) cj)/\MU.ji n Fa ((L.take i).foldl (fun st j=>MU.ao MU.a7 .sum j at_ st) cj)/\MU.Ext cj ((L.take i).foldl (fun st j=>MU.ao MU.a7 .sum j at_ st) cj)/\dw p rl bd H3 H') ⟨_,rfl,C3,S5,MU.Ext.refl _,dw.of (aI.refl _)⟩ ?_ ?_ ?_
  ·rintro i aa H4 _ ⟨v,rfl,_,_,_,k4⟩;exact ax.of (k4 _ _ e3 n1 n2 n3)
  ·rintro i y aa H4 hy ⟨v,rfl,C4,S4,x4,k4⟩;unfold ft at hy;rw [f9] at hy
   cases q:L[i]? with
   | none=>rw [q] at hy;cases hy
   | some j=>
    rw [q] at hy;cases hy;obtain ⟨y,rX,yt,ya,yb⟩:=d_ j (gq q);have fl:=MU.pU (f:=fun st j=>MU.ao MU.a7 .sum j at_ st) (fun _ _=>MU.gR _ _ _ _) (L.take i) cj;rw [ie] at fl;rw [MU.DH q];have qF:=MU.bY x4 RQ;have pq:=MU.bY x4 rX;have e4:MU.ao MU.a7 .sum j at_ ((L.take i).foldl (fun st j=>MU.ao MU.a7 .sum j at_ st) cj)=MU.put ((L.take i).foldl (fun st j=>MU.ao MU.a7 .sum j at_ st) cj) (MU.a7 y x) .sum [j,at_]:=MU.CC pq qF;rw [e4];generalize (L.take i).foldl (fun st j=>MU.ao MU.a7 .sum j at_ st) cj=cy at*;refine uR (wd:=.sum) rfl rfl C4 S4.good (fun R z=>ED rfl rfl z) (.cons pq (.cons qF .nil)) (.sum y x yt ht) (by lia) fun H5 C5 k5=>⟨_,rfl,C5,S4.put fun w e=>MU.MX ya xb e,x4.trans (MU.rO _ _ _ _),k4.trans k5⟩
  rintro aa H4 ⟨v2,rfl,C6,S6,x2,k4⟩;have bL:L.take (ft L).length=L:=by unfold ft;rw [aB];exact jB
  rw [bL] at C6 S6 x2;refine c4 _ _ ?_;have kC:=(kB.trans (dw.of s3)).trans k4;have Kd:=MU.bY x2 RQ;have lenC:(L.foldl (fun st j=>MU.ao MU.a7 .sum j at_ st) cj).rows.length<=st.rows.length+(2+2*n):=by
   have:=MU.pU (f:=fun st j=>MU.ao MU.a7 .sum j at_ st) (fun _ _=>MU.gR _ _ _ _) L cj;lia
  generalize L.foldl (fun st j=>MU.ao MU.a7 .sum j at_ st) cj=gU at*;clear d_ tl e3 n1 n2 n3 C3 qM s3 k4 bL x2 hp c4 N4;obtain ⟨dx,hp⟩:=C6.ins;refine ⟨_,rfl,p,dx,_,rfl,hp,nZ,_,rfl,p,be,rl,bd,n,Fa,gU,false,x.b,rfl,C6,h8,fun la H3 qM s3 e3=>?_⟩;obtain ⟨n1,n2,n3⟩:=C6.apart qM;have C3:=C6.same s3;refine ⟨la,rfl,⟨_,ax.of e3⟩,?_⟩;have d_:∀j∈MU.cL n gU false x.b,∃y,MU.ah gU j=some y/\y.tie=false/\y.a<n/\y.b<n:=fun j hj=>by
   obtain ⟨cc,_,hb⟩:=MU.HU hj;obtain ⟨y,hy,hk⟩:=S6.good.at_ _ _ hb;obtain ⟨q1,q2,q3⟩:=MU.iD hk;exact ⟨y,hy,q1,S6.good.lt _ _ hy⟩
  have tl:(MU.cL n gU false x.b).length<=n:=MU.Dy;generalize MU.cL n gU false x.b=L at*;refine om (K:=K) (a:=la) (xs:=ft L) (fun i aa H'=>∃v,aa=[some (.ref p),some (.int (at_:Int)),some (.int (x.a:Int)),some (.int (x.b:Int)),v]/\gb C H' p be rl bd n Fa ((L.take i).foldl (fun st j=>MU.ao (MU.bf Fa) .back j at_ st) gU)/\MU.ji n Fa ((L.take i).foldl (fun st j=>MU.ao (MU.bf Fa) .back j at_ st) gU)/\MU.Ext gU ((L.take i).foldl (fun st j=>MU.ao (MU.bf Fa) .back j at_ st) gU)/\dw p rl bd H3 H') ⟨_,rfl,C3,S6,MU.Ext.refl _,dw.of (aI.refl _)⟩ ?_ ?_ ?_
  ·rintro i aa H4 _ ⟨v,rfl,_,_,_,k4⟩;exact ax.of (k4 _ _ e3 n1 n2 n3)
  ·rintro i y aa H4 hy ⟨v,rfl,C4,S4,x4,k4⟩;unfold ft at hy;rw [f9] at hy
   cases q:L[i]? with
   | none=>rw [q] at hy;cases hy
   | some j=>
    rw [q] at hy;cases hy;obtain ⟨y,rX,yt,ya,yb⟩:=d_ j (gq q);have fl:=MU.pU (f:=fun st j=>MU.ao (MU.bf Fa) .back j at_ st) (fun _ _=>MU.gR _ _ _ _) (L.take i) gU;rw [ie] at fl;rw [MU.DH q];have qF:=MU.bY x4 Kd;have pq:=MU.bY x4 rX;have e4:MU.ao (MU.bf Fa) .back j at_ ((L.take i).foldl (fun st j=>MU.ao (MU.bf Fa) .back j at_ st) gU)=MU.put ((L.take i).foldl (fun st j=>MU.ao (MU.bf Fa) .back j at_ st) gU) ((MU.bf Fa) y x) .back [j,at_]:=MU.CC pq qF;rw [e4];obtain ⟨yf,hyf⟩:=S4.ends _ _ pq yt;generalize (L.take i).foldl (fun st j=>MU.ao (MU.bf Fa) .back j at_ st) gU=cy at*;refine uR (wd:=.back) rfl rfl C4 S4.good (fun R z=>ED rfl rfl z) (.cons pq (.cons qF .nil)) (.back y x yf yt ht hyf) (by lia) fun H5 C5 k5=>⟨_,rfl,C5,S4.put fun w e=>MU.M' ya yb xa xb e,x4.trans (MU.rO _ _ _ _),k4.trans k5⟩
  ·rintro aa H4 ⟨v,rfl,C4,S4,x4,k4⟩;have bL:L.take (ft L).length=L:=by unfold ft;rw [aB];exact jB
   rw [bL,l8] at C4 S4;exact k H4 C4 S4 ((kC.trans (dw.of s3)).trans k4)
structure yx (n:Nat) (F:MU.cq) (s0:MU.St) (T:Nat):Prop where
 end_:(MU.run n F s0 T).rows.length<=T\/(MU.run n F s0 T).bar≠none
 first:∀t,t<T->t<(MU.run n F s0 t).rows.length/\(MU.run n F s0 t).bar=none
 mE:∀t,t<=T->(MU.run n F s0 t).rows.length<=16000000
def Mj (C:Addr):Sp:=fun vs H Q _=>∃(p be rl bd:Addr) (n:Nat) (F:MU.cq) (s0:MU.St) (T:Nat),vs=[.ref p]/\gb C H p be rl bd n F s0/\MU.ji n F s0/\MU.g_ n F ((60:Nat):Int)/\n<=8/\yx n F s0 T/\
 ∀H',gb C H' p be rl bd n F (MU.run n F s0 T)->MU.ji n F (MU.run n F s0 T)->dw p rl bd H H'->Q .aU H'
theorem DZ:cG ["self","at","what"] ["self"] (aZ bQ):=cV
theorem mr (F:gZ K "draw_all" "Closing.draw_all" bQ f fd) (T:o_ K mg C)
 (mT:jk K C "draw_from_tie" fT) (bT:eY K pD ["self","at","a","b"] []) (GT:ar P w K mg base a9 4 fT pD ["self","at","a","b"] (PJ C))
 (mW:jk K C "draw_from_wait" fW) (bW:eY K vG ["self","at","a"] []) (GW:ar P w K mg base a9 4 fW vG ["self","at","a"] (PX C)):ar P w K mg base a9 5 f fd ["self"] (Mj C):=by
 refine F.ix DZ fun _ A _ s H _ Q E hr h=>?_
 ·obtain ⟨p,be,rl,bd,n,Fa,s0,Te,rfl,c,S,hF,h8,hE,k⟩:=h;have hu:=lY hr;refine ⟨_,cx (cA 1 DZ.nd aw)
   (aE (O5 PassesOwn.never (PW.pt (sQ (dh uG (pv 1) (jx wC (by rfl) T.len uy (bM (fQ (pv 0) rfl)))) (sV (dh G' (fQ (pv 0) rfl) mY))))
    (cx (cA 2 DZ.nd (a8 (de dW (fQ (pv 0) rfl) (pv 1) (fun _ _=>rfl))))
    (cx (yE (dR (dh gu (nc hu (fQ (pv 0) rfl) (pW CP (pv 2) pR (pT aw)) (fun _ _=>rfl)) (pv 1))
     (aE (dR (dh gu (a8 (pv 2)) eZ)
      (aE (gJ (jI (pv 0) T.cl mT GT hr bT .nil gv (iw (pv 1) (a8 (pv 2)) (a8 (pv 2))))))
      (aE (gJ (jI (pv 0) T.cl mW GW hr bW .nil gv (bw (pv 1) (a8 (pv 2)))))))) dZ))
    (aE (Hj (i:=1) DZ.nd rfl (Or.inl rfl) aw GQ)))))),?_⟩
  refine fun N1 c1=>c1 _ _ ?_;refine ⟨fun m aa H'=>∃t v,t+m=Te/\aa=[some (.ref p),some (.int (t:Int)),v]/\gb C H' p be rl bd n Fa (MU.run n Fa s0 t)/\MU.ji n Fa (MU.run n Fa s0 t)/\dw p rl bd H H',⟨Te,0,none,by lia,rfl,c,S,dw.of (aI.refl _)⟩,?_⟩;rintro m aa H1 ⟨t,v,htm,rfl,C1,S1,k1⟩;obtain ⟨dx,hp⟩:=C1.ins;obtain ⟨qs,gj,bX⟩:=C1.rows;obtain ⟨kvs,fz,p0,ee⟩:=C1.best;have xC:qs.length=(MU.run n Fa s0 t).rows.length:=Paired.length bX;refine ⟨_,rfl,_,rfl,p,C,dx,_,_,rfl,hp,T.cl,T.nR,sT,rl,_,rfl,.inl (ax.of gj),_,_,rfl,rfl,_,rfl,?_⟩;rw [aB,xC];have qY:∀b,(MU.run n Fa s0 t).rows.length<=t\/(MU.run n Fa s0 t).bar≠none->b=false->if b=true then (∃N:L2.St->Hp->Prop,(∀aa H',N aa H'->∃m',m'<m/\∃t v,t+m'=Te/\aa=[some (.ref p),some (.int (t:Int)),v]/\gb C H' p be rl bd n Fa (MU.run n Fa s0 t)/\MU.ji n Fa (MU.run n Fa s0 t)/\dw p rl bd H H')/\False) else Q .aU H1:=fun b qI hb=>by
   have e:t=Te:=fj fun z=>by
    have:=hE.first t (by lia);rcases qI with y | y
    ·lia
    ·exact y this.2
   rw [if_neg (by rw [hb];decide)];rw [e] at C1 S1;exact k H1 C1 S1 k1
  by_cases bb:t<(MU.run n Fa s0 t).rows.length
  ·refine jc (by lia) ⟨_,rfl,p,C,dx,_,_,rfl,hp,T.cl,T.nX,C7,rfl,_,rfl,?_⟩;rw [M_]
   by_cases hb:(MU.run n Fa s0 t).bar=none
   ·refine jc hb ?_;have htT:t<Te:=fj fun z=>by
     have e:t=Te:=by lia
     rcases hE.end_ with y | y
     ·rw [<-e] at y;lia
     ·rw [<-e] at y;exact y hb
    refine ⟨fun aa H'=>∃m',m'<m/\∃t v,t+m'=Te/\aa=[some (.ref p),some (.int (t:Int)),v]/\gb C H' p be rl bd n Fa (MU.run n Fa s0 t)/\MU.ji n Fa (MU.run n Fa s0 t)/\dw p rl bd H H',fun aa H' z=>z,?_⟩;obtain ⟨x,hx⟩:∃x,MU.ah (MU.run n Fa s0 t) t=some x:=⟨_,by unfold MU.ah;rw [kK bb];rfl⟩;obtain ⟨q',r,pw,pu,g1,g2,g3,g4,g5,g6⟩:=Dg bX hx;have iH:iI (qs.map V.ref) (t:Int)=some (.ref q'):=ko (by rw [f9,g1];rfl);refine fun N2 c2=>⟨_,rfl,p,C,dx,_,_,rfl,hp,T.cl,T.nR,sT,oW rfl gj iH (ay g4 rfl (c2 _ _ ?_))⟩;clear c2 N2;refine fun N3 c3=>⟨fun aa H'=>aa=[some (.ref p),some (.int (t:Int)),some (.ref pw)]/\gb C H' p be rl bd n Fa (MU.run n Fa s0 (t+1))/\MU.ji n Fa (MU.run n Fa s0 (t+1))/\dw p rl bd H1 H',?_,?_⟩
    ·refine ⟨_,rfl,p,C,dx,_,_,rfl,hp,T.cl,T.nE,rG,_,rfl,_,rfl,pw,_,rfl,c_.of g5,GV,fun kt my=>?_⟩;rw [Iq];have s3:=aG (o:=.tup ((cw x.key).map kV)) my;have e3:upd H1 kt (.tup ((cw x.key).map kV)) kt=some (.tup ((cw x.key).map kV)):=ai;generalize upd H1 kt (.tup ((cw x.key).map kV))=H3 at*;obtain ⟨j,hj,qQ⟩:=S1.good.top t x hx;have dg:=fm.t (k:=cw x.key) (s3 _ _ fz) e3;rw [ee,qQ] at dg;have C3:=C1.same s3;have mE:=hE.mE t (by exact bp htT);have hl:MU.run n Fa s0 (t+1)=MU.look n Fa t (MU.run n Fa s0 t):=rfl;refine ⟨bd,_,rfl,dg,_,rfl,rfl,_,rfl,?_⟩;rw [sM]
     by_cases e:j=t
     ·rw [e] at qQ;refine jc e ⟨_,rfl,ay (s3 _ _ g5) rfl ⟨rfl,_,rfl,?_⟩⟩;rw [Dr]
      cases ht:x.tie with
      | true=>
       have el:=MU.Ds (n:=n) (F:=Fa) hx ht rfl rfl (by rw [<-qQ];unfold MU.aj.key;rw [ht]);rw [hl,el];refine mL ⟨_,rfl,p,dx,_,rfl,s3 _ _ hp,nZ,_,rfl,_,rfl,ay (s3 _ _ g5) rfl ⟨_,rfl,ay (s3 _ _ g5) rfl ?_⟩⟩;exact ⟨p,be,rl,bd,n,Fa,_,t,x,rfl,C3,S1,hF,hx,ht,h8,mE,fun H4 C4 S4 k4=>⟨rfl,C4,S4,(dw.of s3).trans k4⟩⟩
      | false=>
       have el:=MU.HV (n:=n) (F:=Fa) hx ht qQ;rw [hl,el];refine ip ⟨_,rfl,p,dx,_,rfl,s3 _ _ hp,nZ,_,rfl,_,rfl,ay (s3 _ _ g5) rfl ?_⟩;exact ⟨p,be,rl,bd,n,Fa,_,t,x,rfl,C3,S1,hF,hx,ht,h8,mE,fun H4 C4 S4 k4=>⟨rfl,C4,S4,(dw.of s3).trans k4⟩⟩
     ·have el:=MU.Pb (n:=n) (F:=Fa) hx (by rw [qQ];exact fun z=>e (eF z));rw [hl,el];exact kQ e ⟨rfl,C3,S1,dw.of s3⟩
    ·rintro aa H4 ⟨rfl,C4,S4,k4⟩;refine c3 _ _ ⟨_,rfl,_,_,rfl,rfl,m-1,by lia,t+1,some (.ref pw),by lia,?_,C4,S4,k1.trans k4⟩;show [some (V.ref p),some (V.int ((t:Int)+1)),some (V.ref pw)]=[some (V.ref p),some (V.int ((t+1:Nat):Int)),some (V.ref pw)];rfl
   ·have:=qY false (.inr hb) rfl;exact kQ hb this
  ·have:=qY false (.inl (by lia)) rfl;exact kQ (by lia) (ip this)
end Y0
namespace MU
def empty:St:=⟨[],fun _=>none,none⟩
def lJ (rows:List aj) (st:St):St:=rows.foldl (fun st w=>take st w .told []) st
variable {n:Nat} {F:cq} {st:St}
theorem Ie:cm n empty:=by
 have nw:∀i w,ah empty i≠some w:=fun i w h=>by
  unfold ah empty at h;simp at h
 exact ⟨fun k i h=>(nomatch h),fun i w h=>absurd h (nw i w),fun i w h=>absurd h (nw i w),fun _ i w h=>absurd h (nw i w),fun _ i j w w' h=>absurd h (nw i w)⟩
def IA (n:Nat) (w:aj):Prop:=w.a<n/\w.b<n/\w.tie=true
theorem DM:∀(rows:List aj) (st:St),cm n st->(∀w∈rows,IA n w)->cm n (lJ rows st)
 | [],_,g,_=>g
 | w::r,st,g,h=>DM r _ (Pw g (h w eG).1 (h w eG).2.1 fun z=>by rw [(h w eG).2.2] at z;cases z) fun w' kD=>h w' (gz _ kD)
theorem Pz:∀(rows:List aj) (st:St),Imp st (lJ rows st)
 | [],st=>Imp.refl st
 | w::r,st=>(OH st w _ _).trans (Pz r _)
theorem HX:∀(rows:List aj) (st:St),(lJ rows st).rows.length<=st.rows.length+rows.length
 | [],st=>az _
 | w::r,st=>by
  have h1:=HX r (take st w .told []);have h2:=gR st (some w) .told [];have h2:(take st w .told []).rows.length<=st.rows.length+1:=h2;rw [kI];show (lJ r (take st w .told [])).rows.length<=_;lia
theorem Ii:∀(rows:List aj) (st:St),(∀i w,ah st i=some w->w.tie=true)->(∀w∈rows,IA n w)->∀i w,ah (lJ rows st) i=some w->w.tie=true
 | [],_,h,_=>h
 | w::r,st,h,hw=>Ii r _ (fun i u hu=>by
  by_cases hi:i<st.rows.length
  ·exact h i u (rQ (A0 _ _ _ _) hi hu)
  ·exact OG (C:=fun u=>u.tie=true) (hw w eG).2.2 i u (by exact mH hi) hu) fun w' kD=>hw w' (gz _ kD)
theorem DU:∀(rows:List aj) (st:St) (w:aj),w∈rows->w.a≠w.b->∃u,val (lJ rows st) w.key=some u/\¬dE w.tie w.v u
 | [],_,w,h,_=>nomatch h
 | x::r,st,w,h,cW=>by
  rcases eV.mp h with e | h
  ·subst e;obtain ⟨u,hu,nu⟩:=DL (st:=st) (w:=w) (word:=.told) (used:=[]) cW;obtain ⟨u',kE,JI⟩:=(Pz r (take st w .told [])).2 w.key u cW hu;exact ⟨u',kE,Ij nu JI⟩
  ·exact DU r _ w h cW
theorem Qe:∀i w,ah empty i=some w->w.tie=true:=fun i w h=>by
 unfold ah empty at h;simp at h
theorem Vr (g:cm n st) (h:∀i w,ah st i=some w->w.tie=true) (a b:Nat):val st (false,a,b)=none:=by
 unfold val
 cases q:st.best (false,a,b) with
 | none=>rfl
 | some i=>
  obtain ⟨w,hw,hk⟩:=g.at_ _ _ q;have:=h i w hw;have e:=(iD hk).1;rw [this] at e;cases e
end MU
namespace Y0
open PySem L2
seal L2.PE L2.PA L2.PT L2.PS L2.g7 L2.PG L2.nU L2.PI L2.PO
def iM:List Int->MU.aj
 | [a,b,v]=>⟨true,a.toNat,b.toNat,v⟩
 | _=>⟨true,0,0,0⟩
def DX (n:Int) (rows:List (List Int)):Prop:=∀r∈rows,∃a b v:Int,r=[a,b,v]/\0<=a/\a<n/\0<=b/\b<n/\a≠b
theorem PB:∀{k:Nat} {n:Int},(k:Int)+1<=n->DX n (kR la k)
 | 0,_,_=>fun r hr=>nomatch hr
 | k+1,n,h=>fun r hr=>by
  unfold kR at hr;rcases i8.mp hr with hr | hr
  ·exact PB (k:=k) (by exact f_ h) r hr
  ·rcases eV.mp hr with rfl | hr
   ·exact ⟨0,(k:Int)+1,la,rfl,by exact Int.NonNeg.mk (0+0),by lia,by exact Int.NonNeg.mk (k+1+0),by exact h,by lia⟩
   ·rw [iK.mp hr];exact ⟨(k:Int)+1,0,0,rfl,by exact Int.NonNeg.mk (k+1+0),by exact h,by exact Int.NonNeg.mk (0+0),by lia,by lia⟩
theorem Pp (h:∀r∈rows,∃a b l m:Int,r=[a,b,l,m]/\0<=a/\a<n/\0<=b/\b<n/\a≠b):DX n (jF rows):=fun r hr=>by
 unfold jF at hr;obtain ⟨x,hx,zp⟩:=List.mem_flatten.mp hr;obtain ⟨y,hy,rfl⟩:=eD.mp hx;obtain ⟨a,b,l,m,rfl,h1,h2,h3,h4,h5⟩:=h y hy;rcases eV.mp zp with rfl | zp
 ·exact ⟨a,b,m,rfl,h1,h2,h3,h4,h5⟩
 ·rw [iK.mp zp];exact ⟨b,a,-l,rfl,h3,h4,h1,h2,aD h5⟩
theorem cB.lh (h:cB n la T F):DX n (gQ n la T F):=fun r hr=>by
 unfold gQ at hr;have n1:=h.n1;rcases i8.mp hr with hr | hr
 ·rcases i8.mp hr with hr | hr
  ·exact PB (by omega) r hr
  ·exact Pp (fun r hr=>by obtain ⟨a,b,l,m,e,x1,x2,x3,x4,x5,_⟩:=h.t r hr;exact ⟨a,b,l,m,e,x1,x2,x3,x4,x5⟩) r hr
 ·exact Pp (fun r hr=>by obtain ⟨a,b,l,m,e,x1,x2,x3,x4,x5,_⟩:=h.f r hr;exact ⟨a,b,l,m,e,x1,x2,by exact f_ x3,x4,x5⟩) r hr
theorem PK (h:cB n la T F):(gQ n la T F).length<=100:=by
 unfold gQ;rw [ig,ig,yV,uV h.l9,uV h.jA];have:=h.tl;have:=h.fl;have:=h.n2;lia
def lX (n la:Int) (T F:List (List Int)):MU.St:=MU.lJ ((gQ n la T F).map iM) MU.empty
theorem v_ {n:Nat} {rows:List (List Int)} (h:DX (n:Int) rows):∀w∈rows.map iM,MU.IA n w:=fun w hw=>by
 obtain ⟨r,hr,rfl⟩:=eD.mp hw;obtain ⟨a,b,v,rfl,h1,h2,h3,h4,_⟩:=h r hr;exact ⟨by show a.toNat<n;lia,by show b.toNat<n;lia,rfl⟩
theorem HY {n:Nat} {la:Int} {T F:List (List Int)} (h:cB (n:Int) la T F):MU.ji n (eC F) (lX n la T F):=by
 have g:=MU.DM ((gQ (n:Int) la T F).map iM) MU.empty MU.Ie (v_ h.lh);refine ⟨g,fun i w hw ht=>?_⟩;have:=MU.Ii (n:=n) _ _ MU.Qe (v_ h.lh) i w hw;rw [ht] at this;cases this
theorem Ay:∀{k:Nat},i<k->[0,(i:Int)+1,la]∈kR la k/\[(i:Int)+1,0,0]∈kR la k
 | 0,h=>absurd h (so _)
 | k+1,h=>by
  unfold kR
  by_cases e:i=k
  ·subst e;exact ⟨kJ _ eG,kJ _ (gz _ eG)⟩
  ·obtain ⟨h1,h2⟩:=Ay (la:=la) (i:=i) (k:=k) (by lia);exact ⟨iL _ h1,iL _ h2⟩
theorem PL {n:Nat} {la:Int} {T F:List (List Int)} (h:cB (n:Int) la T F) (qM:la<=60):∃Te,yx n (eC F) (lX n la T F) Te:=by
 have g:=MU.DM ((gQ (n:Int) la T F).map iM) MU.empty MU.Ie (v_ h.lh);have IL:=MU.Ii (n:=n) _ _ MU.Qe (v_ h.lh);have n1:=h.n1;have n2:=h.n2;have hl:=MU.HX ((gQ (n:Int) la T F).map iM) MU.empty;have hs:=PK h;rw [aB] at hl;have hl:(lX n la T F).rows.length<=0+(gQ (n:Int) la T F).length:=hl;have told:∀i,0<i->i<n->(∃v,v<=((60:Nat):Int)/\MU.val (lX n la T F) (true,0,i)=some v)/\∃v,v<=0/\MU.val (lX n la T F) (true,i,0)=some v:=fun i h1 h2=>by
  have hk:i-1<((n:Int)-1).toNat:=by lia
  obtain ⟨m1,m2⟩:=Ay (la:=la) hk;have ei:((i-1:Nat):Int)+1=(i:Int):=by lia
  rw [ei] at m1 m2;have in1:(⟨true,0,i,la⟩:MU.aj)∈(gQ (n:Int) la T F).map iM:=eD.mpr ⟨_,iL _ (iL _ m1),rfl⟩;have in2:(⟨true,i,0,0⟩:MU.aj)∈(gQ (n:Int) la T F).map iM:=eD.mpr ⟨_,iL _ (iL _ m2),rfl⟩;obtain ⟨u1,v1,w1⟩:=MU.DU _ MU.empty _ in1 (by show 0≠i;lia);obtain ⟨u2,v2,w2⟩:=MU.DU _ MU.empty _ in2 (by show i≠0;exact Nat.ne_of_gt h1);unfold MU.dE at w1 w2;simp at w1 w2;exact ⟨⟨u1,by lia,v1⟩,⟨u2,w2,v2⟩⟩
 obtain ⟨Te,e1,e2,e3⟩:=MU.XC (n:=n) (F:=eC F) (s0:=lX n la T F) (by lia) h.nO g told (MU.Vr g IL) (by lia);exact ⟨Te,e1,e2,e3⟩
def Nz (C CW:Addr):Sp:=fun vs H Q _=>∃(p wb dx:Addr) (n:Nat) (la:Int) (T F:List (List Int)),vs=[.ref p,.ref wb]/\H p=some (.ins C dx [])/\jG CW H wb (n:Int) la T F/\cB (n:Int) la T F/\
 ∀H' be rl bd,gb C H' p be rl bd n (eC F) (lX n la T F)->H be=none->H rl=none->H bd=none->cp p H H'->Q .aU H'
abbrev nCi:List Str:=["self","web","a","b","most"]
theorem D_:cG nCi ["self","web"] (aZ cQ):=cV
theorem km1:¬(("many":Str)="by_end"):=by decide+kernel
theorem km2:¬(("many":Str)="rows"):=by decide+kernel
theorem km3:¬(("by_end":Str)="rows"):=by decide+kernel
theorem km4:¬(("many":Str)="best"):=by decide+kernel
theorem km5:¬(("by_end":Str)="best"):=by decide+kernel
theorem km6:¬(("rows":Str)="best"):=by decide+kernel
theorem km7:¬(("many":Str)="bar"):=by decide+kernel
theorem km8:¬(("by_end":Str)="bar"):=by decide+kernel
theorem km9:¬(("rows":Str)="bar"):=by decide+kernel
theorem km0:¬(("best":Str)="bar"):=by decide+kernel
theorem Z0 {n:Nat}:aP "bar" v (aP "best" (.ref bd) (aP "rows" (.ref rl) (aP "by_end" (.ref be) (aP "many" (.int (n:Int)) []))))=iO n be rl bd v:=by
 have s1:aP "by_end" (V.ref be) [(("many":Str),V.int (n:Int))]=[(("many":Str),V.int (n:Int)),("by_end",.ref be)]:=by rw [ng km1];rfl
 have s2:aP "rows" (V.ref rl) [(("many":Str),V.int (n:Int)),("by_end",.ref be)]=[(("many":Str),V.int (n:Int)),("by_end",.ref be),("rows",.ref rl)]:=by rw [ng km2,ng km3];rfl
 have s3:aP "best" (V.ref bd) [(("many":Str),V.int (n:Int)),("by_end",.ref be),("rows",.ref rl)]=[(("many":Str),V.int (n:Int)),("by_end",.ref be),("rows",.ref rl),("best",.ref bd)]:=by rw [ng km4,ng km5,ng km6];rfl
 have s4:aP "bar" v [(("many":Str),V.int (n:Int)),("by_end",.ref be),("rows",.ref rl),("best",.ref bd)]=iO n be rl bd v:=by rw [ng km7,ng km8,ng km9,ng km0];rfl
 show aP "bar" v (aP "best" (.ref bd) (aP "rows" (.ref rl) (aP "by_end" (.ref be) [(("many":Str),V.int (n:Int))])))=_;rw [s1,s2,s3,s4]
theorem qy (F:gZ K "__init__" "Closing.__init__" cQ f fd) (T:o_ K mg C) (TC:nY K mg CW)
 (mT:jk K C "take" fT) (bT:eY K pD ["self","what","word","used"] []) (GT:ar P w K mg base a9 2 fT pD ["self","what","word","used"] (Hf C))
 (FE:Fn K mg "falls_by_end" b_ ["web"] fE LD) (GE:ar P w K mg base a9 2 fE LD ["web"] (Ny CW))
 (FB:Fn K mg "told_bounds" bH ["web"] fB sf) (GB:ar P w K mg base a9 3 fB sf ["web"] (Hg CW)):ar P w K mg base a9 4 f fd ["self","web"] (Nz C CW):=by
 refine F.ix D_ fun _ A _ s H _ Q E hr h=>?_
 ·obtain ⟨p,wb,dx,n,la,rT,rF,rfl,hp,W0,af,k⟩:=h;have j8:cY 2 _:=hr.mono (by decide);have Bw:cY 3 _:=hr;refine ⟨_,cx (rH (pv 0) (fQ (pv 1) rfl) rfl)
   (cx (rH (pv 0) (cf GE j8 FE (bM (pv 1))) rfl)
   (cx (rH (pv 0) (jo oh) rfl)
   (cx (rH (pv 0) VL rfl)
   (cx (rH (pv 0) mY rfl)
   (aE (jw PassesOwn.never rfl (jq (cf GB Bw FB (bM (pv 1))))
    (uK rfl (dX (bS 2 D_.nd) (dX (bS 3 D_.nd) (dX (bS 4 D_.nd) rM))))
    (aE (gJ (jI (pv 0) T.cl mT GT j8 bT .nil gv (iw (dB (jz eZ (pv 2) (pv 3) (pv 4))) eZ (dB oh))))))))))),?_⟩
  obtain ⟨IH,QR,QV,EZ,QT,QS⟩:=id W0;have pw:p≠wb:=fun z=>by
   rw [z,EZ] at hp;have:=HO.ins.inj (eF hp);exact absurd this.2.2 (fun z=>by unfold og aP at z;cases z)
  refine fun N1 c1=>⟨_,rfl,wb,CW,IH,_,_,rfl,EZ,TC.cl,TC.nM,uN _ _ _ _,_,rfl,p,C,dx,_,rfl,hp,T.cl,T.nM,by show 0<1000;decide,c1 _ _ ?_⟩;have kp:∀{Hx:Hp} {fs:List (Str×V)} {o:HO},Hx p=some (.ins C dx fs)->cp p Hx (upd Hx p o):=fun {Hx fs o} e b o' e' ne=>by rw [ak ne];exact e'
  have k1:cp p H (upd H p (.ins C dx (aP "many" (.int (n:Int)) []))):=kp hp;have p1:upd H p (.ins C dx (aP "many" (.int (n:Int)) [])) p=some (.ins C dx (aP "many" (.int (n:Int)) [])):=ai;generalize upd H p (.ins C dx (aP "many" (.int (n:Int)) []))=H1 at*;clear c1 N1;have W1:jG CW H1 wb (n:Int) la rT rF:=⟨IH,QR,QV,k1 _ _ EZ (aD pw),by
   obtain ⟨ps,R⟩:=QT;exact ⟨ps,k1 _ _ R.1 (cH R.1 hp nofun),gL R.2 fun _ _ e=>k1 _ _ e (cH e hp nofun)⟩,by
   obtain ⟨ps,R⟩:=QS;exact ⟨ps,k1 _ _ R.1 (cH R.1 hp nofun),gL R.2 fun _ _ e=>k1 _ _ e (cH e hp nofun)⟩⟩
  refine fun N2 c2=>⟨_,rfl,wb,(n:Int),la,rT,rF,rfl,W1,af,fun be H2 qR s2 FA2=>⟨_,rfl,p,C,dx,_,rfl,s2 _ _ p1,T.cl,T.nB,by show 1<1000;decide,c2 _ _ ?_⟩⟩;have k2:cp p H2 (upd H2 p (.ins C dx (aP "by_end" (.ref be) (aP "many" (.int (n:Int)) [])))):=kp (s2 _ _ p1);have p2:upd H2 p (.ins C dx (aP "by_end" (.ref be) (aP "many" (.int (n:Int)) []))) p=some (.ins C dx (aP "by_end" (.ref be) (aP "many" (.int (n:Int)) []))):=ai;have Ro:=s2 _ _ p1;have yo:mS (upd H2 p (.ins C dx (aP "by_end" (.ref be) (aP "many" (.int (n:Int)) [])))) be (eC rF):=by
   obtain ⟨BW,f1,f2,f3,f4⟩:=FA2.at_;refine ⟨BW,k2 _ _ f1 (cH f1 Ro nofun),f2,f3,fun e f hf=>?_⟩;obtain ⟨pp,q1,q2⟩:=f4 e f hf;exact ⟨pp,q1,k2 _ _ q2 (cH q2 Ro nofun)⟩
  generalize upd H2 p (.ins C dx (aP "by_end" (.ref be) (aP "many" (.int (n:Int)) [])))=H3 at*;clear c2 N2;have K3:cp p H H3:=fun b o e ne=>k2 _ _ (s2 _ _ (k1 _ _ e ne)) ne;have free:∀{Hx:Hp} {b:Addr},cp p H Hx->Hx b=none->b≠p->H b=none:=fun {Hx b} kk e ne=>by
   cases q:H b with
   | none=>rfl
   | some o=>rw [kk _ _ q ne] at e;cases e
  have beH:H be=none:=free k1 qR (aD (aR p1 qR));refine fun N3 c3=>⟨d9 _,fun rl gj=>⟨_,rfl,p,C,dx,_,rfl,aG gj _ _ p2,T.cl,T.nR,by show 2<1000;decide,c3 _ _ ?_⟩⟩;have s4:=aG (o:=.lst []) gj;have r4:upd H3 rl (.lst []) rl=some (.lst []):=ai;have FA4:=yo.same s4;have p4:=s4 _ _ p2;generalize upd H3 rl (.lst [])=H4 at*;have wX:p≠rl:=aR p2 gj;have EJ:H rl=none:=free K3 gj (aD wX);have k5:cp p H4 (upd H4 p (.ins C dx (aP "rows" (.ref rl) (aP "by_end" (.ref be) (aP "many" (.int (n:Int)) []))))):=kp p4;have p5:upd H4 p (.ins C dx (aP "rows" (.ref rl) (aP "by_end" (.ref be) (aP "many" (.int (n:Int)) [])))) p=some (.ins C dx (aP "rows" (.ref rl) (aP "by_end" (.ref be) (aP "many" (.int (n:Int)) [])))):=ai;have r5:=k5 _ _ r4 (aD wX);generalize upd H4 p (.ins C dx (aP "rows" (.ref rl) (aP "by_end" (.ref be) (aP "many" (.int (n:Int)) []))))=H5 at*;clear c3 N3;have K5:cp p H H5:=fun b o e ne=>k5 _ _ (s4 _ _ (K3 _ _ e ne)) ne;refine fun N4 c4 bd fz=>⟨_,rfl,p,C,dx,_,rfl,aG fz _ _ p5,T.cl,T.nE,by show 3<1000;decide,c4 _ _ ?_⟩;have s6:=aG (o:=.dT []) fz;have b6:upd H5 bd (.dT []) bd=some (.dT []):=ai;have p6:=s6 _ _ p5;have r6:=s6 _ _ r5;generalize upd H5 bd (.dT [])=H6 at*;have zf:p≠bd:=aR p5 fz;have FD:H bd=none:=free K5 fz (aD zf);have k7:cp p H6 (upd H6 p (.ins C dx (aP "best" (.ref bd) (aP "rows" (.ref rl) (aP "by_end" (.ref be) (aP "many" (.int (n:Int)) [])))))):=kp p6;have p7:upd H6 p (.ins C dx (aP "best" (.ref bd) (aP "rows" (.ref rl) (aP "by_end" (.ref be) (aP "many" (.int (n:Int)) []))))) p=some (.ins C dx (aP "best" (.ref bd) (aP "rows" (.ref rl) (aP "by_end" (.ref be) (aP "many" (.int (n:Int)) []))))):=ai;have r7:=k7 _ _ r6 (aD wX);have b7:=k7 _ _ b6 (aD zf);generalize upd H6 p (.ins C dx (aP "best" (.ref bd) (aP "rows" (.ref rl) (aP "by_end" (.ref be) (aP "many" (.int (n:Int)) [])))))=H7 at*;clear c4 N4;refine fun N5 c5=>⟨_,rfl,p,C,dx,_,rfl,p7,T.cl,T.nX,by show 4<1000;decide,c5 _ _ ?_⟩;rw [Z0];have k8:cp p H7 (upd H7 p (.ins C dx (iO n be rl bd .aU))):=kp p7;have p8:upd H7 p (.ins C dx (iO n be rl bd .aU)) p=some (.ins C dx (iO n be rl bd .aU)):=ai;have r8:=k8 _ _ r7 (aD wX);have b8:=k8 _ _ b7 (aD zf);generalize upd H7 p (.ins C dx (iO n be rl bd .aU))=H8 at*;clear c5 N5;have JV:cp p H4 H8:=fun b o e ne=>k8 _ _ (k7 _ _ (s6 _ _ (k5 _ _ e ne)) ne) ne;have K8:cp p H H8:=fun b o e ne=>JV _ _ (s4 _ _ (K3 _ _ e ne)) ne;have FA8:mS H8 be (eC rF):=by
   obtain ⟨BW,f1,f2,f3,f4⟩:=FA4.at_;refine ⟨BW,JV _ _ f1 (cH f1 p4 nofun),f2,f3,fun e f hf=>?_⟩;obtain ⟨pp,q1,q2⟩:=f4 e f hf;exact ⟨pp,q1,JV _ _ q2 (cH q2 p4 nofun)⟩
  have C8:gb C H8 p be rl bd n (eC rF) MU.empty:=⟨⟨dx,p8⟩,FA8,⟨[],r8,.nil⟩,⟨[],b8,⟨az _,fun _ z=>nomatch z⟩,fun k=>rfl⟩⟩;have W8:jG CW H8 wb (n:Int) la rT rF:=⟨IH,QR,QV,K8 _ _ EZ (aD pw),by
   obtain ⟨ps,R⟩:=QT;exact ⟨ps,K8 _ _ R.1 (cH R.1 hp nofun),gL R.2 fun _ _ e=>K8 _ _ e (cH e hp nofun)⟩,by
   obtain ⟨ps,R⟩:=QS;exact ⟨ps,K8 _ _ R.1 (cH R.1 hp nofun),gL R.2 fun _ _ e=>K8 _ _ e (cH e hp nofun)⟩⟩
  refine ⟨_,rfl,wb,(n:Int),la,rT,rF,rfl,W8,af,fun l H9 hl s9 R9=>?_⟩;obtain ⟨qs,R⟩:=R9;have C9:=C8.same s9;obtain ⟨n1,n2,n3⟩:=C8.apart hl;have idx:=af.lh;have sh:=PK af;refine ⟨l,rfl,⟨_,ax.of R.1⟩,?_⟩;have stays:∀{H':Hp},dw p rl bd H9 H'->H' l=some (.lst (qs.map V.ref)):=fun kk=>kk _ _ R.1 n1 n2 n3;obtain ⟨dx9,p9⟩:=C9.ins;obtain ⟨q9,r9,_⟩:=C9.rows;obtain ⟨kv9,b9,_⟩:=C9.best;have gB:∀{H':Hp} {b:Addr} {xs:List V},dw p rl bd H9 H'->H9 b=some (.tup xs)->H' b=some (.tup xs):=fun kk e=>kk _ _ e (cH e p9 nofun) (cH e r9 nofun) (cH e b9 nofun);generalize hB:gQ (n:Int) la rT rF=B at*;refine om (K:=K) (a:=l) (xs:=qs.map V.ref) (fun i aa H'=>∃v2 v3 v4,aa=[some (.ref p),some (.ref wb),v2,v3,v4]/\gb C H' p be rl bd n (eC rF) (MU.lJ ((B.take i).map iM) MU.empty)/\dw p rl bd H9 H') ⟨none,none,none,rfl,C9,dw.of (aI.refl _)⟩ ?_ ?_ ?_
  ·rintro i aa H' _ ⟨v2,v3,v4,rfl,_,kk⟩;exact ax.of (stays kk)
  ·rintro i y aa sC hy ⟨v2,v3,v4,rfl,Cw,kk⟩;obtain ⟨q,r,rfl,hq,aJ,iG⟩:=R.get hy;obtain ⟨a,b,v,rfl,x1,x2,x3,x4,x5⟩:=idx r (gq aJ);have hi:i<B.length:=(gO.mp aJ).1;refine ⟨q,_,rfl,c_.of (gB kk iG),rfl,_,_,rfl,_,_,rfl,_,_,rfl,rfl,?_⟩;obtain ⟨LQ,p10⟩:=Cw.ins;have gi:=MU.DM ((B.take i).map iM) MU.empty (MU.Ie (n:=n)) (v_ fun r hr=>idx r (List.mem_of_mem_take hr));have li:=MU.HX ((B.take i).map iM) MU.empty;rw [aB,ie] at li;have li:(MU.lJ ((B.take i).map iM) MU.empty).rows.length<=0+min i B.length:=li;have et:MU.lJ ((B.take (i+1)).map iM) MU.empty=MU.take (MU.lJ ((B.take i).map iM) MU.empty) (iM [a,b,v]) .told []:=by
    unfold MU.lJ;rw [lD,aJ,ef,List.foldl_append];rfl
   rw [et];generalize MU.lJ ((B.take i).map iM) MU.empty=sti at*;refine ⟨_,rfl,p,LQ,_,rfl,p10,nZ,_,rfl,_,rfl,_,rfl,dc rfl,fun t ht=>⟨d9 _,fun u kE=>?_⟩⟩;have wO:=aG (o:=.tup [V.str "tie",V.int a,V.int b,V.int v]) ht;have ZP:iq (upd sC t (.tup [V.str "tie",V.int a,V.int b,V.int v])) t (iM [a,b,v]):=by
    unfold iq;rw [ai];show some (HO.tup [V.str "tie",V.int a,V.int b,V.int v])=some (HO.tup [V.str "tie",V.int ((a.toNat:Nat):Int),V.int ((b.toNat:Nat):Int),V.int v]);rw [show ((a.toNat:Nat):Int)=a by lia,show ((b.toNat:Nat):Int)=b by lia]
   generalize upd sC t (.tup [V.str "tie",V.int a,V.int b,V.int v])=Ma at*;have ou:=aG (o:=.tup []) kE;refine ⟨p,be,rl,bd,t,u,n,_,_,iM [a,b,v],.told,[],rfl,(Cw.same wO).same ou,gi,ZP.same ou,ai,by lia,fun H13 C13 k13=>⟨_,_,_,rfl,C13,?_⟩⟩;exact (kk.trans (dw.of (wO.trans ou))).trans k13
  ·rintro aa sC ⟨v2,v3,v4,rfl,Cw,kk⟩;have bL:B.take (qs.map V.ref).length=B:=by rw [aB,R.len];exact jB
   rw [bL] at Cw;refine k sC be rl bd ?_ beH EJ FD fun b o e ne=>kk _ _ (s9 _ _ (K8 _ _ e ne)) ne (aR e EJ) (aR e FD);unfold lX;rw [hB];exact Cw
end Y0
namespace L2
open PySem PySem.Spec PyProof.Rows
section
variable {prog:Program} {w:World} {A:Around} {E:Value->Shared->Prop} {s:Shared}
theorem VT (hd:(d==sysModules)=false) (ho:s.heap.get? d=some o) (hc:o.ExactDict) (BM:o.data=.dict es ep)
 (hQ:Q (.ref s.heap.objs.size) { s with heap:=s.heap.push { cls:=.type "dict_keyiterator",data:=.fields #[.ref d,.int 0 0,.int es.size 0,.int ep 0] } }):
 wpAny (model prog w) A (pyIter (.ref d)) Q E s:=by
 have hT:s.TypeIs (.ref d) "dict":=⟨o,ho,hc.1⟩;refine wpAny_pyIter_slot hT F.slot_dict_iter (wpAny_call_entry F.slot_dict_iter hT F.entry_dict_iter ?_ (F.args_dict_iter_1 _));unfold Builtin.«dict.__iter__» Builtin.Dict.dictSlotNone;refine ag (ag (wpAny_notOrdered_dict hT (show wpAny _ _ (pure (Value.ref d)) _ _ s from aV ?_)));refine (show wpAny _ _ (Builtin.Dict.showsAll d>>=_) _ _ s from ?_);unfold Builtin.Dict.showsAll;rw [if_neg (by rw [hd];exact f7)];refine ag (aV (ag (wpAny_dictEntries ho BM (ag (wpAny_dictEpoch ho BM (ag (wpAny_newObj_type (aV ⟨_,rfl,"dict_keyiterator",_,⟨_,ki _ rfl,rfl⟩,F.slot_dict_keyiterator_next.lookup,?_⟩))))))));simpa [rawInt] using hQ
theorem VU (hit:s.heap.IsKeyIter it d i es.size ep) (B1:s.heap.get? d=some od) (sd:od.data=.dict es ep) (hx:es[i]?=some e)
 (hQ:∀h',h'.IsKeyIter it d (i+1) es.size ep->Heap.SameBut it s.heap h'->Q (some e.key) { s with heap:=h' }):wpAny (model prog w) A (pyNext (.ref it)) Q E s:=by
 obtain ⟨o,ho,hc,hd⟩:=id hit;unfold pyNext;refine ag (wpAny_attempt (wpAny_callSpecial?_slot (name:=Str.ofString "__next__") hit.typeIs F.slot_dict_keyiterator_next (wpAny_call_entry F.slot_dict_keyiterator_next hit.typeIs F.entry_dict_keyiterator_next ?_ (F.args_dict_keyiterator_next_1 _))));refine ag (aV (ag (ag ?_)))
 first | refine ag (wpAny_typeNameOfWhole_keyiter hit.typeIs (aV (ag (wpAny_fieldsOf ho hd ?_)))) | refine ag (wpAny_typeNameOf_keyiter hit.typeIs (aV (ag (wpAny_fieldsOf ho hd ?_))))
 rw [show Builtin.Dict_items.ownsTuple "dict_keyiterator"=false by decide,if_neg f7];refine (show wpAny _ _ (if (Value.ref d==Value.none)=true then _ else _) _ _ s from ?_);rw [if_neg (show ¬((Value.ref d==Value.none)=true) from f7)];refine ag (aV (ag (wpAny_dictEntries B1 sd ?_)));rw [if_neg (by simp)];refine ag (aV (ag (wpAny_dictEpoch B1 sd ?_)));rw [if_neg (by simp)];refine aV ?_;dsimp only;rw [if_neg (show ¬((i:Int)<0) from Int.not_lt.mpr (Int.natCast_nonneg i)),i7,hx];dsimp only;refine ag ?_
 first | refine ag (wpAny_typeNameOfWhole_keyiter hit.typeIs (aV (ag (wpAny_isOneOf_keyiter hit.typeIs ?_)))) | refine ag (wpAny_typeNameOf_keyiter hit.typeIs (aV (ag (wpAny_isOneOf_keyiter hit.typeIs ?_))))
 refine (show wpAny _ _ (setField (.ref it) 1 (rawInt ((i:Int)+1))>>=_) _ _ s from ag (wpAny_setField ho hd (by simp) ?_));have BF:(s.heap.update it (Obj.mapFields (·.setIfInBounds 1 (rawInt ((i:Int)+1))))).IsKeyIter it d (i+1) es.size ep:=
  ⟨_,Heap.get?_update_self _ ho (Obj.isFreed_of_fields (Obj.data_mapFields hd _)),(Obj.cls_mapFields ..).trans hc,by rw [Obj.data_mapFields hd];simp [rawInt]⟩
 refine ag (wpAny_holding (ag (wpAny_isOneOf_keyiter (s:={ s with heap:=s.heap.update it (Obj.mapFields (·.setIfInBounds 1 (rawInt ((i:Int)+1)))) }) BF.typeIs (show wpAny _ _ (pure e.key) _ _ _ from aV (aV ⟨_,rfl,aV (hQ _ BF (Heap.SameBut.update ..))⟩)))))
theorem Va (q:Hd A s.heap) (hit:s.heap.IsKeyIter it d i es.size ep) (B1:s.heap.get? d=some od) (sd:od.data=.dict es ep) (hx:es.size<=i)
 (hQ:∀h',Heap.ExtBut it s.heap h'->Q none { s with heap:=h' }):wpAny (model prog w) A (pyNext (.ref it)) Q E s:=by
 obtain ⟨o,ho,hc,hd⟩:=id hit;unfold pyNext;refine ag (wpAny_attempt (wpAny_callSpecial?_slot (name:=Str.ofString "__next__") hit.typeIs F.slot_dict_keyiterator_next (wpAny_call_entry F.slot_dict_keyiterator_next hit.typeIs F.entry_dict_keyiterator_next ?_ (F.args_dict_keyiterator_next_1 _))));refine ag (aV (ag (ag ?_)))
 first | refine ag (wpAny_typeNameOfWhole_keyiter hit.typeIs (aV (ag (wpAny_fieldsOf ho hd ?_)))) | refine ag (wpAny_typeNameOf_keyiter hit.typeIs (aV (ag (wpAny_fieldsOf ho hd ?_))))
 rw [show Builtin.Dict_items.ownsTuple "dict_keyiterator"=false by decide,if_neg f7];refine (show wpAny _ _ (if (Value.ref d==Value.none)=true then _ else _) _ _ s from ?_);rw [if_neg (show ¬((Value.ref d==Value.none)=true) from f7)];refine ag (aV (ag (wpAny_dictEntries B1 sd ?_)));rw [if_neg (by simp)];refine ag (aV (ag (wpAny_dictEpoch B1 sd ?_)));rw [if_neg (by simp)];refine aV ?_;dsimp only;rw [if_neg (show ¬((i:Int)<0) from Int.not_lt.mpr (Int.natCast_nonneg i)),i7,Array.getElem?_eq_none hx];dsimp only;refine ag ?_
 first | refine ag (wpAny_typeNameOfWhole_keyiter hit.typeIs (aV ?_)) | refine ag (wpAny_typeNameOf_keyiter hit.typeIs (aV ?_))
 refine (show wpAny _ _ (setField (.ref it) 0 .none>>=_) _ _ s from ag (wpAny_setField ho hd (by simp) ?_));have other:∀b o,b≠it->s.heap.get? b=some o->(s.heap.update it (Obj.mapFields (·.setIfInBounds 0 Value.none))).get? b=some o:=fun b o hb e=>(Heap.get?_update_other _ _ (aD hb)).trans e;refine Dh (A:=A.in1) (s:={ s with heap:=s.heap.update it (Obj.mapFields (·.setIfInBounds 0 Value.none)) }) (Hd.keep (A:=A.in1) q fun b C dx t tb e=>other b _ (fun z=>?_) e) fun e h' kk te=>?_
 ·rw [z,ho] at e;cases e;cases hc
 ·refine ag (wpAny_mono (C_ (s0:=s) (fun b o hb z=>kk b o (other b o hb z)) te hQ) (fun b s' z=>?_) fun _ _ z=>z);obtain ⟨rfl,z⟩:=z;exact aV z
end
section
variable {X:Cx} {pins:List (Addr×Obj)} {σ:St} {H:Hp} {s:Shared} {a:Addr} {o:Obj} {u:HO}
theorem Inv.freeze (I:Inv X pins σ H s) (hu:H a=some u) (mu:zM (some u)) (ho:s.heap.get? a=some o):Inv X pins σ (upd H a (.gH o u)) s:=by
 have xi:∀b xs,H b=some (.tup xs)->b≠a:=fun b xs r z=>by subst z;rw [hu] at r;cases r;exact mu
 have uc:∀b y,H b=some (.own y)->b≠a:=fun b y r z=>by subst z;rw [hu] at r;cases r;exact mu
 exact I.write (h':=s.heap) (t':=s.toks) (x:=a) (e:=a) (by rw [hu];exact mu) (.inl rfl) (fun b v _ e=>e) ⟨o,ho⟩
  ⟨ho,(I.af a u hu).fv (fun b v _ e=>e) (fun b e=>by rw [ak (uc b a e)];exact e) fun b xs e=>by rw [ak (xi b xs e)];exact e⟩
theorem Inv.IM (I:Inv X pins σ H s) (hu:H a=some (.gH o u)) (h0:∀o u,X.gr a≠some (.gH o u)):Inv X pins σ (upd H a u) s:=by
 have ne:∀{b:Addr} {x:Option HO},H b=x->(∀o u,x≠some (.gH o u))->b≠a:=fun {b x} e hx z=>by subst z;rw [hu] at e;exact hx _ _ e.symm
 have st:∀b v,eh X.prog X.w H s.heap b v->eh X.prog X.w (upd H a u) s.heap b v:=fun b v x=>
  x.fv (fun c v _ e=>e) (fun c e=>by rw [ak (ne e fun _ _ z=>nomatch z)];exact e) fun c xs e=>by rw [ak (ne e fun _ _ z=>nomatch z)];exact e
 refine ⟨I.ok,I.os,I.bare,⟨I.base.keep,I.base.slot,fun b v q n hx=>?_,I.base.there,fun b xs q=>?_,fun b ob v q=>?_,fun b ps q=>?_⟩,I.loc,I.cell,?_,fun x c e=>?_,fun p hp=>?_,fun b v q=>?_,I.len⟩
 ·have e:=I.base.free b v q n hx;rw [ak (ne e fun _ _ z=>nomatch z)];exact e
 ·have e:=I.base.gB b xs q;rw [ak (ne e fun _ _ z=>nomatch z)];exact e
 ·have e:=I.base.gm b ob v q;rw [ak (fun z=>by subst z;exact h0 ob v q)];exact e
 ·obtain ⟨more,e⟩:=I.base.iu b ps q;exact ⟨more,by rw [ak (ne e fun _ _ z=>nomatch z)];exact e⟩
 ·rw [ak (ne I.free fun _ _ z=>nomatch z)];exact I.free
 ·rw [ak (ne (I.cE x c e) fun _ _ z=>nomatch z)];exact I.cE x c e
 ·obtain ⟨p1,p2,p3⟩:=I.pin p hp;exact ⟨p1,by rw [ak (ne p2 fun _ _ z=>nomatch z)];exact p2,p3⟩
 ·by_cases hb:b=a
  ·subst hb;rw [ai] at q;cases q;exact st b u (I.af b _ hu).2
  ·rw [ak hb] at q;exact st b v (I.af b v q)
end
def Z7 (gr:Hp) (t:TE):TE:=fun σ H Q=>t σ H fun x H1=>∃a o u,H1 a=some (.gH o u)/\(∀o u,gr a≠some (.gH o u))/\Q x (upd H1 a u)
theorem UU (he:PE X e t):PE X e (Z7 X.gr t):=by
 intro pins s σ H Q I h;refine av (he pins s σ H _ I h) fun v s1 zz=>?_;obtain ⟨x,H1,I1,r1,q1⟩:=zz;obtain ⟨a,o,u,e1,e2,q⟩:=q1;exact ⟨x,_,I1.IM e1 e2,r1,q⟩
def L_ (a:Addr) (o:Obj) (kvs:List (List Key×V)):It:=
 ⟨fun i H=>H a=some (.gH o (.dT kvs))/\i<kvs.length,fun i H x H'=>H'=H/\∃q k v,x=.ref q/\kvs[i]?=some (k,v)/\H q=some (.tup (k.map kV)),fun i H=>H a=some (.gH o (.dT kvs))/\kvs.length<=i⟩
theorem Pe {α β:Type} {F:α->β->Prop} {l:List α} {m:List β} (h:Paired F l m) {i:Nat} {x:α} (hx:l[i]?=some x):∃y,m[i]?=some y/\F x y:=by
 induction h generalizing i with
 | nil=>simp at hx
 | cons r _ ih=>
  cases i with
  | zero=>simp at hx;subst hx;exact ⟨_,rfl,r⟩
  | succ i=>simpa using ih (by simpa using hx)
theorem Qn:∀{l:List (α×β)} {m:List (α×γ)},Paired F l m->(∀p q,F p q->p.1=q.1)->l.map (·.1)=m.map (·.1)
 | _,_,.nil,_=>rfl
 | _,_,.cons r t,h=>by rw [eU,eU,Qn t h,h _ _ r]
theorem O0 {X:Cx} {pins:List (Addr×Obj)} {σ:St} {H:Hp} {s:Shared} {a:Addr} {o:Obj} {kvs:List (List Key×V)} {es:Array DictEntry} {ep:Nat} (I:Inv X pins σ H s) (h:H a=some (.gH o (.dT kvs))) (hd:o.data=.dict es ep):
 s.heap.get? a=some o/\es.size=kvs.length/\∀(i:Nat) (k:List Key) (v:V),kvs[i]?=some (k,v)->∃(e:DictEntry) (q:Addr),es[i]?=some e/\e.key=Value.ref q/\H q=some (.tup (k.map kV)):=by
 obtain ⟨ho,_,_,xs,hp,o',B_,FC,lQ,hc,zB,he,hn⟩:=(show eh X.prog X.w H s.heap a (.gH o (.dT kvs)) from I.af a _ h);rw [ho] at lQ;cases lQ;rw [hd] at zB;cases zB;refine ⟨ho,?_,fun i k v hx=>?_⟩
 ·rw [<-rh,he,aB,Paired.length hp]
 ·obtain ⟨x,lO,r1,r2,r3⟩:=Pe hp hx;refine ⟨_,x.2.1,by rw [<-Array.getElem?_toList,he,f9,lO];rfl,rfl,?_⟩;exact r2
theorem Xo {P:Program} {w:World} {K:aF} {tg:Expr} (a it:Addr) (o:Obj) (kvs:List (List Key×V)) {es:Array DictEntry} {ep:Nat} (hd:o.data=.dict es ep):
 vS P w K tg (L_ a o kvs) [it] it (fun i h=>h.IsKeyIter it a i es.size ep) where
 mem:=by simp
 obj:=fun i h st b hb=>by
  have e:b=it:=by simpa using hb
  subst e;obtain ⟨o,e,c,d⟩:=st;exact ⟨o,e,fun v z=>by rw [d] at z;cases z⟩
 keep:=fun i h h' st k=>st.at fun o e=>k it (by simp) o e
 item:=by
  intro X hP hw hK hc i pins s σ H E I hf st hg;subst hP hw hK;obtain ⟨z8,hi⟩:=hg;obtain ⟨ho,hsz,iH⟩:=O0 I z8 hd;obtain ⟨⟨k,v⟩,hx⟩:∃p,kvs[i]?=some p:=⟨kvs[i],by simp [hi]⟩;obtain ⟨e,q,he,hk,hq⟩:=iH i k v hx;obtain ⟨f0,f1,f2,f3,f4,f5⟩:=hf it (by simp);refine VU st ho hd he fun h' ae sb=>?_;have I1:Inv X pins σ H { s with heap:=h' }:=I.turned (t':=s.toks) (fun b o hb e=>(sb.2 b hb).trans e) f0 f1 f3 f4 f5;rw [hk];exact ⟨_,rfl,letGo_keyiter (s':={ s with heap:=h' }) ae ⟨.ref q,H,I1,rfl,⟨rfl,q,k,v,rfl,hx,hq⟩,ae,fun b hb=>(hf b hb).1⟩⟩
 done:=by
  intro X hP hw hK hc i pins s σ H E I hf st hg;subst hP hw hK;obtain ⟨z8,hi⟩:=hg;obtain ⟨ho,hsz,_⟩:=O0 I z8 hd;obtain ⟨f0,f1,f2,f3,f4,f5⟩:=hf it (by simp);exact Va (Aa hc I) st ho hd (by lia) fun h' eb=>⟨rfl,I.turned (t':=s.toks) (fun b o hb e=>eb b o hb e) f0 f1 f3 f4 f5⟩
 self:=fun _ _ _ _ _ st h=>wpAny_pyIter_keyiter st h
section
variable {X:Cx} {tg:Expr}
def Zj (td:TE):TI:=fun σ H R=>td σ H fun x H1=>∃a kvs,x=.ref a/\H1 a=some (.dT kvs)/\((kvs.map (·.1)).Nodup->∀o,R (L_ a o kvs) (upd H1 a (.gH o (.dT kvs))))
theorem UX {d:Expr} {td:TE} (hl:PE X d td):PI X tg d (Zj td):=by
 intro pins s σ H R I h;refine av (hl pins s σ H _ I h) fun v s1 zz=>?_;obtain ⟨x,H1,I1,r1,q1⟩:=zz;obtain ⟨a,kvs,e,hq,q⟩:=q1;subst e;cases r1;obtain ⟨_,hs,xs,hp,o,es,ep,ho,hc,hd,he,hn⟩:=(show eh X.prog X.w H1 s1.heap a (.dT kvs) from I1.af a _ hq);have oJ:(kvs.map (·.1)).Nodup:=by rw [Qn hp fun _ _ z=>z.1];exact hn
 refine VT hs ho hc hd ?_;have I2:=I1.freeze hq trivial ho;refine ⟨s1.heap.objs.size,[s1.heap.objs.size],_,_,_,rfl,I2.kept (t':=s1.toks) fun b o e=>cX _ e,Xo a _ o kvs hd,⟨_,ki _ rfl,rfl,rfl⟩,fun b hb=>?_,q oJ o⟩;have e:b=s1.heap.objs.size:=by simpa using hb
 subst e;exact I2.qW (az _) (I2.af.fresh (az _))
end
theorem Ws (Pv:Nat->St->Hp->Prop) (h0:Pv 0 (rJ js σ) (upd H D (.lst [])))
 (hl:∀i aa H',i<=kvs.length->Pv i aa H'->H' a=some (.gH o (.dT kvs)))
 (hs:∀i k v q aa H',kvs[i]?=some (k,v)->H' q=some (.tup (k.map kV))->Pv i aa H'->g (.ref q) aa H' fun eg H3=>tc eg H3 fun ok H4=>if ok=true then te eg H4 fun y H5=>∃ys,H5 D=some (.lst ys)/\ys.length<sizeLine/\Pv (i+1) eg (upd H5 D (.lst (ys++[y]))) else Pv (i+1) eg H4)
 (hd:∀aa H',Pv kvs.length aa H'->Q (.ref D) H'):
 yI js g tc te σ Q (L_ a o kvs) H D:=by
 refine ⟨fun i m σ H=>m=kvs.length-i/\i<=kvs.length/\Pv i σ H,⟨kvs.length,by simp,d9 _,h0⟩,?_⟩;rintro i m aa H' ⟨rfl,hi,p⟩
 by_cases bb:i<kvs.length
 ·refine .inr ⟨⟨hl i aa H' hi p,bb⟩,Pv (i+1),fun i9 H2 p'=>⟨kvs.length-(i+1),by omega,rfl,bb,p'⟩,fun x H2 y=>?_⟩;obtain ⟨e,q,k,v,rfl,hx,hq⟩:=y;subst e;exact hs i k v q aa _ hx hq p
 ·have e:i=kvs.length:=by lia
  subst e;exact .inl ⟨⟨hl _ aa H' hi p,az _⟩,hd aa H' p⟩
end L2
namespace TS
open PySem PyProof PyProof.Rows
def xZ:Bool->Keyed->Array Keyed->Nat->Nat->Nat->StateT SortSt Sem (Option Nat):=sortPriv% PySem.Builtin.gallop
class SK where
 num:Keyed->Int
 ok:Keyed->Prop
 kind:SortKind
def N [SK] (p:Keyed):Int:=SK.num p
def fw [SK] (p:Keyed):Prop:=SK.ok p
def Kk [SK] (xs:Array Keyed) (i:Nat):Int:=match xs[i]? with
 | some p=>N p
 | none=>0
class gI [SK] (prog:Program) (w:World) (A:Around) (E:Value->Shared->Prop) (s:Shared):Prop where
 lt:∀{st:SortSt} {p q:Keyed} {Q:Option Bool->SortSt->Prop},kindOf st=SK.kind->fw p->fw q->Q (some (decide (N p<N q))) st->wpS (model prog w) A E s (lt' p q) Q st
section
variable [SK]
theorem wg (h:xs[i]?=ys[j]?):Kk xs i=Kk ys j:=by unfold Kk;rw [h]
theorem V4 (hs:src<xs.size) (hd:d<=src) (k:Nat):
 Kk (bubble xs src d) k=if k=src-d then Kk xs src else if src-d<k/\k<=src then Kk xs (k-1) else Kk xs k:=by
 have e:=getElem?_bubble hs d hd k
 by_cases h1:k=src-d
 ·rw [if_pos h1] at*;exact wg e
 rw [if_neg h1] at*
 by_cases h2:src-d<k/\k<=src
 ·rw [if_pos h2] at*;exact wg e
 ·rw [if_neg h2] at*;exact wg e
theorem Dl (hj:j<=xs.size) (k:Nat):Kk (mirror xs i j ((j-i) / 2)) k=if i<=k/\k<j then Kk xs (i+j-1-k) else Kk xs k:=by
 have e:=getElem?_mirror_all (i:=i) hj k
 by_cases h1:i<=k/\k<j
 ·rw [if_pos h1] at*;exact wg e
 ·rw [if_neg h1] at*;exact wg e
theorem Ik (hj:j<=xs.size) (he:∀k,i<=k->k<j->Kk xs k=Kk xs (j-1)) (k:Nat):Kk (mirror xs i j ((j-i) / 2)) k=Kk xs k:=by
 rw [Dl hj];split
 ·rename_i h;rw [he k h.1 h.2,he (i+j-1-k) (by omega) (by omega)]
 ·rfl
end
def dC (left:Bool) (kv x:Int):Bool:=if left then decide (x<kv) else !decide (kv<x)
theorem A8 (h:x<=y) (hy:dC l kv y=true):dC l kv x=true:=by
 unfold dC at*;cases l<;>simp_all<;>lia
theorem Na (h:x<=y) (hy:dC l kv x=false):dC l kv y=false:=by
 cases e:dC l kv y with
 | false=>rfl
 | true=>rw [A8 h e] at hy;exact hy
section
variable [SK] {prog:Program} {w:World} {A:Around} {E:Value->Shared->Prop} {s:Shared} [gI prog w A E s] {st:SortSt}
theorem iS (he:a[i]?=some p) (h:Q p st):
 wpS (model prog w) A E s (elem' a i) Q st:=by
 rw [elem'_eq,he];exact wpS_pure h
theorem Ac (hk:kindOf st=SK.kind) (hp:fw p) (hq:fw q)
 (h:Q (some (decide (N p<N q))) st):wpS (model prog w) A E s (lt' p q) Q st:=gI.lt hk hp hq h
theorem Am (hk:kindOf st=SK.kind)
 (he:a[i]?=some p) (hp:fw p) (hq:fw key) (h:Q (some (dC l (N key) (N p))) st):
 wpS (model prog w) A E s (do
  let x <-elem' a i
  if l=true then lt' x key else do
   let r <-lt' key x
   pure (Option.map (fun x=> !x) r)) Q st:=by
 refine wpS_bind (iS he ?_);cases l
 ·exact wpS_bind (Ac hk hq hp (wpS_pure h))
 ·exact Ac hk hp hq h
theorem jH (hI:∀p,p∈a.toList->fw p) (hi:i<a.size):∃p,a[i]?=some p/\fw p/\Kk a i=N p:=
 ⟨a[i],getElem?_pos _ i hi,hI _ (by simp),by unfold Kk;rw [getElem?_pos a i hi]⟩
abbrev FY:=Option (Option Nat)×Nat×Nat
theorem Qc {P:Nat->Bool} {n lo hi:Nat} {f:Nat->FY->StateT SortSt Sem (ForInStep FY)}
 (hP:∀i j,i<=j->j<n->P j=true->P i=true)
 (hf:∀x lo hi,hi<=n->∀Q:ForInStep FY->SortSt->Prop,(hi<=lo->Q (.done (none,lo,hi)) st)->
  (lo<hi->P (lo+(hi-lo) / 2)=true->Q (.yield (none,lo+(hi-lo) / 2+1,hi)) st)->
  (lo<hi->P (lo+(hi-lo) / 2)=false->Q (.yield (none,lo,lo+(hi-lo) / 2)) st)->
  wpS (model prog w) A E s (f x (none,lo,hi)) Q st)
 (ur:lo<=hi) (hhi:hi<=n) (h1:∀i,i<lo->P i=true) (h2:∀i,hi<=i->i<n->P i=false):
 wpS (model prog w) A E s (forIn [:n] ((none,lo,hi):FY) f)
  (fun c ae=>ae=st/\∃k,c=(none,k,k)/\k<=n/\(∀i,i<k->P i=true)/\(∀i,k<=i->i<n->P i=false)) st:=by
 refine wpS_forRange
  (I:=fun x c ae=>ae=st/\∃lo hi,c=(none,lo,hi)/\lo<=hi/\hi<=n/\hi-lo<=n-x/\
   (∀i,i<lo->P i=true)/\(∀i,hi<=i->i<n->P i=false))
  ?_ ?_ ⟨rfl,lo,hi,rfl,ur,hhi,by lia,h1,h2⟩
 ·rintro x c ae _ hx ⟨rfl,lo,hi,rfl,a1,a2,a3,a4,a5⟩;refine hf x lo hi a2 _ (fun kH=>?_) (fun bb hm=>?_) (fun bb hm=>?_)
  ·obtain rfl:lo=hi:=by lia
   exact ⟨rfl,lo,rfl,a2,a4,a5⟩
  ·exact ⟨rfl,_,hi,rfl,by lia,a2,by omega,fun i kG=>hP i _ (by lia) (by lia) hm,a5⟩
  ·refine ⟨rfl,lo,_,rfl,by lia,by lia,by omega,a4,fun i kG gx=>?_⟩
   cases e:P i with
   | false=>rfl
   | true=>rw [hP _ i kG gx e] at hm;exact hm
 ·rintro c ae ⟨rfl,lo,hi,rfl,a1,a2,a3,a4,a5⟩;obtain rfl:lo=hi:=by simp at a3;lia
  exact ⟨rfl,lo,rfl,a2,a4,a5⟩
theorem CS (hk:kindOf st=SK.kind)
 (hI:∀p,p∈a.toList->fw p) (hq:fw key) (hn:b+n<=a.size) (hs:∀i j,i<=j->j<n->Kk a (b+i)<=Kk a (b+j)) (hh:hint<n)
 (h:∀k,k<=n->(∀i,i<k->dC l (N key) (Kk a (b+i))=true)->(∀i,k<=i->i<n->dC l (N key) (Kk a (b+i))=false)->Q (some k) st):
 wpS (model prog w) A E s (xZ l key a b n hint) Q st:=by
 refine wpS_bind ?_;obtain ⟨p,e1,e2,e3⟩:=jH hI (i:=b+hint) (by lia);refine Am hk e1 e2 hq ?_;rw [<-e3]
 cases e:dC l (N key) (Kk a (b+hint)) with
 | true=>
  dsimp only;rw [if_pos rfl];refine wpS_bind (wpS_mono (wpS_forRange
   (I:=fun x c ae=>ae=st/\∃lo d7,c=(none,lo,d7)/\lo<d7/\x<d7/\hint+lo<n/\dC l (N key) (Kk a (b+(hint+lo)))=true)
   (Q:=fun c ae=>ae=st/\∃lo d7,c=(none,lo,d7)/\lo<d7/\hint+lo<n/\dC l (N key) (Kk a (b+(hint+lo)))=true/\
    (hint+d7<n->dC l (N key) (Kk a (b+(hint+d7)))=false))
   ?_ ?_ ⟨rfl,0,1,rfl,by exact Nat.le.refl,by exact Nat.le.refl,by omega,e⟩) ?_)
  ·rintro x c ae _ hx ⟨rfl,lo,d7,rfl,a1,a2,a3,a4⟩;dsimp only
   by_cases kH:d7>=n-hint
   ·rw [if_pos kH];exact wpS_pure ⟨rfl,lo,d7,rfl,a1,a3,a4,fun h=>absurd h (by lia)⟩
   ·rw [if_neg kH];obtain ⟨p,e1,e2,e3⟩:=jH hI (i:=b+(hint+d7)) (by lia);refine wpS_bind (Am hk e1 e2 hq ?_);rw [<-e3]
    cases e':dC l (N key) (Kk a (b+(hint+d7))) with
    | true=>exact wpS_pure ⟨rfl,d7,2*d7+1,rfl,by lia,by lia,by lia,e'⟩
    | false=>exact wpS_pure ⟨rfl,lo,d7,rfl,a1,a3,a4,fun _=>e'⟩
  ·rintro c ae ⟨rfl,lo,d7,rfl,a1,a2,a3,a4⟩;exact ⟨rfl,lo,d7,rfl,a1,a3,a4,fun h=>absurd h (by simp at a2;lia)⟩
  ·rintro c ae ⟨rfl,lo,d7,rfl,a1,a3,a4,a5⟩;dsimp only;refine wpS_bind (wpS_mono (Qc (P:=fun i=>dC l (N key) (Kk a (b+i))) (fun i j fi hj e=>A8 (hs i j fi hj) e)
    ?_ (by omega) (by omega) (fun i hi=>?_) (fun i hi gx=>?_)) ?_)
   ·intro x lo hi hhn Q' c1 c2 c3;dsimp only
    by_cases kH:lo>=hi
    ·rw [if_pos kH];exact wpS_pure (c1 kH)
    ·rw [if_neg kH];obtain ⟨p,e1,e2,e3⟩:=jH hI (i:=b+(lo+(hi-lo) / 2)) (by lia);refine wpS_bind (Am hk e1 e2 hq ?_);rw [<-e3]
     cases e':dC l (N key) (Kk a (b+(lo+(hi-lo) / 2))) with
     | true=>exact wpS_pure (c2 (by lia) e')
     | false=>exact wpS_pure (c3 (by lia) e')
   ·exact A8 (hs i (hint+lo) (by lia) (by omega)) a4
   ·exact Na (hs (hint+d7) i (by omega) (by omega)) (a5 (by lia))
   ·rintro c ae ⟨rfl,k,rfl,b1,b2,b3⟩;exact wpS_pure (h k b1 b2 b3)
 | false=>
  dsimp only;rw [if_neg (by decide)];refine wpS_bind (wpS_mono (wpS_forRange
   (I:=fun x c ae=>ae=st/\∃lo d7,c=(none,lo,d7)/\lo<d7/\x<d7/\lo<=hint/\dC l (N key) (Kk a (b+(hint-lo)))=false)
   (Q:=fun c ae=>ae=st/\∃lo d7,c=(none,lo,d7)/\lo<d7/\lo<=hint/\dC l (N key) (Kk a (b+(hint-lo)))=false/\
    (d7<=hint->dC l (N key) (Kk a (b+(hint-d7)))=true))
   ?_ ?_ ⟨rfl,0,1,rfl,by exact Nat.le.refl,by exact Nat.le.refl,by lia,e⟩) ?_)
  ·rintro x c ae _ hx ⟨rfl,lo,d7,rfl,a1,a2,a3,a4⟩;dsimp only
   by_cases kH:d7>=hint+1
   ·rw [if_pos kH];exact wpS_pure ⟨rfl,lo,d7,rfl,a1,a3,a4,fun h=>absurd h (by exact Nat.not_le_of_lt kH)⟩
   ·rw [if_neg kH];obtain ⟨p,e1,e2,e3⟩:=jH hI (i:=b+(hint-d7)) (by lia);refine wpS_bind (Am hk e1 e2 hq ?_);rw [<-e3]
    cases e':dC l (N key) (Kk a (b+(hint-d7))) with
    | true=>exact wpS_pure ⟨rfl,lo,d7,rfl,a1,a3,a4,fun _=>e'⟩
    | false=>exact wpS_pure ⟨rfl,d7,2*d7+1,rfl,by lia,by lia,by lia,e'⟩
  ·rintro c ae ⟨rfl,lo,d7,rfl,a1,a2,a3,a4⟩;exact ⟨rfl,lo,d7,rfl,a1,a3,a4,fun h=>absurd h (by simp at a2;lia)⟩
  ·rintro c ae ⟨rfl,lo,d7,rfl,a1,a3,a4,a5⟩;dsimp only;refine wpS_bind (wpS_mono (Qc (P:=fun i=>dC l (N key) (Kk a (b+i))) (fun i j fi hj e=>A8 (hs i j fi hj) e)
    ?_ (by omega) (by lia) (fun i hi=>?_) (fun i hi gx=>?_)) ?_)
   ·intro x lo hi hhn Q' c1 c2 c3;dsimp only
    by_cases kH:lo>=hi
    ·rw [if_pos kH];exact wpS_pure (c1 kH)
    ·rw [if_neg kH];obtain ⟨p,e1,e2,e3⟩:=jH hI (i:=b+(lo+(hi-lo) / 2)) (by lia);refine wpS_bind (Am hk e1 e2 hq ?_);rw [<-e3]
     cases e':dC l (N key) (Kk a (b+(lo+(hi-lo) / 2))) with
     | true=>exact wpS_pure (c2 (by lia) e')
     | false=>exact wpS_pure (c3 (by lia) e')
   ·exact A8 (hs i (hint-d7) (by omega) (by lia)) (a5 (by omega))
   ·exact Na (hs (hint-lo) i (by omega) (by omega)) a4
   ·rintro c ae ⟨rfl,k,rfl,b1,b2,b3⟩;exact wpS_pure (h k b1 b2 b3)
end
structure Iv (r:Keyed->Keyed->Prop) (W O X Y:List Keyed):Prop where
 perm:(O++(X++Y)).Perm W
 IW:O.Pairwise r
 sx:X.Pairwise r
 sy:Y.Pairwise r
 lx:∀p∈O,∀q∈X,r p q
 ly:∀p∈O,∀q∈Y,r p q
def Out (r:Keyed->Keyed->Prop) (W R:List Keyed):Prop:=R.Perm W/\R.Pairwise r
theorem Iv.symm {r W O X Y} (h:Iv r W O X Y):Iv r W O Y X:=
 ⟨((List.perm_append_comm (l₁:=Y) (l₂:=X)).append_left O).trans h.perm,h.IW,h.sy,h.sx,h.ly,h.lx⟩
theorem Iv.kW {r W O u v Y} (h:Iv r W O (u++v) Y) (hc:∀p∈u,∀q∈Y,r p q):Iv r W (O++u) v Y:=by
 have hp:=List.pairwise_append.mp h.sx;refine ⟨by simpa [List.append_assoc] using h.perm,?_,hp.2.1,h.sy,?_,?_⟩
 ·exact List.pairwise_append.mpr ⟨h.IW,hp.1,fun p gF q hq=>h.lx p gF q (iL _ hq)⟩
 ·intro p gF q hq;rcases i8.mp gF with h' | h'
  ·exact h.lx p h' q (kJ _ hq)
  ·exact hp.2.2 p h' q hq
 ·intro p gF q hq;rcases i8.mp gF with h' | h'
  ·exact h.ly p h' q hq
  ·exact hc p h' q hq
theorem Iv.nj {r W O X u v} (h:Iv r W O X (u++v)) (hc:∀p∈u,∀q∈X,r p q):Iv r W (O++u) X v:=(h.symm.kW hc).symm
theorem Iv.fin {r W O X Y R} (h:Iv r W O X Y) (hp:R.Perm (X++Y)) (hs:R.Pairwise r):Out r W (O++R):=by
 refine ⟨(hp.append_left O).trans h.perm,List.pairwise_append.mpr ⟨h.IW,hs,fun p gF q hq=>?_⟩⟩;rcases i8.mp (hp.mem_iff.mp hq) with h' | h'
 ·exact h.lx p gF q h'
 ·exact h.ly p gF q h'
section
variable [SK]
def le (p q:Keyed):Prop:=N p<=N q
def ge (p q:Keyed):Prop:=N q<=N p
theorem yW {a:Array Keyed} {i k:Nat} (h:i+k<=a.size):a.toList.drop i=(a.extract i (i+k)).toList++a.toList.drop (i+k):=by
 rw [Array.toList_extract,List.extract_eq_take_drop,Nat.add_sub_cancel_left,<-List.drop_drop,List.take_append_drop]
theorem Po {a:Array Keyed} {i:Nat} {p:Keyed} (h:a[i]?=some p):a.toList.drop i=[p]++a.toList.drop (i+1):=by
 obtain ⟨hi,rfl⟩:=Array.getElem?_eq_some_iff.mp h;rw [List.drop_eq_getElem_cons (by simpa using hi)];simp
theorem Aq (h:p∈(a.extract i j).toList):∃m,i<=m/\m<j/\m<a.size/\Kk a m=N p:=by
 obtain ⟨m,hm,e⟩:=FG h;simp only [rh,Array.size_extract] at hm;refine ⟨i+m,by lia,by omega,by omega,?_⟩;have:a[i+m]?=some p:=by
  rw [getElem?_pos a (i+m) (by omega)];simp only [Array.getElem_toList,Array.getElem_extract] at e;rw [e]
 unfold Kk;rw [this]
theorem sS (h:a[i]?=some p):Kk a i=N p:=by unfold Kk;rw [h]
theorem mJ (hs:a.toList.Pairwise le) (fi:i<=j) (hj:j<a.size):Kk a i<=Kk a j:=by
 rcases Nat.lt_or_eq_of_le fi with h | rfl
 ·have e1:=getElem?_pos a i (by lia);have e2:=getElem?_pos a j hj;rw [sS e1,sS e2];have:=Ck.mp hs i j (by simp;omega) (by simp;omega) h;exact (by simpa using this:le a[i] a[j])
 ·exact Int.le_refl _
theorem sX (h:p∈a.toList.drop i):∃m,i<=m/\m<a.size/\Kk a m=N p:=by
 obtain ⟨m,hm,e⟩:=FG h;simp only [vI,rh] at hm;refine ⟨i+m,by lia,by omega,sS ?_⟩;rw [getElem?_pos a (i+m) (by omega)];simpa using e
theorem sY (h:p∈a.toList.take i):∃m,m<i/\m<a.size/\Kk a m=N p:=by
 obtain ⟨m,hm,e⟩:=FG h;simp only [ie,rh] at hm;refine ⟨m,by lia,by lia,sS ?_⟩;rw [getElem?_pos a m (by lia)];simpa using e
section lo
variable {a b out:Array Keyed} {ia ib:Nat} {W:List Keyed}
abbrev Fv (W:List Keyed) (a b out:Array Keyed) (ia ib:Nat):Prop:=Iv le W out.toList (a.toList.drop ia) (b.toList.drop ib)
theorem Fv.wR (h:Fv W a b out ia ib) {k:Nat} (hk:ia+k<=a.size) (hc:∀p∈(a.extract ia (ia+k)).toList,∀q∈b.toList.drop ib,le p q):
 Fv W a b (out++a.extract ia (ia+k)) (ia+k) ib:=by
 unfold Fv at*;rw [yW hk] at h;rw [pH];exact h.kW hc
theorem Fv.wQ (h:Fv W a b out ia ib) {k:Nat} (hk:ib+k<=b.size) (hc:∀p∈(b.extract ib (ib+k)).toList,∀q∈a.toList.drop ia,le p q):
 Fv W a b (out++b.extract ib (ib+k)) ia (ib+k):=by
 unfold Fv at*;rw [yW hk] at h;rw [pH];exact h.nj hc
theorem Fv.o6 (h:Fv W a b out ia ib) {p:Keyed} (e:a[ia]?=some p) (hc:∀q∈b.toList.drop ib,le p q):Fv W a b (out.push p) (ia+1) ib:=by
 unfold Fv at*;rw [Po e] at h;rw [Array.toList_push];exact h.kW (by simpa using hc)
theorem Fv.o5 (h:Fv W a b out ia ib) {p:Keyed} (e:b[ib]?=some p) (hc:∀q∈a.toList.drop ia,le p q):Fv W a b (out.push p) ia (ib+1):=by
 unfold Fv at*;rw [Po e] at h;rw [Array.toList_push];exact h.nj (by simpa using hc)
theorem Df (a:Array Keyed) (i:Nat):(a.extract i a.size).toList=a.toList.drop i:=by
 rw [Array.toList_extract,List.extract_eq_take_drop];exact List.take_of_length_le (by simp)
theorem Fv.i_ (h:Fv W a b out ia ib) (he:ia=a.size\/ib=b.size):Out le W (out++a.extract ia a.size++b.extract ib b.size).toList:=by
 rw [pH,pH,Df,Df,List.append_assoc];refine h.fin (List.Perm.refl _) ?_;rcases he with rfl | rfl
 ·rw [List.drop_of_length_le (by simp)];exact h.sy
 ·rw [show b.toList.drop b.size=[] from List.drop_of_length_le (by simp),List.append_nil];exact h.sx
theorem Fv.kh (h:Fv W a b out ia ib) (hc:∀p∈b.toList.drop ib,∀q∈a.toList.drop ia,le p q):Out le W (out++b.extract ib b.size++a.extract ia a.size).toList:=by
 rw [pH,pH,Df,Df,List.append_assoc];exact h.fin List.perm_append_comm (List.pairwise_append.mpr ⟨h.sy,h.sx,hc⟩)
end lo
section hi
variable {a b out:Array Keyed} {na nb:Nat} {W:List Keyed}
abbrev Bv (W:List Keyed) (a b out:Array Keyed) (na nb:Nat):Prop:=Iv ge W out.toList (a.toList.take na).reverse (b.toList.take nb).reverse
theorem P' (h:i<=n):(a.toList.take n).reverse=(a.extract i n).reverse.toList++(a.toList.take i).reverse:=by
 rw [Array.toList_reverse,Array.toList_extract,List.extract_eq_take_drop,<-List.reverse_append];congr 1;rw [<-List.drop_take,]
 conv=>lhs;rw [<-List.take_append_drop i (a.toList.take n)]
 rw [List.take_take,Nat.min_eq_left h]
theorem Pu (h:a[i]?=some p):(a.toList.take (i+1)).reverse=[p]++(a.toList.take i).reverse:=by
 obtain ⟨hi,rfl⟩:=Array.getElem?_eq_some_iff.mp h;rw [List.take_succ_eq_append_getElem (by simpa using hi),List.reverse_append];simp
theorem Bv.wR (h:Bv W a b out na nb) (hi:i<=na) (hc:∀p∈(a.extract i na).toList,∀q∈b.toList.take nb,ge p q):
 Bv W a b (out++(a.extract i na).reverse) i nb:=by
 unfold Bv at*;rw [P' hi] at h;rw [pH];exact h.kW (by simpa using hc)
theorem Bv.wQ (h:Bv W a b out na nb) (hi:i<=nb) (hc:∀p∈(b.extract i nb).toList,∀q∈a.toList.take na,ge p q):
 Bv W a b (out++(b.extract i nb).reverse) na i:=by
 unfold Bv at*;rw [P' hi] at h;rw [pH];exact h.nj (by simpa using hc)
theorem Bv.o6 (h:Bv W a b out (na+1) nb) (e:a[na]?=some p) (hc:∀q∈b.toList.take nb,ge p q):Bv W a b (out.push p) na nb:=by
 unfold Bv at*;rw [Pu e] at h;rw [Array.toList_push];exact h.kW (by simpa using hc)
theorem Bv.o5 (h:Bv W a b out na (nb+1)) (e:b[nb]?=some p) (hc:∀q∈a.toList.take na,ge p q):Bv W a b (out.push p) na nb:=by
 unfold Bv at*;rw [Pu e] at h;rw [Array.toList_push];exact h.nj (by simpa using hc)
theorem Dp (a:Array Keyed) (i:Nat):(a.extract 0 i).toList=a.toList.take i:=by
 rw [Array.toList_extract,List.extract_eq_take_drop];simp
theorem Out.rev (h:Out ge W R):Out le W R.reverse:=⟨(List.reverse_perm R).trans h.1,List.pairwise_reverse.mpr h.2⟩
theorem Bv.i_ (h:Bv W a b out na nb) (he:na=0\/nb=0):Out le W (a.extract 0 na++b.extract 0 nb++out.reverse).toList:=by
 have:(a.extract 0 na++b.extract 0 nb++out.reverse).toList=(out.toList++((b.toList.take nb).reverse++(a.toList.take na).reverse)).reverse:=by
  rw [pH,pH,Dp,Dp,Array.toList_reverse];simp
 rw [this];refine (h.fin List.perm_append_comm ?_).rev;rcases he with rfl | rfl
 ·simpa using h.sy
 ·simpa using h.sx
theorem Bv.kh (h:Bv W a b out na nb) (hc:∀p∈a.toList.take na,∀q∈b.toList.take nb,ge p q):Out le W (b.extract 0 nb++a.extract 0 na++out.reverse).toList:=by
 have:(b.extract 0 nb++a.extract 0 na++out.reverse).toList=(out.toList++((a.toList.take na).reverse++(b.toList.take nb).reverse)).reverse:=by
  rw [pH,pH,Dp,Dp,Array.toList_reverse];simp
 rw [this];exact (h.fin (List.Perm.refl _) (List.pairwise_append.mpr ⟨h.sx,h.sy,by simpa using hc⟩)).rev
end hi
end
def mlo:Array Keyed->Array Keyed->StateT SortSt Sem (Array Keyed):=sortPriv% PySem.Builtin.mergeLo
def mhi:Array Keyed->Array Keyed->StateT SortSt Sem (Array Keyed):=sortPriv% PySem.Builtin.mergeHi
structure Sm (st ae:SortSt):Prop where
 kind:kindOf ae=kindOf st
 arr:arrOf ae=arrOf st
 pend:pendingOf ae=pendingOf st
 fail:failedOf ae=failedOf st
theorem Sm.refl (st:SortSt):Sm st st:=⟨rfl,rfl,rfl,rfl⟩
def smg:Nat->StateT SortSt Sem Unit:=sortPriv% PySem.Builtin.setMinGallop
section
variable [SK] {prog:Program} {w:World} {A:Around} {E:Value->Shared->Prop} {s:Shared} [gI prog w A E s] {st qf:SortSt} {a b:Array Keyed}
theorem eB (hc:c) (h:wpS (model prog w) A E s m Q st):
 wpS (model prog w) A E s (@ite _ c inst m n) Q st:=by rw [if_pos hc];exact h
theorem eA (hc:¬c) (h:wpS (model prog w) A E s n Q st):
 wpS (model prog w) A E s (@ite _ c inst m n) Q st:=by rw [if_neg hc];exact h
theorem CT (hm:Sm qf st) (h:∀ae,Sm qf ae->Q () ae):wpS (model prog w) A E s (smg g) Q st:=
 wpS_modify (h _ ⟨hm.kind,hm.arr,hm.pend,hm.fail⟩)
theorem Q3 (hk:kindOf st=SK.kind)
 (hI:∀p,p∈a.toList->fw p) (hs:a.toList.Pairwise le) (hq:fw key) (hi:i<a.size)
 (h:∀k,i+k<=a.size->(∀m,i<=m->m<i+k->dC l (N key) (Kk a m)=true)->(∀m,i+k<=m->m<a.size->dC l (N key) (Kk a m)=false)->Q (some k) st):
 wpS (model prog w) A E s (xZ l key a i (a.size-i) 0) Q st:=by
 refine CS hk hI hq (by lia) (fun x y px hy=>mJ hs (by lia) (by lia)) (by omega) fun k h1 h2 h3=>?_;refine h k (by lia) (fun m m1 m2=>?_) (fun m m1 m2=>?_)
 ·have:=h2 (m-i) (by lia);rwa [show i+(m-i)=m by lia] at this
 ·have:=h3 (m-i) (by lia) (by omega);rwa [show i+(m-i)=m by lia] at this
def SQ {β:Type} (Q I:β->SortSt->Prop):ForInStep β->SortSt->Prop
 | .done c,st=>Q c st
 | .yield c,st=>I c st
theorem rR (I:Nat->β->SortSt->Prop)
 (qH:∀i c st,i<n->I i c st->wpS (model prog w) A E s (f i c) (SQ Q (I (i+1))) st)
 (qO:∀c st,I n c st->Q c st) (h:I 0 c st):wpS (model prog w) A E s (forIn [:n] c f) Q st:=
 wpS_forRange I (fun i c st _ hi hI=>wpS_mono (qH i c st hi hI) fun r ae h'=>by cases r<;>exact h')
  (fun c st h'=>qO c st (by rwa [Nat.max_eq_right (d9 _)] at h')) h
theorem TX (hW:W=a.toList++b.toList) (hk:kindOf st=SK.kind)
 (ha:∀p,p∈a.toList->fw p) (hb:∀p,p∈b.toList->fw p) (sa:a.toList.Pairwise le) (sb:b.toList.Pairwise le)
 (na:0<a.size) (nb:0<b.size) (h0:Kk b 0<=Kk a 0) (hl:Kk b (b.size-1)<=Kk a (a.size-1))
 (h:∀r ae,Sm st ae->Out le W r.toList->Q r ae):wpS (model prog w) A E s (mlo a b) Q st:=by
 have fV:∀{i j:Nat},i+1=a.size->∀p∈b.toList.drop j,∀q∈a.toList.drop i,le p q:=by
  intro i j hi p hp q hq;obtain ⟨x,x1,x2,x3⟩:=sX hp;obtain ⟨y,y1,y2,y3⟩:=sX hq;unfold le;rw [<-x3,<-y3,show y=a.size-1 by lia];exact ju (mJ sb (by lia) (by omega)) hl
 let J:Array Keyed->Nat->Nat->SortSt->Prop:=fun out ia ib ae=>Fv W a b out ia ib/\ia+1<a.size/\ib<b.size/\Sm st ae
 let F:Array Keyed->SortSt->Prop:=fun r ae=>Out le W r.toList/\Sm st ae
 refine wpS_bind (wpS_lift (wpAny_rule ⟨rfl,?_⟩));obtain ⟨y0,e0,i0,k0⟩:=jH hb (i:=0) nb;refine wpS_bind (iS e0 ?_);have jn:Fv W a b #[y0] 0 1:=by
  have:Fv W a b #[] 0 0:=⟨by simp [hW],List.Pairwise.nil,sa,sb,by simp,by simp⟩;refine this.o5 e0 fun q hq=>?_;obtain ⟨m,m1,m2,m3⟩:=sX hq;unfold le;rw [<-m3,<-k0];exact ju h0 (mJ sa (d9 _) m2)
 by_cases c1:1=b.size
 ·refine eB (c:=(1==b.size)=true) (by simpa using c1) ?_;exact wpS_pure (h _ _ (Sm.refl st) (jn.i_ (.inr c1)))
 refine eA (c:=(1==b.size)=true) (by simpa using c1) ?_
 by_cases c2:0+1=a.size
 ·refine eB (c:=(0+1==a.size)=true) (by simpa using c2) ?_;exact wpS_pure (h _ _ (Sm.refl st) (jn.kh (fV c2)))
 refine eA (c:=(0+1==a.size)=true) (by simpa using c2) ?_;refine wpS_bind (wpS_get ?_);refine wpS_bind (wpS_mono (rR
  (I:=fun x c ae=>∃out ia ib mg,c=(none,out,ia,ib,mg)/\J out ia ib ae/\x<=ia+ib)
  (Q:=fun c ae=>∃r,c.1=some r/\F r ae) ?outer ?xh ⟨_,_,_,_,rfl,⟨jn,by lia,by lia,Sm.refl st⟩,by exact Nat.le.step Nat.le.refl⟩) ?post)
 case post=>
  rintro ⟨c1,c2⟩ ae ⟨r,rfl,hF⟩;exact wpS_pure (h r ae hF.2 hF.1)
 case xh=>
  rintro c ae ⟨out,ia,ib,mg,rfl,⟨_,j2,j3,_⟩,hx⟩;exfalso;lia
 case outer=>
  rintro x c ae hx ⟨out,ia,ib,mg,rfl,hJ,Kb⟩;generalize ht0:ia+ib=t0 at Kb;refine wpS_bind (wpS_mono (rR
   (I:=fun x c ae=>∃out ia ib ac bc,c=(none,out,ia,ib,ac,bc)/\J out ia ib ae/\t0+x<=ia+ib)
   (Q:=fun c ae=>(∃r,c.1=some r/\F r ae)\/∃out ia ib ac bc,c=(none,out,ia,ib,ac,bc)/\J out ia ib ae/\t0+1<=ia+ib)
   ?one ?mj ⟨out,ia,ib,0,0,rfl,hJ,by lia⟩) ?two)
  case mj=>
   rintro c ae ⟨out,ia,ib,ac,bc,rfl,j,lO⟩;exact .inr ⟨out,ia,ib,ac,bc,rfl,j,by omega⟩
  case one=>
   rintro x' c ae _ ⟨out,ia,ib,ac,bc,rfl,⟨j1,j2,j3,j4⟩,lO⟩;obtain ⟨y,ey,iy,ky⟩:=jH hb (i:=ib) j3;obtain ⟨z,ez,iz,kz⟩:=jH ha (i:=ia) (by exact bp j2);refine wpS_bind (iS ey (wpS_bind (iS ez (wpS_bind (Ac (j4.kind.trans hk) iy iz ?_)))))
   by_cases bb:N y<N z
   ·rw [jt bb];refine wpS_bind (iS ey ?_);have qE:=j1.o5 ey (fun q hq=>by
     obtain ⟨m,m1,m2,m3⟩:=sX hq;unfold le;rw [<-m3];exact ju (f_ bb) (kz▸mJ sa m1 m2))
    by_cases c3:ib+1=b.size
    ·refine eB (c:=(ib+1==b.size)=true) (by simpa using c3) ?_;exact wpS_pure (.inl ⟨_,rfl,qE.i_ (.inr c3),j4⟩)
    refine eA (c:=(ib+1==b.size)=true) (by simpa using c3) ?_;have jj:J (out.push y) ia (ib+1) ae:=⟨qE,j2,by lia,j4⟩
    by_cases c4:bc+1>=mg
    ·refine eB c4 ?_;exact wpS_pure (.inr ⟨_,ia,ib+1,_,_,rfl,jj,by lia⟩)
    ·refine eA c4 ?_;exact wpS_pure ⟨_,ia,ib+1,_,_,rfl,jj,by lia⟩
   ·rw [fY bb];refine wpS_bind (iS ez ?_);have qE:=j1.o6 ez (fun q hq=>by
     obtain ⟨m,m1,m2,m3⟩:=sX hq;unfold le;rw [<-m3];exact ju (Int.not_lt.mp bb) (ky▸mJ sb m1 m2))
    by_cases c3:ia+1+1=a.size
    ·refine eB (c:=(ia+1+1==a.size)=true) (by simpa using c3) ?_;exact wpS_pure (.inl ⟨_,rfl,qE.kh (fV c3),j4⟩)
    refine eA (c:=(ia+1+1==a.size)=true) (by simpa using c3) ?_;have jj:J (out.push z) (ia+1) ib ae:=⟨qE,by lia,j3,j4⟩
    by_cases c4:ac+1>=mg
    ·refine eB c4 ?_;exact wpS_pure (.inr ⟨_,ia+1,ib,_,_,rfl,jj,by lia⟩)
    ·refine eA c4 ?_;exact wpS_pure ⟨_,ia+1,ib,_,_,rfl,jj,by lia⟩
  case two=>
   rintro ⟨c1,c2⟩ aT (⟨r,rfl,hF⟩ | ⟨out,ia,ib,ac,bc,e,Lw,ht⟩)
   ·exact wpS_pure ⟨r,rfl,hF⟩
   cases e;refine wpS_bind (wpS_lift (wpAny_rule ⟨rfl,?_⟩));refine wpS_bind (wpS_mono (rR
    (I:=fun x c ae=>∃out ia ib mg ac bc,c=(none,out,ia,ib,mg,ac,bc)/\J out ia ib ae/\t0+1<=ia+ib)
    (Q:=fun c ae=>(∃r,c.1=some r/\F r ae)\/∃out ia ib mg ac bc,c=(none,out,ia,ib,mg,ac,bc)/\J out ia ib ae/\t0+1<=ia+ib)
    ?xZ ?mC ⟨_,_,_,_,_,_,rfl,Lw,ht⟩) ?three)
   case mC=>exact fun c ae hh=>.inr hh
   case three=>
    rintro ⟨c1,c2⟩ cj (⟨r,rfl,hF⟩ | ⟨out,ia,ib,mg,ac,bc,e,⟨j1,j2,j3,j4⟩,ht⟩)
    ·exact wpS_pure ⟨r,rfl,hF⟩
    cases e;exact wpS_bind (CT j4 fun cy rW=>wpS_pure ⟨out,ia,ib,_,rfl,⟨j1,j2,j3,rW⟩,by lia⟩)
   case xZ=>
    rintro x' c cj _ ⟨out,ia,ib,mg,ac,bc,rfl,⟨j1,j2,j3,j4⟩,ht⟩
    extract_lets-underBinder+onlyGivenNames s1 tI s2 ia1 s3 ib1 s4 mg1 s5 ac1 bc1 jp
    let R:ForInStep (Option (Array Keyed)×Array Keyed×Nat×Nat×Nat×Nat×Nat)->SortSt->Prop:=
     SQ (fun c ae=>(∃r,c.1=some r/\F r ae)\/∃out ia ib mg ac bc,c=(none,out,ia,ib,mg,ac,bc)/\J out ia ib ae/\t0+1<=ia+ib)
      (fun c ae=>∃out ia ib mg ac bc,c=(none,out,ia,ib,mg,ac,bc)/\J out ia ib ae/\t0+1<=ia+ib)
    have nH:∀(u:Unit) (g:Nat),wpS (model prog w) A E s (jp u g) R cj:=by
     intro u g;refine wpS_bind (CT j4 fun cy rW=>?_);obtain ⟨y,ey,iy,ky⟩:=jH hb (i:=ib) j3;refine wpS_bind (iS ey (wpS_bind (Q3 (rW.kind.trans hk) ha sa iy (i:=ia) (by exact bp j2) fun k g1 g2 g3=>?_)));dsimp-zeta only
     extract_lets-underBinder+onlyGivenNames ac2 xu
     have oG:=j1.wR g1 (fun p hp q hq=>by
      obtain ⟨m,m1,m2,m3,m4⟩:=Aq hp;obtain ⟨m',n1,n2,n3⟩:=sX hq;have:=g2 m m1 m2;unfold le;rw [<-m4,<-n3];exact ju (by simpa [dC] using this) (ky▸mJ sb n1 n2))
     have iX:∀(u:Unit) (out:Array Keyed) (i:Nat),Fv W a b out i ib->i+1<a.size->ia<=i->(∀m,i<=m->m<a.size->N y<Kk a m)->
      wpS (model prog w) A E s (xu u out i) R cy:=by
      intro u out i f1 f2 f3 f4;refine wpS_bind (iS ey ?_);have f5:=f1.o5 ey (fun q hq=>by
       obtain ⟨m',n1,n2,n3⟩:=sX hq;unfold le;rw [<-n3];exact f_ (f4 m' n1 n2))
      by_cases c3:ib+1=b.size
      ·refine eB (c:=(ib+1==b.size)=true) (by simpa using c3) ?_;exact wpS_pure (.inl ⟨_,rfl,f5.i_ (.inr c3),rW⟩)
      refine eA (c:=(ib+1==b.size)=true) (by simpa using c3) ?_;obtain ⟨z,ez,iz,kz⟩:=jH ha (i:=i) (by exact bp f2);refine wpS_bind (iS ez (wpS_bind (Q3 (rW.kind.trans hk) hb sb iz (i:=ib+1) (by lia) fun k' F7 L6 Fz=>?_)));dsimp-zeta only
      extract_lets-underBinder+onlyGivenNames bc2 JW
      have j7:=f5.wQ F7 (fun p hp q hq=>by
       obtain ⟨m,m1,m2,m3,m4⟩:=Aq hp;obtain ⟨m',n1,n2,n3⟩:=sX hq;have:=L6 m m1 m2;unfold le;rw [<-m4,<-n3];exact ju (f_ (by simpa [dC] using this)) (kz▸mJ sa n1 n2))
      have qN:∀(u:Unit) (out:Array Keyed) (j:Nat),Fv W a b out i j->j<b.size->ib+1<=j->(∀m,j<=m->m<b.size->N z<=Kk b m)->
       wpS (model prog w) A E s (JW u out j) R cy:=by
       intro u out j d1 d2 d3 d4;refine wpS_bind (iS ez ?_);have d5:=d1.o6 ez (fun q hq=>by
        obtain ⟨m',n1,n2,n3⟩:=sX hq;unfold le;rw [<-n3];exact d4 m' n1 n2)
       by_cases c4:i+1+1=a.size
       ·refine eB (c:=(i+1+1==a.size)=true) (by simpa using c4) ?_;exact wpS_pure (.inl ⟨_,rfl,d5.kh (fV c4),rW⟩)
       refine eA (c:=(i+1+1==a.size)=true) (by simpa using c4) ?_;have jj:J (out.push z) (i+1) j cy:=⟨d5,by lia,d2,rW⟩
       by_cases c5:(decide (k<7) && decide (k'<7))=true
       ·refine eB c5 ?_;exact wpS_pure (.inr ⟨_,i+1,j,_,_,_,rfl,jj,by lia⟩)
       ·refine eA c5 ?_;exact wpS_pure ⟨_,i+1,j,_,_,_,rfl,jj,by lia⟩
      by_cases c4:k'>0
      ·refine eB c4 ?_
       by_cases c5:ib+1+k'=b.size
       ·refine eB (c:=(ib+1+k'==b.size)=true) (by simpa using c5) ?_;exact wpS_pure (.inl ⟨_,rfl,j7.i_ (.inr c5),rW⟩)
       refine eA (c:=(ib+1+k'==b.size)=true) (by simpa using c5) ?_;exact qN () _ (ib+1+k') j7 (by lia) (by lia) fun m m1 m2=>by simpa [dC] using Fz m m1 m2
      ·refine eA c4 ?_;obtain rfl:k'=0:=by lia
       exact qN () _ (ib+1) f5 (by lia) (by exact Nat.le.refl) fun m m1 m2=>by simpa [dC] using Fz m m1 m2
     by_cases c4:k>0
     ·refine eB c4 ?_
      by_cases c5:ia+k+1=a.size
      ·refine eB (c:=(ia+k+1==a.size)=true) (by simpa using c5) ?_;exact wpS_pure (.inl ⟨_,rfl,oG.kh (fV c5),rW⟩)
      refine eA (c:=(ia+k+1==a.size)=true) (by simpa using c5) ?_
      by_cases c6:ia+k=a.size
      ·refine eB (c:=(ia+k==a.size)=true) (by simpa using c6) ?_;exact wpS_pure (.inl ⟨_,rfl,oG.i_ (.inl c6),rW⟩)
      refine eA (c:=(ia+k==a.size)=true) (by simpa using c6) ?_;exact iX () _ (ia+k) oG (by lia) (by lia) fun m m1 m2=>by simpa [dC] using g3 m m1 m2
     ·refine eA c4 ?_;obtain rfl:k=0:=by lia
      exact iX () _ ia j1 (by omega) (by exact Nat.le.refl) fun m m1 m2=>by simpa [dC] using g3 m m1 m2
    by_cases c5:mg>1
    ·refine eB c5 ?_;exact nH () (mg-1)
    ·refine eA c5 ?_;exact nH () mg
end
section
variable [SK] {prog:Program} {w:World} {A:Around} {E:Value->Shared->Prop} {s:Shared} [gI prog w A E s] {st qf:SortSt} {a b:Array Keyed}
theorem Q4 (hk:kindOf st=SK.kind)
 (hI:∀p,p∈a.toList->fw p) (hs:a.toList.Pairwise le) (hq:fw key) (hn:n<=a.size) (h0:0<n)
 (h:∀k,k<=n->(∀m,m<k->dC l (N key) (Kk a m)=true)->(∀m,k<=m->m<n->dC l (N key) (Kk a m)=false)->Q (some k) st):
 wpS (model prog w) A E s (xZ l key a 0 n (n-1)) Q st:=by
 refine CS hk hI hq (by lia) (fun x y px hy=>mJ hs (by lia) (by lia)) (by omega) fun k h1 h2 h3=>?_;refine h k h1 (fun m m1=>?_) (fun m m1 m2=>?_)
 ·have:=h2 m m1;rwa [Nat.zero_add] at this
 ·have:=h3 m m1 m2;rwa [Nat.zero_add] at this
theorem TV (hW:W=a.toList++b.toList) (hk:kindOf st=SK.kind)
 (ha:∀p,p∈a.toList->fw p) (hb:∀p,p∈b.toList->fw p) (sa:a.toList.Pairwise le) (sb:b.toList.Pairwise le)
 (pa:0<a.size) (pb:0<b.size) (h0:Kk b 0<=Kk a 0) (hl:Kk b (b.size-1)<=Kk a (a.size-1))
 (h:∀r ae,Sm st ae->Out le W r.toList->Q r ae):wpS (model prog w) A E s (mhi a b) Q st:=by
 have jY:∀{i j:Nat},j=1->∀p∈a.toList.take i,∀q∈b.toList.take j,ge p q:=by
  intro i j hj p hp q hq;obtain ⟨x,x1,x2,x3⟩:=sY hp;obtain ⟨y,y1,y2,y3⟩:=sY hq;unfold ge;rw [<-x3,<-y3,show y=0 by lia];exact ju h0 (mJ sa (by lia) (by omega))
 let J:Array Keyed->Nat->Nat->SortSt->Prop:=fun out na nb ae=>Bv W a b out na nb/\0<na/\na<=a.size/\1<nb/\nb<=b.size/\Sm st ae
 let F:Array Keyed->SortSt->Prop:=fun r ae=>Out le W r.toList/\Sm st ae
 refine wpS_bind (wpS_lift (wpAny_rule ⟨rfl,?_⟩));obtain ⟨y0,e0,i0,k0⟩:=jH ha (i:=a.size-1) (by omega);refine wpS_bind (iS e0 ?_);have jn:Bv W a b #[y0] (a.size-1) b.size:=by
  have:Bv W a b #[] (a.size-1+1) b.size:=by
   rw [show a.size-1+1=a.size by lia];unfold Bv;rw [List.take_of_length_le (by simp),List.take_of_length_le (by simp)];refine ⟨?_,List.Pairwise.nil,List.pairwise_reverse.mpr sa,List.pairwise_reverse.mpr sb,by simp,by simp⟩;rw [hW];exact (List.reverse_perm _).append (List.reverse_perm _)
  refine this.o6 e0 fun q hq=>?_;obtain ⟨m,m1,m2,m3⟩:=sY hq;unfold ge;rw [<-m3,<-k0];exact ju (mJ sb (by lia) (by omega)) hl
 by_cases c1:a.size-1=0
 ·refine eB (c:=(a.size-1==0)=true) (by simpa using c1) ?_;exact wpS_pure (h _ _ (Sm.refl st) (jn.i_ (.inl c1)))
 refine eA (c:=(a.size-1==0)=true) (by simpa using c1) ?_
 by_cases c2:b.size=1
 ·refine eB (c:=(b.size==1)=true) (by simpa using c2) ?_;exact wpS_pure (h _ _ (Sm.refl st) (jn.kh (jY c2)))
 refine eA (c:=(b.size==1)=true) (by simpa using c2) ?_;refine wpS_bind (wpS_get ?_);refine wpS_bind (wpS_mono (rR
  (I:=fun x c ae=>∃na nb out mg,c=(none,na,nb,out,mg)/\J out na nb ae/\na+nb+x<=a.size+b.size)
  (Q:=fun c ae=>∃r,c.1=some r/\F r ae) ?outer ?xh ⟨a.size-1,b.size,_,_,rfl,⟨jn,by lia,by omega,by lia,by exact Nat.le.refl,Sm.refl st⟩,by lia⟩) ?post)
 case post=>
  rintro ⟨c1,c2⟩ ae ⟨r,rfl,hF⟩;exact wpS_pure (h r ae hF.2 hF.1)
 case xh=>
  rintro c ae ⟨na,nb,out,mg,rfl,⟨_,j2,j3,j4,j5,_⟩,hx⟩;exfalso;lia
 case outer=>
  rintro x c ae hx ⟨na,nb,out,mg,rfl,hJ,Kb⟩;obtain ⟨t0,ht0⟩:∃t0,na+nb=t0:=⟨_,rfl⟩;refine wpS_bind (wpS_mono (rR
   (I:=fun x c ae=>∃na nb out ac bc,c=(none,na,nb,out,ac,bc)/\J out na nb ae/\na+nb+x<=t0)
   (Q:=fun c ae=>(∃r,c.1=some r/\F r ae)\/∃na nb out ac bc,c=(none,na,nb,out,ac,bc)/\J out na nb ae/\na+nb+1<=t0)
   ?one ?mj ⟨na,nb,out,0,0,rfl,hJ,by lia⟩) ?two)
  case mj=>
   rintro c ae ⟨na,nb,out,ac,bc,rfl,j,lO⟩;exact .inr ⟨na,nb,out,ac,bc,rfl,j,by lia⟩
  case one=>
   rintro x' c ae _ ⟨na,nb,out,ac,bc,rfl,⟨j1,j2,j3,j4,j5,j6⟩,lO⟩;obtain ⟨y,ey,iy,ky⟩:=jH hb (i:=nb-1) (by lia);obtain ⟨z,ez,iz,kz⟩:=jH ha (i:=na-1) (by lia);refine wpS_bind (iS ey (wpS_bind (iS ez (wpS_bind (Ac (j6.kind.trans hk) iy iz ?_)))))
   by_cases bb:N y<N z
   ·rw [jt bb];refine wpS_bind (iS ez ?_);have qE:Bv W a b (out.push z) (na-1) nb:=Bv.o6 (by rwa [show na-1+1=na by lia]) ez (fun q hq=>by
     obtain ⟨m,m1,m2,m3⟩:=sY hq;unfold ge;rw [<-m3];exact ju (ky▸mJ sb (by lia) (by lia)) (f_ bb))
    by_cases c3:na-1=0
    ·refine eB (c:=(na-1==0)=true) (by simpa using c3) ?_;exact wpS_pure (.inl ⟨_,rfl,qE.i_ (.inl c3),j6⟩)
    refine eA (c:=(na-1==0)=true) (by simpa using c3) ?_;have jj:J (out.push z) (na-1) nb ae:=⟨qE,by lia,by lia,j4,j5,j6⟩
    by_cases c4:ac+1>=mg
    ·refine eB c4 ?_;exact wpS_pure (.inr ⟨na-1,nb,_,_,_,rfl,jj,by lia⟩)
    ·refine eA c4 ?_;exact wpS_pure ⟨na-1,nb,_,_,_,rfl,jj,by lia⟩
   ·rw [fY bb];refine wpS_bind (iS ey ?_);have qE:Bv W a b (out.push y) na (nb-1):=Bv.o5 (by rwa [show nb-1+1=nb by lia]) ey (fun q hq=>by
     obtain ⟨m,m1,m2,m3⟩:=sY hq;unfold ge;rw [<-m3];exact ju (kz▸mJ sa (by lia) (by lia)) (Int.not_lt.mp bb))
    by_cases c3:nb-1=1
    ·refine eB (c:=(nb-1==1)=true) (by simpa using c3) ?_;exact wpS_pure (.inl ⟨_,rfl,qE.kh (jY c3),j6⟩)
    refine eA (c:=(nb-1==1)=true) (by simpa using c3) ?_;have jj:J (out.push y) na (nb-1) ae:=⟨qE,j2,j3,by lia,by lia,j6⟩
    by_cases c4:bc+1>=mg
    ·refine eB c4 ?_;exact wpS_pure (.inr ⟨na,nb-1,_,_,_,rfl,jj,by lia⟩)
    ·refine eA c4 ?_;exact wpS_pure ⟨na,nb-1,_,_,_,rfl,jj,by lia⟩
  case two=>
   rintro ⟨c1,c2⟩ aT (⟨r,rfl,hF⟩ | ⟨na,nb,out,ac,bc,e,Lw,ht⟩)
   ·exact wpS_pure ⟨r,rfl,hF⟩
   cases e;refine wpS_bind (wpS_lift (wpAny_rule ⟨rfl,?_⟩));refine wpS_bind (wpS_mono (rR
    (I:=fun x c ae=>∃na nb out mg ac bc,c=(none,na,nb,out,mg,ac,bc)/\J out na nb ae/\na+nb+1<=t0)
    (Q:=fun c ae=>(∃r,c.1=some r/\F r ae)\/∃na nb out mg ac bc,c=(none,na,nb,out,mg,ac,bc)/\J out na nb ae/\na+nb+1<=t0)
    ?xZ ?mC ⟨_,_,_,_,_,_,rfl,Lw,ht⟩) ?three)
   case mC=>exact fun c ae hh=>.inr hh
   case three=>
    rintro ⟨c1,c2⟩ cj (⟨r,rfl,hF⟩ | ⟨na,nb,out,mg,ac,bc,e,⟨j1,j2,j3,j4,j5,j6⟩,ht⟩)
    ·exact wpS_pure ⟨r,rfl,hF⟩
    cases e;exact wpS_bind (CT j6 fun cy rV=>wpS_pure ⟨na,nb,out,_,rfl,⟨j1,j2,j3,j4,j5,rV⟩,by lia⟩)
   case xZ=>
    rintro x' c cj _ ⟨na,nb,out,mg,ac,bc,rfl,⟨j1,j2,j3,j4,j5,j6⟩,ht⟩
    extract_lets-underBinder+onlyGivenNames s1 na1 s2 nb1 s3 tI s4 mg1 s5 ac1 bc1 jp
    let R:ForInStep (Option (Array Keyed)×Nat×Nat×Array Keyed×Nat×Nat×Nat)->SortSt->Prop:=
     SQ (fun c ae=>(∃r,c.1=some r/\F r ae)\/∃na nb out mg ac bc,c=(none,na,nb,out,mg,ac,bc)/\J out na nb ae/\na+nb+1<=t0)
      (fun c ae=>∃na nb out mg ac bc,c=(none,na,nb,out,mg,ac,bc)/\J out na nb ae/\na+nb+1<=t0)
    have nH:∀(u:Unit) (g:Nat),wpS (model prog w) A E s (jp u g) R cj:=by
     intro u g;refine wpS_bind (CT j6 fun cy rV=>?_);obtain ⟨y,ey,iy,ky⟩:=jH hb (i:=nb-1) (by omega);refine wpS_bind (iS ey (wpS_bind (Q4 (rV.kind.trans hk) ha sa iy (n:=na) j3 j2 fun k g1 g2 g3=>?_)));dsimp-zeta only
     extract_lets-underBinder+onlyGivenNames kk ac2 xu
     have oG:=j1.wR g1 (fun p hp q hq=>by
      obtain ⟨m,m1,m2,m3,m4⟩:=Aq hp;obtain ⟨m',n1,n2,n3⟩:=sY hq;have:=g3 m m1 m2;unfold ge;rw [<-m4,<-n3];exact ju (ky▸mJ sb (i:=m') (j:=nb-1) (by omega) (by omega)) (f_ (by simpa [dC] using this)))
     have iX:∀(u:Unit) (i:Nat) (out:Array Keyed),Bv W a b out i nb->0<i->i<=na->(∀m,m<i->Kk a m<=N y)->
      wpS (model prog w) A E s (xu u i out) R cy:=by
      intro u i out f1 f2 f3 f4;refine wpS_bind (iS ey ?_);have f5:Bv W a b (out.push y) i (nb-1):=Bv.o5 (by rwa [show nb-1+1=nb by omega]) ey (fun q hq=>by
       obtain ⟨m',n1,n2,n3⟩:=sY hq;unfold ge;rw [<-n3];exact f4 m' n1)
      by_cases c3:nb-1=1
      ·refine eB (c:=(nb-1==1)=true) (by simpa using c3) ?_;exact wpS_pure (.inl ⟨_,rfl,f5.kh (jY c3),rV⟩)
      refine eA (c:=(nb-1==1)=true) (by simpa using c3) ?_;obtain ⟨z,ez,iz,kz⟩:=jH ha (i:=i-1) (by omega);refine wpS_bind (iS ez (wpS_bind (Q4 (rV.kind.trans hk) hb sb iz (n:=nb-1) (by omega) (by omega) fun k' F7 L6 Fz=>?_)));dsimp-zeta only
      extract_lets-underBinder+onlyGivenNames JT bc2 JW
      have j7:=f5.wQ F7 (fun p hp q hq=>by
       obtain ⟨m,m1,m2,m3,m4⟩:=Aq hp;obtain ⟨m',n1,n2,n3⟩:=sY hq;have:=Fz m m1 m2;unfold ge;rw [<-m4,<-n3];exact ju (kz▸mJ sa (i:=m') (j:=i-1) (by omega) (by omega)) (by simpa [dC] using this))
      have qN:∀(u:Unit) (j:Nat) (out:Array Keyed),Bv W a b out i j->1<j->j<=nb-1->(∀m,m<j->Kk b m<=N z)->
       wpS (model prog w) A E s (JW u j out) R cy:=by
       intro u j out d1 d2 d3 d4;refine wpS_bind (iS ez ?_);have d5:Bv W a b (out.push z) (i-1) j:=Bv.o6 (by rwa [show i-1+1=i by omega]) ez (fun q hq=>by
        obtain ⟨m',n1,n2,n3⟩:=sY hq;unfold ge;rw [<-n3];exact d4 m' n1)
       by_cases c4:i-1=0
       ·refine eB (c:=(i-1==0)=true) (by simpa using c4) ?_;exact wpS_pure (.inl ⟨_,rfl,d5.i_ (.inl c4),rV⟩)
       refine eA (c:=(i-1==0)=true) (by simpa using c4) ?_;have jj:J (out.push z) (i-1) j cy:=⟨d5,by lia,by omega,d2,by omega,rV⟩
       by_cases c5:(decide (na-k<7) && decide (nb-1-k'<7))=true
       ·refine eB c5 ?_;exact wpS_pure (.inr ⟨i-1,j,_,_,_,_,rfl,jj,by omega⟩)
       ·refine eA c5 ?_;exact wpS_pure ⟨i-1,j,_,_,_,_,rfl,jj,by omega⟩
      have hz:∀m,m<k'->Kk b m<=N z:=fun m m1=>f_ (by simpa [dC] using L6 m m1)
      by_cases c4:nb-1-k'>0
      ·refine eB c4 ?_
       by_cases c5:k'=1
       ·refine eB (c:=(k'==1)=true) (by simpa using c5) ?_;exact wpS_pure (.inl ⟨_,rfl,j7.kh (jY c5),rV⟩)
       refine eA (c:=(k'==1)=true) (by simpa using c5) ?_
       by_cases c6:k'=0
       ·refine eB (c:=(k'==0)=true) (by simpa using c6) ?_;exact wpS_pure (.inl ⟨_,rfl,j7.i_ (.inr c6),rV⟩)
       refine eA (c:=(k'==0)=true) (by simpa using c6) ?_;exact qN () k' _ j7 (by lia) (by omega) hz
      ·refine eA c4 ?_;obtain rfl:k'=nb-1:=by omega
       exact qN () (nb-1) _ f5 (by omega) (by omega) hz
     have hy:∀m,m<k->Kk a m<=N y:=fun m m1=>by simpa [dC] using g2 m m1
     by_cases c4:na-k>0
     ·refine eB c4 ?_
      by_cases c5:k=0
      ·refine eB (c:=(k==0)=true) (by simpa using c5) ?_;exact wpS_pure (.inl ⟨_,rfl,oG.i_ (.inl c5),rV⟩)
      refine eA (c:=(k==0)=true) (by simpa using c5) ?_;exact iX () k _ oG (by lia) (by omega) hy
     ·refine eA c4 ?_;obtain rfl:k=na:=by omega
      exact iX () k _ j1 (by omega) (by omega) hy
    by_cases c5:mg>1
    ·refine eB c5 ?_;exact nH () (mg-1)
    ·refine eA c5 ?_;exact nH () mg
end
section
variable [SK]
def eW (xs:Array Keyed) (a b:Nat):Prop:=∀i j,a<=i->i<=j->j<b->Kk xs i<=Kk xs j
theorem P8 (sa:Nat):∀(l:List Keyed) (n:Nat) (xs:Array Keyed),sa+n+l.length<=xs.size->
 ((l.zipIdx n).foldl (fun a (pj:Keyed×Nat)=>a.setIfInBounds (sa+pj.2) pj.1) xs).toList
   =xs.toList.take (sa+n)++(l++xs.toList.drop (sa+n+l.length))
 | [],n,xs,_=>by simp
 | p::t,n,xs,h=>by
  simp only [kI] at h;rw [List.zipIdx_cons,List.foldl_cons,P8 sa t (n+1) _ (by simp;lia)];simp only [Array.toList_setIfInBounds];rw [show sa+(n+1)=sa+n+1 by exact Eq.refl (sa+(n+1)),List.drop_set_of_lt (by lia),kI,
   show sa+n+1+t.length=sa+n+(t.length+1) by lia]
  have:(xs.toList.set (sa+n) p).take (sa+n+1)=xs.toList.take (sa+n)++[p]:=by
   rw [List.take_succ_eq_append_getElem (by simp;lia),List.take_set_of_le (az _)];simp
  rw [this];simp
section seg
variable {xs ys:Array Keyed} {a b:Nat} {M:List Keyed}
theorem Zz (h:ys.toList=xs.toList.take a++(M++xs.toList.drop (a+M.length))) (hs:a+M.length<=xs.size):
 (∀m,m<a\/a+M.length<=m->Kk ys m=Kk xs m)/\∀m,(hm:m<M.length)->Kk ys (a+m)=N M[m]:=by
 have hl:(xs.toList.take a).length=a:=by simp;lia
 refine ⟨fun m hm=>?_,fun m hm=>?_⟩
 ·refine wg ?_;rw [<-Array.getElem?_toList,<-Array.getElem?_toList,h];rcases hm with hm | hm
  ·rw [sk (by lia),List.getElem?_take_of_lt hm]
  ·rw [rf (by lia),hl,rf (by lia),List.getElem?_drop];congr 1;lia
 ·refine sS ?_;rw [<-Array.getElem?_toList,h,rf (by lia),hl,Nat.add_sub_cancel_left,sk hm,kK hm]
theorem V_ (h:ys.toList=xs.toList.take a++(M++xs.toList.drop (a+M.length))) (hM:M.Perm (xs.extract a b).toList) (hb:b<=xs.size) (lR:a<=b):ys.Perm xs:=by
 have hl:M.length=b-a:=by rw [hM.length_eq];simp;lia
 refine Array.perm_iff_toList_perm.mpr ?_;rw [h];have e:xs.toList=xs.toList.take a++((xs.extract a b).toList++xs.toList.drop (a+M.length)):=by
  conv=>lhs;rw [<-List.take_append_drop a xs.toList]
  congr 1;have:=yW (a:=xs) (i:=a) (k:=b-a) (by lia);rw [show a+(b-a)=b by omega] at this;rw [this,show a+M.length=b by lia]
 conv=>rhs;rw [e]
 exact (hM.append_right _).append_left _
end seg
structure Bs (a₀:Array Keyed) (st:SortSt):Prop where
 perm:(arrOf st).Perm a₀
 kind:kindOf st=SK.kind
 fail:failedOf st=none
theorem Bs.size {a₀:Array Keyed} {st:SortSt} (h:Bs a₀ st):(arrOf st).size=a₀.size:=h.perm.size_eq
theorem Bs.nums {a₀:Array Keyed} {st:SortSt} (h:Bs a₀ st) (h0:∀p,p∈a₀.toList->fw p):∀p,p∈(arrOf st).toList->fw p:=
 fun p hp=>h0 p ((Array.perm_iff_toList_perm.mp h.perm).mem_iff.mp hp)
theorem OS (hs:eW xs a b) (hb:b<=xs.size):(xs.extract a b).toList.Pairwise le:=by
 rw [Ck];intro i j hi hj fi;simp only [rh,Array.size_extract] at hi hj;simp only [Array.getElem_toList,Array.getElem_extract];have:=hs (a+i) (a+j) (by lia) (by lia) (by lia);rw [sS (getElem?_pos xs (a+i) (by lia)),sS (getElem?_pos xs (a+j) (by lia))] at this;exact this
theorem C0 (hm:a+m<b) (_hb:b<=xs.size):Kk (xs.extract a b) m=Kk xs (a+m):=by
 refine wg ?_;rw [Array.getElem?_extract,if_pos (by lia)]
end
section
variable [SK] {prog:Program} {w:World} {A:Around} {E:Value->Shared->Prop} {s:Shared} [gI prog w A E s] {st:SortSt} {a₀:Array Keyed}
theorem V2 (h:Q ⟨⟩ ae):wpS (model prog w) A E s (set ae:StateT SortSt Sem PUnit) Q st:=by
 unfold wpS;rw [StateT.run_set];exact aV ⟨rfl,h⟩
theorem UP (h0:∀p,p∈a₀.toList->fw p) (hB:Bs a₀ st)
 (hp:pendingOf st=(L++(sa,na,p)::(sb,nb,p')::T).toArray) (hi:i=L.length) (hadj:sb=sa+na) (K7:1<=na) (hnb:1<=nb)
 (hsz:sb+nb<=a₀.size) (s1:eW (arrOf st) sa sb) (s2:eW (arrOf st) sb (sb+nb))
 (h:∀ae,Bs a₀ ae->pendingOf ae=(L++(sa,na+nb,p)::T).toArray->eW (arrOf ae) sa (sb+nb)->
  (∀m,m<sa\/sb+nb<=m->Kk (arrOf ae) m=Kk (arrOf st) m)->Q true ae):
 wpS (model prog w) A E s (mergeAt' i) Q st:=by
 subst hi;have hI:=hB.nums h0;have Bu:=hB.size;refine wpS_bind (wpS_get ?_);have g1:(pendingOf st)[L.length]?=some (sa,na,p):=by rw [hp];simp
 have g2:(pendingOf st)[L.length+1]?=some (sb,nb,p'):=by rw [hp];simp
 have g3:((pendingOf st).setIfInBounds L.length (sa,na+nb,p)).eraseIdxIfInBounds (L.length+1)=(L++(sa,na+nb,p)::T).toArray:=by
  rw [hp];apply Array.toList_inj.mp;simp [List.eraseIdx_append_of_length_le]
 refine (show ((pendingOf st)[L.length]?,(pendingOf st)[L.length+1]?)=(some (sa,na,p),some (sb,nb,p')) by rw [g1,g2]).symm▸?_;refine wpS_bind (V2 (g3.symm▸?_));refine (fun (H:∀gw:SortSt,gw=SortSt.mk' (kindOf st) (arrOf st) ((L++(sa,na+nb,p)::T).toArray) (gallopOf st) (failedOf st)->
  wpS (model prog w) A E s _ Q gw)=>H _ rfl) ?_
 intro gw e1;have b1:Bs a₀ gw:=by rw [e1];exact ⟨hB.perm,hB.kind,hB.fail⟩
 have x1:arrOf gw=arrOf st:=by rw [e1]
 have p1:pendingOf gw=(L++(sa,na+nb,p)::T).toArray:=by rw [e1]
 have keep:eW (arrOf st) sa (sb+nb)->Q true gw:=fun hs=>h gw b1 p1 (by rw [x1];exact hs) (fun m _=>by rw [x1]);clear e1;obtain ⟨y,ey,iy,ky⟩:=jH hI (i:=sb) (by lia);refine wpS_bind (iS ey (wpS_bind (CS (a:=arrOf st) b1.kind hI iy (n:=na) (by lia) (fun i j fi hj=>s1 _ _ (by lia) (by lia) (by lia)) (by exact K7)
  fun k k1 k2 k3=>?_)))
 have zj:∀m,sa<=m->m<sa+k->Kk (arrOf st) m<=Kk (arrOf st) sb:=fun m m1 m2=>by
  have:=k2 (m-sa) (by lia);rw [show sa+(m-sa)=m by lia] at this;rw [ky];simpa [dC] using this
 have RK:∀m,sa+k<=m->m<sb->Kk (arrOf st) sb<Kk (arrOf st) m:=fun m m1 m2=>by
  have:=k3 (m-sa) (by lia) (by lia);rw [show sa+(m-sa)=m by lia] at this;rw [ky];simpa [dC] using this
 dsimp-zeta only
 by_cases c1:na-k=0
 ·refine eB (c:=(na-k==0)=true) (by simpa using c1) ?_;refine wpS_pure (keep fun i j h1 h2 h3=>?_)
  by_cases hj:j<sb
  ·exact s1 i j h1 h2 hj
  by_cases hi:sb<=i
  ·exact s2 i j hi h2 h3
  exact ju (zj i h1 (by lia)) (s2 sb j (az _) (by lia) h3)
 refine eA (c:=(na-k==0)=true) (by simpa using c1) ?_;obtain ⟨z,ez,iz,kz⟩:=jH hI (i:=sa+k+(na-k)-1) (by lia);have esb:sa+k+(na-k)-1=sb-1:=by lia
 refine wpS_bind (iS ez (wpS_bind (CS (a:=arrOf st) b1.kind hI iz (b:=sb) (n:=nb) (by lia) (fun i j fi hj=>s2 _ _ (by lia) (by lia) (by lia)) (by omega)
  fun jd q1 q2 q3=>?_)))
 rw [esb] at kz;have Rk:∀m,sb<=m->m<sb+jd->Kk (arrOf st) m<Kk (arrOf st) (sb-1):=fun m m1 m2=>by
  have:=q2 (m-sb) (by lia);rw [show sb+(m-sb)=m by lia] at this;rw [kz];simpa [dC] using this
 have Rj:∀m,sb+jd<=m->m<sb+nb->Kk (arrOf st) (sb-1)<=Kk (arrOf st) m:=fun m m1 m2=>by
  have:=q3 (m-sb) (by lia) (by lia);rw [show sb+(m-sb)=m by lia] at this;rw [kz];simpa [dC] using this
 dsimp-zeta only
 by_cases c2:jd=0
 ·refine eB (c:=(jd==0)=true) (by simpa using c2) ?_;refine wpS_pure (keep fun i j h1 h2 h3=>?_)
  by_cases hj:j<sb
  ·exact s1 i j h1 h2 hj
  by_cases hi:sb<=i
  ·exact s2 i j hi h2 h3
  exact ju (s1 i (sb-1) h1 (by lia) (by lia)) (Rj j (by lia) h3)
 refine eA (c:=(jd==0)=true) (by simpa using c2) ?_
 extract_lets-underBinder+onlyGivenNames x y' jp
 have szx:x.size=na-k:=by show ((arrOf st).extract (sa+k) sb).size=_;rw [Array.size_extract];lia
 have szy:y'.size=jd:=by show ((arrOf st).extract sb (sb+jd)).size=_;rw [Array.size_extract];lia
 have hx:∀q,q∈x.toList->fw q:=fun q hq=>hI q (by
  have:q∈((arrOf st).extract (sa+k) sb).toList:=hq;rw [Array.toList_extract,List.extract_eq_take_drop] at this;exact List.mem_of_mem_drop (List.mem_of_mem_take this))
 have hy:∀q,q∈y'.toList->fw q:=fun q hq=>hI q (by
  have:q∈((arrOf st).extract sb (sb+jd)).toList:=hq;rw [Array.toList_extract,List.extract_eq_take_drop] at this;exact List.mem_of_mem_drop (List.mem_of_mem_take this))
 have ox:x.toList.Pairwise le:=OS (xs:=arrOf st) (fun i j h1 h2 h3=>s1 i j (by lia) h2 h3) (by lia);have oy:y'.toList.Pairwise le:=OS (xs:=arrOf st) (fun i j h1 h2 h3=>s2 i j h1 h2 (by lia)) (by lia);have hf:Kk y' 0<=Kk x 0:=by
  show Kk ((arrOf st).extract sb (sb+jd)) 0<=Kk ((arrOf st).extract (sa+k) sb) 0;rw [C0 (by lia) (by lia),C0 (by lia) (by lia)];exact f_ (RK _ (by exact Nat.le.refl) (by lia))
 have hl:Kk y' (y'.size-1)<=Kk x (x.size-1):=by
  rw [szx,szy];show Kk ((arrOf st).extract sb (sb+jd)) _<=Kk ((arrOf st).extract (sa+k) sb) _;rw [C0 (by lia) (by lia),C0 (by lia) (by lia),show sa+k+(na-k-1)=sb-1 by lia];exact f_ (Rk _ (by lia) (by lia))
 have hW:x.toList++y'.toList=((arrOf st).extract (sa+k) (sb+jd)).toList:=by
  have e1:=yW (a:=(arrOf st)) (i:=sa+k) (k:=na-k) (by omega);have e2:=yW (a:=(arrOf st)) (i:=sb) (k:=jd) (by lia);have e3:=yW (a:=(arrOf st)) (i:=sa+k) (k:=na-k+jd) (by omega);rw [show sa+k+(na-k)=sb by omega] at e1;rw [show sa+k+(na-k+jd)=sb+jd by omega] at e3;rw [e2] at e1;rw [e3,<-List.append_assoc] at e1;exact (List.append_cancel_right e1).symm
 have nH:∀r aT,Sm gw aT->Out le (x.toList++y'.toList) r.toList->wpS (model prog w) A E s (jp r) Q aT:=by
  intro r aT hm hO;rw [hW] at hO;have rl:r.toList.length=na-k+jd:=by rw [hO.1.length_eq];simp;lia
  refine wpS_bind (wpS_modify (wpS_bind (wpS_get (wpS_pure ?_))));have hY:=P8 (sa+k) r.toList 0 (arrOf aT) (by rw [hm.arr,x1];omega);rw [hm.arr,x1,Nat.add_zero] at hY;have xW:=Zz hY (by omega);have hP:=V_ hY hO.1 (by lia) (by lia);have d_:∀m,sa+k<=m->m<sb+jd->∀v,v=Kk (List.foldl (fun a (pj:Keyed×Nat)=>a.setIfInBounds (sa+k+pj.2) pj.1) (arrOf st) (r.toList.zipIdx 0)) m->Kk (arrOf st) sb<=v/\v<=Kk (arrOf st) (sb-1):=by
   rintro m m1 m2 v rfl;have:=xW.2 (m-(sa+k)) (by omega);rw [show sa+k+(m-(sa+k))=m by lia] at this;rw [this];obtain ⟨m',n1,n2,n3,n4⟩:=Aq (hO.1.mem_iff.mp (zK (l:=r.toList) (n:=m-(sa+k)) (by lia)));rw [<-n4]
   by_cases hc:m'<sb
   ·exact ⟨f_ (RK m' n1 hc),s1 _ _ (by lia) (by lia) (by lia)⟩
   ·exact ⟨s2 _ _ (by exact Nat.le.refl) (by lia) (by lia),f_ (Rk m' (by lia) n2)⟩
  have BI:(failedOf aT).isNone=true:=by rw [hm.fail,b1.fail];rfl
  have vA:List.foldl (fun a x=>match x with | (p,j)=>a.setIfInBounds (sa+k+j) p) (arrOf aT) r.toList.zipIdx
   =List.foldl (fun a (pj:Keyed×Nat)=>a.setIfInBounds (sa+k+pj.2) pj.1) (arrOf st) (r.toList.zipIdx 0):=by rw [hm.arr,x1]
  generalize List.foldl (fun a (pj:Keyed×Nat)=>a.setIfInBounds (sa+k+pj.2) pj.1) (arrOf st) (r.toList.zipIdx 0)=Y at vA hY xW hP d_;refine (show Q (failedOf aT).isNone (SortSt.mk' (kindOf aT) (List.foldl (fun a x=>match x with | (p,j)=>a.setIfInBounds (sa+k+j) p) (arrOf aT) r.toList.zipIdx) (pendingOf aT) (gallopOf aT) (failedOf aT)) from ?_);rw [vA,BI];refine h _ ⟨hP.trans hB.perm,hm.kind.trans b1.kind,hm.fail.trans b1.fail⟩ (hm.pend.trans p1) ?_ ?_
  ·show eW Y sa (sb+nb);have tI:∀m,m<sa+k->Kk Y m=Kk (arrOf st) m:=fun m m1=>xW.1 m (.inl m1);have tH:∀m,sb+jd<=m->Kk Y m=Kk (arrOf st) m:=fun m m1=>xW.1 m (.inr (by omega));intro i j h1 h2 h3
   by_cases i1:i<sa+k
   ·rw [tI i i1]
    by_cases j1:j<sa+k
    ·rw [tI j j1];exact s1 i j h1 h2 (by lia)
    have:=zj i h1 i1
    by_cases j2:j<sb+jd
    ·exact ju this (d_ j (by lia) j2 _ rfl).1
    ·rw [tH j (by lia)];exact ju this (s2 _ _ (az _) (by lia) h3)
   by_cases i2:i<sb+jd
   ·by_cases j2:j<sb+jd
    ·rcases Nat.lt_or_eq_of_le h2 with fi | rfl
     ·have e1:=xW.2 (i-(sa+k)) (by omega);have e2:=xW.2 (j-(sa+k)) (by lia);rw [show sa+k+(i-(sa+k))=i by lia] at e1;rw [show sa+k+(j-(sa+k))=j by lia] at e2;rw [e1,e2];exact Ck.mp hO.2 _ _ _ _ (by lia)
     ·exact Int.le_refl _
    ·rw [tH j (by lia)];exact ju (d_ i (by lia) i2 _ rfl).2 (Rj j (by lia) h3)
   ·rw [tH i (by lia),tH j (by lia)];exact s2 i j (by lia) h2 h3
  ·intro m Sa;exact xW.1 m (by omega)
 by_cases c3:na-k<=jd
 ·refine eB c3 ?_;exact wpS_bind (TX rfl b1.kind hx hy ox oy (by lia) (by lia) hf hl fun r aT hm hO=>nH r aT hm hO)
 ·refine eA c3 ?_;exact wpS_bind (TV rfl b1.kind hx hy ox oy (by lia) (by lia) hf hl fun r aT hm hO=>nH r aT hm hO)
end
section
variable [SK]
def Dec (xs:Array Keyed) (a b:Nat):Prop:=∀i j,a<=i->i<=j->j<b->Kk xs j<=Kk xs i
structure Go (a₀:Array Keyed) (lo:Nat) (st ae:SortSt):Prop where
 base:Bs a₀ ae
 pend:pendingOf ae=pendingOf st
 low:∀m,m<lo->Kk (arrOf ae) m=Kk (arrOf st) m
theorem Go.refl {a₀:Array Keyed} {lo:Nat} {st:SortSt} (h:Bs a₀ st):Go a₀ lo st st:=⟨h,rfl,fun _ _=>rfl⟩
theorem Go.put {a₀:Array Keyed} {lo:Nat} {st ae:SortSt} (h:Go a₀ lo st ae) {xs:Array Keyed} (hp:xs.Perm (arrOf ae)) (hl:∀m,m<lo->Kk xs m=Kk (arrOf ae) m):
 Go a₀ lo st (setArr ae xs):=⟨⟨hp.trans h.base.perm,h.base.kind,h.base.fail⟩,h.pend,fun m hm=>(hl m hm).trans (h.low m hm)⟩
theorem eW.snoc (h:eW xs a b) (hl:a<b->Kk xs (b-1)<=Kk xs b):eW xs a (b+1):=by
 intro i j h1 h2 h3
 by_cases hj:j<b
 ·exact h i j h1 h2 hj
 obtain rfl:j=b:=by lia
 by_cases hi:i=j
 ·rw [hi];exact Int.le_refl _
 ·exact ju (h i (j-1) h1 (by lia) (by lia)) (hl (by lia))
theorem Dec.snoc (h:Dec xs a b) (hl:a<b->Kk xs b<=Kk xs (b-1)):Dec xs a (b+1):=by
 intro i j h1 h2 h3
 by_cases hj:j<b
 ·exact h i j h1 h2 hj
 obtain rfl:j=b:=by lia
 by_cases hi:i=j
 ·rw [hi];exact Int.le_refl _
 ·exact ju (hl (by lia)) (h i (j-1) h1 (by lia) (by lia))
theorem eW.one (xs:Array Keyed) (a:Nat):eW xs a (a+1):=fun i j h1 h2 h3=>by
 obtain rfl:i=j:=by lia
 exact Int.le_refl _
theorem Dec.rev (h:Dec xs a b) (hb:b<=xs.size):eW (mirror xs a b ((b-a) / 2)) a b:=by
 intro i j h1 h2 h3;rw [Dl hb,Dl hb,if_pos ⟨h1,by lia⟩,if_pos ⟨by lia,h3⟩];exact h _ _ (by omega) (by omega) (by omega)
end
section
variable [SK] {prog:Program} {w:World} {A:Around} {E:Value->Shared->Prop} {s:Shared} [gI prog w A E s] {st:SortSt} {a₀:Array Keyed}
theorem Dx (I:Nat->β->SortSt->Prop) (han:a<=n)
 (qH:∀i c st,a<=i->i<n->I i c st->wpS (model prog w) A E s (f i c) (SQ Q (I (i+1))) st)
 (qO:∀c st,I n c st->Q c st) (h:I a c st):wpS (model prog w) A E s (forIn [a:n] c f) Q st:=
 wpS_forRange I (fun i c st hai hi hI=>wpS_mono (qH i c st hai hi hI) fun r ae h'=>by cases r<;>exact h')
  (fun c st h'=>qO c st (by rwa [Nat.max_eq_right han] at h')) h
theorem yA (h0:∀p,p∈a₀.toList->fw p) (hB:Bs a₀ st) (hi:i<a₀.size) (hj:j<a₀.size)
 (h:Q (some (decide (Kk (arrOf st) i<Kk (arrOf st) j))) st):wpS (model prog w) A E s (ltAt' i j) Q st:=by
 have hI:=hB.nums h0;obtain ⟨p,e1,i1,k1⟩:=jH hI (i:=i) (by rw [hB.size];exact hi);obtain ⟨q,e2,i2,k2⟩:=jH hI (i:=j) (by rw [hB.size];exact hj);rw [ltAt'_eq];refine wpS_bind (wpS_get (wpS_bind (iS e1 (wpS_bind (iS e2 (Ac hB.kind i1 i2 ?_))))))
 rwa [k1,k2] at h
theorem WA {lo gE:Nat} {Q:Option Nat->SortSt->Prop} (h0:∀p,p∈a₀.toList->fw p) (hB:Bs a₀ st) (hn:lo+gE<=a₀.size) (h1:1<=gE)
 (h:∀m ae,1<=m->m<=gE->Go a₀ lo st ae->eW (arrOf ae) lo (lo+m)->Q (some m) ae):
 wpS (model prog w) A E s (countRun' lo gE) Q st:=by
 refine wpS_bind (wpS_mono (Dx
  (I:=fun x c ae=>ae=st/\c=(none,x)/\eW (arrOf st) lo (lo+x))
  (Q:=fun c ae=>ae=st/\∃n,c=(none,n)/\1<=n/\n<=gE/\eW (arrOf st) lo (lo+n)/\(n=gE\/Kk (arrOf st) (lo+n)<Kk (arrOf st) (lo+n-1)))
  h1 ?_ ?_ ⟨rfl,rfl,eW.one _ _⟩) ?_)
 ·rintro x c ae uh xw ⟨rfl,rfl,hs⟩;refine wpS_bind (yA h0 hB (by show lo+x<_;lia) (by show lo+x-1<_;omega) ?_)
  by_cases bb:Kk (arrOf ae) (lo+x)<Kk (arrOf ae) (lo+x-1)
  ·rw [jt bb];exact wpS_pure ⟨rfl,x,rfl,uh,by exact bp xw,hs,.inr bb⟩
  ·rw [fY bb];exact wpS_pure ⟨rfl,rfl,hs.snoc fun _=>Int.not_lt.mp bb⟩
 ·rintro c ae ⟨rfl,rfl,hs⟩;exact ⟨rfl,gE,rfl,h1,az _,hs,.inl rfl⟩
 rintro c ae ⟨rfl,n,rfl,n1,n2,hs,hor⟩;refine (fun (H:wpS (model prog w) A E s (ite ((n==gE)=true) _ _) Q ae)=>H) ?_
 by_cases c1:n=gE
 ·rw [if_pos (by simpa using c1)];exact wpS_pure (h n _ n1 n2 (Go.refl hB) hs)
 rw [if_neg (by simpa using c1)];have bb:=hor.resolve_left c1
 extract_lets-underBinder+onlyGivenNames jp
 have nH:∀u aT,Go a₀ lo ae aT->Dec (arrOf aT) lo (lo+(n+1))->wpS (model prog w) A E s (jp u) Q aT:=by
  intro u aT hg hd;refine wpS_bind (wpS_lift (wpAny_rule ⟨rfl,?_⟩));refine wpS_bind (wpS_mono (Dx
   (I:=fun x c cj=>∃jQ,c=(none,x,jQ)/\Go a₀ lo ae cj/\Dec (arrOf cj) lo (lo+x)/\jQ+1<=x/\∀i,lo+x-(jQ+1)<=i->i<lo+x->Kk (arrOf cj) i=Kk (arrOf cj) (lo+x-1))
   (Q:=fun c cj=>∃x jQ,c=(none,x,jQ)/\n+1<=x/\x<=gE/\Go a₀ lo ae cj/\Dec (arrOf cj) lo (lo+x)/\jQ+1<=x/\∀i,lo+x-(jQ+1)<=i->i<lo+x->Kk (arrOf cj) i=Kk (arrOf cj) (lo+x-1))
   (show n+1<=gE by lia) ?_ ?_ ⟨0,rfl,hg,hd,by exact Nat.le.step n1,fun i i1 i2=>by congr 1;lia⟩) ?_)
  ·rintro x c cj x1 x2 ⟨jQ,rfl,hg,hd,hq,he⟩;have hsz:lo+x<=(arrOf cj).size:=by rw [hg.base.size];lia
   refine wpS_bind (yA h0 hg.base (by show lo+x<_;lia) (by show lo+x-1<_;omega) ?_)
   by_cases bb:Kk (arrOf cj) (lo+x)<Kk (arrOf cj) (lo+x-1)
   ·rw [jt bb];dsimp only;rw [if_pos rfl]
    by_cases qK:jQ>0
    ·rw [if_pos qK];have hK:=Ik (i:=lo+x-(jQ+1)) hsz he;refine wpS_bind (wpS_reverse (wpS_pure ⟨0,rfl,hg.put (mirror_perm _ _ _ _) (fun m _=>hK m),?_,by lia,fun i i1 i2=>by congr 1;lia⟩));intro i j i1 i2 i3;show Kk (mirror (arrOf cj) _ _ _) j<=Kk (mirror (arrOf cj) _ _ _) i;rw [hK,hK];exact (hd.snoc fun _=>f_ bb) i j i1 i2 (by omega)
    ·rw [if_neg qK];exact wpS_pure ⟨0,rfl,hg,hd.snoc fun _=>f_ bb,by lia,fun i i1 i2=>by congr 1;lia⟩
   ·rw [fY bb];dsimp only;rw [if_neg (by decide)];refine wpS_bind (yA h0 hg.base (by omega) (by lia) ?_)
    by_cases Sg:Kk (arrOf cj) (lo+x-1)<Kk (arrOf cj) (lo+x)
    ·rw [jt Sg];exact wpS_pure ⟨x,jQ,rfl,by omega,by exact bp x2,hg,hd,hq,he⟩
    ·rw [fY Sg];have heq:Kk (arrOf cj) (lo+x)=Kk (arrOf cj) (lo+x-1):=by lia
     refine wpS_pure ⟨jQ+1,rfl,hg,hd.snoc fun _=>by lia,by lia,fun i i1 i2=>?_⟩;rw [show lo+(x+1)-1=lo+x by exact Eq.refl (lo+(x+1)-1)]
     by_cases hi:i=lo+x
     ·rw [hi]
     ·rw [heq];exact he i (by lia) (by lia)
  ·rintro c cj ⟨jQ,rfl,hg,hd,hq,he⟩;exact ⟨gE,jQ,rfl,by lia,az _,hg,hd,hq,he⟩
  rintro c cj ⟨x,jQ,rfl,x1,x2,hg,hd,hq,he⟩;have hsz:lo+x<=(arrOf cj).size:=by rw [hg.base.size];lia
  refine (fun (H:wpS (model prog w) A E s _ Q cj)=>H) ?_
  extract_lets-underBinder+onlyGivenNames r0 s0 xx nn
  dsimp-zeta only [r0]
  extract_lets-underBinder+onlyGivenNames xu
  have iX:∀u cy,Go a₀ lo ae cy->Dec (arrOf cy) lo (lo+x)->wpS (model prog w) A E s (xu u) Q cy:=by
   intro u cy hg hd;have hsz:lo+x<=(arrOf cy).size:=by rw [hg.base.size];lia
   refine wpS_bind (wpS_reverse ?_);have Fl:Go a₀ lo ae (setArr cy (mirror (arrOf cy) lo (lo+x) ((lo+x-lo) / 2))):=
    hg.put (mirror_perm _ _ _ _) (fun m hm=>by rw [Dl hsz,if_neg (by lia)])
   have Kq:eW (arrOf (setArr cy (mirror (arrOf cy) lo (lo+x) ((lo+x-lo) / 2)))) lo (lo+x):=hd.rev hsz;refine (fun (H:∀kX,Go a₀ lo ae kX->eW (arrOf kX) lo (lo+x)->wpS (model prog w) A E s _ Q kX)=>H _ Fl Kq) ?_;intro kX Fl Kq;refine wpS_bind (wpS_mono (Dx
    (I:=fun y c ve=>ve=kX/\c=(none,y)/\eW (arrOf kX) lo (lo+y))
    (Q:=fun c ve=>ve=kX/\∃y,c=(none,y)/\1<=y/\y<=gE/\eW (arrOf kX) lo (lo+y)) x2 ?_ ?_ ⟨rfl,rfl,Kq⟩) ?_)
   ·rintro y c ve y1 y2 ⟨rfl,rfl,hs⟩;refine wpS_bind (yA h0 Fl.base (by show lo+y<_;lia) (by show lo+y-1<_;omega) ?_)
    by_cases bb:Kk (arrOf ve) (lo+y)<Kk (arrOf ve) (lo+y-1)
    ·rw [jt bb];exact wpS_pure ⟨rfl,y,rfl,by lia,by exact bp y2,hs⟩
    ·rw [fY bb];exact wpS_pure ⟨rfl,rfl,hs.snoc fun _=>Int.not_lt.mp bb⟩
   ·rintro c ve ⟨rfl,rfl,hs⟩;exact ⟨rfl,gE,rfl,h1,az _,hs⟩
   ·rintro c ve ⟨rfl,y,rfl,y1,y2,hs⟩;exact wpS_pure (h y _ y1 y2 Fl hs)
  by_cases qK:jQ>0
  ·refine eB (c:=jQ>0) qK ?_;have hK:=Ik (i:=lo+x-(jQ+1)) hsz he;refine wpS_bind (wpS_reverse (iX () _ (hg.put (mirror_perm _ _ _ _) (fun m _=>hK m)) ?_));intro i j i1 i2 i3;show Kk (mirror (arrOf cj) _ _ _) j<=Kk (mirror (arrOf cj) _ _ _) i;rw [hK,hK];exact hd i j i1 i2 i3
  ·refine eA (c:=jQ>0) qK ?_;exact iX () _ hg hd
 have hsz:lo+n<=(arrOf ae).size:=by rw [hB.size];lia
 by_cases c2:n>1
 ·refine eB (c:=n>1) c2 ?_;refine wpS_bind (yA h0 hB (by lia) (by show lo+n-1<_;omega) ?_)
  by_cases hr:Kk (arrOf ae) lo<Kk (arrOf ae) (lo+n-1)
  ·rw [jt hr];exact wpS_pure (h n _ n1 n2 (Go.refl hB) hs)
  ·rw [fY hr];have bL:∀k,lo<=k->k<lo+n->Kk (arrOf ae) k=Kk (arrOf ae) (lo+n-1):=fun k k1 k2=>by
    have a1:=hs lo k (az _) k1 k2;have a2:=hs k (lo+n-1) k1 (by lia) (by omega);lia
   have hK:=Ik hsz bL;refine wpS_bind (wpS_reverse (nH () _ ((Go.refl hB).put (mirror_perm _ _ _ _) (fun m _=>hK m)) ?_));have hd:Dec (arrOf ae) lo (lo+n):=fun i j i1 i2 i3=>by rw [bL i i1 (by lia),bL j (by lia) i3];exact Int.le_refl _
   intro i j i1 i2 i3;show Kk (mirror (arrOf ae) _ _ _) j<=Kk (mirror (arrOf ae) _ _ _) i;rw [hK,hK];exact (hd.snoc fun _=>f_ bb) i j i1 i2 (by omega)
 ·refine eA (c:=n>1) c2 ?_;obtain rfl:n=1:=by lia
  have hd:Dec (arrOf ae) lo (lo+1):=fun i j i1 i2 i3=>by
   obtain rfl:i=j:=by lia
   exact Int.le_refl _
  exact nH () _ (Go.refl hB) (hd.snoc fun _=>f_ bb)
end
section
variable [SK] {prog:Program} {w:World} {A:Around} {E:Value->Shared->Prop} {s:Shared} [gI prog w A E s] {st:SortSt} {a₀:Array Keyed}
theorem V3 {lo n ok:Nat} (h0:∀p,p∈a₀.toList->fw p) (hB:Bs a₀ st) (hn:lo+n<=a₀.size) (h1:1<=ok) (af:ok<=n)
 (hs:eW (arrOf st) lo (lo+ok)) (h:∀ae,Go a₀ lo st ae->eW (arrOf ae) lo (lo+n)->Q true ae):
 wpS (model prog w) A E s (binarySort' lo n ok) Q st:=by
 refine wpS_bind (wpS_mono (Dx
  (I:=fun k c ae=>c=(none,())/\Go a₀ lo st ae/\eW (arrOf ae) lo (lo+k))
  (Q:=fun c ae=>c=(none,())/\Go a₀ lo st ae/\eW (arrOf ae) lo (lo+n)) (show max ok 1<=n by lia) ?_ ?_
  ⟨rfl,Go.refl hB,by rw [Nat.max_eq_left h1];exact hs⟩) ?_)
 ·rintro k c ae k1 k2 ⟨rfl,hg,vv⟩;have hsz:lo+k<(arrOf ae).size:=by rw [hg.base.size];lia
  refine wpS_bind (wpS_mono (rR
   (I:=fun x c aT=>aT=ae/\∃l r,c=(none,l,r)/\l<=r/\r<=k/\r-l<=k-x/\(∀i,i<l->Kk (arrOf ae) (lo+i)<=Kk (arrOf ae) (lo+k))/\
    ∀i,r<=i->i<k->Kk (arrOf ae) (lo+k)<=Kk (arrOf ae) (lo+i))
   (Q:=fun c aT=>aT=ae/\∃l,c=(none,l,l)/\l<=k/\(∀i,i<l->Kk (arrOf ae) (lo+i)<=Kk (arrOf ae) (lo+k))/\
    ∀i,l<=i->i<k->Kk (arrOf ae) (lo+k)<=Kk (arrOf ae) (lo+i)) ?_ ?_ ⟨rfl,0,k,rfl,by lia,by exact Nat.le.refl,by exact Nat.le.refl,fun i hi=>by exact False.elim (so i hi),fun i i1 i2=>by lia⟩) ?_)
  ·rintro x c aT hx ⟨rfl,l,r,rfl,a1,a2,a3,a4,a5⟩;dsimp only
   by_cases kH:l>=r
   ·rw [if_pos kH];obtain rfl:l=r:=by lia
    exact wpS_pure ⟨rfl,l,rfl,a2,a4,a5⟩
   rw [if_neg kH];generalize hm:(l+r) / 2=m;refine wpS_bind (yA h0 hg.base (i:=lo+k) (j:=lo+m) (by lia) (by lia) ?_)
   by_cases bb:Kk (arrOf aT) (lo+k)<Kk (arrOf aT) (lo+m)
   ·rw [jt bb];refine wpS_pure ⟨rfl,l,m,rfl,by lia,by lia,by omega,a4,fun i i1 i2=>?_⟩;exact ju (f_ bb) (vv _ _ (by lia) (by lia) (by lia))
   ·rw [fY bb];refine wpS_pure ⟨rfl,m+1,r,rfl,by lia,by omega,by omega,fun i i1=>?_,a5⟩;exact ju (vv _ (lo+m) (by lia) (by lia) (by lia)) (Int.not_lt.mp bb)
  ·rintro c aT ⟨rfl,l,r,rfl,a1,a2,a3,a4,a5⟩;obtain rfl:l=r:=by lia
   exact ⟨rfl,l,rfl,a2,a4,a5⟩
  ·rintro c aT ⟨rfl,l,rfl,a2,a4,a5⟩;refine (fun (H:wpS (model prog w) A E s (do moveDown' (lo+k) (lo+l);pure (ForInStep.yield (none,()))) _ aT)=>H) ?_;rw [moveDown'_eq];have zD:=fun m=>V4 (d:=lo+k-(lo+l)) hsz (by omega) m;refine wpS_bind (wpS_modify (wpS_pure ⟨rfl,hg.put (bubble_perm _ _ _) (fun m hm=>?_),?_⟩))
   ·rw [zD,if_neg (by omega),if_neg (by omega)]
   ·intro i j i1 i2 i3;show Kk (bubble (arrOf aT) (lo+k) (lo+k-(lo+l))) i<=Kk (bubble (arrOf aT) (lo+k) (lo+k-(lo+l))) j;have low:∀m,lo<=m->m<lo+l->Kk (arrOf aT) m<=Kk (arrOf aT) (lo+k):=fun m m1 m2=>by
     have:=a4 (m-lo) (by lia);rwa [show lo+(m-lo)=m by lia] at this
    have high:∀m,lo+l<=m->m<lo+k->Kk (arrOf aT) (lo+k)<=Kk (arrOf aT) m:=fun m m1 m2=>by
     have:=a5 (m-lo) (by lia) (by lia);rwa [show lo+(m-lo)=m by lia] at this
    rw [zD,zD]
    repeat' split
    all_goals first
     | (exfalso;omega)
     | exact Int.le_refl _
     | exact low _ (by omega) (by omega)
     | exact high _ (by omega) (by lia)
     | exact vv _ _ (by omega) (by lia) (by lia)
 ·rintro c ae ⟨hc,hg,vv⟩;exact ⟨hc,hg,vv⟩
 ·rintro c ae ⟨rfl,hg,vv⟩;exact wpS_pure (h ae hg vv)
end
def Run [SK] (xs:Array Keyed):Nat->List (Nat×Nat×Nat)->Nat->Prop
 | s,[],e=>s=e
 | s,r::t,e=>r.1=s/\1<=r.2.1/\eW xs s (s+r.2.1)/\Run xs (s+r.2.1) t e
section run
variable [SK] {X Y:Array Keyed}
theorem Run.le:∀{rs s e},Run X s rs e->s+rs.length<=e
 | [],s,e,h=>by unfold Run at h;simp;lia
 | r::t,s,e,⟨_,h1,_,h2⟩=>by have:=h2.le;simp only [kI];lia
theorem Run.congr:∀{rs s e},Run X s rs e->(∀m,s<=m->m<e->Kk Y m=Kk X m)->Run Y s rs e
 | [],_,_,h,_=>h
 | r::t,s,e,⟨h0,h1,h2,h3⟩,hk=>by
  have:=h3.le;refine ⟨h0,h1,fun i j a1 a2 a3=>?_,h3.congr fun m m1 m2=>hk m (by lia) m2⟩;rw [hk i a1 (by lia),hk j (by lia) (by lia)];exact h2 i j a1 a2 a3
theorem Run.app:∀{l r s e},Run X s (l++r) e↔∃m,Run X s l m/\Run X m r e
 | [],r,s,e=>⟨fun h=>⟨s,rfl,h⟩,fun ⟨m,h1,h2⟩=>by unfold Run at h1;subst h1;exact h2⟩
 | a::l,r,s,e=>⟨fun ⟨h0,h1,h2,h3⟩=>by
  obtain ⟨m,a1,a2⟩:=Run.app.mp h3;exact ⟨m,⟨h0,h1,h2,a1⟩,a2⟩,fun ⟨m,⟨h0,h1,h2,h3⟩,h4⟩=>⟨h0,h1,h2,Run.app.mpr ⟨m,h3,h4⟩⟩⟩
theorem Run.same:∀{rs dS s e},Run X s rs e->rs.map (fun r=>(r.1,r.2.1))=dS.map (fun r=>(r.1,r.2.1))->Run X s dS e
 | [],[],_,_,h,_=>h
 | a::t,b::t',s,e,⟨h0,h1,h2,h3⟩,hm=>by
  simp only [eU,List.cons.injEq,Prod.mk.injEq] at hm;obtain ⟨⟨e1,e2⟩,e3⟩:=hm;refine ⟨e1▸h0,e2▸h1,e2▸h2,?_⟩;rw [<-e2];exact h3.same e3
 | [],_::_,_,_,_,hm=>by simp at hm
 | _::_,[],_,_,_,hm=>by simp at hm
end run
theorem Qm {α β:Type} {f:α->α} {g:α->β} (h:∀x,g (f x)=g x):∀(l:List α) (i:Nat),(l.modify i f).map g=l.map g
 | [],i=>by simp
 | a::t,0=>by simp [h]
 | a::t,i+1=>by simp [Qm h t i]
section
variable [SK] {prog:Program} {w:World} {A:Around} {E:Value->Shared->Prop} {s:Shared} [gI prog w A E s] {st:SortSt} {a₀:Array Keyed}
structure Pd (a₀:Array Keyed) (lo:Nat) (rs:List (Nat×Nat×Nat)) (st:SortSt):Prop where
 base:Bs a₀ st
 pend:pendingOf st=rs.toArray
 run:Run (arrOf st) 0 rs lo
 top:lo<=a₀.size
theorem NS {lo i:Nat} (h0:∀p,p∈a₀.toList->fw p) (hP:Pd a₀ lo rs st) (hi:i+1<rs.length)
 (h:∀dS ae,Pd a₀ lo dS ae->dS.length+1=rs.length->(∀m,lo<=m->Kk (arrOf ae) m=Kk (arrOf st) m)->Q true ae):
 wpS (model prog w) A E s (mergeAt' i) Q st:=by
 obtain ⟨L,r1,r2,T,e,hL⟩:∃L r1 r2 T,rs=L++r1::r2::T/\i=L.length:=by
  refine ⟨rs.take i,rs[i],rs[i+1],rs.drop (i+2),?_,by simp;lia⟩;rw [<-List.drop_eq_getElem_cons,<-List.drop_eq_getElem_cons,List.take_append_drop]
 obtain ⟨sa,na,p⟩:=r1;obtain ⟨sb,nb,p'⟩:=r2;have hr:=hP.run;rw [e] at hr;obtain ⟨m,hl,rfl,b1,b2,rfl,c1,c2,ht⟩:=Run.app.mp hr;dsimp only at b1 b2 c1 c2 ht;have t1:=ht.le;have t2:=hP.top;refine UP h0 hP.base (e▸hP.pend) hL rfl b1 c1 (by lia) b2 c2 fun ae d1 d2 d3 d4=>?_;refine h _ ae ⟨d1,d2,Run.app.mpr ⟨sa,hl.congr fun m _ m2=>d4 m (.inl m2),rfl,by show 1<=na+nb;lia,?_,?_⟩,t2⟩ (by rw [e];simp;exact Eq.refl (L.length+(T.length+1)+1))
  (fun m m1=>d4 m (.inr (by lia)))
 ·show eW _ sa (sa+(na+nb));rw [<-Nat.add_assoc];exact d3
 ·show Run _ (sa+(na+nb)) T lo;rw [<-Nat.add_assoc];exact ht.congr fun m m1 _=>d4 m (.inr m1)
theorem Vt {Q:Unit->SortSt->Prop} (h0:∀p,p∈a₀.toList->fw p) (hB:Bs a₀ st) (hp:pendingOf st= #[]) (h2:2<=a₀.size)
 (h:∀ae,(arrOf ae).Perm a₀->failedOf ae=none->eW (arrOf ae) 0 a₀.size->Q () ae):wpS (model prog w) A E s sortRuns' Q st:=by
 refine wpS_bind (wpS_get ?_);have Bu:=hB.size;refine wpS_bind (wpS_mono (rR
  (I:=fun x c ae=>∃lo rs,c=(none,lo)/\Pd a₀ lo rs ae/\(x<=lo\/lo=a₀.size))
  (Q:=fun c ae=>∃rs,c=(none,a₀.size)/\Pd a₀ a₀.size rs ae) ?big ?yi ⟨0,[],rfl,⟨hB,hp,rfl,d9 _⟩,.inl (az _)⟩) ?after)
 case yi=>
  rintro c ae ⟨lo,rs,rfl,hP,hx⟩;have:=hP.top
  change (arrOf st).size<=lo\/lo=a₀.size at hx
  obtain rfl:lo=a₀.size:=by lia
  exact ⟨rs,rfl,hP⟩
 case big=>
  rintro x c ae hx ⟨lo,rs,rfl,hP,Kb⟩;refine (fun (H:wpS (model prog w) A E s (ite (lo>=(arrOf st).size) _ _) _ ae)=>H) ?_
  by_cases c1:lo>=(arrOf st).size
  ·rw [if_pos c1];have:=hP.top;obtain rfl:lo=a₀.size:=by lia
   exact wpS_pure ⟨rs,rfl,hP⟩
  rw [if_neg c1];refine wpS_bind (WA h0 hP.base (by show lo+((arrOf st).size-lo)<=_;lia) (by show 1<=(arrOf st).size-lo;lia) fun m aT m1 m2 hg hs=>?_)
  change m<=(arrOf st).size-lo at m2
  change Go a₀ lo ae aT at hg
  change eW (arrOf aT) lo (lo+m) at hs
  have Fu:Pd a₀ lo rs aT:=⟨hg.base,hg.pend.trans hP.pend,hP.run.congr fun m _ m2=>hg.low m m2,hP.top⟩;refine (fun (H:wpS (model prog w) A E s _ _ aT)=>H) ?_;dsimp-zeta only
  extract_lets-underBinder+onlyGivenNames n0 jp
  have nH:∀(u:Unit) n cj,1<=n->lo+n<=a₀.size->Pd a₀ lo rs cj->eW (arrOf cj) lo (lo+n)->
   wpS (model prog w) A E s (jp u n) (SQ (fun c ae=>∃rs,c=(none,a₀.size)/\Pd a₀ a₀.size rs ae)
    (fun c ae=>∃lo rs,c=(none,lo)/\Pd a₀ lo rs ae/\(x+1<=lo\/lo=a₀.size))) cj:=by
   intro u n cj n1 n2 Sy lr;refine wpS_bind (wpS_get ?_)
   extract_lets-underBinder+onlyGivenNames xu
   have iX:∀(u:Unit) cy dS,Pd a₀ lo dS cy->eW (arrOf cy) lo (lo+n)->
    wpS (model prog w) A E s (xu u) (SQ (fun c ae=>∃rs,c=(none,a₀.size)/\Pd a₀ a₀.size rs ae)
     (fun c ae=>∃lo rs,c=(none,lo)/\Pd a₀ lo rs ae/\(x+1<=lo\/lo=a₀.size))) cy:=by
    intro u cy dS gN rY;refine wpS_bind (wpS_modify (wpS_pure ⟨lo+n,dS++[(lo,n,0)],rfl,⟨⟨gN.base.perm,gN.base.kind,gN.base.fail⟩,?_,?_,n2⟩,by lia⟩))
    ·show (pendingOf cy).push (lo,n,0)=_;rw [gN.pend];simp
    ·exact Run.app.mpr ⟨lo,gN.run,rfl,n1,rY,rfl⟩
   cases hb:(pendingOf cj).back? with
   | none=>
    exact iX () cj rs Sy lr
   | some r=>
    obtain ⟨s1,l1,p1⟩:=r;refine wpS_bind (wpS_mono (rR
     (I:=fun x c cy=>c=(none,())/\∃dS,Pd a₀ lo dS cy/\eW (arrOf cy) lo (lo+n))
     (Q:=fun c cy=>c=(none,())/\∃dS,Pd a₀ lo dS cy/\eW (arrOf cy) lo (lo+n)) ?_ (fun c cy hh=>hh) ⟨rfl,rs,Sy,lr⟩) ?_)
    ·rintro x' c cy _ ⟨rfl,dS,gN,rY⟩;refine wpS_bind (wpS_get ?_);have hsz:(pendingOf cy).size=dS.length:=by rw [gN.pend];simp
     dsimp only
     by_cases c2:(pendingOf cy).size>1
     ·rw [if_pos c2]
      cases hq:(pendingOf cy)[(pendingOf cy).size-2]? with
      | none=>exact wpS_pure ⟨rfl,dS,gN,rY⟩
      | some r=>
       obtain ⟨x1,x2,Rq⟩:=r;dsimp only;split
       ·exact wpS_pure ⟨rfl,dS,gN,rY⟩
       ·refine wpS_bind (NS h0 gN (by show (pendingOf cy).size-2+1<_;lia) fun JA kX Lu _ hk=>?_);refine wpS_pure ⟨rfl,JA,Lu,fun i j i1 i2 i3=>?_⟩;rw [hk i i1,hk j (by lia)];exact rY i j i1 i2 i3
     ·rw [if_neg c2];exact wpS_pure ⟨rfl,dS,gN,rY⟩
    ·rintro c cy ⟨rfl,dS,gN,rY⟩;refine wpS_bind (wpS_modify (iX () _ (dS.modify (dS.length-1) fun r=>(r.1,r.2.1,power' (arrOf st).size (2*s1+l1) (2*s1+l1+l1+n) (arrOf st).size)) ⟨⟨gN.base.perm,gN.base.kind,gN.base.fail⟩,?_,?_,gN.top⟩ rY))
     ·refine (fun (H:(pendingOf cy).modify ((pendingOf cy).size-1) (fun r=>(r.1,r.2.1,power' (arrOf st).size (2*s1+l1) (2*s1+l1+l1+n) (arrOf st).size))=_)=>H) ?_;rw [gN.pend];apply Array.toList_inj.mp;simp
     ·exact gN.run.same (Qm (f:=fun r=>(r.1,r.2.1,power' (arrOf st).size (2*s1+l1) (2*s1+l1+l1+n) (arrOf st).size)) (fun _=>rfl) _ _).symm
  by_cases c2:m<minRun' (arrOf st).size (arrOf st).size 0
  ·refine eB (c:=m<minRun' (arrOf st).size (arrOf st).size 0) c2 ?_;refine wpS_bind (wpS_lift (wpAny_rule ⟨rfl,?_⟩));refine wpS_bind (V3 h0 hg.base (n:=min ((arrOf st).size-lo) (minRun' (arrOf st).size (arrOf st).size 0)) (by lia) m1 (by omega) hs fun cj K' lr=>?_);exact nH () (min ((arrOf st).size-lo) (minRun' (arrOf st).size (arrOf st).size 0)) cj (by omega) (by lia) ⟨K'.base,K'.pend.trans Fu.pend,Fu.run.congr fun m _ m2=>K'.low m m2,Fu.top⟩ lr
  ·refine eA (c:=m<minRun' (arrOf st).size (arrOf st).size 0) c2 ?_;exact nH () m aT m1 (by lia) Fu hs
 case after=>
  rintro c ae ⟨rs,rfl,hP⟩;refine (fun (H:wpS (model prog w) A E s _ Q ae)=>H) ?_;dsimp only;have hlen:=hP.run.le;refine wpS_bind (wpS_mono (rR
   (I:=fun x c cy=>c=(none,())/\∃dS,Pd a₀ a₀.size dS cy/\(dS.length+x<=a₀.size\/dS.length<=1))
   (Q:=fun c cy=>c=(none,())/\∃dS,Pd a₀ a₀.size dS cy/\dS.length<=1) ?_ ?_ ⟨rfl,rs,hP,.inl (by lia)⟩) ?_)
  ·rintro x' c cy _ ⟨rfl,dS,gN,BA⟩;refine wpS_bind (wpS_get ?_);have hsz:(pendingOf cy).size=dS.length:=by rw [gN.pend];simp
   by_cases c2:(pendingOf cy).size<=1
   ·rw [if_pos c2];exact wpS_pure ⟨rfl,dS,gN,by lia⟩
   rw [if_neg c2];refine wpS_bind (NS h0 gN ?_ fun JA kX Lu B9 _=>wpS_pure ⟨rfl,JA,Lu,by lia⟩);have key:∀j,j<=(pendingOf cy).size-2->j+1<dS.length:=by lia
   refine key _ ?_
   repeat' split
   all_goals first
    | exact az _
    | exact Nat.sub_le _ _
  ·rintro c cy ⟨rfl,dS,gN,BA⟩
   change dS.length+(arrOf st).size<=a₀.size\/dS.length<=1 at BA
   exact ⟨rfl,dS,gN,by lia⟩
  ·rintro c cy ⟨rfl,dS,gN,BA⟩;refine wpS_pure (h cy gN.base.perm gN.base.fail ?_);have hr:=gN.run
   match dS,BA,hr with
   | [],_,hr=>unfold Run at hr;lia
   | [r],_,⟨_,_,e1,e2⟩=>
    unfold Run at e2;intro i j i0 i1 i2;exact e1 i j i0 i1 (by lia)
end
section
variable {prog:Program} {w:World} {k:Type} [DecidableEq k] {knd:KeyKind prog w k} {A:Around} {E:Value->Shared->Prop} {s:Shared}
theorem XO (hh:A.handled=none) (hd:(d==sysModules)=false) (hm:s.heap.DictAt knd d kvs ep) (hn:kvs.length<=sizeLine)
 (hQ:∀s' acc,(∀b o,s.heap.get? b=some o->s'.heap.get? b=some o)->s'.gens=s.gens->s'.drawn=s.drawn->s'.os=s.os->s.toks<=s'.toks->
  ItemsOf (fun i v=>∃key x,kvs[i]?=some (key,x)/\knd.is key v=true) acc kvs.length->Q acc.toList s'):wpAny (model prog w) A (collect (.ref d)) Q E s:=by
 let L:Obj:={ cls:=.type "list",data:=.seq ([]:List Value).toArray }
 have BK:=hm.lt_size;have Ls:s.heap.objs.size≠d:=Nat.ne_of_gt BK;unfold collect;refine ag (wpAny_runValue (codeAny_builtin F.entry_proto_collect ?_));rw [Around.under_plainId F.plain_proto_collect _];refine (show wpAny _ A.in1 (newList []>>=fun l=>again (.builtin "list.__iadd__" ⟨[l,.ref d],[]⟩)) _ _ s from ag (wpAny_newObj_type (aV ⟨plainId_quiet F.plain_list_iadd _,codeAny_builtin F.entry_list_iadd ?_⟩)));rw [Around.under_plainId F.plain_list_iadd _];have Fg:(s.heap.push L).DictAt knd d kvs ep:=hm.push _;have hT:({ s with heap:=s.heap.push L }:Shared).TypeIs (.ref d) "dict":=Fg.dictOf.typeIs (s:={ s with heap:=s.heap.push L });have hS:(s.heap.push L).get? s.heap.objs.size=some L:=ki _ rfl;refine (show wpAny _ A.in1 (Builtin.List.listExtendWith (.ref s.heap.objs.size) (.ref d) (.ref s.heap.objs.size)) _ _ { s with heap:=s.heap.push L } from ?_);unfold Builtin.List.listExtendWith;refine ag (wpAny_typeOf hT ?_);rw [if_neg (by rw [show Builtin.List.listSameRef (.ref s.heap.objs.size) (.ref d)=false by simp [Builtin.List.listSameRef,Ls]];decide)];refine ag (wpAny_pyIter_dict hd Fg (ag (wpAny_holding ?_)));unfold Builtin.List.listLengthHint
 let I:Addr:=(s.heap.push L).objs.size
 let h2:Heap:=(s.heap.push L).push { cls:=.type "dict_keyiterator",data:=.fields #[.ref d,.int 0 0,.int kvs.length 0,.int ep 0] }
 have xM:h2.DictAt knd d kvs ep:=Fg.push _;have Lr:({ s with heap:=h2 }:Shared).TypeIs (.ref d) "dict":=xM.dictOf.typeIs (s:={ s with heap:=h2 });refine ag (wpAny_specialOf (name:=Str.ofString "__len__") Lr F.slot_dict_len.lookup ?_);generalize KU:("dict.__len__":String)=RL
 (fail_if_success (clear KU RL))
 wp_delta
 rw [show splitId RL=some ("dict","__len__") from by subst KU;decide+kernel];subst KU;refine ag (wpAny_isInstance (b:=true) Lr (by rw [isSubtype_type];kernel_rfl) ?_);rw [if_neg (by decide)];refine (fun (H:wpAny (model prog w) A.in1 (ite _ _ _) _ _ _)=>H) ?_;rw [if_pos (by decide+kernel)];refine ag (wpAny_typeOf Lr (aV ?_));rw [if_pos (by decide+kernel)]
 let S:Addr:=s.heap.objs.size
 have Sv:S≠I:=gY (show s.heap.objs.size<(s.heap.push L).objs.size by rw [size_push'];exact Nat.lt_succ_self _);have hdI:d≠I:=gY (show d<(s.heap.push L).objs.size by rw [size_push'];exact Nat.lt_succ_of_lt BK);have Sx:h2.get? S=some L:=cX _ hS;have Sw:=Heap.get?_update_self (Obj.mapSeq (·.push Value.none)) Sx rfl;have hS4:=Heap.get?_update_self (Obj.mapSeq (·.pop)) Sw rfl;have JG:∀b o,b≠S->h2.get? b=some o->((h2.update S (Obj.mapSeq (·.push Value.none))).update S (Obj.mapSeq (·.pop))).get? b=some o:=
  fun b o hb e=>(Heap.get?_update_other _ _ (aD hb)).trans ((Heap.get?_update_other _ _ (aD hb)).trans e)
 have W:=(Walks.dictKeys (knd:=knd) (prog:=prog) (w:=w) (A:=A.in1) hh I d hdI kvs ep).toS;have KS:h2.IsKeyIter I d 0 kvs.length ep:=⟨_,ki _ rfl,rfl,rfl⟩;refine ag (wpAny_rule (ag (show wpAny _ A.in1 (updateSeq S (·.push .none)>>=fun _=>updateSeq S (·.pop)) _ _ { s with heap:=h2 } from ag (wpAny_updateSeq (s:={ s with heap:=h2 }) Sx rfl (wpAny_updateSeq (s:={ s with heap:=h2.update S (Obj.mapSeq (·.push Value.none)) }) Sw rfl ?_)))));refine aV ⟨plainId_quiet F.plain_extend_loop _,codeAny_extend_loopS W hn S (fun z=>(eV.mp z).elim Sv fun z=>Ls (iK.mp z)) _ kvs.length 0 _ _ _ rfl (d9 _)
  ⟨KS.at fun o e=>JG _ _ (aD Sv) e,xM.at' fun o e=>JG _ _ (aD Ls) e⟩ hS4 (ItemsOf.nil _) fun s' acc c B5 hS' Lq=>?_⟩
 refine (show wpAny _ A (load S>>=_) _ _ s' from ag (wpAny_load hS' (aV (hQ s' acc (fun b o e=>?_) B5.gens B5.drawn B5.os B5.toks Lq))));have hb:b<s.heap.objs.size:=dt e;refine B5.heap b o (fun z=>?_) (JG b o (gY hb) (cX _ (cX _ e)));rcases eV.mp z with z | z
 ·exact gY hb z
 ·have z:=iK.mp z;have e2:I=s.heap.objs.size+1:=size_push' _ _;exact jC _ (jb hb (by rw [z,e2];exact nS _))
end
theorem ON (vs:List Value):(vs.toArray.zip vs.toArray).toList=vs.map fun v=>(v,v):=by
 rw [Array.toList_zip];show vs.zip vs=_
 induction vs with
 | nil=>rfl
 | cons v r ih=>simp [ih]
section
variable [SK] {prog:Program} {w:World} {A:Around} {E:Value->Shared->Prop} {s:Shared}
theorem Tu (hp:X.Perm (vs.toArray.zip vs.toArray)) (hs:eW X 0 (vs.toArray.zip vs.toArray).size):
 (X.map (·.2)).toList.Perm vs/\(X.map (·.2)).toList.Pairwise fun u v=>N (u,u)<=N (v,v):=by
 have fh:=Array.perm_iff_toList_perm.mp hp;rw [ON] at fh;have hsz:X.size=(vs.toArray.zip vs.toArray).size:=hp.size_eq;have vB:∀p∈X.toList,p=(p.2,p.2):=fun p hm=>by
  obtain ⟨v,_,rfl⟩:=eD.mp (fh.mem_iff.mp hm);rfl
 rw [Array.toList_map];refine ⟨by simpa [List.map_map,Function.comp_def] using fh.map (·.2),?_⟩;rw [List.pairwise_map,Ck];intro i j hi hj fi;have kG:i<X.size:=by simpa using hi
 have jX:j<X.size:=by simpa using hj
 have:=hs i j (d9 _) (bp fi) (hsz▸jX);rw [sS (getElem?_pos X i kG),sS (getElem?_pos X j jX)] at this;rw [<-vB _ (zK hi),<-vB _ (zK hj)];exact this
theorem XZ {P:PySem.Fin->Shared->Prop} (ho:s.heap.get? a=some (seqObj "list" vs.toArray n)) (hz:vs.length<=sizeLine)
 (l7:2<=vs.length->∀(h':Heap) (Q:SortKind->Shared->Prop),(∀b o,b≠a->s.heap.get? b=some o->h'.get? b=some o)->Q SK.kind { s with heap:=h' }->
  wpAny (model prog w) A (keyKind' vs.toArray) Q E { s with heap:=h' })
 (bb:∀h':Heap,(∀b o,b≠a->s.heap.get? b=some o->h'.get? b=some o)->gI prog w A E { s with heap:=h' })
 (af:∀v∈vs,fw (v,v))
 (h:∀out:Array Value,out.toList.Perm vs->(out.toList.Pairwise fun u v=>N (u,u)<=N (v,v))->P (.done (.ret .none)) { s with heap:=sortedHeap s.heap a vs out }):
 wpAny (model prog w) A (Builtin.«list.sort» ⟨[.ref a],[]⟩) P E s:=by
 rw [list_sort_plain];have ha:a<s.heap.objs.size:=dt ho;obtain ⟨e1,B2⟩:∃e1,(s.heap.update a (Obj.mapSeq fun _=> #[])).get? a=some (seqObj "list" #[] e1):=⟨_,get?_update_seq ho (fun _=> #[])⟩
 let h3:Heap:=((s.heap.update a (Obj.mapSeq fun _=> #[])).push (seqObj "tuple" vs.toArray 0)).push (seqObj "list" #[] 0)
 have keep:∀b o,b≠a->s.heap.get? b=some o->h3.get? b=some o:=fun b o hb e=>
  cX _ (cX _ ((Heap.get?_update_other _ _ (aD hb)).trans e))
 have Fe:h3.get? a=some (seqObj "list" #[] e1):=cX _ (cX _ B2);have hsz:vs.toArray.size=vs.length:=by simp
 refine ag (listItems_at ho rfl (ag (listUpdate_at ho rfl (ag (seqEpoch_at B2 rfl (ag (wpAny_newTuple (ag (wpAny_newList (wpAny_holding ?_) (d9 _))) hz)))) (by rw [hsz];exact hz) (d9 _))));have fin:∀ae:SortSt,(arrOf ae).Perm (vs.toArray.zip vs.toArray)->failedOf ae=none->eW (arrOf ae) 0 (vs.toArray.zip vs.toArray).size->
  wpAny (model prog w) A (do
   let touched:=(<-seqEpoch a) !=e1
   Builtin.List.listUpdate (.ref a) fun _=>(arrOf ae).map (·.2)
   if let some e:=failedOf ae then rule "list.sort.comparison-raised";throw e
   if touched then rule "list.sort.modified";raiseError "ValueError" "list modified during sort"
   ret .none) P E { s with heap:=h3 }:=by
  intro ae hp hf hs;obtain ⟨o1,o2⟩:=Tu hp hs;refine ag (seqEpoch_at Fe rfl (ag (listUpdate_at Fe rfl ?_ (d9 _) ?_)))
  ·rw [hf];simp only [bne_self_eq_false,Bool.false_eq_true,if_false];exact aV (h _ o1 o2)
  ·have:=o1.length_eq;rw [rh] at this;exact Nat.le_succ_of_le (this▸hz)
 refine (show wpAny (model prog w) A _ P E { s with heap:=h3 } from ?_)
 by_cases h2:vs.toArray.size<2
 ·dsimp only;rw [if_pos h2,if_pos h2];refine ag (aV ?_);rw [StateT.run_pure];refine ag (aV (fin (SortSt.mk' general' (vs.toArray.zip vs.toArray) #[] 7 none) (Array.Perm.refl _) rfl ?_));intro i j _ fi hj;obtain rfl:i=j:=by simp at hj;lia
  exact Int.le_refl _
 ·dsimp only;rw [if_neg h2,if_neg h2];refine ag (l7 (by lia) h3 _ keep ?_);have:=bb h3 keep;refine ag (wpAny_mono (Vt (s:={ s with heap:=h3 }) (a₀:=vs.toArray.zip vs.toArray) (st:=SortSt.mk' SK.kind (vs.toArray.zip vs.toArray) #[] 7 none)
   (Q:=fun _ ae=>(arrOf ae).Perm (vs.toArray.zip vs.toArray)/\failedOf ae=none/\eW (arrOf ae) 0 (vs.toArray.zip vs.toArray).size)
   (fun p hp=>?_) ⟨Array.Perm.refl _,rfl,rfl⟩ rfl (by simp;lia) fun ae a1 a2 a3=>⟨a1,a2,a3⟩) ?_ fun _ _ e=>e)
  ·rw [ON] at hp;obtain ⟨v,hv,rfl⟩:=eD.mp hp;exact af v hv
  ·rintro ⟨⟨⟩,ae⟩ s' ⟨rfl,hp,hf,hs⟩;exact fin ae hp hf hs
end
section
variable {prog:Program} {w:World} {A:Around} {E:Value->Shared->Prop} {s:Shared}
theorem PV {x:Value} {Q:Value->Shared->Prop} {R:Shared->List Value->Prop}
 (hc:wpAny (model prog w) A.in1 (collect x) (fun vs s1=>R s1 vs) E s)
 (h:∀s1 vs,R s1 vs->wpAny (model prog w) A.in1 (newList vs>>=fun l=>holding [l] (call (.builtin "list.sort") [l])>>=fun _=>ret l) (fun fin s'=>∃r,fin=.done (.ret r)/\Q r s') E s1):
 wpAny (model prog w) A (call (.builtin "sorted") [x]) Q E s:=by
 refine Calls.call_function_entry kind_sorted plain_sorted entry_sorted (args_sorted1 _) ?_;unfold Builtin.«sorted»;refine ag (m:=checkCount "sorted" 1 1 _) (aV ?_);refine ag (wpAny_mono hc (fun vs s1 hr=>h s1 vs hr) fun _ _ e=>e)
end
@[reducible] noncomputable def AV:SK:=⟨fun p=>numOf p.1,fun p=>∃n t,p.1=.int n t,oneType'⟩
theorem ltI {w:World}: @gI AV prog w A E s:=by
 refine @gI.mk AV prog w A E s ?_;rintro st p q Q hk ⟨n,t,hp⟩ ⟨n',t',hq⟩ h;have e1: @N AV p=n:=by show numOf p.1=n;rw [hp];rfl
 have e2: @N AV q=n':=by show numOf q.1=n';rw [hq];rfl
 rw [e1,e2] at h;rw [lt'_eq,hp,hq];refine wpS_bind (wpS_get ?_);rw [show kindOf st=oneType' from hk,keyLt'_oneType];exact wpS_bind (wpS_lift (wpAny_attempt (oneLt_int ⟨rfl,wpS_pure h⟩)))
theorem Zo {w:World} (hI:IntsAre vs ns) (h2:2<=vs.length) (h:Q oneType' s):wpAny (model prog w) A (keyKind' vs.toArray) Q E s:=by
 match vs,h2,hI with
 | ZR::ZQ::r,_,hI=>rw [keyKind_ints hI];exact aV h
section
variable [SK] {prog:Program} {w:World} {A:Around} {E:Value->Shared->Prop} {s:Shared}
theorem OB {vs:List Value} {Q:Value->Shared->Prop} (hz:vs.length<=sizeLine)
 (l7:2<=vs.length->∀(A:Around) (E:Value->Shared->Prop) (h':Heap) (Q:SortKind->Shared->Prop),(∀b o,s.heap.get? b=some o->h'.get? b=some o)->Q SK.kind { s with heap:=h' }->
  wpAny (model prog w) A (keyKind' vs.toArray) Q E { s with heap:=h' })
 (bb:∀(A:Around) (E:Value->Shared->Prop) (h':Heap),(∀b o,s.heap.get? b=some o->h'.get? b=some o)->gI prog w A E { s with heap:=h' })
 (af:∀v∈vs,fw (v,v))
 (h:∀(out:Array Value) (h':Heap),out.toList.Perm vs->(out.toList.Pairwise fun u v=>N (u,u)<=N (v,v))->(∀b o,s.heap.get? b=some o->h'.get? b=some o)->
  (∃e,h'.get? s.heap.objs.size=some (seqObj "list" out e))->Q (.ref s.heap.objs.size) { s with heap:=h' }):
 wpAny (model prog w) A (newList vs>>=fun l=>holding [l] (call (.builtin "list.sort") [l])>>=fun _=>ret l) (fun fin s'=>∃r,fin=.done (.ret r)/\Q r s') E s:=by
 let h1:Heap:=s.heap.push (seqObj "list" vs.toArray 0)
 have xJ:h1.get? s.heap.objs.size=some (seqObj "list" vs.toArray 0):=ki _ rfl;have up:∀(h':Heap),(∀b o,b≠s.heap.objs.size->h1.get? b=some o->h'.get? b=some o)->∀b o,s.heap.get? b=some o->h'.get? b=some o:=fun h' hk b o e=>
  hk b o (gY (dt e)) (cX _ e)
 refine ag (wpAny_newList ?_ hz);refine ag (wpAny_holding (wpAny_call_entry (s:={ s with heap:=h1 }) slot_list_sort ⟨_,xJ,rfl⟩ entry_list_sort (XZ xJ hz (fun h2 h' Q hk hq=>l7 h2 _ _ h' Q (up h' hk) hq) (fun h' hk=>bb _ _ h' (up h' hk)) af fun out o1 o2=>⟨_,rfl,?_⟩) (args_list_sort _)));refine aV ⟨_,rfl,h out _ o1 o2 (fun b o e=>?_) (sortedHeap_at xJ)⟩;have hb:b<s.heap.objs.size:=dt e;rw [sortedHeap_old (gY hb) (show b<h1.objs.size by show b<(s.heap.push _).objs.size;rw [size_push'];exact Nat.lt_succ_of_lt hb)];exact cX _ e
end
end TS
namespace L2
open PySem PySem.Spec PyProof.Rows TS
theorem O1:∀{us:List Value} {ns:List Int},us.length=ns.length->(∀(j:Nat) v i,us[j]?=some v->ns[j]?=some i->∃t,v=.int i t)->IntsAre us ns
 | [],[],_,_=>.nil
 | u::us,n::ns,hl,h=>by
  obtain ⟨t,rfl⟩:=h 0 u n rfl rfl;exact .cons _ _ (O1 (by simpa using hl) fun j v i e1 e2=>h (j+1) v i (by simpa using e1) (by simpa using e2))
 | [],_::_,hl,_=>by simp at hl
 | _::_,[],hl,_=>by simp at hl
theorem AF:∀{us:List Value} {ns:List Int},IntsAre us ns->us.map numOf=ns/\∀u∈us,∃n t,u=.int n t
 | _,_,.nil=>⟨rfl,fun _ h=>nomatch h⟩
 | _,_,.cons n t h=>by
  obtain ⟨a,b⟩:=AF h;refine ⟨by rw [eU,a];rfl,fun u hu=>?_⟩;rcases eV.mp hu with rfl | hu
  ·exact ⟨n,t,rfl⟩
  ·exact b u hu
theorem P2:∀{us:List Value},(∀u∈us,∃n t,u=.int n t)->bq ((us.map numOf).map V.int) us
 | [],_=>.nil
 | u::us,h=>by
  obtain ⟨n,t,rfl⟩:=h u eG;exact .cons ⟨t,rfl⟩ (P2 fun v hv=>h v (gz _ hv))
theorem Inv.at_ (I:Inv X pins σ H s) (k:∀b o,s.heap.get? b=some o->s1.heap.get? b=some o) (hg:s1.gens=s.gens) (hd:s1.drawn=s.drawn) (ho:s1.os=s.os):Inv X pins σ H s1:=by
 have e:s1={ s with heap:=s1.heap,toks:=s1.toks }:=by
  obtain ⟨h1,g1,d1,t1,o1⟩:=s1;cases hg;cases hd;cases ho;rfl
 rw [e];exact I.kept (t':=s1.toks) k
section
variable {X:Cx}
theorem XM (hc:X.calm=true):rC X (.builtin "sorted") (fun xs H Q=>∃(p:Addr) (kvs:List (Key×V)) (ns:List Int),xs=[.ref p]/\H p=some (.dK kvs)/\kvs.map (·.1)=ns.map Sum.inl/\
 ∀(l:Addr) (ph:List Int),H l=none->ph.Perm ns->ph.Pairwise (·<=·)->Q (.ref l) (upd H l (.lst (ph.map V.int)))):=by
 intro pins s σ H xs us Q I r h;obtain ⟨p,kvs,ns,rfl,hp,nG,q⟩:=h;obtain ⟨u,rfl,ru⟩:=y9 r;cases ru;obtain ⟨hz,hs,vs,hv,hD⟩:=(show eh X.prog X.w H s.heap p (.dK kvs) from I.af p _ hp);obtain ⟨ep,iH⟩:=hD.dictAt;have hlv:kvs.length=vs.length:=Paired.length hv;have hln:kvs.length=ns.length:=by have:=congrArg List.length nG;simpa using this
 refine PV (R:=fun s1 us=>Inv X pins σ H s1/\(∀b o,s.heap.get? b=some o->s1.heap.get? b=some o)/\IntsAre us ns) (XO (I.ok.hd hc) hs iH (by lia) fun s1 acc k hg hd ho ht hi=>?_) ?_
 ·refine ⟨I.at_ k hg hd ho,k,O1 (by rw [rh,hi.1];lia) fun j v i e1 e2=>?_⟩;obtain ⟨key,x,g1,g2⟩:=hi.2 j v (by simpa using e1);have hk:(kvs.map (·.1))[j]?=some (Sum.inl i):=by rw [nG,f9,e2];rfl
  rw [f9] at hk
  cases ee:kvs[j]? with
  | none=>rw [ee] at hk;cases hk
  | some kv=>
   rw [ee] at hk;obtain ⟨y,hy,ey,_⟩:=Pe hv ee;rw [g1] at hy;cases hy;have e:kv.1=Sum.inl i:=eF hk;rw [e] at ey;subst ey;rcases rS (show vY (Sum.inl i) v=true from g2) with ⟨i',t,e3,rfl⟩ | ⟨x',t,e3,rfl⟩
   ·cases e3;exact ⟨t,rfl⟩
   ·cases e3
 ·rintro s1 us ⟨I1,k1,hI⟩;have zk:us.length=ns.length:=by rw [<-(AF hI).1];simp
  refine @OB AV X.prog X.w _ _ s1 us _ (by lia) (fun h2 A E h' Q hk hq=>Zo (s:={ s1 with heap:=h' }) hI h2 hq) (fun A E h' hk=>ltI) (fun v hv=>?_) fun out h' o1 o2 k2 he=>?_
  ·obtain ⟨n,t,e⟩:=(AF hI).2 v hv;exact ⟨n,t,e⟩
  ·obtain ⟨e,he⟩:=he;have bL:∀u∈out.toList,∃n t,u=Value.int n t:=fun u hu=>(AF hI).2 u (o1.mem_iff.mp hu);have fr:H s1.heap.objs.size=none:=I1.af.fresh (az _);have qJ:(out.toList.map numOf).Perm ns:=by rw [<-(AF hI).1];exact o1.map numOf
   refine ⟨.ref s1.heap.objs.size,_,I1.laid (t':=s1.toks) k2 (az _) (show eh X.prog X.w _ h' _ (.lst ((out.toList.map numOf).map V.int)) from ⟨?_,out.toList,e,P2 bL,by rw [he]⟩),rfl,q _ _ fr qJ ?_⟩
   ·rw [aB,qJ.length_eq];lia
   ·rw [List.pairwise_map];exact o2
end
def u_ (a b m:Int):HO:=.tup [.int a,.int b,.int m]
def zJ (H:Hp):Value->Int
 | .ref q=>match H q with
  | some (.tup [.int a,.int b,_])=>a*64+b
  | _=>0
 | _=>0
@[reducible] noncomputable def vg (H:Hp) (g:Int->Int->Int):SK:=
 ⟨fun p=>zJ H p.1,fun p=>∃q a b,p.1=.ref q/\H q=some (u_ a b (g a b))/\0<=a/\a<64/\0<=b/\b<64,tuples' true⟩
theorem CZ (h:H q=some (u_ a b m)):zJ H (.ref q)=a*64+b:=by
 show (match H q with | some (.tup [.int a,.int b,_])=>a*64+b | _=>0)=_;rw [h];rfl
section
variable {prog:Program} {w:World} {A:Around} {E:Value->Shared->Prop} {s:Shared} {H:Hp} {g:Int->Int->Int}
def vR (H:Hp) (h:Heap):Prop:=∀q a b m,H q=some (u_ a b m)->∃t1 t2 t3 o n,h.get? q=some o/\o.cls=.type "tuple"/\o.data=.seq #[.int a t1,.int b t2,.int m t3] n
theorem vR.keep (x:vR H h) (k:∀b o,h.get? b=some o->h'.get? b=some o):vR H h':=fun q a b m e=>
 let ⟨t1,t2,t3,o,n,e1,e2⟩:=x q a b m e;⟨t1,t2,t3,o,n,k _ _ e1,e2⟩
theorem Vy {P:Program} {w:World} (ok:eI P w H h):vR H h:=fun q a b m e=>by
 obtain ⟨_,its,hv,o,e1,e2,n,e3⟩:=(show eh P w H h q (u_ a b m) from ok q _ e);rcases hv with _ | ⟨⟨t1,rfl⟩,hv⟩;rcases hv with _ | ⟨⟨t2,rfl⟩,hv⟩;rcases hv with _ | ⟨⟨t3,rfl⟩,hv⟩;cases hv;exact ⟨t1,t2,t3,o,n,e1,e2,e3⟩
theorem ltT (ht:vR H s.heap): @gI (vg H g) prog w A E s:=by
 refine @gI.mk (vg H g) prog w A E s ?_;rintro st p q Q hk ⟨x,a,b,hp,hx,a0,a1,b0,b1⟩ ⟨y,a',b',hq,hy,a0',a1',b0',b1'⟩ h;have e1: @N (vg H g) p=a*64+b:=by show zJ H p.1=_;rw [hp,CZ hx]
 have e2: @N (vg H g) q=a'*64+b':=by show zJ H q.1=_;rw [hq,CZ hy]
 rw [e1,e2] at h;obtain ⟨t1,t2,t3,ox,n,ox1,_,ox2⟩:=ht x _ _ _ hx;obtain ⟨u1,u2,u3,oy,n',oy1,_,oy2⟩:=ht y _ _ _ hy;rw [lt'_eq,hp,hq];refine wpS_bind (wpS_get ?_);rw [show kindOf st=tuples' true from hk];refine wpS_bind (wpS_lift (wpAny_attempt (PySem.W.kat_lt ox1 ox2 oy1 oy2 ?_)));show PySem.W.KatLex prog w A true (decide (3<3)) _ [(.int a t1,.int a' u1),(.int b t2,.int b' u2),(.int (g a b) t3,.int (g a' b') u3)] 0 s;refine PySem.W.kat_cons (wpAny_eqBool_int (PySem.W.kat_go (fun e=>PySem.W.kat_yes ?_) fun e=>PySem.W.kat_no ?_))
 ·have ea:a=a':=by simpa using e
  subst ea;refine PySem.W.kat_cons (wpAny_eqBool_int (PySem.W.kat_go (fun e=>PySem.W.kat_yes ?_) fun e=>PySem.W.kat_no ?_))
  ·have eb:b=b':=by simpa using e
   subst eb;refine PySem.W.kat_cons (wpAny_eqBool_int (PySem.W.kat_go (fun e=>PySem.W.kat_yes (PySem.W.kat_nil ⟨rfl,wpS_pure ?_⟩)) fun e=>absurd e (by simp)));have:decide (a*64+b<a*64+b)=decide (3<3):=by simp
   rw [<-this];exact h
  ·have:decide (a*64+b<a*64+b')=decide (b<b'):=by
    by_cases hb:b<b'
    ·rw [jt hb,jt (by lia)]
    ·rw [fY hb,fY (by lia)]
   rw [this] at h;exact PySem.W.kat_one _ _ (lt_int (show _ from ⟨rfl,wpS_pure h⟩))
 ·have ea:a≠a':=by simpa using e
  have:decide (a*64+b<a'*64+b')=decide (a<a'):=by
   by_cases hb:a<a'
   ·rw [jt hb,jt (by lia)]
   ·rw [fY hb,fY (by lia)]
  rw [this] at h;exact oneLt_int ⟨rfl,wpS_pure h⟩
theorem Zp (ht:vR H s.heap) {vs:List Value} {Q:SortKind->Shared->Prop} (hv:∀v∈vs,@fw (vg H g) (v,v)) (h2:2<=vs.length) (h:Q (tuples' true) s):wpAny (model prog w) A (keyKind' vs.toArray) Q E s:=by
 have key:∀l:List Value,(∀v∈l,@fw (vg H g) (v,v))->∃fs,PySem.W.KatTups s.heap l fs/\fs.length=l.length/\∀f∈fs,∃n t,f=Value.int n t:=by
  intro l
  induction l with
  | nil=>exact fun _=>⟨[],PySem.W.KatTups.nil,rfl,fun _ h=>nomatch h⟩
  | cons v r ih=>
   intro hl;obtain ⟨fs,k1,k2,k3⟩:=ih fun v hv=>hl v (gz _ hv);obtain ⟨q,a,b,e,hq,_⟩:=hl v eG;obtain rfl:v=.ref q:=e;obtain ⟨t1,t2,t3,o,n,e1,e2,e3⟩:=ht q _ _ _ hq;refine ⟨.int a t1::fs,PySem.W.KatTups.cons e1 e2 e3 rfl k1,by simp [k2],fun f hf=>?_⟩;rcases eV.mp hf with rfl | hf
   ·exact ⟨a,t1,rfl⟩
   ·exact k3 f hf
 obtain ⟨fs,k1,k2,k3⟩:=key vs hv;exact PySem.W.kat_kind (T:=.type "int") k1 (by lia) (fun v hv=>by obtain ⟨n,t,rfl⟩:=k3 v hv;exact PySem.W.Looks.of_pure rfl) (by decide) h
end
section
variable {X:Cx}
theorem NM:∀{ps:List Addr} {us:List Value},bq (ps.map V.ref) us->us=ps.map Value.ref
 | [],_,.nil=>rfl
 | p::ps,_,.cons r t=>by
  have e:=NM t;cases r;rw [eU,e]
theorem P4:∀(ps:List Addr),bq (ps.map V.ref) (ps.map Value.ref)
 | []=>.nil
 | p::ps=>.cons rfl (P4 ps)
theorem XN:rC X (.builtin "sorted") (fun xs H Q=>∃(p:Addr) (ps:List Addr) (g:Int->Int->Int),xs=[.ref p]/\H p=some (.lst (ps.map V.ref))/\
 (∀q∈ps,∃a b,H q=some (u_ a b (g a b))/\0<=a/\a<64/\0<=b/\b<64)/\
 ∀(l:Addr) (ff:List Addr),H l=none->ff.Perm ps->(ff.Pairwise fun x y=>zJ H (.ref x)<=zJ H (.ref y))->Q (.ref l) (upd H l (.lst (ff.map V.ref)))):=by
 intro pins s σ H xs us Q I r h;obtain ⟨p,ps,g,rfl,hp,jf,q⟩:=h;obtain ⟨u,rfl,ru⟩:=y9 r;cases ru;obtain ⟨hz,its,n,rv,e0⟩:=(show eh X.prog X.w H s.heap p (.lst (ps.map V.ref)) from I.af p _ hp);rw [aB] at hz;obtain rfl:=NM rv;refine PV (R:=fun s1 us=>Inv X pins σ H s1/\us=ps.map Value.ref) (collect_list (vs:=ps.map Value.ref) ⟨_,e0,rfl,n,rfl⟩ ⟨I.at_ (s1:={ s with heap:=_ }) (fun b o e=>?_) rfl rfl rfl,rfl⟩ (by simpa using hz)) ?_
 ·have hb:b<s.heap.objs.size:=dt e;rw [Heap.get?_update_ne _ _ _ _ (gY hb)];exact cX _ e
 ·rintro s1 us ⟨I1,rfl⟩;have ht:vR H s1.heap:=Vy I1.af;have af:∀v∈ps.map Value.ref,@fw (vg H g) (v,v):=fun v hv=>by
   obtain ⟨x,hx,rfl⟩:=eD.mp hv;obtain ⟨a,b,h1,h2⟩:=jf x hx;exact ⟨x,a,b,rfl,h1,h2⟩
  refine @OB (vg H g) X.prog X.w _ _ s1 _ _ (by simpa using hz) (fun h2 A E h' Q hk hq=>Zp (s:={ s1 with heap:=h' }) (ht.keep hk) af h2 hq) (fun A E h' hk=>ltT (s:={ s1 with heap:=h' }) (ht.keep hk)) af fun out h' o1 o2 k2 he=>?_;obtain ⟨e,he⟩:=he;obtain ⟨ff,lu⟩:∃ff:List Addr,out.toList=ff.map Value.ref:=by
   have:∀l:List Value,(∀v∈l,v∈ps.map Value.ref)->∃ff:List Addr,l=ff.map Value.ref:=by
    intro l
    induction l with
    | nil=>exact fun _=>⟨[],rfl⟩
    | cons v r ih=>
     intro hl;obtain ⟨ff,e⟩:=ih fun v hv=>hl v (gz _ hv);obtain ⟨x,_,e1⟩:=eD.mp (hl v eG);exact ⟨x::ff,by rw [eU,e,e1]⟩
   exact this _ fun v hv=>o1.mem_iff.mp hv
  rw [lu] at o1 o2;have hinj:Function.Injective Value.ref:=fun a b e=>by cases e;rfl
  have qJ:ff.Perm ps:=by
   have:=o1.map (fun v:Value=>match v with | .ref a=>a | _=>0);simpa [List.map_map,Function.comp_def] using this
  have fr:H s1.heap.objs.size=none:=I1.af.fresh (az _);refine ⟨.ref s1.heap.objs.size,_,I1.laid (t':=s1.toks) k2 (az _) (show eh X.prog X.w _ h' _ (.lst (ff.map V.ref)) from ⟨?_,out.toList,e,by rw [lu];exact P4 ff,by rw [he]⟩),rfl,q _ _ fr qJ ?_⟩
  ·rw [aB,qJ.length_eq];exact hz
  ·rw [List.pairwise_map] at o2;exact o2
end
open PySem PySem.Spec PyProof.Rows
def Zv:V->Option Int->Option Int->Hp->VK->Prop:=fun x lo hi H Q=>∃a xs,x=.ref a/\H a=some (.tup xs)/\
 ¬(HT.cv xs.length 0 lo=0/\HT.cv xs.length xs.length hi=xs.length)/\∀p,H p=none->Q (.ref p) (upd H p (.tup (kO xs lo hi)))
theorem Vd:FO X Zv:=by
 intro pins s σ H x v vl vu lo hi sl Q I rx hs pl pu h;obtain ⟨a,xs,e,h1,h2,q⟩:=h;exact CP pins s σ H x v vl vu lo hi sl Q I rx hs pl pu ⟨a,xs,e,c_.of h1,h2,q⟩
end L2
namespace Y0
open PySem L2
seal L2.PE L2.PA L2.PT L2.PS L2.g7 L2.PG L2.nU L2.PI L2.PO
abbrev vJ:=Nat×Nat×Int
def iN (H:Hp) (q:Addr) (x:vJ):Prop:=H q=some (u_ x.1 x.2.1 x.2.2)
theorem iN.same (h:iN H q x) (s:aI H H'):iN H' q x:=s _ _ h
def u6 (H:Hp) (q:Addr):vJ:=match H q with
 | some (.tup [.int a,.int b,.int v])=>(a.toNat,b.toNat,v)
 | _=>(0,0,0)
theorem Nf (h:iN H q x):u6 H q=x:=by
 unfold u6;rw [h];obtain ⟨a,b,v⟩:=x;rfl
theorem OI:∀{ps:List Addr} {L:List vJ},Paired (iN H) ps L->L=ps.map (u6 H)
 | _,_,.nil=>rfl
 | _,_,.cons r t=>by rw [eU,<-OI t,Nf r]
theorem NU:∀{ps:List Addr},(∀q∈ps,iN H q (u6 H q))->Paired (iN H) ps (ps.map (u6 H))
 | [],_=>.nil
 | q::ps,h=>.cons (h q eG) (NU fun r hr=>h r (gz _ hr))
theorem Qk:∀{l:List α} {m:List β},Paired F l m->∀x∈l,∃y∈m,F x y
 | _,_,.nil,_,h=>nomatch h
 | _,_,.cons r t,x,h=>by
  rcases eV.mp h with rfl | h
  ·exact ⟨_,eG,r⟩
  ·obtain ⟨y,hy,ry⟩:=Qk t x h;exact ⟨y,gz _ hy,ry⟩
def vV (st:MU.St) (t:Bool) (k:MU.Key):Option vJ:=if k.1=t then (MU.val st k).map fun v=>(k.2.1,k.2.2,v) else none
structure DW (st:MU.St) (t:Bool) (L:List vJ):Prop where
 up:L.Pairwise fun x y=>((x.1:Int)*64+x.2.1)<=((y.1:Int)*64+y.2.1)
 has:∀a b v,(a,b,v)∈L↔MU.val st (t,a,b)=some v
 once:(L.map fun x=>(x.1,x.2.1)).Nodup
def MF (C:Addr):Sp:=fun vs H Q _=>∃(p be rl bd:Addr) (n:Nat) (F:MU.cq) (st:MU.St) (t:Bool),vs=[.ref p,.str (lZ t)]/\gb C H p be rl bd n F st/\MU.cm n st/\n<=8/\st.rows.length<=16500000/\
 ∀l H' ps L,H l=none->aI H H'->H' l=some (.lst (ps.map V.ref))->Paired (iN H') ps L->DW st t L->Q (.ref l) H'
theorem Vm {kvs:List (List Key×V)} (h:∀kv∈kvs,∃k:MU.Key,kv.1=cw k):∃ks:List MU.Key,kvs.map (·.1)=ks.map cw:=by
 induction kvs with
 | nil=>exact ⟨[],rfl⟩
 | cons kv r ih=>
  obtain ⟨ks,e⟩:=ih fun kv ee=>h kv (gz _ ee);obtain ⟨k,e1⟩:=h kv eG;exact ⟨k::ks,by rw [eU,eU,e,e1]⟩
theorem Yq:kO (lK x) (some 1) none=[V.int (x.a:Int),V.int (x.b:Int),V.int x.v]:=by
 unfold kO lK;rw [HT.eM,show (some (1:Int))=some ((1:Nat):Int) from rfl,HT.dO];rfl
theorem TN:¬(HT.cv (lK x).length 0 (some 1)=0/\HT.cv (lK x).length (lK x).length none=(lK x).length):=fun z=>by
 have h:=z.1;rw [show (some (1:Int))=some ((1:Nat):Int) from rfl,HT.dO] at h;have e:(lK x).length=4:=rfl;rw [e] at h;cases h
theorem Qs:∀{l:List α},(l.map f).Nodup->l.Nodup
 | [],_=>List.nodup_nil
 | a::l,h=>by
  rw [eU,List.nodup_cons] at h;exact List.nodup_cons.mpr ⟨fun z=>h.1 (List.mem_map_of_mem z),Qs h.2⟩
theorem Zn:decide (V.str (lZ a)=V.str (lZ b))=decide (a=b):=decide_eq_decide.mpr ⟨fun q=>Pa (V.str.inj q),fun q=>by rw [q]⟩
theorem Y8:cG ["self","kind"] ["self","kind"] (aZ aQ):=cV
theorem Yg:iP (aZ aQ) ["self","kind"] (lT [(".0",.local),("key",.local),("kind",.free),("self",.free)]) ["key","kind","self"] [none,some 1,some 0]:=lU
theorem YV:(["key","kind","self"]:List Str).Nodup:=by decide+kernel
theorem t_ {f C:Addr} {fd:FuncData} (F:gZ K "best_drawn" "Closing.best_drawn" aQ f fd) (T:o_ K mg C) (hS:mg "sorted"=none):ar P w K mg base a9 1 f fd ["self","kind"] (MF C):=by
 refine F.ix Y8 fun _ A _ s H _ Q E hr h=>?_
 ·obtain ⟨p,be,rl,bd,n,Fa,st,t,rfl,c,g,h8,hlen,k⟩:=h;have hu:=lY hr;refine ⟨_,aE (cC (jx XN (by rfl) hS PyProof.Rows.boot_sorted (bM (UU (pe rfl (UX (fQ (pv 0) rfl)) Yg (fun cl ex s0 H0=>⟨bS 0 YV,Ar (dh gu (a8 (pv 0)) (pv 1)),pW Vd (a8 (de dW (uQ (K:=K) rfl (pv 2) rfl) (nc hu (uQ (K:=K) rfl (pv 2) rfl) (pv 0) (fun _ _=>rfl)) (fun _ _=>rfl))) (pT aw) pR⟩)))))),?_⟩;obtain ⟨dx,hp⟩:=c.ins;obtain ⟨qs,gj,bX⟩:=c.rows;obtain ⟨kvs,fz,p0,ee⟩:=c.best;obtain ⟨ks,BC⟩:=Vm p0.2;have hkn:kvs.length=ks.length:=by have:=congrArg List.length BC;simpa using this
  refine ⟨_,rfl,p,C,dx,_,_,rfl,hp,T.cl,T.nE,rG,bd,kvs,rfl,fz,fun oJ o Da cK=>?_⟩;rw [BC] at oJ;have knd:ks.Nodup:=Qs oJ;have known:∀kk∈ks,∃j x,st.best kk=some j/\MU.ah st j=some x/\x.key=kk:=fun kk hk=>by
   have:(fq kvs (cw kk)).isSome=true:=by
    rw [<-wz];have hm:cw kk∈kvs.map (·.1):=by rw [BC];exact List.mem_map_of_mem hk
    obtain ⟨kv,h1,h2⟩:=eD.mp hm;exact List.any_eq_true.mpr ⟨kv,h1,by simpa using h2⟩
   rw [ee] at this
   cases hb:st.best kk with
   | none=>rw [hb] at this;cases this
   | some j=>
    obtain ⟨x,h1,h2⟩:=g.at_ _ _ hb;exact ⟨j,x,rfl,h1,h2⟩
  have Ta:bd≠p:=cH fz hp nofun;have bdr:bd≠rl:=cH fz gj nofun;have Tq:Da≠bd:=fun z=>by rw [z,ai] at cK;cases cK
  have S7:H Da=none:=by rwa [ak Tq] at cK
  refine Ws (a:=bd) (o:=o) (kvs:=kvs) (fun i aa H'=>∃v ps L,aa=[v,some (.str (lZ t)),some (.ref p)]/\H' Da=some (.lst (ps.map V.ref))/\Paired (iN H') ps L/\L=(ks.take i).filterMap (vV st t)/\ps.length<=i/\H' bd=some (.gH o (.dT kvs))/\∀b x,H b=some x->b≠bd->H' b=some x)
   ⟨none,[],[],rfl,ai,.nil,rfl,d9 _,by rw [ak (aD Tq),ai],fun b x e ne=>by rw [ak (aR e S7),ak ne];exact e⟩ ?_ ?_ ?_
  ·rintro i aa H2 _ ⟨v,ps,L,rfl,_,_,_,_,e,_⟩;exact e
  ·rintro i kx vx q aa H2 hi hq ⟨v,ps,L,rfl,e2,jf,hL,fh,eb,kp⟩;obtain ⟨kk,KQ,rfl⟩:∃kk,ks[i]?=some kk/\kx=cw kk:=by
    have:=congrArg (fun l=>l[i]?) BC;simp only [f9,hi] at this
    cases hk:ks[i]? with
    | none=>rw [hk] at this;cases this
    | some kk=>rw [hk] at this;exact ⟨kk,rfl,eF this⟩
   have hil:i<ks.length:=(gO.mp KQ).1;have et:ks.take (i+1)=ks.take i++[kk]:=by rw [lD,KQ];rfl
   obtain ⟨tt,a,b⟩:=kk;obtain ⟨j,x,qQ,hx,hxk⟩:=known _ (gq KQ);have Ki:MU.val st (tt,a,b)=some x.v:=by unfold MU.val;rw [qQ];show (MU.ah st j).map _=_;rw [hx];rfl
   refine ⟨_,rfl,ay hq rfl ⟨_,rfl,rfl,_,rfl,?_⟩⟩;refine (show if decide (V.str (lZ tt)=V.str (lZ t))=true then _ else _ from ?_);rw [Zn]
   by_cases ht:tt=t
   ·refine jc ht ?_;obtain ⟨q',r,pw,pu,g1,g2,g3,g4,g5,g6⟩:=Dg bX hx;have iH:iI (qs.map V.ref) (j:Int)=some (.ref q'):=ko (by rw [f9,g1];rfl);have dg:fm H2 bd (.ref q) (some (.int (j:Int))):=.inr ⟨kvs,_,q,.inr ⟨o,eb⟩,rfl,hq,by rw [ee,qQ];rfl⟩;have AM:∀{b:Addr} {xs:List V},H b=some (.tup xs)->H2 b=some (.tup xs):=fun e=>kp _ _ e (cH e fz nofun);refine ⟨_,rfl,p,C,dx,_,_,rfl,kp _ _ hp (aD Ta),T.cl,T.nR,sT,_,rfl,p,C,dx,_,_,rfl,kp _ _ hp (aD Ta),T.cl,T.nE,rG,_,rfl,bd,_,rfl,dg,rl,_,_,_,rfl,rfl,kp _ _ gj (aD bdr),iH,ay (AM g4) rfl ⟨_,rfl,pw,_,rfl,AM g5,TN,fun kt my=>?_⟩⟩;rw [Yq];have Sb:=MU.iD hxk;have e3:upd H2 kt (.tup [V.int (x.a:Int),V.int (x.b:Int),V.int x.v]) kt=some (.tup [V.int (x.a:Int),V.int (x.b:Int),V.int x.v]):=ai;have s3:=aG (o:=.tup [V.int (x.a:Int),V.int (x.b:Int),V.int x.v]) my;generalize upd H2 kt (.tup [V.int (x.a:Int),V.int (x.b:Int),V.int x.v])=H3 at*;have nP:=s3 _ _ e2;have nD:∀{b:Addr} {o:HO},H3 b=some o->o≠.lst (ps.map V.ref)->upd H3 Da (.lst (ps.map V.ref++[.ref kt])) b=some o:=fun {b o} e ne=>by rw [ak (cH e nP ne)];exact e
    have keep:∀b y,iN H2 b y->iN (upd H3 Da (.lst (ps.map V.ref++[.ref kt]))) b y:=fun b y e=>nD (s3 _ _ e) nofun;refine ⟨_,nP,?_,_,ps++[kt],L++[(a,b,x.v)],rfl,?_,?_,?_,?_,?_,fun b' y e ne=>?_⟩
    ·rw [aB];have:=p0.1;exact Nat.lt_of_le_of_lt (show ps.length<=16500000 by lia) (by decide)
    ·rw [ai,ef];rfl
    ·refine p_ (gL jf keep) (.cons ?_ .nil);have:iN H3 kt (a,b,x.v):=by
      unfold iN u_;rw [e3,Sb.2.1,Sb.2.2]
     exact nD this nofun
    ·rw [et,List.filterMap_append,hL];have:vV st t (tt,a,b)=some (a,b,x.v):=by
      unfold vV;rw [if_pos ht,Ki];rfl
     simp [this]
    ·rw [ig];show ps.length+1<=i+1;lia
    ·exact nD (s3 _ _ eb) nofun
    ·rw [ak (aR e S7)];exact s3 _ _ (kp _ _ e ne)
   ·refine kQ ht ⟨_,ps,L,rfl,e2,jf,?_,by exact Nat.le.step fh,eb,kp⟩;rw [et,List.filterMap_append,hL];have:vV st t (tt,a,b)=none:=if_neg ht;simp [this]
  ·rintro aa H2 ⟨v,ps,L,rfl,e2,jf,hL,fh,eb,kp⟩;refine ⟨bd,o,_,eb,fun o u z=>?_,?_⟩
   ·have z:H bd=some (.gH o u):=z;rw [fz] at z;cases z
   have s3:aI H (upd H2 bd (.dT kvs)):=fun b x e=>by
    by_cases hb:b=bd
    ·subst hb;rw [fz] at e;cases e;exact ai
    ·rw [ak hb];exact kp _ _ e hb
   have nb:∀{b:Addr} {x:HO},H2 b=some x->x≠.gH o (.dT kvs)->upd H2 bd (.dT kvs) b=some x:=fun {b x} e ne=>by rw [ak (cH e eb ne)];exact e
   have e3:=nb e2 nofun;have Bz:Paired (iN (upd H2 bd (.dT kvs))) ps L:=gL jf fun b y e=>nb e nofun;generalize upd H2 bd (.dT kvs)=H3 at*;have bL:ks.take kvs.length=ks:=by rw [hkn];exact jB
   rw [bL] at hL;have JY:∀a b v,(a,b,v)∈L↔MU.val st (t,a,b)=some v:=fun a b v=>by
    rw [hL,List.mem_filterMap]
    constructor
    ·rintro ⟨kk,hk,e⟩;unfold vV at e
     by_cases my:kk.1=t
     ·rw [if_pos my] at e
      cases hv:MU.val st kk with
      | none=>rw [hv] at e;cases e
      | some v'=>
       rw [hv] at e;cases e;obtain ⟨t',a',b'⟩:=kk;cases my;exact hv
     ·rw [if_neg my] at e;cases e
    ·intro hv;have hb:∃j,st.best (t,a,b)=some j:=by
      unfold MU.val at hv
      cases hq:st.best (t,a,b) with
      | none=>rw [hq] at hv;cases hv
      | some j=>exact ⟨j,rfl⟩
     obtain ⟨j,hj⟩:=hb;have:(fq kvs (cw (t,a,b))).isSome=true:=by rw [ee,hj];rfl
     rw [<-wz] at this;obtain ⟨kv,h1,h2⟩:=List.any_eq_true.mp this;have hm:cw (t,a,b)∈ks.map cw:=by rw [<-BC];exact eD.mpr ⟨kv,h1,by simpa using h2⟩
     obtain ⟨kk,h3,h4⟩:=eD.mp hm;refine ⟨(t,a,b),O3 h4▸h3,?_⟩;unfold vV;rw [if_pos rfl,hv];rfl
   have small:∀q∈ps,∃x∈L,iN H3 q x/\x.1<8/\x.2.1<8:=fun q hq=>by
    obtain ⟨x,hx,uk⟩:=Qk Bz q hq;refine ⟨x,hx,uk,?_⟩;obtain ⟨a,b,v⟩:=x;have hv:=(JY a b v).mp hx;unfold MU.val at hv
    cases hq:st.best (t,a,b) with
    | none=>rw [hq] at hv;cases hv
    | some j=>
     obtain ⟨w',h1,h2⟩:=g.at_ _ _ hq;have h3:=g.lt _ _ h1;have h4:=MU.iD h2;exact ⟨by show a<8;have:=h4.2.1;lia,by show b<8;have:=h4.2.2;lia⟩
   refine ⟨Da,ps,fun a b=>(MU.val st (t,a.toNat,b.toNat)).getD 0,rfl,e3,fun q hq=>?_,fun l ff hl qJ Kj=>?_⟩
   ·obtain ⟨⟨a,b,v⟩,hx,uk,ha,hb⟩:=small q hq;have ha:a<8:=ha;have hb:b<8:=hb;refine ⟨a,b,?_,by exact Int.NonNeg.mk (a+0),by lia,by exact Int.NonNeg.mk (b+0),by lia⟩;show H3 q=some (u_ a b ((MU.val st (t,((a:Int)).toNat,((b:Int)).toNat)).getD 0));rw [i7,i7,(JY a b v).mp hx];exact uk
   ·have KJ:H l=none:=by
     cases q:H l with
     | none=>rfl
     | some x=>rw [s3 _ _ q] at hl;cases hl
    have s4:=aG (o:=.lst (ff.map V.ref)) hl;have xR:∀q∈ff,iN H3 q (u6 H3 q):=fun q hq=>by
     obtain ⟨x,_,uk,_⟩:=small q (qJ.mem_iff.mp hq);rw [Nf uk];exact uk
    have Lv:(ff.map (u6 H3)).Perm L:=by rw [OI Bz];exact qJ.map _
    refine k l _ ff (ff.map (u6 H3)) KJ (s3.trans s4) ai (gL (NU xR) fun q x e=>e.same s4) ⟨?_,fun a b v=>?_,?_⟩
    ·rw [List.pairwise_map];refine List.Pairwise.imp_of_mem (fun {x y} hx hy e=>?_) Kj;rw [CZ (xR x hx),CZ (xR y hy)] at e;exact e
    ·rw [Lv.mem_iff];exact JY a b v
    ·refine ((Lv.map _).nodup_iff).mpr ?_;rw [hL];unfold List.Nodup;rw [List.pairwise_map];refine List.Pairwise.filterMap _ (fun a a' cW b hb b' dQ e=>cW ?_) knd;unfold vV at hb dQ
     by_cases h1:a.1=t
     ·by_cases h2:a'.1=t
      ·rw [if_pos h1] at hb;rw [if_pos h2] at dQ
       cases hv:MU.val st a with
       | none=>rw [hv] at hb;cases hb
       | some v1=>
        cases fg:MU.val st a' with
        | none=>rw [fg] at dQ;cases dQ
        | some v2=>
         rw [hv] at hb;rw [fg] at dQ;cases hb;cases dQ;have e:(a.2.1,a.2.2)=(a'.2.1,a'.2.2):=e;exact Prod.ext (h1.trans h2.symm) e
      ·rw [if_neg h2] at dQ;cases dQ
     ·rw [if_neg h1] at hb;cases hb
end Y0
namespace L2
open PySem PySem.Spec PyProof.Rows
theorem HZ:rC X (.builtin "len") (fun xs H Q=>∃p ys,xs=[.ref p]/\H p=some (.lst ys)/\Q (.int ys.length) H):=by
 intro pins s σ H xs us Q I r h;obtain ⟨p,ys,e,h1,q⟩:=h;exact wC pins s σ H xs us Q I r ⟨p,ys,e,.inl (ax.of h1),q⟩
end L2
namespace Y0
open PySem L2
theorem GH {qs:List Addr} {i:Nat}:kO (qs.map V.ref) none (some (i:Int))=(qs.take i).map V.ref:=by
 unfold kO;rw [HT.dO,HT.eM,List.drop_zero,Nat.sub_zero,List.map_take];rw [<-List.take_eq_take_min]
theorem HC {qs:List Addr} {i:Nat}:kO (qs.map V.ref) (some (i:Int)) none=(qs.drop i).map V.ref:=by
 unfold kO;rw [HT.dO,HT.eM,List.map_drop,aB]
 by_cases h:i<=qs.length
 ·rw [Nat.min_eq_left h];exact List.take_of_length_le (by rw [vI,aB];lia)
 ·rw [Nat.min_eq_right (by lia),List.drop_of_length_le (by rw [aB];lia),List.drop_of_length_le (by rw [aB];lia)];exact List.take_nil
theorem zev:∀{l:List α} {m:List β} (n:Nat),Paired F l m->Paired F (l.take n) (m.take n)
 | _,_,0,_=>.nil
 | _,_,_+1,.nil=>.nil
 | _,_,n+1,.cons r t=>.cons r (zev n t)
theorem DT:∀{l:List α} {m:List β} (n:Nat),Paired F l m->Paired F (l.drop n) (m.drop n)
 | _,_,0,h=>h
 | _,_,_+1,.nil=>.nil
 | _,_,n+1,.cons _ t=>DT n t
theorem OJ (k:cp d H H') (hd:H d=some (.lst ys)) (h:H q=some (.tup xs)):H' q=some (.tup xs):=k _ _ h (cH h hd nofun)
end Y0
namespace MU
def iB (st:St):Prop:=(∀(i:Nat) (r:Row),st.rows[i]?=some r->r.used.length<=2/\∀j∈r.used,j<i)/\∀b,st.bar=some b->∃r,st.rows[b]?=some r/\iA r.cD
theorem Px {w:aj} (h:iB st) (hu:us.length<=2/\∀j∈us,j<st.rows.length):iB (take st w word us):=by
 unfold take;split
 ·refine ⟨fun i r hr=>?_,fun b hb=>?_⟩
  ·have hr:(st.rows++[⟨w,word,us⟩])[i]?=some r:=hr
   by_cases hi:i<st.rows.length
   ·rw [sk hi] at hr;exact h.1 i r hr
   ·rw [rf (by exact mH hi)] at hr
    cases hk:i-st.rows.length with
    | zero=>
     rw [hk] at hr;cases hr;exact ⟨hu.1,fun j hj=>by have:=hu.2 j hj;lia⟩
    | succ k=>rw [hk] at hr;cases hr
  ·have hb:(if st.bar=none/\iA w then some st.rows.length else st.bar)=some b:=hb;show ∃r,(st.rows++[(⟨w,word,us⟩:Row)])[b]?=some r/\iA r.cD
   by_cases hc:st.bar=none/\iA w
   ·rw [if_pos hc] at hb;cases hb;exact ⟨_,by rw [rf (az _),Nat.sub_self];rfl,hc.2⟩
   ·rw [if_neg hc] at hb;obtain ⟨r,hr,hB⟩:=h.2 b hb;exact ⟨r,by rw [sk (gO.mp hr).1];exact hr,hB⟩
 ·exact h
theorem O7 (h:iB st) (hu:∀x,o=some x->us.length<=2/\∀j∈us,j<st.rows.length):iB (put st o word us):=by
 cases o with
 | none=>exact h
 | some x=>exact Px h (hu x rfl)
theorem DQ (h:iB st):iB (aK f word i st):=by
 refine O7 h fun x hx=>⟨by show 1<=2;exact Nat.le.step Nat.le.refl,fun j hj=>?_⟩
 cases hw:ah st i with
 | none=>rw [hw] at hx;cases hx
 | some y=>rw [iK.mp hj];exact m_ hw
theorem DR (h:iB st):iB (ao f word i j st):=by
 refine O7 h fun x hx=>⟨az 2,fun k hk=>?_⟩
 cases hw:ah st i with
 | none=>rw [hw] at hx;cases hx
 | some y=>
  rw [hw] at hx
  cases kD:ah st j with
  | none=>rw [show ((some y).bind fun p=>(ah st j).bind fun q=>f p q)=(ah st j).bind fun q=>f y q from rfl,kD] at hx;cases hx
  | some z=>
   rcases eV.mp hk with rfl | hk
   ·exact m_ hw
   ·rw [iK.mp hk];exact m_ kD
theorem yU {α:Type} {g:St->α->St} (hg:∀st a,iB st->iB (g st a)):∀(l:List α) (st:St),iB st->iB (l.foldl g st)
 | [],_,h=>h
 | a::l,st,h=>yU hg l _ (hg st a h)
theorem P_ (rows:List aj) (st:St) (h:iB st):iB (lJ rows st):=yU (fun st w h=>Px h ⟨d9 _,fun j hj=>absurd hj (by simp)⟩) rows st h
theorem Qf:iB empty:=⟨fun i r h=>by simp [empty] at h,fun b h=>by simp [empty] at h⟩
theorem XF {n:Nat} {F:cq} {at_ a b:Nat} {st:St} (h:iB st):iB (dY n F at_ a b st):=
 yU (fun _ _ h=>DR h) _ _ (yU (fun _ _ h=>DR h) _ _ (yU (fun _ _ h=>DR h) _ _ (DQ (DQ h))))
theorem XY {n:Nat} {F:cq} {at_ a:Nat} {st:St} (h:iB st):iB (fu n F at_ a st):=
 yU (fun _ _ h=>DR h) _ _ (DQ (DQ h))
theorem HH (h:iB st):∀t,iB (run n F st t)
 | 0=>h
 | t+1=>by
  have ih:=HH (n:=n) (F:=F) h t;show iB (look n F t (run n F st t));unfold look;split
  ·split
   ·split
    ·exact XF ih
    ·exact XY ih
   ·exact ih
  ·exact ih
end MU
namespace L2
open PySem PySem.Spec PyProof.Rows
def Cr (hi:Int) (n:Nat):It:=⟨fun i _=>i<n,fun i H x H'=>H'=H/\x=.int (hi-i),fun i _=>n<=i⟩
theorem XS {w:World} {lo:Int} {i n:Nat} (hi:i<n) (st:IsRangeIter s.heap it (lo-(i:Nat)) ((n:Int)-(i:Nat)) (-1))
 (hQ:∀(t:Tok) h' tk,IsRangeIter h' it (lo-((i+1:Nat):Int)) ((n:Int)-((i+1:Nat):Int)) (-1)->(∀b o,b∉[it]->s.heap.get? b=some o->h'.get? b=some o)->Q (some (.int (lo-(i:Nat)) t)) { s with heap:=h',toks:=tk }):
 wpAny (model prog w) A (pyNext (.ref it)) Q E s:=by
 refine wpAny_pyNext_range_item st (by lia) fun h' ae sb=>?_;refine hQ _ h' _ ?_ fun b o hb e=>sb.extBut b o (fun z=>hb (by simp [z])) e;have e1:lo-((i+1:Nat):Int)=lo-(i:Int)+ -1:=by lia
 have e2:(n:Int)-((i+1:Nat):Int)=(n:Int)-(i:Int)-1:=by lia
 rw [e1,e2];exact ae
theorem Xn {P:Program} {w:World} {K:aF} {tg:Expr} (it:Addr) (lo:Int) (n:Nat):vS P w K tg (Cr lo n) [it] it (fun i h=>IsRangeIter h it (lo-(i:Nat)) ((n:Int)-(i:Nat)) (-1)) where
 mem:=by simp
 obj:=fun i h st b hb=>by
  have e:b=it:=by simpa using hb
  subst e;exact ⟨_,st,fun v z=>by
   have z':Data.fields _=Data.cell v:=z;cases z'⟩
 keep:=fun i h h' st k=>k it (by simp) _ st
 item:=by
  intro X hP hw hK hc i pins s σ H E I hf st hg;subst hP hw hK;obtain ⟨f0,f1,f2,f3,f4,f5⟩:=hf it (by simp);refine XS hg st fun t h' tk ae kk=>?_;have I1:Inv X pins σ H { s with heap:=h',toks:=tk }:=I.turned (fun b o hb e=>kk b o (by simpa using hb) e) f0 f1 f3 f4 f5;exact ⟨_,rfl,CF (s:={ s with heap:=h',toks:=tk }) (n:="range_iterator") ae rfl rfl (by decide) ⟨.int (lo-i),H,I1,⟨t,rfl⟩,⟨rfl,rfl⟩,ae,fun b hb=>(hf b hb).1⟩⟩
 done:=by
  intro X hP hw hK hc i pins s σ H E I hf st hg;subst hP hw hK;obtain ⟨f0,f1,f2,f3,f4,f5⟩:=hf it (by simp);exact Qt (Aa hc I) st (by have:n<=i:=hg;lia) fun h' eb=>⟨rfl,I.turned (t':=s.toks) (fun b o hb e=>eb b o hb e) f0 f1 f3 f4 f5⟩
 self:=fun _ _ _ _ _ st h=>wpAny_pyIter_rangeiter st h
theorem VB {lo:Int} {n:Nat} {g:TG} {tb:TS} {D:uz} {σ:St} {H:Hp} (Pv:Nat->St->Hp->Prop) (h0:Pv 0 σ H)
 (hs:∀i σ H,i<n->Pv i σ H->g (.int (lo-i)) σ H fun i9 H2=>tb { D with nx:=Pv (i+1),ct:=Pv (i+1),bk:=D.nx } i9 H2) (hd:∀σ H,Pv n σ H->D.nx σ H):
 ∃W:Nat->Nat->St->Hp->Prop,(∃m,W 0 m σ H)/\∀i m σ H,W i m σ H->
  ((Cr lo n).stop i H/\D.nx σ H)\/((Cr lo n).go i H/\∃N:St->Hp->Prop,(∀aa H',N aa H'->∃m',m'<m/\W (i+1) m' aa H')/\∀x H',(Cr lo n).wD i H x H'->g x σ H' fun i9 H2=>tb { D with nx:=N,ct:=N,bk:=D.nx } i9 H2):=by
 refine ⟨fun i m σ H=>m=n-i/\i<=n/\Pv i σ H,⟨n,by simp,d9 _,h0⟩,?_⟩;rintro i m σ H ⟨rfl,hi,p⟩
 by_cases bb:i<n
 ·refine .inr ⟨bb,Pv (i+1),fun aa H' p'=>⟨n-(i+1),by omega,rfl,bb,p'⟩,fun x H' y=>?_⟩;obtain ⟨e,y⟩:=y;subst e y;exact hs i σ _ bb p
 ·have e:i=n:=by lia
  subst e;exact .inl ⟨az _,hd σ H p⟩
theorem Nw (n:Nat):Builtin.Range.rangeSize ((n:Int)-1) (-1) (-1)=(n:Int):=by
 unfold Builtin.Range.rangeSize;rw [if_neg (by decide)]
 by_cases h:0<n
 ·rw [if_pos (by lia)];show ((n:Int)-1- -1-1) / 1+1=n;rw [Int.ediv_one];lia
 ·rw [if_neg (by lia)];lia
theorem Wa {n:Nat} (h:n<=20000000):Builtin.Range.small ((n:Int)-1) (-1) (-1)=true:=by
 unfold Builtin.Range.small;rw [Nw];simp [Builtin.Range.rangeFitsLong];lia
section
variable {X:Cx} {tg:Expr}
def iDn (ta:TA):TI:=fun σ H R=>ta σ H fun vs H1=>∃n:Nat,vs=[.int ((n:Int)-1),.int (-1),.int (-1)]/\n<=20000000/\R (Cr ((n:Int)-1) n) H1
theorem WN (hg:Gl X "range") (hm:X.mg "range"=none) (ha:PA X [a,b,c] ta) (hs:starEach [a,b,c] X.env=[(false,eval a X.env),(false,eval b X.env),(false,eval c X.env)]:=by rfl) (jT:starEach [b,c] X.env=[(false,eval b X.env),(false,eval c X.env)]:=by rfl):
 PI X tg (.Call (.Name "range" p) [a,b,c] [] pos) (iDn ta):=by
 intro pins s σ H R I h;refine Call_ (wa I hg hm boot_range (PyProof.Rows.callWith_type1 (av (ha pos pins s σ H _ I h) fun us s1 zz=>?_) (by rw [hs,jT]) (by rw [jT];rfl)));obtain ⟨vs,H1,I1,r1,q1⟩:=zz;obtain ⟨n,e,hn,q⟩:=q1;subst e
 cases r1 with
 | cons r rr=>
  cases rr with
  | cons r' rr=>
   cases rr with
   | cons AY rr=>
    cases rr;obtain ⟨t,rfl⟩:=r;obtain ⟨t',rfl⟩:=r';obtain ⟨EG,rfl⟩:=AY;refine call_range_3 (by decide) ?_ (Or.inl (PyProof.noPylong_small (by lia)));refine wpAny_pyIter_range (IsRange.new ..) (Wa hn) ?_;have I2:Inv X pins σ H1 { s1 with heap:=s1.heap.push { cls:=.type "range",data:=.fields #[.int ((n:Int)-1) t,.int (-1) t',.int (-1) EG] },toks:=s1.toks }:=I1.kept fun b o e=>cX _ e;refine ⟨(s1.heap.push { cls:=.type "range",data:=.fields #[.int ((n:Int)-1) t,.int (-1) t',.int (-1) EG] }).objs.size,[(s1.heap.push { cls:=.type "range",data:=.fields #[.int ((n:Int)-1) t,.int (-1) t',.int (-1) EG] }).objs.size],_,_,H1,rfl,
     I2.kept (t':=s1.toks) fun b o e=>cX _ e,Xn _ ((n:Int)-1) n,?_,fun b hb=>?_,q⟩
    ·show IsRangeIter _ _ (((n:Int)-1)-((0:Nat):Int)) ((n:Int)-((0:Nat):Int)) (-1);rw [show ((n:Int)-1)-((0:Nat):Int)=(n:Int)-1 by lia,show (n:Int)-((0:Nat):Int)=Builtin.Range.rangeSize ((n:Int)-1) (-1) (-1) by rw [Nw];lia];exact ki _ rfl
    ·have e:b=(s1.heap.push { cls:=.type "range",data:=.fields #[.int ((n:Int)-1) t,.int (-1) t',.int (-1) EG] }).objs.size:=by simpa using hb
     subst e;exact I2.qW (az _) (I2.af.fresh (az _))
end
end L2
namespace Y0
open PySem L2
seal L2.PE L2.PA L2.PT L2.PS L2.g7 L2.PG L2.nU L2.PI L2.PO
def QM (rows:List MU.Row):Prop:=∀(i:Nat) (r:MU.Row),rows[i]?=some r->r.used.length<=2/\∀j∈r.used,j<i
structure Io (rows:List MU.Row) (last:Nat) (ns:List Nat):Prop where
 up:ns.Pairwise (·<·)
 le:∀i∈ns,i<=last
 has:last∈ns
 uses:∀i∈ns,∀r,rows[i]?=some r->∀j∈r.used,j∈ns
 why:∀i∈ns,i=last\/∃k∈ns,∃r,rows[k]?=some r/\i∈r.used
structure NI (rows:List MU.Row) (last:Nat) (P:Nat->Prop) (ks:List Nat):Prop where
 once:ks.Nodup
 le:∀k∈ks,k<=last
 has:last∈ks
 why:∀i∈ks,i=last\/∃k∈ks,∃r,rows[k]?=some r/\i∈r.used
 fin:∀k∈ks,P k->∀r,rows[k]?=some r->∀j∈r.used,j∈ks
def vT (ks:List Nat) (j:Nat):List Nat:=if j∈ks then ks else ks++[j]
theorem rP:k∈vT ks j↔k∈ks\/k=j:=by
 unfold vT;split
 ·exact ⟨.inl,fun h=>h.elim id fun e=>e▸‹j∈ks›⟩
 ·simp
theorem NI.add {P:Nat->Prop} (h:NI rows last P ks) (hm:m∈ks) (hr:rows[m]?=some r) (hj:j∈r.used) (z6:j<=m) (hP:¬P j):NI rows last P (vT ks j):=by
 refine ⟨?_,fun k hk=>?_,rP.mpr (.inl h.has),fun i hi=>?_,fun k hk hp r' aJ j' jX=>?_⟩
 ·unfold vT;split
  ·exact h.once
  ·rename_i hn
   exact List.nodup_append.mpr ⟨h.once,List.nodup_cons.mpr ⟨nofun,List.nodup_nil⟩,fun a ha b hb e=>hn (by rw [iK.mp hb] at e;rw [<-e];exact ha)⟩
 ·rcases rP.mp hk with hk | rfl
  ·exact h.le k hk
  ·have:=h.le m hm;lia
 ·rcases rP.mp hi with hi | rfl
  ·rcases h.why i hi with e | ⟨k,hk,r',h1,h2⟩
   ·exact .inl e
   ·exact .inr ⟨k,rP.mpr (.inl hk),r',h1,h2⟩
  ·exact .inr ⟨m,rP.mpr (.inl hm),r,hr,hj⟩
 ·rcases rP.mp hk with hk | rfl
  ·exact rP.mpr (.inl (h.fin k hk hp r' aJ j' jX))
  ·exact absurd hp hP
def sJ (ks:List Nat):List Key:=ks.map fun i:Nat=>Sum.inl (i:Int)
theorem HQ {ks:List Nat} {j:Nat}:(Sum.inl (j:Int):Key)∈sJ ks↔j∈ks:=by
 unfold sJ;rw [eD]
 constructor
 ·rintro ⟨k,hk,e⟩;have:=Int.ofNat.inj (Sum.inl.inj e);exact this▸hk
 ·exact fun h=>⟨j,h,rfl⟩
theorem VF {ks:List Nat} {j:Nat} (h:kvs.map (·.1)=sJ ks):(dU kvs (Sum.inl (j:Int)) v).map (·.1)=sJ (vT ks j):=by
 have hm:(kvs.any fun kv=>decide (kv.1=Sum.inl (j:Int)))=true↔j∈ks:=by
  rw [List.any_eq_true,<-HQ,<-h,eD]
  constructor
  ·rintro ⟨kv,h1,h2⟩;exact ⟨kv,h1,by simpa using h2⟩
  ·rintro ⟨kv,h1,h2⟩;exact ⟨kv,h1,by simpa using h2⟩
 unfold dU vT
 by_cases hj:j∈ks
 ·rw [if_pos (hm.mpr hj),if_pos hj,<-h,List.map_map];refine List.map_congr_left fun kv _=>?_;show (if kv.1=Sum.inl (j:Int) then (kv.1,v) else kv).1=kv.1;split<;>rfl
 ·rw [if_neg (fun z=>hj (hm.mp z)),if_neg hj,ef,h];unfold sJ;rw [ef];rfl
theorem Xr {ks:List Nat} {j:Nat} (h:kvs.map (·.1)=sJ ks):(fq kvs (Sum.inl (j:Int))).isSome=decide (j∈ks):=by
 rw [<-wz]
 by_cases hj:j∈ks
 ·rw [jt hj];have:(Sum.inl (j:Int):Key)∈kvs.map (·.1):=by rw [h];exact HQ.mpr hj
  obtain ⟨kv,h1,h2⟩:=eD.mp this;exact List.any_eq_true.mpr ⟨kv,h1,by simpa using h2⟩
 ·rw [fY hj];refine List.any_eq_false.mpr fun kv h1=>?_;intro z;have:(Sum.inl (j:Int):Key)∈kvs.map (·.1):=eD.mpr ⟨kv,h1,by simpa using z⟩;rw [h] at this;exact hj (HQ.mp this)
def MJ:Sp:=fun vs H Q _=>∃(rl:Addr) (qs:List Addr) (rows:List MU.Row) (last:Nat),vs=[.ref rl,.int (last:Int)]/\H rl=some (.lst (qs.map V.ref))/\Paired (pL H) qs rows/\QM rows/\last<rows.length/\rows.length<=16500000/\
 ∀l H' ns,H l=none->aI H H'->H' l=some (.lst (ft ns))->Io rows last ns->Q (.ref l) H'
abbrev nNn:List Str:=["rows","last","needed","at","number"]
theorem EB:cG nNn ["rows","last"] (aZ bx):=cV
theorem o8 (F:Fn K mg "numbers_needed" bx ["rows","last"] f fd) (hR:mg "range"=none) (hS:mg "sorted"=none):ar P w K mg base a9 1 f fd ["rows","last"] MJ:=by
 refine F.F.ix EB fun _ A _ s H _ Q E hr h=>?_
 ·obtain ⟨rl,qs,rows,last,rfl,gj,bX,hU,fV,hlen,k⟩:=h;have hu:=lY hr;refine ⟨_,cx (cA 2 EB.nd (UT (VO (pv 1) z_ UY) rfl rfl (by simp) (by simp)))
   (cx (jw PassesOwn.never rfl (WN rfl hR (iw (pv 1) (sO sR aw) (sO sR aw))) (bS 3 EB.nd)
    (aE (dR (wc (Ha hu (pv 3) (pv 2)) (by with_unfolding_all rfl))
     (aE (jw PassesOwn.never rfl (Hi (a8 (de dW (pv 0) (pv 3) (fun _ _=>rfl)))) (bS 4 EB.nd)
      (aE (Dd hu (pv 2) (pv 4) z_ rfl)))) dZ)))
   (aE (cC (jx (XM rfl) (by rfl) hS PyProof.Rows.boot_sorted (bM (pv 2)))))),?_⟩
  refine fun N1 c1 d hd=>⟨_,rfl,ai,[(Sum.inl (last:Int),.bl true)],rfl,by simp,c1 _ _ ?_⟩;rw [NP];have xC:qs.length=rows.length:=Paired.length bX;have e1:upd H d (.dK (uI [] [(Sum.inl (last:Int),.bl true)])) d=some (.dK [(Sum.inl (last:Int),.bl true)]):=ai;have s1:=aG (o:=.dK (uI [] [(Sum.inl (last:Int),.bl true)])) hd;generalize upd H d (.dK (uI [] [(Sum.inl (last:Int),.bl true)]))=H1 at*;clear c1 N1;have ev:[V.int (last:Int),V.int (-1),V.int (-1)]=[V.int (((last+1:Nat):Int)-1),V.int (-1),V.int (-1)]:=by rw [show ((last+1:Nat):Int)-1=(last:Int) by lia]
  have dr:d≠rl:=aD (aR gj hd);refine fun N2 c2=>⟨_,rfl,_,rfl,_,rfl,last+1,ev,by lia,?_⟩;refine VB (fun i aa H'=>∃v3 v4 kvs ks,aa=[some (.ref rl),some (.int (last:Int)),some (.ref d),v3,v4]/\H' d=some (.dK kvs)/\kvs.map (·.1)=sJ ks/\NI rows last (fun k=>last<k+i) ks/\∀b o,H b=some o->H' b=some o)
   ⟨none,none,_,[last],rfl,e1,rfl,⟨List.nodup_cons.mpr ⟨nofun,List.nodup_nil⟩,fun k hk=>by rw [iK.mp hk];exact az _,iK.mpr rfl,fun k hk=>.inl (iK.mp hk),fun k hk hp=>by have:=iK.mp hk;lia⟩,fun b o e=>s1 _ _ e⟩ ?_ ?_
  ·rintro i aa H2 hi ⟨v3,v4,kvs,ks,rfl,ed,ee,hN,kp⟩;obtain ⟨at_,iH⟩:∃at_,at_+i=last:=⟨last-i,by lia⟩;have ex:V.int ((((last+1:Nat):Int)-1)-(i:Int))=V.int (at_:Int):=by rw [show (((last+1:Nat):Int)-1)-(i:Int)=(at_:Int) by lia]
   rw [ex];have dg:fm H2 d (.int (at_:Int)) (fq kvs (Sum.inl (at_:Int))):=fm.k (k:=Sum.inl (at_:Int)) ed;refine ⟨_,rfl,_,rfl,d,_,rfl,dg,_,rfl,?_⟩;rw [Xr ee]
   by_cases gx:at_∈ks
   ·refine jc gx ?_;obtain ⟨q,hq⟩:∃q,qs[at_]?=some q:=⟨_,kK (by lia)⟩;obtain ⟨r,aJ,pw,pu,g4,g5,g6⟩:=aX bX hq;have Lp:iI (qs.map V.ref) (at_:Int)=some (.ref q):=ko (by rw [f9,hq];rfl);refine ⟨_,rfl,oW rfl (kp _ _ gj) Lp (ay (kp _ _ g4) rfl ⟨pu,rfl,⟨_,c_.of (kp _ _ g6)⟩,?_⟩)⟩;refine UH (K:=K) (a:=pu) (xs:=r.used.map fun i:Nat=>V.int (i:Int)) (fun m aa H'=>∃v4 kvs ks,aa=[some (.ref rl),some (.int (last:Int)),some (.ref d),some (.int (at_:Int)),v4]/\H' d=some (.dK kvs)/\kvs.map (·.1)=sJ ks/\NI rows last (fun k=>last<k+i) ks/\at_∈ks/\(∀j∈r.used.take m,j∈ks)/\∀b o,H b=some o->H' b=some o)
     ⟨v4,kvs,ks,rfl,ed,ee,hN,gx,fun j hj=>by simp at hj,kp⟩ ?_ ?_ ?_
    ·rintro m aa H3 _ ⟨_,_,_,rfl,_,_,_,_,_,Bh⟩;exact c_.of (Bh _ _ g6)
    ·rintro m x aa H3 hx ⟨v4,kvs,ks,rfl,ed,ee,hN,gx,hm,Bh⟩;rw [f9] at hx
     cases hj:r.used[m]? with
     | none=>rw [hj] at hx;cases hx
     | some j=>
      rw [hj] at hx;cases hx;have z6:=gq hj;have hja:=(hU at_ r aJ).2 j z6;have hl:kvs.length<=last+1:=by
       have h1:=congrArg List.length ee;unfold sJ at h1;rw [aB,aB] at h1;have:=MH.yM (last+1) ks hN.once fun z hz=>by have:=hN.le z hz;lia
       lia
      refine ⟨_,rfl,_,rfl,d,_,rfl,rz.k (k:=Sum.inl (j:Int)) ed (Ao (by lia)),?_⟩;refine ⟨_,_,vT ks j,rfl,ai,VF ee,hN.add gx aJ z6 (bp hja) (by lia),rP.mpr (.inl gx),fun j' jX=>?_,fun b o e=>?_⟩
      ·rw [lD,hj] at jX;rcases i8.mp jX with jX | jX
       ·exact rP.mpr (.inl (hm j' jX))
       ·exact rP.mpr (.inr (by simpa using jX))
      ·rw [ak (aR e hd)];exact Bh _ _ e
    ·rintro aa H3 ⟨v4,kvs,ks,rfl,ed,ee,hN,gx,hm,Bh⟩;have bL:r.used.take (r.used.map fun i:Nat=>V.int (i:Int)).length=r.used:=by rw [aB];exact jB
     rw [bL] at hm;refine ⟨_,_,kvs,ks,rfl,ed,ee,⟨hN.once,hN.le,hN.has,hN.why,fun k hk hp r' j8 j hj=>?_⟩,Bh⟩
     by_cases e:k=at_
     ·subst e;rw [aJ] at j8;cases j8;exact hm j hj
     ·exact hN.fin k hk (by lia) r' j8 j hj
   ·refine kQ gx ⟨_,_,kvs,ks,rfl,ed,ee,⟨hN.once,hN.le,hN.has,hN.why,fun k hk hp r' j8 j hj=>?_⟩,kp⟩;exact hN.fin k hk (by have:k≠at_:=fun e=>gx (e▸hk);lia) r' j8 j hj
  ·rintro aa H2 ⟨v3,v4,kvs,ks,rfl,ed,ee,hN,kp⟩;refine c2 _ _ ⟨_,rfl,d,kvs,ks.map fun i:Nat=>(i:Int),rfl,ed,by rw [ee,List.map_map];rfl,fun l ph hl qJ Kj=>?_⟩;have KJ:H l=none:=by
    cases q:H l with
    | none=>rfl
    | some x=>rw [kp _ _ q] at hl;cases hl
   have BR:∀{l:List Int},(∀z∈l,0<=z)->(l.map Int.toNat).map (fun i:Nat=>(i:Int))=l:=fun {l} h=>by
    rw [List.map_map]
    conv=>rhs;rw [<-List.map_id l]
    exact List.map_congr_left fun z hz=>lE (h z hz)
   have hnn:∀z∈ph,0<=z:=fun z hz=>by
    obtain ⟨k,_,rfl⟩:=eD.mp (qJ.mem_iff.mp hz);exact Int.NonNeg.mk (k+0)
   have xF:(ph.map Int.toNat).Perm ks:=by
    have:=qJ.map Int.toNat;rw [List.map_map] at this;have e:ks.map (Int.toNat ∘ fun i:Nat=>(i:Int))=ks:=by
     conv=>rhs;rw [<-List.map_id ks]
     exact List.map_congr_left fun z _=>i7 z
    rw [e] at this;exact this
   have s3:aI H (upd H2 l (.lst (ph.map V.int))):=fun b o e=>by rw [ak (aR (kp _ _ e) hl)];exact kp _ _ e
   refine k l _ (ph.map Int.toNat) KJ s3 ?_ ⟨?_,fun i hi=>hN.le i (xF.mem_iff.mp hi),xF.mem_iff.mpr hN.has,fun i hi r' aJ j hj=>?_,fun i hi=>?_⟩
   ·rw [ai];unfold ft;have e:ph.map V.int=(ph.map Int.toNat).map fun i:Nat=>V.int (i:Int):=by
     conv=>lhs;rw [<-BR hnn]
     rw [List.map_map];rfl
    rw [e]
   ·have oJ:(ph.map Int.toNat).Nodup:=xF.nodup_iff.mpr hN.once;have h1:(ph.map Int.toNat).Pairwise (·<=·):=by
     rw [List.pairwise_map];exact Kj.imp fun h=>Int.toNat_le_toNat h
    exact h1.imp₂ (fun a b h h'=>Nat.lt_of_le_of_ne h h') oJ
   ·have kG:=xF.mem_iff.mp hi;have:=hN.le i kG;exact xF.mem_iff.mpr (hN.fin i kG (by lia) r' aJ j hj)
   ·rcases hN.why i (xF.mem_iff.mp hi) with e | ⟨k',pA,r',h1,h2⟩
    ·exact .inl e
    ·exact .inr ⟨k',xF.mem_iff.mpr pA,r',h1,h2⟩
def yN (rows:List MU.Row) (ns:List Nat) (i:Nat):Option MU.Row:=(rows[i]?).map fun r=>⟨r.cD,r.word,r.used.map fun j=>ns.idxOf j⟩
def Nm (rows:List MU.Row) (ns:List Nat):List MU.Row:=ns.filterMap (yN rows ns)
theorem ZE {ns:List Nat} {m x:Nat} (hn:ns.Nodup) (h:ns[m]?=some x):ns.idxOf x=m:=by
 obtain ⟨hm,rfl⟩:=gO.mp h;exact List.Nodup.idxOf_getElem hn m hm
theorem Wx {ns:List Nat} (h:ns.Pairwise (·<·)):ns.Nodup:=h.imp fun h=>gY h
theorem Vz {ns:List Nat} (h:ns.Pairwise (·<·)) {m x j:Nat} (hx:ns[m]?=some x) (hj:j∈ns) (bb:j<x):j∈ns.take m:=by
 obtain ⟨i,hi,e⟩:=FG hj;obtain ⟨hm,e'⟩:=gO.mp hx;have him:i<m:=fj fun z=>by
  rcases Nat.lt_or_eq_of_le (mH z) with z | z
  ·have:=Ck.mp h m i hm hi z;lia
  ·subst z;lia
 rw [<-e];exact List.mem_take_iff_getElem.mpr ⟨i,by lia,rfl⟩
def NF:Sp:=fun vs H Q _=>∃(rl:Addr) (qs:List Addr) (rows:List MU.Row) (last:Nat),vs=[.ref rl,.int (last:Int)]/\H rl=some (.lst (qs.map V.ref))/\Paired (pL H) qs rows/\QM rows/\last<rows.length/\rows.length<=16500000/\
 ∀l H' ns ps,H l=none->aI H H'->Io rows last ns->H' l=some (.lst (ps.map V.ref))->Paired (pL H') ps (Nm rows ns)->Q (.ref l) H'
abbrev RE:List Str:=["rows","last","places","paper","number","row"]
theorem zT:cG RE ["rows","last"] (aZ bJ):=cV
theorem Ym:iP (aZ bJ) RE (lT [(".0",.local),("used",.local),("places",.free)]) ["used","places"] [none,some 2]:=lU
theorem Yz:(["used","places"]:List Str).Nodup:=by decide+kernel
theorem ml (F:Fn K mg "paper_up_to" bJ ["rows","last"] f fd) (hL:mg "len"=none) (hT:mg "tuple"=none)
 (FN:Fn K mg "numbers_needed" bx ["rows","last"] fN pE) (GN:ar P w K mg base a9 1 fN pE ["rows","last"] MJ):ar P w K mg base a9 2 f fd ["rows","last"] NF:=by
 refine F.F.ix zT fun _ A _ s H _ Q E hr h=>?_
 ·obtain ⟨rl,qs,rows,last,rfl,gj,bX,hU,fV,hlen,k⟩:=h;have hu:=lY hr;refine ⟨_,cx (pQ (i:=2) zT.nd rfl (Or.inr rfl) OT)
   (cx (cA 3 zT.nd (jo oh))
   (cx (jw PassesOwn.never rfl (jq (cf GN hr FN (bw (pv 0) (pv 1)))) (bS 4 zT.nd)
    (cx (cA 5 zT.nd (de dW (pv 0) (pv 4) (fun _ _=>rfl)))
    (cx (Dd hu (pv 2) (pv 4) (jx wC (by rfl) hL uy (bM (pv 3))) rfl)
    (aE (gJ (rE su rg sr pV (pv 3) (bM (dB (iw (a8 (pv 5)) (a8 (pv 5)) (uU Qv (by rfl) hT (by decide+kernel) (bM (pe rfl (Hi (a8 (pv 5))) Ym (fun cl ex s0 H0=>⟨bS 0 Yz,pX,nc hu (pv 1) (pv 0) (fun _ _=>rfl)⟩)))))))))))))
   (aE (cC (pv 3))))),?_⟩
  refine fun N1 c1 d hd=>c1 _ _ ?_;have s1:=aG (o:=.dK []) hd;have e1:upd H d (.dK []) d=some (.dK []):=ai;generalize upd H d (.dK [])=H1 at*;clear c1 N1;refine fun N2 c2=>⟨d9 _,fun pl fh=>c2 _ _ ?_⟩;have s2:=aG (o:=.lst []) fh;have e2:upd H1 pl (.lst []) pl=some (.lst []):=ai;have Rm:H pl=none:=by
   cases q:H pl with
   | none=>rfl
   | some x=>rw [s1 _ _ q] at fh;cases fh
  have SV:d≠pl:=aR e1 fh;generalize upd H1 pl (.lst [])=H2 at*;clear c2 N2;have EI:=s1.trans s2;have xC:qs.length=rows.length:=Paired.length bX;refine fun N3 c3=>⟨_,rfl,_,rfl,rl,qs,rows,last,rfl,EI _ _ gj,gL bX fun q r e=>e.same EI,hU,fV,hlen,fun l H3 ns hl s3 el hN=>?_⟩;have oJ:=Wx hN.up;have zu:ns.length<=last+1:=MH.yM (last+1) ns oJ fun z hz=>by have:=hN.le z hz;lia
  have kZ:=EI.trans s3;have ed3:=s3 _ _ (s2 _ _ e1);have ep3:=s3 _ _ e2;have lH:H l=none:=by
   cases q:H l with
   | none=>rfl
   | some x=>rw [EI _ _ q] at hl;cases hl
  have ld:l≠d:=aD (aR (s2 _ _ e1) hl);have lp:l≠pl:=aD (aR e2 hl);refine ⟨l,rfl,⟨_,ax.of el⟩,?_⟩;refine om (K:=K) (a:=l) (xs:=ft ns) (fun m aa H'=>∃v4 v5 kvs ps,aa=[some (.ref rl),some (.int (last:Int)),some (.ref d),some (.ref pl),v4,v5]/\H' d=some (.dK kvs)/\kvs.length<=m/\
   (∀j:Nat,j∈ns.take m->fq kvs (Sum.inl (j:Int))=some (.int (ns.idxOf j:Int)))/\H' pl=some (.lst (ps.map V.ref))/\ps.length=m/\Paired (pL H') ps ((ns.take m).filterMap (yN rows ns))/\H' l=some (.lst (ft ns))/\aI H H')
   ⟨none,none,[],[],rfl,ed3,az _,fun j hj=>by simp at hj,ep3,rfl,.nil,el,kZ⟩ ?_ ?_ ?_
  ·rintro m aa H4 _ ⟨_,_,_,_,rfl,_,_,_,_,_,_,e,_⟩;exact ax.of e
  ·rintro m x aa H4 hx ⟨v4,v5,kvs,ps,rfl,ed,p0,ee,ep,uq,jf,SO,s4⟩;unfold ft at hx;rw [f9] at hx
   cases hj:ns[m]? with
   | none=>rw [hj] at hx;cases hx
   | some num=>
    rw [hj] at hx;cases hx;have hmn:m<ns.length:=(gO.mp hj).1;have K4:=hN.le num (gq hj);obtain ⟨q,hq⟩:∃q,qs[num]?=some q:=⟨_,kK (by lia)⟩;obtain ⟨r,aJ,pw,pu,g4,g5,g6⟩:=aX bX hq;have iH:iI (qs.map V.ref) (num:Int)=some (.ref q):=ko (by rw [f9,hq];rfl);refine fun N5 c5=>⟨_,rfl,oW rfl (s4 _ _ gj) iH (c5 _ _ ?_)⟩;clear c5 N5;refine fun N6 c6=>⟨_,rfl,pl,_,rfl,.inl (ax.of ep),_,rfl,_,rfl,d,_,rfl,rz.k (k:=Sum.inl (num:Int)) ed (Ao (by lia)),c6 _ _ ?_⟩;rw [aB,uq];clear c6 N6;have kd:∀{b:Addr} {o:HO},H4 b=some o->b≠d->upd H4 d (.dK (dU kvs (Sum.inl (num:Int)) (.int (m:Int)))) b=some o:=fun e ne=>by rw [ak ne];exact e
    have SS:upd H4 d (.dK (dU kvs (Sum.inl (num:Int)) (.int (m:Int)))) d=some (.dK (dU kvs (Sum.inl (num:Int)) (.int (m:Int)))):=ai;have s5:aI H (upd H4 d (.dK (dU kvs (Sum.inl (num:Int)) (.int (m:Int))))):=fun b o e=>kd (s4 _ _ e) (aR e hd);have SJ:=kd ep (aD SV);have eT:=kd SO ld;have Kv:Paired (pL (upd H4 d (.dK (dU kvs (Sum.inl (num:Int)) (.int (m:Int)))))) ps ((ns.take m).filterMap (yN rows ns)):=gL jf fun q r ⟨pw,pu,h1,h2,h3⟩=>
     ⟨pw,pu,kd h1 (cH h1 ed nofun),kd h2 (cH h2 ed nofun),kd h3 (cH h3 ed nofun)⟩
    generalize upd H4 d (.dK (dU kvs (Sum.inl (num:Int)) (.int (m:Int))))=H5 at*;have et:ns.take (m+1)=ns.take m++[num]:=by rw [lD,hj];rfl
    have BB:∀j:Nat,j∈ns.take (m+1)->fq (dU kvs (Sum.inl (num:Int)) (.int (m:Int))) (Sum.inl (j:Int))=some (.int (ns.idxOf j:Int)):=fun j jX=>by
     rw [A6]
     by_cases e:j=num
     ·subst e;rw [if_pos rfl,ZE oJ hj]
     ·rw [if_neg (show ¬((Sum.inl (j:Int):Key)=Sum.inl (num:Int)) from fun z=>e (Int.ofNat.inj (Sum.inl.inj z)))];rw [et] at jX;rcases i8.mp jX with h | h
      ·exact ee j h
      ·exact absurd (iK.mp h) e
    have xy:=hU num r aJ;refine ⟨_,rfl,.inl ⟨rfl,_,ax.of SJ⟩,_,rfl,ay (s5 _ _ g4) rfl ⟨_,rfl,ay (s5 _ _ g4) rfl ⟨_,rfl,ay (s5 _ _ g4) rfl ⟨pu,rfl,⟨_,c_.of (s5 _ _ g6)⟩,fun Da cK=>?_⟩⟩⟩⟩;refine N' (xs:=r.used.map fun i:Nat=>V.int (i:Int)) (fun a aa H'=>∃v,aa=[v,some (.ref d)]/\H' Da=some (.lst (((r.used.take a).map fun j=>ns.idxOf j).map fun i:Nat=>V.int (i:Int)))/\aI H5 H') ⟨none,rfl,ai,aG cK⟩ ?_ ?_ ?_
    ·rintro a aa H6 _ ⟨v,rfl,_,s6⟩;exact c_.of (s6 _ _ (s5 _ _ g6))
    ·rintro a x aa H6 hx ⟨v,rfl,e6,s6⟩;rw [f9] at hx
     cases r_:r.used[a]? with
     | none=>rw [r_] at hx;cases hx
     | some j=>
      rw [r_] at hx;cases hx;have z6:=gq r_;have hjn:=hN.uses num (gq hj) r aJ j z6;have gx:j∈ns.take (m+1):=by rw [et];exact iL _ (Vz hN.up hj hjn (xy.2 j z6))
      have dg:fm H6 d (.int (j:Int)) (some (.int (ns.idxOf j:Int))):=by
       have:=fm.k (k:=Sum.inl (j:Int)) (s6 _ _ SS);rw [BB j gx] at this;exact this
      refine ⟨_,rfl,_,rfl,d,_,rfl,dg,_,e6,?_,_,rfl,?_,fun b o e=>?_⟩
      ·rw [aB,aB,ie];exact gK (by lia)
      ·rw [ai,lD,r_,ef,ef];rfl
      ·rw [ak (aR e cK)];exact s6 _ _ e
    ·rintro aa H6 ⟨v,rfl,e6,s6⟩;have bL:r.used.take (r.used.map fun i:Nat=>V.int (i:Int)).length=r.used:=by rw [aB];exact jB
     rw [bL] at e6;refine ⟨Da,_,rfl,.inl ⟨ax.of e6,fun tu htu=>⟨dc rfl,fun rt Kr=>?_⟩⟩⟩;have s7:=aG (o:=.tup ((r.used.map fun j=>ns.idxOf j).map fun i:Nat=>V.int (i:Int))) htu;have e7:upd H6 tu (.tup ((r.used.map fun j=>ns.idxOf j).map fun i:Nat=>V.int (i:Int))) tu=some (.tup ((r.used.map fun j=>ns.idxOf j).map fun i:Nat=>V.int (i:Int))):=ai;generalize upd H6 tu (.tup ((r.used.map fun j=>ns.idxOf j).map fun i:Nat=>V.int (i:Int)))=H7 at*;have s8:=aG (o:=.tup [.ref pw,.str (lL r.word),.ref tu]) Kr;have e8:upd H7 rt (.tup [.ref pw,.str (lL r.word),.ref tu]) rt=some (.tup [.ref pw,.str (lL r.word),.ref tu]):=ai;generalize upd H7 rt (.tup [.ref pw,.str (lL r.word),.ref tu])=H8 at*;have vi:=(s6.trans s7).trans s8;have SI:=vi _ _ SJ;refine ⟨pl,_,_,rfl,rfl,SI,by rw [aB,uq];exact Ao (by lia),?_⟩;have kp:∀{b:Addr} {o:HO},H8 b=some o->b≠pl->upd H8 pl (.lst (ps.map V.ref++[.ref rt])) b=some o:=fun e ne=>by rw [ak ne];exact e
     have tup:∀{b:Addr} {xs:List V},H8 b=some (.tup xs)->upd H8 pl (.lst (ps.map V.ref++[.ref rt])) b=some (.tup xs):=fun e=>kp e (cH e SI nofun);refine ⟨_,_,_,ps++[rt],rfl,kp (vi _ _ SS) SV,eE (yX _ _ _) (by lia),BB,?_,by rw [ig,uq];rfl,?_,kp (vi _ _ eT) lp,fun b o e=>kp (vi _ _ (s5 _ _ e)) (aR e Rm)⟩
     ·rw [ai,ef];rfl
     ·rw [et,List.filterMap_append];refine p_ (gL Kv fun q r' ⟨pw',EL,h1,h2,h3⟩=>⟨pw',EL,tup (vi _ _ h1),tup (vi _ _ h2),tup (vi _ _ h3)⟩) ?_;have er:yN rows ns num=some ⟨r.cD,r.word,r.used.map fun j=>ns.idxOf j⟩:=by unfold yN;rw [aJ];rfl
      rw [show [num].filterMap (yN rows ns)=[⟨r.cD,r.word,r.used.map fun j=>ns.idxOf j⟩] by simp [er]];exact .cons ⟨pw,tu,tup e8,tup (vi _ _ (s5 _ _ g5)),tup (s8 _ _ e7)⟩ .nil
  ·rintro aa H4 ⟨v4,v5,kvs,ps,rfl,ed,p0,ee,ep,uq,jf,SO,s4⟩;have bL:ns.take (ft ns).length=ns:=by unfold ft;rw [aB];exact jB
   rw [bL] at jf;exact c3 _ _ ⟨_,rfl,k pl H4 ns ps Rm s4 hN ep jf⟩
def uM (F:MU.cq) (x:vJ):Bool:=match F x.2.1 with
 | some f=>decide (f.2.1<x.2.2) && decide (x.2.2<=f.2.2)
 | none=>false
def NG:Sp:=fun vs H Q _=>∃(d q:Addr) (F:MU.cq) (x:vJ) (f:Nat×Int×Int),vs=[.ref d,.ref q]/\mS H d F/\iN H q x/\F x.2.1=some f/\Q (.bl (uM F x)) H
theorem QD:cG ["by_end","wait","fall"] ["by_end","wait"] (aZ dG):=cV
theorem oC (F:Fn K mg "is_told" dG ["by_end","wait"] f fd):ar P w K mg base a9 1 f fd ["by_end","wait"] NG:=by
 refine F.F.ix QD fun _ A _ s H _ Q E hr h=>?_
 ·obtain ⟨d,q,Fa,x,fa,rfl,FA,hw,hf,k⟩:=h;have hu:=lY hr;refine ⟨_,a_ (cA 2 QD.nd (nc hu (pv 0) (a8 (pv 1)) (fun _ _=>rfl)))
   (aE (cC (HE uG mR (a8 (pv 2)) (a8 (pv 1)) (a8 (pv 2))))),?_⟩
  obtain ⟨kvs,hd,hl,f0,f1⟩:=FA.at_;obtain ⟨p,e1,e2⟩:=f1 _ _ hf;have ev:uM Fa x=(decide (fa.2.1<x.2.2) && decide (x.2.2<=fa.2.2)):=by unfold uM;rw [hf]
  rw [ev] at k;refine ⟨_,rfl,_,rfl,ay hw rfl ⟨d,_,rfl,e1▸fm.k (k:=Sum.inl (x.2.1:Int)) hd,?_⟩⟩;refine ⟨_,rfl,ay e2 rfl ⟨_,rfl,ay hw rfl ⟨_,_,rfl,rfl,_,rfl,?_⟩⟩⟩
  by_cases c:fa.2.1<x.2.2
  ·rw [jt c] at k;refine jc c ⟨_,rfl,ay e2 rfl ⟨_,_,rfl,rfl,?_⟩⟩;exact k
  ·rw [fY c] at k;exact kQ c k
def ZC (H:Hp) (r:Addr) (st:MU.St) (F:MU.cq):Prop:=∃lt lw ps qs L M,H r=some (.tup [.str "rule",.ref lt,.ref lw])/\H lt=some (.lst (ps.map V.ref))/\Paired (iN H) ps L/\DW st true L/\
 H lw=some (.lst (qs.map V.ref))/\Paired (iN H) qs (M.filter (uM F))/\DW st false M
def TY (H:Hp) (r:Addr) (st:MU.St) (b:Nat):Prop:=∃l ns ps,H r=some (.tup [.str "paper",.ref l])/\H l=some (.lst (ps.map V.ref))/\Paired (pL H) ps (Nm st.rows ns)/\Io st.rows b ns
def ir (n:Nat) (la:Int) (T F:List (List Int)) (Te:Nat):MU.St:=MU.run n (eC F) (lX n la T F) Te
def He (CW:Addr):Sp:=fun vs H Q _=>∃(wb:Addr) (n:Nat) (la:Int) (T F:List (List Int)) (Te:Nat),vs=[.ref wb]/\jG CW H wb (n:Int) la T F/\cB (n:Int) la T F/\yx n (eC F) (lX n la T F) Te/\
 ∀r H',H r=none->aI H H'->(∀b,(ir n la T F Te).bar=some b->TY H' r (ir n la T F Te) b->Q (.ref r) H')/\((ir n la T F Te).bar=none->ZC H' r (ir n la T F Te) (eC F)->Q (.ref r) H')
theorem Iw:cG ["web","closing","waits"] ["web"] (aZ gC):=cV
theorem Yj:iP (aZ gC) ["web","closing","waits"] (lT [(".0",.local),("wait",.local),("is_told",.globalImplicit),("closing",.free)]) ["wait","closing"] [none,some 1]:=lU
theorem Yw:(["wait","closing"]:List Str).Nodup:=by decide+kernel
theorem tX (F:Fn K mg "kept" gC ["web"] f fd) (T:o_ K mg C) (M:Mk K C fI) (hC:mg "Closing"=some (.ref C))
 (bI:eY K BY ["self","web"] []) (GI:ar P w K mg base a9 4 fI BY ["self","web"] (Nz C CW))
 (mA:jk K C "draw_all" fA) (bA:eY K fdA ["self"] []) (GA:ar P w K mg base a9 5 fA fdA ["self"] (Mj C))
 (mB:jk K C "best_drawn" fB) (bB:eY K sf ["self","kind"] []) (GB:ar P w K mg base a9 1 fB sf ["self","kind"] (MF C))
 (FP:Fn K mg "paper_up_to" bJ ["rows","last"] fP fdP) (GP:ar P w K mg base a9 2 fP fdP ["rows","last"] NF)
 (FT:Fn K mg "is_told" dG ["by_end","wait"] fT pD) (GT:ar P w K mg base a9 1 fT pD ["by_end","wait"] NG):ar P w K mg base a9 6 f fd ["web"] (He CW):=by
 refine F.F.ix Iw fun _ A _ s H _ Q E hr h=>?_
 ·obtain ⟨wb,n,la,rT,rF,Te,rfl,W0,af,hE,k⟩:=h;have fU:cY 1 _:=hr.mono (by decide);have j8:cY 2 _:=hr.mono (by decide);refine ⟨_,cx (pQ (i:=1) Iw.nd rfl (Or.inr rfl) (Ht M GI hr rfl hC bI .nil gv (bM (pv 0))))
   (cx (gJ (yO (pv 1) T.cl mA GA hr bA .nil gv))
   (cx (dR (dh Nl (fQ (pv 1) rfl) mY) (aE (cC (dB (bw eZ (cf GP j8 FP (bw (fQ (pv 1) rfl) (fQ (pv 1) rfl))))))) dZ)
   (cx (De (i:=2) Iw.nd rfl rfl rfl (jq (jI (pv 1) T.cl mB GB fU bB .nil gv (bM eZ))) Yj (fun cl ex s0 H0=>⟨bS 0 Yw,Ar (Ak (cf GT fU FT (bw (uQ (K:=K) rfl (pv 1) rfl) (pv 0)))),pv 0⟩))
   (aE (cC (dB (iw eZ (jI (pv 1) T.cl mB GB fU bB .nil gv (bM eZ)) (pv 2)))))))),?_⟩
  have n1:=af.n1;have n2:=af.n2;refine fun N1 c1=>⟨_,rfl,fun p dx hp Fp cW=>?_⟩;have W1:jG CW (upd (upd H dx (.own p)) p (.ins C dx [])) wb (n:Int) la rT rF:=W0.same fun b o e=>by rw [ak (aR e hp),ak (aR e Fp)];exact e
  have vp:∀b o,H b=some o->upd (upd H dx (.own p)) p (.ins C dx []) b=some o:=fun b o e=>by rw [ak (aR e hp),ak (aR e Fp)];exact e
  refine ⟨p,wb,dx,n,la,rT,rF,rfl,ai,W1,af,fun H2 be rl bd c2 qR gj fz k2=>⟨rfl,c1 _ _ ?_⟩⟩;have s2:aI H H2:=fun b o e=>k2 _ _ (vp _ _ e) (aR e hp);have vn:∀{b:Addr},upd (upd H dx (.own p)) p (.ins C dx []) b=none->H b=none:=fun {b} e=>by
   cases q:H b with
   | none=>rfl
   | some x=>rw [vp _ _ q] at e;cases e
  have EJ:=vn gj;have FD:=vn fz;clear c1 N1;obtain ⟨LP,jg⟩:=c2.ins;refine fun N2 SY=>⟨_,rfl,p,LP,_,rfl,jg,nZ,p,be,rl,bd,n,_,_,Te,rfl,c2,HY af,af.nO,by lia,hE,fun H3 c3 S3 k3=>SY _ _ ?_⟩;clear SY;have m6:MU.run n (eC rF) (lX n la rT rF) Te=ir n la rT rF Te:=rfl;rw [m6] at c3 S3;have s3:aI H H3:=fun b o e=>k3 _ _ (s2 _ _ e) (aR e hp) (aR e EJ) (aR e FD);have hU:MU.iB (ir n la rT rF Te):=MU.HH (MU.P_ _ _ MU.Qf) Te;have mE:(ir n la rT rF Te).rows.length<=16000000:=hE.mE Te (az _);generalize ir n la rT rF Te=st at*;obtain ⟨zI,jU⟩:=c3.ins;obtain ⟨qs,uj,bX⟩:=c3.rows;refine fun N3 SX=>⟨_,rfl,p,C,zI,_,_,rfl,jU,T.cl,T.nX,C7,rfl,_,rfl,?_⟩;have vo:∀{H':Hp} {b:Addr},aI H H'->H' b=none->H b=none:=fun {H' b} ss e=>by
   cases q:H b with
   | none=>rfl
   | some x=>rw [ss _ _ q] at e;cases e
  cases bG:st.bar with
  | some b=>
   obtain ⟨r0,Ks,_⟩:=hU.2 b bG;have hb:=(gO.mp Ks).1;refine sP rfl ⟨_,rfl,p,C,zI,_,_,rfl,jU,T.cl,T.nR,sT,_,rfl,p,C,zI,_,_,rfl,jU,T.cl,T.nX,C7,rl,qs,st.rows,b,by rw [bG];rfl,uj,bX,hU.1,hb,by lia,fun l H4 ns ps hl s4 hN el jf=>⟨dc rfl,fun r aJ=>?_⟩⟩;have s5:=aG (o:=.tup [.str "paper",.ref l]) aJ;have EH:=(s3.trans s4).trans s5;exact (k r _ (vo (s3.trans s4) aJ) EH).1 b bG ⟨l,ns,ps,ai,s5 _ _ el,gL jf fun q r e=>e.same s5,hN⟩
  | none=>
   refine jl rfl (SX _ _ ?_);clear SX N3;have EV:∀{tt:Bool} {L:List vJ},DW st tt L->L.length<=64/\∀x∈L,∃w',w'.tie=tt/\w'.b=x.2.1/\∃j,MU.ah st j=some w':=fun {tt L} hB=>by
    have mem:∀x∈L,∃w',w'.tie=tt/\w'.a=x.1/\w'.b=x.2.1/\∃j,MU.ah st j=some w':=fun x hx=>by
     obtain ⟨a,b,v⟩:=x;have hv:=(hB.has a b v).mp hx;unfold MU.val at hv
     cases hq:st.best (tt,a,b) with
     | none=>rw [hq] at hv;cases hv
     | some j=>
      obtain ⟨w',h1,h2⟩:=S3.good.at_ _ _ hq;have h4:=MU.iD h2;exact ⟨w',h4.1,h4.2.1,h4.2.2,j,h1⟩
    refine ⟨?_,fun x hx=>?_⟩
    ·have oJ:(L.map fun x=>x.1*8+x.2.1).Nodup:=by
      have h0:=hB.once;unfold List.Nodup at h0 ⊢;rw [List.pairwise_map] at h0 ⊢;refine List.Pairwise.imp_of_mem (fun {x y} hx hy e z=>e ?_) h0;obtain ⟨w1,_,a1,b1,j1,e1⟩:=mem x hx;obtain ⟨w2,_,a2,b2,j2,e2⟩:=mem y hy;have l1:=S3.good.lt _ _ e1;have l2:=S3.good.lt _ _ e2;exact Prod.ext (by show x.1=y.1;lia) (by show x.2.1=y.2.1;lia)
     have:=MH.yM 64 _ oJ fun z hz=>by
      obtain ⟨x,hx,rfl⟩:=eD.mp hz;obtain ⟨w1,_,a1,b1,j1,e1⟩:=mem x hx;have l1:=S3.good.lt _ _ e1;show x.1*8+x.2.1<64;lia
     rwa [aB] at this
    ·obtain ⟨w1,h1,_,h2,h3⟩:=mem x hx;exact ⟨w1,h1,h2,h3⟩
   refine fun N4 c4=>⟨_,rfl,p,zI,_,rfl,jU,nZ,p,be,rl,bd,n,_,st,false,rfl,c3,S3.good,by lia,by lia,fun l H4 ps M hl s4 el jf hM=>⟨l,rfl,⟨_,ax.of el⟩,fun Da cK=>?_⟩⟩;obtain ⟨hM64,hMw⟩:=EV hM;have fh:ps.length=M.length:=Paired.length jf;have SW:=c3.same s4;refine uT (K:=K) (a:=l) (xs:=ps.map V.ref) (fun i aa H'=>∃v ff,aa=[v,some (.ref p)]/\H' Da=some (.lst (ff.map V.ref))/\Paired (iN H') ff ((M.take i).filter (uM (eC rF)))/\ff.length<=i/\aI H4 H') ⟨none,[],rfl,ai,.nil,az _,aG cK⟩ ?_ ?_ ?_
   ·rintro i aa H5 _ ⟨v,ff,rfl,_,_,_,s5⟩;exact ax.of (s5 _ _ el)
   ·rintro i y aa H5 hy ⟨v,ff,rfl,e5,lu,Fh,s5⟩;rw [f9] at hy
    cases hq:ps[i]? with
    | none=>rw [hq] at hy;cases hy
    | some q=>
     rw [hq] at hy;cases hy;obtain ⟨x,hx,uk⟩:=aX jf hq;have hi:i<M.length:=(gO.mp hx).1;obtain ⟨w1,t1,b1,j1,g1⟩:=hMw x (gq hx);obtain ⟨fa,z9⟩:=S3.ends j1 w1 g1 t1;rw [b1] at z9;have c5:=SW.same s5;obtain ⟨LO,Ky⟩:=c5.ins;have et:M.take (i+1)=M.take i++[x]:=by rw [lD,hx];rfl
     refine ⟨_,rfl,p,C,LO,_,_,rfl,Ky,T.cl,T.nB,QO,_,rfl,be,q,_,x,fa,rfl,c5.ic,uk.same s5,z9,_,rfl,?_⟩
     cases ht:uM (eC rF) x with
     | true=>
      refine mL ⟨_,rfl,_,e5,?_,_,ff++[q],rfl,?_,?_,?_,fun b o e=>?_⟩
      ·rw [aB];exact gK (by lia)
      ·rw [ai,ef];rfl
      ·rw [et,List.filter_append];have kp:∀b y,iN H5 b y->iN (upd H5 Da (.lst (ff.map V.ref++[.ref q]))) b y:=fun b y e=>by
        unfold iN;rw [ak (cH e e5 nofun)];exact e
       refine p_ (gL lu kp) ?_;rw [show [x].filter (uM (eC rF))=[x] by simp [ht]];exact .cons (kp _ _ (uk.same s5)) .nil
      ·rw [ig];show ff.length+1<=i+1;lia
      ·rw [ak (aR e cK)];exact s5 _ _ e
     | false=>
      refine ip ⟨_,ff,rfl,e5,?_,by exact Nat.le.step Fh,s5⟩;rw [et,List.filter_append];rw [show [x].filter (uM (eC rF))=[] by simp [ht],List.append_nil];exact lu
   ·rintro aa H5 ⟨v,ff,rfl,e5,lu,Fh,s5⟩;have bL:M.take (ps.map V.ref).length=M:=by rw [aB,fh];exact jB
    rw [bL] at lu;refine c4 _ _ ?_;have c5:=SW.same s5;obtain ⟨LO,Ky⟩:=c5.ins;have EH:=(s3.trans s4).trans s5;refine ⟨_,rfl,p,LO,_,rfl,Ky,nZ,p,be,rl,bd,n,_,st,true,rfl,c5,S3.good,by lia,by lia,fun l6 H6 ps6 L vz s6 el6 Ku hL=>⟨_,rfl,dc rfl,fun r aJ=>?_⟩⟩;have s7:=aG (o:=.tup [.str "rule",.ref l6,.ref Da]) aJ;have IX:=s6.trans s7;exact (k r _ (vo (EH.trans s6) aJ) (EH.trans IX)).2 bG ⟨l6,Da,ps6,ff,L,M,ai,s7 _ _ el6,gL Ku fun q x e=>e.same s7,hL,IX _ _ e5,gL lu fun q x e=>e.same IX,hM⟩
end Y0
namespace MU
def Kn (st:St) (w:aj):Prop:=(w.a≠w.b->∃u,val st w.key=some u/\¬dE w.tie w.v u)/\(iA w->st.bar≠none)
theorem Kn.imp {w:aj} (h:Kn s w) (i:Imp s s'):Kn s' w:=by
 refine ⟨fun cW=>?_,fun hb=>i.1.bar (h.2 hb)⟩;obtain ⟨u,hu,nu⟩:=h.1 cW;obtain ⟨u',kE,JI⟩:=i.2 w.key u cW hu;exact ⟨u',kE,Ij nu JI⟩
theorem NJ (s:St) (w:aj) (word:Wd) (us:List Nat):Kn (take s w word us) w:=⟨fun h=>DL h,fun h=>Pt h⟩
theorem CB {p w:aj} (hp:ah s i=some p) (hf:f p=some w):Kn (aK f word i s) w:=by
 unfold aK;rw [hp];show Kn (put s (f p) word [i]) w;rw [hf];exact NJ _ _ _ _
theorem CD {p q w:aj} (hp:ah s i=some p) (hq:ah s j=some q) (hf:f p q=some w):Kn (ao f word i j s) w:=by
 unfold ao;rw [hp];show Kn (put s ((ah s j).bind fun q=>f p q) word [i,j]) w;rw [hq];show Kn (put s (f p q) word [i,j]) w;rw [hf];exact NJ _ _ _ _
theorem Di (hf:∀s j,Imp s (f s j)) {l:List Nat} {j:Nat} {w:aj} (hj:j∈l) (h:∀s1,Imp s s1->Kn (f s1 j) w):Kn (l.foldl f s) w:=by
 obtain ⟨s1,i1,i2⟩:=Ia hf l s j hj;exact (h s1 i1).imp i2
theorem AB (e:Ext s s') (h:s'.best k=some j) (hj:j<s.rows.length):s.best k=some j:=by
 rcases e.best k with h' | ⟨i,h',hi⟩
 ·rw [<-h'];exact h
 ·rw [h] at h';cases h';lia
variable {n:Nat} {F:cq} {s fs:St} {at_ a b:Nat} {p:aj}
section
variable (hp:ah s at_=some p) (hZ:Imp (dY n F at_ a b s) fs)
theorem WX {w:aj} (hp:ah s at_=some p) (h:cT F p=some w):Kn (dY n F at_ a b s) w:=
 (CB hp h).imp ((gc _ _ _ _).trans ((dz (fun _ _=>cJ ..) _ _).trans ((dz (fun _ _=>cJ ..) _ _).trans (dz (fun _ _=>cJ ..) _ _))))
theorem Xk {w:aj} (hp:ah s at_=some p) (h:da F p=some w):Kn (dY n F at_ a b s) w:=
 (CB (bY (gc _ _ _ _).1 hp) h).imp ((dz (fun _ _=>cJ ..) _ _).trans ((dz (fun _ _=>cJ ..) _ _).trans (dz (fun _ _=>cJ ..) _ _)))
theorem Xl {w q:aj} {c j:Nat} (hp:ah s at_=some p) (hZ:Imp (dY n F at_ a b s) fs) (hc:c<n) (hb:fs.best (true,b,c)=some j) (hj:j<s.rows.length) (hq:ah fs j=some q) (h:a7 p q=some w):Kn (dY n F at_ a b s) w:=by
 have i2:Imp s (aK (da F) .bh at_ (aK (cT F) .aA at_ s)):=(gc _ _ _ _).trans (gc _ _ _ _);unfold dY at hZ ⊢;dsimp only at hZ ⊢;generalize aK (da F) .bh at_ (aK (cT F) .aA at_ s)=s2 at*;have r3:=(dz (f:=fun st j=>ao a7 .sum j at_ st) (fun _ _=>cJ ..) (dq n ((cL n s2 true b).foldl (fun st j=>ao a7 .sum at_ j st) s2) a) ((cL n s2 true b).foldl (fun st j=>ao a7 .sum at_ j st) s2)).trans (dz (f:=fun st j=>ao (bf F) .back j at_ st) (fun _ _=>cJ ..) (cL n ((dq n ((cL n s2 true b).foldl (fun st j=>ao a7 .sum at_ j st) s2) a).foldl (fun st j=>ao a7 .sum j at_ st) ((cL n s2 true b).foldl (fun st j=>ao a7 .sum at_ j st) s2)) false b) _);have e3:Imp s2 fs:=((dz (f:=fun st j=>ao a7 .sum at_ j st) (fun _ _=>cJ ..) (cL n s2 true b) s2).trans r3).trans hZ;have r_:j<s2.rows.length:=jb hj i2.1.len;refine Kn.imp (Di (fun _ _=>cJ ..) (j:=j) (List.mem_filterMap.mpr ⟨c,List.mem_range.mpr hc,AB e3.1 hb r_⟩) fun s1 i1=>?_) r3;exact CD (bY (i2.1.trans i1.1) hp) (bY i1.1 (rQ e3.1 r_ hq)) h
theorem Xm {w q:aj} {c j:Nat} (hp:ah s at_=some p) (hZ:Imp (dY n F at_ a b s) fs) (hc:c<n) (hb:fs.best (true,c,a)=some j) (hj:j<s.rows.length) (hq:ah fs j=some q) (h:a7 q p=some w):Kn (dY n F at_ a b s) w:=by
 have i2:Imp s (aK (da F) .bh at_ (aK (cT F) .aA at_ s)):=(gc _ _ _ _).trans (gc _ _ _ _);unfold dY at hZ ⊢;dsimp only at hZ ⊢;generalize aK (da F) .bh at_ (aK (cT F) .aA at_ s)=s2 at*;have i3:=i2.trans (dz (f:=fun st j=>ao a7 .sum at_ j st) (fun _ _=>cJ ..) (cL n s2 true b) s2);generalize (cL n s2 true b).foldl (fun st j=>ao a7 .sum at_ j st) s2=s3 at*;have r4:=dz (f:=fun st j=>ao (bf F) .back j at_ st) (fun _ _=>cJ ..) (cL n ((dq n s3 a).foldl (fun st j=>ao a7 .sum j at_ st) s3) false b) ((dq n s3 a).foldl (fun st j=>ao a7 .sum j at_ st) s3);have e3:Imp s3 fs:=((dz (f:=fun st j=>ao a7 .sum j at_ st) (fun _ _=>cJ ..) (dq n s3 a) s3).trans r4).trans hZ;have Sf:j<s3.rows.length:=jb hj i3.1.len;refine Kn.imp (Di (fun _ _=>cJ ..) (j:=j) (List.mem_filterMap.mpr ⟨c,List.mem_range.mpr hc,AB e3.1 hb Sf⟩) fun s1 i1=>?_) r4;exact CD (bY i1.1 (rQ e3.1 Sf hq)) (bY (i3.1.trans i1.1) hp) h
theorem WW {w q:aj} {e j:Nat} (hp:ah s at_=some p) (hZ:Imp (dY n F at_ a b s) fs) (hc:e<n) (hb:fs.best (false,b,e)=some j) (hj:j<s.rows.length) (hq:ah fs j=some q) (h:bf F q p=some w):Kn (dY n F at_ a b s) w:=by
 have i2:Imp s (aK (da F) .bh at_ (aK (cT F) .aA at_ s)):=(gc _ _ _ _).trans (gc _ _ _ _);unfold dY at hZ ⊢;dsimp only at hZ ⊢;generalize aK (da F) .bh at_ (aK (cT F) .aA at_ s)=s2 at*;have i3:=i2.trans (dz (f:=fun st j=>ao a7 .sum at_ j st) (fun _ _=>cJ ..) (cL n s2 true b) s2);generalize (cL n s2 true b).foldl (fun st j=>ao a7 .sum at_ j st) s2=s3 at*;have i4:=i3.trans (dz (f:=fun st j=>ao a7 .sum j at_ st) (fun _ _=>cJ ..) (dq n s3 a) s3);generalize (dq n s3 a).foldl (fun st j=>ao a7 .sum j at_ st) s3=s4 at*;have e4:Imp s4 fs:=(dz (f:=fun st j=>ao (bf F) .back j at_ st) (fun _ _=>cJ ..) (cL n s4 false b) s4).trans hZ;have Se:j<s4.rows.length:=jb hj i4.1.len;refine Di (fun _ _=>cJ ..) (j:=j) (List.mem_filterMap.mpr ⟨e,List.mem_range.mpr hc,AB e4.1 hb Se⟩) fun s1 i1=>?_;exact CD (bY i1.1 (rQ e4.1 Se hq)) (bY (i4.1.trans i1.1) hp) h
theorem Xt {w:aj} (hp:ah s at_=some p) (h:df F p=some w):Kn (fu n F at_ a s) w:=
 (CB hp h).imp ((gc _ _ _ _).trans (dz (fun _ _=>cJ ..) _ _))
theorem X7 {w:aj} (hp:ah s at_=some p) (h:cS F p=some w):Kn (fu n F at_ a s) w:=
 (CB (bY (gc _ _ _ _).1 hp) h).imp (dz (fun _ _=>cJ ..) _ _)
theorem Xs {w q:aj} {c j:Nat} (hp:ah s at_=some p) (hZ:Imp (fu n F at_ a s) fs) (hc:c<n) (hb:fs.best (true,c,a)=some j) (hj:j<s.rows.length) (hq:ah fs j=some q) (h:bf F p q=some w):Kn (fu n F at_ a s) w:=by
 have i2:Imp s (aK (cS F) .aq at_ (aK (df F) .sure at_ s)):=(gc _ _ _ _).trans (gc _ _ _ _);unfold fu at hZ ⊢;dsimp only at hZ ⊢;generalize aK (cS F) .aq at_ (aK (df F) .sure at_ s)=s2 at*;have e2:Imp s2 fs:=(dz (f:=fun st j=>ao (bf F) .back at_ j st) (fun _ _=>cJ ..) (dq n s2 a) s2).trans hZ;have r_:j<s2.rows.length:=jb hj i2.1.len;refine Di (fun _ _=>cJ ..) (j:=j) (List.mem_filterMap.mpr ⟨c,List.mem_range.mpr hc,AB e2.1 hb r_⟩) fun s1 i1=>?_;exact CD (bY (i2.1.trans i1.1) hp) (bY i1.1 (rQ e2.1 r_ hq)) h
end
structure Fin (n:Nat) (F:cq) (most:Int) (s0:St) (T:Nat):Prop where
 nO:g_ n F most
 good:cm n s0
 first:∀t,t<T->t<(run n F s0 t).rows.length
 stop:(run n F s0 T).rows.length<=T
variable {n:Nat} {F:cq} {most:Int} {s0:St} {T:Nat}
theorem Fin.ev (h:Fin n F most s0 T) (hb:(run n F s0 T).best k=some i) (hp:ah (run n F s0 T) i=some p):
 i<(run n F s0 i).rows.length/\ah (run n F s0 i) i=some p/\(run n F s0 i).best k=some i/\Imp (run n F s0 (i+1)) (run n F s0 T):=by
 have hi:=m_ hp;have KW:i<T:=jb hi h.stop;have h1:=h.first i KW;have e:=sZ (n:=n) (F:=F) (s:=s0) (bp KW);exact ⟨h1,rQ e.1 h1 hp,AB e.1 hb h1,sZ KW⟩
theorem Fin.row (h:Fin n F most s0 T) (hv:val (run n F s0 T) (t,a,b)=some v):∃i p,(run n F s0 T).best (t,a,b)=some i/\ah (run n F s0 T) i=some p/\p.tie=t/\p.a=a/\p.b=b/\p.v=v/\a<n/\b<n:=by
 have g:=yP h.nO h.good T;obtain ⟨i,p,h1,h2,h3,h4⟩:=A7 g hv;obtain ⟨k1,k2,k3⟩:=iD h3;have l:=g.lt _ _ h2;exact ⟨i,p,h1,h2,k1,k2,k3,h4,by lia,by lia⟩
theorem Fin.tie (h:Fin n F most s0 T) (hb:(run n F s0 T).best (true,a,b)=some i) (hp:ah (run n F s0 T) i=some p) (pt:p.tie=true) (pa:p.a=a) (pb:p.b=b):
 Imp (dY n F i a b (run n F s0 i)) (run n F s0 T):=by
 obtain ⟨_,e2,e3,e4⟩:=h.ev hb hp;have:run n F s0 (i+1)=dY n F i a b (run n F s0 i):=Ds e2 pt pa pb e3;rw [<-this];exact e4
theorem Fin.aA (h:Fin n F most s0 T) (hv:val (run n F s0 T) (true,a,b)=some v) (lR:a≠b) (hf:F b=some f):Kn (run n F s0 T) ⟨false,a,b,f.2.2-v⟩:=by
 obtain ⟨i,p,h1,h2,pt,pa,pb,pv,_⟩:=h.row hv;obtain ⟨_,e2,_⟩:=h.ev h1 h2;refine (WX e2 ?_).imp (h.tie h1 h2 pt pa pb);unfold cT;rw [if_pos ⟨pt,by rw [pa,pb];exact lR⟩,pb,hf,pa,pv];rfl
theorem Fin.bh (h:Fin n F most s0 T) (hv:val (run n F s0 T) (true,a,b)=some v) (lR:a≠b) (bb:v<0) (hf:F a=some f):Kn (run n F s0 T) ⟨true,f.1,b,f.2.1+v⟩:=by
 obtain ⟨i,p,h1,h2,pt,pa,pb,pv,_⟩:=h.row hv;obtain ⟨_,e2,_⟩:=h.ev h1 h2;refine (Xk e2 ?_).imp (h.tie h1 h2 pt pa pb);unfold da;rw [if_pos ⟨pt,by rw [pa,pb];exact lR,by rw [pv];exact bb⟩,pa,hf,pb,pv];rfl
theorem Fin.sum (h:Fin n F most s0 T) (hv:val (run n F s0 T) (true,a,b)=some v) (hu:val (run n F s0 T) (true,b,c)=some u):Kn (run n F s0 T) ⟨true,a,c,v+u⟩:=by
 obtain ⟨i,p,h1,h2,pt,pa,pb,pv,an,bn⟩:=h.row hv;obtain ⟨j,q,j1,j2,qt,qa,qb,qv,_,cn⟩:=h.row hu;have hs:a7 p q=some ⟨true,a,c,v+u⟩:=by
  unfold a7;rw [if_pos ⟨pt,qt,by rw [pb,qa]⟩,pa,qb,pv,qv]
 obtain ⟨i1,e2,_⟩:=h.ev h1 h2;obtain ⟨J',nP,_⟩:=h.ev j1 j2
 by_cases fi:j<=i
 ·have hZ:=h.tie h1 h2 pt pa pb;exact (Xl e2 hZ cn j1 (Nat.lt_of_le_of_lt fi i1) j2 hs).imp hZ
 ·have hZ:=h.tie j1 j2 qt qa qb;exact (Xm nP hZ an h1 (Nat.lt_of_le_of_lt (by lia) J') h2 hs).imp hZ
theorem Fin.wait (h:Fin n F most s0 T) (hb:(run n F s0 T).best (false,a,b)=some i) (hp:ah (run n F s0 T) i=some p) (pt:p.tie=false) (pa:p.a=a) (pb:p.b=b):
 Imp (fu n F i a (run n F s0 i)) (run n F s0 T):=by
 obtain ⟨_,e2,e3,e4⟩:=h.ev hb hp;have:run n F s0 (i+1)=fu n F i a (run n F s0 i):=by
  rw [<-pa];exact HV e2 pt (by unfold aj.key;rw [pt,pa,pb];exact e3)
 rw [<-this];exact e4
theorem Fin.sure (h:Fin n F most s0 T) (hv:val (run n F s0 T) (false,a,b)=some v) (hf:F b=some f):Kn (run n F s0 T) ⟨true,a,f.1,-min v f.2.1⟩:=by
 obtain ⟨i,p,h1,h2,pt,pa,pb,pv,_⟩:=h.row hv;obtain ⟨_,e2,_⟩:=h.ev h1 h2;refine (Xt e2 ?_).imp (h.wait h1 h2 pt pa pb);unfold df;rw [if_pos pt,pb,hf,pa,pv];rfl
theorem Fin.aq (h:Fin n F most s0 T) (hv:val (run n F s0 T) (false,a,b)=some v) (lR:a≠b) (h0:0<v) (ho:F a=some o) (hf:F b=some f):Kn (run n F s0 T) ⟨false,o.1,b,min v f.2.2-o.2.1⟩:=by
 obtain ⟨i,p,h1,h2,pt,pa,pb,pv,_⟩:=h.row hv;obtain ⟨_,e2,_⟩:=h.ev h1 h2;refine (X7 e2 ?_).imp (h.wait h1 h2 pt pa pb);unfold cS;rw [if_pos ⟨pt,by rw [pa,pb];exact lR,by rw [pv];exact h0⟩,pa,ho,pb,hf,pv];rfl
theorem Fin.back (h:Fin n F most s0 T) (hv:val (run n F s0 T) (false,a,b)=some v) (hu:val (run n F s0 T) (true,c,a)=some u) (Li:c≠b) (hf:F b=some f):Kn (run n F s0 T) ⟨false,c,b,min v f.2.2-u⟩:=by
 obtain ⟨i,p,h1,h2,pt,pa,pb,pv,an,bn⟩:=h.row hv;obtain ⟨j,q,j1,j2,qt,qa,qb,qv,cn,_⟩:=h.row hu;have hs:bf F p q=some ⟨false,c,b,min v f.2.2-u⟩:=by
  unfold bf;rw [if_pos ⟨pt,qt,by rw [qb,pa],by rw [qa,pb];exact Li⟩,pb,hf,qa,pv,qv];rfl
 obtain ⟨i1,e2,_⟩:=h.ev h1 h2;obtain ⟨J',nP,_⟩:=h.ev j1 j2
 by_cases fi:j<=i
 ·have hZ:=h.wait h1 h2 pt pa pb;exact (Xs e2 hZ cn j1 (Nat.lt_of_le_of_lt fi i1) j2 hs).imp hZ
 ·have hZ:=h.tie j1 j2 qt qa qb;exact (WW nP hZ bn h1 (Nat.lt_of_le_of_lt (by lia) J') h2 hs).imp hZ
def kN (C:aj->Prop) (st:St):Prop:=∀i w,ah st i=some w->C w
theorem Hv (h:kN C st) (ho:∀w,o=some w->C w):kN C (put st o word us):=fun i w hw=>by
 by_cases hi:i<st.rows.length
 ·exact h i w (rQ (rO _ _ _ _) hi hw)
 ·exact rN ho i w (by exact mH hi) hw
theorem CL (hf:∀p w,C p->f p=some w->C w) (h:kN C st):kN C (aK f word i st):=Hv h fun w e=>by
 cases hp:ah st i with
 | none=>rw [hp] at e;cases e
 | some p=>rw [hp] at e;exact hf p w (h i p hp) e
theorem CM (hf:∀p q w,C p->C q->f p q=some w->C w) (h:kN C st):kN C (ao f word i j st):=Hv h fun w e=>by
 cases hp:ah st i with
 | none=>rw [hp] at e;cases e
 | some p=>
  rw [hp] at e;have e:((ah st j).bind fun q=>f p q)=some w:=e
  cases hq:ah st j with
  | none=>rw [hq] at e;cases e
  | some q=>rw [hq] at e;exact hf p q w (h i p hp) (h j q hq) e
theorem AA (hg:∀s j,kN C s->kN C (g s j)):∀(l:List Nat) (s:St),kN C s->kN C (l.foldl g s)
 | [],_,h=>h
 | a::l,s,h=>AA hg l _ (hg s a h)
structure QK (F:cq) (C:aj->Prop):Prop where
 sum:∀p q w,C p->C q->a7 p q=some w->C w
 aA:∀p w,C p->cT F p=some w->C w
 bh:∀p w,C p->da F p=some w->C w
 sure:∀p w,C p->df F p=some w->C w
 back:∀p q w,C p->C q->bf F p q=some w->C w
 aq:∀p w,C p->cS F p=some w->C w
theorem NO (G:QK F C) (h:kN C s):∀t,kN C (run n F s t)
 | 0=>h
 | t+1=>by
  have ih:=NO G h t;show kN C (look n F t (run n F s t));unfold look;split
  ·split
   ·split
    ·exact AA (fun _ _ h=>CM G.back h) _ _ (AA (fun _ _ h=>CM G.sum h) _ _ (AA (fun _ _ h=>CM G.sum h) _ _ (CL G.bh (CL G.aA ih))))
    ·exact AA (fun _ _ h=>CM G.back h) _ _ (CL G.aq (CL G.sure ih))
   ·exact ih
  ·exact ih
theorem Py:∀(rows:List aj) (s:St),kN C s->(∀w∈rows,C w)->kN C (lJ rows s)
 | [],_,h,_=>h
 | w::r,s,h,hw=>Py r _ (Hv (o:=some w) h fun w' e=>by cases e;exact hw _ eG) fun w' kD=>hw w' (gz _ kD)
theorem WO:kN C empty:=fun i w h=>by unfold ah empty at h;simp at h
def u5 (F:cq) (D:aj->Prop) (st:St) (r:Row):Prop:=
 (r.word=.told/\r.used=[]/\D r.cD)\/
 (r.word=.aA/\∃i p,r.used=[i]/\ah st i=some p/\cT F p=some r.cD)\/
 (r.word=.bh/\∃i p,r.used=[i]/\ah st i=some p/\da F p=some r.cD)\/
 (r.word=.sure/\∃i p,r.used=[i]/\ah st i=some p/\df F p=some r.cD)\/
 (r.word=.aq/\∃i p,r.used=[i]/\ah st i=some p/\cS F p=some r.cD)\/
 (r.word=.sum/\∃i j p q,r.used=[i,j]/\ah st i=some p/\ah st j=some q/\a7 p q=some r.cD)\/
 (r.word=.back/\∃i j p q,r.used=[i,j]/\ah st i=some p/\ah st j=some q/\bf F p q=some r.cD)
variable {F:cq} {D:aj->Prop} {n:Nat}
theorem u5.ext (h:u5 F D s r) (e:Ext s s'):u5 F D s' r:=by
 have o:∀{f:aj->Option aj},(∃i p,r.used=[i]/\ah s i=some p/\f p=some r.cD)->∃i p,r.used=[i]/\ah s' i=some p/\f p=some r.cD:=fun ⟨i,p,h1,h2,h3⟩=>⟨i,p,h1,bY e h2,h3⟩;have t:∀{f:aj->aj->Option aj},(∃i j p q,r.used=[i,j]/\ah s i=some p/\ah s j=some q/\f p q=some r.cD)->∃i j p q,r.used=[i,j]/\ah s' i=some p/\ah s' j=some q/\f p q=some r.cD:=fun ⟨i,j,p,q,h1,h2,h3,h4⟩=>⟨i,j,p,q,h1,bY e h2,bY e h3,h4⟩;rcases h with h | ⟨w,h⟩ | ⟨w,h⟩ | ⟨w,h⟩ | ⟨w,h⟩ | ⟨w,h⟩ | ⟨w,h⟩
 ·exact .inl h
 ·exact .inr (.inl ⟨w,o h⟩)
 ·exact .inr (.inr (.inl ⟨w,o h⟩))
 ·exact .inr (.inr (.inr (.inl ⟨w,o h⟩)))
 ·exact .inr (.inr (.inr (.inr (.inl ⟨w,o h⟩))))
 ·exact .inr (.inr (.inr (.inr (.inr (.inl ⟨w,t h⟩)))))
 ·exact .inr (.inr (.inr (.inr (.inr (.inr ⟨w,t h⟩)))))
def Drawn (F:cq) (D:aj->Prop) (st:St):Prop:=∀(i:Nat) (r:Row),st.rows[i]?=some r->u5 F D st r
theorem PZ {w:aj} (h:Drawn F D st) (hr:u5 F D st ⟨w,word,us⟩):Drawn F D (take st w word us):=fun i r hi=>by
 have e:=A0 st w word us;unfold take at hi;split at hi
 ·have hi:(st.rows++[(⟨w,word,us⟩:Row)])[i]?=some r:=hi
  by_cases hl:i<st.rows.length
  ·rw [sk hl] at hi;exact (h i r hi).ext e
  ·rw [rf (by exact mH hl)] at hi
   cases hk:i-st.rows.length with
   | zero=>rw [hk] at hi;cases hi;exact hr.ext e
   | succ k=>rw [hk] at hi;cases hi
 ·exact (h i r hi).ext e
theorem P9 (h:Drawn F D st) (hr:∀w,o=some w->u5 F D st ⟨w,word,us⟩):Drawn F D (put st o word us):=by
 cases o with
 | none=>exact h
 | some w=>exact PZ h (hr w rfl)
theorem Dm (h:Drawn F D st) (hr:∀w,(∃i' p,[i]=[i']/\ah st i'=some p/\f p=some w)->u5 F D st ⟨w,word,[i]⟩):Drawn F D (aK f word i st):=P9 h fun w e=>by
 cases hp:ah st i with
 | none=>rw [hp] at e;cases e
 | some p=>rw [hp] at e;exact hr w ⟨i,p,rfl,hp,e⟩
theorem Ow (h:Drawn F D st) (hr:∀w,(∃i' j' p q,[i,j]=[i',j']/\ah st i'=some p/\ah st j'=some q/\f p q=some w)->u5 F D st ⟨w,word,[i,j]⟩):Drawn F D (ao f word i j st):=P9 h fun w e=>by
 cases hp:ah st i with
 | none=>rw [hp] at e;cases e
 | some p=>
  rw [hp] at e;have e:((ah st j).bind fun q=>f p q)=some w:=e
  cases hq:ah st j with
  | none=>rw [hq] at e;cases e
  | some q=>rw [hq] at e;exact hr w ⟨i,j,p,q,rfl,hp,hq,e⟩
theorem AH (hg:∀s j,Drawn F D s->Drawn F D (g s j)):∀(l:List Nat) (s:St),Drawn F D s->Drawn F D (l.foldl g s)
 | [],_,h=>h
 | a::l,s,h=>AH hg l _ (hg s a h)
theorem PF (h:Drawn F D s):∀t,Drawn F D (run n F s t)
 | 0=>h
 | t+1=>by
  have ih:=PF h t;show Drawn F D (look n F t (run n F s t));unfold look;have sum:∀i j s,Drawn F D s->Drawn F D (ao a7 .sum i j s):=fun i j s h=>Ow h fun w e=>.inr (.inr (.inr (.inr (.inr (.inl ⟨rfl,e⟩)))));have back:∀i j s,Drawn F D s->Drawn F D (ao (bf F) .back i j s):=fun i j s h=>Ow h fun w e=>.inr (.inr (.inr (.inr (.inr (.inr ⟨rfl,e⟩)))));split
  ·split
   ·split
    ·exact AH (fun s j h=>back j t s h) _ _ (AH (fun s j h=>sum j t s h) _ _ (AH (fun s j h=>sum t j s h) _ _ (Dm (Dm ih fun w e=>.inr (.inl ⟨rfl,e⟩)) fun w e=>.inr (.inr (.inl ⟨rfl,e⟩)))))
    ·exact AH (fun s j h=>back t j s h) _ _ (Dm (Dm ih fun w e=>.inr (.inr (.inr (.inl ⟨rfl,e⟩)))) fun w e=>.inr (.inr (.inr (.inr (.inl ⟨rfl,e⟩)))))
   ·exact ih
  ·exact ih
theorem Qo:∀(rows:List aj) (s:St),Drawn F D s->(∀w∈rows,D w)->Drawn F D (lJ rows s)
 | [],_,h,_=>h
 | w::r,s,h,hw=>Qo r _ (PZ h (.inl ⟨rfl,rfl,hw w eG⟩)) fun w' kD=>hw w' (gz _ kD)
theorem XB:Drawn F D empty:=fun i r h=>by simp [empty] at h
end MU
namespace HK
abbrev cq:=Nat->Option (Nat×Int×Int)
structure Cl (F:cq) (u w:Nat->Nat->Option Int):Prop where
 irr:∀a,u a a=none
 loop:∀{a b v v'},u a b=some v->u b a=some v'->0<=v+v'
 sum:∀{a b c v v'},u a b=some v->u b c=some v'->a≠c->∃z,u a c=some z/\z<=v+v'
 aA:∀{a e v f},u a e=some v->F e=some f->∃z,w a e=some z/\f.2.2-v<=z
 bh:∀{e b v f},u e b=some v->v<0->F e=some f->(b=f.1/\0<=f.2.1+v)\/∃z,u f.1 b=some z/\z<=f.2.1+v
 sure:∀{a e x f},w a e=some x->F e=some f->(a=f.1/\min x f.2.1<=0)\/∃z,u a f.1=some z/\z<=-min x f.2.1
 back:∀{x e a k v f},w x e=some k->u a x=some v->F e=some f->a≠e->∃z,w a e=some z/\min k f.2.2-v<=z
 aq:∀{e' e k g f},w e' e=some k->0<k->F e'=some g->F e=some f->∃z,w g.1 e=some z/\min k f.2.2-g.2.1<=z
 long:∀{x e k f},w x e=some k->F e=some f->f.2.2<k->(∃v,u x e=some v/\v<0)\/∃y k0 v v' k1,u x y=some v'/\v'<=v/\w y e=some k1/\k0<=k1/\k=min k0 f.2.2-v
 cF:∀{e f},F e=some f->1<=f.2.1/\f.2.1<=f.2.2/\F f.1=none
structure Inv (F:cq) (u w:Nat->Nat->Option Int) (c:Nat->Option Int) (i:Int):Prop where
 past:∀{x s},c x=some s->s<i
 K:∀{x y s t v},c x=some s->c y=some t->u x y=some v->t<=s+v
 dl:∀{x y s v},c x=some s->c y=none->u x y=some v->i<=s+v
 W:∀{x e s k f},c x=some s->w x e=some k->F e=some f->f.2.1<k->(∃t,c e=some t/\t<=s)\/∃t,c f.1=some t/\t+k<=s
 fel:∀{e f t},F e=some f->c e=some t->∃s,c f.1=some s/\s+f.2.1<=t/\t<=s+f.2.2
 due:∀{e f s},F e=some f->c e=none->c f.1=some s->i<=s+f.2.2
def Im (F:cq) (u w:Nat->Nat->Option Int) (c:Nat->Option Int) (i:Int) (R:Nat->Prop) (y:Nat):Prop:=
 (∀z v,u y z=some v->(∀t,c z=some t->t<=i+v)/\(c z=none->0<v\/(v=0/\R z)))/\
 ∀e k f,w y e=some k->F e=some f->f.2.1<k->k<=f.2.2->(∃t,c e=some t)\/∃t,c f.1=some t/\t+k<=i
structure Out (F:cq) (c:Nat->Option Int) (i:Int) (S:Nat->Prop):Prop where
 ok:∀{e},S e->∃f s,F e=some f/\c e=none/\c f.1=some s/\s+f.2.1<=i/\i<=s+f.2.2
 all:∀{e f s},F e=some f->c e=none->c f.1=some s->s+f.2.2<=i->S e
open Classical in
def put (c:Nat->Option Int) (i:Int) (S:Nat->Prop):Nat->Option Int:=fun x=>if S x then some i else c x
theorem An (h:S x):put c i S x=some i:=if_pos h
theorem me (h:¬S x):put c i S x=c x:=if_neg h
theorem iE (h:put c i S x=some t):(S x/\t=i)\/(¬S x/\c x=some t):=by
 by_cases e:S x
 ·rw [An e] at h;cases h;exact .inl ⟨e,rfl⟩
 ·rw [me e] at h;exact .inr ⟨e,h⟩
theorem wx (h:put c i S x=none):¬S x/\c x=none:=by
 by_cases e:S x
 ·rw [An e] at h;cases h
 ·rw [me e] at h;exact ⟨e,h⟩
section
variable {F:cq} {u w:Nat->Nat->Option Int} {c:Nat->Option Int} {i:Int} {S:Nat->Prop}
theorem Ye (I:Inv F u w c i) (hx:c x=some s) (h:u x y=some v) (hl:s+v<i):∃t,c y=some t/\t<=s+v:=by
 cases hy:c y with
 | none=>have:=I.dl hx hy h;lia
 | some t=>exact ⟨t,rfl,I.K hx hy h⟩
theorem Zr (C:Cl F u w) (I:Inv F u w c i) (O:Out F c i S) (he:S e) (h:u e z=some v):(∀t,put c i S z=some t->t<=i+v)/\(put c i S z=none->0<=v):=by
 obtain ⟨f,s,h1,h2,h3,h4,h5⟩:=O.ok he
 by_cases hv:0<=v
 ·refine ⟨fun t ht=>?_,fun _=>hv⟩;rcases iE ht with ⟨_,rfl⟩ | ⟨_,ht⟩
  ·lia
  ·have:=I.past ht;lia
 ·rcases C.bh h (by lia) h1 with ⟨rfl,h6⟩ | ⟨y,h6,h7⟩
  ·refine ⟨fun t ht=>?_,fun ht=>?_⟩
   ·rcases iE ht with ⟨hs,_⟩ | ⟨_,ht⟩
    ·obtain ⟨f',s',g1,_⟩:=O.ok hs;rw [(C.cF h1).2.2] at g1;cases g1
    ·rw [h3] at ht;cases ht;lia
   ·rw [(wx ht).2] at h3;cases h3
  ·have hl:=C.cF h1;obtain ⟨t,h8,h9⟩:=Ye I h3 h6 (by lia);have hn:¬S z:=fun hs=>by
    obtain ⟨f',s',_,g2,_⟩:=O.ok hs;rw [g2] at h8;cases h8
   rw [me hn,h8];exact ⟨fun t' e=>by cases e;lia,fun e=>nomatch e⟩
variable {n:Nat} {r:Nat->Prop}
structure rp (F:cq) (u w:Nat->Nat->Option Int) (n:Nat) (c1:Nat->Option Int) (i:Int) (r:Nat->Prop):Prop where
 own:∀{y},r y->F y=none/\c1 y=none
 lt:∀{y},r y->y<n
 lets:∀{y},r y->Im F u w c1 i r y
 most:∀R:Nat->Prop,(∀y,R y->F y=none/\c1 y=none/\y<n)->(∀y,R y->Im F u w c1 i R y)->∀y,R y->r y
theorem Dc (O:Out F c i S) (h:F x=none):¬S x:=fun hs=>by
 obtain ⟨f,s,h1,_⟩:=O.ok hs;rw [h] at h1;cases h1
theorem up1 (O:Out F c i S) (h:c x=some t):put c i S x=some t:=by
 refine (me fun hs=>?_).trans h;obtain ⟨f,s,_,h2,_⟩:=O.ok hs;rw [h] at h2;cases h2
theorem KK (C:Cl F u w) (I:Inv F u w c i) (O:Out F c i S) (R:rp F u w n (put c i S) i r) (hx:put (put c i S) i r x=some s) (h:u x z=some v):(∀t,put c i S z=some t->t<=s+v)/\(put c i S z=none->i<=s+v):=by
 rcases iE hx with ⟨hr,es⟩ | ⟨_,hx⟩
 ·obtain ⟨h1,h2⟩:=(R.lets hr).1 z v h;rw [es];refine ⟨h1,fun hz=>?_⟩;rcases h2 hz with h3 | h3<;>lia
 ·rcases iE hx with ⟨hs,es⟩ | ⟨_,hx⟩
  ·obtain ⟨h1,h2⟩:=Zr C I O hs h;rw [es];exact ⟨h1,fun hz=>by have:=h2 hz;lia⟩
  ·refine ⟨fun t ht=>?_,fun hz=>I.dl hx (wx hz).2 h⟩;rcases iE ht with ⟨hs,et⟩ | ⟨_,ht⟩
   ·obtain ⟨f,s',_,g2,_⟩:=O.ok hs;rw [et];exact I.dl hx g2 h
   ·exact I.K hx ht h
theorem Qb (C:Cl F u w) (I:Inv F u w c i) (O:Out F c i S) (R:rp F u w n (put c i S) i r) (hx:put (put c i S) i r x=some s) (h:w x e=some k) (hf:F e=some f) (hk:k<=f.2.1) (hs:s-k<i):∃t,c f.1=some t/\t<=s-k:=by
 have hm:min k f.2.1=k:=by lia
 have ho:=Dc O (C.cF hf).2.2;rcases C.sure h hf with ⟨e1,h1⟩ | ⟨z,h1,h2⟩
 ·rw [hm] at h1;rw [e1] at hx;rcases iE hx with ⟨hr,rfl⟩ | ⟨_,hx⟩
  ·lia
  ·rw [me ho] at hx;exact ⟨s,hx,by lia⟩
 ·rw [hm] at h2;obtain ⟨g1,g2⟩:=KK C I O R hx h1
  cases hb:c f.1 with
  | none=>
   have:=g2 (by rw [me ho];exact hb);lia
  | some t=>exact ⟨t,rfl,by have:=g1 t (by rw [me ho];exact hb);lia⟩
theorem P6 (C:Cl F u w) (I:Inv F u w c i) (O:Out F c i S) (R:rp F u w n (put c i S) i r) (hx:put (put c i S) i r x=some s) (h:w x e=some k) (hf:F e=some f) (hk:f.2.1<k):(∃t,put c i S e=some t/\t<=s)\/∃t,c f.1=some t/\t+k<=s:=by
 have hl:=C.cF hf;have ho:=Dc O hl.2.2;have over:∀{t},c f.1=some t->t+f.2.2<=i->∃t',put c i S e=some t'/\t'<=i:=fun {t} ht hm=>by
  cases he:c e with
  | some t'=>exact ⟨t',up1 O he,by have:=I.past he;exact f_ this⟩
  | none=>exact ⟨i,An (O.all hf he ht hm),Int.le_refl _⟩
 have old:∀{y sy ky},c y=some sy->w y e=some ky->sy-ky<i->(∃t,put c i S e=some t/\t<=sy)\/∃t,c f.1=some t/\t<=sy-ky:=fun {y sy ky} hy hw bb=>by
  by_cases pA:f.2.1<ky
  ·rcases I.W hy hw hf pA with ⟨t,h1,h2⟩ | ⟨t,h1,h2⟩
   ·exact .inl ⟨t,up1 O h1,h2⟩
   ·exact .inr ⟨t,h1,by lia⟩
  ·refine .inr ?_;have hy2:put (put c i S) i r y=some sy:=by
    refine (me fun hr=>?_).trans (up1 O hy);have:=(R.own hr).2;rw [up1 O hy] at this;cases this
   exact Qb C I O R hy2 hw hf (by lia) bb
 rcases iE hx with ⟨hr,es⟩ | ⟨_,hx⟩
 ·
  rw [es]
  by_cases hm:k<=f.2.2
  ·rcases (R.lets hr).2 e k f h hf hk hm with ⟨t,h1⟩ | ⟨t,h1,h2⟩
   ·refine .inl ⟨t,h1,?_⟩;rcases iE h1 with ⟨_,et⟩ | ⟨_,h1⟩
    ·lia
    ·have:=I.past h1;exact f_ this
   ·rw [me ho] at h1;exact .inr ⟨t,h1,h2⟩
  ·rcases C.long h hf (by lia) with ⟨v,h1,h2⟩ | ⟨y,k0,v,v',k1,h1,h2,h3,h4,h5⟩
   ·obtain ⟨g1,g2⟩:=(R.lets hr).1 e v h1
    cases he:put c i S e with
    | none=>have:=g2 he;omega
    | some t=>exact .inl ⟨t,rfl,by have:=g1 t he;lia⟩
   ·obtain ⟨g1,g2⟩:=(R.lets hr).1 y v' h1;have hv:v<0:=by omega
    cases hy:put c i S y with
    | none=>have:=g2 hy;omega
    | some sy=>
     have hsy:=g1 sy hy;have hyc:c y=some sy:=by
      rcases iE hy with ⟨_,et⟩ | ⟨_,hy⟩
      ·lia
      ·exact hy
     by_cases hp:sy-k1<i
     ·rcases old hyc h3 hp with ⟨t,a1,a2⟩ | ⟨t,a1,a2⟩
      ·exact .inl ⟨t,a1,by lia⟩
      ·exact .inr ⟨t,a1,by lia⟩
     ·omega
 ·rcases iE hx with ⟨hs,es⟩ | ⟨_,hx⟩
  ·
   rw [es];obtain ⟨g,sb,h1,h2,h3,h4,h5⟩:=O.ok hs;have hg:=C.cF h1;obtain ⟨z,h6,h7⟩:=C.aq h (by lia) h1 hf
   by_cases hp:sb-z<i
   ·rcases old h3 h6 hp with ⟨t,a1,a2⟩ | ⟨t,a1,a2⟩
    ·exact .inl ⟨t,a1,by lia⟩
    ·by_cases hm:k<=f.2.2
     ·exact .inr ⟨t,a1,by lia⟩
     ·exact .inl (over a1 (by lia))
   ·omega
  ·rcases I.W hx h hf hk with ⟨t,a1,a2⟩ | ⟨t,a1,a2⟩
   ·exact .inl ⟨t,up1 O a1,a2⟩
   ·exact .inr ⟨t,a1,a2⟩
theorem OM (C:Cl F u w) (I:Inv F u w c i) (O:Out F c i S) (R:rp F u w n (put c i S) i r) (hx:put (put c i S) i r x=some s) (h:w x e=some k) (hf:F e=some f) (hs:s-k<i):(∃t,put c i S e=some t/\t<=s)\/∃t,c f.1=some t/\t<=s-k:=by
 by_cases hk:f.2.1<k
 ·rcases P6 C I O R hx h hf hk with h | ⟨t,h1,h2⟩
  ·exact .inl h
  ·exact .inr ⟨t,h1,by lia⟩
 ·exact .inr (Qb C I O R hx h hf (by lia) hs)
theorem Oy (C:Cl F u w) (I:Inv F u w c i) (O:Out F c i S) (R:rp F u w n (put c i S) i r) (hx:put (put c i S) i r x=some s) (h:u x z=some v) (hf:F z=some f) (hd:s+v<=i):∃t,put c i S z=some t:=by
 obtain ⟨k,h1,h2⟩:=C.aA h hf;have hl:=C.cF hf;rcases OM C I O R hx h1 hf (by lia) with ⟨t,h3,_⟩ | ⟨t,h3,h4⟩
 ·exact ⟨t,h3⟩
 ·cases hz:c z with
  | some t'=>exact ⟨t',up1 O hz⟩
  | none=>exact ⟨i,An (O.all hf hz h3 (by lia))⟩
theorem Wl (C:Cl F u w) (I:Inv F u w c i) (O:Out F c i S) (R:rp F u w n (put c i S) i r) (lt:∀{a b v},u a b=some v->b<n) (hx:put (put c i S) i r x=some s) (h:u x y=some v) (hf:F y=none) (hy:put c i S y=none) (hd:s+v<=i):r y:=by
 refine R.most (fun y=>r y\/(F y=none/\put c i S y=none/\∃x s v,put (put c i S) i r x=some s/\u x y=some v/\s+v<=i)) ?_ ?_ y (.inr ⟨hf,hy,x,s,v,hx,h,hd⟩)
 ·rintro y (h | ⟨h1,h2,x,s,v,_,h3,_⟩)
  ·obtain ⟨h1,h2⟩:=R.own h;exact ⟨h1,h2,R.lt h⟩
  ·exact ⟨h1,h2,lt h3⟩
 ·rintro y (hr | ⟨h1,h2,x,s,v,hx,h3,hd⟩)
  ·obtain ⟨g1,g2⟩:=R.lets hr;refine ⟨fun z v hz=>⟨(g1 z v hz).1,fun hn=>?_⟩,g2⟩;rcases (g1 z v hz).2 hn with h | ⟨h,h'⟩
   ·exact .inl h
   ·exact .inr ⟨h,.inl h'⟩
  ·refine ⟨fun z v' hz=>?_,fun e k f hw hf hk hm=>?_⟩
   ·by_cases e:x=z
    ·subst e;have hl:=C.loop h3 hz;refine ⟨fun t ht=>?_,fun hn=>?_⟩
     ·rcases iE hx with ⟨hr,rfl⟩ | ⟨_,hx⟩
      ·rw [(R.own hr).2] at ht;cases ht
      ·rw [hx] at ht;cases ht;lia
     ·rcases iE hx with ⟨hr,rfl⟩ | ⟨_,hx⟩
      ·by_cases h0:v'=0
       ·exact .inr ⟨h0,.inl hr⟩
       ·exact .inl (by lia)
      ·rw [hx] at hn;cases hn
    ·obtain ⟨z0,h4,h5⟩:=C.sum h3 hz e;obtain ⟨g1,g2⟩:=KK C I O R hx h4;refine ⟨fun t ht=>by have:=g1 t ht;lia,fun hn=>?_⟩;have:=g2 hn
     by_cases h0:v'=0
     ·cases z8:F z with
      | some f=>
       obtain ⟨t,ht⟩:=Oy C I O R hx h4 z8 (by lia);rw [hn] at ht;cases ht
      | none=>exact .inr ⟨h0,.inr ⟨z8,hn,x,s,z0,hx,h4,by lia⟩⟩
     ·exact .inl (by lia)
   ·by_cases e':x=e
    ·subst e';rcases iE hx with ⟨hr,_⟩ | ⟨_,hx⟩
     ·rw [(R.own hr).1] at hf;cases hf
     ·exact .inl ⟨s,hx⟩
    ·obtain ⟨k1,h4,h5⟩:=C.back hw h3 hf e';have hl:=C.cF hf;rcases OM C I O R hx h4 hf (by lia) with ⟨t,a1,_⟩ | ⟨t,a1,a2⟩
     ·exact .inl ⟨t,a1⟩
     ·exact .inr ⟨t,up1 O a1,by lia⟩
theorem Inv.next (C:Cl F u w) (I:Inv F u w c i) (O:Out F c i S) (R:rp F u w n (put c i S) i r) (lt:∀{a b v},u a b=some v->b<n):Inv F u w (put (put c i S) i r) (i+1):=by
 have old:∀{x t},put c i S x=some t->put (put c i S) i r x=some t:=fun {x t} h=>by
  refine (me fun hr=>?_).trans h;rw [(R.own hr).2] at h;cases h
 have le:∀{x s},put c i S x=some s->s<=i:=fun {x s} h=>by
  rcases iE h with ⟨_,rfl⟩ | ⟨_,h⟩
  ·exact Int.le_refl _
  ·have:=I.past h;exact f_ this
 refine ⟨fun {x s} h=>?_,fun {x y s t v} hx hy h=>?_,fun {x y s v} hx hy h=>?_,fun {x e s k f} hx h hf hk=>?_,fun {e f t} hf he=>?_,fun {e f s} hf he hb=>?_⟩
 ·rcases iE h with ⟨_,rfl⟩ | ⟨_,h⟩
  ·lia
  ·have:=le h;lia
 ·obtain ⟨g1,g2⟩:=KK C I O R hx h;rcases iE hy with ⟨hr,rfl⟩ | ⟨_,hy⟩
  ·exact g2 (R.own hr).2
  ·exact g1 t hy
 ·obtain ⟨hn,hy⟩:=wx hy;have:=(KK C I O R hx h).2 hy
  by_cases hd:s+v<=i
  ·cases hf:F y with
   | some f=>
    obtain ⟨t,ht⟩:=Oy C I O R hx h hf hd;rw [hy] at ht;cases ht
   | none=>exact absurd (Wl C I O R lt hx h hf hy hd) hn
  ·lia
 ·rcases P6 C I O R hx h hf hk with ⟨t,h1,h2⟩ | ⟨t,h1,h2⟩
  ·exact .inl ⟨t,old h1,h2⟩
  ·exact .inr ⟨t,old (up1 O h1),h2⟩
 ·rcases iE he with ⟨hr,_⟩ | ⟨_,he⟩
  ·rw [(R.own hr).1] at hf;cases hf
  ·rcases iE he with ⟨hs,rfl⟩ | ⟨_,he⟩
   ·obtain ⟨f',s,h1,h2,h3,h4,h5⟩:=O.ok hs;rw [hf] at h1;cases h1;exact ⟨s,old (up1 O h3),h4,h5⟩
   ·obtain ⟨s,h1,h2⟩:=I.fel hf he;exact ⟨s,old (up1 O h1),h2⟩
 ·obtain ⟨_,he⟩:=wx he;obtain ⟨hs,he⟩:=wx he;have hl:=C.cF hf;rcases iE hb with ⟨_,rfl⟩ | ⟨_,hb⟩
  ·lia
  ·rw [me (Dc O hl.2.2)] at hb;have:=I.due hf he hb
   by_cases hd:s+f.2.2<=i
   ·exact absurd (O.all hf he hb hd) hs
   ·lia
end
end HK
namespace MU
variable {n:Nat} {F:cq} {most:Int} {s0:St} {T:Nat} {D:aj->Prop}
theorem HG (g:cm n st) (hb:st.bar=none) (hp:ah st i=some p):∃z,val st p.key=some z/\¬dE p.tie p.v z:=by
 obtain ⟨j,fi,hj⟩:=g.top i p hp;obtain ⟨w',h1,h2⟩:=g.at_ _ _ hj;refine ⟨w'.v,pf hj h1,?_⟩
 by_cases e:i=j
 ·subst e;rw [hp] at h1;cases h1;exact yZ _ _
 ·exact PM (g.drop hb i j p w' hp h1 h2.symm (by lia))
theorem CO (hb:st.bar=none) (h:Kn st ⟨true,a,b,v⟩):(a=b/\0<=v)\/∃z,val st (true,a,b)=some z/\z<=v:=by
 by_cases e:a=b
 ·refine .inl ⟨e,?_⟩
  by_cases hv:v<0
  ·exact absurd hb (h.2 ⟨rfl,e,hv⟩)
  ·lia
 ·obtain ⟨z,h1,h2⟩:=h.1 e;refine .inr ⟨z,h1,?_⟩;unfold dE at h2;rw [if_pos rfl] at h2;have h2:¬v<z:=h2;lia
theorem Ho (e:a≠b) (h:Kn st ⟨false,a,b,v⟩):∃z,val st (false,a,b)=some z/\v<=z:=by
 obtain ⟨z,h1,h2⟩:=h.1 e;refine ⟨z,h1,?_⟩;unfold dE at h2;rw [if_neg f7] at h2;have h2:¬z<v:=h2;lia
theorem Fin.cl (h:Fin n F most s0 T) (hb:(run n F s0 T).bar=none) (hD:Drawn F D (run n F s0 T)) (hT:∀x,D x->x.tie=true):HK.Cl F (fun a b=>val (run n F s0 T) (true,a,b)) (fun a b=>val (run n F s0 T) (false,a,b)):=by
 have g:=yP h.nO h.good T;have ne:∀{t a b v},val (run n F s0 T) (t,a,b)=some v->a≠b:=fun {t a b v} hv=>by
  obtain ⟨i,p,_,h2,_,pa,pb,_⟩:=h.row hv;have:=g.ne hb i p h2;rw [pa,pb] at this;exact this
 refine ⟨fun a=>?_,fun {a b v v'} h1 h2=>?_,fun {a b c v v'} h1 h2 vC=>?_,fun {a e v f} h1 hf=>?_,fun {e b v f} h1 hv hf=>?_,fun {a e x f} h1 hf=>?_,fun {x e a k v f} h1 h2 hf Sr=>?_,fun {e' e k g' f} h1 hk hg hf=>?_,fun {x en k f} h1 hf hk=>?_,fun {e f} hf=>?_⟩
 ·cases hv:val (run n F s0 T) (true,a,a) with
  | none=>rfl
  | some v=>exact absurd rfl (ne hv)
 ·rcases CO hb (h.sum h1 h2) with ⟨_,h3⟩ | ⟨z,h3,_⟩
  ·exact h3
  ·exact absurd rfl (ne h3)
 ·rcases CO hb (h.sum h1 h2) with ⟨e,_⟩ | h3
  ·exact absurd e vC
  ·exact h3
 ·exact Ho (ne h1) (h.aA h1 (ne h1) hf)
 ·rcases CO hb (h.bh h1 (ne h1) hv hf) with ⟨e1,e2⟩ | h3
  ·exact .inl ⟨e1.symm,e2⟩
  ·exact .inr h3
 ·rcases CO hb (h.sure h1 hf) with ⟨e1,e2⟩ | h3
  ·exact .inl ⟨e1,by lia⟩
  ·exact .inr h3
 ·exact Ho Sr (h.back h1 h2 Sr hf)
 ·refine Ho ?_ (h.aq h1 (ne h1) hk hg hf);intro e1;have:=h.nO.own _ _ hg;rw [e1,hf] at this;cases this
 ·obtain ⟨i,p,_,h2,pt,pa,pb,pv,_⟩:=h.row h1;have nN:=h2;unfold ah at h2
  cases hr:(run n F s0 T).rows[i]? with
  | none=>rw [hr] at h2;cases h2
  | some r=>
   rw [hr] at h2;have h2:r.cD=p:=eF h2;have nt:∀{x y z},r.cD=(⟨true,x,y,z⟩:aj)->False:=fun {x y z} e=>by rw [<-h2,e] at pt;cases pt
   rcases hD i r hr with ⟨_,_,d⟩ | ⟨_,i',q,_,hq,e⟩ | ⟨_,i',q,_,_,e⟩ | ⟨_,i',q,_,_,e⟩ | ⟨_,i',q,_,_,e⟩ | ⟨_,i',j',q,q',_,_,_,e⟩ | ⟨_,i',j',q,q',_,hq,iW,e⟩
   ·have:=hT _ d;rw [h2,pt] at this;cases this
   ·unfold cT at e;split at e
    ·rename_i c
     cases nI:F q.b with
     | none=>rw [nI] at e;cases e
     | some f'=>
      rw [nI] at e;have e:=(eF e).symm;rw [h2] at e;have qa:q.a=x:=by rw [<-pa,e]
      have qb:q.b=en:=by rw [<-pb,e]
      rw [qb,hf] at nI;cases nI;have kv:k=f.2.2-q.v:=by rw [<-pv,e]
      obtain ⟨z,z1,z2⟩:=HG g hb hq;have mz:q.key=(true,x,en):=by unfold aj.key;rw [c.1,qa,qb]
      rw [mz] at z1;unfold dE at z2;rw [if_pos c.1] at z2;exact .inl ⟨z,z1,by lia⟩
    ·cases e
   ·unfold da at e;split at e
    ·cases hf:F q.a with
     | none=>rw [hf] at e;cases e
     | some f=>rw [hf] at e;exact (nt (eF e).symm).elim
    ·cases e
   ·unfold df at e;split at e
    ·cases hf:F q.b with
     | none=>rw [hf] at e;cases e
     | some f=>rw [hf] at e;exact (nt (eF e).symm).elim
    ·cases e
   ·unfold cS at e;split at e
    ·cases ho:F q.a with
     | none=>rw [ho] at e;cases e
     | some o=>
      rw [ho] at e
      cases Fo:F q.b with
      | none=>rw [Fo] at e;cases e
      | some f'=>
       rw [Fo] at e;have e:=(eF e).symm;rw [h2] at e;have qb:q.b=en:=by rw [<-pb,e]
       rw [qb,hf] at Fo;cases Fo;have kv:k=min q.v f.2.2-o.2.1:=by rw [<-pv,e]
       have:=h.nO.num _ _ ho;omega
    ·cases e
   ·unfold a7 at e;split at e
    ·exact (nt (eF e).symm).elim
    ·cases e
   ·unfold bf at e;split at e
    ·rename_i c
     cases nI:F q.b with
     | none=>rw [nI] at e;cases e
     | some f'=>
      rw [nI] at e;have e:=(eF e).symm;rw [h2] at e;have qa:q'.a=x:=by rw [<-pa,e]
      have qb:q.b=en:=by rw [<-pb,e]
      rw [qb,hf] at nI;cases nI;have kv:k=min q.v f.2.2-q'.v:=by rw [<-pv,e]
      obtain ⟨z,z1,z2⟩:=HG g hb iW;obtain ⟨y,y1,y2⟩:=HG g hb hq;have mz:q'.key=(true,x,q.a):=by unfold aj.key;rw [c.2.1,qa,c.2.2.1]
      have BD:q.key=(false,q.a,en):=by unfold aj.key;rw [c.1,qb]
      rw [mz] at z1;rw [BD] at y1;unfold dE at z2 y2;rw [if_pos c.2.1] at z2;rw [if_neg (by rw [c.1];exact f7)] at y2;exact .inr ⟨q.a,q.v,q'.v,z,y,z1,by omega,y1,by lia,kv⟩
    ·cases e
 ·have:=h.nO.num _ _ hf;exact ⟨this.1,this.2.1,h.nO.own _ _ hf⟩
end MU
namespace HK
abbrev rm:=Nat->Option (Nat×Int×Int)
def h_ (F:rm) (o:Nat->Int):Prop:=∀e f,F e=some f->f.2.1<=o e/\o e<=f.2.2
def il (o:Nat->Int) (e:Nat) (l:Int):Nat->Int:=fun x=>if x=e then l else o x
theorem sW (o:Nat->Int) (e:Nat) (l:Int):il o e l e=l:=if_pos rfl
theorem wq (h:x≠e):il o e l x=o x:=if_neg h
theorem h_.set (h:h_ F o) (hf:F e=some f) (h1:f.2.1<=l) (h2:l<=f.2.2):h_ F (il o e l):=fun x g hx=>by
 by_cases c:x=e
 ·subst c;rw [hf] at hx;cases hx;rw [sW];exact ⟨h1,h2⟩
 ·rw [wq c];exact h x g hx
structure dA (F:rm) (n:Nat) (tm:(Nat->Int)->Nat->Int):Prop where
 cF:∀{o e f},h_ F o->F e=some f->tm o e=tm o f.1+o e
 q_:∀{o e f l t},h_ F o->F e=some f->f.2.1<=l->l<=f.2.2->t<tm o f.1+o e->t<tm o f.1+l->∀{m},m<n->tm o m<=t->tm (il o e l) m=tm o m
def Tc (F:rm) (n:Nat) (tm:(Nat->Int)->Nat->Int) (w:MU.aj):Prop:=w.a<n/\w.b<n/\(w.tie=true->∀o,h_ F o->tm o w.b<=tm o w.a+w.v)/\
 (w.tie=false->∀f,F w.b=some f->∀o,h_ F o->tm o f.1+w.v<=tm o w.a\/tm o w.b<=tm o w.a)
section
variable {F:rm} {n:Nat} {most:Int} {tm:(Nat->Int)->Nat->Int} {o:Nat->Int} {e:Nat} {f:Nat×Int×Int} {l:Int}
theorem fo (hF:MU.g_ n F most) (hf:F e=some f):f.1<n/\e<n/\1<=f.2.1/\f.2.1<=f.2.2:=⟨(hF.lt _ _ hf).1,(hF.lt _ _ hf).2,(hF.num _ _ hf).1,(hF.num _ _ hf).2.1⟩
theorem dA.begin (S:dA F n tm) (hF:MU.g_ n F most) (ho:h_ F o) (hf:F e=some f) (h1:f.2.1<=l) (h2:l<=f.2.2):tm (il o e l) f.1=tm o f.1:=by
 have h:=fo hF hf;have:=ho e f hf;exact S.q_ ho hf h1 h2 (t:=tm o f.1) (by omega) (by omega) (by omega) (by omega)
theorem dA.aA (S:dA F n tm) (hF:MU.g_ n F most) (ha:a<n) (ho:h_ F o) (hf:F e=some f) (h1:tm o a<tm o e):
 h_ F (il o e f.2.2)/\tm (il o e f.2.2) a=tm o a/\tm (il o e f.2.2) f.1=tm o f.1/\tm (il o e f.2.2) e=tm o f.1+f.2.2:=by
 have h:=fo hF hf;have h2:=ho e f hf;have h3:=S.cF ho hf;have ok:=ho.set hf (l:=f.2.2) (by omega) (by omega);have h4:=S.begin hF ho hf (l:=f.2.2) (by omega) (by omega);refine ⟨ok,S.q_ ho hf (by omega) (by omega) (t:=tm o a) (by omega) (by omega) ha (by omega),h4,?_⟩;rw [S.cF ok hf,h4,sW]
theorem dA.gk (S:dA F n tm) (hF:MU.g_ n F most):MU.QK F (Tc F n tm):=by
 refine ⟨fun p q w hp hq h=>?_,fun p w hp h=>?_,fun p w hp h=>?_,fun p w hp h=>?_,fun p q w hp hq h=>?_,fun p w hp h=>?_⟩
 ·unfold MU.a7 at h;split at h
  next c=>
   cases h;refine ⟨hp.1,hq.2.1,fun _ o ho=>?_,nofun⟩;have h1:=hp.2.2.1 c.1 o ho;have h2:=hq.2.2.1 c.2.1 o ho;rw [<-c.2.2] at h2;show tm o q.b<=tm o p.a+(p.v+q.v);omega
  ·cases h
 ·unfold MU.cT at h;split at h
  next c=>
   cases hf:F p.b with
   | none=>rw [hf] at h;cases h
   | some f=>
    rw [hf] at h;cases h;refine ⟨hp.1,hp.2.1,nofun,fun _ g hg o ho=>?_⟩;have hg:F p.b=some g:=hg;rw [hf] at hg;cases hg;show tm o f.1+(f.2.2-p.v)<=tm o p.a\/tm o p.b<=tm o p.a
    by_cases h1:tm o p.a<tm o p.b
    ·obtain ⟨k1,k2,k3,k4⟩:=S.aA hF hp.1 ho hf h1;have:=hp.2.2.1 c.1 _ k1;rw [k2,k4] at this;left;omega
    ·right;omega
  ·cases h
 ·unfold MU.da at h;split at h
  next c=>
   cases hf:F p.a with
   | none=>rw [hf] at h;cases h
   | some f=>
    rw [hf] at h;cases h;have hb:=fo hF hf;refine ⟨by show f.1<n;omega,hp.2.1,fun _ o ho=>?_,nofun⟩;show tm o p.b<=tm o f.1+(f.2.1+p.v);have h2:=ho _ _ hf;have ok:=ho.set hf (l:=f.2.1) (by omega) (by omega);have k4:=S.begin hF ho hf (l:=f.2.1) (by omega) (by omega);have h3:=hp.2.2.1 c.1 _ ok;rw [S.cF ok hf,k4,sW] at h3;have e1:il (il o p.a f.2.1) p.a (o p.a)=o:=by
     funext x
     by_cases z:x=p.a
     ·rw [z,sW]
     ·rw [wq z,wq z]
    have h5:=S.q_ ok hf (l:=o p.a) (t:=tm (il o p.a f.2.1) p.b) (by omega) (by omega) (by rw [k4,sW];omega) (by rw [k4];omega) hp.2.1 (by omega);rw [e1] at h5;omega
  ·cases h
 ·unfold MU.df at h;split at h
  next c=>
   cases hf:F p.b with
   | none=>rw [hf] at h;cases h
   | some f=>
    rw [hf] at h;cases h;have hb:=fo hF hf;refine ⟨hp.1,by show f.1<n;omega,fun _ o ho=>?_,nofun⟩;show tm o f.1<=tm o p.a+ -min p.v f.2.1;have h2:=ho _ _ hf;have h3:=S.cF ho hf;rcases hp.2.2.2 c f hf o ho with h | h<;>omega
  ·cases h
 ·unfold MU.bf at h;split at h
  next c=>
   cases hf:F p.b with
   | none=>rw [hf] at h;cases h
   | some f=>
    rw [hf] at h;cases h;refine ⟨hq.1,hp.2.1,nofun,fun _ g hg o ho=>?_⟩;have hg:F p.b=some g:=hg;rw [hf] at hg;cases hg;show tm o f.1+(min p.v f.2.2-q.v)<=tm o q.a\/tm o p.b<=tm o q.a
    by_cases h1:tm o q.a<tm o p.b
    ·obtain ⟨k1,k2,k3,k4⟩:=S.aA hF hq.1 ho hf h1;have h2:=hq.2.2.1 c.2.1 _ k1;rw [k2,c.2.2.1] at h2;have h3:=hp.2.2.2 c.1 f hf _ k1;rw [k3,k4] at h3;left;omega
    ·right;omega
  ·cases h
 ·unfold MU.cS at h;split at h
  next c=>
   cases hg:F p.a with
   | none=>rw [hg] at h;cases h
   | some g=>
    rw [hg] at h
    cases hf:F p.b with
    | none=>rw [hf] at h;cases h
    | some f=>
     rw [hf] at h;cases h;have hb:=fo hF hg;have dQ:=fo hF hf;refine ⟨by show g.1<n;omega,hp.2.1,nofun,fun _ f' nI o ho=>?_⟩;have nI:F p.b=some f':=nI;rw [hf] at nI;cases nI;show tm o f.1+(min p.v f.2.2-g.2.1)<=tm o g.1\/tm o p.b<=tm o g.1
     by_cases h1:tm o g.1<tm o p.b
     ·obtain ⟨k1,k2,k3,k4⟩:=S.aA hF (show g.1<n by omega) ho hf h1;left;generalize il o p.b f.2.2=o1 at k1 k2 k3 k4;have h2:=k1 _ _ hg;have ok:=k1.set hg (l:=g.2.1) (by omega) (by omega);have b1:=S.begin hF k1 hg (l:=g.2.1) (by omega) (by omega);have h3:=hp.2.2.2 c.1 f hf _ ok;have h4:=S.cF ok hg;have h5:=S.cF ok hf;rw [sW,b1,k2] at h4;have h6:il o1 p.a g.2.1 p.b=o1 p.b:=wq (aD c.2.1);have h7:=S.cF k1 hf;rw [h6] at h5;have e1:il (il o1 p.a g.2.1) p.a (o1 p.a)=o1:=by
       funext x
       by_cases z:x=p.a
       ·rw [z,sW]
       ·rw [wq z,wq z]
      have h8:tm (il o1 p.a g.2.1) f.1<tm o g.1+g.2.1->tm o1 f.1=tm (il o1 p.a g.2.1) f.1:=fun z=>by
       have:=S.q_ ok hg (l:=o1 p.a) (t:=tm (il o1 p.a g.2.1) f.1) (by omega) (by omega) (by rw [b1,k2,sW];omega) (by rw [b1,k2];omega) (show f.1<n by omega) (by omega)
       rwa [e1] at this
      by_cases z:tm (il o1 p.a g.2.1) f.1<tm o g.1+g.2.1
      ·have:=h8 z;omega
      ·have:=c.2.2;omega
     ·right;omega
  ·cases h
theorem dA.Bb (S:dA F n tm) (hF:MU.g_ n F most) (h:MU.kN (Tc F n tm) s) (hu:MU.iB s) (ho:h_ F o) (t:Nat):(MU.run n F s t).bar=none:=by
 cases hb:(MU.run n F s t).bar with
 | none=>rfl
 | some b=>
  obtain ⟨r,h1,h2⟩:=(MU.HH hu t).2 b hb;have h3:=MU.NO (n:=n) (S.gk hF) h t b r.cD (by unfold MU.ah;rw [h1];rfl);have:=h3.2.2.1 h2.1 o ho;rw [h2.2.1] at this;have:=h2.2.2;omega
end
variable {F:cq} {u w:Nat->Nat->Option Int} {c:Nat->Option Int} {n:Nat} {r S:Nat->Prop}
structure Zero (F:cq) (u:Nat->Nat->Option Int) (n:Nat) (la:Int):Prop where
 own:F 0=none
 pos:0<n
 lt:∀{a b v},u a b=some v->a<n/\b<n
 QY:∀{y},y<n->y≠0->∃v,u y 0=some v/\v<=0
 of0:∀{y},y<n->y≠0->∃v,u 0 y=some v/\v<=la
theorem Zero.nonneg (Z:Zero F u n la) (C:Cl F u w) (h:u 0 y=some v):0<=v:=by
 have hy:y≠0:=fun e=>by rw [e,C.irr] at h;cases h
 obtain ⟨v',h1,h2⟩:=Z.QY (Z.lt h).2 hy;have:=C.loop h h1;lia
theorem Zero.mv (Z:Zero F u n la) (C:Cl F u w) (h:w 0 e=some k) (hf:F e=some f) (hk:0<k):False:=by
 have hl:=C.cF hf;rcases C.sure h hf with ⟨_,h2⟩ | ⟨z,h1,h2⟩
 ·lia
 ·have:=Z.nonneg C h1;lia
theorem Zero.A_ (Z:Zero F u n la) (C:Cl F u w) (h:u 0 e=some v) (hv:v<=0):F e=none:=by
 cases hf:F e with
 | none=>rfl
 | some f=>
  obtain ⟨k,h1,h2⟩:=C.aA h hf;have hl:=C.cF hf;exact (Z.mv C h1 hf (by lia)).elim
theorem W_ (Z:Zero F u n la) (C:Cl F u w) (hc:∀x,c x=none) (R:rp F u w n c 0 r):r 0:=by
 refine R.most (fun y=>y=0\/∃v,u 0 y=some v/\v<=0) ?_ ?_ 0 (.inl rfl)
 ·rintro y (rfl | ⟨v,h1,h2⟩)
  ·exact ⟨Z.own,hc _,Z.pos⟩
  ·exact ⟨Z.A_ C h1 h2,hc _,(Z.lt h1).2⟩
 ·intro y hy;refine ⟨fun z v' hz=>⟨fun t ht=>(by rw [hc] at ht;cases ht),fun _=>?_⟩,fun e k f hw hf hk hm=>?_⟩
  ·rcases hy with rfl | ⟨v,h1,h2⟩
   ·have:=Z.nonneg C hz
    by_cases h0:v'=0
    ·exact .inr ⟨h0,.inr ⟨v',hz,by lia⟩⟩
    ·exact .inl (by lia)
   ·by_cases e:0=z
    ·subst e;have:=C.loop h1 hz
     by_cases h0:v'=0
     ·exact .inr ⟨h0,.inl rfl⟩
     ·exact .inl (by lia)
    ·obtain ⟨z0,h3,h4⟩:=C.sum h1 hz e;have:=Z.nonneg C h3
     by_cases h0:v'=0
     ·exact .inr ⟨h0,.inr ⟨z0,h3,by lia⟩⟩
     ·exact .inl (by lia)
  ·have hl:=C.cF hf;refine (?_:False).elim;rcases hy with rfl | ⟨v,h1,h2⟩
   ·exact Z.mv C hw hf (by lia)
   ·have he:0≠e:=fun e'=>by rw [<-e',Z.own] at hf;cases hf
    obtain ⟨k1,h3,h4⟩:=C.back hw h1 hf he;exact Z.mv C h3 hf (by lia)
theorem YN (hc:∀x,c x=none) (i:Int):Inv F u w c i:=by
 refine ⟨?_,?_,?_,?_,?_,?_⟩
 ·intro x s h;rw [hc] at h;cases h
 ·intro x y s t v h;rw [hc] at h;cases h
 ·intro x y s v h;rw [hc] at h;cases h
 ·intro x e s k f h;rw [hc] at h;cases h
 ·intro e f t _ h;rw [hc] at h;cases h
 ·intro e f s _ _ h;rw [hc] at h;cases h
structure At (F:cq) (u w:Nat->Nat->Option Int) (c:Nat->Option Int) (i:Int):Prop where
 inv:Inv F u w c i
 zero:0<i->c 0=some 0
 fresh:i=0->∀x,c x=none
theorem At.next (Z:Zero F u n la) (C:Cl F u w) (hi:0<=i) (A:At F u w c i) (O:Out F c i S) (R:rp F u w n (put c i S) i r):At F u w (put (put c i S) i r) (i+1):=by
 refine ⟨A.inv.next C O R (fun h=>(Z.lt h).2),fun _=>?_,fun h=>by lia⟩
 by_cases h0:i=0
 ·have hc:=A.fresh h0;have hS:∀x,put c i S x=none:=fun x=>by
   refine (me fun hs=>?_).trans (hc x);obtain ⟨f,s,_,_,h3,_⟩:=O.ok hs;rw [hc] at h3;cases h3
  subst h0;exact An (W_ Z C hS R)
 ·have h:=up1 O (A.zero (by lia));refine (me fun hr=>?_).trans h;rw [(R.own hr).2] at h;cases h
theorem At.done (Z:Zero F u n la) (C:Cl F u w) (h0:0<=la) (A:At F u w c (la+1)) (hy:y<n):∃t,c y=some t/\0<=t/\t<=la:=by
 have hz:=A.zero (by lia)
 by_cases e:y=0
 ·exact ⟨0,e▸hz,by exact Int.NonNeg.mk (0+0),h0⟩
 ·obtain ⟨v,h1,h2⟩:=Z.of0 hy e;obtain ⟨v',h3,h4⟩:=Z.QY hy e
  cases hc:c y with
  | none=>have:=A.inv.dl hz hc h1;lia
  | some t=>exact ⟨t,rfl,by have:=A.inv.K hc hz h3;lia,by have:=A.inv.K hz hc h1;lia⟩
def Mr (F:rm) (u w:Nat->Nat->Option Int) (n:Nat) (c:Nat->Option Int) (i:Int) (y:Nat):Prop:=∃R:Nat->Prop,(∀z,R z->(F z=none/\c z=none/\z<n)/\Im F u w c i R z)/\R y
def sN (F:rm) (o:Nat->Int) (c:Nat->Option Int) (i:Int) (e:Nat):Prop:=∃f s,F e=some f/\c e=none/\c f.1=some s/\s+o e=i
def step (F:rm) (u w:Nat->Nat->Option Int) (n:Nat) (c:Nat->Option Int) (i:Int) (S:Nat->Prop):Nat->Option Int:=put (put c i S) i (Mr F u w n (put c i S) i)
def jm (F:rm) (u w:Nat->Nat->Option Int) (n:Nat) (o:Nat->Int):Nat->(Nat->Option Int)
 | 0=>fun _=>none
 | i+1=>step F u w n (jm F u w n o i) i (sN F o (jm F u w n o i) i)
section
variable {F:rm} {u w:Nat->Nat->Option Int} {n:Nat} {c:Nat->Option Int} {i la:Int} {o:Nat->Int}
theorem HS:rp F u w n c i (Mr F u w n c i):=by
 refine ⟨fun ⟨R,h,hy⟩=>⟨(h _ hy).1.1,(h _ hy).1.2.1⟩,fun ⟨R,h,hy⟩=>(h _ hy).1.2.2,fun {y} ⟨R,h,hy⟩=>?_,fun R h1 h2 y hy=>⟨R,fun z hz=>⟨h1 z hz,h2 z hz⟩,hy⟩⟩;obtain ⟨a,b⟩:=(h _ hy).2;refine ⟨fun z v e=>⟨(a z v e).1,fun q=>?_⟩,b⟩;rcases (a z v e).2 q with q | ⟨q1,q2⟩
 ·exact .inl q
 ·exact .inr ⟨q1,R,h,q2⟩
structure Pl (F:rm) (o:Nat->Int) (c:Nat->Option Int) (i:Int):Prop where
 a:∀{e f t},F e=some f->c e=some t->∃s,c f.1=some s/\t=s+o e
 b:∀{e f s},F e=some f->c e=none->c f.1=some s->i<=s+o e
theorem Pl.out (P:Pl F o c i) (ho:h_ F o):Out F c i (sN F o c i):=by
 refine ⟨fun {e} ⟨f,s,h1,h2,h3,h4⟩=>?_,fun {e f s} h1 h2 h3 h4=>?_⟩
 ·have:=ho e f h1;exact ⟨f,s,h1,h2,h3,by omega,by omega⟩
 ·have:=ho e f h1;have:=P.b h1 h2 h3;exact ⟨f,s,h1,h2,h3,by omega⟩
theorem Hw (O:Out F c i S) (h:c x=some t):step F u w n c i S x=some t:=by
 have h1:=up1 O h;refine (me fun hr=>?_).trans h1;rw [(HS.own hr).2] at h1;cases h1
theorem Pl.next (P:Pl F o c i) (C:Cl F u w) (ho:h_ F o):Pl F o (step F u w n c i (sN F o c i)) (i+1):=by
 have O:=P.out ho;have own:∀{e f},F e=some f->put c i (sN F o c i) f.1=c f.1:=fun h=>me (Dc O (C.cF h).2.2);refine ⟨fun {e f t} h h1=>?_,fun {e f s} h h1 h2=>?_⟩
 ·rcases iE h1 with ⟨hr,_⟩ | ⟨_,h1⟩
  ·have:=(HS.own hr).1;rw [h] at this;cases this
  ·rcases iE h1 with ⟨⟨f',s,e1,e2,e3,e4⟩,rfl⟩ | ⟨_,h1⟩
   ·rw [h] at e1;cases e1;exact ⟨s,Hw O e3,e4.symm⟩
   ·obtain ⟨s,e1,e2⟩:=P.a h h1;exact ⟨s,Hw O e1,e2⟩
 ·obtain ⟨_,h1⟩:=wx h1;obtain ⟨hs,h1⟩:=wx h1;have h3:=ho e f h;have h4:=C.cF h;rcases iE h2 with ⟨_,rfl⟩ | ⟨_,h2⟩
  ·omega
  ·rw [own h] at h2;have:=P.b h h1 h2
   by_cases z:s+o e=i
   ·exact absurd ⟨f,s,h,h1,h2,z⟩ hs
   ·omega
theorem yL (Z:Zero F u n la) (C:Cl F u w) (ho:h_ F o):∀i:Nat,At F u w (jm F u w n o i) i/\Pl F o (jm F u w n o i) i
 | 0=>⟨⟨YN (fun _=>rfl) _,fun h=>absurd h (by omega),fun _ _=>rfl⟩,fun h h1=>(nomatch h1),fun h h1 h2=>(nomatch h2)⟩
 | i+1=>by
  obtain ⟨A,P⟩:=yL Z C ho i;exact ⟨A.next Z C (by omega) (P.out ho) HS,P.next C ho⟩
theorem Pf (Z:Zero F u n la) (C:Cl F u w) (ho:h_ F o) {i j:Nat} (h:i<=j) {x:Nat} {t:Int} (hx:jm F u w n o i x=some t):jm F u w n o j x=some t:=by
 induction h with
 | refl=>exact hx
 | step _ ih=>exact Hw ((yL Z C ho _).2.out ho) ih
theorem O4 (Z:Zero F u n la) (C:Cl F u w) (ho:h_ F o) {i j x:Nat} {t t':Int} (hx:jm F u w n o i x=some t) (hy:jm F u w n o j x=some t'):t=t':=by
 rcases Nat.le_total i j with h | h
 ·have:=Pf Z C ho h hx;rw [hy] at this;cases this;rfl
 ·have:=Pf Z C ho h hy;rw [hx] at this;cases this;rfl
theorem Pg:∀{j:Nat},jm F u w n o j x=some t->∃k:Nat,t=k/\jm F u w n o (k+1) x=some t
 | 0,h=>nomatch h
 | j+1,h=>by
  rcases iE h with ⟨_,e⟩ | ⟨_,h1⟩
  ·exact ⟨j,e,h⟩
  ·rcases iE h1 with ⟨_,e⟩ | ⟨_,h1⟩
   ·exact ⟨j,e,h⟩
   ·exact Pg h1
def gf (F:rm) (u w:Nat->Nat->Option Int) (n:Nat) (la:Int) (o:Nat->Int) (x:Nat):Int:=(jm F u w n o (la.toNat+1) x).getD 0
theorem tm_at (Z:Zero F u n la) (C:Cl F u w) (hl:0<=la) (ho:h_ F o) (hx:x<n):jm F u w n o (la.toNat+1) x=some (gf F u w n la o x)/\0<=gf F u w n la o x/\gf F u w n la o x<=la:=by
 have A:=(yL Z C ho (la.toNat+1)).1;rw [show ((la.toNat+1:Nat):Int)=la+1 by omega] at A;obtain ⟨t,h1,h2,h3⟩:=A.done Z C hl hx;have e:gf F u w n la o x=t:=by unfold gf;rw [h1];rfl
 rw [e];exact ⟨h1,h2,h3⟩
theorem t8 (Z:Zero F u n la) (C:Cl F u w) (hl:0<=la) (ho:h_ F o):gf F u w n la o 0=0:=by
 have:=(yL Z C ho (la.toNat+1)).1.zero (by omega);unfold gf;rw [this];rfl
theorem kU (Z:Zero F u n la) (C:Cl F u w) (hl:0<=la) (ho:h_ F o) (h:u x y=some v):gf F u w n la o y<=gf F u w n la o x+v:=by
 obtain ⟨h1,h2⟩:=Z.lt h;exact (yL Z C ho (la.toNat+1)).1.inv.K (tm_at Z C hl ho h1).1 (tm_at Z C hl ho h2).1 h
theorem qd (Z:Zero F u n la) (C:Cl F u w) (hl:0<=la) (hF:MU.g_ n F most):dA F n (gf F u w n la):=by
 refine ⟨fun {o e f} ho hf=>?_,fun {o e f l t} ho hf l1 l2 t1 t2 {m} hm h=>?_⟩
 ·obtain ⟨h1,h2,_⟩:=fo hF hf;obtain ⟨s,e1,e2⟩:=(yL Z C ho (la.toNat+1)).2.a hf (tm_at Z C hl ho h2).1;rw [(tm_at Z C hl ho h1).1] at e1;cases e1;exact e2
 ·have ok:=ho.set hf l1 l2;have hb:=(tm_at Z C hl ho (fo hF hf).1).1;have same:∀i:Nat,(i:Int)<=t+1->jm F u w n (il o e l) i=jm F u w n o i:=fun i=>by
   induction i with
   | zero=>intro _;rfl
   | succ i ih=>
    intro hi;have ih:=ih (by omega);show step F u w n (jm F u w n (il o e l) i) i (sN F (il o e l) (jm F u w n (il o e l) i) i)=step F u w n (jm F u w n o i) i (sN F o (jm F u w n o i) i);rw [ih];have:sN F (il o e l) (jm F u w n o i) i=sN F o (jm F u w n o i) i:=by
     funext x
     by_cases c:x=e
     ·subst c;have no:∀{s},jm F u w n o i f.1=some s->s=gf F u w n la o f.1:=fun h=>O4 Z C ho h hb;refine propext ⟨fun ⟨f',s,e1,e2,e3,e4⟩=>?_,fun ⟨f',s,e1,e2,e3,e4⟩=>?_⟩
      ·rw [hf] at e1;cases e1;rw [sW,no e3] at e4;omega
      ·rw [hf] at e1;cases e1;rw [no e3] at e4;omega
     ·unfold sN;rw [wq c]
    rw [this]
  obtain ⟨k,k1,k2⟩:=Pg (tm_at Z C hl ho hm).1;rw [<-same (k+1) (by omega)] at k2;exact (O4 Z C ok k2 (tm_at Z C hl ok hm).1).symm
theorem dA.less (S:dA F n tm) (h:∀e f',F' e=some f'->∃f,F e=some f/\f.1=f'.1/\f.2.1<=f'.2.1/\f'.2.2<=f.2.2) (h':∀e f,F e=some f->∃f',F' e=some f'):dA F' n tm/\∀o,h_ F' o->h_ F o:=by
 have ok:∀o,h_ F' o->h_ F o:=fun o ho e f hf=>by
  obtain ⟨f',e1⟩:=h' e f hf;obtain ⟨f2,e2,e3,e4,e5⟩:=h e f' e1;rw [hf] at e2;cases e2;have:=ho e f' e1;omega
 refine ⟨⟨fun {o e f} ho hf=>?_,fun {o e f l t} ho hf l1 l2 t1 t2 {m} hm hh=>?_⟩,ok⟩
 ·obtain ⟨f2,e2,e3,e4,e5⟩:=h e f hf;rw [S.cF (ok o ho) e2,e3]
 ·obtain ⟨f2,e2,e3,e4,e5⟩:=h e f hf;exact S.q_ (ok o ho) e2 (by omega) (by omega) (by rw [e3];exact t1) (by rw [e3];exact t2) hm hh
end
end HK
namespace Y0
open PySem L2
seal L2.PE L2.PA L2.PT L2.PS L2.g7 L2.PG L2.nU L2.PI L2.PO
abbrev IF (st:MU.St) (a b:Nat):Option Int:=MU.val st (true,a,b)
abbrev Z8 (st:MU.St) (a b:Nat):Option Int:=MU.val st (false,a,b)
section
variable {n:Nat} {la:Int} {T F:List (List Int)} {Te:Nat}
theorem Z2 (af:cB (n:Int) la T F) (hE:yx n (eC F) (lX n la T F) Te) (bG:(ir n la T F Te).bar=none):HK.Cl (eC F) (IF (ir n la T F Te)) (Z8 (ir n la T F Te)):=
 MU.Fin.cl (D:=fun x=>x∈(gQ (n:Int) la T F).map iM) ⟨af.nO,(HY af).good,fun t ht=>(hE.first t ht).1,hE.end_.elim id fun z=>absurd bG z⟩ bG (MU.PF (MU.Qo _ _ MU.XB fun _ h=>h) Te) fun x hx=>(v_ af.lh x hx).2.2
theorem DP (af:cB (n:Int) la T F) (h:r∈gQ (n:Int) la T F):∃z,IF (ir n la T F Te) (iM r).a (iM r).b=some z/\z<=(iM r).v:=by
 obtain ⟨a,b,v,rfl,h1,h2,h3,h4,h5⟩:=af.lh r h;have cW:a.toNat≠b.toNat:=by lia
 obtain ⟨u,e1,e2⟩:=MU.DU _ MU.empty _ (eD.mpr ⟨_,h,rfl⟩) (show (iM [a,b,v]).a≠(iM [a,b,v]).b from cW);obtain ⟨u',e3,e4⟩:=(MU.sZ (n:=n) (F:=eC F) (s:=lX n la T F) (d9 Te)).2 (true,a.toNat,b.toNat) u cW e1;refine ⟨u',e3,?_⟩;unfold MU.dE at e2 e4;have e2:¬if true=true then v<u else u<v:=e2;have e4:¬if true=true then u<u' else u'<u:=e4;rw [if_pos rfl] at e2 e4;show u'<=v;lia
theorem Vu (af:cB (n:Int) la T F) (bG:(ir n la T F Te).bar=none):HK.Zero (eC F) (IF (ir n la T F Te)) n la:=by
 have n1:=af.n1;have good:MU.cm n (ir n la T F Te):=MU.yP af.nO (HY af).good Te;have room:∀{y:Nat},y<n->y≠0->[0,(y:Int),la]∈gQ (n:Int) la T F/\[(y:Int),0,0]∈gQ (n:Int) la T F:=fun {y} h1 h2=>by
  obtain ⟨m1,m2⟩:=Ay (la:=la) (i:=y-1) (k:=((n:Int)-1).toNat) (by omega);rw [show ((y-1:Nat):Int)+1=(y:Int) by lia] at m1 m2;exact ⟨iL _ (iL _ m1),iL _ (iL _ m2)⟩
 refine ⟨Qr fun r hr z=>?_,by lia,fun {a b v} h=>(MU.rK good bG h).2,fun {y} h1 h2=>?_,fun {y} h1 h2=>?_⟩
 ·obtain ⟨a,b,l,m,rfl,_,_,h3,_⟩:=af.f r hr;have z:some b=some ((0:Nat):Int):=z;cases z;exact absurd h3 (by exact Int.not_lt.mpr (Int.le_refl ↑0))
 ·obtain ⟨z,e1,e2⟩:=DP (Te:=Te) af (room h1 h2).2;exact ⟨z,e1,e2⟩
 ·obtain ⟨z,e1,e2⟩:=DP (Te:=Te) af (room h1 h2).1;exact ⟨z,e1,e2⟩
end
theorem Ih:∀{k:Nat} {r:List Int},r∈kR la k->∃i:Nat,i<k/\(r=[0,(i:Int)+1,la]\/r=[(i:Int)+1,0,0])
 | 0,_,h=>nomatch h
 | k+1,r,h=>by
  unfold kR at h;rcases i8.mp h with h | h
  ·obtain ⟨i,h1,h2⟩:=Ih h;exact ⟨i,by omega,h2⟩
  ·rcases eV.mp h with h | h
   ·exact ⟨k,by omega,.inl h⟩
   ·exact ⟨k,by omega,.inr (iK.mp h)⟩
theorem DK (h4:vO rows) (h:r∈jF rows):∃a b l m:Int,[a,b,l,m]∈rows/\(r=[a,b,m]\/r=[b,a,-l]):=by
 unfold jF at h;obtain ⟨x,hx,zp⟩:=List.mem_flatten.mp h;obtain ⟨y,hy,rfl⟩:=eD.mp hx;obtain ⟨a,b,l,m,rfl⟩:=h4 y hy;rcases eV.mp zp with h | h
 ·exact ⟨a,b,l,m,hy,.inl h⟩
 ·exact ⟨a,b,l,m,hy,.inr (iK.mp h)⟩
theorem HJ (h:[a,b,l,m]∈rows):[a,b,m]∈jF rows/\[b,a,-l]∈jF rows:=by
 unfold jF;exact ⟨List.mem_flatten.mpr ⟨_,eD.mpr ⟨_,h,rfl⟩,eG⟩,List.mem_flatten.mpr ⟨_,eD.mpr ⟨_,h,rfl⟩,gz _ eG⟩⟩
structure uB (la je:Int) (T T' F F':List (List Int)):Prop where
 la:la<=je
 t:∀{a b l' m'},[a,b,l',m']∈T'->∃l m,[a,b,l,m]∈T/\l'<=l/\m<=m'
 f:∀{a b l' m'},[a,b,l',m']∈F'->∃l m,[a,b,l,m]∈F/\l<=l'/\m'<=m
 g:∀{a b l m},[a,b,l,m]∈F->∃l' m',[a,b,l',m']∈F'
section
variable {n:Nat} {la je:Int} {T T' F F':List (List Int)} {Te:Nat}
theorem Wj (h:cB (n:Int) la T F) (S:HK.dA (eC F) n tm) (h0:∀o,HK.h_ (eC F) o->tm o 0=0/\∀i,i<n->0<=tm o i/\tm o i<=la)
 (hT:∀{a b l m:Int},[a,b,l,m]∈T->∀o,HK.h_ (eC F) o->l<=tm o b.toNat-tm o a.toNat/\tm o b.toNat-tm o a.toNat<=m) (t:Nat):(ir n la T F t).bar=none:=by
 have ex:HK.h_ (eC F) (fun e=>((eC F e).map fun f=>f.2.1).getD 0):=fun e f hf=>by
  dsimp only;rw [hf];exact ⟨Int.le_refl _,(h.nO.num e f hf).2.1⟩
 refine S.Bb h.nO (MU.Py _ _ MU.WO fun w hw=>?_) (MU.P_ _ _ MU.Qf) ex t;obtain ⟨r,hr,rfl⟩:=eD.mp hw;obtain ⟨q1,q2,q3⟩:=v_ h.lh _ hw;refine ⟨q1,q2,fun _ o ho=>?_,fun z=>absurd (q3.symm.trans z) (by decide)⟩;obtain ⟨z0,zi⟩:=h0 o ho;unfold gQ at hr;rcases i8.mp hr with hr | hr
 ·rcases i8.mp hr with hr | hr
  ·obtain ⟨i,hi,rfl | rfl⟩:=Ih hr
   ·show tm o ((i:Int)+1).toNat<=tm o 0+la;have:=zi ((i:Int)+1).toNat (by omega);omega
   ·show tm o 0<=tm o ((i:Int)+1).toNat+0;have:=zi ((i:Int)+1).toNat (by omega);omega
  ·obtain ⟨a,b,l,m,hm,rfl | rfl⟩:=DK h.l9 hr
   ·have:=hT hm o ho;show tm o b.toNat<=tm o a.toNat+m;omega
   ·have:=hT hm o ho;show tm o a.toNat<=tm o b.toNat+ -l;omega
 ·obtain ⟨a,b,l,m,hm,e⟩:=DK h.jA hr;obtain ⟨a',b',l',m',e',x1,x2,x3,x4,_⟩:=h.f _ hm;cases e';have hb:((b.toNat:Nat):Int)=b:=lE (f_ x3);have hf:=h.ic (e:=b.toNat) (by rw [hb];exact hm);have h1:=ho _ _ hf;have h2:=S.cF ho hf;dsimp only at h1 h2;rcases e with rfl | rfl
  ·show tm o b.toNat<=tm o a.toNat+m;omega
  ·show tm o a.toNat<=tm o b.toNat+ -l;omega
theorem Xe (h1:cB (n:Int) la T F) (h2:cB (n:Int) je T' F') (L:uB la je T T' F F') (hE:yx n (eC F) (lX n la T F) Te) (bG:(ir n la T F Te).bar=none) (t:Nat):(ir n je T' F' t).bar=none:=by
 have Z:=Vu (Te:=Te) h1 bG;have C:=Z2 h1 hE bG;have hl:0<=la:=by have:=h1.l1;omega
 have S:=HK.qd Z C hl h1.nO;have nn:∀{b:Int},0<=b->((b.toNat:Nat):Int)=b:=fun h=>lE h;obtain ⟨S',ok⟩:=S.less (F':=eC F') (fun e f' hf=>by
  obtain ⟨a,l,m,hm,rfl,_⟩:=h2.find hf;obtain ⟨l0,m0,vw,k1,k2⟩:=L.f hm;exact ⟨_,h1.ic vw,rfl,k1,k2⟩) (fun e f hf=>by
  obtain ⟨a,l,m,hm,rfl,_⟩:=h1.find hf;obtain ⟨l0,m0,vw⟩:=L.g hm;exact ⟨_,h2.ic vw⟩)
 refine Wj h2 S' (fun o ho=>⟨HK.t8 Z C hl (ok o ho),fun i hi=>?_⟩) (fun {a b l m} hm o ho=>?_) t
 ·have:=HK.tm_at Z C hl (ok o ho) hi;have:=L.la;omega
 ·obtain ⟨l0,m0,vw,k1,k2⟩:=L.t hm;obtain ⟨s1,s2⟩:=HJ vw;obtain ⟨z,e1,e2⟩:=DP (Te:=Te) h1 (iL _ (kJ _ s1));obtain ⟨z',Ca,nP⟩:=DP (Te:=Te) h1 (iL _ (kJ _ s2));have k3:=HK.kU Z C hl (ok o ho) e1;have k4:=HK.kU Z C hl (ok o ho) Ca;have e2:z<=m0:=e2;have nP:z'<=-l0:=nP;have k3:HK.gf _ _ _ n la o b.toNat<=HK.gf _ _ _ n la o a.toNat+z:=k3;have k4:HK.gf _ _ _ n la o a.toNat<=HK.gf _ _ _ n la o b.toNat+z':=k4;omega
end
structure uO (H:Hp) (wp ta fa:Addr) (n la:Int) (T F:List (List Int)):Prop where
 tup:H wp=some (.tup [.int n,.int la,.ref ta,.ref fa])
 t:eJ H ta T
 f:eJ H fa F
theorem uO.same (h:uO H wp ta fa n la T F) (k:aI H H'):uO H' wp ta fa n la T F:=⟨k _ _ h.tup,h.t.same k,h.f.same k⟩
def OE (K:aF):Sp:=fun vs H Q _=>∃(d sa wp ta fa:Addr) (N:Nat) (la:Int) (T F:List (List Int)),vs=[.ref d,.ref wp]/\dD K sa H d/\uO H wp ta fa (N:Int) la T F/\cB (N:Int) la T F/\la<=20/\ta≠d/\fa≠d/\
 ∀q IS LH je T' F' H',uO H' q IS LH (N:Int) je T' F'->cB (N:Int) je T' F'->uB la je T T' F F'->cp d H H'->Q (.ref q) H'
section
variable {N:Nat} {la:Int} {T F:List (List Int)}
theorem Xf (h:la<=x):uB la x T T F F:=⟨h,fun h=>⟨_,_,h,Int.le_refl _,Int.le_refl _⟩,fun h=>⟨_,_,h,Int.le_refl _,Int.le_refl _⟩,fun h=>⟨_,_,h⟩⟩
theorem Nk {α:Type} {l:List α} {i:Nat} {x:α} (h:x∈l.take i++l.drop (i+1)):x∈l:=(i8.mp h).elim List.mem_of_mem_take List.mem_of_mem_drop
theorem Nd {α:Type} {l:List α} {i:Nat} {x:α} (h:i<l.length):l.take i++[x]++l.drop (i+1)=l.set i x:=by
 rw [List.set_eq_take_append_cons_drop,if_pos h,List.append_assoc];rfl
theorem UC (h:cB (N:Int) la T F) {i:Nat}:cB (N:Int) la (T.take i++T.drop (i+1)) F/\uB la la T (T.take i++T.drop (i+1)) F F:=by
 refine ⟨⟨h.n1,h.n2,h.l1,h.l2,?_,h.fl,fun r hr=>h.t r (Nk hr),h.f,h.one,h.own⟩,Int.le_refl _,fun h=>⟨_,_,Nk h,Int.le_refl _,Int.le_refl _⟩,fun h=>⟨_,_,h,Int.le_refl _,Int.le_refl _⟩,fun h=>⟨_,_,h⟩⟩;have:=h.tl;rw [ig,ie,vI];omega
theorem V1 (h:cB (N:Int) la T F) (hi:T[i]?=some [a,b,l,m]) (h1: -60<=l') (h2:l'<=l) (h3:m<=m') (h4:m'<=60):cB (N:Int) la (T.set i [a,b,l',m']) F/\uB la la T (T.set i [a,b,l',m']) F F:=by
 have hm:=gq hi;refine ⟨⟨h.n1,h.n2,h.l1,h.l2,by rw [List.length_set];exact h.tl,h.fl,fun r hr=>?_,h.f,h.one,h.own⟩,Int.le_refl _,fun {a' b' x y} hr=>?_,fun h=>⟨_,_,h,Int.le_refl _,Int.le_refl _⟩,fun h=>⟨_,_,h⟩⟩
 ·rcases List.mem_or_eq_of_mem_set hr with hr | rfl
  ·exact h.t r hr
  ·obtain ⟨_,_,_,_,e,x1,x2,x3,x4,x5,x6,x7,x8⟩:=h.t _ hm;cases e;exact ⟨_,_,_,_,rfl,x1,x2,x3,x4,x5,h1,by omega,h4⟩
 ·rcases List.mem_or_eq_of_mem_set hr with hr | e
  ·exact ⟨_,_,hr,Int.le_refl _,Int.le_refl _⟩
  ·cases e;exact ⟨_,_,hm,h2,h3⟩
theorem T8 {α:Type} {l:List α} {i j:Nat} {x y:α} (h:(l.set i x)[j]?=some y):(i=j/\y=x/\i<l.length)\/(i≠j/\l[j]?=some y):=by
 rw [List.getElem?_set] at h
 by_cases e:i=j
 ·rw [if_pos e] at h
  by_cases c:i<l.length
  ·rw [if_pos c] at h;cases h;exact .inl ⟨e,rfl,c⟩
  ·rw [if_neg c] at h;cases h
 ·rw [if_neg e] at h;exact .inr ⟨e,h⟩
theorem Vq (h:cB (N:Int) la T F) {i:Nat} {a b l m l' m':Int} (hi:F[i]?=some [a,b,l,m]) (h1:l<=l') (h2:l'<=m') (h3:m'<=m):cB (N:Int) la T (F.set i [a,b,l',m'])/\uB la la T T F (F.set i [a,b,l',m']):=by
 have hm:=gq hi;obtain ⟨_,_,_,_,e,x1,x2,x3,x4,x5,x6,x7,x8⟩:=h.f _ hm;cases e;have back:∀{j:Nat} {r:List Int},(F.set i [a,b,l',m'])[j]?=some r->∃r0,F[j]?=some r0/\r0[0]?=r[0]?/\r0[1]?=r[1]?:=fun {j r} e=>by
  rcases T8 e with ⟨rfl,rfl,_⟩ | ⟨_,e⟩
  ·exact ⟨_,hi,rfl,rfl⟩
  ·exact ⟨_,e,rfl,rfl⟩
 refine ⟨⟨h.n1,h.n2,h.l1,h.l2,h.tl,by rw [List.length_set];exact h.fl,h.t,fun r hr=>?_,fun j k r r' e1 e2 e=>?_,fun r hr r' aJ e=>?_⟩,Int.le_refl _,fun h=>⟨_,_,h,Int.le_refl _,Int.le_refl _⟩,fun {a' b' x y} hr=>?_,fun {a' b' x y} hr=>?_⟩
 ·rcases List.mem_or_eq_of_mem_set hr with hr | rfl
  ·exact h.f r hr
  ·exact ⟨_,_,_,_,rfl,x1,x2,x3,x4,x5,by omega,h2,by omega⟩
 ·obtain ⟨r0,b1,_,b2⟩:=back e1;obtain ⟨r1,c1,_,c2⟩:=back e2;exact h.one j k r0 r1 b1 c1 (by rw [b2,c2,e])
 ·obtain ⟨j,hj⟩:=oU.mp hr;obtain ⟨k,hk⟩:=oU.mp aJ;obtain ⟨r0,b1,b2,_⟩:=back hj;obtain ⟨r1,c1,_,c2⟩:=back hk;exact h.own r0 (gq b1) r1 (gq c1) (by rw [b2,c2,e])
 ·rcases List.mem_or_eq_of_mem_set hr with hr | e
  ·exact ⟨_,_,hr,Int.le_refl _,Int.le_refl _⟩
  ·cases e;exact ⟨_,_,hm,h1,h3⟩
 ·obtain ⟨j,hj⟩:=oU.mp hr
  by_cases c:i=j
  ·subst c;rw [hi] at hj;cases hj;exact ⟨l',m',gq (i:=i) (by rw [List.getElem?_set_self (gO.mp hi).1])⟩
  ·exact ⟨x,y,gq (i:=j) (by rw [List.getElem?_set_ne c];exact hj)⟩
end
abbrev nLo:List Str:=["_law_d","_law_w","_law_way","_law_at","_law_one","_law_other","_law_least","_law_most","_law_wider","_law_end","_law_fall"]
theorem lI:cG nLo ["_law_d","_law_w"] (aZ fe):=cV
theorem o9 (F:Fn K mg "_law_looser" fe ["_law_d","_law_w"] f fd) (FN:Fn K mg "_law_next" iV ["_law_dice","_law_many"] fN pE)
 (GN:ar P w K mg base a9 1 fN pE ["_law_dice","_law_many"] (Al K)) (hlen:mg "len"=none) (K9:mg "min"=none) (KA:mg "max"=none):ar P w K mg base a9 2 f fd ["_law_d","_law_w"] (OE K):=by
 refine F.F.ix lI fun _ A _ s H _ Q E hr h=>?_
 ·obtain ⟨d,sa,wp,ta,fa,N,la,rT,rF,rfl,D,DA,af,qM,wI,zG,k⟩:=h;have hu:=hr.units;refine ⟨_,a_ (cA 2 lI.nd (cf GN hr FN (bw (pv 0) aw)))
   (cx (dR (PW.pt (sQ (dh gu (pv 2) aw) (sV (dh (HD (K:=K) rfl hu) (a8 (pv 1)) (jo oh)))))
    (a_ (cA 3 lI.nd (cf GN hr FN (bw (pv 0) (jx HZ (by rfl) hlen uy (bM (a8 (pv 1)))))))
    (aE (cC (dB (jz (a8 (pv 1)) (a8 (pv 1)) (bP uJ (pW wu (a8 (pv 1)) pR (pT (pv 3))) (pW wu (a8 (pv 1)) (pT (bP g9 (pv 3) aw)) pR)) (a8 (pv 1))))))) dZ)
   (cx (dR (PW.pt (sQ (dh gu (pv 2) aw) (sV (dh (HD (K:=K) rfl hu) (a8 (pv 1)) (jo oh)))))
    (a_ (cA 3 lI.nd (cf GN hr FN (bw (pv 0) (jx HZ (by rfl) hlen uy (bM (a8 (pv 1)))))))
    (a_ (uL (de dW (a8 (pv 1)) (pv 3) (fun _ _=>rfl)) (Hu (K:=K) (n:=4) rfl rfl (dX (bS 4 lI.nd) (dX (bS 5 lI.nd) (dX (bS 6 lI.nd) (dX (bS 7 lI.nd) rM))))))
    (a_ (cA 8 lI.nd (dB (jz (pv 4) (pv 5) (jx (H_ rfl) (by rfl) KA (by decide+kernel) (bw (sO sR aw) (bP iQ (pv 6) (cf GN hr FN (bw (pv 0) aw))))) (jx (yT rfl) (by rfl) K9 (by decide+kernel) (bw aw (bP g9 (pv 7) (cf GN hr FN (bw (pv 0) aw))))))))
    (aE (cC (dB (jz (a8 (pv 1)) (a8 (pv 1)) (bP uJ (bP uJ (pW wu (a8 (pv 1)) pR (pT (pv 3))) (jo (bM (pv 8)))) (pW wu (a8 (pv 1)) (pT (bP g9 (pv 3) aw)) pR)) (a8 (pv 1))))))))) dZ)
   (cx (dR (PW.pt (sQ (dh gu (pv 2) aw) (sV (dh (HD (K:=K) rfl hu) (a8 (pv 1)) (jo oh)))))
    (a_ (cA 3 lI.nd (cf GN hr FN (bw (pv 0) (jx HZ (by rfl) hlen uy (bM (a8 (pv 1)))))))
    (a_ (uL (de dW (a8 (pv 1)) (pv 3) (fun _ _=>rfl)) (Hu (K:=K) (n:=4) rfl rfl (dX (bS 4 lI.nd) (dX (bS 9 lI.nd) (dX (bS 6 lI.nd) (dX (bS 7 lI.nd) rM))))))
    (a_ (cA 6 lI.nd (bP g9 (pv 6) (cf GN hr FN (bw (pv 0) (bP g9 (bP iQ (pv 7) (pv 6)) aw)))))
    (a_ (cA 10 lI.nd (dB (jz (pv 4) (pv 9) (pv 6) (bP g9 (pv 6) (cf GN hr FN (bw (pv 0) (bP g9 (bP iQ (pv 7) (pv 6)) aw)))))))
    (aE (cC (dB (jz (a8 (pv 1)) (a8 (pv 1)) (a8 (pv 1)) (bP uJ (bP uJ (pW wu (a8 (pv 1)) pR (pT (pv 3))) (jo (bM (pv 10)))) (pW wu (a8 (pv 1)) (pT (bP g9 (pv 3) aw)) pR)))))))))) dZ)
   (aE (cC (dB (jz (a8 (pv 1)) (bP g9 (a8 (pv 1)) (cf GN hr FN (bw (pv 0) aw))) (a8 (pv 1)) (a8 (pv 1))))))))),?_⟩
  have dl:∀{H':Hp},dD K sa H' d->∃xs,H' d=some (.lst xs):=fun D'=>let ⟨p,e⟩:=D'.at_;⟨_,e⟩;have kd:∀{H H':Hp},dD K sa H d->uO H wp ta fa (N:Int) la rT rF->cp d H H'->uO H' wp ta fa (N:Int) la rT rF:=fun {H H'} D DA kk=>by
   obtain ⟨xs,hx⟩:=dl D;exact ⟨OJ kk hx DA.tup,DA.t.keep kk hx wI,DA.f.keep kk hx zG⟩
  have JZ:∀i:Nat,(i:Int)+1=((i+1:Nat):Int):=fun i=>by lia
  have xU:=af.tl;have hFl:=af.fl;have sz:∀{a:Nat},a<=1000->a<=sizeLine:=fun h=>eE h (by decide);refine ⟨_,rfl,d,sa,_,rfl,D,by decide,fun way H1 _ _ D1 k1=>?_⟩;have key:∀{qs:List Addr} {H':Hp} {l:Addr} {rows:List (List Int)} {i:Int},fC H' l qs rows->0<=i->i<((qs.map V.ref).length:Int)->∃(j:Nat) (q:Addr) (r:List Int),i=j/\j<rows.length/\iI (qs.map V.ref) (j:Int)=some (.ref q)/\rows[j]?=some r/\H' q=some (.tup (r.map V.int)):=fun {qs H' l rows i} R i0 i1=>by
   rw [aB] at i1;obtain ⟨j,rfl⟩:∃j:Nat,i=j:=⟨i.toNat,by lia⟩;have hj:j<qs.length:=by lia
   obtain ⟨q,hq⟩:∃q,qs[j]?=some q:=⟨_,kK hj⟩;obtain ⟨r,h1,h2⟩:=aX R.2 hq;exact ⟨j,q,r,rfl,by rw [<-R.len];exact hj,ko (by rw [f9,hq];rfl),h1,h2⟩
  have pos:∀{qs:List Addr},(!(qs.map V.ref).isEmpty)=true->1<=((qs.map V.ref).length:Int):=fun {qs} h=>by
   cases qs with
   | nil=>cases h
   | cons a t=>rw [aB,kI];lia
  refine fun N1 c1=>?_;have c2:∀H',dD K sa H' d->cp d H H'->N1 [some (.ref d),some (.ref wp),some (.int way),none,none,none,none,none,none,none,none] H':=by
   intro H1 D1 k1;refine c1 _ _ ?_;clear c1 N1;refine fun N1 c1=>?_;have c2:∀H',dD K sa H' d->cp d H H'->N1 [some (.ref d),some (.ref wp),some (.int way),none,none,none,none,none,none,none,none] H':=by
    intro H1 D1 k1;refine c1 _ _ ?_;clear c1 N1;refine fun N1 c1=>?_;have c2:∀H',dD K sa H' d->cp d H H'->N1 [some (.ref d),some (.ref wp),some (.int way),none,none,none,none,none,none,none,none] H':=by
     intro H1 D1 k1;refine c1 _ _ ?_;clear c1 N1;have pI:=kd D DA k1;refine ⟨_,rfl,ay pI.tup rfl ⟨_,rfl,ay pI.tup rfl ⟨_,rfl,d,sa,_,rfl,D1,by decide,fun r H2 r0 r1 D2 k2=>⟨_,_,rfl,rfl,?_⟩⟩⟩⟩;have kM:=kd D1 pI k2;refine ⟨_,rfl,ay kM.tup rfl ⟨_,rfl,ay kM.tup rfl ⟨dc rfl,fun t4 x9=>?_⟩⟩⟩;have s3:=aG (o:=.tup [.int (N:Int),.int (la+r),.ref ta,.ref fa]) x9;exact k t4 ta fa (la+r) rT rF _ ⟨ai,kM.t.same s3,kM.f.same s3⟩ ⟨af.n1,af.n2,by have:=af.l1;lia,by lia,af.tl,af.fl,af.t,af.f,af.one,af.own⟩ (Xf (by lia)) ((k1.trans k2).trans s3.keep)
    clear c1;have pI:=kd D DA k1;refine ⟨_,rfl,rfl,_,rfl,hV (fun _=>?_) (fun _=>ip (c2 _ D1 k1))⟩;refine ⟨_,rfl,ay pI.tup rfl ⟨d9 _,fun nl zu=>?_⟩⟩;have s1:=aG (o:=.lst []) zu;have D2:=D1.same s1;have k2:=k1.trans s1.keep;have kM:=pI.same s1;obtain ⟨qs,R2⟩:=id kM.f;refine ⟨fa,nl,_,rfl,rfl,ax.of R2.1,ax.of ai,_,rfl,hV (fun z=>?_) (fun _=>c2 _ D2 k2)⟩;clear c2;refine ⟨_,rfl,_,rfl,ay kM.tup rfl ⟨fa,_,rfl,R2.1,d,sa,_,rfl,D2,pos z,fun i H3 i0 i1 D3 k3=>?_⟩⟩;have sE:=kd D2 kM k3;have R3:=R2.keep k3 (dl D2).choose_spec zG;obtain ⟨i,q,r,rfl,hi,iH,fU,hq⟩:=key R3 i0 i1;obtain ⟨a,b,l,m,rfl,x1,x2,x3,x4,x5,x6,x7,x8⟩:=af.f r (gq fU);refine ⟨_,rfl,ay sE.tup rfl (oW rfl R3.1 iH ⟨q,_,rfl,c_.of hq,rfl,_,_,rfl,_,_,rfl,_,_,rfl,_,_,rfl,rfl,?_⟩)⟩;refine ⟨_,rfl,_,rfl,_,rfl,_,rfl,_,_,rfl,rfl,_,_,rfl,rfl,d,sa,_,rfl,D3,by lia,fun r1 H4 JD r11 D4 k4=>⟨_,_,rfl,rfl,?_⟩⟩;refine ⟨_,rfl,_,rfl,_,rfl,_,rfl,_,rfl,_,rfl,_,rfl,_,_,rfl,rfl,_,_,rfl,rfl,d,sa,_,rfl,D4,by lia,fun r2 H5 r20 r21 D5 k5=>⟨_,_,rfl,rfl,dc rfl,fun wt Bo=>?_⟩⟩;show uD 10 (V.ref wt) _ (upd H5 wt (HO.tup [V.int a,V.int b,V.int (l+r1),V.int (l+r1+r2)])) _;have ue:=(k3.trans k4).trans k5;have Cu:=kd D2 kM ue;have R5:=R2.keep ue (dl D2).choose_spec zG;have s6:=aG (o:=.tup [.int a,.int b,.int (l+r1),.int (l+r1+r2)]) Bo;have oV:=Cu.same s6;have R6:=R5.same s6;have w6:upd H5 wt (.tup [.int a,.int b,.int (l+r1),.int (l+r1+r2)]) wt=some (.tup ([a,b,l+r1,l+r1+r2].map V.int)):=ai;have k6:=(k2.trans ue).trans s6.keep;generalize upd H5 wt (.tup [.int a,.int b,.int (l+r1),.int (l+r1+r2)])=H6 at*;obtain ⟨w1,w2⟩:=Vq af fU (l':=l+r1) (m':=l+r1+r2) (by lia) (by lia) (by lia);rw [<-Nd hi] at w1 w2;clear s6 Bo D5 D4 R5 Cu ue k5 k4;refine ⟨_,rfl,ay oV.tup rfl ⟨_,rfl,ay oV.tup rfl ⟨_,rfl,ay oV.tup rfl ⟨_,rfl,ay oV.tup rfl ⟨_,rfl,_,rfl,fa,_,rfl,ax.of R6.1,fun l1 kF=>?_⟩⟩⟩⟩⟩;rw [GH];have s7:=aG (o:=.lst ((qs.take i).map V.ref)) kF;refine ⟨_,rfl,dc rfl,fun l5 B9=>?_⟩;have s8:=aG (o:=.lst [.ref wt]) B9;refine ⟨l1,l5,_,_,rfl,rfl,s8 _ _ ai,ai,sz (by rw [aB,ie];show _+1<=_;rw [R6.len];lia),fun l6 vz=>?_⟩;have s9:=aG (o:=.lst ((qs.take i).map V.ref++[.ref wt])) vz;have wM:=(s7.trans s8).trans s9;refine ⟨_,rfl,ay (wM _ _ oV.tup) rfl ⟨_,rfl,_,_,rfl,rfl,_,rfl,fa,_,rfl,ax.of (wM _ _ R6.1),fun l2 jW=>?_⟩⟩;rw [JZ,HC];have ow:=aG (o:=.lst ((qs.drop (i+1)).map V.ref)) jW;refine ⟨l6,l2,_,_,rfl,rfl,ow _ _ ai,ai,sz (by rw [ig,aB,aB,ie,vI,R6.len];show _+1+_<=_;lia),fun l3 oK=>?_⟩;rw [show (qs.take i).map V.ref++[V.ref wt]++(qs.drop (i+1)).map V.ref=(qs.take i++[wt]++qs.drop (i+1)).map V.ref by rw [ef,ef];rfl];have wO:=aG (o:=.lst ((qs.take i++[wt]++qs.drop (i+1)).map V.ref)) oK;have tF:=(wM.trans ow).trans wO;refine ⟨dc rfl,fun t4 x9=>?_⟩;have ou:=aG (o:=.tup [.int (N:Int),.int la,.ref ta,.ref l3]) x9;have sA:=tF.trans ou;exact k t4 ta l3 la rT _ _ ⟨ai,oV.t.same sA,⟨_,ou _ _ ai,gL (p_ (p_ (zev i R6.2) (.cons w6 .nil)) (DT (i+1) R6.2)) fun q r e=>sA _ _ e⟩⟩ w1 w2 (k6.trans sA.keep)
   clear c1;have pI:=kd D DA k1;refine ⟨_,rfl,rfl,_,rfl,hV (fun _=>?_) (fun _=>ip (c2 _ D1 k1))⟩;refine ⟨_,rfl,ay pI.tup rfl ⟨d9 _,fun nl zu=>?_⟩⟩;have s1:=aG (o:=.lst []) zu;have D2:=D1.same s1;have k2:=k1.trans s1.keep;have kM:=pI.same s1;obtain ⟨qs,R2⟩:=id kM.t;refine ⟨ta,nl,_,rfl,rfl,ax.of R2.1,ax.of ai,_,rfl,hV (fun z=>?_) (fun _=>c2 _ D2 k2)⟩;clear c2;refine ⟨_,rfl,_,rfl,ay kM.tup rfl ⟨ta,_,rfl,R2.1,d,sa,_,rfl,D2,pos z,fun i H3 i0 i1 D3 k3=>?_⟩⟩;have sE:=kd D2 kM k3;have R3:=R2.keep k3 (dl D2).choose_spec wI;obtain ⟨i,q,r,rfl,hi,iH,fU,hq⟩:=key R3 i0 i1;obtain ⟨a,b,l,m,rfl,x1,x2,x3,x4,x5,x6,x7,x8⟩:=af.t r (gq fU);refine ⟨_,rfl,ay sE.tup rfl (oW rfl R3.1 iH ⟨q,_,rfl,c_.of hq,rfl,_,_,rfl,_,_,rfl,_,_,rfl,_,_,rfl,rfl,?_⟩)⟩;refine ⟨_,rfl,_,rfl,_,rfl,_,rfl,_,rfl,d,sa,_,rfl,D3,by decide,fun r1 H4 JD r11 D4 k4=>⟨_,_,rfl,rfl,_,_,rfl,_,rfl,_,rfl,d,sa,_,rfl,D4,by decide,fun r2 H5 r20 r21 D5 k5=>⟨_,_,rfl,rfl,_,_,rfl,dc rfl,fun wt Bo=>?_⟩⟩⟩;obtain ⟨l',el,l1',JQ⟩:∃l',(if l-r1> -60 then l-r1 else-60)=l'/\-60<=l'/\l'<=l:=⟨_,rfl,by split<;>lia,by split<;>lia⟩;obtain ⟨m',em,m1',m2'⟩:∃m',(if m+r2<60 then m+r2 else 60)=m'/\m<=m'/\m'<=60:=⟨_,rfl,by split<;>lia,by split<;>lia⟩;rw [el,em];clear el em;have ue:=(k3.trans k4).trans k5;have Cu:=kd D2 kM ue;have R5:=R2.keep ue (dl D2).choose_spec wI;have s6:=aG (o:=.tup [.int a,.int b,.int l',.int m']) Bo;have oV:=Cu.same s6;have R6:=R5.same s6;have w6:upd H5 wt (.tup [.int a,.int b,.int l',.int m']) wt=some (.tup ([a,b,l',m'].map V.int)):=ai;have k6:=(k2.trans ue).trans s6.keep;generalize upd H5 wt (.tup [.int a,.int b,.int l',.int m'])=H6 at*;clear s6 Bo D5 D4 R5 Cu ue k5 k4;refine ⟨_,rfl,ay oV.tup rfl ⟨_,rfl,ay oV.tup rfl ⟨_,rfl,ay oV.tup rfl ⟨_,rfl,_,rfl,ta,_,rfl,ax.of R6.1,fun l1 kF=>?_⟩⟩⟩⟩;rw [GH];have s7:=aG (o:=.lst ((qs.take i).map V.ref)) kF;refine ⟨_,rfl,dc rfl,fun l5 B9=>?_⟩;have s8:=aG (o:=.lst [.ref wt]) B9;refine ⟨l1,l5,_,_,rfl,rfl,s8 _ _ ai,ai,sz (by rw [aB,ie];show _+1<=_;rw [R6.len];lia),fun l6 vz=>?_⟩;have s9:=aG (o:=.lst ((qs.take i).map V.ref++[.ref wt])) vz;have wM:=(s7.trans s8).trans s9;refine ⟨_,rfl,ay (wM _ _ oV.tup) rfl ⟨_,rfl,_,_,rfl,rfl,_,rfl,ta,_,rfl,ax.of (wM _ _ R6.1),fun l2 jW=>?_⟩⟩;rw [JZ,HC];have ow:=aG (o:=.lst ((qs.drop (i+1)).map V.ref)) jW;refine ⟨l6,l2,_,_,rfl,rfl,ow _ _ ai,ai,sz (by rw [ig,aB,aB,ie,vI,R6.len];show _+1+_<=_;lia),fun l3 oK=>?_⟩;rw [show (qs.take i).map V.ref++[V.ref wt]++(qs.drop (i+1)).map V.ref=(qs.take i++[wt]++qs.drop (i+1)).map V.ref by rw [ef,ef];rfl];have wO:=aG (o:=.lst ((qs.take i++[wt]++qs.drop (i+1)).map V.ref)) oK;have tF:=(wM.trans ow).trans wO;refine ⟨_,rfl,ay (tF _ _ oV.tup) rfl ⟨dc rfl,fun t4 x9=>?_⟩⟩;have ou:=aG (o:=.tup [.int (N:Int),.int la,.ref l3,.ref fa]) x9;have sA:=tF.trans ou;obtain ⟨w1,w2⟩:=V1 af fU l1' JQ m1' m2';rw [<-Nd hi] at w1 w2;exact k t4 l3 fa la _ rF _ ⟨ai,⟨_,ou _ _ ai,gL (p_ (p_ (zev i R6.2) (.cons w6 .nil)) (DT (i+1) R6.2)) fun q r e=>sA _ _ e⟩,oV.f.same sA⟩ w1 w2 (k6.trans sA.keep)
  clear c1;have pI:=kd D DA k1;refine ⟨_,rfl,rfl,_,rfl,hV (fun _=>?_) (fun _=>ip (c2 _ D1 k1))⟩;refine ⟨_,rfl,ay pI.tup rfl ⟨d9 _,fun nl zu=>?_⟩⟩;have s1:=aG (o:=.lst []) zu;have D2:=D1.same s1;have k2:=k1.trans s1.keep;have kM:=pI.same s1;obtain ⟨qs,R2⟩:=id kM.t;refine ⟨ta,nl,_,rfl,rfl,ax.of R2.1,ax.of ai,_,rfl,hV (fun z=>?_) (fun _=>c2 _ D2 k2)⟩;clear c2;refine ⟨_,rfl,_,rfl,ay kM.tup rfl ⟨ta,_,rfl,R2.1,d,sa,_,rfl,D2,pos z,fun i H3 i0 i1 D3 k3=>?_⟩⟩;have sE:=kd D2 kM k3;have R3:=R2.keep k3 (dl D2).choose_spec wI;obtain ⟨i,q,r,rfl,hi,iH,fU,hq⟩:=key R3 i0 i1;refine ⟨_,rfl,ay sE.tup rfl ⟨_,rfl,ay sE.tup rfl ⟨_,rfl,ay sE.tup rfl ⟨_,rfl,_,rfl,ta,_,rfl,ax.of R3.1,fun l1 kF=>?_⟩⟩⟩⟩;rw [GH];have s4:=aG (o:=.lst ((qs.take i).map V.ref)) kF;refine ⟨_,rfl,ay (s4 _ _ sE.tup) rfl ⟨_,rfl,_,_,rfl,rfl,_,rfl,ta,_,rfl,ax.of (s4 _ _ R3.1),fun l2 jW=>?_⟩⟩;rw [JZ,HC];have s5:=aG (o:=.lst ((qs.drop (i+1)).map V.ref)) jW;refine ⟨l1,l2,_,_,rfl,rfl,s5 _ _ ai,ai,sz (by rw [aB,aB,ie,vI,R3.len];lia),fun l3 oK=>?_⟩;rw [<-ef];have s6:=aG (o:=.lst ((qs.take i++qs.drop (i+1)).map V.ref)) oK;have Rg:=(s4.trans s5).trans s6;refine ⟨_,rfl,ay (Rg _ _ sE.tup) rfl ⟨dc rfl,fun t4 x9=>?_⟩⟩;have s7:=aG (o:=.tup [.int (N:Int),.int la,.ref l3,.ref fa]) x9;have IZ:=Rg.trans s7;obtain ⟨w1,w2⟩:=UC af (i:=i);exact k t4 l3 fa la _ rF _ ⟨ai,⟨_,s7 _ _ ai,gL (p_ (zev i R3.2) (DT (i+1) R3.2)) fun q r e=>IZ _ _ e⟩,sE.f.same IZ⟩ w1 w2 ((k2.trans k3).trans IZ.keep)
end Y0
namespace L2
open PySem PySem.Spec PyProof.Rows
def cU (n:Nat) (t:Nat->Int):List V:=(List.range n).map fun i=>V.int (t i)
theorem Dj:(cU n t).length=n:=by unfold cU;rw [aB,List.length_range]
theorem Hq (h:i<n):(cU n t)[i]?=some (.int (t i)):=by
 unfold cU;rw [f9,List.getElem?_range h];rfl
theorem pP (h:i<n):iI (cU n t) (i:Int)=some (.int (t i)):=ko (Hq h)
theorem Vj (h:i<n):pk n (i:Int)=some i:=by
 unfold pk;rw [if_pos (by omega),if_pos (by omega)];simp
theorem Ag (h:i<n):pk (cU n t).length (i:Int)=some i:=by rw [Dj];exact Vj h
theorem Ap:(cU n t).set i (.int v)=cU n (MB.put t i v):=by
 apply List.ext_getElem?;intro j;rw [List.getElem?_set,Dj]
 by_cases hj:j<n
 ·rw [Hq hj,Hq hj];unfold MB.put
  by_cases e:i=j
  ·subst e;simp [hj]
  ·rw [if_neg e,if_neg fun z=>e z.symm]
 ·have h1:∀t':Nat->Int,(cU n t')[j]?=none:=fun t'=>List.getElem?_eq_none_iff.mpr (by rw [Dj];omega);rw [h1,h1];split
  ·split
   ·omega
   ·rfl
  ·rfl
theorem Dk:(List.replicate n [V.int v]).flatten=cU n (fun _=>v):=by
 induction n with
 | zero=>rfl
 | succ n ih=>
  rw [List.replicate_succ',List.flatten_append,ih];unfold cU;rw [List.range_succ,ef];rfl
theorem WI (h:∀i,i<n->t i=u i):cU n t=cU n u:=by
 unfold cU;refine List.map_congr_left fun i hi=>?_;rw [h i (List.mem_range.mp hi)]
theorem yQ (s:aI H0 H) (h:H0 a=none):aI H0 (upd H a o):=fun b u e=>by
 rw [ak (aR e h)];exact s b u e
end L2
namespace Y0
open PySem L2
def pN (ring:List Nat):List V:=ring.map fun (i:Nat)=>V.int (i:Int)
def MN:Sp:=fun vs H Q _=>∃(a:Addr) (x N:Nat) (p:Nat->Nat),vs=[.ref a,.int (x:Int)]/\H a=some (.lst (cU N fun i=>(p i:Int)))/\1<=N/\N<=8/\(∀i,p i<N)/\x<N/\
 ∀ring l H',MB.CK p N x ring->H l=none->aI H H'->H' l=some (.lst (pN ring))->Q (.ref l) H'
structure rj (K:aF) (mg:Str->Option Value) (C Mo fI:Addr):Prop where
 range:mg "range"=none
 len:mg "len"=none
 list:mg "list"=none
 ex:rA K C Mo fI
 ba:QL K Mo
 mo:mg "MomentError"=some (.ref Mo)
 nR:PySem.W.findIn K (.ref C) "ring"=some none
 Bg:mg "NoTimes"=some (.ref C)
def Ml (C:Addr):Sp:=fun vs H Q _=>∃x r xs,vs=[.ref x,.ref r]/\H x=some (jv x C none)/\H r=some (.lst xs)/\xs.length<=1000/\
 ∀d l H',H d=none->H l=none->H' x=some (jv x C (some d))->H' d=some (u7 d [("ring",.ref l)])->H' l=some (.lst xs)->cp x H H'->Q .aU H'
theorem YE:cG ["self","ring"] ["self","ring"] (aZ cO):=cV
theorem xf (F:gZ K "__init__" "NoTimes.__init__" cO fI fd) (T:rj K mg C Mo fI):ar P w K mg base a9 1 fI fd ["self","ring"] (Ml C):=by
 refine F.ok YE (fun _ _ _ _ h=>?_) fun _ A _ s H _ Q E hr h=>?_
 ·obtain ⟨x,r,_,rfl,_⟩:=h;rfl
 ·obtain ⟨x,r,xs,rfl,hx,aJ,hl,k⟩:=h;refine ⟨_,a_ (gJ (US T.ba rfl T.mo (bw (pv 0) (uU yY (by rfl) T.list (by decide+kernel) (bM (pv 1))))))
   (aE (UZ (pv 0) (uU yY (by rfl) T.list (by decide+kernel) (bM (pv 1))) rfl)),?_⟩
  refine ⟨_,rfl,_,rfl,r,_,rfl,.inl (ax.of aJ),fun l1 kF=>?_⟩;have s1:=aG (o:=.lst xs) kF;refine ⟨x,_,C,Mo,fI,none,rfl,s1 _ _ hx,T.ex,dc rfl,?_⟩;refine ⟨_,rfl,r,_,rfl,.inl (ax.of (s1 _ _ aJ)),fun l2 jW=>?_⟩;have s2:=s1.trans (aG (o:=.lst xs) jW);refine ⟨_,rfl,x,C,Mo,fI,rfl,s2 _ _ hx,T.ex,T.nR,fun d hd Fp=>?_⟩;have l2x:l2≠x:=aD (aR hx (s1.free jW));have l2d:l2≠d:=aR (H:=upd (upd H l1 (.lst xs)) l2 (.lst xs)) ai hd;refine k d l2 _ (s2.free hd) (s1.free jW) ?_ ai ?_ fun b o e ne=>?_
  ·rw [ak (aD Fp),ai]
  ·rw [ak l2d,ak l2x,ai]
  ·rw [ak (aR (s2 _ _ e) hd),ak ne];exact s2 _ _ e
abbrev nRb:List Str:=["pushers","moment","start","step","ring"]
theorem zU:cG nRb ["pushers","moment"] (aZ c8):=cV
theorem Qj (r:List Nat) (x:Nat):pN (r++[x])=pN r++[V.int (x:Int)]:=by unfold pN;rw [ef];rfl
theorem tS (F:Fn K mg "ring_behind" c8 ["pushers","moment"] f fd) (T:rj K mg C Mo fI):ar P w K mg base a9 1 f fd ["pushers","moment"] MN:=by
 refine F.F.ok zU (fun _ _ _ _ h=>?_) fun _ A _ s H _ Q E hr h=>?_
 ·obtain ⟨a,x,N,p,rfl,_⟩:=h;rfl
 ·obtain ⟨a,x,N,p,rfl,ha,N1,N8,hp,hx,k⟩:=h;refine ⟨_,a_ (cA 2 zU.nd (pv 1))
   (a_ (jw PassesOwn.never rfl (tf rfl T.range (bM (jx wC (by rfl) T.len uy (bM (pv 0))))) (bS 3 zU.nd)
    (aE (cA 2 zU.nd (de dW (pv 0) (pv 2) (fun _ _=>rfl)))))
   (a_ (cA 4 zU.nd (jo (bM (pv 2))))
   (a_ (O5 PassesOwn.never (dh CJ (de dW (pv 0) (de dW (pv 4) (sO sR aw) (fun _ _=>rfl)) (fun _ _=>rfl)) (pv 2))
    (aE (gJ (rE su rg sr pV (pv 4) (bM (de dW (pv 0) (de dW (pv 4) (sO sR aw) (fun _ _=>rfl)) (fun _ _=>rfl)))))))
   (aE (cC (pv 4)))))),?_⟩
  have lt:∀j,MA.it p j x<N:=fun j=>MA.zZ (fun y _=>hp y) hx j;have RH:∀j,MA.it p j (MA.it p N x)<N:=fun j=>MA.zZ (fun y _=>hp y) (lt N) j;refine ⟨_,rfl,_,rfl,a,_,rfl,.inl (ax.of ha),(N:Int),(by rw [Dj]),by omega,by omega,?_⟩;refine AE (n:=((N:Int)).toNat) (fun i aa H'=>∃v,aa=[some (.ref a),some (.int (x:Int)),some (.int (MA.it p i x:Int)),v,none]/\H'=H) ⟨none,rfl,rfl⟩ ?_ ?_
  ·rintro i aa H' hi ⟨v,rfl,rfl⟩;exact ⟨_,rfl,oW rfl ha (pP (lt i)) ⟨_,rfl,rfl⟩⟩
  ·rintro aa H' ⟨v,rfl,rfl⟩;rw [i7];obtain ⟨ze,i6,jg,Kw⟩:=MA.NN (fun y _=>hp y) hx (n:=N);refine ⟨_,rfl,dc rfl,fun l hl=>?_⟩;have s0:=aG (o:=.lst [V.int (MA.it p N x:Int)]) hl;refine ⟨fun m aa H1=>∃L,1<=L/\L+m=ze/\(∀j,0<j->j<L->MA.it p j (MA.it p N x)≠MA.it p N x)/\aa=[some (.ref a),some (.int (x:Int)),some (.int (MA.it p N x:Int)),v,some (.ref l)]/\aI H' H1/\
    H1 l=some (.lst (pN ((List.range L).map fun j=>MA.it p j (MA.it p N x)))),⟨ze-1,1,az _,by omega,(fun j h1 h2=>by omega),rfl,s0,ai⟩,?_⟩
   rintro m aa H1 ⟨L,L1,Lm,cW,rfl,s1,e1⟩;have el:(List.range L).map (fun j=>MA.it p j (MA.it p N x))=(List.range (L-1)).map (fun j=>MA.it p j (MA.it p N x))++[MA.it p (L-1) (MA.it p N x)]:=by
    have:L=(L-1)+1:=by omega
    rw [this,List.range_succ,ef];rfl
   have fV:iI (pN ((List.range L).map fun j=>MA.it p j (MA.it p N x))) (-1)=some (.int (MA.it p (L-1) (MA.it p N x):Int)):=by
    rw [el,Qj];exact V5 _ _
   have eL:p (MA.it p (L-1) (MA.it p N x))=MA.it p L (MA.it p N x):=by
    have:L=(L-1)+1:=by omega
    rw [this];rfl
   refine ⟨_,rfl,_,rfl,_,rfl,_,_,_,_,rfl,rfl,e1,fV,_,_,_,_,rfl,rfl,(s1 _ _ ha),pP (RH _),_,rfl,rfl,_,rfl,?_⟩;refine hV (fun hc=>?_) (fun hc=>?_)
   ·have B4:MA.it p L (MA.it p N x)≠MA.it p N x:=fun z=>by
     rw [eL,z] at hc;simp at hc
    have Lv:L≠ze:=fun z=>B4 (z▸Kw);refine ⟨fun aa H2=>∃m',m'<m/\∃L,1<=L/\L+m'=ze/\(∀j,0<j->j<L->MA.it p j (MA.it p N x)≠MA.it p N x)/\aa=[some (.ref a),some (.int (x:Int)),some (.int (MA.it p N x:Int)),v,some (.ref l)]/\aI H' H2/\
     H2 l=some (.lst (pN ((List.range L).map fun j=>MA.it p j (MA.it p N x)))),fun aa H' z=>z,?_⟩
    refine ⟨_,rfl,.inl ⟨rfl,_,ax.of e1⟩,_,rfl,_,rfl,_,rfl,_,_,_,_,rfl,rfl,e1,fV,_,_,_,_,rfl,rfl,(s1 _ _ ha),pP (RH _),l,_,_,rfl,rfl,e1,?_,?_⟩
    ·unfold pN;rw [aB,aB,List.length_range];exact gK (by omega)
    ·refine ⟨m-1,by omega,L+1,by omega,by omega,fun j h1 h2=>?_,rfl,yQ s1 hl,?_⟩
     ·by_cases e:j=L
      ·rw [e];exact B4
      ·exact cW j h1 (by omega)
     ·rw [ai,List.range_succ,ef,eL];exact congrArg (fun z=>some (HO.lst z)) (Qj _ _).symm
   ·have he:MA.it p L (MA.it p N x)=MA.it p N x:=by
     rw [eL] at hc;simp at hc;omega
    exact ⟨_,rfl,k _ l H1 ⟨L,L1,by omega,rfl,he,cW⟩ hl s1 e1⟩
def iC:List Int->MB.B3
 | [a,b,m]=>(a.toNat,b.toNat,m)
 | _=>(0,0,0)
def Idx (N:Nat) (rows:List (List Int)):Prop:=∀r∈rows,∃(a b:Nat) (m:Int),r=[(a:Int),(b:Int),m]/\a<N/\b<N
theorem Idx.EV (h:Idx N rows):MB.Cs N (rows.map iC):=fun x hx=>by
 obtain ⟨r,hr,rfl⟩:=eD.mp hx;obtain ⟨a,b,m,rfl,ha,hb⟩:=h r hr;show (a:Int).toNat<N/\(b:Int).toNat<N;omega
def qV:Option Nat->V
 | none=>.aU
 | some x=>.int (x:Int)
theorem MC:(qV q=.aU)↔q=none:=by cases q<;>simp [qV]
def N7 (CN:Addr):Sp:=fun vs H Q E=>∃(N:Nat) (a:Addr) (rows:List (List Int)),vs=[.int (N:Int),.ref a]/\1<=N/\N<=8/\eJ H a rows/\Idx N rows/\
 (∀k l H',k<N->(MB.bg (rows.map iC) (k+1)).q=none->H l=none->aI H H'->H' l=some (.lst (cU N (MB.bg (rows.map iC) (k+1)).t))->Q (.ref l) H')/\
 ((∀k,k<N->(MB.bg (rows.map iC) (k+1)).q≠none)->∀x d l ring H',(MB.bg (rows.map iC) N).q=some x->MB.CK (MB.bg (rows.map iC) N).p N x ring->H d=none->H l=none->aI H H'->
   H' d=some (u7 d [("ring",.ref l)])->H' l=some (.lst (pN ring))->E (.ref CN) (some d) H')
abbrev nEt:List Str:=["many","bounds","times","pushers","turn","pushed","a","b","most"]
theorem sL:cG nEt ["many","bounds"] (aZ bE):=cV
theorem qw (F:Fn K mg "earliest_times" bE ["many","bounds"] f fd) (T:rj K mg C Mo fI) (bI:eY K BY ["self","ring"] [])
 (GI:ar P w K mg base a9 1 fI BY ["self","ring"] (Ml C)) (FR:Fn K mg "ring_behind" c8 ["pushers","moment"] fR LB) (GR:ar P w K mg base a9 1 fR LB ["pushers","moment"] MN):
 ar P w K mg base (nV P w) 3 f fd ["many","bounds"] (N7 C):=by
 refine F.F.Rr sL (fun _ _ _ _ h=>?_) fun _ A _ s H _ Q E hr h=>?_
 ·obtain ⟨N,a,rows,rfl,_⟩:=h;rfl
 ·obtain ⟨N,a,rows,rfl,N1,N8,⟨ps,R⟩,Fi,kq,ke⟩:=h;have fU:cY 1 _:=hr.mono (by decide);have hB:=Fi.EV;generalize S9:rows.map iC=B at*;refine ⟨_,a_ (cA 2 sL.nd (bP CV (jo (bM aw)) (pv 0)))
   (a_ (cA 3 sL.nd (bP CV (jo (bM aw)) (pv 0)))
   (a_ (Tw (jw PassesOwn.never rfl (tf rfl T.range (bM (pv 0))) (bS 4 sL.nd)
    (a_ (cA 5 sL.nd mY)
    (a_ (jw PassesOwn.never rfl (jq (pv 1)) (uK rfl (dX (bS 6 sL.nd) (dX (bS 7 sL.nd) (dX (bS 8 sL.nd) rM))))
     (aE (dR (dh uG (de dW (pv 2) (pv 6) (fun _ _=>rfl)) (bP iQ (de dW (pv 2) (pv 7) (fun _ _=>rfl)) (pv 8)))
      (a_ (uL (bP iQ (de dW (pv 2) (pv 7) (fun _ _=>rfl)) (pv 8)) (yC (pv 2) (pv 6) yR))
      (a_ (uL (pv 7) (yC (pv 3) (pv 6) yR))
      (aE (cA 5 sL.nd (pv 6))))) dZ)))
    (aE (dR (dh G' (pv 5) mY) (aE (cC (pv 2))) dZ))))))
   (aE (VP (VM T.ex GI hr rfl T.Bg bI gv (bM (cf GR fU FR (bw (pv 3) (pv 5))))))))),?_⟩
  refine ⟨dc rfl,fun z1 Bm=>⟨_,rfl,z1,_,_,rfl,rfl,ai,by omega,by omega,?_,fun ta Bq=>?_⟩⟩
  ·show 1*((N:Int)).toNat<=sizeLine;exact bp (gK (by omega))
  rw [i7,Dk];have s1:=aG (o:=.lst [V.int 0]) Bm;have s2:=s1.trans (aG (o:=.lst (cU N fun _=>0)) Bq);have Bp:H ta=none:=s1.free Bq;have et:upd (upd H z1 (.lst [V.int 0])) ta (.lst (cU N fun _=>0)) ta=some (.lst (cU N fun _=>0)):=ai;generalize upd (upd H z1 (.lst [V.int 0])) ta (.lst (cU N fun _=>0))=H2 at*;refine ⟨dc rfl,fun z2 Bl=>⟨_,rfl,z2,_,_,rfl,rfl,ai,by omega,by omega,?_,fun pa Fc=>?_⟩⟩
  ·show 1*((N:Int)).toNat<=sizeLine;exact bp (gK (by omega))
  rw [i7,Dk];have s3:=aG (o:=.lst [V.int 0]) Bl;have s4:=s3.trans (aG (o:=.lst (cU N fun _=>0)) Fc);have Kx:H pa=none:=s2.free (s3.free Fc);have ep:upd (upd H2 z2 (.lst [V.int 0])) pa (.lst (cU N fun _=>0)) pa=some (.lst (cU N fun _=>0)):=ai;have tp:ta≠pa:=aR et (s3.free Fc);have et4:=s4 _ _ et;have sH:=s2.trans s4;clear s1 s2 s3 s4 Bm Bl Bq Fc;generalize upd (upd H2 z2 (.lst [V.int 0])) pa (.lst (cU N fun _=>0))=H4 at*;refine ⟨_,rfl,(N:Int),rfl,by omega,by omega,?_⟩;refine AE (n:=((N:Int)).toNat) (fun i aa H'=>∃v4 v5 v6 v7 v8,aa=[some (.int (N:Int)),some (.ref a),some (.ref ta),some (.ref pa),v4,v5,v6,v7,v8]/\H' ta=some (.lst (cU N (MB.bg B i).t))/\
   H' pa=some (.lst (cU N fun j=>((MB.bg B i).p j:Int)))/\aI H H'/\(∀j,j<i->(MB.bg B (j+1)).q≠none)/\(i=0\/v5=some (qV (MB.bg B i).q))) ⟨none,none,none,none,none,rfl,et4,ep,sH,(fun j hj=>absurd hj (so _)),.inl rfl⟩ ?_ ?_
  ·rintro i aa H5 hi ⟨v4,v5,v6,v7,v8,rfl,t5,p5,s5,lz,_⟩;rw [i7] at hi;have R5:=R.same s5;refine ⟨_,rfl,a,rfl,⟨_,ax.of R5.1⟩,om (K:=K) (a:=a) (xs:=ps.map V.ref) (fun j aa H'=>∃w6 w7 w8,aa=[some (.int (N:Int)),some (.ref a),some (.ref ta),some (.ref pa),some (.int (0+(i:Int))),some (qV ((B.take j).foldl MB.fG (MB.begin (MB.bg B i))).q),w6,w7,w8]/\
    H' ta=some (.lst (cU N ((B.take j).foldl MB.fG (MB.begin (MB.bg B i))).t))/\H' pa=some (.lst (cU N fun x=>(((B.take j).foldl MB.fG (MB.begin (MB.bg B i))).p x:Int)))/\aI H H') ⟨v6,v7,v8,rfl,t5,p5,s5⟩ ?_ ?_ ?_⟩
   ·rintro j aa H6 _ ⟨w6,w7,w8,rfl,_,_,s6⟩;exact ax.of (s6 _ _ R.1)
   ·rintro j x aa H6 hx ⟨w6,w7,w8,rfl,t6,p6,s6⟩;obtain ⟨q,r,rfl,hq,aJ,iG⟩:=R.get hx;obtain ⟨a',b',m,e4,uv,dQ⟩:=Fi r (gq aJ);subst e4;have hBj:B[j]?=some (a',b',m):=by
     rw [<-S9,f9,aJ];show some ((a':Int).toNat,(b':Int).toNat,m)=_;rw [i7,i7]
    have B':(B.take (j+1)).foldl MB.fG (MB.begin (MB.bg B i))=MB.fG ((B.take j).foldl MB.fG (MB.begin (MB.bg B i))) (a',b',m):=by
     rw [lD,hBj,List.foldl_append];rfl
    generalize (B.take j).foldl MB.fG (MB.begin (MB.bg B i))=S at*;rw [B'];refine ⟨q,_,rfl,c_.of (s6 _ _ iG),rfl,_,_,rfl,_,_,rfl,_,_,rfl,rfl,?_⟩;refine ⟨_,rfl,oW rfl t6 (pP uv) ⟨_,rfl,oW rfl t6 (pP dQ) ⟨_,rfl,_,_,rfl,rfl,_,_,rfl,rfl,_,rfl,?_⟩⟩⟩;refine hV (fun hc=>?_) (fun hc=>?_)
    ·have jh:S.t a'<S.t b'-m:=by simpa using hc
     have er:MB.fG S (a',b',m)=⟨MB.put S.t a' (S.t b'-m),MB.put S.p a' b',some a'⟩:=by
      unfold MB.fG;exact if_pos jh
     rw [er];refine ⟨_,rfl,oW rfl t6 (pP dQ) ⟨_,rfl,_,_,rfl,rfl,_,rfl,_,rfl,ta,_,_,_,rfl,rfl,t6,Ag uv,?_⟩⟩;have p7:upd H6 ta (.lst ((cU N S.t).set a' (.int (S.t b'-m)))) pa=some (.lst (cU N fun x=>(S.p x:Int))):=by rw [ak (aD tp)];exact p6
     refine ⟨_,rfl,_,rfl,_,rfl,pa,_,_,_,rfl,rfl,p7,Ag uv,?_⟩;refine ⟨_,rfl,_,_,_,rfl,?_,?_,yQ (yQ s6 Bp) Kx⟩
     ·rw [ak tp,ai,Ap]
     ·rw [ai,Ap];refine congrArg (fun z=>some (HO.lst z)) (WI fun x _=>?_);show (if x=a' then (b':Int) else (S.p x:Int))=((if x=a' then b' else S.p x:Nat):Int);split<;>rfl
    ·have jh:¬S.t a'<S.t b'-m:=by simpa using hc
     have er:MB.fG S (a',b',m)=S:=by
      unfold MB.fG;exact if_neg jh
     rw [er];exact ⟨_,_,_,rfl,t6,p6,s6⟩
   ·rintro aa H6 ⟨w6,w7,w8,rfl,t6,p6,s6⟩;have hBl:B.take (ps.map V.ref).length=B:=by
     rw [aB,R.len,<-S9,<-aB (f:=iC)];exact jB
    rw [hBl] at t6 p6 ⊢;have er:B.foldl MB.fG (MB.begin (MB.bg B i))=MB.bg B (i+1):=rfl;rw [er] at t6 p6 ⊢;refine ⟨_,rfl,rfl,_,rfl,?_⟩;refine hV (fun hc=>?_) (fun hc=>?_)
    ·have hq:(MB.bg B (i+1)).q=none:=MC.mp (by simpa using hc);exact ⟨_,rfl,kq i ta H6 hi hq Bp s6 t6⟩
    ·have hq:(MB.bg B (i+1)).q≠none:=fun z=>hc (by simpa using MC.mpr z);refine ⟨_,_,_,_,_,rfl,t6,p6,s6,fun j hj=>?_,.inr rfl⟩
     by_cases e:j=i
     ·rw [e];exact hq
     ·exact lz j (by omega)
  ·rintro aa H5 ⟨v4,v5,v6,v7,v8,rfl,t5,p5,s5,lz,hv⟩;rw [i7] at*;have hv:v5=some (qV (MB.bg B N).q):=hv.resolve_left (by omega);have hq:(MB.bg B N).q≠none:=by
    have:=lz (N-1) (by omega)
    rwa [show N-1+1=N by omega] at this
   cases hx:(MB.bg B N).q with
   | none=>exact absurd hx hq
   | some x=>
    rw [hx] at hv;subst hv;have gx:=MB.DD (n:=N) (by omega) hB N;refine ⟨_,rfl,_,rfl,pa,x,N,_,rfl,p5,N1,N8,gx.p,gx.q x hx,fun ring l H6 nC hl s6 e6=>?_⟩;refine ⟨dc rfl,fun ea Le=>?_⟩;have s7:=aG (o:=jv ea C none) Le;refine ⟨ea,l,_,rfl,ai,s7 _ _ e6,?_,fun d l2 H7 hd jW ex ed el kp=>⟨rfl,ea,C,Mo,fI,some d,rfl,ex,T.ex,s5.free (s6.free Le),?_⟩⟩
    ·unfold pN;obtain ⟨L,_,hL,e,_⟩:=nC;rw [e,aB,aB,List.length_range];omega
    have dea:d≠ea:=aD (aR ai hd);have lea:l2≠ea:=aD (aR ai jW);have sA:=(s5.trans s6).trans s7;refine ke (fun k hk=>lz k hk) x d l2 ring _ hx nC (sA.free hd) (sA.free jW) (fun b o e=>?_) ?_ ?_
    ·have S_:b≠ea:=aR ((s5.trans s6) _ _ e) Le;rw [s_ S_];exact kp _ _ (sA _ _ e) S_
    ·rw [s_ dea];exact ed
    ·rw [s_ lea];exact el
end Y0
namespace L2
open PySem PySem.Spec PyProof.Rows
end L2
namespace Y0
open PySem L2
end Y0
namespace MB
theorem Vb (h:s.q≠none):(fG s x).q≠none:=by
 unfold fG;split
 ·simp
 ·exact h
theorem M7:∀{B:List B3} {s:Rx},s.q≠none->(B.foldl fG s).q≠none
 | [],_,h=>h
 | x::B,s,h=>M7 (B:=B) (Vb h)
theorem Qh:∀{B:List B3} {s:Rx},s.q=none->(B.foldl fG s).q=none->B.foldl fG s=s/\∀x∈B,s.t x.2.1-s.t x.1<=x.2.2
 | [],_,_,_=>⟨rfl,fun x h=>nomatch h⟩
 | x::B,s,h0,h=>by
  rw [List.foldl_cons] at h ⊢
  by_cases hc:s.t x.1<s.t x.2.1-x.2.2
  ·exact absurd h (M7 (by unfold fG;rw [if_pos hc];simp))
  ·have e:fG s x=s:=by unfold fG;rw [if_neg hc]
   rw [e] at h ⊢;obtain ⟨h1,h2⟩:=Qh (B:=B) h0 h;refine ⟨h1,fun y hy=>?_⟩;rcases eV.mp hy with q | q
   ·subst q;omega
   ·exact h2 y q
theorem quiet (h:(bg B (k+1)).q=none):(bg B (k+1)).t=(bg B k).t/\∀x∈B,(bg B (k+1)).t x.2.1-(bg B (k+1)).t x.1<=x.2.2:=by
 obtain ⟨h1,h2⟩:=Qh (B:=B) (s:=begin (bg B k)) rfl h;have e:bg B (k+1)=begin (bg B k):=h1;rw [e];exact ⟨rfl,h2⟩
end MB
namespace Y0
open PySem L2
theorem O9:∀{k:Nat},k<N->Idx N (kR la k)
 | 0,_=>fun r hr=>nomatch hr
 | k+1,hk=>fun r hr=>by
  unfold kR at hr;rcases i8.mp hr with h | h
  ·exact O9 (k:=k) (by omega) r h
  ·have e:(k:Int)+1=((k+1:Nat):Int):=by omega
   rcases eV.mp h with h | h
   ·exact ⟨0,k+1,la,by rw [h,e];rfl,by omega,hk⟩
   ·rw [iK.mp h];exact ⟨k+1,0,0,by rw [e];rfl,hk,by omega⟩
theorem HL {N:Nat}:∀{rows:List (List Int)},(∀r∈rows,∃a b l m:Int,r=[a,b,l,m]/\0<=a/\a<N/\0<=b/\b<N)->Idx N (jF rows)
 | [],_=>fun r hr=>nomatch hr
 | r::t,h=>fun x hx=>by
  unfold jF at hx;rw [eU,List.flatten_cons] at hx;rcases i8.mp hx with z | z
  ·obtain ⟨a,b,l,m,rfl,h1,h2,h3,h4⟩:=h r eG;rcases eV.mp z with z | z
   ·exact ⟨a.toNat,b.toNat,m,by rw [z,lE h1,lE h3],by omega,by omega⟩
   ·rw [iK.mp z];exact ⟨b.toNat,a.toNat,-l,by rw [lE h1,lE h3],by omega,by omega⟩
  ·exact HL (rows:=t) (fun r hr=>h r (gz _ hr)) x z
theorem Idx.append (h1:Idx N a) (h2:Idx N b):Idx N (a++b):=fun r hr=>(i8.mp hr).elim (h1 r) (h2 r)
theorem cB.idx {N:Nat} {la:Int} {T F:List (List Int)} (h:cB (N:Int) la T F):Idx N (gQ (N:Int) la T F):=by
 unfold gQ;have:=h.n1;refine ((O9 (by omega)).append (HL fun r hr=>?_)).append (HL fun r hr=>?_)
 ·obtain ⟨a,b,l,m,e,h1,h2,h3,h4,_⟩:=h.t r hr;exact ⟨a,b,l,m,e,h1,h2,h3,h4⟩
 ·obtain ⟨a,b,l,m,e,h1,h2,h3,h4,_⟩:=h.f r hr;exact ⟨a,b,l,m,e,h1,h2,by omega,h4⟩
def mM (N:Nat) (F:List (List Int)):List Int:=((List.range N).filter fun (i:Nat)=>decide (¬(i:Int)∈F.map sG)).map fun (i:Nat)=>(i:Int)
def Mm (C:Addr):Sp:=fun vs H Q _=>∃(p:Addr) (N:Nat) (la:Int) (T F:List (List Int)),vs=[.ref p]/\jG C H p (N:Int) la T F/\cB (N:Int) la T F/\∀l H',H l=none->aI H H'->H' l=some (.lst ((mM N F).map V.int))->Q (.ref l) H'
theorem QF:cG ["self","ends"] ["self"] (aZ cZ):=cV
theorem Z5:iP (aZ cZ) ["self","ends"] (lT [(".0",.local),("fall",.local)]) ["fall"] [none]:=lU
theorem Zg:iP (aZ cZ) ["self","ends"] (lT [(".0",.local),("moment",.local),("ends",.free)]) ["moment","ends"] [none,some 1]:=lU
theorem Yy:(["moment","ends"]:List Str).Nodup:=by decide+kernel
theorem Wm:mM (j+1) F=mM j F++(if (j:Int)∈F.map sG then [] else [(j:Int)]):=by
 unfold mM;rw [List.range_succ,List.filter_append,ef]
 by_cases e:(j:Int)∈F.map sG
 ·rw [if_pos e,List.filter_cons_of_neg (by simpa using e)];rfl
 ·rw [if_neg e,List.filter_cons_of_pos (by simpa using e)];rfl
theorem UR:(mM j F).length<=j:=by
 unfold mM;rw [aB];exact eE (List.length_filter_le _ _) (Nat.le_of_eq List.length_range)
theorem xc (F:gZ K "own" "Web.own" cZ f fd) (range:mg "range"=none) (TC:nY K mg C):ar P w K mg base a9 1 f fd ["self"] (Mm C):=by
 refine F.ok QF (fun _ _ _ _ h=>?_) fun _ A _ s H _ Q E hr h=>?_
 ·obtain ⟨p,_,_,_,_,rfl,_⟩:=h;rfl
 ·obtain ⟨p,N,la,rT,rF,rfl,⟨dx,ta,fa,hp,_,⟨qs,R⟩⟩,af,k⟩:=h;have n8:=af.n2;refine ⟨_,a_ (pQ (i:=1) QF.nd rfl (Or.inr rfl) (pe rfl (jq (fQ (pv 0) rfl)) Z5 (fun cl ex s0 H0=>⟨bS 0 RB,pX,de (Vl (K:=K) rfl) (pv 0) aw (fun _ _=>rfl)⟩)))
   (aE (cC (pe rfl (tf rfl range (bM (fQ (pv 0) rfl))) Zg (fun cl ex s0 H0=>⟨bS 0 Yy,Ar (As (WK (K:=K) rfl) (pv 0) (pv 1) (by with_unfolding_all rfl)),pv 0⟩)))),?_⟩
  refine ⟨_,rfl,p,C,dx,_,_,rfl,hp,TC.cl,TC.nF,NR _ _ _ _,fa,rfl,⟨_,ax.of R.1⟩,fun Da cK=>?_⟩;refine uT (xs:=qs.map V.ref) (fun j aa H'=>∃v,aa=[v]/\H' Da=some (.lst (((rF.take j).map sG).map V.int))/\aI H H') ⟨none,rfl,ai,aG cK⟩ ?_ ?_ ?_
  ·rintro j aa H1 _ ⟨v,rfl,_,s1⟩;exact ax.of (s1 _ _ R.1)
  ·rintro j x aa H1 hx ⟨v,rfl,e1,s1⟩;obtain ⟨q,r,rfl,hq,aJ,iG⟩:=R.get hx;obtain ⟨a',b',l,m,rfl,_⟩:=af.f r (gq aJ);refine ⟨_,rfl,_,_,_,_,rfl,rfl,c_.of (s1 _ _ iG),rfl,_,e1,?_,_,rfl,?_,fun b o e=>?_⟩
   ·rw [aB,aB,ie];have:=af.fl;exact gK (by lia)
   ·rw [ai,lD,aJ,ef,ef];rfl
   ·rw [ak (aR e cK)];exact s1 _ _ e
  ·rintro aa H1 ⟨v,rfl,e1,s1⟩;have hl:rF.take (qs.map V.ref).length=rF:=by
    rw [aB,R.len];exact jB
   rw [hl] at e1;refine ⟨_,rfl,p,C,dx,_,_,rfl,s1 _ _ hp,TC.cl,TC.nM,uN _ _ _ _,(N:Int),rfl,by exact Int.NonNeg.mk (N+Nat.succ 4611686018427387903),by lia,fun Db xX=>?_⟩;refine AG (n:=((N:Nat):Int).toNat) (fun j aa H'=>∃v,aa=[v,some (.ref Da)]/\H' Db=some (.lst ((mM j rF).map V.int))/\aI H1 H') ⟨none,rfl,ai,aG xX⟩ ?_ ?_
   ·rintro j aa H2 hj ⟨v,rfl,e2,s2⟩;rw [i7] at hj;have z0:(0:Int)+(j:Int)=(j:Int):=by lia
    rw [z0];refine ⟨_,rfl,_,rfl,Da,_,rfl,.inl (ax.of (s2 _ _ e1)),rfl,AD,_,rfl,?_⟩;show if (!uf (V.int (j:Int)) ((rF.map sG).map V.int))=true then _ else _;rw [Av,Wm];refine hV (fun hc=>?_) (fun hc=>?_)
    ·have jh:¬(j:Int)∈rF.map sG:=by simpa using hc
     refine ⟨_,rfl,_,e2,?_,_,rfl,?_,fun b o e=>?_⟩
     ·rw [aB];exact gK (by have:=UR (j:=j) (F:=rF);lia)
     ·rw [ai,if_neg jh,ef];rfl
     ·rw [ak (aR e xX)];exact s2 _ _ e
    ·have jh:(j:Int)∈rF.map sG:=by simpa using hc
     refine ⟨_,rfl,?_,s2⟩;rw [if_pos jh,List.append_nil];exact e2
   ·rintro aa H2 ⟨v,rfl,e2,s2⟩;rw [i7] at e2;exact k Db _ (s1.free xX) (s1.trans s2) e2
def gy (F:List (List Int)):Nat->Int:=F.foldl (fun g r=>MB.put g (r.getD 1 0).toNat (r.getD 0 0)) (fun i=>(i:Int))
def jL (F:List (List Int)):Nat->Int:=F.foldl (fun g r=>MB.put g (r.getD 1 0).toNat (r.getD 2 0)) (fun _=>0)
def kr (F:List (List Int)):Nat->Int:=F.foldl (fun g r=>MB.put g (r.getD 1 0).toNat (r.getD 3 0)) (fun _=>0)
def w4 (F:List (List Int)):List Int->List Int
 | [a,b,m]=>[gy F a.toNat,gy F b.toNat,m+jL F a.toNat-kr F b.toNat]
 | r=>r
def lM (n la:Int) (T F:List (List Int)):List (List Int):=(gQ n la T F).map (w4 F)
theorem Oz {α:Type} {Pr:α->Prop} {f:List Int->α}:∀{F:List (List Int)} {g:Nat->α} {N:Nat},(∀r∈F,Pr (f r))->(∀i,i<N->Pr (g i))->∀i,i<N->Pr (F.foldl (fun g r=>MB.put g (r.getD 1 0).toNat (f r)) g i)
 | [],_,_,_,h,i,hi=>h i hi
 | r::F,g,N,hF,h,i,hi=>by
  rw [List.foldl_cons];refine Oz (fun x hx=>hF x (gz _ hx)) (fun j hj=>?_) i hi;unfold MB.put;split
  ·exact hF r eG
  ·exact h j hj
theorem Mw {N:Nat} {la:Int} {T F:List (List Int)} (h:cB (N:Int) la T F) {i:Nat} (hi:i<N):0<=gy F i/\gy F i<N:=by
 refine Oz (Pr:=fun v:Int=>0<=v/\v<N) (f:=fun r=>r.getD 0 0) (fun r hr=>?_) (fun j hj=>?_) i hi
 ·obtain ⟨a,b,l,m,rfl,h1,h2,_⟩:=h.f r hr;exact ⟨h1,h2⟩
 ·exact ⟨by omega,by omega⟩
theorem P7 {N:Nat} {la:Int} {T F:List (List Int)} (h:cB (N:Int) la T F):Idx N (lM (N:Int) la T F):=fun r hr=>by
 obtain ⟨r0,h0,rfl⟩:=eD.mp hr;obtain ⟨a,b,m,rfl,ha,hb⟩:=h.idx r0 h0;have e1:=Mw h ha;have e2:=Mw h hb;refine ⟨(gy F a).toNat,(gy F b).toNat,m+jL F a-kr F b,?_,by omega,by omega⟩;show [gy F (a:Int).toNat,gy F (b:Int).toNat,m+jL F (a:Int).toNat-kr F (b:Int).toNat]=_;rw [i7,i7,lE e1.1,lE e2.1]
def NH (C:Addr):Sp:=fun vs H Q _=>∃(p:Addr) (N:Nat) (la:Int) (T F:List (List Int)),vs=[.ref p]/\jG C H p (N:Int) la T F/\cB (N:Int) la T F/\∀l H',H l=none->aI H H'->eJ H' l (lM (N:Int) la T F)->Q (.ref l) H'
def Ys (N:Nat) (F:List (List Int)) (t:Nat->Int):List V:=(List.range N).map fun (i:Nat)=>if (i:Int)∈mM N F then V.int (t i) else V.aU
def NA (C CN:Addr):Sp:=fun vs H Q E=>∃(p:Addr) (N:Nat) (la:Int) (T F:List (List Int)),vs=[.ref p]/\jG C H p (N:Int) la T F/\cB (N:Int) la T F/\
 (∀k l H',k<N->(MB.bg ((lM (N:Int) la T F).map iC) (k+1)).q=none->H l=none->aI H H'->H' l=some (.lst (Ys N F (MB.bg ((lM (N:Int) la T F).map iC) (k+1)).t))->Q (.ref l) H')/\
 ((∀k,k<N->(MB.bg ((lM (N:Int) la T F).map iC) (k+1)).q≠none)->∀x d l ring H',(MB.bg ((lM (N:Int) la T F).map iC) N).q=some x->MB.CK (MB.bg ((lM (N:Int) la T F).map iC) N).p N x ring->H d=none->H l=none->aI H H'->
   H' d=some (u7 d [("ring",.ref l)])->H' l=some (.lst (pN ring))->E (.ref CN) (some d) H')
abbrev RD:List Str:=["web","begin","soon","late","one","other","least","most"]
theorem uA:cG RD ["web"] (aZ br):=cV
abbrev Q6:List Str:=["a","b","most","begin","late","soon"]
theorem Yo:iP (aZ br) RD (lT [(".0",.local),("a",.local),("b",.local),("most",.local),("begin",.free),("late",.free),("soon",.free)]) Q6 [none,none,none,some 1,some 3,some 2]:=lU
theorem Ir:Q6.Nodup:=by decide+kernel
theorem qk (F:Fn K mg "worst_bounds" br ["web"] f fd) (range:mg "range"=none) (list:mg "list"=none) (TC:nY K mg C)
 (FB:Fn K mg "told_bounds" bH ["web"] fB sf) (GB:ar P w K mg base a9 3 fB sf ["web"] (Hg C))
 (mF:jk K C "falls" fM) (bF:eY K yc ["self"] []) (GF:ar P w K mg base a9 1 fM yc ["self"] (yB C fun _ F=>F)):ar P w K mg base a9 4 f fd ["web"] (NH C):=by
 refine F.F.ok uA (fun _ _ _ _ h=>?_) fun _ A _ s H _ Q E hr h=>?_
 ·obtain ⟨p,_,_,_,_,rfl,_⟩:=h;rfl
 ·obtain ⟨p,N,la,rT,rF,rfl,W0,af,k⟩:=h;have fU:cY 1 _:=hr.mono (by decide);have n1:=af.n1;have n8:=af.n2;have Fm:=af.fl;refine ⟨_,a_ (pQ (i:=1) uA.nd rfl (Or.inr rfl) (XI rfl rfl list rfl range (bM (fQ (pv 0) rfl))))
   (a_ (pQ (i:=2) uA.nd rfl (Or.inr rfl) (bP CV (jo (bM aw)) (fQ (pv 0) rfl)))
   (a_ (pQ (i:=3) uA.nd rfl (Or.inr rfl) (bP CV (jo (bM aw)) (fQ (pv 0) rfl)))
   (a_ (jw PassesOwn.never rfl (jq (yO (pv 0) TC.cl mF GF fU bF .nil gv))
    (uK rfl (dX (bS 4 uA.nd) (dX (bS 5 uA.nd) (dX (bS 6 uA.nd) (dX (bS 7 uA.nd) rM)))))
    (a_ (uL (pv 4) (yC (pv 1) (pv 5) yR)) (a_ (uL (pv 6) (yC (pv 2) (pv 5) yR)) (aE (uL (pv 7) (yC (pv 3) (pv 5) yR))))))
   (aE (cC (pe rfl (jq (cf GB hr FB (bM (pv 0)))) Yo (fun cl ex s0 H0=>⟨Hu (K:=K) (n:=3) rfl rfl (dX (bS 0 Ir) (dX (bS 1 Ir) (dX (bS 2 Ir) rM))),pX,
    dB (iw (de (Aw (K:=K) rfl) (pv 3) (pv 0) (fun _ _=>rfl)) (de (Aw (K:=K) rfl) (pv 3) (pv 1) (fun _ _=>rfl)) (bP iQ (bP g9 (pv 2) (de (Aw (K:=K) rfl) (pv 5) (pv 0) (fun _ _=>rfl))) (de (Aw (K:=K) rfl) (pv 4) (pv 1) (fun _ _=>rfl))))⟩))))))),?_⟩
  obtain ⟨dx,ta,fa,hp,_,_⟩:=id W0;refine ⟨_,rfl,p,C,dx,_,_,rfl,hp,TC.cl,TC.nM,uN _ _ _ _,N,rfl,by omega,fun bl Sq=>?_⟩;have s1:=aG (o:=.lst ((List.range N).map fun (i:Nat)=>V.int (i:Int))) Sq;have e1:upd H bl (.lst ((List.range N).map fun (i:Nat)=>V.int (i:Int))) bl=some (.lst (cU N fun i=>(i:Int))):=ai;generalize upd H bl (.lst ((List.range N).map fun (i:Nat)=>V.int (i:Int)))=H1 at*;refine ⟨dc rfl,fun z1 Bm=>?_⟩;have y_:=aG (o:=.lst [V.int 0]) Bm;refine ⟨_,rfl,p,C,dx,_,_,rfl,(s1.trans y_) _ _ hp,TC.cl,TC.nM,uN _ _ _ _,z1,_,_,rfl,rfl,ai,by omega,by omega,?_,fun sl Bt=>?_⟩
  ·show 1*((N:Int)).toNat<=sizeLine;exact bp (gK (by omega))
  rw [i7,Dk];have s2:=(s1.trans y_).trans (aG (o:=.lst (cU N fun _=>0)) Bt);have Ca:=aG (o:=.lst (cU N fun _=>0)) Bt _ _ (y_ _ _ e1);have e2:upd (upd H1 z1 (.lst [V.int 0])) sl (.lst (cU N fun _=>0)) sl=some (.lst (cU N fun _=>0)):=ai;have bs:bl≠sl:=aR (y_ _ _ e1) Bt;have Ko:H sl=none:=(s1.trans y_).free Bt;generalize upd (upd H1 z1 (.lst [V.int 0])) sl (.lst (cU N fun _=>0))=H2 at*;refine ⟨dc rfl,fun z2 Bl=>?_⟩;have vc:=aG (o:=.lst [V.int 0]) Bl;refine ⟨_,rfl,p,C,dx,_,_,rfl,(s2.trans vc) _ _ hp,TC.cl,TC.nM,uN _ _ _ _,z2,_,_,rfl,rfl,ai,by omega,by omega,?_,fun tl oF=>?_⟩
  ·show 1*((N:Int)).toNat<=sizeLine;exact bp (gK (by omega))
  rw [i7,Dk];have s3:=(s2.trans vc).trans (aG (o:=.lst (cU N fun _=>0)) oF);have I_:=aG (o:=.lst (cU N fun _=>0)) oF;have b3:=I_ _ _ (vc _ _ Ca);have c3:=I_ _ _ (vc _ _ e2);have e3:upd (upd H2 z2 (.lst [V.int 0])) tl (.lst (cU N fun _=>0)) tl=some (.lst (cU N fun _=>0)):=ai;have bt:bl≠tl:=aR (vc _ _ Ca) oF;have st:sl≠tl:=aR (vc _ _ e2) oF;have jS:H tl=none:=(s2.trans vc).free oF;generalize upd (upd H2 z2 (.lst [V.int 0])) tl (.lst (cU N fun _=>0))=H3 at*;clear s1 e1 y_ s2 Ca e2 vc Bm Bl Bt oF I_;obtain ⟨zI,ta3,fa3,jU,_,_⟩:=id (W0.same s3);refine ⟨_,rfl,p,zI,_,rfl,jU,zW _ _ _ _ (by decide+kernel) (by decide+kernel) (by decide+kernel) (by decide+kernel),p,_,la,rT,rF,rfl,W0.same s3,fun fl H4 xQ s4 R4=>?_⟩;obtain ⟨qs,R4⟩:=R4;refine ⟨fl,rfl,⟨_,ax.of R4.1⟩,om (K:=K) (a:=fl) (xs:=qs.map V.ref) (fun i aa H'=>∃v4 v5 v6 v7,aa=[some (.ref p),some (.ref bl),some (.ref sl),some (.ref tl),v4,v5,v6,v7]/\H' bl=some (.lst (cU N (gy (rF.take i))))/\H' sl=some (.lst (cU N (jL (rF.take i))))/\H' tl=some (.lst (cU N (kr (rF.take i))))/\aI H H'/\fC H' fl qs rF)
   ⟨none,none,none,none,rfl,s4 _ _ b3,s4 _ _ c3,s4 _ _ e3,s3.trans s4,R4⟩ ?_ ?_ ?_⟩
  ·rintro i aa H5 _ ⟨v4,v5,v6,v7,rfl,_,_,_,_,R5⟩;exact ax.of R5.1
  ·rintro i x aa H5 hx ⟨v4,v5,v6,v7,rfl,f1,f2,f3,s5,R5⟩;obtain ⟨q,r,rfl,hq,aJ,iG⟩:=R5.get hx;obtain ⟨a',b',le,mo,e4,h1,h2,h3,h4,_⟩:=af.f r (gq aJ);subst e4;obtain ⟨B,rfl⟩:∃B:Nat,b'=B:=⟨b'.toNat,by omega⟩;have hB:B<N:=by omega
   have flb:fl≠bl:=aD (aR b3 xQ);have fls:fl≠sl:=aD (aR c3 xQ);have x_:fl≠tl:=aD (aR e3 xQ);refine ⟨q,_,rfl,c_.of iG,rfl,_,_,rfl,_,_,rfl,_,_,rfl,_,_,rfl,rfl,?_⟩;refine ⟨_,rfl,_,rfl,_,rfl,bl,_,_,_,rfl,rfl,f1,Ag hB,?_⟩;rw [Ap];have g2:upd H5 bl (.lst (cU N (MB.put (gy (rF.take i)) B a'))) sl=some (.lst (cU N (jL (rF.take i)))):=by rw [ak (aD bs)];exact f2
   refine ⟨_,rfl,_,rfl,_,rfl,sl,_,_,_,rfl,rfl,g2,Ag hB,?_⟩;rw [Ap];have g3:upd (upd H5 bl (.lst (cU N (MB.put (gy (rF.take i)) B a')))) sl (.lst (cU N (MB.put (jL (rF.take i)) B le))) tl=some (.lst (cU N (kr (rF.take i)))):=by rw [ak (aD st),ak (aD bt)];exact f3
   refine ⟨_,rfl,_,rfl,_,rfl,tl,_,_,_,rfl,rfl,g3,Ag hB,?_⟩;rw [Ap];have tk:rF.take (i+1)=rF.take i++[[a',(B:Int),le,mo]]:=by rw [lD,aJ];rfl
   have u1:gy (rF.take (i+1))=MB.put (gy (rF.take i)) B a':=by
    unfold gy;rw [tk,List.foldl_append];rfl
   have u2:jL (rF.take (i+1))=MB.put (jL (rF.take i)) B le:=by
    unfold jL;rw [tk,List.foldl_append];rfl
   have u3:kr (rF.take (i+1))=MB.put (kr (rF.take i)) B mo:=by
    unfold kr;rw [tk,List.foldl_append];rfl
   rw [u1,u2,u3];have IJ:∀{y:Addr} {xs ys:List V},H5 y=some (.tup xs)->y≠bl/\y≠sl/\y≠tl:=fun {y xs ys} e=>⟨cH e f1 nofun,cH e f2 nofun,cH e f3 nofun⟩;refine ⟨_,_,_,_,rfl,?_,?_,ai,?_,?_,?_⟩
   ·rw [ak bt,ak bs,ai]
   ·rw [ak st,ai]
   ·have Lo:H bl=none:=Sq;exact yQ (yQ (yQ s5 Lo) Ko) jS
   ·rw [ak x_,ak fls,ak flb];exact R5.1
   ·refine gL R5.2 fun y r e=>?_;obtain ⟨y1,y2,y3⟩:=IJ (ys:=[]) e;rw [ak y3,ak y2,ak y1];exact e
  ·rintro aa H5 ⟨v4,v5,v6,v7,rfl,f1,f2,f3,s5,R5⟩;have hle:rF.take (qs.map V.ref).length=rF:=by
    rw [aB,R5.len];exact jB
   rw [hle] at f1 f2 f3;refine ⟨_,rfl,p,_,la,rT,rF,rfl,W0.same s5,af,fun al H6 hal s6 R6=>⟨al,rfl,?_,fun Da cK=>?_⟩⟩
   ·obtain ⟨ps,R6⟩:=R6;exact ⟨_,ax.of R6.1⟩
   obtain ⟨Tb,R6⟩:=R6;have hlen:(gQ (N:Int) la rT rF).length<=100:=by
    unfold gQ;rw [ig,ig,yV,uV af.l9,uV af.jA];have:=af.tl;omega
   have Fi:=af.idx;have Rc:=s5.trans s6;unfold lM at k;generalize gQ (N:Int) la rT rF=rows at*;refine uT (xs:=Tb.map V.ref) (fun j aa H'=>∃v0 v1 v2 ps,aa=[v0,v1,v2,some (.ref bl),some (.ref tl),some (.ref sl)]/\fC H' Da ps ((rows.take j).map (w4 rF))/\aI H6 H') ⟨none,none,none,[],rfl,⟨ai,.nil⟩,aG cK⟩ ?_ ?_ ?_
   ·rintro j aa H7 _ ⟨v0,v1,v2,ps,rfl,_,s7⟩;exact ax.of (s7 _ _ R6.1)
   ·rintro j x aa H7 hx ⟨v0,v1,v2,ps,rfl,R7,s7⟩;obtain ⟨q,r,rfl,hq,aJ,iG⟩:=R6.get hx;obtain ⟨a',b',m,e4,uv,dQ⟩:=Fi r (gq aJ);subst e4;have hj:j<rows.length:=(gO.mp aJ).1;have SH:=s7 _ _ (s6 _ _ f1);have f2':=s7 _ _ (s6 _ _ f2);have f3':=s7 _ _ (s6 _ _ f3);refine ⟨q,_,rfl,c_.of (s7 _ _ iG),rfl,_,_,rfl,_,_,rfl,_,_,rfl,rfl,?_⟩;refine ⟨_,rfl,_,rfl,_,_,_,_,rfl,rfl,ax.of SH,pP uv,_,rfl,_,rfl,_,_,_,_,rfl,rfl,ax.of SH,pP dQ,?_⟩;refine ⟨_,rfl,_,rfl,_,rfl,_,_,_,_,rfl,rfl,ax.of f2',pP uv,_,_,rfl,rfl,_,rfl,_,rfl,_,_,_,_,rfl,rfl,ax.of f3',pP dQ,_,_,rfl,rfl,dc rfl,fun tp RV=>?_⟩;have R8:=R7.same (aG (o:=.tup [.int (gy rF a'),.int (gy rF b'),.int (m+jL rF a'-kr rF b')]) RV);refine ⟨_,R8.1,?_,_,_,_,ps++[tp],rfl,?_,fun b o e=>?_⟩
    ·rw [aB,R8.len,aB,ie];exact gK (by omega)
    ·have et:(rows.take (j+1)).map (w4 rF)=(rows.take j).map (w4 rF)++[[gy rF a',gy rF b',m+jL rF a'-kr rF b']]:=by
      rw [lD,aJ,ef];rfl
     rw [et];exact R8.push ai
    ·rw [ak (aR e cK),ak (aR (s7 _ _ e) RV)];exact s7 _ _ e
   ·rintro aa H7 ⟨v0,v1,v2,ps,rfl,R7,s7⟩;have hl:rows.take (Tb.map V.ref).length=rows:=by
     rw [aB,R6.len];exact jB
    rw [hl] at R7;exact k Da _ (Rc.free cK) (Rc.trans s7) ⟨ps,R7⟩
theorem Iu:cG ["web","times","own"] ["web"] (aZ eK):=cV
theorem Yi:iP (aZ eK) ["web","times","own"] (lT [(".0",.local),("moment",.local),("own",.free),("times",.free)]) ["moment","own","times"] [none,some 2,some 1]:=lU
theorem YX:(["moment","own","times"]:List Str).Nodup:=by decide+kernel
theorem qr (F:Fn K mg "fixed" eK ["web"] f fd) (range:mg "range"=none) (TC:nY K mg C)
 (FE:Fn K mg "earliest_times" bE ["many","bounds"] fE LD) (GE:ar P w K mg base (nV P w) 3 fE LD ["many","bounds"] (N7 CN))
 (FW:Fn K mg "worst_bounds" br ["web"] fW vG) (GW:ar P w K mg base a9 4 fW vG ["web"] (NH C))
 (mO:jk K C "own" fO) (bO:eY K fdO ["self"] []) (GO:ar P w K mg base a9 1 fO fdO ["self"] (Mm C)):ar P w K mg base (nV P w) 5 f fd ["web"] (NA C CN):=by
 refine F.F.Rr Iu (fun _ _ _ _ h=>?_) fun _ A _ s H _ Q E hr h=>?_
 ·obtain ⟨p,_,_,_,_,rfl,_⟩:=h;rfl
 ·obtain ⟨p,N,la,rT,rF,rfl,W0,af,kq,ke⟩:=h;have fU:cY 1 _:=hr.mono (by decide);have Bw:cY 3 _:=hr.mono (by decide);have n1:=af.n1;have n8:=af.n2;refine ⟨_,a_ (pQ (i:=1) Iu.nd rfl (Or.inr rfl) (Hs GE Bw rfl FE.g FE.F.kp FE.b .nil (Zs (E:=E) fun _ _ _ z=>z) (bw (fQ (pv 0) rfl) (cf GW hr FW (bM (pv 0))))))
   (a_ (pQ (i:=2) Iu.nd rfl (Or.inr rfl) (yO (pv 0) TC.cl mO GO fU bO .nil gv))
   (aE (cC (pe rfl (tf rfl range (bM (fQ (pv 0) rfl))) Yi (fun cl ex s0 H0=>⟨bS 0 YX,pX,OU (As (TQ (K:=K) rfl) (pv 0) (pv 1) (by with_unfolding_all rfl)) (de (Aw (K:=K) rfl) (pv 2) (pv 0) (fun _ _=>rfl)) mY⟩))))),?_⟩
  obtain ⟨dx,ta,fa,hp,_,_⟩:=id W0;refine ⟨_,rfl,p,C,dx,_,_,rfl,hp,TC.cl,TC.nM,uN _ _ _ _,_,rfl,p,_,la,rT,rF,rfl,W0,af,fun wl H1 EY s1 R1=>?_⟩;refine ⟨N,wl,_,rfl,by omega,by omega,R1,P7 af,fun kk tl H2 hk hq oF s2 e2=>?_,fun lz x d l ring H2 hx nC hd hl s2 ed el=>ke lz x d l ring H2 hx nC (s1.free hd) (s1.free hl) (s1.trans s2) ed el⟩;have ou:=s1.trans s2;obtain ⟨LP,ta2,fa2,jg,_,_⟩:=id (W0.same ou);refine ⟨_,rfl,p,LP,_,rfl,jg,zW _ _ _ _ (by decide+kernel) (by decide+kernel) (by decide+kernel) (by decide+kernel),p,_,la,rT,rF,rfl,W0.same ou,af,fun ol H3 hol s3 e3=>?_⟩;have wN:=ou.trans s3;refine ⟨_,rfl,p,C,dx,_,_,rfl,wN _ _ hp,TC.cl,TC.nM,uN _ _ _ _,(N:Int),rfl,by omega,by omega,fun Da cK=>?_⟩;refine AG (n:=((N:Nat):Int).toNat) (fun j aa H'=>∃v,aa=[v,some (.ref ol),some (.ref tl)]/\H' Da=some (.lst ((List.range j).map fun (i:Nat)=>if (i:Int)∈mM N rF then V.int ((MB.bg ((lM (N:Int) la rT rF).map iC) (kk+1)).t i) else V.aU))/\aI H3 H') ⟨none,rfl,ai,aG cK⟩ ?_ ?_
  ·rintro j aa H4 hj ⟨v,rfl,e4,s4⟩;rw [i7] at hj;have z0:(0:Int)+(j:Int)=(j:Int):=by omega
   rw [z0];refine ⟨_,rfl,_,rfl,ol,_,rfl,.inl (ax.of (s4 _ _ e3)),rfl,AD,_,rfl,?_⟩;show if uf (V.int (j:Int)) ((mM N rF).map V.int)=true then _ else _;rw [Av];have fin:∀{y:V},y=(if (j:Int)∈mM N rF then V.int ((MB.bg ((lM (N:Int) la rT rF).map iC) (kk+1)).t j) else V.aU)->∃ys,H4 Da=some (.lst ys)/\ys.length<sizeLine/\∃v,List.set [v,some (V.ref ol),some (V.ref tl)] 0 (some (V.int (j:Int)))=[v,some (V.ref ol),some (V.ref tl)]/\
    upd H4 Da (.lst (ys++[y])) Da=some (.lst ((List.range (j+1)).map fun (i:Nat)=>if (i:Int)∈mM N rF then V.int ((MB.bg ((lM (N:Int) la rT rF).map iC) (kk+1)).t i) else V.aU))/\aI H3 (upd H4 Da (.lst (ys++[y]))):=fun {y} e=>by
    refine ⟨_,e4,?_,_,rfl,?_,fun b o q=>?_⟩
    ·rw [aB,List.length_range];exact gK (by omega)
    ·rw [ai,List.range_succ,ef,e];rfl
    ·rw [ak (aR q cK)];exact s4 _ _ q
   refine hV (fun hc=>?_) (fun hc=>?_)
   ·have jh:(j:Int)∈mM N rF:=by simpa using hc
    refine ⟨_,rfl,_,rfl,_,_,_,_,rfl,rfl,ax.of (s4 _ _ (s3 _ _ e2)),pP hj,?_⟩;obtain ⟨ys,g1,g2,w,g3,g4,g5⟩:=fin (y:=V.int _) (by rw [if_pos jh]);exact ⟨ys,g1,g2,_,rfl,g4,g5⟩
   ·have jh:¬(j:Int)∈mM N rF:=by simpa using hc
    obtain ⟨ys,g1,g2,w,g3,g4,g5⟩:=fin (y:=V.aU) (by rw [if_neg jh]);exact ⟨ys,g1,g2,_,rfl,g4,g5⟩
  ·rintro aa H4 ⟨v,rfl,e4,s4⟩;rw [i7] at e4;exact kq kk Da _ hk hq (wN.free cK) (wN.trans s4) e4
end Y0
namespace MB
open MA
open Classical in
section
variable {n:Nat} {la lb:Int} {B W:List B3} {O:Nat->Prop} {t:Nat->Int}
end
end MB
namespace Y0
open PySem L2
seal L2.PE L2.PA L2.PT L2.PS L2.g7 L2.PG L2.nU L2.PI L2.PO
theorem wo {α:Type} {f:List Int->α} {i:Nat} {v:α}:∀{F:List (List Int)} {g:Nat->α},(∀r∈F,(r.getD 1 0).toNat=i->f r=v)->((∃r∈F,(r.getD 1 0).toNat=i)\/g i=v)->F.foldl (fun g r=>MB.put g (r.getD 1 0).toNat (f r)) g i=v
 | [],g,_,h=>by
  rcases h with ⟨r,hr,_⟩ | h
  ·cases hr
  ·exact h
 | x::F,g,hF,h=>by
  rw [List.foldl_cons];refine wo (fun r hr=>hF r (gz _ hr)) ?_
  by_cases e:(x.getD 1 0).toNat=i
  ·refine .inr ?_;unfold MB.put;rw [if_pos e.symm];exact hF x eG e
  ·rcases h with ⟨r,hr,hi⟩ | h
   ·rcases eV.mp hr with q | q
    ·subst q;exact absurd hi e
    ·exact .inl ⟨r,q,hi⟩
   ·refine .inr ?_;unfold MB.put;rw [if_neg fun z=>e z.symm];exact h
theorem cB.only (h:cB n la T F) (hr:[a,b,l,m]∈F) (aJ:r∈F) (e:(r.getD 1 0).toNat=b.toNat):r=[a,b,l,m]:=by
 obtain ⟨i,hi⟩:=oU.mp hr;obtain ⟨j,hj⟩:=oU.mp aJ;obtain ⟨a',b',l',m',e',_,_,dQ,_⟩:=h.f r aJ;obtain ⟨_,_,_,_,LN,_,_,hb,_⟩:=h.f _ hr;cases LN;subst e';have zC:b'=b:=by
  have e:b'.toNat=b.toNat:=e;omega
 subst zC;have:=h.one i j _ _ hi hj rfl;subst this;rw [hi] at hj;exact (eF hj).symm
theorem cB.cF {n la:Int} {T F:List (List Int)} (h:cB n la T F) {a b l m:Int} (hr:[a,b,l,m]∈F):gy F b.toNat=a/\jL F b.toNat=l/\kr F b.toNat=m:=by
 refine ⟨wo (f:=fun r=>r.getD 0 0) (fun r aJ e=>?_) (.inl ⟨_,hr,rfl⟩),wo (f:=fun r=>r.getD 2 0) (fun r aJ e=>?_) (.inl ⟨_,hr,rfl⟩),wo (f:=fun r=>r.getD 3 0) (fun r aJ e=>?_) (.inl ⟨_,hr,rfl⟩)⟩
 all_goals
  rw [h.only hr aJ e];rfl
def u4 (F:List (List Int)) (i:Nat):Prop:=∀r∈F,(r.getD 1 0).toNat≠i
theorem u4.is {F:List (List Int)} {i:Nat} (h:u4 F i):gy F i=i/\jL F i=0/\kr F i=0:=
 ⟨wo (f:=fun r=>r.getD 0 0) (fun r hr e=>absurd e (h r hr)) (.inr rfl),wo (f:=fun r=>r.getD 2 0) (fun r hr e=>absurd e (h r hr)) (.inr rfl),wo (f:=fun r=>r.getD 3 0) (fun r hr e=>absurd e (h r hr)) (.inr rfl)⟩
theorem u4.or (i:Nat):u4 F i\/∃r∈F,(r.getD 1 0).toNat=i:=by
 by_cases h:u4 F i
 ·exact .inl h
 ·refine .inr (fj fun no=>h fun r hr e=>no ⟨r,hr,e⟩)
section
variable {N:Nat} {la:Int} {T F:List (List Int)}
theorem cB.Cj (h:cB (N:Int) la T F) (hr:[a,b,l,m]∈F):u4 F a.toNat:=fun r' aJ e=>by
 obtain ⟨a',b',l',m',e',_,_,dQ,_⟩:=h.f r' aJ;obtain ⟨_,_,_,_,LN,ha,_⟩:=h.f _ hr;cases LN;subst e';have e:b'.toNat=a.toNat:=e;have lR:a=b':=by omega
 refine h.own _ hr _ aJ ?_;show some a=some b';rw [lR]
end
section
variable {n:Nat} {la je:Int} {T T' F F':List (List Int)}
theorem OP (h1:cB (n:Int) la T F) (h2:cB (n:Int) je T' F') (L:uB la je T T' F F') (i:Nat):gy F' i=gy F i/\jL F i<=jL F' i/\kr F' i<=kr F i:=by
 rcases u4.or (F:=F) i with o | ⟨r,hr,e⟩
 ·have o':u4 F' i:=fun r' aJ e=>by
   obtain ⟨a,b,l,m,rfl,_⟩:=h2.f r' aJ;obtain ⟨l0,m0,hm,_⟩:=L.f aJ;exact o _ hm e
  rw [o.is.1,o.is.2.1,o.is.2.2,o'.is.1,o'.is.2.1,o'.is.2.2];exact ⟨rfl,Int.le_refl _,Int.le_refl _⟩
 ·obtain ⟨a,b,l,m,rfl,_⟩:=h1.f r hr;have e:b.toNat=i:=e;subst e;obtain ⟨l',m',hm⟩:=L.g hr;obtain ⟨l2,m2,xM,k1,k2⟩:=L.f hm;have:=h1.only hr xM rfl;cases this;obtain ⟨a1,a2,a3⟩:=h1.cF hr;obtain ⟨b1,b2,b3⟩:=h2.cF hm;rw [a1,a2,a3,b1,b2,b3];exact ⟨rfl,k1,k2⟩
theorem XD (h1:cB (n:Int) la T F) (h2:cB (n:Int) je T' F') (L:uB la je T T' F F') (hq:(MB.bg ((lM (n:Int) la T F).map iC) (k+1)).q=none):
 ∃k,k<n/\(MB.bg ((lM (n:Int) je T' F').map iC) (k+1)).q=none:=by
 have n1:=h1.n1;rcases MB.Ww (n:=n) (by omega) (P7 h2).EV with h | ⟨_,h⟩
 ·exact h
 ·refine absurd ⟨(MB.bg ((lM (n:Int) la T F).map iC) (k+1)).t,fun x hx=>?_⟩ h;have q:=(MB.quiet hq).2;generalize (MB.bg ((lM (n:Int) la T F).map iC) (k+1)).t=p at*;obtain ⟨r0,Ks,rfl⟩:=eD.mp hx;obtain ⟨r,hr,rfl⟩:=eD.mp Ks;have mono:∀{a b v v':Int},[a,b,v]∈gQ (n:Int) la T F->v<=v'->p (iC (w4 F' [a,b,v'])).2.1-p (iC (w4 F' [a,b,v'])).1<=(iC (w4 F' [a,b,v'])).2.2:=fun {a b v v'} hm hv=>by
   have:=q _ (eD.mpr ⟨_,eD.mpr ⟨_,hm,rfl⟩,rfl⟩);obtain ⟨a1,a2,a3⟩:=OP h1 h2 L a.toNat;obtain ⟨b1,b2,b3⟩:=OP h1 h2 L b.toNat;show p (gy F' b.toNat).toNat-p (gy F' a.toNat).toNat<=v'+jL F' a.toNat-kr F' b.toNat;have this:p (gy F b.toNat).toNat-p (gy F a.toNat).toNat<=v+jL F a.toNat-kr F b.toNat:=this;rw [a1,b1];omega
  unfold gQ at hr;rcases i8.mp hr with hr | hr
  ·rcases i8.mp hr with hr | hr
   ·obtain ⟨i,hi,rfl | rfl⟩:=Ih hr
    ·exact mono (iL _ (iL _ (Ay hi).1)) L.la
    ·exact mono (iL _ (iL _ (Ay (la:=la) hi).2)) (Int.le_refl _)
   ·obtain ⟨a,b,l,m,hm,e⟩:=DK h2.l9 hr;obtain ⟨l0,m0,vw,k1,k2⟩:=L.t hm;rcases e with rfl | rfl
    ·exact mono (iL _ (kJ _ (HJ vw).1)) k2
    ·exact mono (iL _ (kJ _ (HJ vw).2)) (by omega)
  ·obtain ⟨a,b,l,m,hm,e⟩:=DK h2.jA hr;obtain ⟨o1,o2,o3⟩:=(h2.Cj hm).is;obtain ⟨b1,b2,b3⟩:=h2.cF hm;obtain ⟨_,_,_,_,e',x1,_⟩:=h2.f _ hm;cases e';have ha:((a.toNat:Nat):Int)=a:=lE x1;rcases e with rfl | rfl
   ·show p (gy F' b.toNat).toNat-p (gy F' a.toNat).toNat<=m+jL F' a.toNat-kr F' b.toNat;rw [o1,o2,b1,b3,i7];omega
   ·show p (gy F' a.toNat).toNat-p (gy F' b.toNat).toNat<=-l+jL F' b.toNat-kr F' a.toNat;rw [o1,o3,b1,b2,i7];omega
end
def Ae (N:Nat) (la:Int) (T F:List (List Int)):Prop:=∃k,k<N/\(MB.bg ((lM (N:Int) la T F).map iC) (k+1)).q=none
def OD (C:Addr):Sp:=fun vs H Q _=>∃(p:Addr) (N:Nat) (la:Int) (T F:List (List Int)),vs=[.ref p]/\jG C H p (N:Int) la T F/\cB (N:Int) la T F/\∀(b:Bool) H',aI H H'->(b=true↔Ae N la T F)->Q (.bl b) H'
theorem YD:cG ["_law_web_here"] ["_law_web_here"] (aZ gD):=cV
theorem oA (F:Fn K mg "_law_fixed" gD ["_law_web_here"] f fd) (mgN:mg "NoTimes"=some (.ref CN)) (LI:PySem.W.exmOne K (.ref CN) (.ref CN)=some true)
 (FX:Fn K mg "fixed" eK ["web"] fX L9) (GX:ar P w K mg base (nV P w) 5 fX L9 ["web"] (NA C CN)):ar P w K mg base a9 6 f fd ["_law_web_here"] (OD C):=by
 refine F.F.ix YD fun _ A _ s H _ Q E hr h=>?_
 ·obtain ⟨p,N,la,rT,rF,rfl,W0,af,k⟩:=h;refine ⟨_,a_ (Tx (Cn:=CN) (Ex:=fun C' _ _ H'=>C'=CN/\aI H H'/\¬Ae N la rT rF) rfl rfl rfl mgN
   (fun pins=>aE (gJ (Hs GX hr rfl FX.g FX.F.kp FX.b .nil (Wn (E:=fun C' _ H'=>C'=.ref CN/\aI H H'/\¬Ae N la rT rF) rfl rfl (fun C' dx σ H' e=>⟨Value.ref.inj e.1,e.2⟩)) (bM (pv 0)))))
   (fun e=>aE (cC z_)))
   (aE (cC z_)),?_⟩
  refine ⟨?_,fun C' dx aa H' e=>⟨by rw [e.1];exact LI,k false H' e.2.1 ⟨nofun,fun z=>absurd z e.2.2⟩⟩⟩;exact ⟨_,rfl,p,N,la,rT,rF,rfl,W0,af,fun kk l H' hk hq hl s1 e1=>k true H' s1 ⟨fun _=>⟨kk,hk,hq⟩,fun _=>rfl⟩,fun no x dd l ring H' _ _ _ _ s1 _ _=>⟨rfl,s1,fun ⟨kk,hk,hq⟩=>no kk hk hq⟩⟩
theorem wL {K:aF} (o:AJ H) (h:ax K H a (ns.map V.int)):pM K H a ns:=by
 rcases h with (h | h) | h
 ·rcases o a with z | ⟨ob,xs,z⟩
  ·rw [z] at h;cases h
  ·rw [z] at h;cases h
 ·exact .inl h
 ·exact .inr h
def vf (K:aF):Sp:=fun vs H Q _=>∃a ns,vs=[.ref a]/\pM K H a ns/\∀H',Q (.bl true) H'
abbrev ER:List Str:=["_law_script","_law_d","_law_w","_law_more","_law_webs","_law_rules","_law_times"]
theorem vW:cG ER ["_law_script"] (aZ qi):=cV
theorem Z3:iP (aZ qi) ER (lT [(".0",.local),("_law_web_here",.local),("kept",.globalImplicit)]) ["_law_web_here"] [none]:=lU
theorem Z4:iP (aZ qi) ER (lT [(".0",.local),("_law_web_here",.local),("_law_fixed",.globalImplicit)]) ["_law_web_here"] [none]:=lU
theorem Q7:(["_law_web_here"]:List Str).Nodup:=by decide+kernel
theorem NL {N:Nat} {la:Int} {T F:List (List Int)} {Te:Nat} (h0:σ[0]?=some (some (.ref x))) (W:jG C H x (N:Int) la T F) (af:cB (N:Int) la T F) (hE:yx N (eC F) (lX N la T F) Te)
 (q:∀H',aI H H'->Q (.bl (decide ((ir N la T F Te).bar=none))) H'):qe Ri (qe CG (F_ (He C) [] E0 (kj (rq 0) pK)) (tC (.int 0))) (tC (.str "rule")) σ H Q:=by
 refine ⟨_,h0,x,N,la,T,F,Te,rfl,W,af,hE,fun r H5 hr5 s5=>⟨fun b hb hP=>?_,fun bG hRu=>?_⟩⟩
 ·obtain ⟨l,nn,ps,g1,_⟩:=hP;have:=q H5 s5;rw [fY (by rw [hb];exact fun z=>nomatch z)] at this;exact ay g1 rfl ⟨rfl,this⟩
 ·obtain ⟨lt,lw,ps,qs,L,MM,g1,_⟩:=hRu;have:=q H5 s5;rw [jt bG] at this;exact ay g1 rfl ⟨rfl,this⟩
theorem xg (Fn0:Fn K mg "law" qi ["_law_script"] f fd) (TC:nY K mg C)
 (FW:Fn K mg "_law_web" qh ["_law_d","_law_most","_law_last","_law_wide"] fW vG) (GW:ar P w K mg base a9 3 fW vG ["_law_d","_law_most","_law_last","_law_wide"] (Mp K))
 (M:Mk K C fI) (bI:eY K BY ["self","many","last","ties","falls"] []) (GI:ar P w K mg base a9 3 fI BY ["self","many","last","ties","falls"] (MG C))
 (FK:Fn K mg "kept" gC ["web"] fK LC) (GK:ar P w K mg base a9 6 fK LC ["web"] (He C))
 (FL:Fn K mg "_law_looser" fe ["_law_d","_law_w"] fL fdL) (GL:ar P w K mg base a9 2 fL fdL ["_law_d","_law_w"] (OE K))
 (FX:Fn K mg "_law_fixed" gD ["_law_web_here"] fX L9) (GX:ar P w K mg base a9 6 fX L9 ["_law_web_here"] (OD C)):
 ar P w K mg base a9 7 f fd ["_law_script"] (vf K):=by
 refine Fn0.F.ok vW (fun _ _ _ _ h=>?_) fun _ A _ s H _ Q E hr h=>?_
 ·obtain ⟨a,ns,rfl,_⟩:=h;rfl
 ·obtain ⟨a,ns,rfl,hS0,k⟩:=h;have j8:cY 2 _:=hr.mono (by decide);have Bw:cY 3 _:=hr.mono (by decide);have RY:cY 4 _:=hr.mono (by decide);refine ⟨_,cx (cA 1 vW.nd (jo (bw (pv 0) aw)))
   (cx (cA 2 vW.nd (cf GW Bw FW (jz (pv 1) aw aw aw)))
   (cx (cA 3 vW.nd (cf GL j8 FL (bw (pv 1) (pv 2))))
   (cx (cA 4 vW.nd (jo (uP
    (Ht M GI RY rfl TC.Bg bI .nil gv (jz (a8 (pv 2)) (a8 (pv 2)) (a8 (pv 2)) (a8 (pv 2)))) (uP
    (Ht M GI RY rfl TC.Bg bI .nil gv (jz (a8 (pv 3)) (a8 (pv 3)) (a8 (pv 3)) (a8 (pv 3)))) oh))))
   (cx (De (i:=5) vW.nd rfl rfl rfl (jq (pv 4)) Z3 (fun cl ex s0 H0=>⟨bS 0 Q7,pX,Np gu (a8 (cf GK hr FK (bM (pv 0)))) eZ (GY _)⟩))
   (cx (De (i:=6) vW.nd rfl rfl rfl (jq (pv 4)) Z4 (fun cl ex s0 H0=>⟨bS 0 Q7,pX,cf GX hr FX (bM (pv 0))⟩))
   (aE (cC (Ah (Mg (de dW (pv 5) aw (fun _ _=>rfl)) (Ai (M9 (de dW (pv 5) aw (fun _ _=>rfl))))) (Ai (Mg (de dW (pv 6) aw (fun _ _=>rfl)) (Ai (M9 (de dW (pv 6) aw (fun _ _=>rfl)))))))))))))),?_⟩
  refine fun N1 c1=>⟨_,rfl,dc rfl,fun d hd=>c1 _ _ ?_⟩;have D0:dD K a (upd H d (.lst [.ref a,.int 0])) d:=⟨⟨0,ai⟩,⟨ns,hS0.same (aG hd)⟩⟩;generalize upd H d (.lst [.ref a,.int 0])=H0 at*;clear c1 N1;refine fun N1 c1=>⟨_,rfl,d,a,8,20,8,rfl,D0,by decide,by decide,by decide,by decide,by decide,by decide,fun wp ta fa n la rT rF H1 BZ RT RF af n2 nm lm D1 k1 wI zG mE=>c1 _ _ ?_⟩;clear c1 N1;obtain ⟨N,rfl⟩:∃N:Nat,n=N:=⟨n.toNat,by lia⟩;refine fun N1 c1=>⟨_,rfl,_,rfl,d,a,wp,ta,fa,N,la,rT,rF,rfl,D1,⟨BZ,RT,RF⟩,af,lm,wI,zG,fun q IS LH je zb zc H2 DB jV L k2=>c1 _ _ ?_⟩;clear c1 N1;have DA:uO H2 wp ta fa (N:Int) la rT rF:=by
   obtain ⟨p,e⟩:=D1.at_;exact ⟨OJ k2 e BZ,RT.keep k2 e wI,RF.keep k2 e zG⟩
  refine fun N1 c1=>⟨_,rfl,ay DA.tup rfl ⟨_,rfl,ay DA.tup rfl ⟨_,rfl,ay DA.tup rfl ⟨_,rfl,ay DA.tup rfl fun x dx nx ndx nex=>?_⟩⟩⟩⟩;have s3:aI H2 (upd (upd H2 dx (.own x)) x (.ins C dx [])):=fun b o e=>by
   rw [ak (aR e nx),ak (aR e ndx)];exact e
  refine ⟨x,dx,_,la,ta,fa,rT,rF,rfl,ai,DA.t.same s3,DA.f.same s3,af,fun H4 W4 k4=>⟨rfl,?_⟩⟩;have s4:aI H2 H4:=fun b o e=>k4 b o (s3 b o e) (aR e nx);have yp:=DB.same s4;refine ⟨_,rfl,ay yp.tup rfl ⟨_,rfl,ay yp.tup rfl ⟨_,rfl,ay yp.tup rfl ⟨_,rfl,ay yp.tup rfl fun y dy ny ndy ney=>?_⟩⟩⟩⟩;have s5:aI H4 (upd (upd H4 dy (.own y)) y (.ins C dy [])):=fun b o e=>by
   rw [ak (aR e ny),ak (aR e ndy)];exact e
  refine ⟨y,dy,_,je,IS,LH,zb,zc,rfl,ai,yp.t.same s5,yp.f.same s5,jV,fun H6 W6 k6=>⟨rfl,dc rfl,fun lw hlw=>c1 _ _ ?_⟩⟩;clear c1 N1;have s6:aI H4 H6:=fun b o e=>k6 b o (s5 b o e) (aR e ny);have s7:=aG (o:=.lst [.ref x,.ref y]) hlw;have W1:=(W4.same s6).same s7;have W2:=W6.same s7;have e7:upd H6 lw (.lst [.ref x,.ref y]) lw=some (.lst [.ref x,.ref y]):=ai;generalize upd H6 lw (.lst [.ref x,.ref y])=H7 at*;clear s7 s6 s5 s4 s3 k6 k4 yp nex ney;have l2:=af.l2;have JQ:=jV.l2;obtain ⟨Te,hE⟩:=PL af l2;obtain ⟨FJ,hE'⟩:=PL jV JQ;have big:=Xe af jV L hE;have LR:=fun {k:Nat}=>XD (k:=k) af jV L;refine fun N1 c1=>⟨_,rfl,lw,rfl,⟨_,ax.of e7⟩,fun Da cK=>?_⟩;refine uT (K:=K) (a:=lw) (xs:=[V.ref x,V.ref y]) (fun j aa H'=>∃v,aa=[v]/\H' Da=some (.lst (([decide ((ir N la rT rF Te).bar=none),decide ((ir N je zb zc FJ).bar=none)].take j).map V.bl))/\aI H7 H') ⟨none,rfl,ai,aG cK⟩ ?_ ?_ ?_
  ·rintro j aa H8 _ ⟨v,rfl,_,s8⟩;exact ax.of (s8 _ _ e7)
  ·rintro j z aa H8 hz ⟨v,rfl,e8,s8⟩
   cases j with
   | zero=>
    cases hz;refine NL rfl (W1.same s8) af hE fun H9 s9=>⟨_,s9 _ _ e8,by show 0<sizeLine;decide,_,rfl,ai,fun b o e=>?_⟩;rw [ak (aR e cK)];exact (s8.trans s9) _ _ e
   | succ j=>
    cases j with
    | zero=>
     cases hz;refine NL rfl (W2.same s8) jV hE' fun H9 s9=>⟨_,s9 _ _ e8,by show 1<sizeLine;decide,_,rfl,ai,fun b o e=>?_⟩;rw [ak (aR e cK)];exact (s8.trans s9) _ _ e
    | succ j=>cases hz
  rintro aa H8 ⟨v,rfl,e8,s8⟩;refine c1 _ _ ?_;clear c1 N1;have e7:=s8 _ _ e7;have W1:=W1.same s8;have W2:=W2.same s8;refine fun N1 c1=>⟨_,rfl,lw,rfl,⟨_,ax.of e7⟩,fun Db xX=>?_⟩;refine uT (K:=K) (a:=lw) (xs:=[V.ref x,V.ref y]) (fun j aa H'=>∃v,∃bs:List Bool,aa=[v]/\H' Db=some (.lst (bs.map V.bl))/\bs.length=j/\(∀b,bs[0]?=some b->(b=true↔Ae N la rT rF))/\(∀b,bs[1]?=some b->(b=true↔Ae N je zb zc))/\aI H8 H') ⟨none,[],rfl,ai,rfl,(fun b z=>nomatch z),(fun b z=>nomatch z),aG xX⟩ ?_ ?_ ?_
  ·rintro j aa H9 _ ⟨v,bs,rfl,_,_,_,_,s9⟩;exact ax.of (s9 _ _ e7)
  ·rintro j z aa H9 hz ⟨v,bs,rfl,e9,zy,b0,b1,s9⟩
   cases j with
   | zero=>
    cases hz;have:bs=[]:=LV.mp zy;subst this;refine ⟨_,rfl,x,N,la,rT,rF,rfl,W1.same s9,af,fun b sC ow hb=>⟨_,ow _ _ e9,by decide,_,[b],rfl,ai,rfl,(fun c hc=>by cases hc;exact hb),(fun c hc=>nomatch hc),fun c o e=>?_⟩⟩;rw [ak (aR e xX)];exact (s9.trans ow) _ _ e
   | succ j=>
    cases j with
    | zero=>
     cases hz;obtain ⟨c0,rfl⟩:=List.length_eq_one_iff.mp zy;refine ⟨_,rfl,y,N,je,zb,zc,rfl,W2.same s9,jV,fun b sC ow hb=>⟨_,ow _ _ e9,by show 1<sizeLine;decide,_,[c0,b],rfl,ai,rfl,(fun c hc=>b0 c hc),(fun c hc=>by cases hc;exact hb),fun c o e=>?_⟩⟩;rw [ak (aR e xX)];exact (s9.trans ow) _ _ e
    | succ j=>cases hz
  rintro aa H9 ⟨v,bs,rfl,e9,zy,b0,b1,s9⟩;refine c1 _ _ ?_;clear c1 N1;have zy:bs.length=2:=zy;obtain ⟨t1,t2,rfl⟩:∃t1 t2,bs=[t1,t2]:=by
   match bs,zy with
   | [a,b],_=>exact ⟨a,b,rfl⟩
  have e8:=s9 _ _ e8;have Z':t1=true->t2=true:=fun h=>by
   obtain ⟨kk,_,hq⟩:=(b0 t1 rfl).mp h;exact (b1 t2 rfl).mpr (LR hq)
  have r12:(decide ((ir N la rT rF Te).bar=none))=true->(decide ((ir N je zb zc FJ).bar=none))=true:=fun h=>jt (big (of_decide_eq_true h) FJ);generalize (decide ((ir N la rT rF Te).bar=none))=r1 at*;generalize (decide ((ir N je zb zc FJ).bar=none))=r2 at*;have k:=k H9;refine ⟨_,rfl,jO e8 rfl ⟨r2,rfl,?_⟩⟩;have second:QJ (qe Ab (rq 6) (tC (V.int 1))) (Mu (qe Ab (rq 6) (tC (V.int 0)))) ((((((List.set (L2.jn ER [V.ref a]) 1 (some (V.ref d))).set 2 (some (V.ref wp))).set 3 (some (V.ref q))).set 4 (some (V.ref lw))).set 5 (some (V.ref Da))).set 6 (some (V.ref Db))) H9 Q:=by
   refine ⟨_,rfl,jO e9 rfl ⟨t2,rfl,hV (fun _=>k) fun z=>?_⟩⟩;have z1:t1=false:=LU.mpr fun h=>z (Z' h);subst z1;exact ⟨_,rfl,jO e9 rfl ⟨false,rfl,k⟩⟩
  refine hV (fun _=>⟨true,rfl,second⟩) fun z=>?_;have z1:r1=false:=LU.mpr fun h=>z (r12 h);subst z1;exact ⟨_,rfl,jO e8 rfl ⟨false,rfl,true,rfl,second⟩⟩
end Y0
namespace L2
theorem lW:∀{us:List α},us.length=n+1->∃a t,us=a::t/\t.length=n
 | a::t,h=>⟨a,t,rfl,Nat.succ.inj h⟩
theorem YQ (us:List α) (h:us.length=1):∃a,us=[a]:=by
 obtain ⟨a,t0,rfl,h0⟩:=lW h;obtain rfl:=List.eq_nil_of_length_eq_zero h0;exact ⟨a,rfl⟩
theorem Q5 (us:List α) (h:us.length=2):∃a b,us=[a,b]:=by
 obtain ⟨a,t0,rfl,h0⟩:=lW h;obtain ⟨b,t1,rfl,h1⟩:=lW h0;obtain rfl:=List.eq_nil_of_length_eq_zero h1;exact ⟨a,b,rfl⟩
theorem YR (us:List α) (h:us.length=3):∃a b c,us=[a,b,c]:=by
 obtain ⟨a,t0,rfl,h0⟩:=lW h;obtain ⟨b,t1,rfl,h1⟩:=lW h0;obtain ⟨c,t2,rfl,h2⟩:=lW h1;obtain rfl:=List.eq_nil_of_length_eq_zero h2;exact ⟨a,b,c,rfl⟩
theorem YS (us:List α) (h:us.length=4):∃a b c d,us=[a,b,c,d]:=by
 obtain ⟨a,t0,rfl,h0⟩:=lW h;obtain ⟨b,t1,rfl,h1⟩:=lW h0;obtain ⟨c,t2,rfl,h2⟩:=lW h1;obtain ⟨d,t3,rfl,h3⟩:=lW h2;obtain rfl:=List.eq_nil_of_length_eq_zero h3;exact ⟨a,b,c,d,rfl⟩
theorem YT (us:List α) (h:us.length=5):∃a b c d e,us=[a,b,c,d,e]:=by
 obtain ⟨a,t0,rfl,h0⟩:=lW h;obtain ⟨b,t1,rfl,h1⟩:=lW h0;obtain ⟨c,t2,rfl,h2⟩:=lW h1;obtain ⟨d,t3,rfl,h3⟩:=lW h2;obtain ⟨e,t4,rfl,h4⟩:=lW h3;obtain rfl:=List.eq_nil_of_length_eq_zero h4;exact ⟨a,b,c,d,e,rfl⟩
end L2
namespace Y0
open PySem L2
section
variable {K:aF} {mg:Str->Option Value} {h:Heap}
theorem Ci {A B C D E F V:Type} {p:A->B->C->D->E->F->List V->Prop} (h:∀a1 a2 a3 a4 a5 a6 a,p a1 a2 a3 a4 a5 a6 [a]):∀a1 a2 a3 a4 a5 a6 (us:List V),us.length=1->p a1 a2 a3 a4 a5 a6 us:=fun _ _ _ _ _ _ us hl=>by
 obtain ⟨a,rfl⟩:=L2.YQ us hl;exact h _ _ _ _ _ _ _
theorem Cg {A B C D E F V:Type} {p:A->B->C->D->E->F->List V->Prop} (h:∀a1 a2 a3 a4 a5 a6 a b,p a1 a2 a3 a4 a5 a6 [a,b]):∀a1 a2 a3 a4 a5 a6 (us:List V),us.length=2->p a1 a2 a3 a4 a5 a6 us:=fun _ _ _ _ _ _ us hl=>by
 obtain ⟨a,b,rfl⟩:=L2.Q5 us hl;exact h _ _ _ _ _ _ _ _
theorem Cf {A B C D E F V:Type} {p:A->B->C->D->E->F->List V->Prop} (h:∀a1 a2 a3 a4 a5 a6 a b c,p a1 a2 a3 a4 a5 a6 [a,b,c]):∀a1 a2 a3 a4 a5 a6 (us:List V),us.length=3->p a1 a2 a3 a4 a5 a6 us:=fun _ _ _ _ _ _ us hl=>by
 obtain ⟨a,b,c,rfl⟩:=L2.YR us hl;exact h _ _ _ _ _ _ _ _ _
theorem Ce {A B C D E F V:Type} {p:A->B->C->D->E->F->List V->Prop} (h:∀a1 a2 a3 a4 a5 a6 a b c d,p a1 a2 a3 a4 a5 a6 [a,b,c,d]):∀a1 a2 a3 a4 a5 a6 (us:List V),us.length=4->p a1 a2 a3 a4 a5 a6 us:=fun _ _ _ _ _ _ us hl=>by
 obtain ⟨a,b,c,d,rfl⟩:=L2.YS us hl;exact h _ _ _ _ _ _ _ _ _ _
theorem Cd {A B C D E F V:Type} {p:A->B->C->D->E->F->List V->Prop} (h:∀a1 a2 a3 a4 a5 a6 a b c d e,p a1 a2 a3 a4 a5 a6 [a,b,c,d,e]):∀a1 a2 a3 a4 a5 a6 (us:List V),us.length=5->p a1 a2 a3 a4 a5 a6 us:=fun _ _ _ _ _ _ us hl=>by
 obtain ⟨a,b,c,d,e,rfl⟩:=L2.YT us hl;exact h _ _ _ _ _ _ _ _ _ _ _
theorem aH {x:Str} {st:Stmt} {ps:List Str} {f:Addr} {oc:Value} {od an:Option Addr} {o4:Array (Option Value)} {kV doc pm dn ct:Value} (X:K.In h) (G:h.Ns mainGlobals mg) (a:PySem.W.nsIn K mainGlobals x=some (some (.ref f)):=by k_is)
 (l:K.lookup f=some ⟨oc,od,.func (PySem.W.fnOf x x (rL st) (oi st) (aZ st) .none kV doc pm an dn ct),o4⟩:=by k_is) (c:PySem.W.codeIn K dn x=true:=by k_is) (k:PySem.W.keepIn K (.ref f)=true:=by k_is)
 (hb:∀(kV doc pm:Value) (an:Option Addr) (dn ct:Value) (us:List Value),us.length=ps.length->bindArgs (PySem.W.fnOf x x (rL st) (oi st) (aZ st) .none kV doc pm an dn ct) ⟨us,[]⟩=pure (ps.zip us):=by first | exact Y0.Ci fun _ _ _ _ _ _ _=>rfl | exact Y0.Cg fun _ _ _ _ _ _ _ _=>rfl | exact Y0.Cf fun _ _ _ _ _ _ _ _ _=>rfl | exact Y0.Ce fun _ _ _ _ _ _ _ _ _ _=>rfl | exact Y0.Cd fun _ _ _ _ _ _ _ _ _ _ _=>rfl):
 Fn K mg x st ps f (PySem.W.fnOf x x (rL st) (oi st) (aZ st) .none kV doc pm an dn ct):=
 have F:=Hb (st:=st) l c k
 ⟨F,F.binds hb,PySem.W.mg_of X G a⟩
structure Cq (K:aF) (C:Addr) (m q:Str) (st:Stmt) (ps:List Str) (f:Addr) (fd:FuncData):Prop where
 F:gZ K m q st f fd
 b:eY K fd ps []
 a:PySem.W.findIn K (.ref C) m=some (some (.ref f))
 i:PySem.W.isFn K (.ref f)=true
theorem Cq.eP (h:Cq K C m q st ps f fd):jk K C m f:=⟨h.a,h.i,h.F.kp⟩
theorem dj {C:Addr} {x q:Str} {st:Stmt} {ps:List Str} {f:Addr} {oc:Value} {od an:Option Addr} {o4:Array (Option Value)} {kV doc pm dn ct:Value} (a:PySem.W.findIn K (.ref C) x=some (some (.ref f)):=by k_is) (i:PySem.W.isFn K (.ref f)=true:=by k_is)
 (l:K.lookup f=some ⟨oc,od,.func (PySem.W.fnOf x q (rL st) (oi st) (aZ st) .none kV doc pm an dn ct),o4⟩:=by k_is) (c:PySem.W.codeIn K dn q=true:=by k_is) (k:PySem.W.keepIn K (.ref f)=true:=by k_is)
 (hb:∀(kV doc pm:Value) (an:Option Addr) (dn ct:Value) (us:List Value),us.length=ps.length->bindArgs (PySem.W.fnOf x q (rL st) (oi st) (aZ st) .none kV doc pm an dn ct) ⟨us,[]⟩=pure (ps.zip us):=by first | exact Y0.Ci fun _ _ _ _ _ _ _=>rfl | exact Y0.Cg fun _ _ _ _ _ _ _ _=>rfl | exact Y0.Cf fun _ _ _ _ _ _ _ _ _=>rfl | exact Y0.Ce fun _ _ _ _ _ _ _ _ _ _=>rfl | exact Y0.Cd fun _ _ _ _ _ _ _ _ _ _ _=>rfl):
 Cq K C x q st ps f (PySem.W.fnOf x q (rL st) (oi st) (aZ st) .none kV doc pm an dn ct):=
 have F:=Hb (st:=st) l c k
 ⟨F,F.binds hb,a,i⟩
theorem dk {C:Addr} {X m q:Str} {st:Stmt} {ps:List Str} (a:PySem.W.nsIn K mainGlobals X=some (some (.ref C))) (h:∃C f fd,PySem.W.nsIn K mainGlobals X=some (some (.ref C))/\Cq K C m q st ps f fd):∃f fd,Cq K C m q st ps f fd:=by
 obtain ⟨C',f,fd,e1,e2⟩:=h;rw [a] at e1;cases e1;exact ⟨f,fd,e2⟩
structure Co (K:aF) (mg:Str->Option Value) (C:Addr):Prop where
 tc:nY K mg C
 JM:PySem.W.makesIn K C=true
 kc:PySem.W.keepIn K (.ref C)=true
theorem wF (X:K.In h) (G:h.Ns mainGlobals mg) (aC:PySem.W.nsIn K mainGlobals "Web"=some (some (.ref C)):=by k_is) (pg:PySem.W.plainGet K C Str.empty=true:=by k_is) (hd:PySem.W.hasDictIn K C=true:=by k_is) (po:PySem.W.plainOver K C=true:=by k_is)
 (sa:PySem.W.findIn K (.ref C) "__setattr__"=some (some (.builtin "object.__setattr__")):=by k_is) (mk:PySem.W.makesIn K C=true:=by k_is) (kc:PySem.W.keepIn K (.ref C)=true:=by k_is)
 (n1:PySem.W.findIn K (.ref C) "many"=some none:=by k_is) (n2:PySem.W.findIn K (.ref C) "last"=some none:=by k_is) (n3:PySem.W.findIn K (.ref C) "told_ties"=some none:=by k_is) (n4:PySem.W.findIn K (.ref C) "told_falls"=some none:=by k_is):Co K mg C:=
 ⟨⟨⟨pg,hd,po,sa⟩,n1,n2,n3,n4,PySem.W.mg_of X G aC⟩,mk,kc⟩
theorem tj (X:K.In h) (G:h.Ns mainGlobals mg) (m1:PySem.W.nsIn K mainGlobals "MOST_MOMENTS"=some (some (.int 8 t1)):=by k_is) (m2:PySem.W.nsIn K mainGlobals "LATEST_LAST"=some (some (.int 60 t2)):=by k_is)
 (m3:PySem.W.nsIn K mainGlobals "WIDEST_SPAN"=some (some (.int 60 t3)):=by k_is) (m4:PySem.W.nsIn K mainGlobals "LONGEST_FALL"=some (some (.int 60 t4)):=by k_is) (z:PySem.W.nsIn K mainGlobals "list"=some none:=by k_is):lF mg:=
 ⟨⟨t1,PySem.W.mg_of X G m1⟩,⟨t2,PySem.W.mg_of X G m2⟩,⟨t3,PySem.W.mg_of X G m3⟩,⟨t4,PySem.W.mg_of X G m4⟩,sv X G z⟩
structure Cv (K:aF) (mg:Str->Option Value) (C:Addr):Prop where
 tc:o_ K mg C
 JM:PySem.W.makesIn K C=true
 kc:PySem.W.keepIn K (.ref C)=true
 g:mg "Closing"=some (.ref C)
theorem yh (X:K.In h) (G:h.Ns mainGlobals mg) (aC:PySem.W.nsIn K mainGlobals "Closing"=some (some (.ref C)):=by k_is) (pg:PySem.W.plainGet K C Str.empty=true:=by k_is) (hd:PySem.W.hasDictIn K C=true:=by k_is) (po:PySem.W.plainOver K C=true:=by k_is)
 (sa:PySem.W.findIn K (.ref C) "__setattr__"=some (some (.builtin "object.__setattr__")):=by k_is) (mk:PySem.W.makesIn K C=true:=by k_is) (kc:PySem.W.keepIn K (.ref C)=true:=by k_is)
 (n1:PySem.W.findIn K (.ref C) "many"=some none:=by k_is) (n2:PySem.W.findIn K (.ref C) "by_end"=some none:=by k_is) (n3:PySem.W.findIn K (.ref C) "rows"=some none:=by k_is) (n4:PySem.W.findIn K (.ref C) "best"=some none:=by k_is) (n5:PySem.W.findIn K (.ref C) "bar"=some none:=by k_is)
 (z1:PySem.W.nsIn K mainGlobals "len"=some none:=by k_is) (z2:PySem.W.nsIn K mainGlobals "range"=some none:=by k_is):Cv K mg C:=
 ⟨⟨⟨pg,hd,po,sa⟩,n1,n2,n3,n4,n5,sv X G z1,sv X G z2⟩,mk,kc,PySem.W.mg_of X G aC⟩
theorem tq (X:K.In h) (G:h.Ns mainGlobals mg) (a:PySem.W.nsIn K mainGlobals "USED_KINDS"=some (some (.ref u))) (t:Ip K u y8) (z:PySem.W.nsIn K mainGlobals "tuple"=some none):yl K mg:=
 ⟨⟨u,PySem.W.mg_of X G a,t⟩,sv X G z⟩
theorem yd {C M fI N:Addr} {nm q:Str} {bs:List Value} {sn:List Str} {sub:List Value} {ab:Bool} {col:Option Bool} {dd:Option Addr} {k0 k1 k2 k3 k5:Option Value}
 (l:K.lookup C=some (excClassObj nm q C N bs (.ref M::sg) true sn sub ab col dd k0 k1 k2 k3 k5 "ValueError.__new__")) (no:PySem.W.nsOkIn K N=true) (ni:PySem.W.nsIn K N "__init__"=some (some (.ref fI)))
 (tl:PySem.W.tailIn K sg (.ref M::sg)=true) (fn:PySem.W.isFn K (.ref fI)=true) (kp:PySem.W.keepIn K (.ref C)=true) (sa:PySem.W.findIn K (.ref C) "__setattr__"=some (some (.builtin "object.__setattr__"))):rA K C M fI:=
 ⟨⟨nm,q,N,bs,sn,sub,ab,col,dd,k0,k1,k2,k3,k5,l,no,ni⟩,tl,fn,kp,sa⟩
theorem tw {C M fI:Addr} (X:K.In h) (G:h.Ns mainGlobals mg) (aC:PySem.W.nsIn K mainGlobals "NoTimes"=some (some (.ref C))) (aM:PySem.W.nsIn K mainGlobals "MomentError"=some (some (.ref M))) (ex:rA K C M fI)
 (b1:PySem.W.typeIn K (.ref M)=some (.type "type")) (b2:PySem.W.specialIn K (.ref M) "__getattribute__"=some (some (.builtin "type.__getattribute__"))) (b3:PySem.W.findIn K (.type "type") "__getattribute__"=some (some (.builtin "type.__getattribute__")))
 (b4:PySem.W.nsIn K cStatics "thirdparty.any"=some none) (b5:PySem.W.findCls K (.ref M) (.type "type") "__init__"=some (.val (.builtin "ValueError.__init__"))) (b6:PySem.W.subIn K (.type "type") (.type "type")=some true)
 (nR:PySem.W.findIn K (.ref C) "ring"=some none) (z1:PySem.W.nsIn K mainGlobals "range"=some none) (z2:PySem.W.nsIn K mainGlobals "len"=some none) (z3:PySem.W.nsIn K mainGlobals "list"=some none):rj K mg C M fI:=
 ⟨sv X G z1,sv X G z2,sv X G z3,ex,⟨b1,b2,b3,b4,b5,b6⟩,PySem.W.mg_of X G aM,nR,PySem.W.mg_of X G aC⟩
end
end Y0
inductive PySem.W.Fast:Prop|tw17688453909028117174|tw11816865514099194373|tw9632453586898051935|tw15945729967071102149|tw7038908495782728031|tw10614239304333505299|tw2385536343587895610|tw13266933233607940198|tw4501690707812301409|tw15605471467483568282|tw8896731359364137617|tw12227518190811312035|tw17761067712886050789|tw6068808563714609564|tw6648019443050463680|tw4745329636403534561|tw8563139156979341445|tw17973313563403663137|tw11208976655850275305|tw950833757337912696|tw12011829908316900026|tw384265068645366141|tw3647376433853016550|tw17159323455582143730|tw3223954216636771458|tw14680768176709526988|tw13145075600678923621|tw10393326657170480135|tw16326650692201376612|tw14206948377159848|tw3623584720641561422|tw18119666065561618494|tw2469288211329284717|tw2687836490884636742|tw18002339958731059963|tw17305915380865484915|tw17968604691442760559|tw8774608824317996904|tw13388562007736883223|tw5988483177981396307|tw13965614175834903680|tw5807296827097748287|tw13770935464015548364|tw11992174084672958931|tw12435187487150472701|tw8461489872408854574|tw1477632243461324265|tw14196305038133313174|tw3197626335005798751|tw17812645831720771306|tw6734102504438919082|tw12289724783156738000|tw3598162913878869210|tw17809028310477714345|tw753608568867849734|tw18341083825478349913|tw9550666284926296706|tw2216052570997919724|tw18058333071761001427|tw13673690720288066547|tw9343717922653421963|tw14858398946707663872|tw1175079011707813283|tw9124742848603126012|tw16287899300153686694|tw10862750239460031310|tw12869618428760104850|tw10613264379716252681|tw7016071779648490827|tw10050985177329269066|tw4611351877943634933|tw10080520364927418660|tw1930337872937036104|tw7619317897395730526|tw10048264627495069918|tw8169604868467062418|tw3626242453069059990|tw679095324323838502|tw11362914708591366148|tw637098805911704413|tw51734474968819669|tw3199473113822290951|tw18413093975823179454|tw1691971677950956600|tw2628454588677293136|tw6511448551158919994|tw4687138101587636933|tw15599590292789853456|tw2621619941709778733|tw12526177979130808557|tw13472239262178032698|tw17042812865420189100|tw8974409455020020601|tw17516330844268002034|tw6092521525026543830|tw5610495507524542212|tw3562878774541777315|tw2860879238584844970|tw3038783659457332666|tw14134760722179150801|tw10794893343462640588|tw15861955714099108764|tw3640660196422516756|tw1818458678511380983|tw3226186013049164103|tw15942662158876963077|tw5844779778850173266|tw1865838366372116766|tw2240451877664009596|tw15188864565704851706|tw5354097027043913964|tw18100782573975797056|tw14999797960899769957|tw2017555721938946709|tw1756733822620206903|tw7261355448513123167|tw5869875683603230559|tw5531163526894366139|tw3710943038739734129|tw3497635508831509589|tw18106348084007501801|tw4811275638315728643
open PySem PySem.W PyProof.Rows L2
set_option maxRecDepth 100000 in
set_option maxHeartbeats 0 in
theorem PySem.Challenge.cw_momentties_k17_looser_is_kept_too_holds : PySem.Challenge.rw_momentties_k17_looser_is_kept_too.Holds := by
 w_on;o_law;k_head;(case hw=>w_witness2)
 k_fill
 refine W7 (l:=PySem.Challenge.rw_momentties_k17_looser_is_kept_too) (n:=63) (k:=7) (x:="_law_script") (CX:=a9) (sp:=Y0.vf) rfl (by decide) rfl ⟨rfl,by decide,by decide⟩ (fun w h Y=>PySem.W.kIn_of Y) ?F (fun K H a ns hl hO hS=>⟨a,ns,rfl,Y0.wL hO hS,fun _=>rfl⟩) (fun _ _ _ _ z=>z)
 case F=>
  intro w mg fa h KX G B6;obtain ⟨E1,Ux,J4⟩:∃f fd,Y0.Fn (aL KX) mg "room_bounds" Y0.c7 ["web"] f fd:=by
   unfold aL;exact ⟨_,_,Y0.aH KX G⟩
  obtain ⟨E2,Uy,J5⟩:∃f fd,Y0.Fn (aL KX) mg "span_bounds" Y0.cz ["spans"] f fd:=by
   unfold aL;exact ⟨_,_,Y0.aH KX G⟩
  obtain ⟨U8,G0,Je⟩:∃f fd,Y0.Fn (aL KX) mg "bounds_with" Y0.c9 ["web","ties"] f fd:=by
   unfold aL;exact ⟨_,_,Y0.aH KX G⟩
  obtain ⟨E3,Uz,J6⟩:∃f fd,Y0.Fn (aL KX) mg "told_bounds" Y0.bH ["web"] f fd:=by
   unfold aL;exact ⟨_,_,Y0.aH KX G⟩
  obtain ⟨Ez,Uw,J3⟩:∃f fd,Y0.Fn (aL KX) mg "ring_behind" Y0.c8 ["pushers","moment"] f fd:=by
   unfold aL;exact ⟨_,_,Y0.aH KX G⟩
  obtain ⟨Ef,Ud,Jl⟩:∃f fd,Y0.Fn (aL KX) mg "earliest_times" Y0.bE ["many","bounds"] f fd:=by
   unfold aL;exact ⟨_,_,Y0.aH KX G⟩
  obtain ⟨E5,U1,J8⟩:∃f fd,Y0.Fn (aL KX) mg "worst_bounds" Y0.br ["web"] f fd:=by
   unfold aL;exact ⟨_,_,Y0.aH KX G⟩
  obtain ⟨Eh,Uf,Jn⟩:∃f fd,Y0.Fn (aL KX) mg "fixed" Y0.eK ["web"] f fd:=by
   unfold aL;exact ⟨_,_,Y0.aH KX G⟩
  obtain ⟨Eg,Ue,Jm⟩:∃f fd,Y0.Fn (aL KX) mg "falls_by_end" Y0.b_ ["web"] f fd:=by
   unfold aL;exact ⟨_,_,Y0.aH KX G⟩
  obtain ⟨Ed,Ub,Jj⟩:∃f fd,Y0.Fn (aL KX) mg "by_sum" Y0.e_ ["first","second"] f fd:=by
   unfold aL;exact ⟨_,_,Y0.aH KX G⟩
  obtain ⟨Eb,G9,Jh⟩:∃f fd,Y0.Fn (aL KX) mg "by_late" Y0.dM ["falls","tie"] f fd:=by
   unfold aL;exact ⟨_,_,Y0.aH KX G⟩
  obtain ⟨Ec,Ua,Ji⟩:∃f fd,Y0.Fn (aL KX) mg "by_soon" Y0.dJ ["falls","tie"] f fd:=by
   unfold aL;exact ⟨_,_,Y0.aH KX G⟩
  obtain ⟨Ee,Uc,Jk⟩:∃f fd,Y0.Fn (aL KX) mg "by_sure" Y0.dH ["falls","wait"] f fd:=by
   unfold aL;exact ⟨_,_,Y0.aH KX G⟩
  obtain ⟨U9,G7,Jf⟩:∃f fd,Y0.Fn (aL KX) mg "by_back" Y0.dN ["falls","wait","tie"] f fd:=by
   unfold aL;exact ⟨_,_,Y0.aH KX G⟩
  obtain ⟨Ea,G8,Jg⟩:∃f fd,Y0.Fn (aL KX) mg "by_cross" Y0.di ["falls","wait"] f fd:=by
   unfold aL;exact ⟨_,_,Y0.aH KX G⟩
  obtain ⟨E4,U0,J7⟩:∃f fd,Y0.Fn (aL KX) mg "what_follows" Y0.bu ["falls","word","used"] f fd:=by
   unfold aL;exact ⟨_,_,Y0.aH KX G⟩
  obtain ⟨U7,Gz,Jd⟩:∃f fd,Y0.Fn (aL KX) mg "bars_every_hand" Y0.bj ["what"] f fd:=by
   unfold aL;exact ⟨_,_,Y0.aH KX G⟩
  have Ja:∃C,Y0.Cv (aL KX) mg C/\PySem.W.nsIn (aL KX) mainGlobals "Closing"=some (some (.ref C)):=by
   unfold aL;exact ⟨_,Y0.yh KX G,by k_is⟩
  obtain ⟨Gw,Ja,Gs⟩:=Ja;obtain ⟨Of,Oq,Gm⟩:=Y0.dk (m:="__init__") (q:="Closing.__init__") (st:=Y0.cQ) (ps:=["self","web"]) Gs (by
   unfold aL;exact ⟨_,_,_,by k_is,Y0.dj⟩)
  obtain ⟨Og,Os,Gn⟩:=Y0.dk (m:="is_news") (q:="Closing.is_news") (st:=Y0.ck) (ps:=["self","what"]) Gs (by
   unfold aL;exact ⟨_,_,_,by k_is,Y0.dj⟩)
  obtain ⟨Oi,Ou,Gq⟩:=Y0.dk (m:="take") (q:="Closing.take") (st:=Y0.cP) (ps:=["self","what","word","used"]) Gs (by
   unfold aL;exact ⟨_,_,_,by k_is,Y0.dj⟩)
  obtain ⟨Ob,Om,Gg⟩:=Y0.dk (m:="draw") (q:="Closing.draw") (st:=Y0.cb) (ps:=["self","word","used"]) Gs (by
   unfold aL;exact ⟨_,_,_,by k_is,Y0.dj⟩)
  obtain ⟨Oh,Ot,Gp⟩:=Y0.dk (m:="known_of") (q:="Closing.known_of") (st:=Y0.aY) (ps:=["self","kind","a"]) Gs (by
   unfold aL;exact ⟨_,_,_,by k_is,Y0.dj⟩)
  obtain ⟨Oj,Ov,Gr⟩:=Y0.dk (m:="ties_to") (q:="Closing.ties_to") (st:=Y0.bo) (ps:=["self","b"]) Gs (by
   unfold aL;exact ⟨_,_,_,by k_is,Y0.dj⟩)
  obtain ⟨Od,Oo,Gj⟩:=Y0.dk (m:="draw_from_tie") (q:="Closing.draw_from_tie") (st:=Y0.aW) (ps:=["self","at","a","b"]) Gs (by
   unfold aL;exact ⟨_,_,_,by k_is,Y0.dj⟩)
  obtain ⟨Oe,Op,Gk⟩:=Y0.dk (m:="draw_from_wait") (q:="Closing.draw_from_wait") (st:=Y0.aS) (ps:=["self","at","a"]) Gs (by
   unfold aL;exact ⟨_,_,_,by k_is,Y0.dj⟩)
  obtain ⟨Oc,On,Gi⟩:=Y0.dk (m:="draw_all") (q:="Closing.draw_all") (st:=Y0.bQ) (ps:=["self"]) Gs (by
   unfold aL;exact ⟨_,_,_,by k_is,Y0.dj⟩)
  obtain ⟨Oa,Ol,Ge⟩:=Y0.dk (m:="best_drawn") (q:="Closing.best_drawn") (st:=Y0.aQ) (ps:=["self","kind"]) Gs (by
   unfold aL;exact ⟨_,_,_,by k_is,Y0.dj⟩)
  obtain ⟨Ew,Uu,J1⟩:∃f fd,Y0.Fn (aL KX) mg "numbers_needed" Y0.bx ["rows","last"] f fd:=by
   unfold aL;exact ⟨_,_,Y0.aH KX G⟩
  obtain ⟨Ey,Uv,J2⟩:∃f fd,Y0.Fn (aL KX) mg "paper_up_to" Y0.bJ ["rows","last"] f fd:=by
   unfold aL;exact ⟨_,_,Y0.aH KX G⟩
  obtain ⟨Ei,Ug,Jo⟩:∃f fd,Y0.Fn (aL KX) mg "is_told" Y0.dG ["by_end","wait"] f fd:=by
   unfold aL;exact ⟨_,_,Y0.aH KX G⟩
  obtain ⟨Ej,Uh,Jp⟩:∃f fd,Y0.Fn (aL KX) mg "kept" Y0.gC ["web"] f fd:=by
   unfold aL;exact ⟨_,_,Y0.aH KX G⟩
  obtain ⟨U6,Gy,Jc⟩:∃f fd,Y0.Fn (aL KX) mg "are_two_moments" Y0.aO ["many","one","other"] f fd:=by
   unfold aL;exact ⟨_,_,Y0.aH KX G⟩
  obtain ⟨Eu,Us,Jz⟩:∃f fd,Y0.Fn (aL KX) mg "look_over_size" Y0.bC ["many","last"] f fd:=by
   unfold aL;exact ⟨_,_,Y0.aH KX G⟩
  obtain ⟨Ev,Ut,J0⟩:∃f fd,Y0.Fn (aL KX) mg "look_over_ties" Y0.bz ["many","ties"] f fd:=by
   unfold aL;exact ⟨_,_,Y0.aH KX G⟩
  obtain ⟨Et,Ur,Jy⟩:∃f fd,Y0.Fn (aL KX) mg "look_over_falls" Y0.aN ["many","falls"] f fd:=by
   unfold aL;exact ⟨_,_,Y0.aH KX G⟩
  have Jb:∃C,Y0.Co (aL KX) mg C/\PySem.W.nsIn (aL KX) mainGlobals "Web"=some (some (.ref C)):=by
   unfold aL;exact ⟨_,Y0.wF KX G,by k_is⟩
  obtain ⟨Gx,Jb,Gu⟩:=Jb;obtain ⟨E7,U3,Gb⟩:=Y0.dk (m:="__init__") (q:="Web.__init__") (st:=Y0.eO) (ps:=["self","many","last","ties","falls"]) Gu (by
   unfold aL;exact ⟨_,_,_,by k_is,Y0.dj⟩)
  obtain ⟨E9,U5,Gd⟩:=Y0.dk (m:="ties") (q:="Web.ties") (st:=Y0.eN) (ps:=["self"]) Gu (by
   unfold aL;exact ⟨_,_,_,by k_is,Y0.dj⟩)
  obtain ⟨E6,U2,J9⟩:=Y0.dk (m:="falls") (q:="Web.falls") (st:=Y0.dP) (ps:=["self"]) Gu (by
   unfold aL;exact ⟨_,_,_,by k_is,Y0.dj⟩)
  obtain ⟨E8,U4,Gc⟩:=Y0.dk (m:="own") (q:="Web.own") (st:=Y0.cZ) (ps:=["self"]) Gu (by
   unfold aL;exact ⟨_,_,_,by k_is,Y0.dj⟩)
  obtain ⟨Ep,Uo,Jv⟩:∃f fd,Y0.Fn (aL KX) mg "_law_next" Y0.iV ["_law_dice","_law_many"] f fd:=by
   unfold aL;exact ⟨_,_,Y0.aH KX G⟩
  obtain ⟨Eo,Um,Ju⟩:∃f fd,Y0.Fn (aL KX) mg "_law_named" Y0.jM ["_law_moment","_law_many","_law_turn"] f fd:=by
   unfold aL;exact ⟨_,_,Y0.aH KX G⟩
  obtain ⟨El,Uj,Jr⟩:∃f fd,Y0.Fn (aL KX) mg "_law_falls" Y0.jN ["_law_d","_law_many","_law_wide"] f fd:=by
   unfold aL;exact ⟨_,_,Y0.aH KX G⟩
  obtain ⟨Er,Up,Jw⟩:∃f fd,Y0.Fn (aL KX) mg "_law_ties" Y0.kY ["_law_d","_law_many","_law_last","_law_wide"] f fd:=by
   unfold aL;exact ⟨_,_,Y0.aH KX G⟩
  obtain ⟨Es,Uq,Jx⟩:∃f fd,Y0.Fn (aL KX) mg "_law_web" Y0.qh ["_law_d","_law_most","_law_last","_law_wide"] f fd:=by
   unfold aL;exact ⟨_,_,Y0.aH KX G⟩
  obtain ⟨En,Ul,Jt⟩:∃f fd,Y0.Fn (aL KX) mg "_law_looser" Y0.fe ["_law_d","_law_w"] f fd:=by
   unfold aL;exact ⟨_,_,Y0.aH KX G⟩
  obtain ⟨Em,Uk,Js⟩:∃f fd,Y0.Fn (aL KX) mg "_law_fixed" Y0.gD ["_law_web_here"] f fd:=by
   unfold aL;exact ⟨_,_,Y0.aH KX G⟩
  have Jq:∃f fd,Y0.Fn (aL KX) mg "law" Y0.qi ["_law_script"] f fd/\∀(s:Shared) (u:Value),BindsTo s fd ⟨[u],[]⟩ [("_law_script",u)]:=by
   unfold aL;exact ⟨_,_,Y0.aH KX G,fun s u=>.of_eq rfl⟩
  obtain ⟨Ek,Ui,Jq,Gv⟩:=Jq;have CN:∃C M fI fd,Y0.rj (aL KX) mg C M fI/\gZ (aL KX) "__init__" "NoTimes.__init__" Y0.cO fI fd/\eY (aL KX) fd ["self","ring"] []/\PySem.W.exmOne (aL KX) (.ref C) (.ref C)=some true:=by
   unfold aL
   refine' ⟨_,_,_,_,Y0.tw KX G ?aC ?aM ?ex ?b1 ?b2 ?b3 ?b4 ?b5 ?b6 ?nR ?z1 ?z2 ?z3,Hb ?fl ?fc ?fk,?fb,?xm⟩
   (case aC|aM=>k_is)
   case ex=>
    refine' Y0.yd ?l ?no ?ni ?tl ?fn ?kp ?sa
    (case l=>k_is);(case no=>with_unfolding_all rfl);(case ni=>k_is);(case tl=>with_unfolding_all rfl);(case fn|kp|sa=>k_is)
   (case b1|b2|b3|b4|b5|b6|nR|z1|z2|z3=>k_is)
   (case fl|fc|fk=>k_is)
   (case xm=>with_unfolding_all rfl)
   case fb=>exact .all fun us hl=>by obtain ⟨a,b,rfl⟩:=Q5 us hl;rfl
  obtain ⟨cN,cM,fI,dI,TE,FI,bI,LI⟩:=CN;have TW:Y0.lF mg:=Y0.tj KX G;have TU:Y0.yl (aL KX) mg:=by
   unfold aL
   refine' Y0.tq KX G ?a ?t ?z
   (case a=>k_is);(case t=>with_unfolding_all rfl);(case z=>k_is)
  have Z:PySem.W.nsIn (aL KX) mainGlobals "min"=some none/\PySem.W.nsIn (aL KX) mainGlobals "max"=some none/\PySem.W.nsIn (aL KX) mainGlobals "sorted"=some none:=by
   unfold aL
   refine' ⟨?a,?b,?c⟩
   (case a|b|c=>k_is)
  have zl:=Ja.tc.len;have zr:=Ja.tc.range;have zt:=TU.tuple;have zm:=sv KX G Z.1;have zx:=sv KX G Z.2.1;have zs:=sv KX G Z.2.2;have e0:=B6.symm.trans Jq.g;cases e0;refine ⟨Ui,Gv,fun base kb nb=>?gg⟩
  case gg=>
   have GN:=Y0.tU (P:=iJ) (w:=w) (base:=base) Jv zl;have GM:=Y0.qm (P:=iJ) (w:=w) (base:=base) Ju;have GF:=Y0.qu Jr Jv GN zm zr;have GT:=Y0.tL Jw Jv GN zm zx zr;have GW:=Y0.wY Jx Jv GN Ju GM Jr GF Jw GT;have G2:=Y0.wZ (P:=iJ) (w:=w) (base:=base) Jc;have GS:=Y0.tQ (P:=iJ) (w:=w) (base:=base) Jz TW;have GLT:=Y0.qo J0 TW Jc G2;have GLF:=Y0.oB Jy TW Jc G2;have GI:=Y0.tY Gb.F TW Jb.tc Jz GS J0 GLT Jy GLF;have Gt:=Y0.ql (P:=iJ) (w:=w) (base:=base) Gd.F TW Jb.tc;have Gf:=Y0.oE (P:=iJ) (w:=w) (base:=base) J9.F TW Jb.tc;have GRo:=Y0.tR (P:=iJ) (w:=w) (base:=base) J4 ⟨zr⟩ Jb.tc;have GSp:=Y0.tO (P:=iJ) (w:=w) (base:=base) J5;have GBw:=Y0.tJ Je Jb.tc J4 GRo J5 GSp J9.eP J9.b Gf;have Tn:=Y0.tK J6 Jb.tc Je GBw Gd.eP Gd.b Gt;have GBE:=Y0.qz Jm Jb.tc J9.eP J9.b Gf;have W1:=Y0.w_ (P:=iJ) (w:=w) (base:=base) Jj;have W2:=Y0.tW (P:=iJ) (w:=w) (base:=base) Jh;have W3:=Y0.tP (P:=iJ) (w:=w) (base:=base) Ji;have W4:=Y0.tN (P:=iJ) (w:=w) (base:=base) Jk ⟨zm⟩;have W5:=Y0.ub (P:=iJ) (w:=w) (base:=base) Jf ⟨zm⟩;have W6:=Y0.qx (P:=iJ) (w:=w) (base:=base) Jg ⟨zm⟩;have GWf:=Y0.mq J7 TU Jj W1 Jh W2 Ji W3 Jk W4 Jf W5 Jg W6;have GBa:=Y0.ua (P:=iJ) (w:=w) (base:=base) Jd;have GNw:=Y0.tV (P:=iJ) (w:=w) (base:=base) Gn.F Ja.tc;have To:=Y0.tM Gq.F Ja.tc Gn.eP Gn.b GNw Jd GBa;have Tp:=Y0.tZ Gg.F Ja.tc Gq.eP Gq.b To J7 GWf;have GKn:=Y0.qp (P:=iJ) (w:=w) (base:=base) Gp.F Ja.tc;have Tj:=Y0.o7 (P:=iJ) (w:=w) (base:=base) Gr.F Ja.tc;have GFw:=Y0.k_ Gk.F Ja.tc Gg.eP Gg.b Tp Gr.eP Gr.b Tj;have GFt:=Y0.mn Gj.F Ja.tc Gg.eP Gg.b Tp Gr.eP Gr.b Tj Gp.eP Gp.b GKn;have GDa:=Y0.mr Gi.F Ja.tc Gj.eP Gj.b GFt Gk.eP Gk.b GFw;have GCi:=Y0.qy Gm.F Ja.tc Jb.tc Gq.eP Gq.b To Jm GBE J6 Tn;have GBd:=Y0.t_ (P:=iJ) (w:=w) (base:=base) Ge.F Ja.tc zs;have GNn:=Y0.o8 (P:=iJ) (w:=w) (base:=base) J1 zr zs;have GPu:=Y0.ml J2 zl zt J1 GNn;have GIt:=Y0.oC (P:=iJ) (w:=w) (base:=base) Jo;have GKe:=Y0.tX Jp Ja.tc ⟨Ja.JM,Gm.a,Gm.i,Ja.kc⟩ Ja.g Gm.b GCi Gi.eP Gi.b GDa Ge.eP Ge.b GBd J2 GPu Jo GIt;have GNT:=Y0.xf (P:=iJ) (w:=w) (base:=base) FI TE;have GRi:=Y0.tS (P:=iJ) (w:=w) (base:=base) J3 TE;have GE:=Y0.qw Jl TE bI GNT J3 GRi;have GOw:=Y0.xc (P:=iJ) (w:=w) (base:=base) Gc.F zr Jb.tc;have GWb:=Y0.qk J8 zr TE.list Jb.tc J6 Tn J9.eP J9.b Gf;have GFx:=Y0.qr Jn zr Jb.tc Jl GE J8 GWb Gc.eP Gc.b GOw;have GLo:=Y0.o9 Jt Jv GN zl zm zx;have GLf:=Y0.oA Js TE.Bg LI Jn GFx;exact Y0.xg Jq Jb.tc Jx GW ⟨Jb.JM,Gb.a,Gb.i,Jb.kc⟩ Gb.b GI Jp GKe Jt GLo Js GLf
