import PyProof.Rows.All
import Wide.All
import OpenK.AllK
import Wide.FinOn
import Lean
import PyProof.EqAt
import PyProof.EqKinds
import PyProof.TupleCall
import PySem.Challenge.RW_offerhouse_k60_too_many_choices
set_option Elab.async false
set_option linter.all false
set_option maxRecDepth 100000
open And renaming intro->c5F
open Array renaming perm_iff_toList_perm->c2b,length_toList->c2c,getD_eq_getD_getElem?->c4a,append_assoc->c4e,toList_append->c5y,getD->c5O
open Array.Perm renaming refl->c2O
open Bool renaming false_ne_true->c1j,false_eq_true->c1v,and_eq_true->c3i,false_and->c4s,not_true->c4I
open False renaming elim->c1b
open ForInStep renaming yield->c1T
open Iff renaming rfl->c1R
open Int renaming le_refl->c0T,le_trans->c1e,natCast_nonneg->c1L,mul_le_mul_of_nonneg_right->c2h,mul_le_mul_of_nonneg_left->c2l,toNat_natCast->c2q,le_of_lt->c2C,le_antisymm->c2P,add_zero->c2R,mul_nonneg->c2X,mul_add->c3m,natCast_add->c3A,mul_one->c3C,not_lt->c3H,sub_self->c3Q,mul_zero->c3R,zero_add->c3S,ofNat_lt->c4d,ne_of_gt->c4k,emod_lt_of_pos->c4n,lt_of_le_of_lt->c4p,not_le->c4B,mul_sub->c4O,add_assoc->c4P,emod_nonneg->c5b,lt_or_le->c5S,mul_comm->c5T
open List renaming mem_cons_self->c0N,mem_cons_of_mem->c0O,length_map->c0P,mem_singleton->c0Q,mem_cons->c0R,getElem?_eq_some_iff->c0V,getElem?_set_ne->c0Z,size_toArray->c00,mem_append->c03,mem_append_right->c04,getElem?_set_self->c05,replicate->c06,getElem?_eq_getElem->c07,pairwise_cons->c08,mem_append_left->c1a,map_append->c1c,length_append->c1f,pairwise_append->c1g,map_map->c1h,mem_map->c1i,map_cons->c1l,not_mem_nil->c1m,range->c1n,drop_eq_getElem_cons->c1r,length_cons->c1u,mem_range->c1x,lookup_cons->c1A,drop_eq_nil_of_le->c1F,getD_eq_getElem?_getD->c1H,pairwise_singleton->c1I,append_nil->c1J,getElem?_map->c1O,sum_cons->c1Q,getElem_mem->c1X,append_assoc->c13,mem_flatMap->c2a,replicate_succ->c2d,pairwise_map->c2e,foldl_cons->c2f,zipWith->c2g,length_take->c2k,length_eq_zero_iff->c2m,nodup_cons->c2I,flatten_cons->c2K,filterMap_cons->c2S,getElem?_replicate->c2U,map_congr_left->c2V,length_drop->c2W,mem_filter->c2Z,length_replicate->c20,getElem?_append_right->c28,mem_of_getElem?->c3a,mem_iff_getElem->c3b,getElem?_append_left->c3d,pairwise_iff_getElem->c3g,ne_nil_of_length_pos->c3h,forIn_cons->c3v,append_cancel_left->c3z,length->c3D,getElem?_set->c3E,foldl_append->c3F,flatMap_cons->c3I,map->c3J,length_singleton->c3L,getElem?_zipWith->c3M,eq_nil_or_concat->c3P,all_eq_true->c3U,cons_append->c3V,ext_getElem->c3W,suffix_refl->c3X,of_mem_zip->c32,sum_append->c33,length_zipWith->c34,map_nil->c4j,zip_cons_cons->c4m,getElem?_eq_none_iff->c4r,pairwise_mergeSort->c4K,zipIdx_cons->c4S,zipWith_cons_cons->c4X,take_of_length_le->c4Y,length_set->c42,nil_append->c45,dropLast_eq_take->c47,mem_iff_getElem?->c5a,take_append_drop->c5e,length_zip->c5f,getElem?_append->c5k,mem_of_getLast?->c5m,dropLast_concat->c5n,mergeSort_perm->c5x,length_pos_iff->c5z,flatMap_append->c5A,mem_filterMap->c5B,append_of_mem->c5K,toArray->c5R
open List.Perm renaming refl->c51
open List.cons renaming inj->c5I
open Nat renaming le_refl->c0S,le_trans->c02,ne_of_lt->c09,lt_of_lt_of_le->c1d,lt_irrefl->c16,le_add_right->c19,lt_of_le_of_lt->c2i,lt_succ_self->c2y,le_of_lt->c2A,zero_le->c2T,le_of_not_lt->c3j,ne_of_gt->c3n,zero_add->c3q,not_lt_zero->c39,pos_of_ne_zero->c4q,mul_assoc->c4Q,not_lt->c5g,le_succ->c5t
open Ne renaming symm->c2j
open Option renaming bind_some->c1w,map_eq_some_iff->c2v,map_some->c3w,isSome_iff_exists->c4A,map_eq_none_iff->c4Z,getD_none->c5V
open Option.some renaming inj->c0U,injEq->c01
open Or renaming inr->c1q,inl->c1C
open Prod renaming ext->c54
open PyProof.Rows renaming wpS_bind->c1M,wpS_pure->c2n,slot_tuple_getitem->c2p,callWith_type1->c2r,mirror_perm->c23,listUpdate_at->c3y,listItems_at->c3N,wpS_forRange->c3O,get?_update_seq->c38,pairsOf_toList->c4u,pairsOf_size->c49,seqEpoch_at->c5w,size_push'->c5N,wpS_get->c50
open PyProof.Rows.SortSt renaming mk'->c53
open PySem renaming wpAny_bind->c0K,wpAny_pure->c0X,wpAny_loadPart'->c1o,wpAny_mono->c1z,sizeLine_eq->c1G,wpAny_pyIter_tuple->c1S,wpAny_holding->c1V,mem_of_lookup->c1Y,wpAny_field->c1Z,wpAny_newObj_type->c12,wpAny_seqItems->c14,wpAny_callSpecial?_slot->c17,codeAny_builtin->c2t,wpAny_call_entry->c2x,wpAny_Call_Name_kw->c2B,wpAny_setField_rec->c2D,wpAny_truthy_bool->c2G,wpAny_passesOwn->c2H,wpAny_pyIter_list->c2M,wpAny_attempt->c26,plainId_quiet->c27,wpAny_letGo->c3l,wpAny_comprehension_free->c3p,wpAny_execs_nil->c3r,wpAny_updateSeq_pair->c3Y,wpAny_rule->c31,codeAny_mono->c4i,wpAny_tryCatch->c4v,wpAny_call->c4z,wpAny_standAt->c4D,intBits_le_64->c4E,wpAny_of_eq->c4F,wpAny_onRaise->c4G,Builtin->c4H,wpAny_newList->c4J,noFill_tuple_add->c4R,wpAny_updateSeq->c5c,call_meets->c5h,wpAny_newTuple->c5o,seq_tuple_add->c5D,rangeSize_one->c5G,call->c52
open PySem.Around renaming under_plainId->c18,frames_deeper->c5i,under->c5P
open PySem.AutoSeq1 renaming wpAny_loadPart'->c2N
open PySem.Builtin.Int renaming intBits->c5s
open PySem.Builtin.List renaming listTooLong->c2L,listItems->c2Y
open PySem.Builtin.Range renaming rangeSize->c3x,small->c35
open PySem.Builtin.Slice renaming slicePlaces->c2E,sliceAdjust->c3e,sliceApplied->c4c
open PySem.Builtin.SmallTypes renaming nextOf->c1E,ownedTupleIsFree->c10,ownedTupleHandOut->c3f
open PySem.Builtin.Tuple renaming tupleExact->c2J
open PySem.Calls renaming Name_function_global->c4b,spliced_cons->c4h,spliced_nil->c4y,callWith_builtin->c4W,evalArgs_plain->c5j
open PySem.Code renaming isFrame->c5Q
open PySem.Data renaming cell->c41,fields->c5r
open PySem.Env renaming kindOf->c4C
open PySem.F renaming slot_tuple_iterator_next->c2w,plain_min_loop->c2z,args_tuple_add_2->c3o,entry_tuple_add->c3s,plainAttrs_list->c3t,slot_tuple_add->c3B,args_tuple_iterator_next_1->c3Z,entry_tuple_iterator_next->c36,slot_zip_next->c37,plain_list_iadd->c4N,entry_min_loop->c4U,slot_list_append->c43,slot_list_extend->c44,slot_enumerate_next->c48,slot_list_pop->c5E
open PySem.Heap renaming get?_push_of_some->c0M,lt_size->c0W,get?_push_size->c0Y,get?_update_other->c1p,size_push->c1N,get?_update_ne->c2u,get?_update_self->c21,get?_none_of_le->c29,SameBut->c4g,IsTuple->c4l,size_update->c4T,IsList->c5v
open PySem.Heap.IsList renaming push->c5W
open PySem.Heap.SameBut renaming update->c5u
open PySem.NameKind renaming free->c1W,cell->c25
open PySem.Obj renaming mapSeq->c1t
open PySem.PassesOwn renaming never->c2s
open PySem.Shared renaming heap->c22
open PySem.Str renaming ofString->c2Q
open PySem.Value renaming ref->c1k,none->c1y,bool->c11,int->c15,type->c30,builtin->c4L,notImplemented->c5l
open PySem.W renaming Frag->c0L,nsIn->c1s,fnOf->c1B,mg_none_of->c1D,findIn->c1K,tabIn->c1P,kitOne->c1U,keepIn->c2o,hideAll_none->c2F,mroIn->c24,tabObj->c3c,hideAll_get->c3k,mg_of->c3u,kas_rev->c3G,exmOne->c3K,codeHdIn->c3T,of_hideAll->c4f,kas_descPart->c4o,codeIn->c4t,methodObj->c4w,specialIn->c4x,kas_desc->c4M,cellsFrom_some->c4V,hideAll->c40,OpenLaw->c46,kas_place->c5d,nsOkIn->c5p,tailIn->c5q,callWith_K->c5C,tail_of_in->c5H,clsIn->c5J,plainGet->c5U,kas_sort->c5X,instObj->c5Y,takesIn->c5Z
open Sum renaming inl->c5L,inr->c5M
theorem zqa{a b c:Int}(h:b<=c)(k:a<=b):a<=c:=c1e k h
theorem zqg{a b:Int}(h:a<=b):a<b+1:=Int.lt_add_one_of_le h
theorem zqh{a b:Int}(h:a<b+1):a<=b:=Int.le_of_lt_add_one h
theorem zqi{a b:Nat}(h:a<b+1):a<=b:=Nat.le_of_lt_succ h
theorem zqj{a b:Nat}(h:a<=b):a<b+1:=Nat.lt_succ_of_le h
theorem zqn{a b c:Nat}(h:a+c<=b):a<=b:=c02 (c19 _ _) h
theorem zqo{a b c:Nat}(h:a+c<b):a<b:=c2i (c19 _ _) h
theorem zqp{a b c:Nat}(h:a<=b):a<=b+c:=c02 h (c19 _ _)
theorem zqr{a b:Nat}(h:(a:Int)<b):a<b:=c4d.mp h
theorem zqt{a b c:Nat}(h:a<=b):a-c<=b:=c02 (Nat.sub_le _ _) h
theorem zqv{a b:Int}(h:a=b):b<=a:=Int.le_of_eq h.symm
namespace L2
open PySem PySem.Spec PyProof.Rows
abbrev Key:=Sum Int Str
def b9B:Key->Value->Bool
 | .inl k,v=>Value.isInt k v
 | .inr x,v=>Value.isStrOf x v
def keyH(w:World):Key->Int
 | .inl k=>hashInt k
 | .inr x=>hashStr w x
theorem a1o:∀{k:Key} {v:Value},b9B k v=true->(∃i t,k=c5L i/\v=c15 i t)\/(∃x t,k=c5M x/\v=Value.str x t)
 | .inl i,v,h=>by
  obtain ⟨t,e⟩:=Value.isInt_shape (k:=i) (v:=v) h
  exact .inl ⟨i,t,rfl,e⟩
 | .inr x,v,h=>by
  obtain ⟨t,e⟩:=Value.isStrOf_shape (x:=x) (v:=v) h
  exact .inr ⟨x,t,rfl,e⟩
theorem b9A(a b:Int):decide ((c5L a:Key)=c5L b)=(a==b):=by
 by_cases e:a=b
 .subst e;simp
 .have h:¬(c5L a:Key)=c5L b:=λq=>e (Sum.inl.inj q)
  rw [decide_eq_false h]
  exact (beq_eq_false_iff_ne.mpr e).symm
theorem b9x(a b:Str):decide ((c5M a:Key)=c5M b)=decide (a=b):=by
 by_cases e:a=b
 .subst e;simp
 .have h:¬(c5M a:Key)=c5M b:=λq=>e (Sum.inr.inj q)
  rw [decide_eq_false h,decide_eq_false e]
theorem b9z(a:Int)(b:Str):decide ((c5L a:Key)=c5M b)=false:=decide_eq_false (λq=>nomatch q)
theorem b9y(a:Str)(b:Int):decide ((c5M a:Key)=c5L b)=false:=decide_eq_false (λq=>nomatch q)
def a9v(prog:Program)(w:World):PySem.KeyKind prog w Key where
 is:=b9B
 hash:=keyH w
 inj:=λv a b ha hb=>by
  rcases a1o ha with ⟨i,t,rfl,rfl⟩ | ⟨x,t,rfl,rfl⟩
  .rcases a1o hb with ⟨j,u,rfl,e⟩ | ⟨y,u,rfl,e⟩
   .injection e with e1 _;rw [e1]
   .exact nomatch e
  .rcases a1o hb with ⟨j,u,rfl,e⟩ | ⟨y,u,rfl,e⟩
   .exact nomatch e
   .injection e with e1 _;rw [e1]
 byValue:=λk v h=>by
  rcases a1o h with ⟨i,t,rfl,rfl⟩ | ⟨x,t,rfl,rfl⟩<;>rfl
 pyHash:=λhv h=>by
  rcases a1o hv with ⟨i,t,rfl,rfl⟩ | ⟨x,t,rfl,rfl⟩
  .exact wpAny_pyHash_int h
  .exact wpAny_pyHash_str h
 eqBool:=λhu hv h=>by
  rcases a1o hu with ⟨i,t,rfl,rfl⟩ | ⟨x,t,rfl,rfl⟩
  .rcases a1o hv with ⟨j,u,rfl,rfl⟩ | ⟨y,u,rfl,rfl⟩
   .rw [b9A] at h;exact wpAny_eqBool_int h
   .rw [b9z] at h;exact SeqAt.EqAt.int_str i t y u _ _ _ _ h
  .rcases a1o hv with ⟨j,u,rfl,rfl⟩ | ⟨y,u,rfl,rfl⟩
   .rw [b9y] at h;exact SeqAt.EqAt.str_int x t j u _ _ _ _ h
   .rw [b9x] at h;exact wpAny_eqBool_str h
 «strs»:=λk x t v h=>by
  rcases a1o h with ⟨i,u,rfl,e⟩ | ⟨y,u,rfl,e⟩
  .exact nomatch e
  .injection e with e1 _
   subst e1
   cases v<;>rfl
end L2
namespace L2
open PySem PySem.Spec PyProof.Rows
inductive V where
 | non | bl (b:Bool) | int (i:Int) | str (x:Str) | byt (b:Array UInt8) | flt (b:UInt64) | ref (a:Addr) | ty (n:String)
 deriving DecidableEq
def RelV:V->Value->Prop
 | .non,u=>u=c1y
 | .bl b,u=>u=c11 b
 | .int i,u=>∃t,u=c15 i t
 | .str x,u=>∃t,u=Value.str x t
 | .byt b,u=>∃t,u=Value.bytes b t
 | .flt b,u=>∃t,u=Value.float b t
 | .ref a,u=>u=c1k a
 | .ty n,u=>u=c30 n
abbrev Vals:List V->List Value->Prop:=Paired RelV
theorem Vals.length(r:Vals xs us):xs.length=us.length:=Paired.length r
theorem Vals.get:∀{xs:List V} {us:List Value} {i:Nat} {x:V},Vals xs us->xs[i]?=some x->∃u,us[i]?=some u/\RelV x u
 | _,_,_,_,.nil,e=>by simp at e
 | _,_,0,_,.cons r _,e=>by simp at e;subst e;exact ⟨_,rfl,r⟩
 | _,_,i+1,x,.cons _ t,e=>by
  obtain ⟨u,h1,h2⟩:=Vals.get (i:=i) (x:=x) t (by simpa using e)
  exact ⟨u,by simpa using h1,h2⟩
theorem Vals.set(r:RelV x u):∀{xs:List V} {us:List Value} (i:Nat),Vals xs us->Vals (xs.set i x) (us.set i u)
 | _,_,_,.nil=>.nil
 | _,_,0,.cons _ t=>.cons r t
 | _,_,i+1,.cons q t=>.cons q (Vals.set r i t)
theorem Vals.append:∀{xs ys:List V} {us ws:List Value},Vals xs us->Vals ys ws->Vals (xs++ys) (us++ws)
 | _,_,_,_,.nil,s=>s
 | _,_,_,_,.cons r t,s=>.cons r (Vals.append t s)
theorem Vals.take:∀{xs:List V} {us:List Value} (n:Nat),Vals xs us->Vals (xs.take n) (us.take n)
 | _,_,0,_=>.nil
 | _,_,_+1,.nil=>.nil
 | _,_,n+1,.cons r t=>.cons r (Vals.take n t)
theorem Vals.drop:∀{xs:List V} {us:List Value} (n:Nat),Vals xs us->Vals (xs.drop n) (us.drop n)
 | _,_,0,r=>r
 | _,_,_+1,.nil=>.nil
 | _,_,n+1,.cons _ t=>Vals.drop n t
theorem Vals.none_of:∀{xs:List V} {us:List Value} {i:Nat},Vals xs us->xs[i]?=none->us[i]?=none:=λ{xs us i} r e=>by
 have h1:=r.length
 have h2:xs.length<=i:=c4r.mp e
 exact c4r.mpr (by omega)
def RelO:Option V->Option Value->Prop
 | some v,some u=>RelV v u
 | none,none=>True
 | _,_=>False
def KV{κ:Type}:List (κ×V)->List (κ×Value)->Prop:=Paired λ(p:κ×V) (q:κ×Value)=>p.1=q.1/\RelV p.2 q.2
def kV:Key->V
 | .inl i=>.int i
 | .inr x=>.str x
inductive HO where
 /-- a list -/
 | lst (xs:List V)
 /-- a tuple (never changes) -/
 | tup (xs:List V)
 /-- a dict whose keys are ints and texts;one whose keys are tuples of ints and texts (the empty one is both) -/
 | dK (kvs:List (Key×V)) | dT (kvs:List (List Key×V))
 /-- a set of ints: its members,its size -/
 | set (S:Int->Bool) (n:Nat)
 /-- an instance of the class at C,its dict at dx,its attributes -/
 | ins (C dx:Addr) (fs:List (Str×V))
 /-- the dict of the instance at x -/
 | own (x:Addr)
 /-- the dict of an exception -/
 | xd (fs:List (Str×V))
 /-- a bound method,f of x -/
 | met (f x:Addr)
 /-- a range object lo,lo+1,.. below hi -/
 | rng (lo hi:Int)
 /-- a thing that is known to the object (the script;a dict while a loop walks it): read,never written while it is so -/
 | frz (o:Obj) (u:HO)
 /-- a code object's table -/
 | tbl (ps:Array Value)
 /-- a code object's table whose codes are all called q,and are its own -/
 | tab (q:Str)
 /-- any other thing,by what is true of its one object (a def of one's own: SetO a S n:=HO.ext λh=>..) -/
 | ext (φ:Heap->Prop)
def ownOf:HO->Option Addr
 | .own x=>some x
 | .frz _ (.own x)=>some x
 | _=>none
def b0A(q:Str)(o:Obj):Prop:=∃vs t,o.data=.fields vs/\vs[1]?=some (.str q t)
abbrev Hp:=Addr->Option HO
def upd(H:Hp)(a:Addr)(o:HO):Hp:=λb=>if b=a then some o else H b
theorem a0V:upd H a o a=some o:=by unfold upd;rw [if_pos rfl]
theorem a0q(h:b≠a):upd H a o b=H b:=by unfold upd;rw [if_neg h]
theorem a0A{H:Hp}{a b:Addr}{o:HO}(h:H a=some o)(h':H b=none):a≠b:=by
 intro e;subst e;rw [h] at h';cases h'
section
variable (P:Program)(w:World)
def ObjOk(H:Hp)(h:Heap)(a:Addr):HO->Prop
 | .lst xs=>xs.length<=sizeLine/\∃(its:List Value) (n:Nat),Vals xs its/\h.get? a=some { cls:=.type "list",data:=.seq its.toArray n }
 | .tup xs=>xs.length<=sizeLine/\∃its:List Value,Vals xs its/\IsTup h a its.toArray
 | .dK kvs=>kvs.length<=sizeLine/\(a==sysModules)=false/\∃vs,KV kvs vs/\h.DictOf (a9v P w) a vs
 | .dT kvs=>kvs.length<=sizeLine/\(a==sysModules)=false/\∃xs:List (List Key×Addr×Value),
   Paired (λ(p:List Key×V) (q:List Key×Addr×Value)=>p.1=q.1/\H q.2.1=some (.tup (p.1.map kV))/\RelV p.2 q.2.2) kvs xs /\
   ∃o es ep,h.get? a=some o/\o.ExactDict/\o.data=.dict es ep/\es.toList=xs.map (entryOfKey (tupleKind (a9v P w)))/\(xs.map (·.1)).Nodup
 | .set S n=>h.SetOf (intKind P w) a S n
 | .ins C dx fs=>H dx=some (.own a)/\fs.length<=1000/\dx≠a/\h.get? a=some (c5Y C dx) /\
   ∃mA,h.Ns1 dx mA/\(∀f,RelO (fs.lookup f) (mA f))/\PySem.Within mA (fs.map (·.1))
 | .own _=>∃o,h.get? a=some o
 | .xd fs=>∃mA,h.Ns1 a mA/\∀f,RelO (fs.lookup f) (mA f)
 | .rng lo hi=>∃t u v,h.get? a=some { cls:=.type "range",data:=.fields #[.int lo t,.int hi u,.int 1 v] }
 | .frz o u=>h.get? a=some o/\ObjOk H h a u
 | .tbl ps=>h.get? a=some { cls:=.none,data:=.fields ps }
 | .tab q=>∃ps,h.get? a=some (c3c ps)/\TriplesOk ps.toList/\∀pos cv,codeAmong pos ps.toList=some cv->∃c oc,cv=.ref c/\H c=some (.frz oc (.own a))/\b0A q oc
 | .met f x=>h.get? a=some (c4w (.ref f) (.ref x))
 | .ext φ=>φ h/\(∃o,h.get? a=some o)/\∀h1 h2:Heap,φ h1->(∀o,h1.get? a=some o->h2.get? a=some o)->φ h2
def HOk(H:Hp)(h:Heap):Prop:=∀a o,H a=some o->ObjOk P w H h a o
end
section
variable {P:Program}{w:World}{H H':Hp}{h h':Heap}{a:Addr}{o:HO}
theorem ObjOk.lt(x:ObjOk P w H h a o):a<h.objs.size:=by
 cases o with
 | lst xs=>obtain ⟨_,_,_,_,e⟩:=x;exact c0W e
 | tup xs=>obtain ⟨_,_,_,p⟩:=x;exact p.lt
 | dK kvs=>obtain ⟨_,_,_,_,o,_,_,e,_⟩:=x;exact c0W e
 | dT kvs=>obtain ⟨_,_,_,_,o,_,_,e,_⟩:=x;exact c0W e
 | set S n=>obtain ⟨o,_,_,_,e,_⟩:=x;exact c0W e
 | ins C dx fs=>obtain ⟨_,_,_,e,_⟩:=x;exact c0W e
 | own y=>obtain ⟨_,e⟩:=x;exact c0W e
 | xd fs=>obtain ⟨_,⟨_,_,_,e,_⟩,_⟩:=x;exact c0W e
 | rng lo hi=>obtain ⟨_,_,_,e⟩:=x;exact c0W e
 | frz ob u=>obtain ⟨e,_⟩:=x;exact c0W e
 | tbl ps=>exact c0W (show h.get? a=some _ from x)
 | tab q=>obtain ⟨_,e,_⟩:=x;exact c0W e
 | met f y=>exact c0W (show h.get? a=some _ from x)
 | ext φ=>obtain ⟨_,⟨_,e⟩,_⟩:=x;exact c0W e
theorem Paired.mapP{α β:Type}{F G:α->β->Prop}:∀{l₁:List α} {l₂:List β},Paired F l₁ l₂->(∀a b,F a b->G a b)->Paired G l₁ l₂
 | _,_,.nil,_=>.nil
 | _,_,.cons r t,f=>.cons (f _ _ r) (Paired.mapP t f)
theorem ObjOk.stay(x:ObjOk P w H h a o)(k:∀b u,(b=a\/H b=some (.own a))->h.get? b=some u->h'.get? b=some u)
  (ho:∀b u,ownOf u=some a->H b=some u->H' b=some u)(ht:∀b xs,H b=some (.tup xs)->H' b=some (.tup xs)):ObjOk P w H' h' a o:=by
 induction o with
 | lst xs=>obtain ⟨z,its,n,r,e⟩:=x;exact ⟨z,its,n,r,k _ _ (.inl rfl) e⟩
 | tup xs=>obtain ⟨z,its,r,ob,e,c⟩:=x;exact ⟨z,its,r,ob,k _ _ (.inl rfl) e,c⟩
 | dK kvs=>obtain ⟨z,y,vs,r,ob,es,ep,e,c⟩:=x;exact ⟨z,y,vs,r,ob,es,ep,k _ _ (.inl rfl) e,c⟩
 | dT kvs =>
  obtain ⟨z,y,xs,r,ob,es,ep,e,c⟩:=x
  exact ⟨z,y,xs,Paired.mapP r λp q z=>⟨z.1,ht _ _ z.2.1,z.2.2⟩,ob,es,ep,k _ _ (.inl rfl) e,c⟩
 | set S n=>obtain ⟨ob,es,ep,t,e,c⟩:=x;exact ⟨ob,es,ep,t,k _ _ (.inl rfl) e,c⟩
 | ins C dx fs =>
  obtain ⟨d,z,ne,e,mA,⟨od,es,ep,e2,c⟩,r⟩:=x
  exact ⟨ho _ _ rfl d,z,ne,k _ _ (.inl rfl) e,mA,⟨od,es,ep,k _ _ (.inr d) e2,c⟩,r⟩
 | own y=>obtain ⟨ob,e⟩:=x;exact ⟨ob,k _ _ (.inl rfl) e⟩
 | xd fs=>obtain ⟨mA,⟨od,es,ep,e,c⟩,r⟩:=x;exact ⟨mA,⟨od,es,ep,k _ _ (.inl rfl) e,c⟩,r⟩
 | rng lo hi=>obtain ⟨t,u,v,e⟩:=x;exact ⟨t,u,v,k _ _ (.inl rfl) e⟩
 | frz ob u ih=>obtain ⟨e,q⟩:=x;exact ⟨k _ _ (.inl rfl) e,ih q⟩
 | tbl ps =>
  have e:h.get? a=some { cls:=.none,data:=.fields ps }:=x
  show h'.get? a=some { cls:=.none,data:=.fields ps }
  exact k a _ (.inl rfl) e
 | tab q =>
  obtain ⟨ps,e,ht,z⟩:=x
  exact ⟨ps,k _ _ (.inl rfl) e,ht,λpos cv hc=>let ⟨c,oc,e1,e2,e3⟩:=z pos cv hc;⟨c,oc,e1,ho _ _ rfl e2,e3⟩⟩
 | met f y =>
  have e:h.get? a=some (c4w (.ref f) (.ref y)):=x
  show h'.get? a=some (c4w (.ref f) (.ref y))
  exact k a _ (.inl rfl) e
 | ext φ=>obtain ⟨p,⟨o,e⟩,st⟩:=x;exact ⟨st _ _ p λo q=>k _ _ (.inl rfl) q,⟨o,k _ _ (.inl rfl) e⟩,st⟩
theorem HOk.lt(x:HOk P w H h)(e:H a=some o):a<h.objs.size:=(x a o e).lt
theorem HOk.fresh(x:HOk P w H h)(e:h.objs.size<=a):H a=none:=by
 cases q:H a with
 | none=>rfl
 | some u=>exact absurd (c1d (x.lt q) e) (c16 _)
theorem HOk.kept(x:HOk P w H h)(k:∀b u,h.get? b=some u->h'.get? b=some u):HOk P w H h':=λa o e =>
 (x a o e).stay (λb u _ q=>k b u q) (λ_ _ _ q=>q) λ_ _ q=>q
theorem HOk.laid(x:HOk P w H h)(k:∀b u,h.get? b=some u->h'.get? b=some u)(hp:h.objs.size<=a)(new:ObjOk P w (upd H a o) h' a o):HOk P w (upd H a o) h':=λb u e=>by
 have hn:=x.fresh hp
 by_cases hb:b=a
 .subst hb;rw [a0V] at e;cases e;exact new
 .rw [a0q hb] at e
  exact (x b u e).stay (λc v _ q=>k c v q) (λc _ _ q=>by rw [a0q (a0A q hn)];exact q) λc xs q=>by rw [a0q (a0A q hn)];exact q
end
def Rd(H:Hp)(a:Addr)(u:HO):Prop:=H a=some u\/∃o,H a=some (.frz o u)
theorem Rd.of(h:H a=some u):Rd H a u:=.inl h
theorem Rd.ok(r:Rd H a u)(x:HOk P w H h):ObjOk P w H h a u:=by
 rcases r with r | ⟨o,r⟩
 .exact x a u r
 .obtain ⟨_,q⟩:=x a _ r
  exact q
def Mut:Option HO->Prop
 | some (.lst _)=>True
 | some (.dK _)=>True
 | some (.dT _)=>True
 | some (.set _ _)=>True
 | some (.ins _ _ _)=>True
 | some (.ext _)=>True
 | some (.tab _)=>True
 | _=>False
section
variable {P:Program}{w:World}{H:Hp}{h h':Heap}{x e:Addr}{o':HO}
theorem HOk.write(ok:HOk P w H h)(mu:Mut (H x))(he:e=x\/H e=some (.own x))(k:∀b u,b≠e->h.get? b=some u->h'.get? b=some u)(heo:∃u,h'.get? e=some u)
  (new:ObjOk P w (upd H x o') h' x o'):HOk P w (upd H x o') h':=λb u q=>by
 have nown:∀c y,H c=some (.own y)->c≠x:=λc y r z=>by subst z;rw [r] at mu;exact mu
 have ntup:∀c xs,H c=some (.tup xs)->c≠x:=λc xs r z=>by subst z;rw [r] at mu;exact mu
 have now2:∀c y u,ownOf u=some y->H c=some u->c≠x:=λc y u hu r z=>by
  subst z;rw [r] at mu
  cases u with
  | own y=>exact mu
  | frz o v=>exact mu
  | _=>cases hu
 by_cases hb:b=x
 .subst hb;rw [a0V] at q;cases q;exact new
 .rw [a0q hb] at q
  by_cases hbe:b=e
  .have q':H b=some (.own x):=by
    rcases he with z | z
    .exact absurd (hbe.trans z) hb
    .rw [hbe];exact z
   rw [q] at q';cases q'
   obtain ⟨v,hv⟩:=heo
   exact ⟨v,by rw [hbe];exact hv⟩
  .refine (ok b u q).stay (λc v hc r=>k c v ?_ r) (λc u hu r=>by rw [a0q (now2 c b u hu r)];exact r) λc xs r=>by rw [a0q (ntup c xs r)];exact r
   rcases hc with rfl | hc
   .exact hbe
   .rintro rfl
    rcases he with z | z
    .exact nown c b hc z
    .rw [hc] at z;cases z;exact hb rfl
end
structure Un(fs ex:List Addr)(H H':Hp)(h h':Heap):Prop where
 keep:∀b o,h.get? b=some o->H b=none->b∉fs->b∉ex->h'.get? b=some o
 slot:∀b o,h.get? b=some o->H b=none->b∈fs->b∉ex->∃sl,h'.get? b=some { o with slots:=sl }
 free:∀b o,h.get? b=some o->H b=none->b∉ex->H' b=none
 there:∀b o,h.get? b=some o->b∉ex->∃o',h'.get? b=some o'
 tups:∀b xs,H b=some (.tup xs)->H' b=some (.tup xs)
 frzs:∀b o u,H b=some (.frz o u)->H' b=some (.frz o u)
 tbls:∀b ps,H b=some (.tbl ps)->∃more,H' b=some (.tbl (ps++more))
section
variable {fs fs' ex ex':List Addr}{H H1 H2:Hp}{h h1 h2 h':Heap}{a x e:Addr}{o:HO}
theorem Un.any(u:Un fs ex H H1 h h1)(q:h.get? b=some ob)(n:H b=none)(hx:b∉ex):∃sl,h1.get? b=some { ob with slots:=sl }:=by
 by_cases hb:b∈fs
 .exact u.slot b ob q n hb hx
 .exact ⟨ob.slots,u.keep b ob q n hb hx⟩
theorem Un.trans(a:Un fs ex H H1 h h1)(b:Un fs ex H1 H2 h1 h2):Un fs ex H H2 h h2 where
 keep:=λc ob q n hc hx=>b.keep c ob (a.keep c ob q n hc hx) (a.free c ob q n hx) hc hx
 slot:=λc ob q n hc hx=>by
  obtain ⟨sl,e1⟩:=a.slot c ob q n hc hx
  obtain ⟨sl',e2⟩:=b.slot c _ e1 (a.free c ob q n hx) hc hx
  exact ⟨sl',e2⟩
 free:=λc ob q n hx=>by
  obtain ⟨o',e1⟩:=a.there c ob q hx
  exact b.free c o' e1 (a.free c ob q n hx) hx
 there:=λc ob q hx=>by
  obtain ⟨o',e1⟩:=a.there c ob q hx
  exact b.there c o' e1 hx
 tups:=λc xs q=>b.tups c xs (a.tups c xs q)
 frzs:=λc ob xs q=>b.frzs c ob xs (a.frzs c ob xs q)
 tbls:=λc ps q=>by
  obtain ⟨m1,e1⟩:=a.tbls c ps q
  obtain ⟨m2,e2⟩:=b.tbls c _ e1
  exact ⟨m1++m2,by rw [e2,c4e]⟩
theorem Un.kept(k:∀b u,h.get? b=some u->h'.get? b=some u):Un fs ex H H h h':=
 ⟨λb ob q _ _ _=>k b ob q,λb ob q _ _ _=>⟨ob.slots,k b ob q⟩,λ_ _ _ n _=>n,λb ob q _=>⟨ob,k b ob q⟩,λ_ _ q=>q,λ_ _ _ q=>q,λ_ ps q=>⟨#[],by rw [q];simp⟩⟩
theorem Un.refl:Un fs ex H H h h:=Un.kept λ_ _ q=>q
theorem Un.laid(k:∀b u,h.get? b=some u->h'.get? b=some u)(hp:h.objs.size<=a)(hn:H a=none):Un fs ex H (upd H a o) h h' where
 keep:=λb u q _ _ _=>k b u q
 slot:=λb u q _ _ _=>⟨u.slots,k b u q⟩
 free:=λb u q n _=>by rw [a0q (c09 (c1d (c0W q) hp))];exact n
 there:=λb u q _=>⟨u,k b u q⟩
 tups:=λb xs q=>by rw [a0q (a0A q hn)];exact q
 frzs:=λb u xs q=>by rw [a0q (a0A q hn)];exact q
 tbls:=λb ps q=>⟨#[],by rw [a0q (a0A q hn),q];simp⟩
theorem Un.write(mu:Mut (H x))(he:e=x\/H e=some (.own x))(k:∀b u,b≠e->h.get? b=some u->h'.get? b=some u)(heo:∃u,h'.get? e=some u):Un fs ex H (upd H x o) h h':=by
 have hx:∀b,H b=none->b≠x:=λb n z=>by subst z;rw [n] at mu;exact mu
 have hb:∀b,H b=none->b≠e:=λb n z=>by
  subst z
  rcases he with r | r
  .exact hx b n r
  .rw [n] at r;cases r
 have hm:∀b u,H b=some u->¬Mut (some u)->b≠x:=λb u q nm z=>by subst z;rw [q] at mu;exact nm mu
 refine ⟨λb u q n _ _=>k b u (hb b n) q,λb u q n _ _=>⟨u.slots,k b u (hb b n) q⟩,λb u q n _=>by rw [a0q (hx b n)];exact n,λb u q _=>?_,
  λb xs q=>by rw [a0q (hm b _ q λz=>z)];exact q,λb u xs q=>by rw [a0q (hm b _ q λz=>z)];exact q,λb ps q=>⟨#[],by rw [a0q (hm b _ q λz=>z),q];simp⟩⟩
 by_cases hbe:b=e
 .subst hbe;exact heo
 .exact ⟨u,k b u hbe q⟩
theorem Un.mono(u:Un fs ex H H1 h h1)(hs:∀b∈fs,b∈fs')(hx:∀b∈ex,b∈ex'):Un fs' ex' H H1 h h1:=
 ⟨λb ob q n hb he=>u.keep b ob q n (λz=>hb (hs b z)) λz=>he (hx b z),λ_ _ q n _ he=>u.any q n λz=>he (hx _ z),λb ob q n he=>u.free b ob q n λz=>he (hx b z),λb ob q he=>u.there b ob q λz=>he (hx b z),u.tups,u.frzs,u.tbls⟩
end
def trk(h:Heap)(H:Hp):List Addr:=(c1n h.objs.size).filter λa=>(H a).isSome
def hidT(h:Heap)(H:Hp):Heap:=c40 h (trk h H)
theorem b2O(h:Heap)(H:Hp):(hidT h H).objs.size=h.objs.size:=PySem.W.hideAll_size _ _
theorem b4F(e:h.get? b=some o)(n:H b=none):(hidT h H).get? b=some o:=
 c3k _ e λhm=>by
  have q:(H b).isSome=true:=(c2Z.mp hm).2
  rw [n] at q;simp at q
theorem b6N(e:(hidT h H).get? b=some o):h.get? b=some o/\H b=none:=by
 have e':h.get? b=some o:=c4f (trk h H) e
 refine ⟨e',?_⟩
 cases q:H b with
 | none=>rfl
 | some x =>
  have hm:b∈trk h H:=c2Z.mpr ⟨c1x.mpr (c0W e'),by simp [q]⟩
  have z:(hidT h H).get? b=none:=c2F (trk h H) hm
  rw [z] at e;cases e
def b7F(g h:Heap)(L:Addr):List (Addr×Obj):=(c1n h.objs.size).filterMap λa=>if a=L\/(g.get? a).isSome=true then none else (h.get? a).map λo=>(a,o)
def rest(g h:Heap)(L d:Addr):List (Addr×Obj):=(b7F g h L).filter λp=>decide (p.1≠d)
end L2
namespace L2
open PySem PySem.Spec PyProof.Rows
structure Mod(K:c0L)(mg:Str->Option Value)(base:Heap):Prop where
 kin:K.In base
 glob:base.Ns mainGlobals mg
 blt:∃mb,base.Ns builtinsNs mb/\∀x:Str,x ≠ "__name__" -> mb x=bootBuiltins x
 nolimit:base.NoLimit
 bmod:∃bm ob,mg "__builtins__" = some (.ref bm)/\bm≠builtinsNs/\base.get? bm=some ob/\ob.cls=.type "module" /\ ob.dict=some builtinsNs/\ob.data=.plain
structure Cx where
 prog:Program
 w:World
 K:c0L
 mg:Str->Option Value
 base:Heap
 A:Around
 N:List Str
 s₀:Shared
 H₀:Hp
 env:Env
 outer:List Env
 stack:List Env
 ex:List Addr
 fn:Str->Bool
 calm:Bool
 pn:List (Addr×Obj)
 xe:Value->Shared->Prop
def frs(l:List Env):List Addr:=l.filterMap (·.frame)
abbrev Cx.fs(X:Cx):List Addr:=frs X.outer
def Vis(sc:Scope)(x:Str):Prop:=sc.names.lookup x=some .local\/sc.names.lookup x=some .cell\/sc.names.lookup x=some .free
def Loc(sc:Scope)(x:Str):Prop:=sc.names.lookup x=some .local\/sc.names.lookup x=some .cell
def Look(env:Env)(h:Heap)(m:Str->Option Value)(x:Str)(u:Value):Prop:=
 (env.kindOf x=some .local/\m x=some u)\/((env.kindOf x=some .cell\/env.kindOf x=some .free)/\∃c,env.cells.lookup x=some c/\h.IsCell c (some u))
structure Cx.Ok(X:Cx):Prop where
 mod:Mod X.K X.mg X.base
 kind:X.env.scope.kind=.function
 glob:X.env.globals=mainGlobals
 blt:X.env.builtins=builtinsNs
 above:X.s₀.heap.objs.size<=X.env.locals
 inj:∀x y c,X.env.cells.lookup x=some c->X.env.cells.lookup y=some c->x=y
 has:∀x,(X.env.kindOf x=some .cell\/X.env.kindOf x=some .free)->∃c,X.env.cells.lookup x=some c
 cab:∀x c,X.fn x=true->X.env.cells.lookup x=some c->X.s₀.heap.objs.size<=c
 hd:X.calm=true->X.A.handled=none
 frames:X.A.frames=some X.stack
 stk:X.stack=X.outer\/(X.stack=X.env::X.outer/\X.env.frame=some X.env.locals)
 exf:∀b∈X.ex,b≠X.env.locals/\∀x c,X.env.cells.lookup x=some c->c≠b
 bs:∀b o,X.base.get? b=some o->X.s₀.heap.get? b=some o/\X.H₀ b=none
 bsz:X.base.objs.size<=X.s₀.heap.objs.size
 noex:∀b o,X.base.get? b=some o->b∉X.ex
 exfs:∀b∈X.ex,b∉X.fs
 funs:X.s₀.heap.FunFrames X.base X.outer
 frf:∀b∈X.fs,X.H₀ b=none
structure Inv(X:Cx)(pins:List (Addr×Obj))(σ:List (Option V))(H:Hp)(s:Shared):Prop where
 ok:X.Ok
 os:s.os=X.s₀.os
 bare:AllBare s.gens
 base:Un X.fs X.ex X.H₀ H X.s₀.heap s.heap
 loc:∃m,s.heap.Ns X.env.locals m/\∀(i:Nat) (x:Str) (v:V),X.N[i]?=some x->σ[i]?=some (some v)->Vis X.env.scope x->∃u,RelV v u/\Look X.env s.heap m x u
 cell:∀x c,X.env.cells.lookup x=some c->∃v,s.heap.IsCell c v
 free:H X.env.locals=none
 freeC:∀x c,X.env.cells.lookup x=some c->H c=none
 pin:∀p∈X.pn++pins,s.heap.get? p.1=some p.2/\H p.1=none/\p.1≠X.env.locals/\p.1∉X.fs/\∀v,p.2.data≠.cell v
 hok:HOk X.prog X.w H s.heap
 len:σ.length=X.N.length
section
variable {X:Cx}{pins:List (Addr×Obj)}{σ:List (Option V)}{H H':Hp}{s:Shared}{h':Heap}
theorem Cx.Ok.nofr(ok:X.Ok)(e:X.base.get? b=some o):b∉X.fs:=λhb=>by
 have:=(ok.funs.mem hb).1
 rw [e] at this;cases this
theorem Inv.bs(I:Inv X pins σ H s):∀b o,X.base.get? b=some o->s.heap.get? b=some o/\H b=none:=λb o e =>
 ⟨I.base.keep b o (I.ok.bs b o e).1 (I.ok.bs b o e).2 (I.ok.nofr e) (I.ok.noex b o e),I.base.free b o (I.ok.bs b o e).1 (I.ok.bs b o e).2 (I.ok.noex b o e)⟩
theorem Inv.bk(I:Inv X pins σ H s):∀b o,X.base.get? b=some o->s.heap.get? b=some o:=λb o e=>(I.bs b o e).1
theorem Inv.mod(I:Inv X pins σ H s):Mod X.K X.mg X.base:=I.ok.mod
theorem Inv.kIn(I:Inv X pins σ H s):X.K.In s.heap:=I.ok.mod.kin.keeps I.bk
theorem Inv.nolimit(I:Inv X pins σ H s):s.heap.NoLimit:=I.ok.mod.nolimit.keeps I.bk
theorem Inv.fr(I:Inv X pins σ H s):∃m,Fr X.base X.env.locals s.heap m:=
 let ⟨m,hn,_⟩:=I.loc
 ⟨m,hn,I.bk,c02 I.ok.bsz I.ok.above⟩
theorem Inv.lt(I:Inv X pins σ H s):X.env.locals<s.heap.objs.size:=let ⟨_,hn,_⟩:=I.loc;hn.lt
theorem Inv.sz(I:Inv X pins σ H s):X.s₀.heap.objs.size<=s.heap.objs.size:=c02 I.ok.above (c2A I.lt)
theorem Inv.nofs(I:Inv X pins σ H s){a:Addr}(h:s.heap.objs.size<=a):a∉X.fs:=λhb=>by
 obtain ⟨_,o,ho,_⟩:=I.ok.funs.mem hb
 exact absurd (c1d (c0W ho) (c02 I.sz h)) (c16 _)
theorem Inv.cne(I:Inv X pins σ H s):∀x c,X.env.cells.lookup x=some c->c≠X.env.locals:=λx c e z=>by
 obtain ⟨v,o,ho,hd⟩:=I.cell x c e
 obtain ⟨m,⟨o',es,ep,ho',hd',_⟩,_⟩:=I.loc
 rw [z,ho'] at ho;cases ho;rw [hd'] at hd;cases hd
theorem Inv.funs(I:Inv X pins σ H s):s.heap.FunFrames X.base X.outer:=by
 have all:∀(l:List Env),(∀b∈frs l,b∈X.fs)->X.s₀.heap.FunFrames X.base l->s.heap.FunFrames X.base l:=by
  intro l
  induction l with
  | nil=>intro _ _;trivial
  | cons env r ih =>
   intro hs hl
   obtain ⟨hk,⟨L,o,hf,hn,ho,hd⟩,hr⟩:=hl
   have hL:L∈X.fs:=hs L (by unfold frs;rw [c2S,hf];exact c0N)
   obtain ⟨sl,e⟩:=I.base.slot L o ho (I.ok.frf L hL) hL λz=>I.ok.exfs L z hL
   exact ⟨hk,⟨L,_,hf,hn,e,hd⟩,ih (λb hb=>hs b (by unfold frs;rw [c2S,hf];exact c0O _ hb)) hr⟩
 exact all X.outer (λ_ hb=>hb) I.ok.funs
theorem Inv.stack(I:Inv X pins σ H s):s.heap.FunFrames X.base X.stack:=by
 rcases I.ok.stk with e | ⟨e,hf⟩
 .rw [e];exact I.funs
 .rw [e]
  obtain ⟨m,hn,_⟩:=I.loc
  refine .cons (by rw [I.ok.kind];decide) hf hn ?_ I.funs
  exact c29 (c02 I.ok.bsz I.ok.above)
theorem Inv.stkSub(I:Inv X pins σ H s):∀b∈frs X.stack,b∈X.env.locals::X.fs:=λb hb=>by
 rcases I.ok.stk with e | ⟨e,hf⟩
 .rw [e] at hb;exact c0O _ hb
 .rw [e] at hb
  unfold frs at hb
  rw [c2S,hf] at hb
  exact hb
theorem Inv.stkFree(I:Inv X pins σ H s):∀b∈frs X.stack,H b=none:=λb hb=>by
 rcases c0R.mp (I.stkSub b hb) with e | hb
 .rw [e];exact I.free
 .obtain ⟨_,o,ho,_⟩:=I.ok.funs.mem hb
  exact I.base.free b o ho (I.ok.frf b hb) λz=>I.ok.exfs b z hb
theorem Inv.step{g':Array GenState}{t':Nat}{d':Drawn}{ch:List Addr}(I:Inv X pins σ H s)
  (hch:∀b∈ch,(b∈X.ex\/X.s₀.heap.objs.size<=b)/\b≠X.env.locals/\(∀x c,X.env.cells.lookup x=some c->c≠b)/\∀p∈X.pn++pins,p.1≠b)
  (keep:∀b o,b≠X.env.locals->b∉X.fs->b∉ch->s.heap.get? b=some o->H b=none->h'.get? b=some o)
  (slot:∀b o,b≠X.env.locals->b∈X.fs->b∉ch->s.heap.get? b=some o->H b=none->∃sl,h'.get? b=some { o with slots:=sl })(free:∀b o,b∉ch->s.heap.get? b=some o->H b=none->H' b=none)
  (there:∀b o,b∉ch->s.heap.get? b=some o->∃o',h'.get? b=some o')
  (tups:∀b xs,H b=some (.tup xs)->H' b=some (.tup xs))(frzs:∀b o u,H b=some (.frz o u)->H' b=some (.frz o u))(tbls:∀b ps,H b=some (.tbl ps)->∃more,H' b=some (.tbl (ps++more)))
  (ns:∀m,s.heap.Ns X.env.locals m->h'.Ns X.env.locals m)(hok:HOk X.prog X.w H' h')(hg:AllBare g'):
  Inv X pins σ H' { s with heap:=h',gens:=g',drawn:=d',toks:=t' }:=by
 have neL:∀b o,X.s₀.heap.get? b=some o->b≠X.env.locals:=λb o e=>c09 (c1d (c0W e) I.ok.above)
 have neC:∀b o,X.s₀.heap.get? b=some o->b∉X.ex->b∉ch:=λb o e hx hb=>by
  rcases (hch b hb).1 with z | z
  .exact hx z
  .exact absurd (c1d (c0W e) z) (c16 _)
 have cellK:∀x c,X.env.cells.lookup x=some c->∀v,s.heap.IsCell c v->h'.IsCell c v:=λx c e v ⟨o,ho,hd⟩=>by
  have nch:c∉ch:=λz=>(hch c z).2.2.1 x c e rfl
  by_cases hc:c∈X.fs
  .obtain ⟨sl,q⟩:=slot c o (I.cne x c e) hc nch ho (I.freeC x c e)
   exact ⟨_,q,hd⟩
  .exact ⟨o,keep c o (I.cne x c e) hc nch ho (I.freeC x c e),hd⟩
 refine ⟨I.ok,I.os,hg,⟨λb o e n hb hx=>?_,λb o e n hb hx=>?_,λb o e n hx=>?_,λb o e hx=>?_,λb xs e=>tups b xs (I.base.tups b xs e),λb o xs e=>frzs b o xs (I.base.frzs b o xs e),λb ps e=>?_⟩,?_,λx c e=>?_,?_,λx c e=>?_,λp hp=>?_,hok,I.len⟩
 .exact keep b o (neL b o e) hb (neC b o e hx) (I.base.keep b o e n hb hx) (I.base.free b o e n hx)
 .obtain ⟨sl,e1⟩:=I.base.slot b o e n hb hx
  obtain ⟨sl',e2⟩:=slot b _ (neL b o e) hb (neC b o e hx) e1 (I.base.free b o e n hx)
  exact ⟨sl',e2⟩
 .obtain ⟨o',e1⟩:=I.base.there b o e hx
  exact free b o' (neC b o e hx) e1 (I.base.free b o e n hx)
 .obtain ⟨o',e1⟩:=I.base.there b o e hx
  exact there b o' (neC b o e hx) e1
 .obtain ⟨m1,e1⟩:=I.base.tbls b ps e
  obtain ⟨m2,e2⟩:=tbls b _ e1
  exact ⟨m1++m2,by rw [e2,c4e]⟩
 .obtain ⟨m,hn,hl⟩:=I.loc
  refine ⟨m,ns m hn,λi x v e1 e2 e3=>?_⟩
  obtain ⟨u,r,l⟩:=hl i x v e1 e2 e3
  refine ⟨u,r,?_⟩
  rcases l with l | ⟨k,c,e,z⟩
  .exact .inl l
  .exact .inr ⟨k,c,e,cellK x c e _ z⟩
 .obtain ⟨v,z⟩:=I.cell x c e
  exact ⟨v,cellK x c e v z⟩
 .obtain ⟨m,⟨o,_,_,ho,_⟩,_⟩:=I.loc
  exact free _ o (λz=>(hch _ z).2.1 rfl) ho I.free
 .obtain ⟨v,o,ho,hd⟩:=I.cell x c e
  exact free c o (λz=>(hch c z).2.2.1 x c e rfl) ho (I.freeC x c e)
 .obtain ⟨e,n,ne,nf,d⟩:=I.pin p hp
  have nch:p.1∉ch:=λz=>(hch p.1 z).2.2.2 p hp rfl
  exact ⟨keep p.1 p.2 ne nf nch e n,free p.1 p.2 nch e n,ne,nf,d⟩
theorem Inv.un(I:Inv X pins σ H s)(u:Un X.fs [] H H' s.heap h')(hok:HOk X.prog X.w H' h'):Inv X pins σ H' { s with heap:=h',toks:=t' }:=by
 obtain ⟨m,⟨o,es,ep,ho,r⟩,_⟩:=id I.loc
 obtain ⟨sl,hL⟩:=u.any ho I.free (by simp)
 exact I.step (g':=s.gens) (d':=s.drawn) (ch:=[]) (λ_ z=>nomatch z) (λb o _ hb _ e n=>u.keep b o e n hb (by simp)) (λb o _ hb _ e n=>u.slot b o e n hb (by simp)) (λb o _ e n=>u.free b o e n (by simp)) (λb o _ e=>u.there b o e (by simp)) u.tups u.frzs u.tbls (λm' hm=>by
  obtain ⟨o',es',ep',ho',r'⟩:=hm
  rw [ho] at ho';cases ho'
  exact ⟨_,es',ep',hL,r'⟩) hok I.bare
theorem Inv.call(I:Inv X pins σ H s)(u:Un (frs X.stack) ch H H' s.heap h')(hok:HOk X.prog X.w H' h')(hg:AllBare g')
  (hch:∀b∈ch,(b∈X.ex\/X.s₀.heap.objs.size<=b)/\b≠X.env.locals/\(∀x c,X.env.cells.lookup x=some c->c≠b)/\∀p∈X.pn++pins,p.1≠b):
  Inv X pins σ H' { s with heap:=h',gens:=g',drawn:=d',toks:=t' }:=by
 obtain ⟨m,⟨o,es,ep,ho,r⟩,_⟩:=id I.loc
 obtain ⟨sl,hL⟩:=u.any ho I.free λz=>(hch _ z).2.1 rfl
 exact I.step (ch:=ch) hch (λb o hL hb hc e n=>u.keep b o e n (λz=>(c0R.mp (I.stkSub b z)).elim hL hb) hc) (λb o _ _ hc e n=>u.any e n hc) (λb o hc e n=>u.free b o e n hc) (λb o hc e=>u.there b o e hc) u.tups u.frzs u.tbls (λm' hm=>by
  obtain ⟨o',es',ep',ho',r'⟩:=hm
  rw [ho] at ho';cases ho'
  exact ⟨_,es',ep',hL,r'⟩) hok hg
theorem Inv.turned(I:Inv X pins σ H s)(k:∀b o,b≠it->s.heap.get? b=some o->h'.get? b=some o)(hn:H it=none)(hL:it≠X.env.locals)
  (h1:it∈X.ex\/X.s₀.heap.objs.size<=it)(h2:∀x c,X.env.cells.lookup x=some c->c≠it)(h3:∀p∈X.pn++pins,p.1≠it):Inv X pins σ H { s with heap:=h',toks:=t' }:=by
 have nit:∀b u,H b=some u->b≠it:=λb u e z=>by rw [z,hn] at e;cases e
 refine I.step (g':=s.gens) (d':=s.drawn) (ch:=[it]) (λb hb=>?_) (λb o _ _ hc e _=>k b o (λz=>hc (by simp [z])) e) (λb o _ _ hc e _=>⟨o.slots,k b o (λz=>hc (by simp [z])) e⟩) (λ_ _ _ _ n=>n)
  (λb o hc e=>⟨o,k b o (λz=>hc (by simp [z])) e⟩) (λ_ _ e=>e) (λ_ _ _ e=>e) (λb ps e=>⟨#[],by rw [e];simp⟩) (λm hm=>?_) (λb u e=>?_) I.bare
 .have e:b=it:=by simpa using hb
  subst e
  exact ⟨h1,hL,h2,h3⟩
 .obtain ⟨o,es,ep,ho,r⟩:=hm
  exact ⟨o,es,ep,k _ o (c2j hL) ho,r⟩
 .refine (I.hok b u e).stay (λc v hc q=>k c v ?_ q) (λ_ _ _ q=>q) λ_ _ q=>q
  rcases hc with z | z
  .rw [z];exact nit b u e
  .exact nit c _ z
theorem Inv.tok(I:Inv X pins σ H s)(t:Nat):Inv X pins σ H { s with toks:=t }:=I.un (h':=s.heap) (t':=t) Un.refl I.hok
theorem Inv.kept(I:Inv X pins σ H s)(k:∀b u,s.heap.get? b=some u->h'.get? b=some u):Inv X pins σ H { s with heap:=h',toks:=t' }:=I.un (Un.kept k) (I.hok.kept k)
theorem Inv.laid{a:Addr}{o:HO}{t':Nat}(I:Inv X pins σ H s)(k:∀b u,s.heap.get? b=some u->h'.get? b=some u)(hp:s.heap.objs.size<=a)(new:ObjOk X.prog X.w (upd H a o) h' a o):
  Inv X pins σ (upd H a o) { s with heap:=h',toks:=t' }:=I.un (Un.laid k hp (I.hok.fresh hp)) (I.hok.laid k hp new)
theorem Inv.write(I:Inv X pins σ H s)(mu:Mut (H x))(he:e=x\/H e=some (.own x))(k:∀b u,b≠e->s.heap.get? b=some u->h'.get? b=some u)(heo:∃u,h'.get? e=some u)
  (new:ObjOk X.prog X.w (upd H x o) h' x o):Inv X pins σ (upd H x o) { s with heap:=h',toks:=t' }:=I.un (Un.write mu he k heo) (I.hok.write mu he k heo new)
theorem Inv.pins_of(I:Inv X pins σ H s)(h:∀p∈pins',s.heap.get? p.1=some p.2/\H p.1=none/\p.1≠X.env.locals/\p.1∉X.fs/\∀v,p.2.data≠.cell v):Inv X pins' σ H s:=
 ⟨I.ok,I.os,I.bare,I.base,I.loc,I.cell,I.free,I.freeC,λp hp=>(c03.mp hp).elim (λz=>I.pin p (c1a _ z)) (h p),I.hok,I.len⟩
theorem a7m{N:List Str}(hN:N.Nodup){i j:Nat}{x:Str}(a:N[i]?=some x)(b:N[j]?=some x):i=j:=by
 obtain ⟨h1,e1⟩:=c0V.mp a
 obtain ⟨h2,e2⟩:=c0V.mp b
 exact (List.getElem_inj hN).mp (e1.trans e2.symm)
theorem a77(I:Inv X pins σ H s)(hN:X.N.Nodup)(hi:X.N[i]?=some x)(hx:Loc X.env.scope x)(r:RelV v u)
  (h:∀s',Inv X pins (σ.set i (some v)) H s'->(∃a,c4g a s.heap s'.heap/\(a=X.env.locals\/X.env.cells.lookup x=some a))->Q () s')(hf:X.fn x=true\/X.env.scope.names.lookup x=some .local:=by first | exact .inl rfl | exact .inr rfl | assumption):wpAny M A (storeName X.env x u) Q E s:=by
 obtain ⟨m,hn,hl⟩:=id I.loc
 have hcls:(X.env.scope.kind==.class||(X.env.scope.kind==.module&&X.env.locals != X.env.globals))=false:=by rw [I.ok.kind];rfl
 have hiσ:i<σ.length:=by rw [I.len];exact (c0V.mp hi).1
 have cne:=I.cne
 have tracked:∀{a:Addr} {h':Heap},(∃o,s.heap.get? a=some o/\H a=none)->c4g a s.heap h'->HOk X.prog X.w H h':=λ{a h'} ha hs b ob e=>by
  obtain ⟨_,_,hfree⟩:=ha
  refine (I.hok b ob e).stay (λc w' hc q=>(hs.2 c ?_).trans q) (λ_ _ _ q=>q) λ_ _ q=>q
  rintro rfl
  rcases hc with rfl | hc
  .rw [hfree] at e;cases e
  .rw [hfree] at hc;cases hc
 rcases hx with hk | hk
 .refine wpAny_storeName_local hk hn (λh' hn' hs=>?_) hcls
  obtain ⟨oL,_,_,hoL,_⟩:=id hn
  refine h _ ⟨I.ok,I.os,I.bare,⟨λb o e n hb hx=>?_,λb o e n hb hx=>?_,I.base.free,λb o e hx=>?_,I.base.tups,I.base.frzs,I.base.tbls⟩,⟨_,hn',λj y v' e1 e2 e3=>?_⟩,λy c e=>?_,I.free,I.freeC,λp hp=>?_,tracked ⟨oL,hoL,I.free⟩ hs,by simpa using I.len⟩ ⟨_,hs,.inl rfl⟩
  .exact (hs.2 b (c09 (c1d (c0W e) I.ok.above))).trans (I.base.keep b o e n hb hx)
  .obtain ⟨sl,e1⟩:=I.base.slot b o e n hb hx
   exact ⟨sl,(hs.2 b (c09 (c1d (c0W e) I.ok.above))).trans e1⟩
  .obtain ⟨o',e1⟩:=I.base.there b o e hx
   exact ⟨o',(hs.2 b (c09 (c1d (c0W e) I.ok.above))).trans e1⟩
  .by_cases hj:j=i
   .subst hj
    rw [hi] at e1;cases e1
    rw [c05 hiσ] at e2
    cases e2
    exact ⟨u,r,.inl ⟨hk,by simp⟩⟩
   .rw [c0Z (c2j hj)] at e2
    obtain ⟨u',r',q⟩:=hl j y v' e1 e2 e3
    refine ⟨u',r',?_⟩
    rcases q with ⟨k,e⟩ | ⟨k,c,e,z⟩
    .refine .inl ⟨k,?_⟩
     have:y≠x:=λe=>hj (a7m hN e1 (e▸hi))
     simp [this,e]
    .exact .inr ⟨k,c,e,z.sameBut hs (cne y c e)⟩
  .obtain ⟨w',z⟩:=I.cell y c e
   exact ⟨w',z.sameBut hs (cne y c e)⟩
  .obtain ⟨e,n,ne,nf,d⟩:=I.pin p hp
   exact ⟨(hs.2 p.1 ne).trans e,n,ne,nf,d⟩
 .have hfn:X.fn x=true:=by
   rcases hf with z | z
   .exact z
   .rw [z] at hk;cases hk
  obtain ⟨c,hc⟩:=I.ok.has x (.inl hk)
  obtain ⟨w',z⟩:=I.cell x c hc
  refine wpAny_storeName_cell I.ok.kind hk hc z (λh' hc' hs=>?_)
  obtain ⟨oc,hoc,hocd⟩:=id z
  refine h { s with heap:=h' } ⟨I.ok,I.os,I.bare,⟨λb o e n hb hx=>?_,λb o e n hb hx=>?_,I.base.free,λb o e hx=>?_,I.base.tups,I.base.frzs,I.base.tbls⟩,⟨m,hn.sameBut hs (c2j (cne x c hc)),λj y v' e1 e2 e3=>?_⟩,λy c' e=>?_,I.free,I.freeC,λp hp=>?_,tracked ⟨oc,hoc,I.freeC x c hc⟩ hs,by simpa using I.len⟩ ⟨c,hs,.inr hc⟩
  .exact (hs.2 b (c09 (c1d (c0W e) (I.ok.cab x c hfn hc)))).trans (I.base.keep b o e n hb hx)
  .obtain ⟨sl,e1⟩:=I.base.slot b o e n hb hx
   exact ⟨sl,(hs.2 b (c09 (c1d (c0W e) (I.ok.cab x c hfn hc)))).trans e1⟩
  .obtain ⟨o',e1⟩:=I.base.there b o e hx
   exact ⟨o',(hs.2 b (c09 (c1d (c0W e) (I.ok.cab x c hfn hc)))).trans e1⟩
  .by_cases hj:j=i
   .subst hj
    rw [hi] at e1;cases e1
    rw [c05 hiσ] at e2
    cases e2
    exact ⟨u,r,.inr ⟨.inl hk,c,hc,hc'⟩⟩
   .rw [c0Z (c2j hj)] at e2
    obtain ⟨u',r',q⟩:=hl j y v' e1 e2 e3
    refine ⟨u',r',?_⟩
    rcases q with q | ⟨k,c',e,z'⟩
    .exact .inl q
    .refine .inr ⟨k,c',e,z'.sameBut hs ?_⟩
     rintro rfl
     exact hj (a7m hN e1 (I.ok.inj _ _ _ e hc▸hi))
  .by_cases hcc:c'=c
   .subst hcc;exact ⟨_,hc'⟩
   .obtain ⟨w2,z2⟩:=I.cell y c' e
    exact ⟨w2,z2.sameBut hs hcc⟩
  .obtain ⟨e,n,ne,nf,d⟩:=I.pin p hp
   refine ⟨(hs.2 p.1 ?_).trans e,n,ne,nf,d⟩
   intro q
   rw [q,hoc] at e
   have q':oc=p.2:=c0U e
   exact d w' (by rw [<-q'];exact hocd)
theorem a5r(I:Inv X pins σ H s)(hN:X.N.Nodup)(hi:X.N[i]?=some x)(hx:Loc X.env.scope x)(r:RelV v u)
  (h:∀s',Inv X pins (σ.set i (some v)) H s'->Q () s')(hf:X.fn x=true\/X.env.scope.names.lookup x=some .local:=by first | exact .inl rfl | exact .inr rfl | assumption):wpAny M A (storeName X.env x u) Q E s:=
 a77 I hN hi hx r (λs' I' _=>h s' I') hf
theorem Inv.call'(I:Inv X pins σ H s)(ho:s'.os=s.os)(u:Un (frs X.stack) ch H H' s.heap s'.heap)(hok:HOk X.prog X.w H' s'.heap)(hg:AllBare s'.gens)
  (hch:∀b∈ch,(b∈X.ex\/X.s₀.heap.objs.size<=b)/\b≠X.env.locals/\(∀x c,X.env.cells.lookup x=some c->c≠b)/\∀p∈X.pn++pins,p.1≠b):Inv X pins σ H' s':=by
 obtain ⟨h',g',d',t',o'⟩:=s'
 have e:o'=s.os:=ho
 subst e
 exact I.call (g':=g') (t':=t') (d':=d') u hok hg hch
end
abbrev XK:=Value->Option Addr->Hp->Prop
abbrev St:=List (Option V)
abbrev VK:=V->Hp->Prop
abbrev TE:=St->Hp->VK->Prop
abbrev TT:=St->Hp->(Bool->Hp->Prop)->Prop
abbrev TA:=St->Hp->(List V->Hp->Prop)->Prop
structure Ends where
 nx:St->Hp->Prop
 rt:VK
 bk:St->Hp->Prop:=λ_ _=>False
 ct:St->Hp->Prop:=λ_ _=>False
abbrev TS:=Ends->St->Hp->Prop
def EP(X:Cx)(pins:List (Addr×Obj))(σ:St)(Q:VK)(u:Value)(s':Shared):Prop:=∃v H',Inv X pins σ H' s'/\RelV v u/\Q v H'
def TP(X:Cx)(pins:List (Addr×Obj))(σ:St)(Q:Bool->Hp->Prop)(b:Bool)(s':Shared):Prop:=∃H',Inv X pins σ H' s'/\Q b H'
def AP(X:Cx)(pins:List (Addr×Obj))(σ:St)(Q:List V->Hp->Prop)(us:List Value)(s':Shared):Prop:=∃vs H',Inv X pins σ H' s'/\Vals vs us/\Q vs H'
def SP(X:Cx)(pins:List (Addr×Obj))(D:Ends)(f:Flow)(s':Shared):Prop:=
 match f with
 | .next=>∃σ' H',Inv X pins σ' H' s'/\D.nx σ' H'
 | .brk=>∃σ' H',Inv X pins σ' H' s'/\D.bk σ' H'
 | .cont=>∃σ' H',Inv X pins σ' H' s'/\D.ct σ' H'
 | .ret u=>∃v σ' H',Inv X pins σ' H' s'/\RelV v u/\D.rt v H'
def PE(X:Cx)(e:Expr)(t:TE):Prop:=
 ∀(pins:List (Addr×Obj)) (s:Shared) (σ:St) (H:Hp) (Q:VK),Inv X pins σ H s->t σ H Q->wpAny (model X.prog X.w) X.A (eval e X.env) (EP X pins σ Q) X.xe s
def PT(X:Cx)(e:Expr)(t:TT):Prop:=
 ∀(pins:List (Addr×Obj)) (s:Shared) (σ:St) (H:Hp) (Q:Bool->Hp->Prop),Inv X pins σ H s->t σ H Q->wpAny (model X.prog X.w) X.A (isTrue e X.env (eval e X.env)) (TP X pins σ Q) X.xe s
def PW(X:Cx)(e:Expr)(t:TT):Prop:=
 ∀(whole:Sem Value) (pins:List (Addr×Obj)) (s:Shared) (σ:St) (H:Hp) (Q:Bool->Hp->Prop),Inv X pins σ H s->t σ H Q->wpAny (model X.prog X.w) X.A (isTrue e X.env whole) (TP X pins σ Q) X.xe s
theorem PW.pt(h:PW X e t):PT X e t:=h _
def PA(X:Cx)(es:List Expr)(t:TA):Prop:=
 ∀(pos:Pos) (pins:List (Addr×Obj)) (s:Shared) (σ:St) (H:Hp) (Q:List V->Hp->Prop),Inv X pins σ H s->t σ H Q->wpAny (model X.prog X.w) X.A (spliced (backTo pos (starEach es X.env))) (AP X pins σ Q) X.xe s
def PS(X:Cx)(st:Stmt)(t:TS):Prop:=
 ∀(pins:List (Addr×Obj)) (s:Shared) (σ:St) (H:Hp) (D:Ends),Inv X pins σ H s->t D σ H->wpAny (model X.prog X.w) X.A (exec st X.env) (SP X pins D) X.xe s
def PSs(X:Cx)(st:List Stmt)(t:TS):Prop:=
 ∀(pins:List (Addr×Obj)) (s:Shared) (σ:St) (H:Hp) (D:Ends),Inv X pins σ H s->t D σ H->wpAny (model X.prog X.w) X.A (execs st X.env) (SP X pins D) X.xe s
theorem thn{α:Type}{t:Sem α}{Q Q':α->Shared->Prop}{M:Model}{A:Around}{E:Value->Shared->Prop}{s:Shared}(h:wpAny M A t Q E s)(hQ:∀a s,Q a s->Q' a s):wpAny M A t Q' E s:=c1z h hQ λ_ _ x=>x
end L2
namespace L2
open PySem PySem.Spec PyProof.Rows
section
variable {X:Cx}
theorem bin{a b:Expr}{ta tb:TE}(ha:PE X a ta)(hb:PE X b tb){pins:List (Addr×Obj)}{s:Shared}{σ:St}{H:Hp}{R:V->V->Hp->Prop}(I:Inv X pins σ H s)(h:ta σ H λx H1=>tb σ H1 λy H2=>R x y H2)
  {α:Type}{Q:α->Shared->Prop}{f:Value->Value->Sem α}
  (hf:∀v u s2 x y H2,Inv X pins σ H2 s2->RelV x v->RelV y u->R x y H2->wpAny (model X.prog X.w) X.A (f v u) Q X.xe s2):
  wpAny (model X.prog X.w) X.A (eval a X.env) (λv s₁=>wpAny (model X.prog X.w) X.A (eval b X.env) (λu s₂=>wpAny (model X.prog X.w) X.A (f v u) Q X.xe s₂) X.xe s₁) X.xe s:=by
 refine thn (ha pins s σ H _ I h) λv s1 ⟨x,H1,I1,r1,q1⟩=>?_
 refine thn (hb pins s1 σ H1 _ I1 q1) λu s2 ⟨y,H2,I2,r2,q2⟩=>?_
 exact hf v u s2 x y H2 I2 r1 r2 q2
def tVar(i:Nat):TE:=λσ H Q=>∃v,σ[i]?=some (some v)/\Q v H
def tC(v:V):TE:=λ_ H Q=>Q v H
theorem a4x{i:Nat}{x:Str}{pos:Pos}(hN:X.N[i]?=some x)(hv:Vis X.env.scope x)(hd:(x==("__debug__":Str))=false:=by decide)(hcd:(x==("__classdict__":Str))=false:=by decide):PE X (.Name x pos) (tVar i):=by
 intro pins s σ H Q I h
 obtain ⟨v,e,h⟩:=h
 obtain ⟨m,hn,hl⟩:=I.loc
 obtain ⟨u,r,l⟩:=hl i x v hN e hv
 have fin:EP X pins σ Q u s:=⟨v,H,I,r,h⟩
 rcases l with ⟨hk,hm⟩ | ⟨hk,c,hc,hcell⟩
 .exact wpAny_Name (wpAny_loadName_local I.ok.kind hk hn hm fin) hd
 .rcases hk with hk | hk
  .exact wpAny_Name (wpAny_loadName_cell I.ok.kind hk hc hcell fin) hd
  .exact wpAny_Name (wpAny_loadName_free I.ok.kind hk hc hcell fin hcd) hd
theorem b9c{i j pos}:PE X (.Constant (.int i) j pos) (tC (.int i)):=λ_ _ _ H _ I h=>wpAny_Constant_int ⟨.int i,H,I.tok _,⟨_,rfl⟩,h⟩
theorem pe_bl{b j pos}:PE X (.Constant (.bool b) j pos) (tC (.bl b)):=λ_ _ _ H _ I h=>Constant_bool ⟨.bl b,H,I,rfl,h⟩
theorem b9a{j pos}:PE X (.Constant .none j pos) (tC .non):=λ_ _ _ H _ I h=>Constant_none ⟨.non,H,I,rfl,h⟩
theorem b88{x j pos}:PE X (.Constant (.str x) j pos) (tC (.str x)):=λ_ _ _ H _ I h=>Calls.Constant_str ⟨.str x,H,I.tok _,⟨_,rfl⟩,h⟩
def Gl(X:Cx)(x:Str):Prop:=X.env.kindOf x=some .globalImplicit
theorem a4h{E:Value->Shared->Prop}{pins:List (Addr×Obj)}{s:Shared}{σ:St}{H:Hp}{x:Str}{u:Value}{pos:Pos}{Q:Value->Shared->Prop}(I:Inv X pins σ H s)(hg:Gl X x)(hm:X.mg x=some u)(h:Q u s)
  (hd:(x==("__debug__":Str))=false:=by decide):wpAny (model X.prog X.w) X.A (eval (.Name x pos) X.env) Q E s:=
 c4b I.ok.kind hg (Calls.loadGlobal_global (by rw [I.ok.glob];exact I.mod.glob.keeps I.bk) hm h) hd
theorem a5j{E:Value->Shared->Prop}{pins:List (Addr×Obj)}{s:Shared}{σ:St}{H:Hp}{x:Str}{u:Value}{pos:Pos}{Q:Value->Shared->Prop}(I:Inv X pins σ H s)(hg:Gl X x)(hm:X.mg x=none)(hv:bootBuiltins x=some u)(h:Q u s)
  (hn:x ≠ "__name__":=by decide)(hd:(x==("__debug__":Str))=false:=by decide):wpAny (model X.prog X.w) X.A (eval (.Name x pos) X.env) Q E s:=by
 obtain ⟨mb,h1,h2⟩:=I.mod.blt
 exact c4b I.ok.kind hg (Calls.loadGlobal_builtin (by rw [I.ok.glob];exact I.mod.glob.keeps I.bk) hm (by rw [I.ok.blt];exact h1.keeps I.bk) ((h2 x hn).trans hv) h) hd
theorem b6D(hg:Gl X x)(hm:X.mg x=some u)(r:RelV v u)(hd:(x==("__debug__":Str))=false:=by decide):PE X (.Name x pos) (tC v):=
 λ_ _ _ H _ I h=>a4h I hg hm ⟨v,H,I,r,h⟩ hd
theorem b6F{x:Str}{v:V}{u:Value}{pos:Pos}(hg:Gl X x)(hm:X.mg x=none)(hv:bootBuiltins x=some u)(r:RelV v u)(hn:x ≠ "__name__":=by decide)(hd:(x==("__debug__":Str))=false:=by decide):PE X (.Name x pos) (tC v):=
 λ_ _ _ H _ I h=>a5j I hg hm hv ⟨v,H,I,r,h⟩ hn hd
variable {a b:Expr}{ta tb:TE}{pos:Pos}
variable {tA tB':TT}{rest:List Expr}
def tAnd(t u:TT):TT:=λσ H Q=>t σ H λc H1=>if c=true then u σ H1 Q else Q false H1
def tOr(t u:TT):TT:=λσ H Q=>t σ H λc H1=>if c=true then Q true H1 else u σ H1 Q
def tNot(t:TT):TT:=λσ H Q=>t σ H λc H1=>Q (!c) H1
theorem b6s(ha:PT X a tA):PW X (.BoolOp .And [a] pos) tA:=by
 intro wh pins s σ H Q I h
 refine isTrue_and (thn (ha pins s σ H Q I h) λc s1 e=>?_)
 cases c with
 | true=>exact isTrue_and_nil e
 | false=>exact e
theorem b8Y(ha:PT X a tA):PW X (.BoolOp .Or [a] pos) tA:=by
 intro wh pins s σ H Q I h
 refine isTrue_or (thn (ha pins s σ H Q I h) λc s1 e=>?_)
 cases c with
 | false=>exact isTrue_or_nil e
 | true=>exact e
theorem b8Z(ha:PT X a tA)(hb:PW X (.BoolOp .And (b::rest) pos) tB'):PW X (.BoolOp .And (a::b::rest) pos) (tAnd tA tB'):=by
 intro wh pins s σ H Q I h
 refine isTrue_and (thn (ha pins s σ H _ I h) λc s1 ⟨H1,I1,q1⟩=>?_)
 cases c with
 | true=>exact hb wh pins s1 σ H1 Q I1 q1
 | false=>exact ⟨H1,I1,q1⟩
theorem pw_or(ha:PT X a tA)(hb:PW X (.BoolOp .Or (b::rest) pos) tB'):PW X (.BoolOp .Or (a::b::rest) pos) (tOr tA tB'):=by
 intro wh pins s σ H Q I h
 refine isTrue_or (thn (ha pins s σ H _ I h) λc s1 ⟨H1,I1,q1⟩=>?_)
 cases c with
 | true=>exact ⟨H1,I1,q1⟩
 | false=>exact hb wh pins s1 σ H1 Q I1 q1
theorem b80(ha:PT X a tA):PT X (.UnaryOp .Not a pos) (tNot tA):=by
 intro pins s σ H Q I h
 exact isTrue_not (ha pins s σ H (λc H1=>Q (!c) H1) I h)
def tAndV(ta tb:TE):TE:=λσ H Q=>ta σ H λx H1=>∃c,x=.bl c/\if c=true then tb σ H1 Q else Q (.bl false) H1
theorem b89{op}(h:PE X a t):PE X (.BoolOp op [a] pos) t:=λpins s σ H Q I hw=>BoolOp_one (h pins s σ H Q I hw)
theorem b9f(ha:PE X a ta)(hb:PE X (.BoolOp .And (b::rest) pos) tb):PE X (.BoolOp .And (a::b::rest) pos) (tAndV ta tb):=by
 intro pins s σ H Q I h
 refine BoolOp_and (thn (ha pins s σ H _ I h) λv s1 ⟨x,H1,I1,r1,q1⟩=>?_)
 obtain ⟨c,rfl,q1⟩:=q1
 cases r1
 refine c2G ?_
 cases c with
 | true=>exact hb pins s1 σ H1 Q I1 q1
 | false=>exact ⟨.bl false,H1,I1,rfl,q1⟩
def tIf(t:TT)(ta tb:TE):TE:=λσ H Q=>t σ H λc H1=>if c=true then ta σ H1 Q else tb σ H1 Q
theorem b39(hc:PT X c tA)(ha:PE X a ta)(hb:PE X b tb):PE X (.IfExp c a b pos) (tIf tA ta tb):=by
 intro pins s σ H Q I h
 refine wpAny_IfExp (thn (hc pins s σ H _ I h) λd s1 ⟨H1,I1,q1⟩=>?_)
 cases d with
 | true=>exact ha pins s1 σ H1 Q I1 q1
 | false=>exact hb pins s1 σ H1 Q I1 q1
end
end L2
namespace L2
open PySem PySem.Spec PyProof.Rows
def SqL(K:c0L)(H:Hp)(a:Addr)(xs:List V):Prop:=
 Rd H a (.lst xs) \/
  ∃(o:Obj) (its:Array Value) (n:Nat),K.lookup a=some o/\o.cls=.type "list" /\ o.dict=none/\o.data=.seq its n/\its.size<=sizeLine/\Vals xs its.toList
def SqT(K:c0L)(H:Hp)(a:Addr)(xs:List V):Prop:=
 Rd H a (.tup xs) \/
  ∃(o:Obj) (its:Array Value) (n:Nat),K.lookup a=some o/\o.cls=.type "tuple" /\ o.data=.seq its n/\its.size<=sizeLine/\Vals xs its.toList
def absV:Value->Option V
 | .none=>some .non
 | .bool b=>some (.bl b)
 | .int i _=>some (.int i)
 | .str x _=>some (.str x)
 | .bytes b _=>some (.byt b)
 | .float b _=>some (.flt b)
 | .ref a=>some (.ref a)
 | .type n=>some (.ty n)
 | _=>none
theorem RelV.abs(r:RelV x u):absV u=some x:=by
 cases x with
 | non=>cases r;rfl
 | bl _=>cases r;rfl
 | int _=>obtain ⟨t,rfl⟩:=r;rfl
 | str _=>obtain ⟨t,rfl⟩:=r;rfl
 | byt _=>obtain ⟨t,rfl⟩:=r;rfl
 | flt _=>obtain ⟨t,rfl⟩:=r;rfl
 | ref _=>cases r;rfl
 | ty _=>cases r;rfl
theorem RelV.inj(r:RelV x u)(q:RelV y u):x=y:=c0U (r.abs.symm.trans q.abs)
theorem Vals.inj:∀{xs ys:List V} {us:List Value},Vals xs us->Vals ys us->xs=ys
 | _,_,_,.nil,.nil=>rfl
 | _,_,_,.cons r t,.cons r' t'=>by rw [r.inj r',Vals.inj t t']
section
variable {X:Cx}{pins:List (Addr×Obj)}{σ:St}{H:Hp}{s:Shared}{a:Addr}{xs ys:List V}
theorem SqL.of{K:c0L}(h:H a=some (.lst xs)):SqL K H a xs:=.inl (.inl h)
theorem SqT.of{K:c0L}(h:H a=some (.tup xs)):SqT K H a xs:=.inl (.inl h)
theorem Inv.list(I:Inv X pins σ H s)(h:SqL X.K H a xs):∃its:List Value,Vals xs its/\PlainL s.heap a its.toArray/\xs.length<=sizeLine:=by
 rcases h with h | ⟨o,its,n,hk,hc,hd,hs,hz,r⟩
 .obtain ⟨z,its,n,r,e⟩:=h.ok I.hok
  exact ⟨its,r,⟨_,n,e,rfl,rfl,rfl⟩,z⟩
 .refine ⟨its.toList,r,⟨o,n,I.kIn a o hk,hc,hd,by simpa using hs⟩,?_⟩
  have e:=r.length
  simp only [c2c] at e
  omega
theorem Inv.tuple(I:Inv X pins σ H s)(h:SqT X.K H a xs):∃its:List Value,Vals xs its/\IsTup s.heap a its.toArray/\xs.length<=sizeLine:=by
 rcases h with h | ⟨o,its,n,hk,hc,hs,hz,r⟩
 .obtain ⟨z,its,r,p⟩:=h.ok I.hok
  exact ⟨its,r,p,z⟩
 .refine ⟨its.toList,r,⟨o,I.kIn a o hk,hc,n,by simpa using hs⟩,?_⟩
  have e:=r.length
  simp only [c2c] at e
  omega
theorem Inv.list_inj(I:Inv X pins σ H s)(h:SqL X.K H a xs)(h':SqL X.K H a ys):xs=ys:=by
 obtain ⟨its,r,⟨o,n,e,_,_,d⟩,_⟩:=I.list h
 obtain ⟨its',r',⟨o',n',e',_,_,d'⟩,_⟩:=I.list h'
 rw [e] at e';cases e'
 rw [d] at d'
 injection d' with d1 _
 have:its=its':=by simpa using congrArg Array.toList d1
 subst this
 exact r.inj r'
theorem Inv.tuple_inj(I:Inv X pins σ H s)(h:SqT X.K H a xs)(h':SqT X.K H a ys):xs=ys:=by
 obtain ⟨its,r,⟨o,e,_,n,d⟩,_⟩:=I.tuple h
 obtain ⟨its',r',⟨o',e',_,n',d'⟩,_⟩:=I.tuple h'
 rw [e] at e';cases e'
 rw [d] at d'
 injection d' with d1 _
 have:its=its':=by simpa using congrArg Array.toList d1
 subst this
 exact r.inj r'
end
abbrev Cx.wish(X:Cx)(E:Value->Shared->Prop):Cx:={ X with xe:=E }
abbrev Cx.nox(X:Cx):Cx:=X.wish λ_ _=>False
theorem Cx.Ok.wish{X:Cx}(ok:X.Ok)(E:Value->Shared->Prop):(X.wish E).Ok:=
 ⟨ok.mod,ok.kind,ok.glob,ok.blt,ok.above,ok.inj,ok.has,ok.cab,ok.hd,ok.frames,ok.stk,ok.exf,ok.bs,ok.bsz,ok.noex,ok.exfs,ok.funs,ok.frf⟩
theorem Cx.Ok.unwish{X:Cx}(ok:(X.wish E).Ok):X.Ok:=
 ⟨ok.mod,ok.kind,ok.glob,ok.blt,ok.above,ok.inj,ok.has,ok.cab,ok.hd,ok.frames,ok.stk,ok.exf,ok.bs,ok.bsz,ok.noex,ok.exfs,ok.funs,ok.frf⟩
section
variable {X:Cx}{pins:List (Addr×Obj)}{σ:St}{H:Hp}{s:Shared}{E:Value->Shared->Prop}
theorem Inv.wish(I:Inv X pins σ H s)(E:Value->Shared->Prop):Inv (X.wish E) pins σ H s:=⟨I.ok.wish E,I.os,I.bare,I.base,I.loc,I.cell,I.free,I.freeC,I.pin,I.hok,I.len⟩
theorem Inv.unwish(I:Inv (X.wish E) pins σ H s):Inv X pins σ H s:=⟨I.ok.unwish,I.os,I.bare,I.base,I.loc,I.cell,I.free,I.freeC,I.pin,I.hok,I.len⟩
theorem SP.unwish(h:SP (X.wish E) pins D f s'):SP X pins D f s':=by
 cases f with
 | next=>obtain ⟨σ',H',I,q⟩:=h;exact ⟨σ',H',I.unwish,q⟩
 | brk=>obtain ⟨σ',H',I,q⟩:=h;exact ⟨σ',H',I.unwish,q⟩
 | cont=>obtain ⟨σ',H',I,q⟩:=h;exact ⟨σ',H',I.unwish,q⟩
 | ret u=>obtain ⟨v,σ',H',I,r,q⟩:=h;exact ⟨v,σ',H',I.unwish,r,q⟩
theorem PE.nox(h:PE X.nox e t):PE X e t:=λpins s σ H Q I hw =>
 c1z (h pins s σ H Q (I.wish _) hw) (λ_ _ ⟨v,H',I',r,q⟩=>⟨v,H',I'.unwish,r,q⟩) λ_ _ z=>c1b z
theorem PT.nox(h:PT X.nox e t):PT X e t:=λpins s σ H Q I hw =>
 c1z (h pins s σ H Q (I.wish _) hw) (λ_ _ ⟨H',I',q⟩=>⟨H',I'.unwish,q⟩) λ_ _ z=>c1b z
theorem PSs.nox{st:List Stmt}{t:TS}(h:PSs X.nox st t):PSs X st t:=λpins s σ H D I hw =>
 c1z (h pins s σ H D (I.wish _) hw) (λ_ _ q=>q.unwish) λ_ _ z=>c1b z
end
section
variable {X:Cx}{st:Stmt}{rest:List Stmt}{t u:TS}{e:Expr}{te:TE}{pos:Pos}
def tNext:TS:=λD σ H=>D.nx σ H
def tSeq(t u:TS):TS:=λD σ H=>t { D with nx:=u D } σ H
theorem b6w:PSs X [] tNext:=λ_ _ σ H _ I h=>c3r ⟨σ,H,I,h⟩
theorem a7a(h1:PS X st t)(h2:PSs X rest u):PSs X (st::rest) (tSeq t u):=by
 intro pins s σ H D I h
 refine wpAny_execs_cons (thn (h1 pins s σ H { D with nx:=u D } I h) λf s1 q=>?_)
 cases f with
 | next =>
  obtain ⟨σ',H',I',q⟩:=q
  exact h2 pins s1 σ' H' D I' q
 | ret v=>exact q
 | brk=>exact q
 | cont=>exact q
theorem b2f(h1:PS X st t):PSs X [st] t:=by
 intro pins s σ H D I h
 refine wpAny_execs_cons (thn (h1 pins s σ H D I h) λf s1 q=>?_)
 cases f with
 | next=>exact c3r q
 | ret v=>exact q
 | brk=>exact q
 | cont=>exact q
def b8M:TS:=λD σ H=>D.bk σ H
theorem b32:PS X (.Break pos) b8M:=λ_ _ σ H _ I h=>wpAny_Break ⟨σ,H,I,h⟩
theorem Inv.quiet{pins:List (Addr×Obj)}{σ:St}{H:Hp}{s:Shared}(I:Inv X pins σ H s):interactive X.env=false:=by simp [interactive,I.ok.kind]
def tDrop(te:TE):TS:=λD σ H=>te σ H λ_ H1=>D.nx σ H1
theorem b2h(he:PE X e te)(hs:swapsWith e none pos.line X.env=pure false:=by rfl):PS X (.Expr e pos) (tDrop te):=by
 intro pins s σ H D I h
 exact wpAny_Expr_any (thn (he pins s σ H _ I h) λv s1 ⟨x,H1,I1,r1,q1⟩=>⟨σ,H1,I1,q1⟩) I.quiet hs
def tRet(te:TE):TS:=λD σ H=>te σ H D.rt
theorem b2g(he:PE X e te):PS X (.Return (some e) pos) (tRet te):=by
 intro pins s σ H D I h
 exact wpAny_Return_some (thn (he pins s σ H _ I h) λv s1 ⟨x,H1,I1,r1,q1⟩=>⟨x,σ,H1,I1,r1,q1⟩)
def tIfS(c:TT)(t u:TS):TS:=λD σ H=>c σ H λb H1=>if b=true then t D σ H1 else u D σ H1
theorem b81(hc:PT X c tc)(ha:PSs X a t)(hb:PSs X b u):PS X (.If c a b pos) (tIfS tc t u):=by
 intro pins s σ H D I h
 refine wpAny_If (thn (hc pins s σ H _ I h) λd s1 ⟨H1,I1,q1⟩=>?_)
 cases d with
 | true=>exact ha pins s1 σ H1 D I1 q1
 | false=>exact hb pins s1 σ H1 D I1 q1
end
abbrev TG:=V->St->Hp->(St->Hp->Prop)->Prop
abbrev TGs:=List V->St->Hp->(St->Hp->Prop)->Prop
def PG(X:Cx)(target:Expr)(t:TG):Prop:=
 ∀(pins:List (Addr×Obj)) (s:Shared) (σ:St) (H:Hp) (v:V) (u:Value) (Q:St->Hp->Prop),Inv X pins σ H s->RelV v u->t v σ H Q ->
  wpAny (model X.prog X.w) X.A (assign target X.env u) (λ_ s'=>∃σ' H',Inv X pins σ' H' s'/\Q σ' H') X.xe s
def PGs(X:Cx)(ts:List Expr)(t:TGs):Prop:=
 ∀(pins:List (Addr×Obj)) (s:Shared) (σ:St) (H:Hp) (vs:List V) (us:List Value) (Q:St->Hp->Prop),Inv X pins σ H s->Vals vs us->t vs σ H Q ->
  wpAny (model X.prog X.w) X.A (assignInOrder ((assignEach ts X.env).map (·.2)) us) (λ_ s'=>∃σ' H',Inv X pins σ' H' s'/\Q σ' H') X.xe s
abbrev TSet:=V->V->V->Hp->(Hp->Prop)->Prop
def PSet(X:Cx)(t:TSet):Prop:=
 ∀(pins:List (Addr×Obj)) (s:Shared) (σ:St) (H:Hp) (o i v:V) (ov iv u:Value) (Q:Hp->Prop),Inv X pins σ H s->RelV o ov->RelV i iv->RelV v u->t o i v H Q ->
  wpAny (model X.prog X.w) X.A (setItem ov iv u) (λ_ s'=>∃H',Inv X pins σ H' s'/\Q H') X.xe s
abbrev TIp:=V->V->Hp->VK->Prop
def PIp(X:Cx)(op:Operator)(t:TIp):Prop:=
 ∀(pins:List (Addr×Obj)) (s:Shared) (σ:St) (H:Hp) (x y:V) (v u:Value) (Q:VK),Inv X pins σ H s->RelV x v->RelV y u->t x y H Q ->
  wpAny (model X.prog X.w) X.A (inplaceOp op v u) (EP X pins σ Q) X.xe s
section
variable {X:Cx}{pos:Pos}
def b9L(i:Nat):TG:=λv σ H Q=>Q (σ.set i (some v)) H
theorem b6C(hN:X.N.Nodup)(hi:X.N[i]?=some x)(hx:Loc X.env.scope x)(hf:X.fn x=true\/X.env.scope.names.lookup x=some .local:=by first | exact .inl rfl | exact .inr rfl | assumption):PG X (.Name x pos) (b9L i):=by
 intro pins s σ H v u Q I r h
 exact wpAny_assign_Name (a5r I hN hi hx r (λs' I'=>⟨_,H,I',h⟩) hf)
def gNil:TGs:=λvs σ H Q=>vs=[]/\Q σ H
def gCons(t:TG)(u:TGs):TGs:=λvs σ H Q=>∃v r,vs=v::r/\t v σ H λσ' H'=>u r σ' H' Q
theorem b6B:PGs X [] gNil:=by
 intro pins s σ H vs us Q I r h
 obtain ⟨e,h⟩:=h
 subst e
 cases r
 exact assignInOrder_nil ⟨σ,H,I,h⟩
theorem b35{e:Expr}{es:List Expr}{t:TG}{u:TGs}(h1:PG X e t)(h2:PGs X es u)
  (hs:(assignEach (e::es) X.env).map (·.2)=assign e X.env::(assignEach es X.env).map (·.2):=by rfl):PGs X (e::es) (gCons t u):=by
 intro pins s σ H vs us Q I r h
 obtain ⟨v,vr,e1,h⟩:=h
 subst e1
 cases r with
 | cons r rr =>
  rw [hs]
  refine assignInOrder_cons (thn (h1 pins s σ H _ _ _ I r h) λ_ s1 ⟨σ1,H1,I1,q1⟩=>?_)
  exact h2 pins s1 σ1 H1 _ _ Q I1 rr q1
def gTup(K:c0L)(n:Nat)(t:TGs):TG:=λv σ H Q=>∃a xs,v=.ref a/\SqT K H a xs/\xs.length=n/\t xs σ H Q
theorem b85{es:List Expr}{k:Nat}{t:TGs}{n:Nat}(hc:X.calm=true)(h:PGs X es t)
  (hn:(assignEach es X.env).length=n:=by rfl)(hst:(assignEach es X.env).findIdx? (·.1)=none:=by rfl):PG X (.Tuple es k pos) (gTup X.K n t):=by
 intro pins s σ H v u Q I r hw
 obtain ⟨a,xs,e1,hq,hl,hw⟩:=hw
 subst e1
 cases r
 obtain ⟨its,rv,ht,hz⟩:=I.tuple hq
 refine assign_Tuple_tuple (I.ok.hd hc) ht (by simp [hn,<-hl,rv.length]) hst λh' hx=>?_
 have I1:Inv X pins σ H { s with heap:=h' }:=I.kept (t':=s.toks) λb o e=>hx b o (c09 (c0W e)) e
 exact h pins _ σ H xs _ Q I1 (by simpa using rv) hw
def gSub(to ti:TE)(t:TSet):TG:=λv σ H Q=>to σ H λo H1=>ti σ H1 λi H2=>t o i v H2 λH3=>Q σ H3
theorem b86{o i:Expr}{to ti:TE}{t:TSet}(ho:PE X o to)(hi:PE X i ti)(hs:PSet X t)
  (ha:∀v,assign (.Subscript o i pos) X.env v=(do
   let ov <-holding [v] (eval o X.env)
   let iv <-holding [v,ov] (eval i X.env)
   standAt pos
   holding [v,ov,iv] (setItem ov iv v)
   release [v,ov,iv] []):=by intro _;rfl):PG X (.Subscript o i pos) (gSub to ti t):=by
 intro pins s σ H v u Q I r h
 rw [ha]
 refine c0K (c1V (thn (ho pins s σ H _ I h) λov s1 ⟨x,H1,I1,r1,q1⟩=>?_))
 refine c0K (c1V (thn (hi pins s1 σ H1 _ I1 q1) λiv s2 ⟨y,H2,I2,r2,q2⟩=>?_))
 refine c0K (c4D (c0K (c1V (thn (hs pins s2 σ H2 x y v ov iv u _ I2 r1 r2 r q2) λ_ s3 ⟨H3,I3,q3⟩=>?_))))
 exact wpAny_release ⟨σ,H3,I3,q3⟩
def tAsg(te:TE)(g:TG):TS:=λD σ H=>te σ H λx H1=>g x σ H1 D.nx
theorem b83{tg e:Expr}{te:TE}{g:TG}(he:PE X e te)(hg:PG X tg g)(hs:swapsWithSole [tg] e pos.line X.env=pure false:=by rfl)(hw:swappedStores [tg] e X.env=pure none:=by rfl)
  (h1:(assignEach [tg] X.env).map (·.2)=[assign tg X.env]:=by rfl):PS X (.Assign [tg] e pos) (tAsg te g):=by
 intro pins s σ H D I h
 refine wpAny_Assign_stores (thn (he pins s σ H _ I h) λv s1 ⟨x,H1,I1,r1,q1⟩=>?_) hs hw
 rw [h1]
 exact thn (hg pins s1 σ H1 x v _ I1 r1 q1) λ_ s2 q=>q
theorem b0l(hN:X.N.Nodup)(hi:X.N[i]?=some x)(hx:Loc X.env.scope x)(he:PE X e te)(hs:swapsWith e (some (.Name x pos')) pos.line X.env=pure false:=by rfl)(hf:X.fn x=true\/X.env.scope.names.lookup x=some .local:=by first | exact .inl rfl | exact .inr rfl | assumption):
  PS X (.Assign [.Name x pos'] e pos) (tAsg te (b9L i)):=by
 intro pins s σ H D I h
 refine wpAny_Assign_Name (thn (he pins s σ H _ I h) λv s1 ⟨y,H1,I1,r1,q1⟩=>?_) hs
 exact a5r I1 hN hi hx r1 (λs2 I2=>⟨_,H1,I2,q1⟩) hf
def tAug(i:Nat)(te:TE)(ti:TIp):TS:=λD σ H=>∃x,σ[i]?=some (some x)/\te σ H λy H1=>ti x y H1 λz H2=>D.nx (σ.set i (some z)) H2
theorem b2i(hN:X.N.Nodup)(hi:X.N[i]?=some x)(hx:Loc X.env.scope x)(he:PE X e te)(ho:PIp X op ti)(hf:X.fn x=true\/X.env.scope.names.lookup x=some .local:=by first | exact .inl rfl | exact .inr rfl | assumption):
  PS X (.AugAssign (.Name x pos') op e pos) (tAug i te ti):=by
 intro pins s σ H D I h
 obtain ⟨v,e1,h⟩:=h
 obtain ⟨m,hn,hl⟩:=I.loc
 have vis:Vis X.env.scope x:=by rcases hx with k | k;exact .inl k;exact .inr (.inl k)
 obtain ⟨u,r,l⟩:=hl i x v hi e1 vis
 refine wpAny_AugAssign_Name ?_
 have go:wpAny (model X.prog X.w) X.A (eval e X.env) (λw s₂=>wpAny (model X.prog X.w) X.A (inplaceOp op u w) (λr s₃=>wpAny (model X.prog X.w) X.A (storeName X.env x r) (λ_=>SP X pins D .next) X.xe s₃) X.xe s₂) X.xe s:=by
  refine thn (he pins s σ H _ I h) λw s1 ⟨y,H1,I1,r1,q1⟩=>?_
  refine thn (ho pins s1 σ H1 v y u w _ I1 r r1 q1) λz s2 ⟨zv,H2,I2,r2,q2⟩=>?_
  exact a5r I2 hN hi hx r2 (λs3 I3=>⟨_,H2,I3,q2⟩) hf
 rcases l with ⟨hk,hm⟩ | ⟨hk,c,hc,hcell⟩
 .exact wpAny_loadName_local I.ok.kind hk hn hm go
 .rcases hk with hk | hk
  .exact wpAny_loadName_cell I.ok.kind hk hc hcell go
  .rcases hx with k | k
   .have:X.env.scope.names.lookup x=some .free:=hk
    rw [k] at this;cases this
   .have:X.env.scope.names.lookup x=some .free:=hk
    rw [k] at this;cases this
def tAugS(to ti te:TE)(tget:V->V->Hp->VK->Prop)(tip:TIp)(tset:TSet):TS:=λD σ H=>to σ H λo H1=>ti σ H1 λi H2=>tget o i H2 λx H3=>te σ H3 λy H4=>tip x y H4 λz H5=>tset o i z H5 λH6=>D.nx σ H6
def PGet(X:Cx)(t:V->V->Hp->VK->Prop):Prop:=
 ∀(pins:List (Addr×Obj)) (s:Shared) (σ:St) (H:Hp) (o i:V) (ov iv:Value) (Q:VK),Inv X pins σ H s->RelV o ov->RelV i iv->t o i H Q ->
  wpAny (model X.prog X.w) X.A (getItem ov iv) (EP X pins σ Q) X.xe s
theorem b6x{o i e:Expr}{to ti te:TE}{tget:V->V->Hp->VK->Prop}{tip:TIp}{tset:TSet}{op:Operator}{tpos:Pos}(ho:PE X o to)(hi:PE X i ti)(hg:PGet X tget)(he:PE X e te)(hp:PIp X op tip)(hs:PSet X tset)
  (ha:∀ov iv new,augStore i ov iv new=(do holding [new,ov,iv] (setItem ov iv new);release [new,ov,iv] [];pure .next):=by intros;rfl):PS X (.AugAssign (.Subscript o i tpos) op e pos) (tAugS to ti te tget tip tset):=by
 intro pins s σ H D I h
 refine wpAny_AugAssign_SubscriptAny (thn (ho pins s σ H _ I h) λov s1 ⟨x1,H1,I1,r1,q1⟩=>?_) ha
 refine thn (hi pins s1 σ H1 _ I1 q1) λiv s2 ⟨x2,H2,I2,r2,q2⟩=>?_
 refine thn (hg pins s2 σ H2 x1 x2 ov iv _ I2 r1 r2 q2) λold s3 ⟨x3,H3,I3,r3,q3⟩=>?_
 refine thn (he pins s3 σ H3 _ I3 q3) λv s4 ⟨x4,H4,I4,r4,q4⟩=>?_
 refine thn (hp pins s4 σ H4 x3 x4 old v _ I4 r3 r4 q4) λnew s5 ⟨x5,H5,I5,r5,q5⟩=>?_
 exact thn (hs pins s5 σ H5 x1 x2 x5 ov iv new _ I5 r1 r2 r5 q5) λ_ s6 ⟨H6,I6,q6⟩=>⟨σ,H6,I6,q6⟩
def ipI(f:Int->Int->Int):TIp:=λx y H Q=>∃i j,x=.int i/\y=.int j/\Q (.int (f i j)) H
theorem b5V:PIp X .Add (ipI λi j=>i+j):=by
 intro pins s σ H x y v u Q I r1 r2 h
 obtain ⟨i,j,e1,e2,q⟩:=h
 subst e1;subst e2
 obtain ⟨t,rfl⟩:=r1
 obtain ⟨t',rfl⟩:=r2
 exact iadd_int ⟨.int _,H,I.tok _,⟨_,rfl⟩,q⟩
theorem b9E:PIp X .Sub (ipI λi j=>i-j):=by
 intro pins s σ H x y v u Q I r1 r2 h
 obtain ⟨i,j,e1,e2,q⟩:=h
 subst e1;subst e2
 obtain ⟨t,rfl⟩:=r1
 obtain ⟨t',rfl⟩:=r2
 exact isub_int ⟨.int _,H,I.tok _,⟨_,rfl⟩,q⟩
end
section
variable {X:Cx}{pos:Pos}
def b8H(c:TT)(tb:TS):TS:=λD σ H=>∃W:Nat->St->Hp->Prop,(∃m,W m σ H)/\∀m σ H,W m σ H ->
 c σ H λb H1=>if b=true then ∃N:St->Hp->Prop,(∀σ' H',N σ' H'->∃m',m'<m/\W m' σ' H')/\tb { D with nx:=N,ct:=N,bk:=D.nx } σ H1 else D.nx σ H1
theorem b31(hp:PassesOwn (model X.prog X.w) X.A X.env X.xe)(hc:PT X c tc)(hb:PSs X body tb):PS X (.While c body [] pos) (b8H tc tb):=by
 intro pins s σ H D I h
 obtain ⟨W,⟨m0,w0⟩,turn⟩:=h
 refine wpAny_While (codeAny_whileLoop (λn s'=>∃σ' H',Inv X pins σ' H' s'/\W n σ' H') ?_ m0 ⟨σ,H,I,w0⟩)
 rintro n s1 ⟨σ1,H1,I1,w1⟩
 refine c2H hp (thn (hc pins s1 σ1 H1 _ I1 (turn n σ1 H1 w1)) λb s2 ⟨H2,I2,q2⟩=>?_)
 cases b with
 | true =>
  obtain ⟨N,hN,q2⟩:=q2
  rw [if_pos rfl]
  refine c2H hp (thn (hb pins s2 σ1 H2 _ I2 q2) λf s3 q3=>?_)
  cases f with
  | next =>
   obtain ⟨σ3,H3,I3,n3⟩:=q3
   obtain ⟨m',hm,w3⟩:=hN σ3 H3 n3
   exact ⟨m',hm,σ3,H3,I3,w3⟩
  | cont =>
   obtain ⟨σ3,H3,I3,n3⟩:=q3
   obtain ⟨m',hm,w3⟩:=hN σ3 H3 n3
   exact ⟨m',hm,σ3,H3,I3,w3⟩
  | brk=>exact q3
  | ret v=>exact q3
 | false =>
  rw [if_neg c1j]
  exact c3r ⟨σ1,H2,I2,q2⟩
end
structure It where
 go:Nat->Hp->Prop
 yld:Nat->Hp->V->Hp->Prop
 stop:Nat->Hp->Prop
def FpOk(X:Cx)(pins:List (Addr×Obj))(H:Hp)(b:Addr):Prop:=
 H b=none/\b≠X.env.locals/\b∉X.fs/\(b∈X.ex\/X.s₀.heap.objs.size<=b)/\(∀x c,X.env.cells.lookup x=some c->c≠b)/\∀p∈X.pn++pins,p.1≠b
theorem Inv.fpOk{X:Cx}{pins:List (Addr×Obj)}{σ:St}{H H':Hp}{s:Shared}{b:Addr}(I:Inv X pins σ H s)(hb:s.heap.objs.size<=b)(hn:H' b=none):FpOk X pins H' b:=by
 refine ⟨hn,c3n (c1d I.lt hb),I.nofs hb,.inr (c02 I.sz hb),λx c e z=>?_,λp hp z=>?_⟩
 .obtain ⟨v,q⟩:=I.cell x c e
  exact absurd (c1d q.lt (by rw [z];exact hb)) (c16 _)
 .exact absurd (c1d (c0W (I.pin p hp).1) (by rw [z];exact hb)) (c16 _)
structure Turn(P:Program)(w:World)(K:c0L)(tg:Expr)(J:It)(fp:List Addr)(it:Addr)(tn:Nat->Heap->Prop):Prop where
 mem:it∈fp
 obj:∀i h,tn i h->∀b∈fp,∃o,h.get? b=some o/\∀v,o.data≠.cell v
 keep:∀i h h',tn i h->(∀b∈fp,∀o,h.get? b=some o->h'.get? b=some o)->tn i h'
 item:∀(X:Cx),X.prog=P->X.w=w->X.K=K->X.calm=true->∀(i:Nat) (pins:List (Addr×Obj)) (s:Shared) (σ:St) (H:Hp) (E:Value->Shared->Prop),Inv X pins σ H s->(∀b∈fp,FpOk X pins H b)->tn i s.heap->J.go i H ->
  wpAny (model P w) X.A (pyNext (.ref it)) (λr s1=>∃u,r=some u /\
   wpAny (model P w) X.A (letOwnedTupleGo tg (.ref it) u) (λ_ s2=>∃x H',Inv X pins σ H' s2/\RelV x u/\J.yld i H x H'/\tn (i+1) s2.heap/\∀b∈fp,H' b=none) E s1) E s
 done:∀(X:Cx),X.prog=P->X.w=w->X.K=K->X.calm=true->∀(i:Nat) (pins:List (Addr×Obj)) (s:Shared) (σ:St) (H:Hp) (E:Value->Shared->Prop),Inv X pins σ H s->(∀b∈fp,FpOk X pins H b)->tn i s.heap->J.stop i H ->
  wpAny (model P w) X.A (pyNext (.ref it)) (λr s1=>r=none/\Inv X pins σ H s1) E s
 self:∀(A:Around) (i:Nat) (s:Shared) (Q:Value->Shared->Prop) (E:Value->Shared->Prop),tn i s.heap->Q (.ref it) s->wpAny (model P w) A (pyIter (.ref it)) Q E s
abbrev TI:=St->Hp->(It->Hp->Prop)->Prop
def PIE(X:Cx)(pins:List (Addr×Obj))(σ:St)(tg:Expr)(R:It->Hp->Prop)(itv:Value)(s2:Shared):Prop:=
 ∃(it:Addr) (fp:List Addr) (tn:Nat->Heap->Prop) (J:It) (H':Hp),itv=.ref it/\Inv X pins σ H' s2/\Turn X.prog X.w X.K tg J fp it tn/\tn 0 s2.heap/\(∀b∈fp,FpOk X pins H' b)/\R J H'
def PI(X:Cx)(tg iter:Expr)(wi:TI):Prop:=
 ∀(pins:List (Addr×Obj)) (s:Shared) (σ:St) (H:Hp) (R:It->Hp->Prop),Inv X pins σ H s->wi σ H R ->
  wpAny (model X.prog X.w) X.A (eval iter X.env) (λv s1=>wpAny (model X.prog X.w) X.A (pyIter v) (PIE X pins σ tg R) X.xe s1) X.xe s
theorem b4G(ho:s.heap.get? it=some o)(hc:o.cls=.type n)(hd:o.data=.fields vs)
  (hn:["enumerate","zip","dict_itemiterator","dict_reverseitemiterator","odict_iterator","itertools.zip_longest","itertools.pairwise"].contains n=false)(hQ:Q () s):wpAny M A (letOwnedTupleGo tg (.ref it) u) Q E s:=by
 unfold letOwnedTupleGo
 cases tg<;>first
  | exact c0X hQ
  | (cases u<;>first
    | exact c0X hQ
    | (refine c0K (wpAny_load ho ?_)
       rw [hc,hd]
       show wpAny M A (if (["enumerate","zip","dict_itemiterator","dict_reverseitemiterator","odict_iterator","itertools.zip_longest","itertools.pairwise"].contains n&&vs[0]?==some (rawInt _))=true then _ else _) Q E s
       rw [if_neg (by intro h;rw [hn,c4s] at h;cases h)]
       exact c0X hQ))
def Itl(K:c0L)(a:Addr):It:=
 ⟨λi H=>∃xs x,SqL K H a xs/\xs[i]?=some x,λi H x H'=>H'=H/\∀xs,SqL K H a xs->xs[i]?=some x,λi H=>∃xs,SqL K H a xs/\xs.length<=i⟩
def Itt(K:c0L)(a:Addr):It:=
 ⟨λi H=>∃xs x,SqT K H a xs/\xs[i]?=some x,λi H x H'=>H'=H/\∀xs,SqT K H a xs->xs[i]?=some x,λi H=>∃xs,SqT K H a xs/\xs.length<=i⟩
def Itr(lo:Int)(n:Nat):It:=⟨λi _=>i<n,λi H x H'=>H'=H/\x=.int (lo+i),λi _=>n<=i⟩
theorem b1J{P:Program}{w:World}{K:c0L}{tg:Expr}(a it:Addr):Turn P w K tg (Itl K a) [it] it (λi h=>h.IsListIter it a i) where
 mem:=by simp
 obj:=λi h st b hb=>by
  have e:b=it:=by simpa using hb
  subst e
  obtain ⟨o,e,c,d⟩:=st
  exact ⟨o,e,λv z=>by rw [d] at z;cases z⟩
 keep:=λi h h' st k=>st.at λo e=>k it (by simp) o e
 item:=by
  intro X hP hw hK hc i pins s σ H E I hf st hg
  subst hP hw hK
  obtain ⟨xs,x,hq,hx⟩:=hg
  obtain ⟨its,rv,p,hz⟩:=I.list hq
  obtain ⟨u,hu,ru⟩:=rv.get hx
  obtain ⟨f0,f1,f2,f3,f4,f5⟩:=hf it (by simp)
  refine wpAny_pyNext_list_item st p.isList (x:=u) (by simpa using hu) λh' st' sb=>?_
  have I1:Inv X pins σ H { s with heap:=h' }:=I.turned (t':=s.toks) (λb o hb e=>(sb.2 b hb).trans e) f0 f1 f3 f4 f5
  obtain ⟨o,e,c,d⟩:=id st'
  exact ⟨u,rfl,b4G (s:={ s with heap:=h' }) e c d (by decide) ⟨x,H,I1,ru,⟨rfl,λys hy=>by rw [I.list_inj hy hq];exact hx⟩,st',λb hb=>(hf b hb).1⟩⟩
 done:=by
  intro X hP hw hK hc i pins s σ H E I hf st hg
  subst hP hw hK
  obtain ⟨xs,hq,hx⟩:=hg
  obtain ⟨its,rv,p,hz⟩:=I.list hq
  obtain ⟨f0,f1,f2,f3,f4,f5⟩:=hf it (by simp)
  have hl:=rv.length
  exact wpAny_pyNext_list_end (I.ok.hd hc) st p.isList (by simp;omega) λh' eb=>⟨rfl,I.turned (t':=s.toks) (λb o hb e=>eb b o hb e) f0 f1 f3 f4 f5⟩
 self:=λ_ _ _ _ _ st h=>wpAny_pyIter_listiter st h
theorem b04{P:Program}{w:World}{K:c0L}{tg:Expr}(a it:Addr):Turn P w K tg (Itt K a) [it] it (λi h=>h.IsTupleIter it a i) where
 mem:=by simp
 obj:=λi h st b hb=>by
  have e:b=it:=by simpa using hb
  subst e
  obtain ⟨o,e,c,d⟩:=st
  exact ⟨o,e,λv z=>by rw [d] at z;cases z⟩
 keep:=λi h h' st k=>st.at λo e=>k it (by simp) o e
 item:=by
  intro X hP hw hK hc i pins s σ H E I hf st hg
  subst hP hw hK
  obtain ⟨xs,x,hq,hx⟩:=hg
  obtain ⟨its,rv,p,hz⟩:=I.tuple hq
  obtain ⟨u,hu,ru⟩:=rv.get hx
  obtain ⟨f0,f1,f2,f3,f4,f5⟩:=hf it (by simp)
  refine wpAny_pyNext_tuple_item st (show s.heap.IsTuple a its.toArray from p) (x:=u) (by simpa using hu) λh' st' sb=>?_
  have I1:Inv X pins σ H { s with heap:=h' }:=I.turned (t':=s.toks) (λb o hb e=>(sb.2 b hb).trans e) f0 f1 f3 f4 f5
  obtain ⟨o,e,c,d⟩:=id st'
  exact ⟨u,rfl,b4G (s:={ s with heap:=h' }) e c d (by decide) ⟨x,H,I1,ru,⟨rfl,λys hy=>by rw [I.tuple_inj hy hq];exact hx⟩,st',λb hb=>(hf b hb).1⟩⟩
 done:=by
  intro X hP hw hK hc i pins s σ H E I hf st hg
  subst hP hw hK
  obtain ⟨xs,hq,hx⟩:=hg
  obtain ⟨its,rv,p,hz⟩:=I.tuple hq
  obtain ⟨f0,f1,f2,f3,f4,f5⟩:=hf it (by simp)
  have hl:=rv.length
  exact wpAny_pyNext_tuple_end (I.ok.hd hc) st (show s.heap.IsTuple a its.toArray from p) (by simp;omega) λh' eb=>⟨rfl,I.turned (t':=s.toks) (λb o hb e=>eb b o hb e) f0 f1 f3 f4 f5⟩
 self:=λ_ _ _ _ _ st h=>wpAny_pyIter_tupleiter st h
theorem b05{P:Program}{w:World}{K:c0L}{tg:Expr}(it:Addr)(lo:Int)(n:Nat):Turn P w K tg (Itr lo n) [it] it (λi h=>IsRangeIter h it (lo+(i:Nat)*1) ((n:Int)-(i:Nat)) 1) where
 mem:=by simp
 obj:=λi h st b hb=>by
  have e:b=it:=by simpa using hb
  subst e
  exact ⟨_,st,λv z=>by
   have z':c5r _=c41 v:=z
   cases z'⟩
 keep:=λi h h' st k=>k it (by simp) _ st
 item:=by
  intro X hP hw hK hc i pins s σ H E I hf st hg
  subst hP hw hK
  obtain ⟨f0,f1,f2,f3,f4,f5⟩:=hf it (by simp)
  have W:=Walks.range (prog:=X.prog) (w:=X.w) (I.ok.hd hc) it lo 1 n
  refine W.item i s _ _ hg st λv h' tk hv st' kk=>?_
  obtain ⟨t,rfl⟩:=hv
  have I1:Inv X pins σ H { s with heap:=h',toks:=tk }:=I.turned (λb o hb e=>kk b o (by simpa using hb) e) f0 f1 f3 f4 f5
  refine ⟨_,rfl,b4G (s:={ s with heap:=h',toks:=tk }) (n:="range_iterator") st' rfl rfl (by decide) ⟨.int (lo+i),H,I1,⟨t,?_⟩,⟨rfl,rfl⟩,st',λb hb=>(hf b hb).1⟩⟩
  rw [c3C]
 done:=by
  intro X hP hw hK hc i pins s σ H E I hf st hg
  subst hP hw hK
  obtain ⟨f0,f1,f2,f3,f4,f5⟩:=hf it (by simp)
  exact wpAny_pyNext_range_end (I.ok.hd hc) st (by have:n<=i:=hg;omega) λh' eb=>⟨rfl,I.turned (t':=s.toks) (λb o hb e=>eb b o hb e) f0 f1 f3 f4 f5⟩
 self:=λ_ _ _ _ _ st h=>wpAny_pyIter_rangeiter st h
end L2
namespace L2
open PySem PySem.Spec PyProof.Rows
section
variable {X:Cx}{tg:Expr}
def tFor(wi:TI)(g:TG)(tb:TS):TS:=λD σ H=>wi σ H λJ H1=>∃W:Nat->Nat->St->Hp->Prop,(∃m,W 0 m σ H1)/\∀i m σ H,W i m σ H ->
 (J.stop i H/\D.nx σ H)\/(J.go i H/\∃N:St->Hp->Prop,(∀σ' H',N σ' H'->∃m',m'<m/\W (i+1) m' σ' H')/\∀x H',J.yld i H x H'->g x σ H' λσ2 H2=>tb { D with nx:=N,ct:=N,bk:=D.nx } σ2 H2)
def a4v(fp:List Addr)(h:Heap):List (Addr×Obj):=fp.filterMap λb=>(h.get? b).map λo=>(b,o)
theorem a3e(hb:b∈fp)(e:h.get? b=some o):(b,o)∈a4v fp h:=c5B.mpr ⟨b,hb,by rw [e];rfl⟩
theorem a5X(hp:p∈a4v fp h):p.1∈fp/\h.get? p.1=some p.2:=by
 obtain ⟨b,hb,e⟩:=c5B.mp hp
 cases q:h.get? b with
 | none=>rw [q] at e;cases e
 | some o =>
  rw [q] at e
  have e':(b,o)=p:=c0U e
  subst e'
  exact ⟨hb,q⟩
theorem Inv.pinned{pins:List (Addr×Obj)}{σ:St}{H:Hp}{s:Shared}{fp:List Addr}(I:Inv X pins σ H s)(hf:∀b∈fp,FpOk X pins H b)(ho:∀b∈fp,∃o,s.heap.get? b=some o/\∀v,o.data≠.cell v):Inv X (pins++a4v fp s.heap) σ H s:=
 I.pins_of λp hp=>(c03.mp hp).elim (λz=>I.pin p (c04 _ z)) λz=>by
  obtain ⟨hb,e⟩:=a5X z
  obtain ⟨f0,f1,f2,_⟩:=hf p.1 hb
  obtain ⟨o,e',d⟩:=ho p.1 hb
  rw [e] at e';cases e'
  exact ⟨e,f0,f1,f2,d⟩
theorem Inv.unpinned{pins pl:List (Addr×Obj)}{σ:St}{H:Hp}{s:Shared}(I:Inv X (pins++pl) σ H s):Inv X pins σ H s:=I.pins_of λp hp=>I.pin p (c04 _ (c1a _ hp))
theorem b82(hp:PassesOwn (model X.prog X.w) X.A X.env X.xe)(hc:X.calm=true)(hi:PI X tg iter wi)(hg:PG X tg g)(hb:PSs X body tb)
  (hs:∀x,foldedSetIterable iter X.env x=pure x:=by intro _;rfl):PS X (.For tg iter body [] pos) (tFor wi g tb):=by
 intro pins s σ H D I h
 refine wpAny_For (thn (hi pins s σ H _ I h) λv s1 h1=>thn h1 λitv s2 h2=>?_) hs
 obtain ⟨it,fp,tn,J,H2,e,I2,T,st2,f2,W,⟨m0,w0⟩,turn⟩:=h2
 subst e
 have stat:∀{H':Hp},(∀b∈fp,H' b=none)->∀b∈fp,FpOk X pins H' b:=λhn b hb=>⟨hn b hb,(f2 b hb).2⟩
 refine codeAny_forLoop_any (λn s'=>∃i σ' H',Inv X pins σ' H' s'/\tn i s'.heap/\(∀b∈fp,H' b=none)/\W i n σ' H') ?_ m0 ⟨0,σ,H2,I2,st2,λb hb=>(f2 b hb).1,w0⟩
 rintro n s3 ⟨i,σ3,H3,I3,st3,fr3,w3⟩
 rcases turn i n σ3 H3 w3 with ⟨stop,qn⟩ | ⟨go,N,hN,step⟩
 .refine c2H hp (thn (T.done X rfl rfl rfl hc i pins s3 σ3 H3 X.xe I3 (stat fr3) st3 stop) λr s4 ⟨hr,I4⟩=>?_)
  subst hr
  exact c3r ⟨σ3,H3,I4,qn⟩
 .refine c2H hp (thn (T.item X rfl rfl rfl hc i pins s3 σ3 H3 X.xe I3 (stat fr3) st3 go) λr s4 ⟨u,hr,h4⟩=>?_)
  subst hr
  refine c2H hp (thn h4 λ_ s5 ⟨x,H5,I5,r5,y5,st5,fr5⟩=>?_)
  have I5':=I5.pinned (stat fr5) (T.obj _ _ st5)
  refine c2H hp (thn (hg _ s5 σ3 H5 x u _ I5' r5 (step x H5 y5)) λ_ s6 ⟨σ6,H6,I6,q6⟩=>?_)
  refine c2H hp (thn (hb _ s6 σ6 H6 _ I6 q6) λf s7 q7=>?_)
  have again:∀{σ7:St} {H7:Hp},Inv X (pins++a4v fp s5.heap) σ7 H7 s7->N σ7 H7->∃m,m<n/\∃i σ' H',Inv X pins σ' H' s7/\tn i s7.heap/\(∀b∈fp,H' b=none)/\W i m σ' H':=λ{σ7 H7} I7 n7=>by
   obtain ⟨m',hm,w7⟩:=hN σ7 H7 n7
   refine ⟨m',hm,i+1,σ7,H7,I7.unpinned,T.keep _ _ _ st5 λb hb o e=>(I7.pin (b,o) (c04 _ (c04 _ (a3e hb e)))).1,λb hb=>?_,w7⟩
   obtain ⟨o,e,d⟩:=T.obj _ _ st5 b hb
   exact (I7.pin (b,o) (c04 _ (c04 _ (a3e hb e)))).2.1
  cases f with
  | next=>obtain ⟨σ7,H7,I7,n7⟩:=q7;exact again I7 n7
  | cont=>obtain ⟨σ7,H7,I7,n7⟩:=q7;exact again I7 n7
  | brk=>obtain ⟨σ7,H7,I7,q7⟩:=q7;exact ⟨σ7,H7,I7.unpinned,q7⟩
  | ret v=>obtain ⟨x7,σ7,H7,I7,r7,q7⟩:=q7;exact ⟨x7,σ7,H7,I7.unpinned,r7,q7⟩
end
theorem b4J{K:c0L}{a:Addr}{xs:List V}{g:TG}{tb:TS}{D:Ends}{σ:St}{H:Hp}(Pv:Nat->St->Hp->Prop)(h0:Pv 0 σ H)(hl:∀i σ H,i<=xs.length->Pv i σ H->SqL K H a xs)
  (hs:∀i x σ H,xs[i]?=some x->Pv i σ H->g x σ H λσ2 H2=>tb { D with nx:=Pv (i+1),ct:=Pv (i+1),bk:=D.nx } σ2 H2)(hd:∀σ H,Pv xs.length σ H->D.nx σ H):
  ∃W:Nat->Nat->St->Hp->Prop,(∃m,W 0 m σ H)/\∀i m σ H,W i m σ H ->
   ((Itl K a).stop i H/\D.nx σ H)\/((Itl K a).go i H/\∃N:St->Hp->Prop,(∀σ' H',N σ' H'->∃m',m'<m/\W (i+1) m' σ' H')/\∀x H',(Itl K a).yld i H x H'->g x σ H' λσ2 H2=>tb { D with nx:=N,ct:=N,bk:=D.nx } σ2 H2):=by
 refine ⟨λi m σ H=>m=xs.length-i/\i<=xs.length/\Pv i σ H,⟨xs.length,by simp,c2T _,h0⟩,?_⟩
 rintro i m σ H ⟨rfl,hi,p⟩
 have q:=hl i σ H hi p
 by_cases hlt:i<xs.length
 .refine .inr ⟨⟨xs,xs[i],q,by simp [hlt]⟩,Pv (i+1),λσ' H' p'=>⟨xs.length-(i+1),by omega,rfl,hlt,p'⟩,λx H' y=>?_⟩
  obtain ⟨e,y⟩:=y
  subst e
  exact hs i x σ _ (y xs q) p
 .have e:i=xs.length:=by omega
  subst e
  exact .inl ⟨⟨xs,q,c0S _⟩,hd σ H p⟩
theorem b7d{K:c0L}{a:Addr}{xs:List V}{g:TG}{tb:TS}{D:Ends}{σ:St}{H:Hp}(Pv:Nat->St->Hp->Prop)(h0:Pv 0 σ H)(hl:∀i σ H,i<=xs.length->Pv i σ H->SqT K H a xs)
  (hs:∀i x σ H,xs[i]?=some x->Pv i σ H->g x σ H λσ2 H2=>tb { D with nx:=Pv (i+1),ct:=Pv (i+1),bk:=D.nx } σ2 H2)(hd:∀σ H,Pv xs.length σ H->D.nx σ H):
  ∃W:Nat->Nat->St->Hp->Prop,(∃m,W 0 m σ H)/\∀i m σ H,W i m σ H ->
   ((Itt K a).stop i H/\D.nx σ H)\/((Itt K a).go i H/\∃N:St->Hp->Prop,(∀σ' H',N σ' H'->∃m',m'<m/\W (i+1) m' σ' H')/\∀x H',(Itt K a).yld i H x H'->g x σ H' λσ2 H2=>tb { D with nx:=N,ct:=N,bk:=D.nx } σ2 H2):=by
 refine ⟨λi m σ H=>m=xs.length-i/\i<=xs.length/\Pv i σ H,⟨xs.length,by simp,c2T _,h0⟩,?_⟩
 rintro i m σ H ⟨rfl,hi,p⟩
 have q:=hl i σ H hi p
 by_cases hlt:i<xs.length
 .refine .inr ⟨⟨xs,xs[i],q,by simp [hlt]⟩,Pv (i+1),λσ' H' p'=>⟨xs.length-(i+1),by omega,rfl,hlt,p'⟩,λx H' y=>?_⟩
  obtain ⟨e,y⟩:=y
  subst e
  exact hs i x σ _ (y xs q) p
 .have e:i=xs.length:=by omega
  subst e
  exact .inl ⟨⟨xs,q,c0S _⟩,hd σ H p⟩
end L2
namespace L2
open PySem PySem.Spec PyProof.Rows
abbrev R2:=V->V->Hp->VK->Prop
def OpR(X:Cx)(f:Value->Value->Sem Value)(r:R2):Prop:=
 ∀(pins:List (Addr×Obj)) (s:Shared) (σ:St) (H:Hp) (x y:V) (v u:Value) (Q:VK),Inv X pins σ H s->RelV x v->RelV y u->r x y H Q ->
  wpAny (model X.prog X.w) X.A (f v u) (EP X pins σ Q) X.xe s
def UnR(X:Cx)(f:Value->Sem Value)(r:V->Hp->VK->Prop):Prop:=
 ∀(pins:List (Addr×Obj)) (s:Shared) (σ:St) (H:Hp) (x:V) (v:Value) (Q:VK),Inv X pins σ H s->RelV x v->r x H Q ->
  wpAny (model X.prog X.w) X.A (f v) (EP X pins σ Q) X.xe s
def CallR(X:Cx)(f:Value)(r:List V->Hp->VK->Prop):Prop:=
 ∀(pins:List (Addr×Obj)) (s:Shared) (σ:St) (H:Hp) (xs:List V) (us:List Value) (Q:VK),Inv X pins σ H s->Vals xs us->r xs H Q ->
  wpAny (model X.prog X.w) X.A (call f us) (EP X pins σ Q) X.xe s
def TruR(X:Cx)(r:V->Hp->(Bool->Hp->Prop)->Prop):Prop:=
 ∀(pins:List (Addr×Obj)) (s:Shared) (σ:St) (H:Hp) (x:V) (v:Value) (Q:Bool->Hp->Prop),Inv X pins σ H s->RelV x v->r x H Q ->
  wpAny (model X.prog X.w) X.A (truthy v) (TP X pins σ Q) X.xe s
def tOp(r:R2)(ta tb:TE):TE:=λσ H Q=>ta σ H λx H1=>tb σ H1 λy H2=>r x y H2 Q
def tUn(r:V->Hp->VK->Prop)(ta:TE):TE:=λσ H Q=>ta σ H λx H1=>r x H1 Q
def rI(C:Int->Int->Prop)(g:Int->Int->V):R2:=λx y H Q=>∃i j,x=.int i/\y=.int j/\C i j/\Q (g i j) H
def rI0(g:Int->Int->V):R2:=λx y H Q=>∃i j,x=.int i/\y=.int j/\Q (g i j) H
def rU(g:Int->V):V->Hp->VK->Prop:=λx H Q=>∃i,x=.int i/\Q (g i) H
section
variable {X:Cx}{a b c:Expr}{ta tb tc:TE}{pos:Pos}
theorem binT(ha:PE X a ta)(hb:PE X b tb){pins:List (Addr×Obj)}{s:Shared}{σ:St}{H:Hp}{R:V->V->Hp->Prop}(I:Inv X pins σ H s)
  (h:ta σ H λx H1=>tb σ H1 λy H2=>R x y H2){Q:Value->Shared->Prop}{f:Value->Value->Sem Value}
  (hf:∀v u s2 x y H2,Inv X pins σ H2 s2->RelV x v->RelV y u->R x y H2->wpAny (model X.prog X.w) X.A (f v u) Q X.xe s2):
  wpAny (model X.prog X.w) X.A (eval a X.env) (λv s₁=>wpAny (model X.prog X.w) X.A (eval b X.env) (λu s₂=>wpAny (model X.prog X.w) X.A (f v u) Q X.xe s₂) X.xe s₁) X.xe s:=by
 refine thn (ha pins s σ H _ I h) λv s1 ⟨x,H1,I1,r1,q1⟩=>?_
 refine thn (hb pins s1 σ H1 _ I1 q1) λu s2 ⟨y,H2,I2,r2,q2⟩=>?_
 exact hf v u s2 x y H2 I2 r1 r2 q2
theorem pe_op(ho:OpR X (binaryOp op) r)(ha:PE X a ta)(hb:PE X b tb):PE X (.BinOp a op b pos) (tOp r ta tb):=by
 intro pins s σ H Q I h
 exact wpAny_BinOp (binT ha hb I h λv u s2 x y H2 I2 rx ry q=>ho pins s2 σ H2 x y v u Q I2 rx ry q)
theorem pe_un(ho:UnR X (unaryOp op) r)(ha:PE X a ta):PE X (.UnaryOp op a pos) (tUn r ta):=by
 intro pins s σ H Q I h
 exact UnaryOp_ (thn (ha pins s σ H _ I h) λv s1 ⟨x,H1,I1,r1,q1⟩=>ho pins s1 σ H1 x v Q I1 r1 q1)
theorem opI{f:Value->Value->Sem Value}{C:Int->Int->Prop}{g:Int->Int->Int}
  (rule:∀(i j:Int) (t u:Tok) (s:Shared) (Q:Value->Shared->Prop) (E:Value->Shared->Prop),C i j->Q (.int (g i j) s.toks) { s with toks:=s.toks+1 }->wpAny (model X.prog X.w) X.A (f (.int i t) (.int j u)) Q E s):
  OpR X f (rI C λi j=>.int (g i j)):=by
 intro pins s σ H x y v u Q I rx ry h
 obtain ⟨i,j,rfl,rfl,hc,q⟩:=h
 obtain ⟨t,rfl⟩:=rx
 obtain ⟨t',rfl⟩:=ry
 exact rule i j t t' s _ _ hc ⟨.int (g i j),H,I.tok _,⟨_,rfl⟩,q⟩
theorem opI0{f:Value->Value->Sem Value}{g:Int->Int->Int}
  (rule:∀(i j:Int) (t u:Tok) (s:Shared) (Q:Value->Shared->Prop) (E:Value->Shared->Prop),Q (.int (g i j) s.toks) { s with toks:=s.toks+1 }->wpAny (model X.prog X.w) X.A (f (.int i t) (.int j u)) Q E s):
  OpR X f (rI0 λi j=>.int (g i j)):=by
 intro pins s σ H x y v u Q I rx ry h
 obtain ⟨i,j,rfl,rfl,q⟩:=h
 obtain ⟨t,rfl⟩:=rx
 obtain ⟨t',rfl⟩:=ry
 exact rule i j t t' s _ _ ⟨.int (g i j),H,I.tok _,⟨_,rfl⟩,q⟩
theorem opB0{f:Value->Value->Sem Value}{g:Int->Int->Bool}
  (rule:∀(i j:Int) (t u:Tok) (s:Shared) (Q:Value->Shared->Prop) (E:Value->Shared->Prop),Q (.bool (g i j)) s->wpAny (model X.prog X.w) X.A (f (.int i t) (.int j u)) Q E s):
  OpR X f (rI0 λi j=>.bl (g i j)):=by
 intro pins s σ H x y v u Q I rx ry h
 obtain ⟨i,j,rfl,rfl,q⟩:=h
 obtain ⟨t,rfl⟩:=rx
 obtain ⟨t',rfl⟩:=ry
 exact rule i j t t' s _ _ ⟨.bl (g i j),H,I,rfl,q⟩
def CMul(i j:Int):Prop:=(-(2^64)<i/\i<2^64)\/(-(2^64)<j/\j<2^64)
theorem CMul.ok(h:CMul i j):IntMulOk i j:=by
 rcases h with ⟨h1,h2⟩ | ⟨h1,h2⟩
 .exact .of_left (c4E h1 h2)
 .exact .of_right (c4E h1 h2)
theorem op_add:OpR X (binaryOp .Add) (rI0 λi j=>.int (i+j)):=opI0 λ_ _ _ _ _ _ _ q=>add_int q
theorem b65:OpR X (inplaceOp .Mult) (rI CMul λi j=>.int (i*j)):=opI λ_ _ _ _ _ _ _ hc q=>imul_int q hc.ok
theorem unI{f:Value->Sem Value}{g:Int->Int}
  (rule:∀(i:Int) (t:Tok) (s:Shared) (Q:Value->Shared->Prop) (E:Value->Shared->Prop),Q (.int (g i) s.toks) { s with toks:=s.toks+1 }->wpAny (model X.prog X.w) X.A (f (.int i t)) Q E s):
  UnR X f (rU λi=>.int (g i)):=by
 intro pins s σ H x v Q I rx h
 obtain ⟨i,rfl,q⟩:=h
 obtain ⟨t,rfl⟩:=rx
 exact rule i t s _ _ ⟨.int (g i),H,I.tok _,⟨_,rfl⟩,q⟩
theorem b8E:UnR X (unaryOp .USub) (rU λi=>.int (-i)):=unI λ_ _ _ _ _ q=>neg_int q
end
section
variable {X:Cx}{a b c:Expr}{ta tb tc:TE}{pos:Pos}
theorem b50{pins:List (Addr×Obj)}{σ:St}{H:Hp}{s:Shared}{Q:VK}{k k':Bool}(I:Inv X pins σ H s)(q:Q (.bl k) H)(e:k=k'):EP X pins σ Q (.bool k') s:=by
 subst e
 exact ⟨.bl k,H,I,rfl,q⟩
theorem op_lt:OpR X (compareOp .Lt) (rI0 λi j=>.bl (decide (i<j))):=opB0 λ_ _ _ _ _ _ _ q=>lt_int q
theorem op_le:OpR X (compareOp .LtE) (rI0 λi j=>.bl (decide (i<=j))):=opB0 λ_ _ _ _ _ _ _ q=>le_int q
theorem op_gt:OpR X (compareOp .Gt) (rI0 λi j=>.bl (decide (j<i))):=opB0 λ_ _ _ _ _ _ _ q=>gt_int q
theorem op_ge:OpR X (compareOp .GtE) (rI0 λi j=>.bl (decide (j<=i))):=opB0 λ_ _ _ _ _ _ _ q=>ge_int q
theorem b9k:OpR X (compareOp .Is) (λx y H Q=>y=.non/\Q (.bl (decide (x=.non))) H):=by
 intro pins s σ H x y v u Q I rx ry h
 obtain ⟨rfl,q⟩:=h
 cases ry
 refine is_none_gen (b50 I q ?_)
 cases x<;>first
  | (cases rx;rfl)
  | (obtain ⟨t,rfl⟩:=rx;rfl)
theorem b6I:OpR X (compareOp .IsNot) (λx y H Q=>y=.non/\Q (.bl (!decide (x=.non))) H):=by
 intro pins s σ H x y v u Q I rx ry h
 obtain ⟨rfl,q⟩:=h
 cases ry
 refine isnot_none_gen (b50 I q ?_)
 cases x<;>first
  | (cases rx;rfl)
  | (obtain ⟨t,rfl⟩:=rx;rfl)
theorem OpR.or(h:OpR X f r)(h':OpR X f r'):OpR X f (λx y H Q=>r x y H Q\/r' x y H Q):=by
 intro pins s σ H x y v u Q I rx ry q
 rcases q with q | q
 .exact h pins s σ H x y v u Q I rx ry q
 .exact h' pins s σ H x y v u Q I rx ry q
theorem b5N(b:Expr)(h:op≠.In:=by decide)(h2:op≠.NotIn:=by decide):behindInMarks op b=false:=by
 have e1:(op==CmpOp.In)=false:=by cases op<;>first | rfl | exact absurd rfl h
 have e2:(op==CmpOp.NotIn)=false:=by cases op<;>first | rfl | exact absurd rfl h2
 cases b<;>simp [behindInMarks,e1,e2]
theorem b6E(ho:OpR X (compareOp op) r)(ha:PE X a ta)(hb:PE X b tb)(hm:behindInMarks op b=false):PE X (.Compare a [op] [b] pos) (tOp r ta tb):=by
 intro pins s σ H Q I h
 exact wpAny_Compare1 (binT ha hb I h λv u s2 x y H2 I2 rx ry q=>ho pins s2 σ H2 x y v u Q I2 rx ry q) hm
def tTest(t:TE):TT:=λσ H Q=>t σ H λx H'=>∃k,x=.bl k/\Q k H'
theorem b6v(ho:OpR X (compareOp op) r)(ha:PE X a ta)(hb:PE X b tb)(hm:behindInMarks op b=false):PT X (.Compare a [op] [b] pos) (tTest (tOp r ta tb)):=by
 intro pins s σ H Q I h
 refine wpAny_isTrue_Compare1 (thn (ha pins s σ H _ I h) λv s1 ⟨x,H1,I1,r1,q1⟩=>thn (hb pins s1 σ H1 _ I1 q1) λu s2 ⟨y,H2,I2,r2,q2⟩ =>
  thn (ho pins s2 σ H2 x y v u _ I2 r1 r2 q2) λc s3 ⟨z,H3,I3,r3,k,e,q3⟩=>?_) hm
 subst e
 cases r3
 exact c2G ⟨H3,I3,q3⟩
def b8K(r r':R2)(ta tb tc:TE):TE:=λσ H Q=>ta σ H λx H1=>tb σ H1 λy H2=>r x y H2 λz H3=>∃k,z=.bl k /\
 (if k=true then tc σ H3 λw' H4=>r' y w' H4 Q else Q (.bl false) H3)
theorem b4a(ho:OpR X (compareOp op) r)(ho':OpR X (compareOp op') r')(ha:PE X a ta)(hb:PE X b tb)(hc:PE X c tc)
  (hm:lastMarks [op,op'] [b,c]=false:=by with_unfolding_all rfl):PE X (.Compare a [op,op'] [b,c] pos) (b8K r r' ta tb tc):=by
 intro pins s σ H Q I h
 refine Compare_chain (thn (ha pins s σ H _ I h) λv s1 ⟨x,H1,I1,r1,q1⟩=>chain_link (thn (hb pins s1 σ H1 _ I1 q1) λu s2 ⟨y,H2,I2,r2,q2⟩ =>
  thn (ho pins s2 σ H2 x y v u _ I2 r1 r2 q2) λd s3 ⟨z,H3,I3,r3,k,e,q3⟩=>?_)) hm
 subst e
 cases r3
 refine c2G ?_
 cases k with
 | false=>exact ite_ff ⟨.bl false,H3,I3,rfl,q3⟩
 | true=>exact ite_tt (chain_last (thn (hc pins s3 σ H3 _ I3 q3) λw' s4 ⟨z',H4,I4,r4,q4⟩=>ho' pins s4 σ H4 y z' u w' Q I4 r2 r4 q4))
def TruV(K:c0L)(x:V)(H:Hp)(k:Bool):Prop:=
 match x with
 | .non=>k=false
 | .bl b=>k=b
 | .int i=>k=(i != 0)
 | .str y=>y.length<=sizeLine/\k=((y.length:Int) != 0)
 | .byt y=>y.size<=sizeLine/\k=((y.size:Int) != 0)
 | .ref p=>(∃xs,SqL K H p xs/\k=!xs.isEmpty)\/(∃xs,SqT K H p xs/\k=!xs.isEmpty)\/∃kvs,H p=some (.dK kvs)/\k=!kvs.isEmpty
 | _=>False
theorem b1t{κ:Type}{kvs:List (κ×V)}{vs:List (κ×Value)}(r:KV kvs vs):(!vs.isEmpty)=!kvs.isEmpty:=by
 cases r<;>rfl
theorem a6T(r:Vals xs its):(!its.toArray.isEmpty)=!xs.isEmpty:=by
 cases r<;>simp
theorem a54:(sizeLine:Nat)<2^63:=by rw [c1G];decide
theorem b8G:TruR X (λx H Q=>∃k,TruV X.K x H k/\Q k H):=by
 intro pins s σ H x v Q I rx h
 obtain ⟨k,e,q⟩:=h
 have hl:=a54
 have hs:sizeLine=16777216:=c1G
 cases x with
 | non =>
  cases rx
  have e':k=false:=e
  subst e'
  exact truthy_none ⟨H,I,q⟩
 | bl b =>
  cases rx
  have e':k=b:=e
  subst e'
  exact c2G ⟨H,I,q⟩
 | int i =>
  obtain ⟨t,rfl⟩:=rx
  have e':k=(i != 0):=e
  subst e'
  exact PySem.P.truthy_int ⟨H,I,q⟩
 | str y =>
  obtain ⟨t,rfl⟩:=rx
  obtain ⟨hy,e'⟩:y.length<=sizeLine/\k=((y.length:Int) != 0):=e
  subst e'
  exact PySem.P.truthy_str (by omega) ⟨H,I.tok _,q⟩
 | byt y =>
  obtain ⟨t,rfl⟩:=rx
  obtain ⟨hy,e'⟩:y.size<=sizeLine/\k=((y.size:Int) != 0):=e
  subst e'
  exact PySem.W.truthy_bytes (c02 ‹_› (by decide)) ⟨H,I.tok _,q⟩
 | ref p =>
  cases rx
  have e':(∃xs,SqL X.K H p xs/\k=!xs.isEmpty)\/(∃xs,SqT X.K H p xs/\k=!xs.isEmpty)\/∃kvs,H p=some (.dK kvs)/\k=!kvs.isEmpty:=e
  rcases e' with ⟨xs,hx,e'⟩ | ⟨xs,hx,e'⟩ | ⟨kvs,hx,e'⟩
  .subst e'
   obtain ⟨its,r,pl,hz⟩:=I.list hx
   have hlen:=r.length
   exact wpAny_truthy_list pl.isList (by simp only [c00];omega) ⟨H,I.tok _,by rw [a6T r];exact q⟩
  .subst e'
   obtain ⟨its,r,pl,hz⟩:=I.tuple hx
   have hlen:=r.length
   exact truthy_tuple pl (by simp only [c00];omega) ⟨H,I.tok _,by rw [a6T r];exact q⟩
  .subst e'
   obtain ⟨hz,hS,vs,r,m⟩:kvs.length<=sizeLine/\(p==sysModules)=false/\∃vs,KV kvs vs/\s.heap.DictOf (a9v X.prog X.w) p vs:=I.hok p _ hx
   have hlen:kvs.length=vs.length:=Paired.length r
   exact wpAny_truthy_dict hS m (by omega) ⟨H,I.tok _,by rw [b1t r];exact q⟩
 | _=>exact (show False from e).elim
theorem b0j(ha:PE X a ta)(he:∀whole,isTrue a X.env whole=(do let v <-whole;standAt a.pos;holding [v] (truthy v))):
  PT X a (λσ H Q=>ta σ H λx H'=>∃k,TruV X.K x H' k/\Q k H'):=by
 intro pins s σ H Q I h
 exact isTrue_plain (thn (ha pins s σ H _ I h) λv s1 ⟨x,H1,I1,r1,q1⟩=>b8G pins s1 σ H1 x v Q I1 r1 q1) (he _)
theorem op_add_str:OpR X (binaryOp .Add) (λx y H Q=>∃i j,x=.str i/\y=.str j/\i.length+j.length<=sizeLine/\Q (.str (i++j)) H):=by
 intro pins s σ H x y v u Q I rx ry h
 obtain ⟨i,j,rfl,rfl,hz,q⟩:=h
 obtain ⟨t,rfl⟩:=rx
 obtain ⟨t',rfl⟩:=ry
 exact add_str (λt' tk=>⟨.str (i++j),H,I.tok _,⟨_,rfl⟩,q⟩) hz
theorem vals1(r:Vals [x] us):∃u,us=[u]/\RelV x u:=by
 cases r with
 | cons r1 r2=>cases r2;exact ⟨_,rfl,r1⟩
theorem vals2(r:Vals [x,y] us):∃u w',us=[u,w']/\RelV x u/\RelV y w':=by
 cases r with
 | cons r1 r2 =>
  cases r2 with
  | cons r3 r4=>cases r4;exact ⟨_,_,rfl,r1,r3⟩
theorem b3h(hc:X.calm=true):CallR X (.builtin "max") (λxs H Q=>∃i j,xs=[.int i,.int j]/\Q (.int (if j>i then j else i)) H):=by
 intro pins s σ H xs us Q I r h
 obtain ⟨i,j,rfl,q⟩:=h
 obtain ⟨u,w',rfl,⟨t,rfl⟩,⟨t',rfl⟩⟩:=vals2 r
 refine max_two_ints (I.ok.hd hc) λh' tk k=>⟨_,H,I.kept k,?_,q⟩
 by_cases hj:j>i
 .rw [if_pos hj,if_pos hj];exact ⟨_,rfl⟩
 .rw [if_neg hj,if_neg hj];exact ⟨_,rfl⟩
theorem b3g(hc:X.calm=true):CallR X (.builtin "min") (λxs H Q=>∃i j,xs=[.int i,.int j]/\Q (.int (if j<i then j else i)) H):=by
 intro pins s σ H xs us Q I r h
 obtain ⟨i,j,rfl,q⟩:=h
 obtain ⟨u,w',rfl,⟨t,rfl⟩,⟨t',rfl⟩⟩:=vals2 r
 refine min_two_ints (I.ok.hd hc) λh' tk k=>⟨_,H,I.kept k,?_,q⟩
 by_cases hj:j<i
 .rw [if_pos hj,if_pos hj];exact ⟨_,rfl⟩
 .rw [if_neg hj,if_neg hj];exact ⟨_,rfl⟩
end
end L2
namespace L2
open PySem PySem.Spec PyProof.Rows
structure ObjM(h:Heap)(x dx C:Addr)(mA:Str->Option Value):Prop where
 obj:h.get? x=some (c5Y C dx)
 ns:h.Ns1 dx mA
 ne:dx≠x
section
variable {prog:Program}{w:World}{A:Around}{E:Value->Shared->Prop}{s:Shared}{K:c0L}{x dx C f:Addr}{mA:Str->Option Value}{name:Str}{v:Value}
end
theorem RelO.none_of(r:RelO none o):o=none:=by
 cases o with
 | none=>rfl
 | some u=>exact (show False from r).elim
section
variable {P:Program}{w:World}{H H':Hp}{h h':Heap}{a C dx:Addr}{fs fs':List (Str×V)}
end
structure Cls(K:c0L)(C:Addr):Prop where
 pg:c5U K C Str.empty=true
 hd:PySem.W.hasDictIn K C=true
 po:PySem.W.plainOver K C=true
 sa:c1K K (.ref C) "__setattr__" = some (some (.builtin "object.__setattr__"))
theorem Cls.get{K:c0L}{C:Addr}(c:Cls K C)(f:Str):c5U K C f=true:=c.pg
structure Con(K:c0L)(C:Addr)(f:Str)(v:V)(u:Value):Prop where
 at_:c1K K (.ref C) f=some (some u)
 rel:RelV v u
 get:c4x K u "__get__" = some none
 cp:PySem.W.copiedNames.contains f=false
structure Meth(K:c0L)(C:Addr)(m:Str)(f:Addr):Prop where
 at_:c1K K (.ref C) m=some (some (.ref f))
 fn:PySem.W.isFn K (.ref f)=true
 kp:c2o K (.ref f)=true
section
variable {X:Cx}{pins:List (Addr×Obj)}{σ:St}{H:Hp}{s:Shared}{a C dx:Addr}{fs:List (Str×V)}{f:Str}{v:V}{A:Around}{E:Value->Shared->Prop}
end
section
variable {X:Cx}{o e value:Expr}{f:Str}{pos pos' tpos:Pos}{ta tv:TE}
end
section
variable {X:Cx}{pins:List (Addr×Obj)}{σ:St}{H:Hp}{s:Shared}{A:Around}{E:Value->Shared->Prop}{Q:Value->Shared->Prop}{c:Value}{b:Bool}
inductive TyOf (K:c0L) (H:Hp):V->Value->Prop where
 | non:TyOf K H .non (.type "NoneType")
 | bl (x:Bool):TyOf K H (.bl x) (.type "bool")
 | int (i:Int):TyOf K H (.int i) (.type "int")
 | str (x:Str):TyOf K H (.str x) (.type "str")
 | flt (x:UInt64):TyOf K H (.flt x) (.type "float")
 | lst {a:Addr} {xs:List V} (e:H a=some (.lst xs)):TyOf K H (.ref a) (.type "list")
 | frz {a:Addr} {o:Obj} {xs:List V} (e:H a=some (.frz o (.lst xs))):TyOf K H (.ref a) (.type "list")
 | tup {a:Addr} {xs:List V} (e:H a=some (.tup xs)):TyOf K H (.ref a) (.type "tuple")
 | dK {a:Addr} {kvs:List (Key×V)} (e:H a=some (.dK kvs)):TyOf K H (.ref a) (.type "dict")
 | dT {a:Addr} {kvs:List (List Key×V)} (e:H a=some (.dT kvs)):TyOf K H (.ref a) (.type "dict")
 | ins {a C dx:Addr} {fs:List (Str×V)} (e:H a=some (.ins C dx fs)) (cl:Cls K C) (ha:c1K K (.ref C) "__class__" = some (some (.builtin "object.__class__")))
   (hn:c4x K (.builtin "object.__class__") "__get__" = some (some (.builtin "getset_descriptor.__get__"))) (htk:c5Z K (.builtin "object.__class__")=some true)
   (hm:c24 K C (.type "object")=some true):TyOf K H (.ref a) (.ref C)
end
end L2
namespace L2
open PySem PySem.Spec PyProof.Rows
structure Room(k:Nat)(A:Around):Prop where
 hd:A.handled=none
 dp:A.depth+3*k+5<recursionLimit
 un:A.units+16*k+200<cLine
theorem Room.mono(r:Room k A)(h:j<=k):Room j A:=⟨r.hd,by have:=r.dp;omega,by have:=r.un;omega⟩
theorem Room.deeper(r:Room (k+1) A)(env:Env):Room k (A.deeper env):=
 ⟨r.hd,by have:=r.dp;show A.depth+1+3*k+5<_;omega,by have:=r.un;show A.units+3+16*k+200<_;omega⟩
theorem Room.in1(r:Room (k+1) A):Room k A.in1:=
 ⟨r.hd,by have:=r.dp;show A.depth+3*k+5<_;omega,by have:=r.un;show A.units+1+16*k+200<_;omega⟩
theorem b1o{A:Around}{kw:List (Str×Value)}:(A.under (.builtin "type.__call__" ⟨.ref C::us,kw⟩)).depth=A.depth+1:=by
 first | rfl | simp [c5P,Code.weight,Code.isCreation,Code.isGuard,Code.isCaller,Code.frames,c5Q,guardIds]
theorem b1n{A:Around}{kw:List (Str×Value)}:(A.under (.builtin "type.__call__" ⟨.ref C::us,kw⟩)).units=A.units+1:=by
 first | rfl | simp [c5P,Code.cUnits,Code.frames,c5Q]
theorem Room.make(r:Room (k+1) A)(C:Addr)(us:List Value)(kw:List (Str×Value)):Room k (A.under (.builtin "type.__call__" ⟨.ref C::us,kw⟩)):=
 ⟨r.hd,by have:=r.dp;rw [b1o];omega,by have:=r.un;rw [b1n];omega⟩
theorem Room.depth(r:Room k A):A.depth<recursionLimit:=by have:=r.dp;omega
theorem Room.units(r:Room k A):A.units+64<cLine:=by have:=r.un;omega
def tNil:TA:=λ_ H Q=>Q [] H
def tCons(ta:TE)(tr:TA):TA:=λσ H Q=>ta σ H λx H1=>tr σ H1 λxs H2=>Q (x::xs) H2
section
variable {X:Cx}{e:Expr}{es:List Expr}{te:TE}{t:TA}{pos:Pos}
theorem a3I:PA X [] tNil:=λ_ _ _ _ H Q I h=>c4y ⟨[],H,I,.nil,h⟩
theorem a2i(ha:PE X e te)(hr:PA X es t)(hs:starEach (e::es) X.env=(false,eval e X.env)::starEach es X.env:=by rfl):PA X (e::es) (tCons te t):=by
 intro pos pins s σ H Q I h
 rw [hs]
 show wpAny _ _ (spliced ((false,eval e X.env)::backTo pos (starEach es X.env))) _ _ s
 refine c4h (thn (ha pins s σ H _ I h) λu s1 ⟨x,H1,I1,r1,q1⟩=>?_)
 exact thn (hr pos pins s1 σ H1 _ I1 q1) λus s2 ⟨xs,H2,I2,r2,q2⟩=>⟨x::xs,H2,I2,.cons r1 r2,q2⟩
def tTup(t:TA):TE:=λσ H Q=>t σ H λxs H1=>xs.length<=sizeLine/\∀p,H1 p=none->Q (.ref p) (upd H1 p (.tup xs))
def tLst(t:TA):TE:=λσ H Q=>t σ H λxs H1=>xs.length<=sizeLine/\∀p,H1 p=none->Q (.ref p) (upd H1 p (.lst xs))
theorem b87{x1}(h:PA X es t):PE X (.Tuple es x1 pos) (tTup t):=by
 intro pins s σ H Q I hq
 refine wpAny_Tuple_spliced (thn (h pos pins s σ H _ I hq) λus s1 ⟨xs,H1,I1,r,z,q⟩=>⟨by rw [<-r.length];exact z,?_⟩)
 have hf:H1 s1.heap.objs.size=none:=I1.hok.fresh (c0S _)
 refine ⟨.ref s1.heap.objs.size,upd H1 s1.heap.objs.size (.tup xs),I1.laid (t':=s1.toks) (λb u e=>c0M _ e) (c0S _) ?_,rfl,q _ hf⟩
 exact ⟨z,us,r,⟨_,c0Y _ rfl,rfl,_,rfl⟩⟩
theorem b9b(h:PA X es t):PE X (.List es pos) (tLst t):=by
 intro pins s σ H Q I hq
 refine wpAny_List_spliced (thn (h pos pins s σ H _ I hq) λus s1 ⟨xs,H1,I1,r,z,q⟩=>⟨by rw [<-r.length];exact z,?_⟩)
 have hf:H1 s1.heap.objs.size=none:=I1.hok.fresh (c0S _)
 refine ⟨.ref s1.heap.objs.size,upd H1 s1.heap.objs.size (.lst xs),I1.laid (t':=s1.toks) (λb u e=>c0M _ e) (c0S _) ?_,rfl,q _ hf⟩
 exact ⟨z,us,0,r,c0Y _ rfl⟩
end
abbrev Sp:=List V->Hp->VK->XK->Prop
abbrev CXT:=List Env->Hp->Shared->XK->Value->Shared->Prop
structure Env0(P:Program)(w:World)(K:c0L)(mg:Str->Option Value)(base:Heap)(A:Around)(outer:List Env)(s:Shared)(H:Hp):Prop where
 frames:A.frames=some outer
 mod:Mod K mg base
 bs:∀b o,base.get? b=some o->s.heap.get? b=some o/\H b=none
 bsz:base.objs.size<=s.heap.objs.size
 funs:s.heap.FunFrames base outer
 frf:∀b∈frs outer,H b=none
 hok:HOk P w H s.heap
 bare:AllBare s.gens
def CE(outer:List Env)(P:Program)(w:World)(H:Hp)(s:Shared)(Q:VK)(u:Value)(s':Shared):Prop:=
 ∃v H',s'.os=s.os/\AllBare s'.gens/\Un (frs outer) [] H H' s.heap s'.heap/\HOk P w H' s'.heap/\RelV v u/\Q v H'
def CR(CX:CXT)(outer:List Env)(P:Program)(w:World)(H:Hp)(s:Shared)(Q:VK)(E:XK)(r:Result)(s':Shared):Prop:=
 match r with
 | .ok (.ret u)=>CE outer P w H s Q u s'
 | .ok _=>False
 | .error e=>CX outer H s E e s'
structure FnOk(P:Program)(w:World)(K:c0L)(mg:Str->Option Value)(base:Heap)(CX:CXT)(k:Nat)(f:Addr)(fd:FuncData)(ps:List Str)(sp:Sp):Prop where
 len:∀vs H Q E,sp vs H Q E->vs.length=ps.length
 run:∀(A:Around) (outer:List Env) (s:Shared) (H:Hp) (args:Args) (us:List Value) (vs:List V) (Q:VK) (E:XK),Room k A->Env0 P w K mg base A outer s H->BindsTo s fd args (ps.zip us)->Vals vs us->sp vs H Q E ->
  codeAny (model P w) A (.call (.ref f) args) (CR CX outer P w H s Q E) s
theorem FnOk.mono{P:Program}{w:World}{K:c0L}{mg:Str->Option Value}{base:Heap}{CX:CXT}{j k:Nat}{f:Addr}{fd:FuncData}{ps:List Str}{sp:Sp}(F:FnOk P w K mg base CX j f fd ps sp)(h:j<=k):
  FnOk P w K mg base CX k f fd ps sp:=⟨F.len,λA outer s H args us vs Q E hr=>F.run A outer s H args us vs Q E (hr.mono h)⟩
theorem FnOk.imp{P:Program}{w:World}{K:c0L}{mg:Str->Option Value}{base:Heap}{CX:CXT}{k:Nat}{f:Addr}{fd:FuncData}{ps:List Str}{sp sp':Sp}(F:FnOk P w K mg base CX k f fd ps sp)
  (h:∀vs H Q E,sp' vs H Q E->sp vs H Q E):FnOk P w K mg base CX k f fd ps sp':=
 ⟨λvs H Q E q=>F.len vs H Q E (h _ _ _ _ q),λA outer s H args us vs Q E hr he hb hv hs=>F.run A outer s H args us vs Q E hr he hb hv (h _ _ _ _ hs)⟩
theorem Env0.make{P:Program}{w:World}{K:c0L}{mg:Str->Option Value}{base:Heap}{A:Around}{outer:List Env}{s:Shared}{H:Hp}(e:Env0 P w K mg base A outer s H)(C:Addr)(us:List Value)(kw:List (Str×Value)):
  Env0 P w K mg base (A.under (.builtin "type.__call__" ⟨.ref C::us,kw⟩)) outer s H:=⟨by first | exact e.frames | (simpa [c5P,Code.envs,c5Q,pushEnvs] using e.frames),e.mod,e.bs,e.bsz,e.funs,e.frf,e.hok,e.bare⟩
theorem Env0.in1{P:Program}{w:World}{K:c0L}{mg:Str->Option Value}{base:Heap}{A:Around}{outer:List Env}{s:Shared}{H:Hp}(e:Env0 P w K mg base A outer s H):
  Env0 P w K mg base A.in1 outer s H:=⟨e.frames,e.mod,e.bs,e.bsz,e.funs,e.frf,e.hok,e.bare⟩
section
variable {X:Cx}{pins:List (Addr×Obj)}{σ:St}{H:Hp}{s s':Shared}
theorem Inv.env0(I:Inv X pins σ H s):Env0 X.prog X.w X.K X.mg X.base X.A X.stack s H:=
 ⟨I.ok.frames,I.ok.mod,I.bs,c02 I.ok.bsz I.sz,I.stack,I.stkFree,I.hok,I.bare⟩
theorem Inv.after(I:Inv X pins σ H s)(h:CE X.stack X.prog X.w H s Q u s'):EP X pins σ Q u s':=by
 obtain ⟨v,H',os,bare,un,hok,r,q⟩:=h
 obtain ⟨hh,g,d,t,os'⟩:=s'
 obtain rfl:os'=s.os:=os
 exact ⟨v,H',I.call (h':=hh) (g':=g) (d':=d) (t':=t) (ch:=[]) un hok bare (λb z=>absurd z (by simp)),r,q⟩
end
def b8L(sp:Sp)(dvs:List V)(E:XK)(t:TA):TE:=λσ H Q=>t σ H λvs H1=>sp (vs++dvs) H1 Q E
def Binds(K:c0L)(fd:FuncData)(ps:List Str)(ds:List Value):Prop:=
 ∀(s:Shared) (us:List Value),K.In s.heap->(us++ds).length=ps.length->BindsTo s fd ⟨us,[]⟩ (ps.zip (us++ds))
theorem Binds.all{K:c0L}{fd:FuncData}{ps:List Str}(h:∀us:List Value,us.length=ps.length->bindArgs fd ⟨us,[]⟩=pure (ps.zip us)):Binds K fd ps []:=λs us _ hl=>by
 rw [c1J] at hl ⊢
 exact .of_eq (h us hl)
def b3y(CX:CXT)(X:Cx)(E:XK):Prop:=∀(pins:List (Addr×Obj)) (σ:St) (H:Hp) (s:Shared) (e:Value) (s':Shared),Inv X pins σ H s->CX X.stack H s E e s'->X.xe e s'
section
variable {X:Cx}{CX:CXT}{k:Nat}{f C:Addr}{fd:FuncData}{ps:List Str}{sp:Sp}{dvs:List V}{ds:List Value}{E:XK}{x m:Str}{p pos apos:Pos}{e o:Expr}{es:List Expr}{ta:TE}{t:TA}
theorem b8X{pins:List (Addr×Obj)}{σ:St}{H:Hp}{s:Shared}{Q:VK}{us:List Value}{vs:List V}(F:FnOk X.prog X.w X.K X.mg X.base CX k f fd ps sp)(hr:Room k X.A)(hb:Binds X.K fd ps ds)(hd:Vals dvs ds)(hx:b3y CX X E)
  (I:Inv X pins σ H s)(r:Vals vs us)(h:sp (vs++dvs) H Q E):wpAny (model X.prog X.w) X.A (call (.ref f) us) (EP X pins σ Q) X.xe s:=by
 have r2:Vals (vs++dvs) (us++ds):=r.append hd
 have hl:(us++ds).length=ps.length:=by rw [<-r2.length];exact F.len _ _ _ _ h
 refine c4z (c4i (F.run X.A X.stack s H ⟨us,[]⟩ (us++ds) (vs++dvs) Q E hr I.env0 (hb s us I.kIn hl) r2 h) λr s' hq=>?_)
 cases r with
 | error e=>exact hx pins σ H s e s' I hq
 | ok fl =>
  cases fl with
  | ret u=>exact I.after hq
  | next=>exact c1b hq
  | brk=>exact c1b hq
  | cont=>exact c1b hq
theorem b2k(F:FnOk X.prog X.w X.K X.mg X.base CX k f fd ps sp)(hr:Room k X.A)(hg:Gl X x)(hm:X.mg x=some (.ref f))(hk:c2o X.K (.ref f)=true)(hb:Binds X.K fd ps ds)(hd:Vals dvs ds)(hx:b3y CX X E)
  (ha:PA X (e::es) t)(hdb:(x==("__debug__":Str))=false:=by decide)(he:starEach (e::es) X.env=(false,eval e X.env)::starEach es X.env:=by rfl)(hpl:(backTo pos (starEach es X.env)).any (·.1)=false:=by rfl):
  PE X (.Call (.Name x p) (e::es) [] pos) (b8L sp dvs E t):=by
 intro pins s σ H Q I h
 refine c2B (a4h I hg hm ?_ hdb)
 refine c5C (h₀:=X.base) I.ok.mod.kin hk (thn (ha pos pins s σ H _ I h) λus s1 ⟨vs,H1,I1,r,q⟩=>⟨I1.kIn,?_⟩) he hpl
 exact b8X F hr hb hd hx I1 r q
structure Mk(K:c0L)(C f:Addr):Prop where
 makes:PySem.W.makesIn K C=true
 init:c1K K (.ref C) "__init__" = some (some (.ref f))
 fn:PySem.W.isFn K (.ref f)=true
 kp:c2o K (.ref C)=true
end
section
variable {X:Cx}{CX:CXT}{k:Nat}{f C:Addr}{fd:FuncData}{ps ks:List Str}{sp:Sp}{E:XK}{x m:Str}{p pos apos kpos:Pos}{e o:Expr}{es:List Expr}{kws:List Keyword}{te ta:TE}{t tk:TA}{nm:Option Str}
structure KBinds(K:c0L)(fd:FuncData)(ps ks:List Str)(g:List Value->List Value->List Value)(gV:List V->List V->List V):Prop where
 to:∀(s:Shared) (us ws:List Value),K.In s.heap->(g us ws).length=ps.length->BindsTo s fd ⟨us,ks.zip ws⟩ (ps.zip (g us ws))
 rel:∀{vs:List V} {us:List Value} {zs:List V} {ws:List Value},Vals vs us->Vals zs ws->Vals (gV vs zs) (g us ws)
variable {g:List Value->List Value->List Value}{gV:List V->List V->List V}
end
structure FnScope(N P:List Str)(sc:Scope):Prop where
 kind:sc.kind=.function
 co:sc.isCoroutine=false
 gen:sc.isGenerator=false
 nd:N.Nodup
 pre:N.take P.length=P
 par:∀x∈P,sc.names.lookup x=some .local\/sc.names.lookup x=some .cell
 nofree:∀y∈sc.names,y.2≠.free
theorem a85{kindOf:Str->Option NameKind}{x:Str}:∀{binds:List (Str×Value)} {m:Str->Option Value},(∀v,(x,v)∉binds)->bindL kindOf binds m x=m x
 | [],_,_=>rfl
 | (n,v)::r,m,h=>by
  unfold bindL
  rw [a85 λw hw=>h w (c0O _ hw)]
  split
  .have:x≠n:=by rintro rfl;exact h v c0N
   simp [this]
  .rfl
theorem a87{kindOf:Str->Option NameKind}{x:Str}:∀{binds:List (Str×Value)} {m:Str->Option Value},(∀v,(x,v)∉binds)->bindC kindOf binds m x=m x
 | [],_,_=>rfl
 | (n,v)::r,m,h=>by
  unfold bindC
  rw [a87 λw hw=>h w (c0O _ hw)]
  split
  .rfl
  .have:x≠n:=by rintro rfl;exact h v c0N
   simp [this]
theorem a86{kindOf:Str->Option NameKind}{x:Str}{v:Value}:∀{P:List Str} {vs:List Value} {i:Nat} {m:Str->Option Value},P.Nodup->P[i]?=some x->vs[i]?=some v->kindOf x=some .local ->
  bindL kindOf (P.zip vs) m x=some v
 | [],_,_,_,_,h,_,_=>by simp at h
 | _::_,[],_,_,_,_,h,_=>by simp at h
 | p::P,w::vs,0,m,nd,h1,h2,hk=>by
  simp at h1 h2;subst h1;subst h2
  show bindL kindOf ((p,w)::P.zip vs) m p=_
  unfold bindL
  rw [a85 λv hv=>(c2I.mp nd).1 (c32 hv).1,if_pos hk]
  simp
 | p::P,w::vs,i+1,m,nd,h1,h2,hk=>by
  show bindL kindOf ((p,w)::P.zip vs) m x=_
  unfold bindL
  exact a86 (i:=i) (c2I.mp nd).2 (by simpa using h1) (by simpa using h2) hk
theorem a88{kindOf:Str->Option NameKind}{x:Str}{v:Value}:∀{P:List Str} {vs:List Value} {i:Nat} {m:Str->Option Value},P.Nodup->P[i]?=some x->vs[i]?=some v->kindOf x≠some .local ->
  bindC kindOf (P.zip vs) m x=some v
 | [],_,_,_,_,h,_,_=>by simp at h
 | _::_,[],_,_,_,_,h,_=>by simp at h
 | p::P,w::vs,0,m,nd,h1,h2,hk=>by
  simp at h1 h2;subst h1;subst h2
  show bindC kindOf ((p,w)::P.zip vs) m p=_
  unfold bindC
  rw [a87 λv hv=>(c2I.mp nd).1 (c32 hv).1,if_neg hk]
  simp
 | p::P,w::vs,i+1,m,nd,h1,h2,hk=>by
  show bindC kindOf ((p,w)::P.zip vs) m x=_
  unfold bindC
  exact a88 (i:=i) (c2I.mp nd).2 (by simpa using h1) (by simpa using h2) hk
def start(N:List Str)(vs:List V):St:=vs.map some++c06 (N.length-vs.length) none
def cxOf(CX:CXT)(P:Program)(w:World)(K:c0L)(mg:Str->Option Value)(base:Heap)(N:List Str)(qual:Str)(scope:Scope)(f:Addr)(cd:Value)(A:Around)(outer:List Env)(s:Shared)(H:Hp)(E:XK):Cx where
 prog:=P
 w:=w
 K:=K
 mg:=mg
 base:=base
 A:=A.deeper (envOfC qual scope s.heap.objs.size f cd)
 N:=N
 s₀:=s
 H₀:=H
 env:=envOfC qual scope s.heap.objs.size f cd
 outer:=outer
 stack:=envOfC qual scope s.heap.objs.size f cd::outer
 ex:=[]
 calm:=true
 fn:=λ_=>true
 pn:=[]
 xe:=λe s'=>wpAny (model P w) (A.deeper (envOfC qual scope s.heap.objs.size f cd)) (leaving (envOfC qual scope s.heap.objs.size f cd) e) (λ_ s''=>CX outer H s E e s'') (λe' s''=>CX outer H s E e' s'') s'
theorem b0U{sc:Scope}{n:Nat}{x:Str}(h:sc.names.lookup x=some .cell):∃c,(cellsFrom n sc.names []).lookup x=some c:=by
 have q:=c4V sc.names n [] (.inl h)
 exact c4A.mp q
theorem b2N{CX:CXT}{P:Program}{w:World}{K:c0L}{mg:Str->Option Value}{base:Heap}{N ps:List Str}{qual:Str}{scope:Scope}{f:Addr}{cd:Value}{A:Around}{outer:List Env}{s s1:Shared}{H:Hp}{E:XK}{us:List Value}{vs:List V}
  (S:FnScope N ps scope)(hd:A.handled=none)(e0:Env0 P w K mg base A outer s H)(hl:vs.length=ps.length)(r:Vals vs us)
  (x:InCallC s s.heap.objs.size (bindL (envOfC qual scope s.heap.objs.size f cd).kindOf (ps.zip us) λ_=>none) (cellsFrom (s.heap.objs.size+1) scope.names []) (bindC (envOfC qual scope s.heap.objs.size f cd).kindOf (ps.zip us) λ_=>none) s1):
  Inv (cxOf CX P w K mg base N qual scope f cd A outer s H E) [] (start N vs) H s1:=by
 have hpl:ps.length<=N.length:=by have:=congrArg c3D S.pre;rw [c2k] at this;omega
 obtain ⟨h1,tk,rfl,hk⟩:=x.done
 have noA:∀b:Addr,b∉(cxOf CX P w K mg base N qual scope f cd A outer s H E).ex:=λb z=>absurd (show b∈([]:List Addr) from z) (by simp)
 refine ⟨⟨e0.mod,S.kind,rfl,rfl,c0S _,λy z c h1 h2=>?_,λy hy=>?_,λy c _ h=>?_,λ_=>hd,c5i e0.frames,.inr ⟨rfl,rfl⟩,λb z=>absurd z (noA b),e0.bs,e0.bsz,λb _ _=>noA b,λb z=>absurd z (noA b),e0.funs,e0.frf⟩,
  rfl,e0.bare,Un.kept hk,⟨_,x.toInCall.ns,λi y v h1 h2 h3=>?_⟩,λy c h=>⟨_,x.cell y c h⟩,e0.hok.fresh (c0S _),λy c h=>?_,λp hp=>absurd (show p∈([]:List (Addr×Obj)) from hp) (by simp),e0.hok.kept hk,?_⟩
 .exact name_of_addr x.apart (c1Y h1) (c1Y h2)
 .have hy:scope.names.lookup y=some .cell\/scope.names.lookup y=some .free:=hy
  rcases hy with hy | hy
  .exact b0U hy
  .exact absurd rfl (S.nofree _ (c1Y hy))
 .exact c2A (x.above y c (c1Y h))
 .have hi:i<vs.length:=by
   unfold start at h2
   by_cases hi:i<vs.length
   .exact hi
   .rw [c28 (by simpa using hi)] at h2
    rw [c2U] at h2
    split at h2<;>cases h2
  have ha:vs[i]?=some v:=by
   unfold start at h2
   rw [c3d (by simpa using hi),c1O] at h2
   cases e:vs[i]? with
   | none=>rw [e] at h2;cases h2
   | some a=>rw [e] at h2;cases h2;rfl
  obtain ⟨u,hu,rv⟩:=r.get ha
  have hp:ps[i]?=some y:=by
   rw [<-S.pre,List.getElem?_take_of_lt (by omega)];exact h1
  have ndP:ps.Nodup:=by rw [<-S.pre];exact S.nd.sublist (List.take_sublist _ _)
  refine ⟨u,rv,?_⟩
  rcases S.par y (c3a hp) with k | k
  .exact .inl ⟨k,a86 ndP hp hu k⟩
  .obtain ⟨c,e⟩:=b0U (n:=s.heap.objs.size+1) k
   refine .inr ⟨.inl k,c,e,?_⟩
   have q:=x.cell y c e
   rw [a88 ndP hp hu (by show scope.names.lookup y≠_;rw [k];decide)] at q
   exact q
 .exact e0.hok.fresh (c2A (x.above y c (c1Y h)))
 .unfold start
  show _=N.length
  rw [c1f,c0P,c20]
  omega
theorem b7e{CX:CXT}{P:Program}{w:World}{K:c0L}{mg:Str->Option Value}{base:Heap}{k:Nat}{f:Addr}{name qual:Str}{params:Arguments}{body:List Stmt}{scope:Scope}{dV kV doc pm cdv ct oc:Value}{an od:Option Addr}
  {osl:Array (Option Value)}{N ps:List Str}{sp:Sp}(lk:K.lookup f=some ⟨oc,od,.func (c1B name qual params body scope dV kV doc pm an cdv ct),osl⟩)(hcd:c4t K cdv qual=true)(S:FnScope N ps scope)
  (len:∀vs H Q E,sp vs H Q E->vs.length=ps.length)
  (hbody:∀(A:Around) (outer:List Env) (s:Shared) (H:Hp) (vs:List V) (Q:VK) (E:XK),Room k (A.deeper (envOfC qual scope s.heap.objs.size f cdv))->sp vs H Q E ->
   ∃t,PSs (cxOf CX P w K mg base N qual scope f cdv A outer s H E) body t/\t { nx:=λ_ H'=>Q .non H',rt:=Q } (start N vs) H):
  FnOk P w K mg base CX (k+1) f (c1B name qual params body scope dV kV doc pm an cdv ct) ps sp:=by
 refine ⟨len,λA outer s H args us vs Q E hr e0 hb r hsp=>?_⟩
 have hl:=len _ _ _ _ hsp
 have KX:K.In s.heap:=e0.mod.kin.keeps λb o e=>(e0.bs b o e).1
 have lim:s.heap.NoLimit:=e0.mod.nolimit.keeps λb o e=>(e0.bs b o e).1
 have hkind:∀y∈ps.zip us,scope.names.lookup y.1=some .local\/(scope.names.lookup y.1=some .cell/\((cellsFrom (s.heap.objs.size+1) scope.names []).lookup y.1).isSome=true):=λ⟨n,v⟩ hy=>by
  rcases S.par n (c32 hy).1 with q | q
  .exact .inl q
  .exact .inr ⟨q,c4V _ _ _ (.inl q)⟩
 refine codeAny_call_function hr.depth (KX _ _ lk) rfl S.co S.gen rfl (PySem.W.codeRec_of KX hcd) (hb _ _ _ _ ?_)
 refine wpAny_newFunctionEnv_cells S.kind hkind λenv he s1 x=>?_
 subst he
 refine ⟨lim.keeps x.toInCall.keep,codeAny_func ?_⟩
 obtain ⟨t,ht,hq⟩:=hbody A outer s H vs Q E (hr.deeper _) hsp
 have I:Inv (cxOf CX P w K mg base N qual scope f cdv A outer s H E) [] (start N vs) H s1:=b2N S hr.hd e0 hl r x
 refine c1z (ht [] s1 (start N vs) H _ I hq) (λfl s' hs=>?_) λe s' hs=>hs
 have fin:∀{σ':St} {H':Hp} {v:V} {u:Value},Inv (cxOf CX P w K mg base N qual scope f cdv A outer s H E) [] σ' H' s'->RelV v u->Q v H'->CE outer P w H s Q u s':=
  λ{σ' H' v u} J rv q=>⟨v,H',J.os,J.bare,J.base,J.hok,rv,q⟩
 cases fl with
 | ret u =>
  obtain ⟨v,σ',H',J,rv,q⟩:=hs
  exact fin J rv q
 | next =>
  obtain ⟨σ',H',J,q⟩:=hs
  exact fin (v:=V.non) (u:=c1y) J rfl q
 | brk =>
  obtain ⟨_,_,_,q⟩:=hs
  exact c1b q
 | cont =>
  obtain ⟨_,_,_,q⟩:=hs
  exact c1b q
end L2
namespace L2
open PySem PySem.Spec PyProof.Rows
section
variable {X:Cx}{x:Str}{p pos:Pos}{e:Expr}{es:List Expr}{t:TA}{id T:String}{r:List V->Hp->VK->Prop}
def tCB(r:List V->Hp->VK->Prop)(t:TA):TE:=λσ H Q=>t σ H λvs H1=>r vs H1 Q
theorem a22(hc:CallR X (.builtin id) r)(hg:Gl X x)(hm:X.mg x=none)(hv:bootBuiltins x=some (.builtin id))(ha:PA X (e::es) t)(hn:x ≠ "__name__":=by decide)(hdb:(x==("__debug__":Str))=false:=by decide)
  (he:starEach (e::es) X.env=(false,eval e X.env)::starEach es X.env:=by rfl)(hpl:(backTo pos (starEach es X.env)).any (·.1)=false:=by rfl):PE X (.Call (.Name x p) (e::es) [] pos) (tCB r t):=by
 intro pins s σ H Q I h
 refine c2B (a5j I hg hm hv ?_ hn hdb)
 exact PyProof.Rows.callWith_builtin1 (thn (ha pos pins s σ H _ I h) λus s1 ⟨vs,H1,I1,r1,q1⟩=>hc pins s1 σ H1 vs us Q I1 r1 q1) he hpl
theorem a8l(hc:CallR X (.type T) r)(hg:Gl X x)(hm:X.mg x=none)(hv:bootBuiltins x=some (.type T))(ha:PA X (e::es) t)(hn:x ≠ "__name__":=by decide)(hdb:(x==("__debug__":Str))=false:=by decide)
  (he:starEach (e::es) X.env=(false,eval e X.env)::starEach es X.env:=by rfl)(hpl:(backTo pos (starEach es X.env)).any (·.1)=false:=by rfl):PE X (.Call (.Name x p) (e::es) [] pos) (tCB r t):=by
 intro pins s σ H Q I h
 refine c2B (a5j I hg hm hv ?_ hn hdb)
 exact c2r (thn (ha pos pins s σ H _ I h) λus s1 ⟨vs,H1,I1,r1,q1⟩=>hc pins s1 σ H1 vs us Q I1 r1 q1) he hpl
end
end L2
namespace HT
open PySem PyProof.Rows
def lexLt:List Int->List Int->Bool
 | [],[]=>false
 | [],_::_=>true
 | _::_,[]=>false
 | x::xs,y::ys=>if x=y then lexLt xs ys else decide (x<y)
theorem lexLt_cons(x y:Int)(xs ys:List Int):lexLt (x::xs) (y::ys)=if x=y then lexLt xs ys else decide (x<y):=rfl
theorem lexLt_nil_nil:lexLt [] []=false:=rfl
theorem lexLt_nil_cons(y:Int)(ys:List Int):lexLt [] (y::ys)=true:=rfl
theorem lexLt_cons_nil(x:Int)(xs:List Int):lexLt (x::xs) []=false:=rfl
theorem rcLt_int(A:Around)(s:Shared)(a:Int)(t:Tok)(c:Int)(u:Tok)(prog:Program)(w:World)(E:Value->Shared->Prop)(Q:Value->Shared->Prop)(h:Q (.bool (decide (a<c))) s):
  wpAny (model prog w) A (richCompare .Lt (.int a t) (.int c u)) Q E s:=
 (PyProof.Rows.lt_int h:wpAny (model prog w) A (compareOp .Lt (.int a t) (.int c u)) Q E s)
section
open PySem.SeqAt
open PySem.AutoSeq1 (wpAny_loadPart')
open PySem.MeetsSeq PySem.MeetsSeq2 PySem.MeetsSeq3
end
section
variable {prog:Program}{w:World}{A:Around}{E:Value->Shared->Prop}{s:Shared}
theorem cat_tup(ht:IsTup s.heap t vs.toArray)(hb:IsTup s.heap b ws.toArray)(hv:vs≠[])
  (h1:ws=[]->Q (.ref t) s)(h2:ws≠[]->Q (.ref s.heap.objs.size) { s with heap:=s.heap.push { cls:=.type "tuple",data:=.seq (vs++ws).toArray } })
  (hsz:vs.length+ws.length<=sizeLine):wpAny (model prog w) A (binaryOp .Add (.ref t) (.ref b)) Q E s:=by
 obtain ⟨⟨cls,dd,data,sl⟩,ho,hc,n,hd⟩:=id ht
 obtain ⟨⟨cls2,dd2,data2,sl2⟩,ho2,hc2,n2,hd2⟩:=id hb
 simp only at hc hd hc2 hd2
 subst hc hd hc2 hd2
 have e:vs.toArray++ws.toArray=(vs++ws).toArray:=by simp
 by_cases hw:ws=[]
 .exact concat_meets ⟨_,ho,rfl⟩ ⟨_,ho2,rfl⟩ c4R c5D c3B c3s (c3o _ _)
   (tuple_addW1 t b vs.toArray ws.toArray n n2 dd dd2 sl sl2 (by simpa using hv) (by simp [hw])) ⟨ho,ho2,h1 hw⟩
 .refine concat_meets ⟨_,ho,rfl⟩ ⟨_,ho2,rfl⟩ c4R c5D c3B c3s (c3o _ _)
   (tuple_addW2 t b vs.toArray ws.toArray n n2 dd dd2 sl sl2 (by simpa using hv) (by simpa using hw) (by rw [c00,c00];exact hsz)) ⟨ho,ho2,?_⟩
  rw [e]
  exact h2 hw
def sIx(n d:Nat):Option Int->Nat
 | none=>d
 | some v=>if v<0 then (v+(n:Int)).toNat else min v.toNat n
theorem sIx_nat(n d k:Nat):sIx n d (some (k:Int))=min k n:=by
 show (if (k:Int)<0 then ((k:Int)+(n:Int)).toNat else min (k:Int).toNat n)=min k n
 rw [if_neg (by omega),c2q]
theorem b8U(n d:Nat)(hd:d<=n)(o:Option Int):sIx n d o<=n:=by
 cases o with
 | none=>exact hd
 | some v =>
  show (if v<0 then (v+(n:Int)).toNat else min v.toNat n)<=n
  by_cases hv:v<0
  .rw [if_pos hv];omega
  .rw [if_neg hv];exact Nat.min_le_right _ _
theorem b27(v:Int)(n d:Nat):(if v<0 then max (v+(n:Int)) 0 else min v (n:Int))=((sIx n d (some v):Nat):Int):=by
 show (if v<0 then max (v+(n:Int)) 0 else min v (n:Int))=(((if v<0 then (v+(n:Int)).toNat else min v.toNat n):Nat):Int)
 by_cases hv:v<0
 .simp only [if_pos hv];omega
 .simp only [if_neg hv];omega
theorem b1z(lo hi:Option Int)(n:Nat):c3e lo hi 1 (n:Int)=(((sIx n 0 lo:Nat):Int),((sIx n n hi:Nat):Int)):=by
 have h1:¬((1:Int)<0):=by decide
 unfold c3e
 simp only [h1,if_false]
 refine c54 ?_ ?_
 .cases lo with
  | none=>rfl
  | some v=>exact b27 v n 0
 .cases hi with
  | none=>rfl
  | some v=>exact b27 v n n
theorem b1b(i j:Nat):c2E (i:Int) (j:Int) 1=j-i:=by
 unfold c2E
 have h1:(1:Int)>0:=by decide
 simp only [h1,if_true,Int.ediv_one]
 split<;>omega
theorem a6M(p:IsPart v o)(h:Q o s):wpAny (model prog w) A (Builtin.Slice.slicePartIndex v) Q E s:=by
 cases p with
 | none=>exact slicePart_none h
 | int i t=>exact slicePart_int h
theorem a5m{lo hi:Option Int}{n:Nat}(hs:s.heap.IsSliceOf sl vl vu .none)(pl:IsPart vl lo)(pu:IsPart vu hi)
  (h:Q (((sIx n 0 lo:Nat):Int),1,sIx n n hi-sIx n 0 lo) s):wpAny (model prog w) A (c4c (.ref sl) (pure (n:Int))) Q E s:=by
 obtain ⟨os,hos,hcs,hds⟩:=id hs
 unfold c4c Builtin.Slice.sliceFields
 refine c0K (c0K (c1Z hos hds (x:=vl) rfl (c0K (c1Z hos hds (x:=vu) rfl (c0K (c1Z hos hds (x:=.none) rfl (c0X ?_)))))))
 refine c0K (slicePart_none ?_)
 show wpAny _ _ (if ((1:Int)==0)=true then _ else _) _ _ s
 rw [if_neg (by decide)]
 refine c0K (a6M pl (c0K (a6M pu (c0K (c0X ?_)))))
 show wpAny _ _ (match c3e lo hi 1 (n:Int) with | (lo,hi)=>pure (lo,(1:Int),c2E lo hi 1)) _ _ s
 rw [b1z lo hi n]
 show wpAny _ _ (pure (((sIx n 0 lo:Nat):Int),(1:Int),c2E ((sIx n 0 lo:Nat):Int) ((sIx n n hi:Nat):Int) 1)) _ _ s
 rw [b1b]
 exact c0X h
theorem b34(xs:Array Value)(i k:Nat):((c1n k).filterMap λ(m:Nat)=>xs[((i:Int)+(m:Int)*1).toNat]?).toArray=((xs.toList.drop i).take k).toArray:=by
 have e:(λ(m:Nat)=>xs[((i:Int)+(m:Int)*1).toNat]?)=λm=>xs[i+m]?:=by
  funext m
  have:((i:Int)+(m:Int)*1).toNat=i+m:=by omega
  rw [this]
 rw [e]
 have:=pick_run xs i k
 rw [List.filterMap_map] at this
 have e2:((λx=>xs[x]?)∘λx=>i+x)=λm=>xs[i+m]?:=rfl
 rw [e2] at this
 rw [this]
theorem getItem_tuple_cut{items:Array Value}{lo hi:Option Int}(ht:IsTup s.heap t items)(hs:s.heap.IsSliceOf sl vl vu .none)(pl:IsPart vl lo)(pu:IsPart vu hi)
  (hw:¬(sIx items.size 0 lo=0/\sIx items.size items.size hi=items.size))
  (h:Q (.ref s.heap.objs.size) { s with heap:=s.heap.push { cls:=.type "tuple",data:=.seq ((items.toList.drop (sIx items.size 0 lo)).take (sIx items.size items.size hi-sIx items.size 0 lo)).toArray } })
  (hsz:items.size<=sizeLine):wpAny (model prog w) A (getItem (.ref t) (.ref sl)) Q E s:=by
 have htake:sizeOk (.seq ((items.toList.drop (sIx items.size 0 lo)).take (sIx items.size items.size hi-sIx items.size 0 lo)).toArray):=by
  show ((items.toList.drop (sIx items.size 0 lo)).take (sIx items.size items.size hi-sIx items.size 0 lo)).toArray.size<=sizeLine
  rw [c00,c2k,c2W,c2c]
  omega
 have hj:sIx items.size items.size hi<=items.size:=b8U _ _ (c0S _) hi
 obtain ⟨os,hos,hcs,hds⟩:=id hs
 have hTs:s.TypeIs (.ref sl) "slice":=⟨os,hos,hcs⟩
 unfold getItem
 try with_reducible refine c1V ?_
 first | refine c0K (c0X ?_) | skip
 refine c0K (wpAny_sequenceKey ht.typeIs (by decide) ?_)
 refine c0K (c17 (name:=c2Q "__getitem__") ht.typeIs c2p
  (c2x c2p ht.typeIs entry_tuple_getitem ?_ (args_tuple_getitem _ _)))
 show wpAny _ _ (Builtin.Tuple.tupleItemsOf (.ref t) >>= _) _ _ s
 refine c0K (tupleItemsOf_ ht ?_)
 refine c0K (wpAny_typeOf hTs ?_)
 rw [if_pos (by decide)]
 refine c0K (a5m hs pl pu ?_)
 have hno:¬((((sIx items.size 0 lo:Nat):Int)==0&&(1:Int)==1&&(sIx items.size items.size hi-sIx items.size 0 lo)==items.size)=true):=by
  intro q
  rw [c3i,c3i] at q
  have q1:((sIx items.size 0 lo:Nat):Int)=0:=eq_of_beq q.1.1
  have q2:sIx items.size items.size hi-sIx items.size 0 lo=items.size:=eq_of_beq q.2
  exact hw ⟨by omega,by omega⟩
 show wpAny _ _ (if (((sIx items.size 0 lo:Nat):Int)==0&&(1:Int)==1&&(sIx items.size items.size hi-sIx items.size 0 lo)==items.size)=true then _ else _) _ _ s
 rw [if_neg hno,b34]
 first
  | exact c0K (m:=c2J _) (c12 (c0X ⟨_,rfl,c0X h⟩) htake)
  | exact c0K (m:=c2J _) (c12 (c0K (c0X (c0X ⟨_,rfl,c0X h⟩))) htake)
  | exact c0K (c0K (m:=c2J _) (c12 (c0X (c0X ⟨_,rfl,c0X h⟩)) htake))
  | exact c0K (c0K (m:=c2J _) (c12 (c0X ⟨_,rfl,c0X h⟩) htake))
end
end HT
namespace L2
open PySem PySem.Spec PyProof.Rows
abbrev TO:=St->Hp->(Option Int->Hp->Prop)->Prop
def PO(X:Cx)(e:Option Expr)(t:TO):Prop:=
 ∀(pins:List (Addr×Obj)) (s:Shared) (σ:St) (H:Hp) (Q:Option Int->Hp->Prop),Inv X pins σ H s->t σ H Q ->
  wpAny (model X.prog X.w) X.A (evalPart e X.env) (λu s'=>∃o H',Inv X pins σ H' s'/\IsPart u o/\Q o H') X.xe s
def b6k:TO:=λ_ H Q=>Q none H
def tPart(t:TE):TO:=λσ H Q=>t σ H λx H1=>∃i,x=.int i/\Q (some i) H1
section
variable {X:Cx}{e:Expr}{te:TE}{lo hi:Option Expr}{tl th:TO}{pos p2:Pos}
theorem b6z:PO X none b6k:=by
 intro pins s σ H Q I h
 rw [evalPart_none]
 exact c0X ⟨none,H,I,.none,h⟩
theorem b6y(h:PE X e te):PO X (some e) (tPart te):=by
 intro pins s σ H Q I hw
 rw [evalPart_some]
 refine thn (h pins s σ H _ I hw) λu s1 ⟨x,H1,I1,r1,q1⟩=>?_
 obtain ⟨i,rfl,q⟩:=q1
 obtain ⟨t,rfl⟩:=r1
 exact ⟨some i,H1,I1,.int i t,q⟩
def SlR(X:Cx)(r:V->Option Int->Option Int->Hp->VK->Prop):Prop:=
 ∀(pins:List (Addr×Obj)) (s:Shared) (σ:St) (H:Hp) (x:V) (v vl vu:Value) (lo hi:Option Int) (sl:Addr) (Q:VK),Inv X pins σ H s->RelV x v->s.heap.IsSliceOf sl vl vu .none->IsPart vl lo->IsPart vu hi->r x lo hi H Q ->
  ∃T id,typeLookup (.type T) "__getitem__" = pure (some (.builtin id))/\s.TypeIs v T/\wpAny (model X.prog X.w) X.A (getItem v (.ref sl)) (EP X pins σ Q) X.xe s
theorem SlR.or(h:SlR X r)(h':SlR X r'):SlR X (λx lo hi H Q=>r x lo hi H Q\/r' x lo hi H Q):=by
 intro pins s σ H x v vl vu lo hi sl Q I rx hs pl pu q
 rcases q with q | q
 .exact h pins s σ H x v vl vu lo hi sl Q I rx hs pl pu q
 .exact h' pins s σ H x v vl vu lo hi sl Q I rx hs pl pu q
def tSl(r:V->Option Int->Option Int->Hp->VK->Prop)(te:TE)(tl th:TO):TE:=λσ H Q=>te σ H λx H1=>tl σ H1 λl H2=>th σ H2 λu H3=>r x l u H3 Q
theorem b38(hr:SlR X r)(he:PE X e te)(hl:PO X lo tl)(hu:PO X hi th):PE X (.Subscript e (.Slice lo hi none p2) pos) (tSl r te tl th):=by
 intro pins s σ H Q I h
 refine Subscript_ (thn (he pins s σ H _ I h) λv s1 ⟨x,H1,I1,r1,q1⟩=>?_)
 refine wpAny_Slice (thn (hl pins s1 σ H1 _ I1 q1) λvl s2 ⟨l,H2,I2,pl,q2⟩=>thn (hu pins s2 σ H2 _ I2 q2) λvu s3 ⟨u,H3,I3,pu,q3⟩=>?_)
 rw [evalPart_none]
 refine c0X ?_
 have I4:Inv X pins σ H3 { s3 with heap:=s3.heap.push { cls:=.type "slice",data:=.fields #[vl,vu,.none] } }:=I3.kept (t':=s3.toks) λb ob q=>c0M _ q
 obtain ⟨T,id,hT,ht,hg⟩:=hr pins { s3 with heap:=s3.heap.push { cls:=.type "slice",data:=.fields #[vl,vu,.none] } } σ H3 x v vl vu l u s3.heap.objs.size Q I4 r1 (Heap.IsSliceOf.new ..) pl pu q3
 show wpAny (model X.prog X.w) X.A (subscriptTail e (.Slice lo hi none p2) v (.ref s3.heap.objs.size)) (EP X pins σ Q) X.xe { s3 with heap:=s3.heap.push { cls:=.type "slice",data:=.fields #[vl,vu,.none] } }
 exact tail_any (ops:=[.ref s3.heap.objs.size,v]) ht hT hg (by with_unfolding_all rfl)
def cutV(xs:List V)(lo hi:Option Int):List V:=(xs.drop (HT.sIx xs.length 0 lo)).take (HT.sIx xs.length xs.length hi-HT.sIx xs.length 0 lo)
theorem a6f(xs:List V)(lo hi:Option Int):(cutV xs lo hi).length<=xs.length:=by
 unfold cutV
 rw [c2k,c2W]
 omega
def rSlT(K:c0L):V->Option Int->Option Int->Hp->VK->Prop:=λx lo hi H Q=>∃a xs,x=.ref a/\SqT K H a xs /\
 ¬(HT.sIx xs.length 0 lo=0/\HT.sIx xs.length xs.length hi=xs.length)/\∀p,H p=none->Q (.ref p) (upd H p (.tup (cutV xs lo hi)))
theorem b8R:SlR X (rSlT X.K):=by
 intro pins s σ H x v vl vu lo hi sl Q I rx hs pl pu h
 obtain ⟨a,xs,rfl,hx,hw,q⟩:=h
 cases rx
 obtain ⟨its,r,ht,hz⟩:=I.tuple hx
 have hlen:its.toArray.size=xs.length:=by rw [c00];exact r.length.symm
 refine ⟨"tuple",_,c2p.lookup,ht.typeIs,?_⟩
 refine HT.getItem_tuple_cut ht hs pl pu (by rw [hlen];exact hw) ?_ (by rw [hlen];exact hz)
 rw [hlen]
 refine ⟨.ref s.heap.objs.size,_,I.laid (t':=s.toks) (o:=.tup (cutV xs lo hi)) (λb ob q=>c0M _ q) (c0S _) ?_,rfl,q _ (I.hok.fresh (c0S _))⟩
 exact ⟨c02 (a6f xs lo hi) hz,_,(r.drop (HT.sIx xs.length 0 lo)).take (HT.sIx xs.length xs.length hi-HT.sIx xs.length 0 lo),IsTup.new _ _⟩
def rCatT(K:c0L):R2:=λx y H Q=>∃a b xs ys,x=.ref a/\y=.ref b/\SqT K H a xs/\SqT K H b ys/\xs≠[]/\xs.length+ys.length<=sizeLine /\
 (ys=[]->Q (.ref a) H)/\(ys≠[]->∀p,H p=none->Q (.ref p) (upd H p (.tup (xs++ys))))
theorem Vals.nil_iff(r:Vals xs us):us=[]↔xs=[]:=by
 cases r with
 | nil=>simp
 | cons _ _=>simp
theorem op_catT:OpR X (binaryOp .Add) (rCatT X.K):=by
 intro pins s σ H x y v u Q I rx ry h
 obtain ⟨a,b,xs,ys,rfl,rfl,ha,hb,hx,hz,q1,q2⟩:=h
 cases rx
 cases ry
 obtain ⟨its,r1,p1,_⟩:=I.tuple ha
 obtain ⟨its2,r2,p2,_⟩:=I.tuple hb
 refine HT.cat_tup p1 p2 (λz=>hx (r1.nil_iff.mp z)) (λz=>⟨.ref a,H,I,rfl,q1 (r2.nil_iff.mp z)⟩) (λz=>?_) (by rw [<-r1.length,<-r2.length];exact hz)
 refine ⟨.ref s.heap.objs.size,_,I.laid (t':=s.toks) (o:=.tup (xs++ys)) (λb ob q=>c0M _ q) (c0S _) ?_,rfl,q2 (λw=>z (r2.nil_iff.mpr w)) _ (I.hok.fresh (c0S _))⟩
 exact ⟨by rw [c1f];exact hz,_,r1.append r2,IsTup.new _ _⟩
end
end L2
namespace L2
open PySem PySem.Spec PyProof.Rows
def ixN(n:Nat)(i:Int):Option Nat:=if 0<=i then (if i<n then some i.toNat else none) else if -(n:Int)<=i then some (i+n).toNat else none
def atI{α:Type}(xs:List α)(i:Int):Option α:=(ixN xs.length i).bind λj=>xs[j]?
theorem b2y(h:ixN n i=some j):seqIndex? i n=some j/\j<n /\ -(n:Int)<=i/\i<n:=by
 unfold ixN at h
 by_cases h0:0<=i
 .rw [if_pos h0] at h
  by_cases h1:i<n
  .rw [if_pos h1] at h
   have e:i.toNat=j:=c0U h
   exact ⟨by rw [seqIndex_of h0 h1,e],by omega,by omega,h1⟩
  .rw [if_neg h1] at h;cases h
 .rw [if_neg h0] at h
  by_cases h1:-(n:Int)<=i
  .rw [if_pos h1] at h
   have e:(i+n).toNat=j:=c0U h
   exact ⟨by rw [seqIndex_neg (c4B.mp ‹_›) h1,e],by omega,h1,by omega⟩
  .rw [if_neg h1] at h;cases h
theorem a9Z{α:Type}{xs:List α}{i:Int}{v:α}(h:atI xs i=some v):∃j,seqIndex? i xs.length=some j/\xs[j]?=some v/\j<xs.length /\ -(xs.length:Int)<=i/\i<xs.length:=by
 unfold atI at h
 cases e:ixN xs.length i with
 | none=>rw [e] at h;cases h
 | some j =>
  rw [e] at h
  obtain ⟨h1,h2,h3,h4⟩:=b2y e
  exact ⟨j,h1,h,h2,h3,h4⟩
theorem atI_nat{α:Type}{xs:List α}{j:Nat}{v:α}(h:xs[j]?=some v):atI xs (j:Int)=some v:=by
 have hj:j<xs.length:=(c0V.mp h).1
 have e:ixN xs.length (j:Int)=some j:=by
  unfold ixN
  rw [if_pos (c1L _),if_pos (c4d.mpr ‹_›)];simp
 unfold atI;rw [e];exact h
theorem atI_last{α:Type}(xs:List α)(v:α):atI (xs++[v]) (-1)=some v:=by
 have hl:(xs++[v]).length=xs.length+1:=by simp
 have e:ixN (xs++[v]).length (-1)=some xs.length:=by
  unfold ixN
  rw [hl,if_neg (by decide),if_pos (by omega)]
  congr 1
  omega
 unfold atI
 rw [e]
 show (xs++[v])[xs.length]?=some v
 simp
def b3x(b:Expr):Prop:=∀o i,subscripted b false o i=operate [o,i] (getItem o i)
def IxR(X:Cx)(r:R2):Prop:=
 ∀(value slice:Expr) (pins:List (Addr×Obj)) (s:Shared) (σ:St) (H:Hp) (x y:V) (v u:Value) (Q:VK),Inv X pins σ H s->RelV x v->RelV y u->r x y H Q ->
  subscripted slice false v u=operate [v,u] (getItem v u)->wpAny (model X.prog X.w) X.A (subscriptTail value slice v u) (EP X pins σ Q) X.xe s
def MtR(X:Cx)(id:String)(r:V->List V->Hp->VK->Prop):Prop:=
 ∀(pins:List (Addr×Obj)) (s:Shared) (σ:St) (H:Hp) (x:V) (xs:List V) (v:Value) (us:List Value) (Q:VK),Inv X pins σ H s->RelV x v->Vals xs us->r x xs H Q ->
  wpAny (model X.prog X.w) X.A (call (.builtin id) (v::us)) (EP X pins σ Q) X.xe s
section
variable {X:Cx}{a b:Expr}{ta tb:TE}{pos:Pos}
theorem IxR.or(h:IxR X r)(h':IxR X r'):IxR X (λx y H Q=>r x y H Q\/r' x y H Q):=by
 intro value slice pins s σ H x y v u Q I rx ry q hs
 rcases q with q | q
 .exact h value slice pins s σ H x y v u Q I rx ry q hs
 .exact h' value slice pins s σ H x y v u Q I rx ry q hs
theorem MtR.or{id:String}{r r':V->List V->Hp->VK->Prop}(h:MtR X id r)(h':MtR X id r'):MtR X id (λx xs H Q=>r x xs H Q\/r' x xs H Q):=by
 intro pins s σ H x xs v us Q I rx rs q
 rcases q with q | q
 .exact h pins s σ H x xs v us Q I rx rs q
 .exact h' pins s σ H x xs v us Q I rx rs q
theorem pe_ix(hr:IxR X r)(ha:PE X a ta)(hb:PE X b tb)(hs:b3x b):PE X (.Subscript a b pos) (tOp r ta tb):=by
 intro pins s σ H Q I h
 exact Subscript_ (binT ha hb I h λv u s2 x y H2 I2 rx ry q=>hr a b pins s2 σ H2 x y v u Q I2 rx ry q (hs _ _))
def rIxL(K:c0L):R2:=λx y H Q=>∃p xs i v,x=.ref p/\y=.int i/\SqL K H p xs/\atI xs i=some v/\Q v H
def rIxT(K:c0L):R2:=λx y H Q=>∃p xs i v,x=.ref p/\y=.int i/\SqT K H p xs/\atI xs i=some v/\Q v H
def rIxS:R2:=λx y H Q=>∃z i c,x=.str z/\y=.int i/\z.length<=sizeLine/\atI z.cps.toList i=some c/\Q (.str ⟨#[c]⟩) H
theorem ix_list:IxR X (rIxL X.K):=by
 intro value slice pins s σ H x y v u Q I rx ry h hs
 obtain ⟨p,xs,i,z,rfl,rfl,hq,he,q⟩:=h
 cases rx
 obtain ⟨t,rfl⟩:=ry
 obtain ⟨its,r,pl,hz⟩:=I.list hq
 obtain ⟨j,h1,h2,h3,h4,h5⟩:=a9Z he
 obtain ⟨w,ew,rw'⟩:=r.get h2
 have hl:=r.length
 have hn:=a54
 have fin:EP X pins σ Q w s:=⟨z,H,I,rw',q⟩
 by_cases h0:0<=i
 .have hj:i.toNat=j:=by
   rw [seqIndex_of h0 h5] at h1
   exact c0U h1
  exact item_listR pl.isList h0 (by omega) (by rw [hj];simpa using ew) fin hs
 .have hj:(i+(its.toArray.size:Int)).toNat=j:=by
   rw [seqIndex_neg (c4B.mp ‹_›) h4] at h1
   rw [c00,<-hl]
   exact c0U h1
  exact subscriptTail_builtinR (x:=w) pl.isList.typeIs slot_list_getitem.lookup
   (wpAny_getItem_list_neg (Q:=λr s'=>r=w/\EP X pins σ Q r s') pl.isList (c4B.mp ‹_›) (by rw [c00]<;>omega) (by omega) (by rw [hj];simpa using ew) ⟨rfl,fin⟩) hs
theorem ix_tup:IxR X (rIxT X.K):=by
 intro value slice pins s σ H x y v u Q I rx ry h hs
 obtain ⟨p,xs,i,z,rfl,rfl,hq,he,q⟩:=h
 cases rx
 obtain ⟨t,rfl⟩:=ry
 obtain ⟨its,r,pl,hz⟩:=I.tuple hq
 obtain ⟨j,h1,h2,h3,h4,h5⟩:=a9Z he
 obtain ⟨w,ew,rw'⟩:=r.get h2
 have hl:=r.length
 have hn:=a54
 have fin:EP X pins σ Q w s:=⟨z,H,I,rw',q⟩
 exact subscriptTail_builtinR (x:=w) pl.typeIs c2p.lookup
  (getItem_tuple (j:=j) (Q:=λr s'=>r=w/\EP X pins σ Q r s') pl (by omega) (by omega) (by rw [c00,<-hl];exact h1) (by simpa using ew) ⟨rfl,fin⟩) hs
theorem b9C:IxR X rIxS:=by
 intro value slice pins s σ H x y v u Q I rx ry h hs
 obtain ⟨z,i,c,rfl,rfl,hz,he,q⟩:=h
 obtain ⟨t,rfl⟩:=rx
 obtain ⟨t',rfl⟩:=ry
 obtain ⟨j,h1,h2,h3,h4,h5⟩:=a9Z he
 have hl:z.cps.toList.length=z.length:=by simp [Str.length]
 rw [hl] at h1 h4 h5
 have hn:=a54
 exact tail_any (typeIs_str s z t) slot_str_getitem.lookup (getItem_str (c:=c) (by
  have e1:decide (i < -(2^63:Int))=false:=decide_eq_false (by omega)
  have e2:decide (i≥2^63)=false:=decide_eq_false (by omega)
  rw [e1,e2,Bool.or_false]) (by rw [h1];simpa using h2) ⟨.str ⟨#[c]⟩,H,I.tok _,⟨_,rfl⟩,q⟩) hs
def rIx(K:c0L):R2:=λx y H Q=>rIxL K x y H Q\/rIxT K x y H Q\/rIxS x y H Q
theorem b9D:IxR X (rIx X.K):=ix_list.or (ix_tup.or b9C)
theorem b1l(its:List Value)(n j:Nat)(u:Value):c1t (·.setIfInBounds j u) { cls:=.type "list",data:=.seq its.toArray n }={ cls:=.type "list",data:=.seq (its.set j u).toArray n }:=by
 simp [c1t]
theorem Inv.lst{pins:List (Addr×Obj)}{σ:St}{H:Hp}{s:Shared}{p:Addr}{xs:List V}(I:Inv X pins σ H s)(h:H p=some (.lst xs)):
  ∃(its:List Value) (n:Nat),Vals xs its/\s.heap.get? p=some { cls:=.type "list",data:=.seq its.toArray n }/\xs.length<=sizeLine:=by
 obtain ⟨z,its,n,r,e⟩:=I.hok p _ h
 exact ⟨its,n,r,e,z⟩
theorem Inv.lstUpd{pins:List (Addr×Obj)}{σ:St}{H:Hp}{s:Shared}{p:Addr}{xs ys:List V}{its its':List Value}{n n':Nat}{f:Obj->Obj}(I:Inv X pins σ H s)(h:H p=some (.lst xs))
  (ho:s.heap.get? p=some { cls:=.type "list",data:=.seq its.toArray n })(hf:f { cls:=.type "list",data:=.seq its.toArray n }={ cls:=.type "list",data:=.seq its'.toArray n' })(r:Vals ys its')(hz:ys.length<=sizeLine)(t:Nat):
  Inv X pins σ (upd H p (.lst ys)) { s with heap:=s.heap.update p f,toks:=t }:=by
 have e:(s.heap.update p f).get? p=some { cls:=.type "list",data:=.seq its'.toArray n' }:=by
  rw [c21 f ho (by rw [hf]<;>rfl),hf]
 refine I.write (x:=p) (e:=p) (by rw [h];trivial) (.inl rfl) (λb u hb q=>(c1p _ _ (c2j hb)).trans q) ⟨_,e⟩ ?_
 exact ⟨hz,its',n',r,e⟩
def rSetL:V->V->V->Hp->(Hp->Prop)->Prop:=λo i v H Q=>∃p xs k j,o=.ref p/\i=.int k/\H p=some (.lst xs)/\ixN xs.length k=some j/\Q (upd H p (.lst (xs.set j v)))
theorem b0i:PSet X rSetL:=by
 intro pins s σ H o i v ov iv u Q I ro ri rv h
 obtain ⟨p,xs,k,j,rfl,rfl,hp,hj,q⟩:=h
 cases ro
 obtain ⟨t,rfl⟩:=ri
 obtain ⟨its,n,r,ho,hz⟩:=I.lst hp
 obtain ⟨h1,h2,h3,h4⟩:=b2y hj
 have hl:=r.length
 have hn:=a54
 have I':Inv X pins σ (upd H p (.lst (xs.set j v))) { s with heap:=s.heap.update p (c1t (·.setIfInBounds j u)) }:=
  I.lstUpd hp ho (b1l its n j u) (r.set rv j) (by rw [c42];exact hz) s.toks
 by_cases h0:0<=k
 .have hk:k.toNat=j:=by
   rw [seqIndex_of h0 h4] at h1
   exact c0U h1
  exact PySem.W.ki_setAt ho h0 (by omega) (by rw [c00,<-hl];exact h4) (by rw [hk];exact ⟨_,I',q⟩)
 .have hk:(k+(its.toArray.size:Int)).toNat=j:=by
   rw [seqIndex_neg (c4B.mp ‹_›) h3] at h1
   rw [c00,<-hl]
   exact c0U h1
  exact PySem.W.ki_setBack ho (c4B.mp ‹_›) (by rw [c00,<-hl];exact h3) (by omega) (by rw [hk];exact ⟨_,I',q⟩)
theorem a8c(lo hi:Option Int)(n:Nat):(sliceBounds lo hi none n).1=((HT.sIx n 0 lo:Nat):Int)/\(sliceBounds lo hi none n).2.1=((HT.sIx n n hi:Nat):Int)/\(sliceBounds lo hi none n).2.2=1:=by
 refine ⟨?_,?_,rfl⟩
 .cases lo with
  | none=>simp [sliceBounds,HT.sIx]
  | some i =>
   simp only [sliceBounds,HT.sIx,c5V,show (1:Int)>0 by decide,if_true]
   by_cases h:i<0
   .simp only [h,if_true]<;>omega
   .simp only [h,if_false]<;>omega
 .cases hi with
  | none=>simp [sliceBounds,HT.sIx]
  | some i =>
   simp only [sliceBounds,HT.sIx,c5V,show (1:Int)>0 by decide,if_true]
   by_cases h:i<0
   .simp only [h,if_true]<;>omega
   .simp only [h,if_false]<;>omega
theorem a66(its:List Value)(lo hi:Option Int):slicePick its.toArray lo hi none=((its.drop (HT.sIx its.length 0 lo)).take (HT.sIx its.length its.length hi-HT.sIx its.length 0 lo)).toArray:=by
 obtain ⟨h1,h2,h3⟩:=a8c lo hi its.toArray.size
 unfold slicePick
 rw [h1,h2,h3]
 simp only [sliceRange_one,pick_run,c00]<;>rfl
def rSlL(K:c0L):V->Option Int->Option Int->Hp->VK->Prop:=λx lo hi H Q=>∃a xs,x=.ref a/\SqL K H a xs/\∀p,H p=none->Q (.ref p) (upd H p (.lst (cutV xs lo hi)))
theorem sl_list:SlR X (rSlL X.K):=by
 intro pins s σ H x v vl vu lo hi sl Q I rx hs pl pu h
 obtain ⟨a,xs,rfl,hx,q⟩:=h
 cases rx
 obtain ⟨its,r,ht,hz⟩:=I.list hx
 have hlen:=r.length
 refine ⟨"list",_,slot_list_getitem.lookup,ht.isList.typeIs,?_⟩
 refine wpAny_getItem_list_slice ht.isList hs pl pu .none (by simp) ?_ (by rw [c00]<;>omega)
 rw [a66,<-hlen]
 refine ⟨.ref s.heap.objs.size,_,I.laid (t':=s.toks) (o:=.lst (cutV xs lo hi)) (λb ob q=>c0M _ q) (c0S _) ?_,rfl,q _ (I.hok.fresh (c0S _))⟩
 exact ⟨c02 (a6f xs lo hi) hz,_,0,(r.drop (HT.sIx xs.length 0 lo)).take (HT.sIx xs.length xs.length hi-HT.sIx xs.length 0 lo),c0Y _ rfl⟩
theorem a83:CallR X (.builtin "len") (λxs H Q=>∃p ys,xs=[.ref p]/\(SqL X.K H p ys\/SqT X.K H p ys)/\Q (.int ys.length) H):=by
 intro pins s σ H xs us Q I r h
 obtain ⟨p,ys,rfl,hq,q⟩:=h
 obtain ⟨u,rfl,rx⟩:=vals1 r
 cases rx
 have hn:=a54
 rcases hq with hq | hq
 .obtain ⟨its,r',pl,hz⟩:=I.list hq
  have hlen:=r'.length
  exact Calls.call_len_list pl.isList (by simp only [c00]<;>omega) ⟨.int ys.length,H,I.tok _,⟨s.toks+1,by rw [c00,hlen]⟩,q⟩
 .obtain ⟨its,r',pl,hz⟩:=I.tuple hq
  have hlen:=r'.length
  exact len_tuple pl (by simp only [c00]<;>omega) ⟨.int ys.length,H,I.tok _,⟨s.toks+1,by rw [c00,hlen]⟩,q⟩
theorem CallR.or(h:CallR X f r)(h':CallR X f r'):CallR X f (λxs H Q=>r xs H Q\/r' xs H Q):=by
 intro pins s σ H xs us Q I rs q
 rcases q with q | q
 .exact h pins s σ H xs us Q I rs q
 .exact h' pins s σ H xs us Q I rs q
theorem a7K:CallR X (.type "tuple") (λxs H Q=>∃p ys,xs=[.ref p]/\((SqL X.K H p ys/\∀l,H l=none->Q (.ref l) (upd H l (.tup ys)))\/(SqT X.K H p ys/\Q (.ref p) H))):=by
 intro pins s σ H xs us Q I r h
 obtain ⟨p,ys,rfl,h⟩:=h
 obtain ⟨u,rfl,rx⟩:=vals1 r
 cases rx
 rcases h with ⟨hq,q⟩ | ⟨hq,q⟩
 .obtain ⟨its,r',pl,hz⟩:=I.list hq
  have hlen:=r'.length
  refine call_tuple_list pl.isList (λh' kp=>?_) (by simp only [c00]<;>omega)
  have I1:Inv X pins σ H { s with heap:=h' }:=I.kept (t':=s.toks) kp
  have I2:Inv X pins σ (upd H h'.objs.size (.tup ys)) { s with heap:=h'.push { cls:=.type "tuple",data:=.seq its.toArray } }:=
   I1.laid (t':=s.toks) (λb o e=>c0M _ e) (c0S _) (show ObjOk X.prog X.w _ _ _ (.tup ys) from ⟨hz,its,r',IsTup.new _ _⟩)
  exact ⟨.ref h'.objs.size,_,I2,rfl,q _ (I1.hok.fresh (c0S _))⟩
 .obtain ⟨its,r',pl,hz⟩:=I.tuple hq
  exact call_tuple_same pl ⟨.ref p,H,I,rfl,q⟩
def tyV(K:c0L)(T:String)(x:V)(H:Hp):Prop:=match x with
 | .str _=>T = "str"
 | .int _=>T = "int"
 | .ref p=>(T = "list" /\ ∃xs,SqL K H p xs)\/(T = "tuple" /\ ∃o,K.lookup p=some o/\o.cls=.type "tuple" /\ o.dict=none) \/
   (T = "dict" /\ ((∃kvs,H p=some (.dK kvs))\/∃kvs,H p=some (.dT kvs)))\/(T = "set" /\ ∃S n,H p=some (.set S n))
 | _=>False
theorem b5C{pins:List (Addr×Obj)}{σ:St}{H:Hp}{s:Shared}{T:String}{x:V}{v:Value}(I:Inv X pins σ H s)(r:RelV x v)(ty:tyV X.K T x H):
  s.TypeIs v T/\∀a,v=.ref a->∃ob,s.heap.get? a=some ob/\ob.dict=none:=by
 cases x with
 | str z =>
  obtain ⟨t,rfl⟩:=r
  cases (show T = "str" from ty)
  exact ⟨typeIs_str s z t,λ_ e=>nomatch e⟩
 | int i =>
  obtain ⟨t,rfl⟩:=r
  cases (show T = "int" from ty)
  exact ⟨typeIs_int s i t,λ_ e=>nomatch e⟩
 | ref p =>
  cases r
  rcases ty with ⟨rfl,xs,hq⟩ | ⟨rfl,o,hk,hc,hd⟩ | ⟨rfl,hk⟩ | ⟨rfl,S,n,hk⟩
  .obtain ⟨its,_,pl,_⟩:=I.list hq
   refine ⟨pl.isList.typeIs,λa e=>?_⟩
   cases e
   obtain ⟨o,n,e,c,hd,_⟩:=pl
   exact ⟨o,e,hd⟩
  .refine ⟨⟨o,I.kIn p o hk,hc⟩,λa e=>?_⟩
   cases e
   exact ⟨o,I.kIn _ o hk,hd⟩
  .have z:∃o,s.heap.get? p=some o/\o.ExactDict:=by
    rcases hk with ⟨kvs,hk⟩ | ⟨kvs,hk⟩
    .obtain ⟨_,_,_,_,o,_,_,e,ex,_⟩:=I.hok p _ hk
     exact ⟨o,e,ex⟩
    .obtain ⟨_,_,_,_,o,_,_,e,ex,_⟩:=I.hok p _ hk
     exact ⟨o,e,ex⟩
   obtain ⟨o,e,ex⟩:=z
   refine ⟨⟨o,e,ex.1⟩,λa e2=>?_⟩
   cases e2
   exact ⟨o,e,ex.2.1⟩
  .obtain ⟨o,_,_,_,e,ex,_⟩:=I.hok p _ hk
   refine ⟨⟨o,e,ex.1⟩,λa e2=>?_⟩
   cases e2
   exact ⟨o,e,ex.2.1⟩
 | _=>exact c1b ty
def tBM0(K:c0L)(T:String)(r:V->List V->Hp->VK->Prop)(to:TE):TE:=λσ H Q=>to σ H λx H1=>tyV K T x H1/\r x [] H1 Q
def tBM(K:c0L)(T:String)(r:V->List V->Hp->VK->Prop)(to:TE)(t:TA):TE:=λσ H Q=>to σ H λx H1=>tyV K T x H1/\t σ H1 λxs H2=>r x xs H2 Q
variable {o e:Expr}{es:List Expr}{to:TE}{t:TA}{name:Str}{apos cpos:Pos}{T id:String}{r:V->List V->Hp->VK->Prop}
theorem b9d(pa:PlainAttrs T)(slot:Slot T name id)(hty:typeOf (.builtin id)=pure (.type "method_descriptor"))(hm:MtR X id r)(ho:PE X o to)
  (hbase:attributeBase o name X.env (eval o X.env)=eval o X.env:=by rfl)(hline:(apos.endLine==cpos.line)=true:=by rfl):PE X (.Call (.Attribute o name apos) [] [] cpos) (tBM0 X.K T r to):=by
 intro pins s σ H Q I h
 refine wpAny_Call_method0_late hbase hline (thn (ho pins s σ H _ I h) λv s1 ⟨x,H1,I1,r1,ty,q1⟩=>?_)
 obtain ⟨h1,h2⟩:=b5C I1 r1 ty
 exact ⟨T,id,pa,slot,hty,h1,h2,c4W rfl (PySem.evalArgs_none (hm pins s1 σ H1 x [] v [] Q I1 r1 .nil q1))⟩
theorem b9e(pa:PlainAttrs T)(slot:Slot T name id)(hty:typeOf (.builtin id)=pure (.type "method_descriptor"))(hm:MtR X id r)(ho:PE X o to)(ha:PA X (e::es) t)
  (hbase:attributeBase o name X.env (eval o X.env)=eval o X.env:=by rfl)
  (hfew:((backTo cpos (starEach (e::es) X.env)).all (λx=>!x.1)&&(backToKw cpos (keywordEach [] X.env)).all (λx=>x.1.isSome)
   && decide ((e::es).length+([]:List Keyword).length+(if ([]:List Keyword).isEmpty then 0 else 1)<30))=true:=by rfl)
  (hline:(apos.endLine==cpos.line)=true:=by rfl)(hs:starEach (e::es) X.env=(false,eval e X.env)::starEach es X.env:=by rfl)(hplain:(backTo cpos (starEach es X.env)).any (·.1)=false:=by rfl):
  PE X (.Call (.Attribute o name apos) (e::es) [] cpos) (tBM X.K T r to t):=by
 intro pins s σ H Q I h
 refine wpAny_Call_method_late hbase hfew hline rfl (thn (ho pins s σ H _ I h) λv s1 ⟨x,H1,I1,r1,ty,q1⟩=>?_)
 obtain ⟨h1,h2⟩:=b5C I1 r1 ty
 refine ⟨T,id,pa,slot,hty,h1,h2,?_⟩
 have hA:=ha cpos pins s1 σ H1 _ I1 q1
 rw [hs] at hA ⊢
 refine c4W (by show (false||(backTo cpos (starEach es X.env)).any (·.1))=false;rw [hplain]<;>rfl) (c5j ?_)
 exact thn hA λus s2 ⟨vs,H2,I2,r2,q2⟩=>hm pins s2 σ H2 x vs v us Q I2 r1 r2 q2
end
end L2
namespace L2
open PySem PySem.Spec PyProof.Rows
def MtM(X:Cx)(id:String)(r:V->List V->Hp->VK->Prop):Prop:=
 ∀(pins:List (Addr×Obj)) (s:Shared) (σ:St) (H:Hp) (x:V) (xs:List V) (v:Value) (us:List Value) (Q:VK),Inv X pins σ H s->RelV x v->Vals xs us->r x xs H Q ->
  wpAny (model X.prog X.w) X.A (call (.builtin id) (v::us)) (EP X pins σ Q) X.xe s
theorem Vals.one:∀{x:V} {us:List Value},Vals [x] us->∃u,us=[u]/\RelV x u
 | _,_,.cons r .nil=>⟨_,rfl,r⟩
theorem Vals.two:∀{x y:V} {us:List Value},Vals [x,y] us->∃u v,us=[u,v]/\RelV x u/\RelV y v
 | _,_,_,.cons r (.cons q .nil)=>⟨_,_,rfl,r,q⟩
theorem Vals.zero:∀{us:List Value},Vals [] us->us=[]
 | _,.nil=>rfl
theorem Vals.dropLast(h:Vals xs us):Vals xs.dropLast us.dropLast:=by
 induction h with
 | nil=>exact .nil
 | cons r t ih =>
  cases t with
  | nil=>exact .nil
  | cons q t'=>exact .cons r ih
theorem Vals.eraseIdx:∀{xs:List V} {us:List Value} (i:Nat),Vals xs us->Vals (xs.eraseIdx i) (us.eraseIdx i)
 | _,_,_,.nil=>.nil
 | _,_,0,.cons _ t=>t
 | _,_,i+1,.cons r t=>.cons r (Vals.eraseIdx i t)
theorem Vals.reverse(h:Vals xs us):Vals xs.reverse us.reverse:=by
 induction h with
 | nil=>exact .nil
 | cons r t ih=>rw [List.reverse_cons,List.reverse_cons];exact Vals.append ih (.cons r .nil)
theorem Vals.rep(h:Vals xs us):∀k:Nat,Vals (c06 k xs).flatten (c06 k us).flatten
 | 0=>.nil
 | k+1=>by
  rw [c2d,c2d,c2K,c2K]
  exact Vals.append h (Vals.rep h k)
theorem b1u{α:Type}(l:List α):l.eraseIdx (l.length-1)=l.dropLast:=by
 induction l with
 | nil=>rfl
 | cons a r ih =>
  cases r with
  | nil=>rfl
  | cons b r =>
   have e:(a::b::r).length-1=((b::r).length-1)+1:=by
    have h1:(a::b::r).length=r.length+2:=rfl
    have h2:(b::r).length=r.length+1:=rfl
    assumption
   rw [e,List.eraseIdx_cons_succ,ih]
   all_goals rfl
theorem foldl_rep(its:List Value):∀(k:Nat) (acc:List Value),
  List.foldl (λx1 x2=>x1++x2) acc.toArray (c06 k its.toArray)=(acc++(c06 k its).flatten).toArray
 | 0,acc=>by simp
 | k+1,acc=>by
  have e:acc.toArray++its.toArray=(acc++its).toArray:=by simp
  have e2:(acc++its)++(c06 k its).flatten=acc++(c06 (k+1) its).flatten:=by
   rw [c2d,c2K,c13]
  rw [<-e2,<-foldl_rep its k (acc++its),<-e,c2d,c2f]
section
variable {X:Cx}{pins:List (Addr×Obj)}{σ:St}{H:Hp}{s:Shared}{l b:Addr}{xs ys zs:List V}
theorem Inv.lset{its its':List Value}{n:Nat}{t':Nat}(I:Inv X pins σ H s)(hH:H l=some (.lst xs))
  (e:s.heap.get? l=some { cls:=.type "list",data:=.seq its.toArray n })(hf:f its.toArray=its'.toArray)(hv:Vals ys its')(hz:ys.length<=sizeLine):
  Inv X pins σ (upd H l (.lst ys)) { s with heap:=s.heap.update l (c1t f),toks:=t' }:=by
 have q:=PySem.IsL.update e f
 rw [hf] at q
 refine I.write (x:=l) (e:=l) (by rw [hH];exact trivial) (.inl rfl) (λb' u hb hu=>(c1p s.heap (c1t f) (c2j hb)).trans hu) ⟨_,q⟩ ?_
 exact ⟨hz,its',_,hv,q⟩
theorem Inv.lnew(I:Inv X pins σ H s)(hv:Vals ys its)(hz:ys.length<=sizeLine):
  Inv X pins σ (upd H s.heap.objs.size (.lst ys)) { s with heap:=s.heap.push { cls:=.type "list",data:=.seq its.toArray },toks:=t' }:=
 I.laid (λ_ _ q=>c0M _ q) (c0S _) ⟨hz,its,0,hv,c0Y _ rfl⟩
theorem Inv.fresh(I:Inv X pins σ H s):H s.heap.objs.size=none:=I.hok.fresh (c0S _)
theorem Inv.lstM(I:Inv X pins σ H s)(hH:H l=some (.lst xs)):xs.length<=sizeLine/\∃(its:List Value) (n:Nat),Vals xs its/\xs.length=its.length/\s.heap.get? l=some { cls:=.type "list",data:=.seq its.toArray n }:=by
 obtain ⟨z,its,n,r,e⟩:=I.hok l _ hH
 exact ⟨z,its,n,r,r.length,e⟩
theorem b0p(h:n<=sizeLine):c2L n=false:=by
 unfold c2L
 exact decide_eq_false (c5g.mpr ‹_›)
end
section
variable {X:Cx}
def b6r:V->List V->Hp->VK->Prop:=λx vs H Q=>∃l xs y,x=.ref l/\vs=[y]/\H l=some (.lst xs)/\xs.length<sizeLine/\Q .non (upd H l (.lst (xs++[y])))
theorem b2u:MtM X "list.append" b6r:=by
 intro pins s σ H x vs v us Q I rx rv h
 obtain ⟨l,xs,y,rfl,rfl,hH,hz,q⟩:=h
 cases rx
 obtain ⟨u,rfl,ru⟩:=rv.one
 obtain ⟨z,its,n,r,hl,e⟩:=I.lstM hH
 refine c5h c43 ⟨_,e,rfl⟩ F.entry_list_append (F.args_list_append_2 _ _) (PySem.list_append l its.toArray n u (by rw [c00];omega)) ⟨e,?_⟩
 refine ⟨.non,_,I.lset (its':=its++[u]) hH e (by simp) (r.append (.cons ru .nil)) ?_,rfl,q⟩
 rw [c1f,c3L]
 assumption
def b6q:V->List V->Hp->VK->Prop:=λx vs H Q=>∃l b xs zs,x=.ref l/\vs=[.ref b]/\H l=some (.lst xs)/\H b=some (.lst zs)/\xs.length+zs.length<=sizeLine/\Q .non (upd H l (.lst (xs++zs)))
theorem b2t:MtM X "list.extend" b6q:=by
 intro pins s σ H x vs v us Q I rx rv h
 obtain ⟨l,b,xs,zs,rfl,rfl,hH,hB,hz,q⟩:=h
 cases rx
 obtain ⟨u,rfl,ru⟩:=rv.one
 cases ru
 obtain ⟨z,its,n,r,hl,e⟩:=I.lstM hH
 obtain ⟨z2,its2,n2,r2,hl2,e2⟩:=I.lstM hB
 have hsz:its.toArray.size+its2.toArray.size<=sizeLine:=by rw [c00,c00];omega
 have hlong:¬(!its.toArray.isEmpty&&c2L (its.toArray.size+its2.toArray.size))=true:=by
  rw [b0p hsz,Bool.and_false]
  exact c1j
 refine c5h c44 ⟨_,e,rfl⟩ F.entry_list_extend (F.args_list_extend_2 _ _)
  (AutoSeq1.list_extend_list_list_0 l its.toArray n b its2.toArray n2 hlong (by rw [c00];exact zqn ‹_›) (c02 ‹_› (by decide))) ⟨e,e2,?_⟩
 refine ⟨.non,_,I.lset (its':=its++its2) hH e (by simp) (r.append r2) ?_,rfl,q⟩
 rw [c1f]
 assumption
def rPop:V->List V->Hp->VK->Prop:=λx vs H Q=>∃l xs y,x=.ref l/\vs=[]/\H l=some (.lst xs)/\xs[xs.length-1]?=some y/\Q y (upd H l (.lst xs.dropLast))
theorem b9p:MtM X "list.pop" rPop:=by
 intro pins s σ H x vs v us Q I rx rv h
 obtain ⟨l,xs,y,rfl,rfl,hH,hy,q⟩:=h
 cases rx
 have hus:=rv.zero
 subst hus
 obtain ⟨z,its,n,r,hl,e⟩:=I.lstM hH
 obtain ⟨u,hu,ru⟩:=r.get hy
 have hy':its.toArray[its.toArray.size-1]?=some u:=by
  show its.toArray[its.length-1]?=some u
  rw [<-Array.getElem?_toList,<-hl]
  exact hu
 refine c5h c5E ⟨_,e,rfl⟩ F.entry_list_pop (F.args_list_pop_1 _) (MeetsSeq.list_pop_last l its.toArray n u hy' (by rw [c00];omega)) ⟨e,?_⟩
 refine ⟨y,_,I.lset (its':=its.dropLast) hH e ?_ r.dropLast ?_,ru,q⟩
 .show its.toArray.eraseIdxIfInBounds (its.toArray.size-1)=its.dropLast.toArray
  rw [c00,List.eraseIdxIfInBounds_toArray,b1u]
 .rw [List.length_dropLast]
  exact zqt ‹_›
def rCat:R2:=λx y H Q=>∃l b xs zs,x=.ref l/\y=.ref b/\H l=some (.lst xs)/\H b=some (.lst zs)/\xs.length+zs.length<=sizeLine/\∀p,H p=none->Q (.ref p) (upd H p (.lst (xs++zs)))
theorem op_cat:OpR X (binaryOp .Add) rCat:=by
 intro pins s σ H x y v u Q I rx ry h
 obtain ⟨l,b,xs,zs,rfl,rfl,hH,hB,hz,q⟩:=h
 cases rx
 cases ry
 obtain ⟨z,its,n,r,hl,e⟩:=I.lstM hH
 obtain ⟨z2,its2,n2,r2,hl2,e2⟩:=I.lstM hB
 refine PySem.P.add_list e e2 ?_ (by rw [c00,c00];omega)
 have ea:its.toArray++its2.toArray=(its++its2).toArray:=by simp
 rw [ea]
 exact ⟨.ref _,_,I.lnew (t':=s.toks) (r.append r2) (by rw [c1f];assumption),rfl,q _ I.fresh⟩
def rRep:R2:=λx y H Q=>∃l k xs,x=.ref l/\y=.int k/\H l=some (.lst xs) /\ -(2^63)<=k/\k<2^63/\xs.length*k.toNat<=sizeLine /\
 ∀p,H p=none->Q (.ref p) (upd H p (.lst (c06 k.toNat xs).flatten))
theorem b6W{α:Type}(xs:List α)(k:Nat):(c06 k xs).flatten.length=k*xs.length:=by
 induction k with
 | zero=>simp
 | succ k ih=>rw [c2d,c2K,c1f,ih,Nat.succ_mul,Nat.add_comm]
theorem b9j:OpR X (binaryOp .Mult) rRep:=by
 intro pins s σ H x y v u Q I rx ry h
 obtain ⟨l,k,xs,rfl,rfl,hH,h1,h2,hz,q⟩:=h
 cases rx
 obtain ⟨t,rfl⟩:=ry
 obtain ⟨z,its,n,r,hl,e⟩:=I.lstM hH
 have hlen:its.toArray.size*k.toNat<=sizeLine:=by rw [c00,<-hl];exact hz
 have hcap:¬its.toArray.size*k.toNat>(2^63-1)/8:=by
  have:(sizeLine:Nat)<=(2^63-1)/8:=by decide
  omega
 have hfit:¬(!Builtin.List.listFitsIndex k)=true:=by
  rw [fitsIndex_both h1 h2]
  exact c1j
 have hlong:¬c2L (its.toArray.size*k.toNat)=true:=by
  rw [b0p hlen]
  exact c1j
 have hnew:List.foldl (λx1 x2=>x1++x2) #[] (c06 (if its.toArray.isEmpty=true then 0 else k.toNat) its.toArray)=(c06 k.toNat its).flatten.toArray:=by
  have f0:∀m:Nat,List.foldl (λx1 x2=>x1++x2) #[] (c06 m its.toArray)=(c06 m its).flatten.toArray:=λm=>by
   have:=foldl_rep its m []
   rw [c45] at this
   exact this
  rw [f0]
  cases its with
  | nil=>simp
  | cons a r'=>rw [if_neg (by simp)]
 refine wpAny_binaryOp_repeat_ref (T:="list") (U:="int") (by decide) ⟨_,e,rfl⟩ (λs'=>typeIs_int s' k t) noFill_list_mul F.fills_int_mul F.slot_int_rmul repeat_list F.slot_int_index.lookup
  (c5h F.slot_int_rmul (typeIs_int s k t) F.entry_int_rmul (F.args_int_rmul_2 _ _) (int___rmul___int_list k t l its.toArray n)
   ⟨e,rfl,⟨_,e,rfl⟩,c5h F.slot_list_mul ⟨_,e,rfl⟩ F.entry_list_mul (F.args_list_mul_2 _ _) (AutoListH.list___mul___list_int_3 l its.toArray n k t hfit hcap hlong) ⟨e,?_⟩⟩)
 rw [hnew]
 exact ⟨.ref _,_,I.lnew (t':=s.toks) (r.rep k.toNat) (by rw [b6W,Nat.mul_comm];exact hz),rfl,q _ I.fresh⟩
end
section
variable {prog:Program}{w:World}{A:Around}{E:Value->Shared->Prop}{s:Shared}
end
section
variable {X:Cx}
end
end L2
namespace Att
open PySem PySem.W PySem.Calls PyProof.Rows
theorem a58:∀(ns:List Int) (vs:List Value),WellAll P h vs (ns.map WData.int)->IntsAre vs ns:=by
 intro ns
 induction ns with
 | nil =>
  intro vs w
  rw [c4j] at w
  cases w
  exact .nil
 | cons n ns ih =>
  intro vs w
  rw [c1l] at w
  cases w with
  | cons a b =>
   cases a
   exact .cons _ _ (ih _ b)
theorem b18{l:OpenLaw}{n:Nat}(hn:l.most=some n){h:Heap}
  (hpre:l.row.toRowW.claim.pre args=true)(hwl:WellAll P h vals args):
  ∃a vs ns,vals=[c1k a]/\args=[WData.list (ns.map WData.int)]/\h.get? a=some { cls:=.type "list",data:=.seq vs.toArray }/\IntsAre vs ns/\ns.length<=n:=by
 have hsh:WShape.hasAll [] args [.list .int]=true:=(pre_splitW hpre).1
 have hc:l.pre.holds [] { args:=args }=true:=(pre_splitW hpre).2
 obtain ⟨d,r,rfl,h1,h2⟩:=hasAllW_cons hsh
 obtain rfl:=hasAllW_nil h2
 obtain ⟨xs,rfl,h3⟩:=hasW_list h1
 obtain ⟨ns,rfl⟩:=items_int h3
 have hlen:ns.length<=n:=by
  unfold OpenLaw.pre at hc
  have h4:(WTm.not (.lt (.lit (.int (n:Int))) (.len (.arg 0)))).holds [] { args:=[.list (ns.map .int)] }=true:=by
   have h4:=(holds_andW hc).1
   rw [hn] at h4
   exact h4
  have h5:=condW_of h4 (w_not (w_lt w_lit (w_len_list (w_arg rfl))))
  rw [c0P] at h5
  refine c3j λq=>?_
  have q':(n:Int)<((ns.length:Nat):Int):=by exact c4d.mpr ‹_›
  first
   | (rw [decide_eq_true q'] at h5;exact absurd h5 (by decide))
   | (simp at h5;omega)
 cases hwl with
 | cons w1 w2 =>
  cases w2
  cases w1 with
  | list ho hall=>exact ⟨_,_,ns,rfl,rfl,ho,a58 ns _ hall,hlen⟩
theorem b2j(l:OpenLaw)(args:List WData):l.row.toRowW.claim.post args (.bool true) args=true:=
 postW_of (r:=l.row.toRowW) (X:=(true==true))
  (show WShape.has [] (.bool true) .bool=true by first | rfl | decide | simp [WShape.has,WShape.arms,WShape.armsAll])
  (show (WTm.eq .res (.lit (.bool true))).value [] { args:=args,res:=some (.bool true),after:=args }=some (.bool (true==true)) from w_eq_bool (w_res rfl) w_lit) rfl
theorem attach_call{l:OpenLaw}{n:Nat}{loose:List Str}{d:DefRec}
  (hn:l.most=some n)(hdf:d.params.defaults=[])
  (call:∀(w:World) (s₀ s₁:Shared) (mg mb:Str->Option Value) (fa:Addr) (o:Obj) (pm cd doc:Value) (a:Addr) (vs:List Value) (ns:List Int),
   Ground q loose [] XP w s₀ mg mb s₁.heap->YP w s₁.heap ->
   s₁.heap.get? fa=some o->o.data=.func (docDef d.name d.params d.body d.scope pm cd doc)->s₁.heap.CodeRec cd d.name->mg d.name=some (.ref fa) ->
   s₁.heap.get? a=some { cls:=.type "list",data:=.seq vs.toArray }->IntsAre vs ns->ns.length<=n->s₁.gens=#[] ->
   codeAny (model l.prog w) callerA (.call (.ref fa) ⟨[.ref a],[]⟩) (λr s'=>r=.ok (.ret (.bool true))/\OldK s₁.heap s'.heap/\s'.os=s₁.os/\AllBare s'.gens) s₁):
  WalkO q loose XP YP l.row.toRowW d [] (λf vs=>c52 f vs):=by
 intro w s₀ s₁ mg mb G Y fa o pm cd doc dV kV ho hd hcd hD hmg hg args vals as hpre hlay hrd hwl hlo
 obtain rfl:dV=.none:=Dflts.none hD hdf
 obtain rfl:kV=.none:=Dflts.noKw hD
 obtain ⟨a,vs,ns,rfl,rfl,hobj,hints,hlen⟩:=b18 hn hpre hwl
 refine enter_call (c4i (call w s₀ s₁ mg mb fa o pm cd doc a vs ns G Y ho (fd_plain hd) hcd hmg hobj hints hlen hg) λr s' hq=>?_)
 obtain ⟨rfl,h2,h3,h4⟩:=hq
 exact ⟨.inl ⟨.bool true,.bool true,[],rfl,λ_=>rfl,.bool true,b2j l _,λ_=>⟨List.Pairwise.nil,λ_ hm=>(nomatch hm)⟩⟩,h2,h3,h4⟩
section
variable {prog:Program}{w:World}{A:Around}{E:Value->Shared->Prop}{s:Shared}{K:Frag}
def ledger(h:Heap)(L d:Addr):List (Addr×Obj):=(c1n h.objs.size).filterMap λa=>if a=L\/a=d then none else (h.get? a).map λo=>(a,o)
end
end Att
namespace L2
open PySem PySem.Spec PyProof.Rows
theorem a71:∀{vs:List Value} {ns:List Int},IntsAre vs ns->Vals (ns.map V.int) vs
 | _,_,.nil=>.nil
 | _,_,.cons n t h=>.cons ⟨t,rfl⟩ (a71 h)
theorem a8F{α:Type}{c:Prop}[Decidable c]{a b:α}(h:(if c then some a else none)=some b):c/\a=b:=by
 by_cases hc:c
 .rw [if_pos hc] at h;exact ⟨hc,c0U h⟩
 .rw [if_neg hc] at h;cases h
def lamQ:Str:="dealt.<locals>.<lambda>"
def Tb(K:c0L)(H:Hp):Prop:=∀c P,c1P K "dealt" = some (c,P)->H P=some (.tab lamQ)
def b4t(K:c0L)(ts:List Addr):Bool:=match c1P K "dealt" with
 | some (c,P)=>c3T K c P&&(K.lookup P).isNone&&ts.contains P
 | none=>true
theorem b4q{P:Program}{w:World}{K:c0L}{mg mb:Str->Option Value}{CX:CXT}{k:Nat}{fa a:Addr}{fd:FuncData}{x:Str}{sp:Sp}{s₁:Shared}{vs:List Value}{ns:List Int}{ts:List Addr}
  (KX:K.In s₁.heap)(hns:s₁.heap.Ns mainGlobals mg)(hb:s₁.heap.Ns builtinsNs mb)(hbb:∀x:Str,x ≠ "__name__" -> mb x=bootBuiltins x)(hlim:s₁.heap.NoLimit)(hg:s₁.gens=#[])
  (hbm:∃bm ob,mg "__builtins__" = some (.ref bm)/\bm≠builtinsNs/\s₁.heap.get? bm=some ob/\ob.cls=.type "module" /\ ob.dict=some builtinsNs/\ob.data=.plain)
  (hL:b4t K ts=true)(hTs:∀P∈ts,s₁.heap.get? P=some (c3c #[]))
  (ha:s₁.heap.get? a=some { cls:=.type "list",data:=.seq vs.toArray })(hi:IntsAre vs ns)(hl:ns.length<=sizeLine)(hr:Room k callerA)
  (F:∀base:Heap,K.In base->base.Ns mainGlobals mg->FnOk P w K mg base CX k fa fd [x] sp)(hbind:∀(s:Shared) (u:Value),BindsTo s fd ⟨[u],[]⟩ [(x,u)])
  (hsp:∀H:Hp,Tb K H->SqL K H a (ns.map V.int)->sp [.ref a] H (λv H'=>v=.bl true/\Tb K H') λ_ _ _=>False)
  (hCX:∀H e s',CX [] H s₁ (λ_ _ _=>False) e s'->False):
  codeAny (model P w) callerA (.call (.ref fa) ⟨[.ref a],[]⟩) (λr s'=>r=.ok (.ret (.bool true))/\OldK s₁.heap s'.heap/\s'.os=s₁.os/\AllBare s'.gens) s₁:=by
 have rv:=a71 hi
 have lenV:=hi.length
 have tabs:∀c P,c1P K "dealt" = some (c,P)->c3T K c P=true/\K.lookup P=none/\s₁.heap.get? P=some (c3c #[]):=λc P e=>by
  unfold b4t at hL
  rw [e] at hL
  simp only [c3i,Option.isNone_iff_eq_none,List.contains_iff_mem] at hL
  exact ⟨hL.1.1,hL.1.2,hTs P hL.2⟩
 have core:∀H:Hp,Tb K H->SqL K H a (ns.map V.int)->HOk P w H s₁.heap->(∀b,H b≠none->(b=a/\∃o xs,H b=some (.frz o (.lst xs)))\/∃c,c1P K "dealt" = some (c,b))->(H a≠none->K.lookup a=none) ->
   codeAny (model P w) callerA (.call (.ref fa) ⟨[.ref a],[]⟩) (λr s'=>r=.ok (.ret (.bool true))/\OldK s₁.heap s'.heap/\s'.os=s₁.os/\AllBare s'.gens) s₁:=by
  intro H hO hS hok hA hK
  have base_of:∀{b:Addr} {o:Obj},s₁.heap.get? b=some o->H b=none->(hidT s₁.heap H).get? b=some o:=λe n=>b4F e n
  have noL:∀{b:Addr} {o:Obj},s₁.heap.get? b=some o->(∀xs n,o.data≠.seq xs n)->(∀xs,o.data=.fields xs->o.cls≠.none)->H b=none:=λ{b o} e d d2=>by
   cases q:H b with
   | none=>rfl
   | some u =>
    rcases hA b (by rw [q];simp) with ⟨e',_⟩ | ⟨c,e'⟩
    .subst e'
     rw [ha] at e;cases e
     exact absurd rfl (d _ _)
    .rw [(tabs c b e').2.2] at e;cases e
     exact absurd rfl (d2 _ rfl)
  have nsK:∀{b:Addr} {m:Str->Option Value},s₁.heap.Ns b m->(hidT s₁.heap H).Ns b m:=λ{b m} ⟨o,es,ep,e,d,r⟩=>⟨o,es,ep,base_of e (noL e (λ_ _ z=>by rw [d] at z;cases z) λ_ z=>by rw [d] at z;cases z),d,r⟩
  have hKb:K.In (hidT s₁.heap H):=λb o e=>base_of (KX b o e) (by
   cases q:H b with
   | none=>rfl
   | some u =>
    rcases hA b (by rw [q];simp) with ⟨e',_⟩ | ⟨c,e'⟩
    .subst e'
     rw [hK (by rw [q];simp)] at e;cases e
    .rw [(tabs c b e').2.1] at e;cases e)
  have hM:Mod K mg (hidT s₁.heap H):=⟨hKb,nsK hns,⟨mb,nsK hb,hbb⟩,let ⟨mc,h1,h2⟩:=hlim;⟨mc,nsK h1,h2⟩,let ⟨bm,ob,b1,b2,b3,b4,b5,b6⟩:=hbm;⟨bm,ob,b1,b2,base_of b3 (noL b3 (λ_ _ z=>by rw [b6] at z;cases z) λ_ z=>by rw [b6] at z;cases z),b4,b5,b6⟩⟩
  have e0:Env0 P w K mg (hidT s₁.heap H) callerA [] s₁ H:=⟨rfl,hM,λb o e=>b6N e,Nat.le_of_eq (b2O _ _),trivial,λb hb=>absurd (show b∈([]:List Addr) from hb) (by simp),hok,.of_eq hg⟩
  refine c4i ((F _ hKb (nsK hns)).run callerA [] s₁ H ⟨[.ref a],[]⟩ [.ref a] [.ref a] _ _ hr e0 (hbind s₁ (.ref a)) (.cons rfl .nil) (hsp H hO hS)) λr s' h=>?_
  cases r with
  | error e=>exact (hCX H e s' h).elim
  | ok fl =>
   cases fl with
   | next=>exact c1b h
   | brk=>exact c1b h
   | cont=>exact c1b h
   | ret u =>
    obtain ⟨v,H',os,bare,un,hok',r',q,qT⟩:=h
    subst q
    obtain rfl:u=c11 true:=r'
    have old:∀b o,s₁.heap.get? b=some o->s'.heap.get? b=some o\/∃c ps,c1P K "dealt" = some (c,b)/\s'.heap.get? b=some (c3c ps):=λb o e=>by
     cases q:H b with
     | none=>exact .inl (un.keep b o e q (by intro z;exact absurd (show b∈([]:List Addr) from z) (by simp)) (by simp))
     | some u =>
      rcases hA b (by rw [q];simp) with ⟨_,ob,xs,z⟩ | ⟨c,e'⟩
      .have z2:=un.frzs b ob _ z
       obtain ⟨e1,_⟩:=hok b _ z
       obtain ⟨e2,_⟩:=hok' b _ z2
       rw [e] at e1;cases e1
       exact .inl e2
      .obtain ⟨ps,e2,_⟩:=hok' b _ (qT c b e')
       exact .inr ⟨c,ps,e',e2⟩
    refine ⟨rfl,⟨λb o e=>?_,λb o e=>?_⟩,os,bare⟩
    .rcases old b o e with z | ⟨c,ps,e',z⟩
     .exact .inl z
     .obtain ⟨t1,_,t3⟩:=tabs c b e'
      rw [t3] at e;cases e
      exact .inr (.inl ⟨((PySem.W.codeHd_of_K KX t1).tab t3).isCodeTable,rfl,#[],ps,rfl,by rw [Array.empty_append];exact z⟩)
    .rcases old b o e with z | ⟨c,ps,e',z⟩
     .exact ⟨o,z⟩
     .exact ⟨_,z⟩
 have okT:∀(H:Hp) (b:Addr),(∃c,c1P K "dealt" = some (c,b))->ObjOk P w H s₁.heap b (.tab lamQ):=λH b ⟨c,e⟩=>⟨#[],(tabs c b e).2.2,trivial,λpos cv h=>by simp [codeAmong] at h⟩
 have neA:∀c b,c1P K "dealt" = some (c,b)->b≠a:=λc b e z=>by
  have:=(tabs c b e).2.2
  rw [z,ha] at this
  cases this
 cases hk:K.lookup a with
 | some o =>
  have e:=KX a o hk
  rw [ha] at e
  cases e
  refine core (λb=>if (c1P K "dealt").map (·.2)=some b then some (.tab lamQ) else none) (λc b e=>if_pos (by rw [e];rfl)) (.inr ⟨_,vs.toArray,_,hk,rfl,rfl,rfl,by rw [c00,lenV];exact hl,by simpa using rv⟩) (λb u z=>?_) (λb z=>?_) λz=>?_
  .obtain ⟨hc,rfl⟩:=(a8F z)
   obtain ⟨⟨c,b'⟩,e,rfl⟩:=c2v.mp hc
   exact okT _ _ ⟨c,e⟩
  .by_cases hc:(c1P K "dealt").map (·.2)=some b
   .obtain ⟨⟨c,b'⟩,e,rfl⟩:=c2v.mp hc
    exact .inr ⟨c,e⟩
   .exact absurd (if_neg hc) z
  .by_cases hc:(c1P K "dealt").map (·.2)=some a
   .obtain ⟨⟨c,b'⟩,e,e2⟩:=c2v.mp hc
    exact absurd e2 (neA c b' e)
   .exact absurd (if_neg hc) z
 | none =>
  refine core (λb=>if b=a then some (.frz { cls:=.type "list",data:=.seq vs.toArray } (.lst (ns.map V.int))) else if (c1P K "dealt").map (·.2)=some b then some (.tab lamQ) else none) (λc b e=>by show (if b=a then _ else _)=_;rw [if_neg (neA c b e),if_pos (by rw [e];rfl)]) (.inl (.inr ⟨{ cls:=.type "list",data:=.seq vs.toArray },if_pos rfl⟩)) (λb u z=>?_) (λb z=>?_) λ_=>hk
  .by_cases hb:b=a
   .have z':=(if_pos hb).symm.trans z
    cases z'
    subst hb
    exact ⟨ha,by rw [c0P];exact hl,vs,_,rv,ha⟩
   .obtain ⟨hc,rfl⟩:=a8F ((if_neg hb).symm.trans z)
    obtain ⟨⟨c,b'⟩,e,rfl⟩:=c2v.mp hc
    exact okT _ _ ⟨c,e⟩
  .by_cases hb:b=a
   .exact .inl ⟨hb,_,_,if_pos hb⟩
   .by_cases hc:(c1P K "dealt").map (·.2)=some b
    .obtain ⟨⟨c,b'⟩,e,rfl⟩:=c2v.mp hc
     exact .inr ⟨c,e⟩
    .exact absurd ((if_neg hb).trans (if_neg hc)) z
end L2
namespace L2
open PySem PySem.Spec PyProof.Rows
abbrev KOf{K:c0L}{h:Heap}(_:K.In h):c0L:=K
theorem walk_of{l:c46}{n k:Nat}{q:Program}{loose:List Str}{XP:(Str->Option Value)->Heap->Prop}{YP:World->Heap->Prop}{d:DefRec}{K:Params->c0L}{CX:World->CXT}{sp:World->Sp}{x:Str}{ts:List Addr}
  (hn:l.most=some n)(hn2:n<=sizeLine)(hdf:d.params.defaults=[])(hr:Room k callerA)
  (hY:∀(w:World) (h:Heap),YP w h->(K w.params).In h/\∀P∈ts,h.get? P=some (c3c #[]))(hL:∀w:World,b4t (K w.params) ts=true)
  (F:∀(w:World) (mg:Str->Option Value) (fa:Addr) (h:Heap),(K w.params).In h->h.Ns mainGlobals mg->mg d.name=some (.ref fa) ->
   ∃fd:FuncData,(∀(s:Shared) (u:Value),BindsTo s fd ⟨[u],[]⟩ [(x,u)]) /\
    ∀base:Heap,(K w.params).In base->base.Ns mainGlobals mg->FnOk l.prog w (K w.params) mg base (CX w) k fa fd [x] (sp w))
  (hsp:∀(w:World) (H:Hp) (a:Addr) (ns:List Int),ns.length<=n->Tb (K w.params) H->SqL (K w.params) H a (ns.map V.int)->sp w [.ref a] H (λv H'=>v=.bl true/\Tb (K w.params) H') λ_ _ _=>False)
  (hCX:∀(w:World) (H:Hp) (s:Shared) (e:Value) (s':Shared),CX w [] H s (λ_ _ _=>False) e s'->False):
  PySem.W.WalkO q loose XP YP l.row.toRowW d [] (λf vs=>c52 f vs):=by
 refine Att.attach_call hn hdf λw s₀ s₁ mg mb fa o pm cd doc a vs ns G Y ho hd hcd hmg hobj hints hlen hg=>?_
 obtain ⟨KX,hTs⟩:=hY w _ Y
 obtain ⟨fd,hb,hF⟩:=F w mg fa _ KX G.T.g hmg
 exact b4q KX G.T.g G.T.b G.T.builtins G.T.nolimit hg G.T.bmain (hL w) hTs hobj hints (c02 hlen hn2) hr hF hb (λH hO hS=>hsp w H a ns hlen hO hS) λH e s'=>hCX w H s₁ e s'
end L2
namespace L2
open PySem PySem.Spec PyProof.Rows
def a1C(s:Stmt):Arguments:=match s with
 | .FunctionDef _ a _ _ _ _ _ _ _ _=>a
 | _=>{ posonlyargs:=[],args:=[],vararg:=none,kwonlyargs:=[],kw_defaults:=[],kwarg:=none,defaults:=[] }
def a0G(s:Stmt):List Stmt:=match s with
 | .FunctionDef _ _ b _ _ _ _ _ _ _=>b
 | _=>[]
def a0n(s:Stmt):Scope:=match s with
 | .FunctionDef _ _ _ _ _ _ sc _ _ _=>sc
 | _=>{ kind:=.function,names:=[],isGenerator:=false,isCoroutine:=false }
abbrev CX0:CXT:=λ_ _ _ _ _ _=>False
abbrev E0:XK:=λ_ _ _=>False
theorem b9g:b3y CX0 X E0:=λ_ _ _ _ _ _ _ h=>h.elim
structure Fun(K:c0L)(x qual:Str)(st:Stmt)(f:Addr)(fd:FuncData):Prop where
 ex:∃(oc:Value) (od:Option Addr) (kV doc pm:Value) (an:Option Addr) (cdv ct:Value) (osl:Array (Option Value)),
  fd=c1B x qual (a1C st) (a0G st) (a0n st) .none kV doc pm an cdv ct/\K.lookup f=some ⟨oc,od,.func fd,osl⟩/\c4t K cdv qual=true
 kp:c2o K (.ref f)=true
section
variable {P:Program}{w:World}{K:c0L}{mg:Str->Option Value}{base:Heap}
theorem Fun.ok{x qual:Str}{st:Stmt}{f:Addr}{fd:FuncData}{N ps:List Str}{k:Nat}{sp:Sp}(F:Fun K x qual st f fd)(S:FnScope N ps (a0n st))(len:∀vs H Q E,sp vs H Q E->vs.length=ps.length)
  (hbody:∀(cdv:Value) (A:Around) (outer:List Env) (s:Shared) (H:Hp) (vs:List V) (Q:VK) (E:XK),Room k (A.deeper (envOfC qual (a0n st) s.heap.objs.size f cdv))->sp vs H Q E ->
   ∃t,PSs (cxOf CX0 P w K mg base N qual (a0n st) f cdv A outer s H E).nox (a0G st) t/\t { nx:=λ_ H'=>Q .non H',rt:=Q } (start N vs) H):FnOk P w K mg base CX0 (k+1) f fd ps sp:=by
 obtain ⟨oc,od,kV,doc,pm,an,cdv,ct,osl,rfl,lk,hcd⟩:=F.ex
 refine b7e lk hcd S len λA outer s H vs Q E hr hsp=>?_
 obtain ⟨t,h,q⟩:=hbody cdv A outer s H vs Q E hr hsp
 exact ⟨t,h.nox,q⟩
theorem Fun.binds{x qual:Str}{st:Stmt}{f:Addr}{fd:FuncData}{ps:List Str}(F:Fun K x qual st f fd)
  (h:∀(kV doc pm:Value) (an:Option Addr) (cdv ct:Value) (us:List Value),us.length=ps.length->bindArgs (c1B x qual (a1C st) (a0G st) (a0n st) .none kV doc pm an cdv ct) ⟨us,[]⟩=pure (ps.zip us)):Binds K fd ps []:=by
 obtain ⟨oc,od,kV,doc,pm,an,cdv,ct,osl,rfl,lk,hcd⟩:=F.ex
 exact .all (h kV doc pm an cdv ct)
theorem b5X{x qual:Str}{st:Stmt}{f:Addr}{oc:Value}{od an:Option Addr}{osl:Array (Option Value)}{kV doc pm cdv ct:Value}(l:K.lookup f=some ⟨oc,od,.func (c1B x qual (a1C st) (a0G st) (a0n st) .none kV doc pm an cdv ct),osl⟩)
  (c:c4t K cdv qual=true)(k:c2o K (.ref f)=true):Fun K x qual st f (c1B x qual (a1C st) (a0G st) (a0n st) .none kV doc pm an cdv ct):=⟨⟨oc,od,kV,doc,pm,an,cdv,ct,osl,rfl,l,c⟩,k⟩
end
section
variable {X:Cx}
theorem pv(i:Nat){x:Str}{pos:Pos}(hN:X.N[i]?=some x:=by rfl)(hv:Vis X.env.scope x:=by first | exact c1C rfl | exact c1q (c1C rfl) | exact c1q (c1q rfl))(hd:(x==("__debug__":Str))=false:=by decide)
  (hcd:(x==("__classdict__":Str))=false:=by decide):PE X (.Name x pos) (tVar i):=a4x hN hv hd hcd
end
def Same(H H':Hp):Prop:=∀b o,H b=some o->H' b=some o
theorem Same.refl(H:Hp):Same H H:=λ_ _ h=>h
theorem Same.trans(a:Same H H1)(b:Same H1 H2):Same H H2:=λc o h=>b c o (a c o h)
theorem Same.free(e:Same H H')(h:H' l=Option.none):H l=Option.none:=by
 cases q:H l with
 | none=>rfl
 | some o =>
  rw [e l o q] at h
  cases h
theorem Same.seq{K:c0L}{H H':Hp}{a:Addr}{xs:List V}(e:Same H H')(h:SqL K H a xs):SqL K H' a xs:=by
 rcases h with (h | ⟨o,h⟩) | h
 .exact .inl (.inl (e _ _ h))
 .exact .inl (.inr ⟨o,e _ _ h⟩)
 .exact .inr h
end L2
set_option maxHeartbeats 4000000
namespace DL
open PySem PySem.Spec PyProof.Rows L2
section
variable {prog:Program}{w:World}{A:Around}{E:Value->Shared->Prop}{s:Shared}
theorem b40{ws:List Value}(ht:IsTup s.heap t #[])(hb:IsTup s.heap b ws.toArray)(h1:Q (.ref b) s):wpAny (model prog w) A (binaryOp .Add (.ref t) (.ref b)) Q E s:=by
 obtain ⟨⟨cls,dd,data,sl⟩,ho,hc,n,hd⟩:=id ht
 obtain ⟨⟨cls2,dd2,data2,sl2⟩,ho2,hc2,n2,hd2⟩:=id hb
 simp only at hc hd hc2 hd2
 subst hc hd hc2 hd2
 exact concat_meets ⟨_,ho,rfl⟩ ⟨_,ho2,rfl⟩ c4R c5D c3B c3s (c3o _ _)
   (tuple_addW0 t b #[] ws.toArray n n2 dd dd2 sl sl2 rfl) ⟨ho,ho2,h1⟩
end
section
variable {X:Cx}
noncomputable def rCat0(K:c0L):R2:=λx y H Q=>∃a b ys,x=.ref a/\y=.ref b/\SqT K H a []/\SqT K H b ys/\Q (.ref b) H
theorem b6J:OpR X (binaryOp .Add) (rCat0 X.K):=by
 intro pins s σ H x y v u Q I rx ry h
 obtain ⟨a,b,ys,rfl,rfl,ha,hb,q1⟩:=h
 cases rx
 cases ry
 obtain ⟨its,r1,p1,_⟩:=I.tuple ha
 obtain ⟨its2,r2,p2,_⟩:=I.tuple hb
 cases r1
 exact b40 p1 p2 ⟨.ref b,H,I,rfl,q1⟩
end
end DL
namespace DL
open PySem PySem.Spec PyProof.Rows L2
inductive D where
 | non | bl (b:Bool) | int (i:Int) | str (x:Str) | tup (ds:List D) | lst (ro:Bool) (ds:List D) | exc (n:Str) | dct (fz:Bool) (kvs:List (Int×Int))
 deriving Inhabited
inductive Sl where
 | no | sh (d:D) | ow (ds:List D) | dw (kvs:List (Int×Int))
 deriving Inhabited
noncomputable abbrev En:=List Sl
noncomputable def Sl.d:Sl->D
 | .no=>.non
 | .sh d=>d
 | .ow ds=>.lst false ds
 | .dw kvs=>.dct false kvs
def clsP(p C:Addr)(h:Heap):Prop:=∃o,h.get? p=some o/\o.cls=.ref C
mutual
inductive Is (K:c0L) (O:Addr->Prop) (H:Hp):V->D->Prop
 | non:Is K O H .non .non
 | bl (b:Bool):Is K O H (.bl b) (.bl b)
 | int (i:Int):Is K O H (.int i) (.int i)
 | str (x:Str):Is K O H (.str x) (.str x)
 | tup {p:Addr} {xs:List V} {ds:List D} (ho:¬O p) (hp:Rd H p (.tup xs)) (hs:Iss K O H xs ds):Is K O H (.ref p) (.tup ds)
 | ktup {p:Addr} {xs:List V} {ds:List D} (hp:SqT K (λ_=>none) p xs) (hs:Iss K O H xs ds):Is K O H (.ref p) (.tup ds)
 | lst {p:Addr} {xs:List V} {ds:List D} (ho:¬O p) (hp:H p=some (.lst xs)) (hs:Iss K O H xs ds):Is K O H (.ref p) (.lst false ds)
 | rlst {p:Addr} {xs:List V} {ds:List D} (ho:¬O p) (hp:Rd H p (.lst xs)) (hs:Iss K O H xs ds):Is K O H (.ref p) (.lst true ds)
 | klst {p:Addr} {xs:List V} {ds:List D} (hp:SqL K (λ_=>none) p xs) (hs:Iss K O H xs ds):Is K O H (.ref p) (.lst true ds)
 | exc {p C:Addr} {n:Str} (ho:¬O p) (hn:c1s K mainGlobals n=some (some (.ref C))) (hp:H p=some (.ext (clsP p C))):Is K O H (.ref p) (.exc n)
 | dct {p:Addr} {kvs:List (Int×Int)} (ho:¬O p) (hp:H p=some (.dK (kvs.map λq=>(.inl q.1,.int q.2)))):Is K O H (.ref p) (.dct false kvs)
 | dctF {p:Addr} {kvs:List (Int×Int)} {o:Obj} (ho:¬O p) (hp:H p=some (.frz o (.dK (kvs.map λq=>(.inl q.1,.int q.2))))):Is K O H (.ref p) (.dct true kvs)
inductive Iss (K:c0L) (O:Addr->Prop) (H:Hp):List V->List D->Prop
 | nil:Iss K O H [] []
 | cons {x:V} {d:D} {xs:List V} {ds:List D} (h:Is K O H x d) (t:Iss K O H xs ds):Iss K O H (x::xs) (d::ds)
end
theorem b5J{O:Addr->Prop}{H H':Hp}(hH:∀q u,H q=some u->¬O q->H' q=some u){p:Addr}{u:HO}(ho:¬O p)(h:Rd H p u):Rd H' p u:=by
 rcases h with h | ⟨o,h⟩
 .exact .inl (hH p u h ho)
 .exact .inr ⟨o,hH p _ h ho⟩
theorem b2b(h:Rd H p u):H p≠none:=by
 rcases h with h | ⟨o,h⟩<;>rw [h]<;>exact λz=>nomatch z
theorem a5t{K:c0L}{H:Hp}{p:Addr}{xs:List V}(h:SqL K (λ_=>none) p xs):SqL K H p xs:=by
 rcases h with (h | ⟨o,h⟩) | h
 .cases h
 .cases h
 .exact .inr h
theorem a5s{K:c0L}{H:Hp}{p:Addr}{xs:List V}(h:SqT K (λ_=>none) p xs):SqT K H p xs:=by
 rcases h with (h | ⟨o,h⟩) | h
 .cases h
 .cases h
 .exact .inr h
section
variable {K:c0L}{O O':Addr->Prop}{H H':Hp}
mutual
theorem Is.map(hO:∀q,H q≠none->¬O q->¬O' q)(hH:∀q u,H q=some u->¬O q->H' q=some u):∀{v:V} {d:D},Is K O H v d->Is K O' H' v d
 | _,_,.non=>.non
 | _,_,.bl b=>.bl b
 | _,_,.int i=>.int i
 | _,_,.str x=>.str x
 | _,_,.tup ho hp hs=>.tup (hO _ (b2b hp) ho) (b5J hH ho hp) (Iss.map hO hH hs)
 | _,_,.ktup hp hs=>.ktup hp (Iss.map hO hH hs)
 | _,_,.lst ho hp hs=>.lst (hO _ (by rw [hp];exact λz=>nomatch z) ho) (hH _ _ hp ho) (Iss.map hO hH hs)
 | _,_,.rlst ho hp hs=>.rlst (hO _ (b2b hp) ho) (b5J hH ho hp) (Iss.map hO hH hs)
 | _,_,.klst hp hs=>.klst hp (Iss.map hO hH hs)
 | _,_,.exc ho hn hp=>.exc (hO _ (by rw [hp];exact λz=>nomatch z) ho) hn (hH _ _ hp ho)
 | _,_,.dct ho hp=>.dct (hO _ (by rw [hp];exact λz=>nomatch z) ho) (hH _ _ hp ho)
 | _,_,.dctF ho hp=>.dctF (hO _ (by rw [hp];exact λz=>nomatch z) ho) (hH _ _ hp ho)
theorem Iss.map(hO:∀q,H q≠none->¬O q->¬O' q)(hH:∀q u,H q=some u->¬O q->H' q=some u):∀{v:List V} {d:List D},Iss K O H v d->Iss K O' H' v d
 | _,_,.nil=>.nil
 | _,_,.cons h t=>.cons (Is.map hO hH h) (Iss.map hO hH t)
end
theorem Is.grow(s:Same H H')(h:Is K O H v d):Is K O H' v d:=h.map (λ_ _ z=>z) λq u e _=>s q u e
theorem Iss.grow(s:Same H H')(h:Iss K O H v d):Iss K O H' v d:=h.map (λ_ _ z=>z) λq u e _=>s q u e
theorem Is.less(hO:∀q,O' q->O q)(h:Is K O H v d):Is K O' H v d:=h.map (λ_ _ z w=>z (hO _ w)) λ_ _ e _=>e
theorem Iss.less(hO:∀q,O' q->O q)(h:Iss K O H v d):Iss K O' H v d:=h.map (λ_ _ z w=>z (hO _ w)) λ_ _ e _=>e
theorem Iss.length:∀{v:List V} {d:List D},Iss K O H v d->v.length=d.length
 | _,_,.nil=>rfl
 | _,_,.cons _ t=>by rw [c1u,c1u,Iss.length t]
theorem Iss.append:∀{v w:List V} {d e:List D},Iss K O H v d->Iss K O H w e->Iss K O H (v++w) (d++e)
 | _,_,_,_,.nil,s=>s
 | _,_,_,_,.cons h t,s=>.cons h (Iss.append t s)
theorem Iss.get:∀{v:List V} {ds:List D} {i:Nat} {d:D},Iss K O H v ds->ds[i]?=some d->∃x,v[i]?=some x/\Is K O H x d
 | _,_,_,_,.nil,e=>by simp at e
 | _,_,0,_,.cons h _,e=>by simp at e;subst e;exact ⟨_,rfl,h⟩
 | _,_,i+1,d,.cons _ t,e=>by
  obtain ⟨u,h1,h2⟩:=Iss.get (i:=i) (d:=d) t (by simpa using e)
  exact ⟨u,by simpa using h1,h2⟩
theorem Iss.getV:∀{v:List V} {ds:List D} {i:Nat} {x:V},Iss K O H v ds->v[i]?=some x->∃d,ds[i]?=some d/\Is K O H x d
 | _,_,_,_,.nil,e=>by simp at e
 | _,_,0,_,.cons h _,e=>by simp at e;subst e;exact ⟨_,rfl,h⟩
 | _,_,i+1,d,.cons _ t,e=>by
  obtain ⟨u,h1,h2⟩:=Iss.getV (i:=i) (x:=d) t (by simpa using e)
  exact ⟨u,by simpa using h1,h2⟩
theorem Iss.take:∀{v:List V} {d:List D} (n:Nat),Iss K O H v d->Iss K O H (v.take n) (d.take n)
 | _,_,0,_=>.nil
 | _,_,_+1,.nil=>.nil
 | _,_,n+1,.cons h t=>.cons h (Iss.take n t)
theorem Iss.drop:∀{v:List V} {d:List D} (n:Nat),Iss K O H v d->Iss K O H (v.drop n) (d.drop n)
 | _,_,0,h=>h
 | _,_,_+1,.nil=>.nil
 | _,_,n+1,.cons _ t=>Iss.drop n t
theorem Iss.set(h:Is K O H x d):∀{v:List V} {ds:List D} (n:Nat),Iss K O H v ds->Iss K O H (v.set n x) (ds.set n d)
 | _,_,_,.nil=>.nil
 | _,_,0,.cons _ t=>.cons h t
 | _,_,n+1,.cons h' t=>.cons h' (Iss.set h n t)
theorem Iss.atI(h:Iss K O H v ds)(e:L2.atI ds i=some d):∃x,L2.atI v i=some x/\Is K O H x d:=by
 unfold L2.atI at e ⊢
 rw [h.length]
 cases q:ixN ds.length i with
 | none=>rw [q] at e;cases e
 | some j =>
  rw [q] at e
  exact h.get e
theorem Iss.dropLast(h:Iss K O H v d):Iss K O H v.dropLast d.dropLast:=by
 rw [c47,c47,h.length]
 exact h.take _
theorem Iss.ints:∀(ns:List Int),Iss K O H (ns.map V.int) (ns.map D.int)
 | []=>.nil
 | n::r=>.cons (.int n) (Iss.ints r)
def Sq(K:c0L)(H:Hp)(k:Bool)(p:Addr)(xs:List V):Prop:=if k=true then SqL K H p xs else SqT K H p xs
noncomputable def seqD:D->Option (Bool×List D)
 | .tup ds=>some (false,ds)
 | .lst _ ds=>some (true,ds)
 | _=>none
theorem Is.seq(h:Is K O H v d)(e:seqD d=some (k,ds)):∃p xs,v=.ref p/\Sq K H k p xs/\Iss K O H xs ds:=by
 cases h with
 | tup ho hp hs=>cases e;exact ⟨_,_,rfl,.inl hp,hs⟩
 | ktup hp hs=>cases e;exact ⟨_,_,rfl,a5s hp,hs⟩
 | lst ho hp hs=>cases e;exact ⟨_,_,rfl,.inl (.inl hp),hs⟩
 | rlst ho hp hs=>cases e;exact ⟨_,_,rfl,.inl hp,hs⟩
 | klst hp hs=>cases e;exact ⟨_,_,rfl,a5t hp,hs⟩
 | _=>cases e
end
theorem Sq.grow{K:c0L}{H H':Hp}{k:Bool}{p:Addr}{xs:List V}(s:Same H H')(h:Sq K H k p xs):Sq K H' k p xs:=by
 cases k with
 | true =>
  rcases h with (h | ⟨o,h⟩) | h
  .exact .inl (.inl (s _ _ h))
  .exact .inl (.inr ⟨o,s _ _ h⟩)
  .exact .inr h
 | false =>
  rcases h with (h | ⟨o,h⟩) | h
  .exact .inl (.inl (s _ _ h))
  .exact .inl (.inr ⟨o,s _ _ h⟩)
  .exact .inr h
noncomputable def Sl.own:Sl->Prop
 | .ow _=>True
 | .dw _=>True
 | _=>False
noncomputable abbrev dkV(kvs:List (Int×Int)):HO:=.dK (kvs.map λq=>(.inl q.1,.int q.2))
def Own(σ:L2.St)(env:En)(p:Addr):Prop:=∃(i:Nat) (s:Sl),env[i]?=some s/\s.own/\σ[i]?=some (some (V.ref p))
abbrev OO(O:Addr->Prop)(σ:L2.St)(env:En)(q:Addr):Prop:=O q\/Own σ env q
theorem _root_.L2.Tb.grow{K:c0L}{H H':Hp}(s:Same H H')(h:Tb K H):Tb K H':=λc P e=>s _ _ (h c P e)
def Dom(K:c0L)(O:Addr->Prop)(H:Hp):Prop:=(∀q,O q->H q≠none)/\Tb K H
theorem Dom.grow{K:c0L}{O:Addr->Prop}{H H':Hp}(s:Same H H')(h:Dom K O H):Dom K O H':=⟨λq hq hn=>h.1 q hq (s.free hn),h.2.grow s⟩
structure Rel(K:c0L)(O:Addr->Prop)(B:Hp)(σ:L2.St)(H:Hp)(env:En):Prop where
 same:Same B H
 dom:Dom K O B
 len:σ.length=env.length
 sh:∀(i:Nat) (d:D),env[i]?=some (Sl.sh d)->∃v,σ[i]?=some (some v)/\Is K (OO O σ env) H v d
 ow:∀(i:Nat) (ds:List D),env[i]?=some (Sl.ow ds)->∃p xs,σ[i]?=some (some (V.ref p))/\B p=none/\H p=some (.lst xs)/\Iss K (OO O σ env) H xs ds
 dw:∀(i:Nat) (kvs:List (Int×Int)),env[i]?=some (Sl.dw kvs)->∃p,σ[i]?=some (some (V.ref p))/\B p=none/\H p=some (dkV kvs)
 sep:∀(i j:Nat) (ds es:Sl) (p:Addr),env[i]?=some ds->env[j]?=some es->σ[i]?=some (some (V.ref p))->σ[j]?=some (some (V.ref p))->ds.own->es.own->i=j
noncomputable def Res(K:c0L)(O:Addr->Prop)(B H:Hp)(v:V):Sl->Prop
 | .no=>False
 | .sh d=>Is K O H v d
 | .ow ds=>∃p xs,v=.ref p/\B p=none/\H p=some (.lst xs)/\Iss K (λq=>O q\/q=p) H xs ds
 | .dw kvs=>∃p,v=.ref p/\B p=none/\H p=some (dkV kvs)
section
variable {K:c0L}{O:Addr->Prop}{B H H' H1:Hp}{σ:L2.St}{env:En}{v:V}{r:Sl}
theorem Rel.ad(R:Rel K O B σ H env){i:Nat}{s:Sl}(h:env[i]?=some s)(ho:s.own):∃p u,σ[i]?=some (some (V.ref p))/\B p=none/\H p=some u:=by
 cases s with
 | ow ds=>obtain ⟨p,xs,e1,e2,e3,_⟩:=R.ow i ds h;exact ⟨p,_,e1,e2,e3⟩
 | dw kvs=>obtain ⟨p,e1,e2,e3⟩:=R.dw i kvs h;exact ⟨p,_,e1,e2,e3⟩
 | no=>exact ho.elim
 | sh d=>exact ho.elim
theorem Rel.oo(R:Rel K O B σ H env)(h:OO O σ env q):H q≠none:=by
 rcases h with h | ⟨i,s,h1,ho,h2⟩
 .intro z
  exact R.dom.1 q h (R.same.free z)
 .obtain ⟨p,u,e1,_,e3⟩:=R.ad h1 ho
  rw [h2] at e1
  cases e1
  rw [e3];exact λz=>nomatch z
theorem Rel.dm(R:Rel K O B σ H env):Dom K (OO O σ env) H:=⟨λ_=>R.oo,R.dom.2.grow R.same⟩
theorem Rel.grow(R:Rel K O B σ H env)(s:Same H H'):Rel K O B σ H' env where
 same:=R.same.trans s
 dom:=R.dom
 len:=R.len
 sh:=λi d e=>let ⟨v,e1,h⟩:=R.sh i d e;⟨v,e1,h.grow s⟩
 ow:=λi ds e=>let ⟨p,xs,e1,e2,e3,h⟩:=R.ow i ds e;⟨p,xs,e1,e2,s _ _ e3,h.grow s⟩
 dw:=λi kvs e=>let ⟨p,e1,e2,e3⟩:=R.dw i kvs e;⟨p,e1,e2,s _ _ e3⟩
 sep:=R.sep
theorem Res.grow(s:Same H H')(h:Res K O B H v r):Res K O B H' v r:=by
 cases r with
 | no=>exact h
 | sh d=>exact Is.grow s h
 | ow ds=>obtain ⟨p,xs,e1,e2,e3,h⟩:=h;exact ⟨p,xs,e1,e2,s _ _ e3,h.grow s⟩
 | dw kvs=>obtain ⟨p,e1,e2,e3⟩:=h;exact ⟨p,e1,e2,s _ _ e3⟩
theorem Res.from(s:Same H1 B)(h:Res K O B H v r):Res K O H1 H v r:=by
 cases r with
 | no=>exact h
 | sh d=>exact h
 | ow ds=>obtain ⟨p,xs,e1,e2,e3,h⟩:=h;exact ⟨p,xs,e1,s.free e2,e3,h⟩
 | dw kvs=>obtain ⟨p,e1,e2,e3⟩:=h;exact ⟨p,e1,s.free e2,e3⟩
theorem Res.less(hO:∀q,O' q->O q)(h:Res K O B H v r):Res K O' B H v r:=by
 cases r with
 | no=>exact h
 | sh d=>exact Is.less hO h
 | ow ds=>obtain ⟨p,xs,e1,e2,e3,h⟩:=h;exact ⟨p,xs,e1,e2,e3,h.less λq z=>z.elim (λw=>.inl (hO _ w)) .inr⟩
 | dw kvs=>exact h
theorem Res.is(hd:∀q,O q->B q≠none)(h:Res K O B H v r):Is K O H v r.d:=by
 cases r with
 | no=>exact h.elim
 | sh d=>exact h
 | ow ds =>
  obtain ⟨p,xs,rfl,e2,e3,h⟩:=h
  exact .lst (λz=>hd p z e2) e3 (h.less λ_=>.inl)
 | dw kvs =>
  obtain ⟨p,rfl,e2,e3⟩:=h
  exact .dct (λz=>hd p z e2) e3
end
def EV(X:Cx)(e:Expr)(f:En->Option Sl):Prop:=
 ∃t:TE,PE X e t/\∀(O:Addr->Prop) (B:Hp) (σ:L2.St) (H:Hp) (env:En) (r:Sl) (Q:VK),Rel X.K O B σ H env->f env=some r ->
  (∀v H',Same H H'->Res X.K (OO O σ env) H H' v r->Q v H')->t σ H Q
def BV(X:Cx)(e:Expr)(f:En->Option (Bool×List D)):Prop:=
 ∃t:TE,PE X e t/\∀(O:Addr->Prop) (B:Hp) (σ:L2.St) (H:Hp) (env:En) (k:Bool) (ds:List D) (Q:VK),Rel X.K O B σ H env->f env=some (k,ds) ->
  (∀p xs H',Same H H'->Sq X.K H' k p xs->Iss X.K (OO O σ env) H' xs ds->Q (.ref p) H')->t σ H Q
def AV(X:Cx)(es:List Expr)(f:En->Option (List D)):Prop:=
 ∃t:TA,PA X es t/\∀(O:Addr->Prop) (B:Hp) (σ:L2.St) (H:Hp) (env:En) (ds:List D) (Q:List V->Hp->Prop),Rel X.K O B σ H env->f env=some ds ->
  (∀vs H',Same H H'->Iss X.K (OO O σ env) H' vs ds->Q vs H')->t σ H Q
def TV(X:Cx)(e:Expr)(f:En->Option Bool):Prop:=
 ∃t:TT,PT X e t/\∀(O:Addr->Prop) (B:Hp) (σ:L2.St) (H:Hp) (env:En) (b:Bool) (Q:Bool->Hp->Prop),Rel X.K O B σ H env->f env=some b ->
  (∀H',Same H H'->Q b H')->t σ H Q
def WV(X:Cx)(e:Expr)(f:En->Option Bool):Prop:=
 ∃t:TT,PW X e t/\∀(O:Addr->Prop) (B:Hp) (σ:L2.St) (H:Hp) (env:En) (b:Bool) (Q:Bool->Hp->Prop),Rel X.K O B σ H env->f env=some b ->
  (∀H',Same H H'->Q b H')->t σ H Q
inductive Fl where
 | nx | bk | ct | rt (r:Sl)
def Gd(σ:L2.St)(env:En)(H:Hp)(σ':L2.St)(env':En)(H':Hp):Prop:=∀q u,H q=some u->¬Own σ env q->H' q=some u/\¬Own σ' env' q
theorem Gd.trans(a:Gd σ env H σ1 env1 H1)(b:Gd σ1 env1 H1 σ2 env2 H2):Gd σ env H σ2 env2 H2:=λq u e n =>
 let ⟨e1,n1⟩:=a q u e n
 b q u e1 n1
theorem Gd.from(s:Same H H1)(b:Gd σ env H1 σ' env' H'):Gd σ env H σ' env' H':=λq u e n=>b q u (s _ _ e) n
theorem Gd.refl(s:Same H H'):Gd σ env H σ env H':=λq u e n=>⟨s _ _ e,n⟩
noncomputable def EndOk(K:c0L)(O:Addr->Prop)(B:Hp)(σ:L2.St)(H:Hp)(env:En)(D:Ends):Fl->En->Prop
 | .nx,env'=>∀σ' H',Rel K O B σ' H' env'->Gd σ env H σ' env' H'->D.nx σ' H'
 | .bk,env'=>∀σ' H',Rel K O B σ' H' env'->Gd σ env H σ' env' H'->D.bk σ' H'
 | .ct,env'=>∀σ' H',Rel K O B σ' H' env'->Gd σ env H σ' env' H'->D.ct σ' H'
 | .rt r,_=>∀v H',Same B H'->Res K O B H' v r->D.rt v H'
theorem EndOk.from{K:c0L}{O:Addr->Prop}{B:Hp}{σ σ1:L2.St}{H H1:Hp}{env env1:En}{D:Ends}{fl:Fl}{env':En}(g:Gd σ env H σ1 env1 H1)(h:EndOk K O B σ H env D fl env'):EndOk K O B σ1 H1 env1 D fl env':=by
 cases fl with
 | nx=>exact λσ' H' R g'=>h σ' H' R (g.trans g')
 | bk=>exact λσ' H' R g'=>h σ' H' R (g.trans g')
 | ct=>exact λσ' H' R g'=>h σ' H' R (g.trans g')
 | rt r=>exact h
noncomputable abbrev SF:=En->Option (Fl×En)
def SV(X:Cx)(st:Stmt)(F:SF):Prop:=
 ∃t:TS,PS X st t/\∀(O:Addr->Prop) (B:Hp) (σ:L2.St) (H:Hp) (env:En) (fl:Fl) (env':En) (D:Ends),Rel X.K O B σ H env->F env=some (fl,env')->EndOk X.K O B σ H env D fl env'->t D σ H
def SVs(X:Cx)(st:List Stmt)(F:SF):Prop:=
 ∃t:TS,PSs X st t/\∀(O:Addr->Prop) (B:Hp) (σ:L2.St) (H:Hp) (env:En) (fl:Fl) (env':En) (D:Ends),Rel X.K O B σ H env->F env=some (fl,env')->EndOk X.K O B σ H env D fl env'->t D σ H
section
variable {X:Cx}{a b c:Expr}{pos:Pos}{fa fb fc:En->Option Sl}
noncomputable def eC(d:D):En->Option Sl:=λ_=>some (.sh d)
theorem a0c{i j pos}:EV X (.Constant (.int i) j pos) (eC (.int i)):=⟨_,b9c,λ_ _ _ _ _ _ _ _ e k=>by
 obtain rfl:=c0U e
 exact k _ _ (Same.refl _) (Is.int i)⟩
theorem a6d{i j pos}:EV X (.Constant (.bool i) j pos) (eC (.bl i)):=⟨_,pe_bl,λ_ _ _ _ _ _ _ _ e k=>by
 obtain rfl:=c0U e
 exact k _ _ (Same.refl _) (Is.bl i)⟩
theorem a4E{j pos}:EV X (.Constant .none j pos) (eC .non):=⟨_,b9a,λ_ _ _ _ _ _ _ _ e k=>by
 obtain rfl:=c0U e
 exact k _ _ (Same.refl _) Is.non⟩
theorem a3y{x j pos}:EV X (.Constant (.str x) j pos) (eC (.str x)):=⟨_,b88,λ_ _ _ _ _ _ _ _ e k=>by
 obtain rfl:=c0U e
 exact k _ _ (Same.refl _) (Is.str x)⟩
noncomputable def slV:Option Sl->Option Sl
 | some (.sh d)=>some (.sh d)
 | _=>none
theorem b3T(h:slV o=some r):∃d,o=some (Sl.sh d)/\r=.sh d:=by
 cases o with
 | none=>cases h
 | some s=>cases s with
  | sh d=>cases h;exact ⟨d,rfl,rfl⟩
  | no=>cases h
  | ow ds=>cases h
  | dw ds=>cases h
noncomputable def eV(i:Nat):En->Option Sl:=λenv=>slV env[i]?
theorem b51(i:Nat)(hN:X.N[i]?=some x:=by rfl)(hv:Vis X.env.scope x:=by first | exact c1C rfl | exact c1q (c1C rfl) | exact c1q (c1q rfl))(hd:(x==("__debug__":Str))=false:=by decide)
  (hcd:(x==("__classdict__":Str))=false:=by decide):EV X (.Name x pos) (eV i):=⟨_,a4x hN hv hd hcd,λO B σ H env r Q R e k=>by
 obtain ⟨d,e1,rfl⟩:=b3T e
 obtain ⟨v,e2,h⟩:=R.sh i d e1
 exact ⟨v,e2,k v H (Same.refl _) h⟩⟩
noncomputable def slB:Option Sl->Option (Bool×List D)
 | some (.sh d)=>seqD d
 | some (.ow ds)=>some (true,ds)
 | _=>none
noncomputable def bV(i:Nat):En->Option (Bool×List D):=λenv=>slB env[i]?
theorem b96(i:Nat)(hN:X.N[i]?=some x:=by rfl)(hv:Vis X.env.scope x:=by first | exact c1C rfl | exact c1q (c1C rfl) | exact c1q (c1q rfl))(hd:(x==("__debug__":Str))=false:=by decide)
  (hcd:(x==("__classdict__":Str))=false:=by decide):BV X (.Name x pos) (bV i):=⟨_,a4x hN hv hd hcd,λO B σ H env k ds Q R e q=>by
 unfold bV at e
 cases h:env[i]? with
 | none=>rw [h] at e;cases e
 | some s =>
  rw [h] at e
  cases s with
  | no=>cases e
  | sh d =>
   obtain ⟨v,e2,hv⟩:=R.sh i d h
   obtain ⟨p,xs,rfl,h1,h2⟩:=hv.seq (show seqD d=some (k,ds) from e)
   exact ⟨_,e2,q p xs H (Same.refl _) h1 h2⟩
  | dw es=>cases e
  | ow es =>
   obtain ⟨rfl,rfl⟩:true=k/\es=ds:=Prod.mk.inj (c0U e)
   obtain ⟨p,xs,e2,_,e3,h2⟩:=R.ow i es h
   exact ⟨_,e2,q p xs H (Same.refl _) (.inl (.inl e3)) h2⟩⟩
noncomputable def bOf(f:En->Option Sl):En->Option (Bool×List D):=λenv=>(f env).bind λr=>seqD r.d
theorem bind_some{α β:Type}{o:Option α}{f:α->Option β}{b:β}(h:o.bind f=some b):∃a,o=some a/\f a=some b:=by
 cases o with
 | none=>cases h
 | some a=>exact ⟨a,rfl,h⟩
theorem a2V(h:EV X a fa):BV X a (bOf fa):=by
 obtain ⟨t,ht,p⟩:=h
 refine ⟨t,ht,λO B σ H env k ds Q R e q=>?_⟩
 obtain ⟨r,e1,e2⟩:=bind_some e
 refine p O B σ H env r _ R e1 λv H' s h=>?_
 obtain ⟨p,xs,rfl,h1,h2⟩:=(h.is (λz=>R.oo)).seq e2
 exact q p xs H' s h1 h2
def OpD(X:Cx)(f:Value->Value->Sem Value)(g:D->D->Option Sl):Prop:=
 ∃r:R2,OpR X f r/\∀(O:Addr->Prop) (H:Hp) (x y:V) (a b:D) (s:Sl) (Q:VK),(∀q,O q->H q≠none)->Is X.K O H x a->Is X.K O H y b->g a b=some s ->
  (∀v H',Same H H'->Res X.K O H H' v s->Q v H')->r x y H Q
noncomputable def eBin(g:D->D->Option Sl)(fa fb:En->Option Sl):En->Option Sl:=λenv=>(fa env).bind λx=>(fb env).bind λy=>g x.d y.d
theorem a7L(hg:∀(O:Addr->Prop) (H:Hp) (x y:V) (a b:D) (s:Sl) (Q:VK),(∀q,O q->H q≠none)->Is X.K O H x a->Is X.K O H y b->g a b=some s->(∀v H',Same H H'->Res X.K O H H' v s->Q v H')->r x y H Q)(pa:∀(O:Addr->Prop) (B:Hp) (σ:L2.St) (H:Hp) (env:En) (r:Sl) (Q:VK),Rel X.K O B σ H env->fa env=some r->(∀v H',Same H H'->Res X.K (OO O σ env) H H' v r->Q v H')->ta σ H Q)
  (pb:∀(O:Addr->Prop) (B:Hp) (σ:L2.St) (H:Hp) (env:En) (r:Sl) (Q:VK),Rel X.K O B σ H env->fb env=some r->(∀v H',Same H H'->Res X.K (OO O σ env) H H' v r->Q v H')->tb σ H Q)
  (O:Addr->Prop)(B:Hp)(σ:L2.St)(H:Hp)(env:En)(s:Sl)(Q:VK)(R:Rel X.K O B σ H env)(e:eBin g fa fb env=some s)
  (k:∀v H',Same H H'->Res X.K (OO O σ env) H H' v s->Q v H'):tOp r ta tb σ H Q:=by
 obtain ⟨x,e1,e⟩:=bind_some e
 obtain ⟨y,e2,e⟩:=bind_some e
 refine pa O B σ H env x _ R e1 λv H1 s1 h1=>?_
 refine pb O B σ H1 env y _ (R.grow s1) e2 λu H2 s2 h2=>?_
 have R2:=(R.grow s1).grow s2
 refine hg (OO O σ env) H2 v u x.d y.d s Q (λq=>R2.oo) ((h1.is λq=>R.oo).grow s2) (h2.is λq=>(R.grow s1).oo) e λw H3 s3 h3=>?_
 exact k w H3 ((s1.trans s2).trans s3) (h3.from (s1.trans s2))
theorem a0i(ho:OpD X (binaryOp op) g)(ha:EV X a fa)(hb:EV X b fb):EV X (.BinOp a op b pos) (eBin g fa fb):=by
 obtain ⟨r,hr,hg⟩:=ho
 obtain ⟨ta,pa,ka⟩:=ha
 obtain ⟨tb,pb,kb⟩:=hb
 exact ⟨_,pe_op hr pa pb,a7L hg ka kb⟩
theorem a6V(ho:OpD X (compareOp op) g)(ha:EV X a fa)(hb:EV X b fb)(hm:behindInMarks op b=false:=by exact b5N _):EV X (.Compare a [op] [b] pos) (eBin g fa fb):=by
 obtain ⟨r,hr,hg⟩:=ho
 obtain ⟨ta,pa,ka⟩:=ha
 obtain ⟨tb,pb,kb⟩:=hb
 exact ⟨_,b6E hr pa pb hm,a7L hg ka kb⟩
noncomputable def asB:Option Sl->Option Bool
 | some (.sh (.bl b))=>some b
 | _=>none
theorem a5x{b:Bool}(h:asB o=some b):o=some (Sl.sh (.bl b)):=by
 cases o with
 | none=>cases h
 | some s=>cases s with
  | no=>cases h
  | ow ds=>cases h
  | dw ds=>cases h
  | sh d=>cases d<;>cases h;rfl
noncomputable def tOf(f:En->Option Sl):En->Option Bool:=λenv=>asB (f env)
theorem a9O{K:c0L}{O:Addr->Prop}{H:Hp}{v:V}{b:Bool}(h:Is K O H v (.bl b)):v=.bl b:=by cases h;rfl
theorem a03{K:c0L}{O:Addr->Prop}{H:Hp}{v:V}{b:Int}(h:Is K O H v (.int b)):v=.int b:=by cases h;rfl
theorem b2E{K:c0L}{O:Addr->Prop}{H:Hp}{v:V}(h:Is K O H v .non):v=.non:=by cases h;rfl
theorem b2D{K:c0L}{O:Addr->Prop}{H:Hp}{v:V}{b:Str}(h:Is K O H v (.str b)):v=.str b:=by cases h;rfl
theorem a0m(ho:OpD X (compareOp op) g)(ha:EV X a fa)(hb:EV X b fb)(hm:behindInMarks op b=false:=by exact b5N _):TV X (.Compare a [op] [b] pos) (tOf (eBin g fa fb)):=by
 obtain ⟨r,hr,hg⟩:=ho
 obtain ⟨ta,pa,ka⟩:=ha
 obtain ⟨tb,pb,kb⟩:=hb
 refine ⟨_,b6v hr pa pb hm,λO B σ H env k Q R e q=>?_⟩
 exact a7L hg ka kb O B σ H env _ _ R (a5x e) λv H' s h=>⟨k,a9O h,q H' s⟩
noncomputable def truD:D->Option Bool
 | .non=>some false
 | .bl b=>some b
 | .int i=>some (i != 0)
 | .str y=>if y.length<=16777216 then some ((y.length:Int) != 0) else none
 | .tup ds=>some (!ds.isEmpty)
 | .lst _ ds=>some (!ds.isEmpty)
 | .exc _=>none
 | .dct _ _=>none
theorem Iss.isEmpty{K:c0L}{O:Addr->Prop}{H:Hp}{xs:List V}{ds:List D}(h:Iss K O H xs ds):xs.isEmpty=ds.isEmpty:=by cases h<;>rfl
theorem b6h{K:c0L}{O:Addr->Prop}{H:Hp}{v:V}{d:D}{b:Bool}(h:Is K O H v d)(e:truD d=some b):TruV K v H b:=by
 cases h with
 | non=>cases e;rfl
 | bl b=>cases e;rfl
 | int i=>cases e;rfl
 | str x =>
  unfold truD at e
  dsimp only at e
  by_cases hl:x.length<=16777216
  .rw [if_pos hl] at e;cases e;exact ⟨by rw [c1G];exact hl,rfl⟩
  .rw [if_neg hl] at e;cases e
 | tup ho hp hs=>cases e;exact .inr (.inl ⟨_,.inl hp,by rw [hs.isEmpty]⟩)
 | ktup hp hs=>cases e;exact .inr (.inl ⟨_,a5s hp,by rw [hs.isEmpty]⟩)
 | lst ho hp hs=>cases e;exact .inl ⟨_,.inl (.inl hp),by rw [hs.isEmpty]⟩
 | rlst ho hp hs=>cases e;exact .inl ⟨_,.inl hp,by rw [hs.isEmpty]⟩
 | klst hp hs=>cases e;exact .inl ⟨_,a5t hp,by rw [hs.isEmpty]⟩
 | exc ho hn hp=>cases e
 | dct ho hp=>cases e
 | dctF ho hp=>cases e
noncomputable def tTru(f:En->Option Sl):En->Option Bool:=λenv=>(f env).bind λr=>truD r.d
theorem a2u(ha:EV X a fa)(he:∀whole,isTrue a X.env whole=(do let v <-whole;standAt a.pos;holding [v] (truthy v)):=by intro _;rfl):TV X a (tTru fa):=by
 obtain ⟨ta,pa,ka⟩:=ha
 refine ⟨_,b0j pa he,λO B σ H env k Q R e q=>?_⟩
 obtain ⟨r,e1,e2⟩:=bind_some e
 exact ka O B σ H env r _ R e1 λv H' s h=>⟨k,b6h (h.is λq=>R.oo) e2,q H' s⟩
noncomputable def b1Q(f:En->Option (Bool×List D)):En->Option Bool:=λenv=>(f env).bind λr=>some (!r.2.isEmpty)
theorem b1H{fa:En->Option (Bool×List D)}(ha:BV X a fa)(he:∀whole,isTrue a X.env whole=(do let v <-whole;standAt a.pos;holding [v] (truthy v)):=by intro _;rfl):TV X a (b1Q fa):=by
 obtain ⟨ta,pa,ka⟩:=ha
 refine ⟨_,b0j pa he,λO B σ H env k Q R e q=>?_⟩
 obtain ⟨⟨kk,ds⟩,e1,e2⟩:=bind_some e
 cases e2
 refine ka O B σ H env kk ds _ R e1 λp xs H' s h hs=>⟨_,?_,q H' s⟩
 cases kk with
 | true=>exact .inl ⟨xs,h,by rw [hs.isEmpty]⟩
 | false=>exact .inr (.inl ⟨xs,h,by rw [hs.isEmpty]⟩)
noncomputable def a5H(f g:En->Option Bool):En->Option Bool:=λenv=>match f env with
 | some true=>g env
 | some false=>some false
 | none=>none
noncomputable def tOrF(f g:En->Option Bool):En->Option Bool:=λenv=>match f env with
 | some false=>g env
 | some true=>some true
 | none=>none
noncomputable def a75(f:En->Option Bool):En->Option Bool:=λenv=>(f env).map (!·)
variable {ga gb:En->Option Bool}{rest:List Expr}
theorem a62(ha:TV X a ga):WV X (.BoolOp .And [a] pos) ga:=let ⟨t,p,k⟩:=ha;⟨t,b6s p,k⟩
theorem a6F(ha:TV X a ga):WV X (.BoolOp .Or [a] pos) ga:=let ⟨t,p,k⟩:=ha;⟨t,b8Y p,k⟩
theorem a99(ha:TV X a ga)(hb:WV X (.BoolOp .And (b::rest) pos) gb):WV X (.BoolOp .And (a::b::rest) pos) (a5H ga gb):=by
 obtain ⟨t,p,k⟩:=ha
 obtain ⟨u,p',k'⟩:=hb
 refine ⟨_,b8Z p p',λO B σ H env d Q R e q=>?_⟩
 unfold a5H at e
 cases h:ga env with
 | none=>rw [h] at e;cases e
 | some x =>
  rw [h] at e
  refine k O B σ H env x _ R h λH1 s1=>?_
  cases x with
  | true =>
   rw [if_pos rfl]
   exact k' O B σ H1 env d Q (R.grow s1) e λH2 s2=>q H2 (s1.trans s2)
  | false =>
   cases e
   rw [if_neg c1j]
   exact q H1 s1
theorem a70(ha:TV X a ga)(hb:WV X (.BoolOp .Or (b::rest) pos) gb):WV X (.BoolOp .Or (a::b::rest) pos) (tOrF ga gb):=by
 obtain ⟨t,p,k⟩:=ha
 obtain ⟨u,p',k'⟩:=hb
 refine ⟨_,pw_or p p',λO B σ H env d Q R e q=>?_⟩
 unfold tOrF at e
 cases h:ga env with
 | none=>rw [h] at e;cases e
 | some x =>
  rw [h] at e
  refine k O B σ H env x _ R h λH1 s1=>?_
  cases x with
  | false =>
   rw [if_neg c1j]
   exact k' O B σ H1 env d Q (R.grow s1) e λH2 s2=>q H2 (s1.trans s2)
  | true =>
   cases e
   rw [if_pos rfl]
   exact q H1 s1
theorem tv_w(h:WV X a ga):TV X a ga:=let ⟨t,p,k⟩:=h;⟨t,p.pt,k⟩
theorem a72(ha:TV X a ga):TV X (.UnaryOp .Not a pos) (a75 ga):=by
 obtain ⟨t,p,k⟩:=ha
 refine ⟨_,b80 p,λO B σ H env d Q R e q=>?_⟩
 unfold a75 at e
 cases h:ga env with
 | none=>rw [h] at e;cases e
 | some x =>
  rw [h] at e
  cases e
  exact k O B σ H env x _ R h λH1 s1=>q H1 s1
noncomputable def eAnd(f g:En->Option Sl):En->Option Sl:=λenv=>match asB (f env) with
 | some true=>g env
 | some false=>some (.sh (.bl false))
 | none=>none
noncomputable def eOr(f g:En->Option Sl):En->Option Sl:=λenv=>match asB (f env) with
 | some false=>g env
 | some true=>some (.sh (.bl true))
 | none=>none
noncomputable def eNot(f:En->Option Sl):En->Option Sl:=λenv=>(asB (f env)).map λb=>.sh (.bl !b)
theorem b9S(h:EV X a fa):EV X (.BoolOp op [a] pos) fa:=let ⟨t,p,k⟩:=h;⟨t,b89 p,k⟩
theorem b9T(ha:EV X a fa)(hb:EV X (.BoolOp .And (b::rest) pos) fb):EV X (.BoolOp .And (a::b::rest) pos) (eAnd fa fb):=by
 obtain ⟨t,p,k⟩:=ha
 obtain ⟨u,p',k'⟩:=hb
 refine ⟨_,b9f p p',λO B σ H env r Q R e q=>?_⟩
 unfold eAnd at e
 cases h:asB (fa env) with
 | none=>rw [h] at e;cases e
 | some x =>
  rw [h] at e
  refine k O B σ H env _ _ R (a5x h) λv H1 s1 r1=>⟨x,a9O r1,?_⟩
  cases x with
  | true =>
   rw [if_pos rfl]
   exact k' O B σ H1 env r Q (R.grow s1) e λv2 H2 s2 r2=>q v2 H2 (s1.trans s2) (r2.from s1)
  | false =>
   obtain rfl:=c0U e
   rw [if_neg c1j]
   exact q _ H1 s1 (Is.bl false)
noncomputable def eIf(c:En->Option Bool)(f g:En->Option Sl):En->Option Sl:=λenv=>match c env with
 | some true=>f env
 | some false=>g env
 | none=>none
theorem a5o(hc:TV X c ga)(ha:EV X a fa)(hb:EV X b fb):EV X (.IfExp c a b pos) (eIf ga fa fb):=by
 obtain ⟨tc,pc,kc⟩:=hc
 obtain ⟨t,p,k⟩:=ha
 obtain ⟨u,p',k'⟩:=hb
 refine ⟨_,b39 pc p p',λO B σ H env r Q R e q=>?_⟩
 unfold eIf at e
 cases h:ga env with
 | none=>rw [h] at e;cases e
 | some x =>
  rw [h] at e
  refine kc O B σ H env x _ R h λH1 s1=>?_
  cases x with
  | true =>
   rw [if_pos rfl]
   exact k O B σ H1 env r Q (R.grow s1) e λv2 H2 s2 r2=>q v2 H2 (s1.trans s2) (r2.from s1)
  | false =>
   rw [if_neg c1j]
   exact k' O B σ H1 env r Q (R.grow s1) e λv2 H2 s2 r2=>q v2 H2 (s1.trans s2) (r2.from s1)
noncomputable def gNeg:D->Option Sl
 | .int i=>some (.sh (.int (-i)))
 | _=>none
noncomputable def eNeg(f:En->Option Sl):En->Option Sl:=λenv=>(f env).bind λr=>gNeg r.d
theorem a5k(ha:EV X a fa):EV X (.UnaryOp .USub a pos) (eNeg fa):=by
 obtain ⟨t,p,k⟩:=ha
 refine ⟨_,pe_un b8E p,λO B σ H env r Q R e q=>?_⟩
 obtain ⟨x,e1,e2⟩:=bind_some e
 refine k O B σ H env x _ R e1 λv H1 s1 r1=>?_
 have hi:=r1.is λq=>R.oo
 cases hd:x.d with
 | int i =>
  rw [hd] at hi e2
  obtain rfl:=a03 hi
  obtain rfl:=c0U e2
  exact ⟨i,rfl,q _ H1 s1 (Is.int _)⟩
 | _=>rw [hd] at e2;cases e2
variable {e:Expr}{es:List Expr}
noncomputable def aNil:En->Option (List D):=λ_=>some []
noncomputable def a0b(f:En->Option Sl)(g:En->Option (List D)):En->Option (List D):=λenv=>(f env).bind λr=>(g env).bind λds=>some (r.d::ds)
theorem a0d:AV X [] aNil:=⟨_,a3I,λO B σ H env ds Q R e q=>by
 obtain rfl:=c0U e
 exact q [] H (Same.refl _) .nil⟩
theorem a0a(ha:EV X e fe)(hb:AV X es fs)(hs:starEach (e::es) X.env=(false,eval e X.env)::starEach es X.env:=by rfl):AV X (e::es) (a0b fe fs):=by
 obtain ⟨t,p,k⟩:=ha
 obtain ⟨u,p',k'⟩:=hb
 refine ⟨_,a2i p p' hs,λO B σ H env ds Q R e q=>?_⟩
 obtain ⟨r,e1,e2⟩:=bind_some e
 obtain ⟨ds',e4,e3⟩:=bind_some e2
 obtain rfl:=c0U e3
 refine k O B σ H env r _ R e1 λv H1 s1 r1=>?_
 refine k' O B σ H1 env ds' _ (R.grow s1) e4 λvs H2 s2 r2=>?_
 exact q _ H2 (s1.trans s2) (.cons ((r1.is λq=>R.oo).grow s2) r2)
theorem a08(h:H p=none)(o:HO):Same H (upd H p o):=λb u q=>by rw [a0q (a0A q h)];exact q
noncomputable def eTup(f:En->Option (List D)):En->Option Sl:=λenv=>(f env).bind λds=>if ds.length<=16777216 then some (.sh (.tup ds)) else none
noncomputable def eLst(f:En->Option (List D)):En->Option Sl:=λenv=>(f env).bind λds=>if ds.length<=16777216 then some (.ow ds) else none
theorem a0D{α:Type}{c:Prop}[Decidable c]{x y:α}(h:(if c then some x else none)=some y):c/\x=y:=by
 by_cases hc:c
 .rw [if_pos hc] at h;exact ⟨hc,c0U h⟩
 .rw [if_neg hc] at h;cases h
theorem a7n{K:c0L}{O:Addr->Prop}{H:Hp}{p:Addr}{xs:List V}{ds:List D}(hO:∀q,O q->H q≠none)(hp:H p=none)(h:Iss K O H xs ds):Res K O H (upd H p (.tup xs)) (.ref p) (.sh (.tup ds)):=
 Is.tup (λz=>hO p z hp) (.inl a0V) (h.grow (a08 hp _))
theorem a4f{K:c0L}{O:Addr->Prop}{H:Hp}{p:Addr}{xs:List V}{ds:List D}(hp:H p=none)(h:Iss K O H xs ds):Res K O H (upd H p (.lst xs)) (.ref p) (.ow ds):=
 ⟨p,xs,rfl,hp,a0V,h.map (λq hq hn z=>z.elim hn λw=>hq (by rw [w];exact hp)) λq u e _=>a08 hp _ q u e⟩
theorem a0C{x1}(h:AV X es fs):EV X (.Tuple es x1 pos) (eTup fs):=by
 obtain ⟨t,p,k⟩:=h
 refine ⟨_,b87 p,λO B σ H env r Q R e q=>?_⟩
 obtain ⟨ds,e1,e2⟩:=bind_some e
 obtain ⟨hl,rfl⟩:=a0D e2
 refine k O B σ H env ds _ R e1 λvs H1 s1 r1=>⟨by rw [r1.length,c1G];exact hl,λp hp=>?_⟩
 exact q _ _ (s1.trans (a08 hp _)) ((a7n (O:=OO O σ env) (H:=H1) (λ_ z=>(R.grow s1).oo z) hp r1).from s1)
theorem a0F(h:AV X es fs):EV X (.List es pos) (eLst fs):=by
 obtain ⟨t,p,k⟩:=h
 refine ⟨_,b9b p,λO B σ H env r Q R e q=>?_⟩
 obtain ⟨ds,e1,e2⟩:=bind_some e
 obtain ⟨hl,rfl⟩:=a0D e2
 refine k O B σ H env ds _ R e1 λvs H1 s1 r1=>⟨by rw [r1.length,c1G];exact hl,λp hp=>?_⟩
 exact q _ _ (s1.trans (a08 hp _)) ((a4f hp r1).from s1)
noncomputable def eIx(f:En->Option (Bool×List D))(g:En->Option Sl):En->Option Sl:=λenv=>(f env).bind λx=>(g env).bind λy=>match y.d with
 | .int i=>(atI x.2 i).map .sh
 | _=>none
theorem a0j{fa:En->Option (Bool×List D)}(ha:BV X a fa)(hb:EV X b fb)(hs:b3x b:=by exact λ_ _=>rfl):EV X (.Subscript a b pos) (eIx fa fb):=by
 obtain ⟨t,p,k⟩:=ha
 obtain ⟨u,p',k'⟩:=hb
 refine ⟨_,pe_ix b9D p p' hs,λO B σ H env r Q R e q=>?_⟩
 obtain ⟨⟨kk,ds⟩,e1,e2⟩:=bind_some e
 obtain ⟨y,e2,e3⟩:=bind_some e2
 refine k O B σ H env kk ds _ R e1 λl xs H1 s1 hq hx=>?_
 refine k' O B σ H1 env y _ (R.grow s1) e2 λw H2 s2 r2=>?_
 have hi:=r2.is λq=>(R.grow s1).oo
 cases hd:y.d with
 | int i =>
  rw [hd] at hi e3
  obtain rfl:=a03 hi
  dsimp only at e3
  cases h:atI ds i with
  | none=>rw [h] at e3;cases e3
  | some d =>
   rw [h] at e3
   obtain rfl:=c0U e3
   obtain ⟨v,h1,h2⟩:=(hx.grow s2).atI h
   have hq':=hq.grow s2
   have fin:=q v H2 (s1.trans s2) h2
   cases kk with
   | true=>exact .inl ⟨l,xs,i,v,rfl,rfl,hq',h1,fin⟩
   | false=>exact .inr (.inl ⟨l,xs,i,v,rfl,rfl,hq',h1,fin⟩)
 | _=>rw [hd] at e3;cases e3
end
noncomputable def LIM:Int:=10^250
theorem b6V(h1:-LIM<=j)(h2:j<=LIM):j.natAbs<2^900:=by
 have e:LIM<(2:Int)^900:=by unfold LIM;decide +kernel
 have e2:((2:Int)^900)=((2^900:Nat):Int):=by simp
 generalize (2^900:Nat)=m at *
 generalize LIM=l at *
 omega
theorem b2w(h1:-LIM<=j)(h2:j<=LIM):j.natAbs.log2<900:=by
 rcases Nat.eq_zero_or_pos j.natAbs with h0 | hp
 .rw [h0];decide
 .exact (Nat.log2_lt (c3n hp)).mpr (b6V h1 h2)
theorem b0t(h1:-LIM<=j)(h2:j<=LIM):c5s j<=900:=by
 have:=b2w h1 h2
 unfold c5s
 split<;>lia
def MulC(i j:Int):Prop:=(-(2^64)<i/\i<2^64)\/(-(2^64)<j/\j<2^64)\/((-LIM<=i/\i<=LIM)/\(-LIM<=j/\j<=LIM))
noncomputable instance (i j:Int):Decidable (MulC i j):=by unfold MulC;infer_instance
theorem MulC.ok(h:MulC i j):IntMulOk i j:=by
 rcases h with ⟨h1,h2⟩ | ⟨h1,h2⟩ | ⟨⟨h1,h2⟩,h3,h4⟩
 .exact .of_left (c4E h1 h2)
 .exact .of_right (c4E h1 h2)
 .exact mulOk_of_bits (b0t h1 h2) (b0t h3 h4) (by decide)
def DivC(_ j:Int):Prop:=0<j/\j<=LIM
noncomputable instance (i j:Int):Decidable (DivC i j):=by unfold DivC;infer_instance
def ModC(_ j:Int):Prop:=0<j
noncomputable instance (i j:Int):Decidable (ModC i j):=by unfold ModC;infer_instance
def PowC(i j:Int):Prop:=0<=j/\j<=1000000/\i.natAbs<2^64
noncomputable instance (i j:Int):Decidable (PowC i j):=by unfold PowC;infer_instance
noncomputable def gI(C:Int->Int->Prop)[∀i j,Decidable (C i j)](h:Int->Int->Int):D->D->Option Sl
 | .int i,.int j=>if C i j then some (.sh (.int (h i j))) else none
 | _,_=>none
noncomputable def gB(h:Int->Int->Bool):D->D->Option Sl
 | .int i,.int j=>some (.sh (.bl (h i j)))
 | _,_=>none
section
variable {X:Cx}
theorem b2l{f:Value->Value->Sem Value}{C:Int->Int->Prop}[∀i j,Decidable (C i j)]{h:Int->Int->Int}(ho:OpR X f (rI C λi j=>.int (h i j))):OpD X f (gI C h):=by
 refine ⟨_,ho,λO H x y a b s Q hO hx hy e q=>?_⟩
 cases a with
 | int i=>cases b with
  | int j =>
   obtain ⟨hc,rfl⟩:=a0D (show (if C i j then some (Sl.sh (.int (h i j))) else none)=some s from e)
   exact ⟨i,j,a03 hx,a03 hy,hc,q _ H (Same.refl _) (Is.int _)⟩
  | _=>cases e
 | _=>cases e
theorem b4d(ho:OpR X f (rI0 λi j=>.bl (h i j))):OpD X f (gB h):=by
 refine ⟨_,ho,λO H x y a b s Q hO hx hy e q=>?_⟩
 cases a with
 | int i=>cases b with
  | int j =>
   obtain rfl:=c0U (show some (Sl.sh (.bl (h i j)))=some s from e)
   exact ⟨i,j,a03 hx,a03 hy,q _ H (Same.refl _) (Is.bl _)⟩
  | _=>cases e
 | _=>cases e
noncomputable def gMul:D->D->Option Sl:=gI MulC λi j=>i*j
noncomputable def gDiv:D->D->Option Sl:=gI DivC λi j=>i/j
noncomputable def gMod:D->D->Option Sl:=gI ModC λi j=>i%j
noncomputable def gPow:D->D->Option Sl:=gI PowC λi j=>i^j.toNat
noncomputable def gSub:D->D->Option Sl:=gI (λ_ _=>True) λi j=>i-j
noncomputable def gLt:D->D->Option Sl:=gB λi j=>decide (i<j)
noncomputable def gLe:D->D->Option Sl:=gB λi j=>decide (i<=j)
noncomputable def gGt:D->D->Option Sl:=gB λi j=>decide (j<i)
noncomputable def gGe:D->D->Option Sl:=gB λi j=>decide (j<=i)
theorem a2j:OpD X (binaryOp .Mult) gMul:=b2l (opI λ_ _ _ _ _ _ _ (hc:MulC _ _) q=>mul_int q hc.ok)
theorem a3J:OpD X (binaryOp .FloorDiv) gDiv:=b2l (opI λi j _ _ _ _ _ (hc:DivC i j) q=>by
 have h1:(0:Int)<j:=hc.1
 have h2:=b2w (j:=j) (by have:(0:Int)<=LIM:=(by decide +kernel);exact zqa ‹_› (by decide)) hc.2
 exact floordiv_int (c4k ‹_›) (by rw [Int.fdiv_eq_ediv_of_nonneg i (c2C ‹_›)];exact q) (.inl (PyProof.noPylong_of_log2 (c02 ‹_› (by decide)))))
theorem a5Y:OpD X (binaryOp .Mod) gMod:=b2l (opI λi j _ _ _ _ _ (hc:ModC i j) q=>by
 have h1:(0:Int)<j:=hc
 exact mod_int' (c4k ‹_›) (by rw [Int.fmod_eq_emod_of_nonneg i (c2C ‹_›)];exact q))
theorem a8t:OpD X (binaryOp .Pow) gPow:=b2l (opI λ_ _ _ _ _ _ _ (hc:PowC _ _) q=>pow_int_small hc.1 hc.2.1 hc.2.2 q)
theorem a2E:OpD X (binaryOp .Sub) gSub:=b2l (opI λ_ _ _ _ _ _ _ _ q=>sub_int q)
theorem a27:OpD X (compareOp .Lt) gLt:=b4d op_lt
theorem b1j:OpD X (compareOp .LtE) gLe:=b4d op_le
theorem a7k:OpD X (compareOp .Gt) gGt:=b4d op_gt
theorem od_ge:OpD X (compareOp .GtE) gGe:=b4d op_ge
noncomputable def gAdd:D->D->Option Sl
 | .int i,.int j=>some (.sh (.int (i+j)))
 | .lst false a,.lst false b=>if a.length+b.length<=16777216 then some (.ow (a++b)) else none
 | .tup a,.tup b=>if a.length+b.length<=16777216 then some (.sh (.tup (a++b))) else none
 | .str a,.str b=>if a.length+b.length<=16777216 then some (.sh (.str (a++b))) else none
 | _,_=>none
theorem a8S{K:c0L}{O:Addr->Prop}{H:Hp}{v:V}{ds:List D}(h:Is K O H v (.tup ds)):∃p xs,v=.ref p/\SqT K H p xs/\Iss K O H xs ds:=by
 obtain ⟨p,xs,e,h1,h2⟩:=h.seq (k:=false) rfl
 exact ⟨p,xs,e,h1,h2⟩
theorem b0y{K:c0L}{O:Addr->Prop}{H:Hp}{v:V}{ds:List D}(h:Is K O H v (.lst false ds)):∃p xs,v=.ref p/\¬O p/\H p=some (.lst xs)/\Iss K O H xs ds:=by
 cases h with
 | lst ho hp hs=>exact ⟨_,_,rfl,ho,hp,hs⟩
theorem Iss.nil_iff{K:c0L}{O:Addr->Prop}{H:Hp}{xs:List V}{ds:List D}(h:Iss K O H xs ds):xs=[]↔ds=[]:=by cases h<;>simp
theorem a8E{α:Type}{c:Prop}{d:Decidable c}{x y:α}(h:(@ite _ c d (some x) none)=some y):c/\x=y:=a0D h
theorem a01:OpD X (binaryOp .Add) gAdd:=by
 refine ⟨_,op_add.or (op_cat.or (op_catT.or (op_add_str.or b6J))),λO H x y a b s Q hO hx hy e q=>?_⟩
 cases a with
 | int i=>cases b with
  | int j =>
   obtain rfl:=c0U (show some (Sl.sh (.int (i+j)))=some s from e)
   exact .inl ⟨i,j,a03 hx,a03 hy,q _ H (Same.refl _) (Is.int _)⟩
  | _=>cases e
 | lst r a=>cases r with
  | true=>cases b<;>cases e
  | false=>cases b with
   | lst r b=>cases r with
    | true=>cases e
    | false =>
     obtain ⟨hl,rfl⟩:=a0D (show (if a.length+b.length<=16777216 then some (Sl.ow (a++b)) else none)=some s from e)
     obtain ⟨p1,xs,rfl,_,h1,i1⟩:=b0y hx
     obtain ⟨p2,ys,rfl,_,h2,i2⟩:=b0y hy
     exact .inr (.inl ⟨p1,p2,xs,ys,rfl,rfl,h1,h2,by rw [i1.length,i2.length,c1G];exact hl,λp hp=>q _ _ (a08 hp _) (a4f hp (i1.append i2))⟩)
   | _=>cases e
 | tup a=>cases b with
  | tup b =>
   obtain ⟨hl,rfl⟩:=a8E (show (if a.length+b.length<=16777216 then some (Sl.sh (.tup (a++b))) else none)=some s from e)
   obtain ⟨p1,xs,rfl,h1,i1⟩:=a8S hx
   obtain ⟨p2,ys,rfl,h2,i2⟩:=a8S hy
   by_cases h0:a=[]
   .subst h0
    cases i1
    exact .inr (.inr (.inr (.inr ⟨p1,p2,ys,rfl,rfl,h1,h2,q _ H (Same.refl _) hy⟩)))
   refine .inr (.inr (.inl ⟨p1,p2,xs,ys,rfl,rfl,h1,h2,λz=>h0 (i1.nil_iff.mp z),by rw [i1.length,i2.length,c1G];exact hl,λz=>?_,λz p hp=>q _ _ (a08 hp _) (a7n hO hp (i1.append i2))⟩))
   have z':=i2.nil_iff.mp z
   subst z'
   rw [c1J] at q
   exact q _ H (Same.refl _) hx
  | _=>cases e
 | str a=>cases b with
  | str b =>
   obtain ⟨hl,rfl⟩:=a0D (show (if a.length+b.length<=16777216 then some (Sl.sh (.str (a++b))) else none)=some s from e)
   exact .inr (.inr (.inr (.inl ⟨a,b,b2D hx,b2D hy,by rw [c1G];exact hl,q _ H (Same.refl _) (Is.str _)⟩)))
  | _=>cases e
 | _=>cases e
theorem map_some{α β:Type}{o:Option α}{f:α->β}{b:β}(h:o.map f=some b):∃a,o=some a/\f a=b:=by
 cases o with
 | none=>cases h
 | some a=>exact ⟨a,rfl,c0U h⟩
noncomputable def D.isNon:D->Bool
 | .non=>true
 | _=>false
theorem b2K{K:c0L}{O:Addr->Prop}{H:Hp}{x:V}{a:D}(hx:Is K O H x a):decide (x=.non)=a.isNon:=by
 cases hx<;>simp [D.isNon]
noncomputable def gIsN:D->D->Option Sl:=λa b=>if b.isNon=true then some (.sh (.bl a.isNon)) else none
noncomputable def b4H:D->D->Option Sl:=λa b=>if b.isNon=true then some (.sh (.bl !a.isNon)) else none
theorem b0z{b:D}(h:b.isNon=true):b=.non:=by cases b<;>first | rfl | cases h
theorem b9o:OpD X (compareOp .Is) gIsN:=by
 refine ⟨_,b9k,λO H x y a b s Q hO hx hy e q=>?_⟩
 obtain ⟨hb,rfl⟩:=a0D e
 rw [b0z hb] at hy
 exact ⟨b2E hy,by rw [b2K hx];exact q _ H (Same.refl _) (Is.bl _)⟩
theorem b6O:OpD X (compareOp .IsNot) b4H:=by
 refine ⟨_,b6I,λO H x y a b s Q hO hx hy e q=>?_⟩
 obtain ⟨hb,rfl⟩:=a0D e
 rw [b0z hb] at hy
 exact ⟨b2E hy,by rw [b2K hx];exact q _ H (Same.refl _) (Is.bl _)⟩
end
section
variable {X:Cx}{a b c:Expr}{pos p:Pos}{fa fb:En->Option Sl}{es:List Expr}{e:Expr}
def b8C(X:Cx)(f:Value)(g:List D->Option Sl):Prop:=
 ∃r:List V->Hp->VK->Prop,CallR X f r/\∀(O:Addr->Prop) (H:Hp) (xs:List V) (ds:List D) (s:Sl) (Q:VK),(∀q,O q->H q≠none)->Iss X.K O H xs ds->g ds=some s ->
  (∀v H',Same H H'->Res X.K O H H' v s->Q v H')->r xs H Q
noncomputable def a4F(g:List D->Option Sl)(fs:En->Option (List D)):En->Option Sl:=λenv=>(fs env).bind g
theorem a3n{id:String}{x:Str}{g:List D->Option Sl}{fs:En->Option (List D)}(hc:b8C X (.builtin id) g)(hg:Gl X x)(hm:X.mg x=none)(hv:bootBuiltins x=some (.builtin id))(ha:AV X (e::es) fs)(hn:x ≠ "__name__":=by decide)(hdb:(x==("__debug__":Str))=false:=by decide)
  (he:starEach (e::es) X.env=(false,eval e X.env)::starEach es X.env:=by rfl)(hpl:(backTo pos (starEach es X.env)).any (·.1)=false:=by rfl):
  EV X (.Call (.Name x p) (e::es) [] pos) (a4F g fs):=by
 obtain ⟨r,hr,hg'⟩:=hc
 obtain ⟨t,pt,k⟩:=ha
 refine ⟨_,a22 hr hg hm hv pt hn hdb he hpl,λO B σ H env s Q R e q=>?_⟩
 obtain ⟨ds,e1,e2⟩:=bind_some e
 refine k O B σ H env ds _ R e1 λvs H1 s1 r1=>?_
 exact hg' (OO O σ env) H1 vs ds s Q (λq=>(R.grow s1).oo) r1 e2 λv H2 s2 r2=>q v H2 (s1.trans s2) (r2.from s1)
noncomputable def b1y:List D->Option Sl
 | [.int i,.int j]=>some (.sh (.int (if j<i then j else i)))
 | _=>none
noncomputable def a9X:List D->Option Sl
 | [.int i,.int j]=>some (.sh (.int (if j>i then j else i)))
 | _=>none
theorem a8G{K:c0L}{O:Addr->Prop}{H:Hp}{xs:List V}{i j:Int}(h:Iss K O H xs [.int i,.int j]):xs=[.int i,.int j]:=by
 cases h with
 | cons h t=>cases t with
  | cons h' t=>cases t;rw [a03 h,a03 h']
theorem b5D{g:Int->Int->Option Sl}{ds:List D}{s:Sl}(e:(match ds with | [.int i,.int j]=>g i j | _=>none)=some s):∃i j,ds=[.int i,.int j]/\g i j=some s:=by
 split at e
 .exact ⟨_,_,rfl,e⟩
 .cases e
theorem a9V(hc:X.calm=true):b8C X (.builtin "min") b1y:=by
 refine ⟨_,b3g hc,λO H xs ds s Q hO h e q=>?_⟩
 obtain ⟨i,j,rfl,e⟩:=b5D (g:=λi j=>some (.sh (.int (if j<i then j else i)))) e
 obtain rfl:=c0U e
 exact ⟨i,j,a8G h,q _ H (Same.refl _) (Is.int _)⟩
theorem a7J(hc:X.calm=true):b8C X (.builtin "max") a9X:=by
 refine ⟨_,b3h hc,λO H xs ds s Q hO h e q=>?_⟩
 obtain ⟨i,j,rfl,e⟩:=b5D (g:=λi j=>some (.sh (.int (if j>i then j else i)))) e
 obtain rfl:=c0U e
 exact ⟨i,j,a8G h,q _ H (Same.refl _) (Is.int _)⟩
noncomputable def eLen(f:En->Option (Bool×List D)):En->Option Sl:=λenv=>(f env).map λx=>.sh (.int x.2.length)
noncomputable def eList(f:En->Option (Bool×List D)):En->Option Sl:=λenv=>(f env).map λx=>.ow x.2
noncomputable def a8Z(f:En->Option (Bool×List D)):En->Option Sl:=λenv=>(f env).bind λx=>if x.1=true then some (.sh (.tup x.2)) else none
variable {ba:En->Option (Bool×List D)}
theorem a0X(hg:Gl X "len")(hm:X.mg "len" = none)(ha:BV X a ba)(hs:starEach [a] X.env=[(false,eval a X.env)]:=by rfl):EV X (.Call (.Name "len" p) [a] [] pos) (eLen ba):=by
 obtain ⟨t,pt,k⟩:=ha
 refine ⟨_,a22 a83 hg hm PySem.boot_len (a2i pt a3I hs) (by decide) (by decide) hs rfl,λO B σ H env s Q R e q=>?_⟩
 obtain ⟨⟨kk,ds⟩,e1,rfl⟩:=map_some e
 refine k O B σ H env kk ds _ R e1 λl xs H1 s1 hq hx=>⟨l,xs,rfl,?_,?_⟩
 .cases kk with
  | true=>exact .inl hq
  | false=>exact .inr hq
 .rw [hx.length]
  exact q _ H1 s1 (Is.int _)
theorem b0K(hg:Gl X "tuple")(hm:X.mg "tuple" = none)(ha:BV X a ba)(hs:starEach [a] X.env=[(false,eval a X.env)]:=by rfl):EV X (.Call (.Name "tuple" p) [a] [] pos) (a8Z ba):=by
 obtain ⟨t,pt,k⟩:=ha
 refine ⟨_,a8l a7K hg hm (by decide +kernel) (a2i pt a3I hs) (by decide) (by decide) hs rfl,λO B σ H env s Q R e q=>?_⟩
 obtain ⟨⟨kk,ds⟩,e1,e2⟩:=bind_some e
 obtain ⟨h1,rfl⟩:=a0D e2
 refine k O B σ H env kk ds _ R e1 λl xs H1 s1 hq hx=>⟨l,xs,rfl,?_⟩
 cases (show kk=true from h1)
 exact .inl ⟨hq,λp hp=>q _ _ (s1.trans (a08 hp _)) ((a7n (O:=OO O σ env) (H:=H1) (λ_ z=>(R.grow s1).oo z) hp hx).from s1)⟩
end
section
variable {K:c0L}{O:Addr->Prop}{B H H1:Hp}{σ:L2.St}{env:En}{v:V}{r:Sl}{i:Nat}
theorem b6H(h:Own (σ.set i (some v)) (env.set i r) q):Own σ env q\/(r.own/\v=.ref q):=by
 obtain ⟨j,t,h1,ho,h2⟩:=h
 by_cases hj:i=j
 .subst hj
  rw [c3E] at h1 h2
  rw [if_pos rfl] at h1 h2
  split at h1
  .cases h1
   split at h2
   .cases h2;exact .inr ⟨ho,rfl⟩
   .cases h2
  .cases h1
 .rw [c0Z hj] at h1 h2
  exact .inl ⟨j,t,h1,ho,h2⟩
theorem Res.fresh(h:Res K O B H v r)(ho:r.own):∃p,v=.ref p/\B p=none/\H p≠none:=by
 cases r with
 | no=>exact ho.elim
 | sh d=>exact ho.elim
 | ow ds=>obtain ⟨p,xs,e1,e2,e3,_⟩:=h;exact ⟨p,e1,e2,by rw [e3];exact λz=>nomatch z⟩
 | dw kvs=>obtain ⟨p,e1,e2,e3⟩:=h;exact ⟨p,e1,e2,by rw [e3];exact λz=>nomatch z⟩
theorem Rel.set(R:Rel K O B σ H env)(s:Same H H1)(h:Res K (OO O σ env) H H1 v r)(hi:i<env.length):
  Rel K O B (σ.set i (some v)) H1 (env.set i r)/\Gd σ env H (σ.set i (some v)) (env.set i r) H1:=by
 have new:∀q,Own (σ.set i (some v)) (env.set i r) q->Own σ env q\/(H q=none/\r.own/\v=.ref q):=λq z=>by
  rcases b6H z with z | ⟨ho,rfl⟩
  .exact .inl z
  .obtain ⟨p,e1,e2,_⟩:=h.fresh ho
   cases e1
   exact .inr ⟨e2,ho,rfl⟩
 have hO:∀q,H q≠none->¬OO O σ env q->¬OO O (σ.set i (some v)) (env.set i r) q:=λq hq hn z=>by
  rcases z with z | z
  .exact hn (.inl z)
  .rcases new q z with z | ⟨z,_⟩
   .exact hn (.inr z)
   .exact hq z
 have hH:∀q u,H q=some u->¬OO O σ env q->H1 q=some u:=λq u e _=>s q u e
 have hls:i<σ.length:=by rw [R.len];exact hi
 refine ⟨⟨R.same.trans s,R.dom,by simp [R.len],λj d e=>?_,λj ds e=>?_,λj kvs e=>?_,λj k ds es p e1 e2 e3 e4 o1 o2=>?_⟩,λq u e n=>⟨s q u e,λz=>?_⟩⟩
 .by_cases hj:i=j
  .subst hj
   rw [c05 hi] at e
   cases e
   refine ⟨v,by rw [c05 hls],Is.less (O:=OO O σ env) (λq z=>z.elim .inl λz=>?_) h⟩
   rcases new q z with z | ⟨_,z,_⟩
   .exact .inr z
   .exact z.elim
  .rw [c0Z hj] at e
   obtain ⟨w,e1,h1⟩:=R.sh j d e
   exact ⟨w,by rw [c0Z hj];exact e1,h1.map hO hH⟩
 .by_cases hj:i=j
  .subst hj
   rw [c05 hi] at e
   cases e
   obtain ⟨p,xs,rfl,e2,e3,h1⟩:=h
   refine ⟨p,xs,by rw [c05 hls],R.same.free e2,e3,h1.less λq z=>?_⟩
   rcases z with z | z
   .exact .inl (.inl z)
   .rcases new q z with z | ⟨_,_,z⟩
    .exact .inl (.inr z)
    .cases z;exact .inr rfl
  .rw [c0Z hj] at e
   obtain ⟨p,xs,e1,e2,e3,h1⟩:=R.ow j ds e
   exact ⟨p,xs,by rw [c0Z hj];exact e1,e2,s _ _ e3,h1.map hO hH⟩
 .by_cases hj:i=j
  .subst hj
   rw [c05 hi] at e
   cases e
   obtain ⟨p,rfl,e2,e3⟩:=h
   exact ⟨p,by rw [c05 hls],R.same.free e2,e3⟩
  .rw [c0Z hj] at e
   obtain ⟨p,e1,e2,e3⟩:=R.dw j kvs e
   exact ⟨p,by rw [c0Z hj];exact e1,e2,s _ _ e3⟩
 .have other:∀j t,j≠i->env[j]?=some t->t.own->σ[j]?=some (some (V.ref p))->r.own->v≠.ref p:=λj t hj e ho e' hr z=>by
   obtain ⟨p',rfl,e2,_⟩:=h.fresh hr
   cases z
   obtain ⟨p2,u,e5,_,e6⟩:=R.ad e ho
   rw [e'] at e5
   cases e5
   rw [e2] at e6
   cases e6
  by_cases hj:i=j
  .by_cases hk:i=k
   .rw [<-hj,<-hk]
   .subst hj
    rw [c05 hi] at e1
    rw [c05 hls] at e3
    rw [c0Z hk] at e2 e4
    cases e1
    cases e3
    exact absurd rfl (other k es (c2j hk) e2 o2 e4 o1)
  .by_cases hk:i=k
   .subst hk
    rw [c05 hi] at e2
    rw [c05 hls] at e4
    rw [c0Z hj] at e1 e3
    cases e2
    cases e4
    exact absurd rfl (other j ds (c2j hj) e1 o1 e3 o2)
   .rw [c0Z hj] at e1 e3
    rw [c0Z hk] at e2 e4
    exact R.sep j k ds es p e1 e2 e3 e4 o1 o2
 .rcases new q z with z | ⟨z,_⟩
  .exact n z
  .rw [e] at z;cases z
theorem Rel.wrG{p:Addr}{u':HO}{t t':Sl}(R:Rel K O B σ H env)(he:env[i]?=some t)(ho:t.own)(ho':t'.own)(hs:σ[i]?=some (some (V.ref p)))
  (hx:(∀ds',t'=.ow ds'->∃xs',u'=.lst xs'/\Iss K (OO O σ env) H xs' ds')/\∀kvs',t'=.dw kvs'->u'=dkV kvs'):
  Rel K O B σ (upd H p u') (env.set i t')/\Gd σ env H σ (env.set i t') (upd H p u'):=by
 have hi:i<env.length:=(c0V.mp he).1
 have own:∀q,Own σ (env.set i t') q->Own σ env q:=λq ⟨j,es,e1,e3,e2⟩=>by
  by_cases hj:i=j
  .subst hj;exact ⟨i,t,he,ho,e2⟩
  .rw [c0Z hj] at e1;exact ⟨j,es,e1,e3,e2⟩
 have own':Own σ env p:=⟨i,t,he,ho,hs⟩
 obtain ⟨p0,u0,f1,f2,f3⟩:=R.ad he ho
 rw [hs] at f1
 cases f1
 have hO:∀q,H q≠none->¬OO O σ env q->¬OO O σ (env.set i t') q:=λq _ hn z=>hn (z.elim .inl λz=>.inr (own q z))
 have hH:∀q u,H q=some u->¬OO O σ env q->upd H p u' q=some u:=λq u e n=>by
  rw [a0q (λz=>n (.inr (by rw [z];exact own')))]
  exact e
 refine ⟨⟨λq u e=>?_,R.dom,by simp [R.len],λj d e=>?_,λj es e=>?_,λj kvs e=>?_,λj k es fs q e1 e2 e3 e4 o1 o2=>?_⟩,λq u e n=>⟨?_,λz=>n (own q z)⟩⟩
 .rw [a0q (a0A e f2)];exact R.same q u e
 .by_cases hj:i=j
  .subst hj;rw [c05 hi] at e;cases e;exact ho'.elim
  .rw [c0Z hj] at e
   obtain ⟨w,e1,h1⟩:=R.sh j d e
   exact ⟨w,e1,h1.map hO hH⟩
 .by_cases hj:i=j
  .subst hj
   rw [c05 hi] at e
   cases e
   obtain ⟨xs',hu,hx'⟩:=hx.1 _ rfl
   exact ⟨p,xs',hs,f2,by rw [a0V,hu],hx'.map hO hH⟩
  .rw [c0Z hj] at e
   obtain ⟨p2,xs2,e1,e2,e3,h1⟩:=R.ow j es e
   refine ⟨p2,xs2,e1,e2,?_,h1.map hO hH⟩
   rw [a0q (λz=>hj (R.sep i j t _ p he e hs (by rw [e1,z]) ho trivial))]
   exact e3
 .by_cases hj:i=j
  .subst hj
   rw [c05 hi] at e
   cases e
   exact ⟨p,hs,f2,by rw [a0V,hx.2 _ rfl]⟩
  .rw [c0Z hj] at e
   obtain ⟨p2,e1,e2,e3⟩:=R.dw j kvs e
   refine ⟨p2,e1,e2,?_⟩
   rw [a0q (λz=>hj (R.sep i j t _ p he e hs (by rw [e1,z]) ho trivial))]
   exact e3
 .have fix:∀(j:Nat) (es:Sl),(env.set i t')[j]?=some es->es.own->∃gs:Sl,env[j]?=some gs/\gs.own:=λj es e o=>by
   by_cases hj:i=j
   .subst hj;exact ⟨t,he,ho⟩
   .rw [c0Z hj] at e;exact ⟨es,e,o⟩
  obtain ⟨g1,h1,q1⟩:=fix j es e1 o1
  obtain ⟨g2,h2,q2⟩:=fix k fs e2 o2
  exact R.sep j k g1 g2 q h1 h2 e3 e4 q1 q2
 .rw [a0q (λz=>n (by rw [z];exact own'))];exact e
theorem Rel.wr(R:Rel K O B σ H env)(he:env[i]?=some (Sl.ow ds))(hs:σ[i]?=some (some (V.ref p)))(hx:Iss K (OO O σ env) H xs' ds'):
  Rel K O B σ (upd H p (.lst xs')) (env.set i (.ow ds'))/\Gd σ env H σ (env.set i (.ow ds')) (upd H p (.lst xs')):=
 R.wrG (t':=.ow ds') he trivial trivial hs (c5F (λ_ e=>by cases e;exact ⟨xs',rfl,hx⟩) λ_ e=>nomatch e)
theorem Rel.frzG{t:Sl}(R:Rel K O B σ H env)(he:env[i]?=some t)(ho:t.own):Rel K O B σ H (env.set i (.sh t.d))/\Gd σ env H σ (env.set i (.sh t.d)) H:=by
 have hi:i<env.length:=(c0V.mp he).1
 obtain ⟨p,u0,f1,f2,f3⟩:=R.ad he ho
 have own:∀q,Own σ (env.set i (.sh t.d)) q->Own σ env q/\q≠p:=λq ⟨j,es,e1,o,e2⟩=>by
  by_cases hj:i=j
  .subst hj;rw [c05 hi] at e1;cases e1;exact o.elim
  .rw [c0Z hj] at e1
   exact ⟨⟨j,es,e1,o,e2⟩,λz=>hj (R.sep i j t es p he e1 f1 (by rw [e2,z]) ho o)⟩
 have less:∀q,OO O σ (env.set i (.sh t.d)) q->OO O σ env q:=λq z=>z.elim .inl λz=>.inr (own q z).1
 have np:¬OO O σ (env.set i (.sh t.d)) p:=λz=>z.elim (λz=>R.dom.1 p z f2) λz=>(own p z).2 rfl
 refine ⟨⟨R.same,R.dom,by simp [R.len],λj d e=>?_,λj es e=>?_,λj kvs e=>?_,λj k es fs q e1 e2 e3 e4 o1 o2=>?_⟩,λq u e n=>⟨e,λz=>n (own q z).1⟩⟩
 .by_cases hj:i=j
  .subst hj
   rw [c05 hi] at e
   cases e
   refine ⟨.ref p,f1,?_⟩
   cases t with
   | no=>exact ho.elim
   | sh d=>exact ho.elim
   | ow ds =>
    obtain ⟨p',xs,g1,g2,g3,g4⟩:=R.ow i ds he
    rw [f1] at g1;cases g1
    exact .lst np g3 (g4.less less)
   | dw kvs =>
    obtain ⟨p',g1,g2,g3⟩:=R.dw i kvs he
    rw [f1] at g1;cases g1
    exact .dct np g3
  .rw [c0Z hj] at e
   obtain ⟨w,e1,h1⟩:=R.sh j d e
   exact ⟨w,e1,h1.less less⟩
 .by_cases hj:i=j
  .subst hj;rw [c05 hi] at e;cases e
  .rw [c0Z hj] at e
   obtain ⟨p2,xs2,e1,e2,e3,h1⟩:=R.ow j es e
   exact ⟨p2,xs2,e1,e2,e3,h1.less less⟩
 .by_cases hj:i=j
  .subst hj;rw [c05 hi] at e;cases e
  .rw [c0Z hj] at e
   exact R.dw j kvs e
 .have fix:∀(j:Nat) (es:Sl),(env.set i (.sh t.d))[j]?=some es->es.own->env[j]?=some es:=λj es e o=>by
   by_cases hj:i=j
   .subst hj;rw [c05 hi] at e;cases e;exact o.elim
   .rw [c0Z hj] at e;exact e
  exact R.sep j k es fs q (fix j es e1 o1) (fix k fs e2 o2) e3 e4 o1 o2
theorem Rel.frz{ds:List D}(R:Rel K O B σ H env)(he:env[i]?=some (Sl.ow ds)):Rel K O B σ H (env.set i (.sh (.lst false ds)))/\Gd σ env H σ (env.set i (.sh (.lst false ds))) H:=R.frzG he trivial
end
section
variable {X:Cx}{st:Stmt}{rest:List Stmt}{F G:SF}{a b c e:Expr}{fa:En->Option Sl}{ga:En->Option Bool}{pos:Pos}
noncomputable def sNx:SF:=λenv=>some (.nx,env)
noncomputable def sBk:SF:=λenv=>some (.bk,env)
noncomputable def sCt:SF:=λenv=>some (.ct,env)
noncomputable def sSeq(F G:SF):SF:=λenv=>match F env with
 | some (.nx,env1)=>G env1
 | r=>r
theorem a0r:SVs X [] sNx:=⟨_,b6w,λO B σ H env fl env' D R e q=>by
 cases (show some (Fl.nx,env)=some (fl,env') from e)
 exact q σ H R (Gd.refl (Same.refl _))⟩
theorem a0f(h:SV X st F):SVs X [st] F:=let ⟨t,p,k⟩:=h;⟨t,b2f p,k⟩
theorem a0e(h:SV X st F)(h2:SVs X rest G):SVs X (st::rest) (sSeq F G):=by
 obtain ⟨t,p,k⟩:=h
 obtain ⟨u,p',k'⟩:=h2
 refine ⟨_,a7a p p',λO B σ H env fl env' D R e q=>?_⟩
 unfold sSeq at e
 cases hF:F env with
 | none=>rw [hF] at e;cases e
 | some x =>
  obtain ⟨f1,env1⟩:=x
  rw [hF] at e
  refine k O B σ H env f1 env1 _ R hF ?_
  cases f1 with
  | nx=>exact λσ' H' R' g'=>k' O B σ' H' env1 fl env' D R' e (q.from g')
  | bk=>cases e;exact q
  | ct=>cases e;exact q
  | rt r=>cases e;exact q
theorem b3O:SV X (.Break pos) sBk:=⟨_,b32,λO B σ H env fl env' D R e q=>by
 cases (show some (Fl.bk,env)=some (fl,env') from e)
 exact q σ H R (Gd.refl (Same.refl _))⟩
noncomputable def sIf(c:En->Option Bool)(F G:SF):SF:=λenv=>match c env with
 | some true=>F env
 | some false=>G env
 | none=>none
theorem a0M(hc:TV X c ga)(ha:SVs X sa F)(hb:SVs X sb G):SV X (.If c sa sb pos) (sIf ga F G):=by
 obtain ⟨tc,pc,kc⟩:=hc
 obtain ⟨t,p,k⟩:=ha
 obtain ⟨u,p',k'⟩:=hb
 refine ⟨_,b81 pc p p',λO B σ H env fl env' D R e q=>?_⟩
 unfold sIf at e
 cases h:ga env with
 | none=>rw [h] at e;cases e
 | some x =>
  rw [h] at e
  refine kc O B σ H env x _ R h λH1 s1=>?_
  cases x with
  | true =>
   rw [if_pos rfl]
   exact k O B σ H1 env fl env' D (R.grow s1) e (q.from (Gd.refl s1))
  | false =>
   rw [if_neg c1j]
   exact k' O B σ H1 env fl env' D (R.grow s1) e (q.from (Gd.refl s1))
noncomputable def sRet(f:En->Option Sl):SF:=λenv=>(f env).map λr=>(.rt r,env)
theorem a0k(h:EV X e fa):SV X (.Return (some e) pos) (sRet fa):=by
 obtain ⟨t,p,k⟩:=h
 refine ⟨_,b2g p,λO B σ H env fl env' D R e q=>?_⟩
 obtain ⟨r,e1,e2⟩:=map_some e
 cases e2
 exact k O B σ H env r _ R e1 λv H1 s1 r1=>q v H1 (R.same.trans s1) ((r1.from R.same).less λq z=>.inl z)
noncomputable def sRetN:SF:=λenv=>some (.rt (.sh .non),env)
noncomputable def a6r(i:Nat):SF:=λenv=>match env[i]? with
 | some (.ow ds)=>some (.rt (.ow ds),env)
 | some (.dw ds)=>some (.rt (.dw ds),env)
 | some (.sh d)=>some (.rt (.sh d),env)
 | _=>none
theorem b6l(i:Nat){x:Str}{p2:Pos}(hN:X.N[i]?=some x:=by rfl)(hv:Vis X.env.scope x:=by first | exact c1C rfl | exact c1q (c1C rfl) | exact c1q (c1q rfl))(hd:(x==("__debug__":Str))=false:=by decide)
  (hcd:(x==("__classdict__":Str))=false:=by decide):SV X (.Return (some (.Name x p2)) pos) (a6r i):=by
 refine ⟨_,b2g (a4x hN hv hd hcd),λO B σ H env fl env' D R e q=>?_⟩
 unfold a6r at e
 cases h:env[i]? with
 | none=>rw [h] at e;cases e
 | some s =>
  rw [h] at e
  cases s with
  | no=>cases e
  | sh d =>
   cases e
   obtain ⟨v,e2,hv⟩:=R.sh i d h
   exact ⟨v,e2,q v H R.same (Is.less (λq z=>.inl z) hv)⟩
  | ow ds =>
   cases e
   obtain ⟨p,xs,e1,e2,e3,h1⟩:=R.ow i ds h
   exact ⟨_,e1,q _ H R.same ⟨p,xs,rfl,e2,e3,h1.less λq z=>z.elim .inl λz=>.inr ⟨i,.ow ds,h,trivial,by rw [z];exact e1⟩⟩⟩
  | dw kvs =>
   cases e
   obtain ⟨p,e1,e2,e3⟩:=R.dw i kvs h
   exact ⟨_,e1,q _ H R.same ⟨p,rfl,e2,e3⟩⟩
noncomputable def sSet(i:Nat)(f:En->Option Sl):SF:=λenv=>(f env).bind λr=>if i<env.length then some (.nx,env.set i r) else none
theorem b5G(hN:X.N.Nodup)(hi:X.N[i]?=some x)(hx:Loc X.env.scope x)(he:EV X e fa)(hs:swapsWith e (some (.Name x pos')) pos.line X.env=pure false:=by rfl)(hf:X.fn x=true\/X.env.scope.names.lookup x=some .local:=by first | exact .inl rfl | exact .inr rfl | assumption):
  SV X (.Assign [.Name x pos'] e pos) (sSet i fa):=by
 obtain ⟨t,p,k⟩:=he
 refine ⟨_,b0l hN hi hx p hs hf,λO B σ H env fl env' D R e q=>?_⟩
 obtain ⟨r,e1,e2⟩:=bind_some e
 obtain ⟨hl,e3⟩:=a0D e2
 cases e3
 refine k O B σ H env r _ R e1 λv H1 s1 r1=>?_
 obtain ⟨R',g'⟩:=R.set s1 r1 hl
 exact q _ H1 R' g'
noncomputable def a0x(i:Nat)(f:En->Option Sl):SF:=λenv=>(f env).bind λr=>if i<env.length then some (.nx,env.set i (.sh r.d)) else none
theorem b1S(hN:X.N.Nodup)(hi:X.N[i]?=some x)(hx:Loc X.env.scope x)(he:EV X e fa)(hs:swapsWith e (some (.Name x pos')) pos.line X.env=pure false:=by rfl)(hf:X.fn x=true\/X.env.scope.names.lookup x=some .local:=by first | exact .inl rfl | exact .inr rfl | assumption):
  SV X (.Assign [.Name x pos'] e pos) (a0x i fa):=by
 obtain ⟨t,p,k⟩:=he
 refine ⟨_,b0l hN hi hx p hs hf,λO B σ H env fl env' D R e q=>?_⟩
 obtain ⟨r,e1,e2⟩:=bind_some e
 obtain ⟨hl,e3⟩:=a0D e2
 cases e3
 refine k O B σ H env r _ R e1 λv H1 s1 r1=>?_
 obtain ⟨R',g'⟩:=R.set (r:=.sh r.d) s1 (r1.is λq=>R.oo) hl
 exact q _ H1 R' g'
noncomputable def sDrop(f:En->Option Sl):SF:=λenv=>(f env).map λ_=>(.nx,env)
noncomputable def frzE(i:Nat)(env:En):En:=match env[i]? with
 | some (.ow ds)=>env.set i (.sh (.lst false ds))
 | some (.dw ds)=>env.set i (.sh (.dct false ds))
 | _=>env
noncomputable def sFrz(i:Nat)(F:SF):SF:=λenv=>F (frzE i env)
theorem b1T(i:Nat)(h:SV X st F):SV X st (sFrz i F):=by
 obtain ⟨t,p,k⟩:=h
 refine ⟨t,p,λO B σ H env fl env' D R e q=>?_⟩
 unfold sFrz frzE at e
 cases h:env[i]? with
 | none=>rw [h] at e;exact k O B σ H env fl env' D R e q
 | some s =>
  rw [h] at e
  cases s with
  | no=>exact k O B σ H env fl env' D R e q
  | sh d=>exact k O B σ H env fl env' D R e q
  | ow ds =>
   obtain ⟨R',g'⟩:=R.frz h
   exact k O B σ H _ fl env' D R' e (q.from g')
  | dw ds =>
   obtain ⟨R',g'⟩:=R.frzG h trivial
   exact k O B σ H _ fl env' D R' e (q.from g')
noncomputable def sApp(i:Nat)(f:En->Option Sl):SF:=λenv=>match env[i]? with
 | some (.ow ds)=>(f env).bind λr=>if ds.length<16777216 then some (.nx,env.set i (.ow (ds++[r.d]))) else none
 | _=>none
theorem a76{i:Nat}{x:Str}{p1 p2 cpos:Pos}(ha:EV X e fa)(hN:X.N[i]?=some x:=by rfl)(hv:Vis X.env.scope x:=by first | exact c1C rfl | exact c1q (c1C rfl) | exact c1q (c1q rfl))(hd:(x==("__debug__":Str))=false:=by decide)
  (hcd:(x==("__classdict__":Str))=false:=by decide)(hs:starEach [e] X.env=[(false,eval e X.env)]:=by rfl)
  (hbase:attributeBase (.Name x p1) "append" X.env (eval (.Name x p1) X.env)=eval (.Name x p1) X.env:=by rfl)
  (hfew:((backTo cpos (starEach [e] X.env)).all (λx=>!x.1)&&(backToKw cpos (keywordEach [] X.env)).all (λx=>x.1.isSome)
   && decide ([e].length+([]:List Keyword).length+(if ([]:List Keyword).isEmpty then 0 else 1)<30))=true:=by rfl)
  (hline:(p2.endLine==cpos.line)=true:=by rfl)
  (hsw:swapsWith (.Call (.Attribute (.Name x p1) "append" p2) [e] [] cpos) none pos.line X.env=pure false:=by rfl):
  SV X (.Expr (.Call (.Attribute (.Name x p1) "append" p2) [e] [] cpos) pos) (sApp i fa):=by
 obtain ⟨t,p,k⟩:=ha
 refine ⟨_,b2h (b9e c3t c43 PySem.F.type_list_append b2u (a4x hN hv hd hcd) (a2i p a3I hs) hbase hfew hline hs rfl) hsw,λO B σ H env fl env' D R e q=>?_⟩
 unfold sApp at e
 cases h:env[i]? with
 | none=>rw [h] at e;cases e
 | some s =>
  rw [h] at e
  cases s with
  | no=>cases e
  | sh d=>cases e
  | dw kvs=>cases e
  | ow ds =>
   obtain ⟨r,e1,e2⟩:=bind_some e
   obtain ⟨hl,e3⟩:=a0D e2
   cases e3
   obtain ⟨l,xs,f1,f2,f3,f4⟩:=R.ow i ds h
   refine ⟨_,f1,.inl ⟨rfl,_,SqL.of f3⟩,?_⟩
   refine k O B σ H env r _ R e1 λv H1 s1 r1=>⟨l,xs,v,rfl,rfl,s1 _ _ f3,by rw [f4.length,c1G];exact hl,?_⟩
   obtain ⟨R',g'⟩:=(R.grow s1).wr h f1 ((f4.grow s1).append (.cons (r1.is λq=>R.oo) .nil))
   exact q _ _ R' (g'.from s1)
end
section
variable {X:Cx}{st:Stmt}{F:SF}{a b c e tg it:Expr}{fa:En->Option Sl}{ba:En->Option (Bool×List D)}{ga:En->Option Bool}{pos:Pos}
noncomputable abbrev GF:=D->En->Option En
def GV(X:Cx)(tg:Expr)(g:GF):Prop:=
 ∃t:TG,PG X tg t/\∀(O:Addr->Prop) (B:Hp) (σ:L2.St) (H:Hp) (env env':En) (v:V) (d:D) (Q:L2.St->Hp->Prop),Rel X.K O B σ H env->Is X.K (OO O σ env) H v d->g d env=some env' ->
  (∀σ' H',Rel X.K O B σ' H' env'->Gd σ env H σ' env' H'->Q σ' H')->t v σ H Q
noncomputable def gN(i:Nat):GF:=λd env=>if i<env.length then some (env.set i (.sh d)) else none
theorem b7b(hN:X.N.Nodup)(hi:X.N[i]?=some x)(hx:Loc X.env.scope x)(hf:X.fn x=true\/X.env.scope.names.lookup x=some .local:=by first | exact .inl rfl | exact .inr rfl | assumption):GV X (.Name x pos) (gN i):=by
 refine ⟨_,b6C hN hi hx hf,λO B σ H env env' v d Q R h e q=>?_⟩
 obtain ⟨hl,rfl⟩:=a0D e
 obtain ⟨R',g'⟩:=R.set (r:=.sh d) (Same.refl _) h hl
 exact q _ H R' g'
noncomputable abbrev GFs:=List D->En->Option En
def GVs(X:Cx)(tg:List Expr)(g:GFs):Prop:=
 ∃t:TGs,PGs X tg t/\∀(O:Addr->Prop) (B:Hp) (σ:L2.St) (H:Hp) (env env':En) (v:List V) (d:List D) (Q:L2.St->Hp->Prop),Rel X.K O B σ H env->Iss X.K (OO O σ env) H v d->g d env=some env' ->
  (∀σ' H',Rel X.K O B σ' H' env'->Gd σ env H σ' env' H'->Q σ' H')->t v σ H Q
noncomputable def a6E:GFs:=λds env=>match ds with
 | []=>some env
 | _::_=>none
noncomputable def a1U(g:GF)(u:GFs):GFs:=λds env=>match ds with
 | d::r=>(g d env).bind (u r)
 | []=>none
theorem a4i:GVs X [] a6E:=by
 refine ⟨_,b6B,λO B σ H env env' v d Q R h e q=>?_⟩
 cases h with
 | nil=>cases e;exact ⟨rfl,q σ H R (Gd.refl (Same.refl _))⟩
 | cons _ _=>cases e
theorem Gd.iss{K:c0L}{O:Addr->Prop}{σ σ':L2.St}{env env':En}{H H':Hp}(g:Gd σ env H σ' env' H'){v:List V}{d:List D}(h:Iss K (OO O σ env) H v d):Iss K (OO O σ' env') H' v d:=
 h.map (λq hq hn z=>by
  cases e:H q with
  | none=>exact hq e
  | some u =>
   obtain ⟨_,n'⟩:=g q u e λw=>hn (.inr w)
   exact z.elim (λw=>hn (.inl w)) n') λq u e n=>(g q u e λw=>n (.inr w)).1
theorem a0W{es:List Expr}{g:GF}{u:GFs}(h1:GV X e g)(h2:GVs X es u)
  (hs:(assignEach (e::es) X.env).map (·.2)=assign e X.env::(assignEach es X.env).map (·.2):=by rfl):GVs X (e::es) (a1U g u):=by
 obtain ⟨t,p,k⟩:=h1
 obtain ⟨t',p',k'⟩:=h2
 refine ⟨_,b35 p p' hs,λO B σ H env env' v d Q R h e q=>?_⟩
 cases h with
 | nil=>cases e
 | cons h ht =>
  obtain ⟨env1,e1,e2⟩:=bind_some (show (g _ env).bind (u _)=some env' from e)
  refine ⟨_,_,rfl,k O B σ H env env1 _ _ _ R h e1 λσ1 H1 R1 g1=>?_⟩
  exact k' O B σ1 H1 env1 env' _ _ Q R1 (g1.iss ht) e2 λσ2 H2 R2 g2=>q σ2 H2 R2 (g1.trans g2)
noncomputable def gT(n:Nat)(u:GFs):GF:=λd env=>match d with
 | .tup ds=>if ds.length=n then u ds env else none
 | _=>none
theorem a6a{es:List Expr}{k n:Nat}{u:GFs}(hc:X.calm=true)(h:GVs X es u)(hn:(assignEach es X.env).length=n:=by rfl)(hst:(assignEach es X.env).findIdx? (·.1)=none:=by rfl):GV X (.Tuple es k pos) (gT n u):=by
 obtain ⟨t,p,k'⟩:=h
 refine ⟨_,b85 hc p hn hst,λO B σ H env env' v d Q R h e q=>?_⟩
 cases d with
 | tup ds =>
  have e':(if ds.length=n then u ds env else none)=some env':=e
  by_cases hl:ds.length=n
  .rw [if_pos hl] at e'
   obtain ⟨a,xs,rfl,h1,h2⟩:=a8S h
   exact ⟨a,xs,rfl,h1,by rw [h2.length];exact hl,k' O B σ H env env' xs ds Q R h2 e' q⟩
  .rw [if_neg hl] at e';cases e'
 | _=>cases e
noncomputable def sAsg(f:En->Option Sl)(g:GF):SF:=λenv=>(f env).bind λr=>(g r.d env).map λenv'=>(.nx,env')
noncomputable def forL(g:GF)(F:SF):List D->SF
 | [],env=>some (.nx,env)
 | d::ds,env=>match g d env with
  | none=>none
  | some env1=>match F env1 with
   | some (.nx,env2)=>forL g F ds env2
   | some (.ct,env2)=>forL g F ds env2
   | some (.bk,env2)=>some (.nx,env2)
   | some (.rt r,env2)=>some (.rt r,env2)
   | none=>none
structure Left(K:c0L)(O:Addr->Prop)(B:Hp)(σ0:L2.St)(H0:Hp)(env0:En)(g:GF)(F:SF)(ds:List D)(fl:Fl)(env':En)(i:Nat)(σ:L2.St)(H:Hp):Prop where
 ex:∃env,Rel K O B σ H env/\Gd σ0 env0 H0 σ env H/\forL g F (ds.drop i) env=some (fl,env')
theorem b0H{g:GF}{tgt:TG}{tb:TS}{O:Addr->Prop}{B:Hp}{σ0:L2.St}{H0:Hp}{env0 env':En}{fl:Fl}{D:Ends}{ds:List DL.D}{xs:List V}{i:Nat}{x:V}{σ:L2.St}{H:Hp}
  (kg:∀(O:Addr->Prop) (B:Hp) (σ:L2.St) (H:Hp) (env env':En) (v:V) (d:DL.D) (Q:L2.St->Hp->Prop),Rel X.K O B σ H env->Is X.K (OO O σ env) H v d->g d env=some env' ->
   (∀σ' H',Rel X.K O B σ' H' env'->Gd σ env H σ' env' H'->Q σ' H')->tgt v σ H Q)
  (kb:∀(O:Addr->Prop) (B:Hp) (σ:L2.St) (H:Hp) (env:En) (fl:Fl) (env':En) (D:Ends),Rel X.K O B σ H env->F env=some (fl,env')->EndOk X.K O B σ H env D fl env'->tb D σ H)
  (hx:Iss X.K (OO O σ0 env0) H0 xs ds)(hi:xs[i]?=some x)(q:EndOk X.K O B σ0 H0 env0 D fl env')(h:Left X.K O B σ0 H0 env0 g F ds fl env' i σ H):
  tgt x σ H λσ2 H2=>tb { D with nx:=Left X.K O B σ0 H0 env0 g F ds fl env' (i+1),ct:=Left X.K O B σ0 H0 env0 g F ds fl env' (i+1),bk:=D.nx } σ2 H2:=by
 obtain ⟨env,R,gd,e⟩:=h
 obtain ⟨d,hd,_⟩:=hx.getV hi
 have hil:i<ds.length:=(c0V.mp hd).1
 have hdr:ds.drop i=d::ds.drop (i+1):=by
  rw [c1r hil]
  rw [c07 hil] at hd
  rw [c0U hd]
 obtain ⟨x',hx',hxd⟩:=(gd.iss hx).get hd
 rw [hi] at hx'
 cases hx'
 rw [hdr,forL] at e
 cases hg:g d env with
 | none=>rw [hg] at e;cases e
 | some env1 =>
  rw [hg] at e
  refine kg O B σ H env env1 x d _ R hxd hg λσ1 H1 R1 g1=>?_
  dsimp only at e
  cases hF:F env1 with
  | none=>rw [hF] at e;cases e
  | some y =>
   obtain ⟨f2,env2⟩:=y
   rw [hF] at e
   have go:=gd.trans g1
   refine kb O B σ1 H1 env1 f2 env2 _ R1 hF ?_
   cases f2 with
   | nx=>exact λσ2 H2 R2 g2=>⟨env2,R2,go.trans g2,e⟩
   | ct=>exact λσ2 H2 R2 g2=>⟨env2,R2,go.trans g2,e⟩
   | bk=>cases e;exact λσ2 H2 R2 g2=>q σ2 H2 R2 (go.trans g2)
   | rt r=>cases e;exact q
theorem b0I{D:Ends}{ds:List DL.D}{n:Nat}(hn:ds.length<=n)
  (q:EndOk X.K O B σ0 H0 env0 D fl env')(h:Left X.K O B σ0 H0 env0 g F ds fl env' n σ H):D.nx σ H:=by
 obtain ⟨env,R,gd,e⟩:=h
 rw [c1F hn,forL] at e
 cases e
 exact q σ H R gd
noncomputable def sFor(f:En->Option Sl)(g:GF)(F:SF):SF:=λenv=>(f env).bind λr=>(seqD r.d).bind λx=>forL g F x.2 env
theorem Gd.sq{K:c0L}{σ σ':L2.St}{env env':En}{H H':Hp}(gd:Gd σ env H σ' env' H'){k:Bool}{p:Addr}{xs:List V}(h:Sq K H k p xs)(hp:¬Own σ env p\/H p=none):Sq K H' k p xs:=by
 have rd:∀u,Rd H p u->Rd H' p u:=λu z=>by
  rcases z with z | ⟨o,z⟩
  .rcases hp with hp | hp
   .exact .inl (gd p _ z hp).1
   .rw [hp] at z;cases z
  .rcases hp with hp | hp
   .exact .inr ⟨o,(gd p _ z hp).1⟩
   .rw [hp] at z;cases z
 cases k with
 | true =>
  rcases h with h | h
  .exact .inl (rd _ h)
  .exact .inr h
 | false =>
  rcases h with h | h
  .exact .inl (rd _ h)
  .exact .inr h
theorem Is.seqN{K:c0L}{O:Addr->Prop}{H:Hp}{v:V}{d:D}{k:Bool}{ds:List D}(h:Is K O H v d)(e:seqD d=some (k,ds)):∃p xs,v=.ref p/\Sq K H k p xs/\Iss K O H xs ds/\(¬O p\/∀H',Sq K H' k p xs):=by
 cases h with
 | tup ho hp hs=>cases e;exact ⟨_,_,rfl,.inl hp,hs,.inl ho⟩
 | ktup hp hs=>cases e;exact ⟨_,_,rfl,a5s hp,hs,.inr λ_=>a5s hp⟩
 | lst ho hp hs=>cases e;exact ⟨_,_,rfl,.inl (.inl hp),hs,.inl ho⟩
 | rlst ho hp hs=>cases e;exact ⟨_,_,rfl,.inl hp,hs,.inl ho⟩
 | klst hp hs=>cases e;exact ⟨_,_,rfl,a5t hp,hs,.inr λ_=>a5t hp⟩
 | _=>cases e
noncomputable def iSeq(K:c0L)(tl:TE):TI:=λσ H R=>tl σ H λx H1=>∃a,x=.ref a/\(((∃xs,SqL K H1 a xs)/\R (Itl K a) H1)\/((∃xs,SqT K H1 a xs)/\R (Itt K a) H1))
theorem b5L(hl:PE X l tl):PI X tg l (iSeq X.K tl):=by
 intro pins s σ H R I h
 refine thn (hl pins s σ H _ I h) λv s1 ⟨x,H1,I1,r1,q1⟩=>?_
 obtain ⟨a,e,q1⟩:=q1
 subst e
 cases r1
 rcases q1 with ⟨⟨xs,hq⟩,q⟩ | ⟨⟨xs,hq⟩,q⟩
 .obtain ⟨its,rv,p,hz⟩:=I1.list hq
  refine c2M p.isList ?_
  refine ⟨s1.heap.objs.size,[s1.heap.objs.size],_,_,H1,rfl,I1.kept (t':=s1.toks) λb o e=>c0M _ e,b1J a _,⟨_,c0Y _ rfl,rfl,rfl⟩,λb hb=>?_,q⟩
  have e:b=s1.heap.objs.size:=by simpa using hb
  subst e
  exact I1.fpOk (c0S _) (I1.hok.fresh (c0S _))
 .obtain ⟨its,rv,p,hz⟩:=I1.tuple hq
  refine c1S (show s1.heap.IsTuple a its.toArray from p) ?_
  refine ⟨s1.heap.objs.size,[s1.heap.objs.size],_,_,H1,rfl,I1.kept (t':=s1.toks) λb o e=>c0M _ e,b04 a _,⟨_,c0Y _ rfl,rfl,rfl⟩,λb hb=>?_,q⟩
  have e:b=s1.heap.objs.size:=by simpa using hb
  subst e
  exact I1.fpOk (c0S _) (I1.hok.fresh (c0S _))
theorem a3w(hp:PassesOwn (model X.prog X.w) X.A X.env X.xe)(hc:X.calm=true)(hi:EV X it fa)(hg:GV X tg g)(hb:SVs X body F)
  (hs:∀x,foldedSetIterable it X.env x=pure x:=by intro _;rfl):SV X (.For tg it body [] pos) (sFor fa g F):=by
 obtain ⟨ti,pi,ki⟩:=hi
 obtain ⟨tgt,pg,kg⟩:=hg
 obtain ⟨tb,pb,kb⟩:=hb
 refine ⟨_,b82 hp hc (b5L pi) pg pb hs,λO B σ H env fl env' D R e q=>?_⟩
 obtain ⟨r,e1,e2⟩:=bind_some e
 obtain ⟨⟨k,ds⟩,e4,e5⟩:=bind_some e2
 refine ki O B σ H env r _ R e1 λv H1 s1 r1=>?_
 obtain ⟨p,xs,rfl,h1,h2,h3⟩:=(r1.is λq=>R.oo).seqN e4
 refine ⟨p,rfl,?_⟩
 have q':EndOk X.K O B σ H1 env D fl env':=q.from (Gd.refl s1)
 have keep:∀i σ2 H2,Left X.K O B σ H1 env g F ds fl env' i σ2 H2->Sq X.K H2 k p xs:=λi σ2 H2 L=>by
  rcases h3 with h3 | h3
  .obtain ⟨env2,_,gd,_⟩:=L
   exact gd.sq h1 (.inl λz=>h3 (.inr z))
  .exact h3 H2
 cases k with
 | true =>
  refine .inl ⟨⟨xs,h1⟩,?_⟩
  exact b4J (xs:=xs) (Left X.K O B σ H1 env g F ds fl env') ⟨env,R.grow s1,Gd.refl (Same.refl _),e5⟩ (λi σ2 H2 _ L=>keep i σ2 H2 L) (λi x σ2 H2 hx L=>b0H kg kb h2 hx q' L) (λσ2 H2 L=>b0I (by rw [h2.length];exact c0S _) q' L)
 | false =>
  refine .inr ⟨⟨xs,h1⟩,?_⟩
  exact b7d (xs:=xs) (Left X.K O B σ H1 env g F ds fl env') ⟨env,R.grow s1,Gd.refl (Same.refl _),e5⟩ (λi σ2 H2 _ L=>keep i σ2 H2 L) (λi x σ2 H2 hx L=>b0H kg kb h2 hx q' L) (λσ2 H2 L=>b0I (by rw [h2.length];exact c0S _) q' L)
noncomputable def rngD(lo:Int)(n:Nat):List D:=(c1n n).map λ(k:Nat)=>D.int (lo+(k:Int))
def R62(i:Int):Prop:=-(2^62)<=i/\i<2^62
noncomputable instance (i:Int):Decidable (R62 i):=by unfold R62;infer_instance
noncomputable def rng1:List D->Option (List D)
 | [.int j]=>if R62 j then some (rngD 0 j.toNat) else none
 | _=>none
noncomputable def rng2:List D->Option (List D)
 | [.int i,.int j]=>if R62 i/\R62 j then some (rngD i (j-i).toNat) else none
 | _=>none
noncomputable def b8V(h:List D->Option (List D))(f:En->Option (List D))(g:GF)(F:SF):SF:=λenv=>(f env).bind λds=>(h ds).bind λis=>forL g F is env
theorem b4w{K:c0L}{O:Addr->Prop}{H:Hp}{xs:List V}{i:Int}(h:Iss K O H xs [.int i]):xs=[.int i]:=by
 cases h with
 | cons h t=>cases t;rw [a03 h]
noncomputable def whl(c:En->Option Bool)(F:SF):Nat->SF
 | 0,_=>none
 | n+1,env=>match c env with
  | none=>none
  | some false=>some (.nx,env)
  | some true=>match F env with
   | some (.nx,env2)=>whl c F n env2
   | some (.ct,env2)=>whl c F n env2
   | some (.bk,env2)=>some (.nx,env2)
   | some (.rt r,env2)=>some (.rt r,env2)
   | none=>none
noncomputable def a8d(m:En->Nat)(c:En->Option Bool)(F:SF):SF:=λenv=>whl c F (m env) env
theorem a65(m:En->Nat)(hp:PassesOwn (model X.prog X.w) X.A X.env X.xe)(hc:TV X c ga)(hb:SVs X body F):SV X (.While c body [] pos) (a8d m ga F):=by
 obtain ⟨tc,pc,kc⟩:=hc
 obtain ⟨tb,pb,kb⟩:=hb
 refine ⟨_,b31 hp pc pb,λO B σ H env fl env' D R e q=>?_⟩
 refine ⟨λn σ1 H1=>∃env1,Rel X.K O B σ1 H1 env1/\Gd σ env H σ1 env1 H1/\whl ga F n env1=some (fl,env'),⟨m env,env,R,Gd.refl (Same.refl _),e⟩,?_⟩
 rintro n σ1 H1 ⟨env1,R1,g1,e1⟩
 cases n with
 | zero=>cases e1
 | succ n =>
  rw [whl] at e1
  cases h:ga env1 with
  | none=>rw [h] at e1;cases e1
  | some x =>
   rw [h] at e1
   refine kc O B σ1 H1 env1 x _ R1 h λH2 s2=>?_
   cases x with
   | false =>
    rw [if_neg c1j]
    cases e1
    exact q σ1 H2 (R1.grow s2) (g1.trans (Gd.refl s2))
   | true =>
    rw [if_pos rfl]
    refine ⟨λσ' H'=>∃env2,Rel X.K O B σ' H' env2/\Gd σ env H σ' env2 H'/\whl ga F n env2=some (fl,env'),λσ' H' ⟨env2,a1,a2,a3⟩=>⟨n,c2y n,env2,a1,a2,a3⟩,?_⟩
    dsimp only at e1
    cases hF:F env1 with
    | none=>rw [hF] at e1;cases e1
    | some y =>
     obtain ⟨f2,env2⟩:=y
     rw [hF] at e1
     have go:=g1.trans (Gd.refl s2)
     refine kb O B σ1 H2 env1 f2 env2 _ (R1.grow s2) hF ?_
     cases f2 with
     | nx=>exact λσ2 H3 R2 g2=>⟨env2,R2,go.trans g2,e1⟩
     | ct=>exact λσ2 H3 R2 g2=>⟨env2,R2,go.trans g2,e1⟩
     | bk=>cases e1;exact λσ2 H3 R2 g2=>q σ2 H3 R2 (go.trans g2)
     | rt r=>cases e1;exact q
end
noncomputable def spD(K:c0L)(n:Nat)(φ:List D->Option Sl):Sp:=λvs H Q _=>∃(O:Addr->Prop) (ds:List D) (r:Sl),Dom K O H/\Iss K O H vs ds/\vs.length=n/\φ ds=some r /\
 ∀v H',Same H H'->Res K O H H' v r->Q v H'
noncomputable def a06(N:Nat)(ds:List D):En:=ds.map Sl.sh++c06 (N-ds.length) Sl.no
noncomputable def runF(F:SF)(N:Nat)(ds:List D):Option Sl:=match F (a06 N ds) with
 | some (.rt r,_)=>some r
 | some (.nx,_)=>some (.sh .non)
 | _=>none
theorem a5Q{K:c0L}{O:Addr->Prop}{H:Hp}{N:List Str}{vs:List V}{ds:List D}(hO:Dom K O H)(h:Iss K O H vs ds):Rel K O H (start N vs) H (a06 N.length ds):=by
 have hl:=h.length
 have nos:∀(i:Nat) (s:Sl),(a06 N.length ds)[i]?=some s->s.own->False:=λi s e1 o=>by
  unfold a06 at e1
  rw [c5k] at e1
  split at e1
  .rw [c1O] at e1
   obtain ⟨d,_,e⟩:=map_some e1
   cases e
   exact o
  .rw [c2U] at e1
   split at e1
   .cases e1;exact o
   .cases e1
 have no:∀p,¬Own (start N vs) (a06 N.length ds) p:=λp ⟨i,es,e1,o,_⟩=>nos i es e1 o
 refine ⟨Same.refl _,hO,?_,λi d e=>?_,λi es e=>(nos i _ e trivial).elim,λi es e=>(nos i _ e trivial).elim,λi j es fs p e _ _ _ o _=>(nos i _ e o).elim⟩
 .simp [L2.start,a06,hl]
 .unfold a06 at e
  rw [c5k] at e
  split at e
  .rename_i hi
   rw [c0P] at hi
   rw [c1O] at e
   obtain ⟨d',e1,e2⟩:=map_some e
   cases e2
   obtain ⟨x,hx,hd⟩:=h.get e1
   refine ⟨x,?_,hd.less λq z=>z.elim id λz=>(no q z).elim⟩
   unfold L2.start
   rw [c3d (by rw [c0P,hl];exact hi),c1O,hx]
   rfl
  .rw [c2U] at e
   split at e
   .cases e
   .cases e
section
variable {P:Program}{w:World}{K:c0L}{mg:Str->Option Value}{base:Heap}
theorem fn_d{x qual:Str}{st:Stmt}{f:Addr}{fd:FuncData}{N ps:List Str}{k:Nat}{F:SF}(Fn:Fun K x qual st f fd)(S:FnScope N ps (a0n st))
  (hbody:∀(cdv:Value) (A:Around) (outer:List Env) (s:Shared) (H:Hp) (E:XK),Room k (A.deeper (envOfC qual (a0n st) s.heap.objs.size f cdv)) ->
   SVs (cxOf CX0 P w K mg base N qual (a0n st) f cdv A outer s H E).nox (a0G st) F):FnOk P w K mg base CX0 (k+1) f fd ps (spD K ps.length (runF F N.length)):=by
 refine Fn.ok S (λvs H Q E h=>?_) (λcdv A outer s H vs Q E hr h=>?_)
 .obtain ⟨O,ds,r,_,_,hl,_⟩:=h
  exact hl
 obtain ⟨O,ds,r,hO,hi,hl,e,q⟩:=h
 obtain ⟨t,p,kk⟩:=hbody cdv A outer s H E hr
 refine ⟨t,p,?_⟩
 unfold runF at e
 cases hF:F (a06 N.length ds) with
 | none=>rw [hF] at e;cases e
 | some y =>
  obtain ⟨fl,env'⟩:=y
  rw [hF] at e
  refine kk O H (start N vs) H (a06 N.length ds) fl env' _ (a5Q hO hi) hF ?_
  cases fl with
  | nx=>cases e;exact λσ' H' R' _=>q .non H' R'.same Is.non
  | bk=>cases e
  | ct=>cases e
  | rt r=>cases e;exact λv H' s h=>q v H' s h
end
section
variable {X:Cx}{k:Nat}{f:Addr}{fd:FuncData}{ps:List Str}{φ:List D->Option Sl}{x:Str}{p pos:Pos}{e:Expr}{es:List Expr}{fs:En->Option (List D)}
noncomputable def a0h(n:Nat)(φ:List D->Option Sl)(fs:En->Option (List D)):En->Option Sl:=λenv=>(fs env).bind λds=>if ds.length=n then φ ds else none
theorem b3d(ka:∀(O:Addr->Prop) (B:Hp) (σ:L2.St) (H:Hp) (env:En) (ds:List D) (Q:List V->Hp->Prop),Rel X.K O B σ H env->fs env=some ds->(∀vs H',Same H H'->Iss X.K (OO O σ env) H' vs ds->Q vs H')->t σ H Q)
  (O:Addr->Prop)(B:Hp)(σ:L2.St)(H:Hp)(env:En)(r:Sl)(Q:VK)(R:Rel X.K O B σ H env)(e:a0h n φ fs env=some r)(q:∀v H',Same H H'->Res X.K (OO O σ env) H H' v r->Q v H'):b8L (spD X.K n φ) [] E t σ H Q:=by
 obtain ⟨ds,e1,e2⟩:=bind_some e
 refine ka O B σ H env ds _ R e1 λvs H1 s1 r1=>?_
 by_cases hn:ds.length=n
 .rw [if_pos hn] at e2
  rw [c1J]
  refine ⟨OO O σ env,ds,r,(R.grow s1).dm,r1,by rw [r1.length,hn],e2,λv H2 s2 r2=>q v H2 (s1.trans s2) (r2.from s1)⟩
 .rw [if_neg hn] at e2;cases e2
theorem b7l(F:FnOk X.prog X.w X.K X.mg X.base CX0 k f fd ps (spD X.K ps.length φ))(hr:Room k X.A)(hg:Gl X x)(hm:X.mg x=some (.ref f))(hk:c2o X.K (.ref f)=true)(hb:Binds X.K fd ps [])
  (ha:AV X (e::es) fs)(hdb:(x==("__debug__":Str))=false:=by decide)(he:starEach (e::es) X.env=(false,eval e X.env)::starEach es X.env:=by rfl)(hpl:(backTo pos (starEach es X.env)).any (·.1)=false:=by rfl):
  EV X (.Call (.Name x p) (e::es) [] pos) (a0h ps.length φ fs):=by
 obtain ⟨t,pt,ka⟩:=ha
 exact ⟨_,b2k F hr hg hm hk hb .nil b9g pt hdb he hpl,λO B σ H env r Q R e q=>b3d ka O B σ H env r Q R e q⟩
end
noncomputable def spT(K:c0L):Sp:=λvs H Q _=>∃(a:Addr) (ns:List Int),vs=[.ref a]/\SqL K H a (ns.map V.int)/\ns.length<=63/\Tb K H/\∀H',Same H H'->Q (.bl true) H'
theorem b9w{P:Program}{w:World}{K:c0L}{mg:Str->Option Value}{base:Heap}{k:Nat}{f:Addr}{fd:FuncData}{φ:List D->Option Sl}(F:FnOk P w K mg base CX0 k f fd ["script"] (spD K 1 φ))
  (h:∀ns:List Int,ns.length<=63->φ [.lst true (ns.map D.int)]=some (Sl.sh (.bl true))):FnOk P w K mg base CX0 k f fd ["script"] (spT K):=by
 refine F.imp λvs H Q E q=>?_
 obtain ⟨a,ns,rfl,hs,hl,tb,q⟩:=q
 refine ⟨λ_=>False,[.lst true (ns.map D.int)],_,⟨λ_ z=>z.elim,tb⟩,.cons ?_ .nil,rfl,h ns hl,λv H' sm r=>?_⟩
 .rcases hs with hs | hs
  .exact .rlst id hs (Iss.ints ns)
  .exact .klst (.inr hs) (Iss.ints ns)
 .have r':Is K (λ_=>False) H' v (.bl true):=r
  rw [a9O r']
  exact q H' sm
theorem walkD{l:c46}{q:Program}{loose:List Str}{XP:(Str->Option Value)->Heap->Prop}{YP:World->Heap->Prop}{d:DefRec}{K:Params->c0L}{k:Nat}(hk:Room k callerA)(hn:l.most=some 63)(hdf:d.params.defaults=[])
  {ts:List Addr}(hY:∀(w:World) (h:Heap),YP w h->(K w.params).In h/\∀P∈ts,h.get? P=some (c3c #[]))(hL:∀w:World,b4t (K w.params) ts=true)
  (F:∀(w:World) (mg:Str->Option Value) (fa:Addr) (h:Heap),(K w.params).In h->h.Ns mainGlobals mg->mg d.name=some (.ref fa) ->
   ∃fd:FuncData,(∀(s:Shared) (u:Value),BindsTo s fd ⟨[u],[]⟩ [("script",u)])/\∀base:Heap,(K w.params).In base->base.Ns mainGlobals mg->FnOk l.prog w (K w.params) mg base CX0 k fa fd ["script"] (spT (K w.params))):
  PySem.W.WalkO q loose XP YP l.row.toRowW d [] (λf vs=>c52 f vs):=
 L2.walk_of (n:=63) (k:=k) (x:="script") (CX:=λ_=>CX0) (sp:=λw=>spT (K w.params)) hn (by decide) hdf hk hY hL F (λw _ a ns hl tb hS=>⟨a,ns,rfl,hS,hl,tb,λ_ sm=>⟨rfl,tb.grow sm⟩⟩) λ_ _ _ _ _ z=>z
section
variable {X:Cx}{a:Expr}{pos p p2:Pos}{fa:En->Option Sl}
noncomputable def isiD(T:String):D->Bool
 | .non=>false
 | .bl _=>(T == "bool" || T == "int")
 | .int _=>(T == "int")
 | .str _=>(T == "str")
 | .tup _=>(T == "tuple")
 | .lst _ _=>(T == "list")
 | .exc _=>false
 | .dct _ _=>false
noncomputable def D.isExc:D->Bool
 | .exc _=>true
 | .dct _ _=>true
 | _=>false
noncomputable def isiO(T:String)(d:D):Option Sl:=if d.isExc=true then none else some (.sh (.bl (isiD T d)))
noncomputable def eIsi(T:String)(f:En->Option Sl):En->Option Sl:=λenv=>(f env).bind λr=>isiO T r.d
end
section
variable {X:Cx}{a b c e:Expr}{fa fb:En->Option Sl}{pos:Pos}
noncomputable def sExt(i:Nat)(f:En->Option Sl):SF:=λenv=>match env[i]? with
 | some (.ow ds)=>(f env).bind λr=>match r.d with
  | .lst false es=>if ds.length+es.length<=16777216 then some (.nx,env.set i (.ow (ds++es))) else none
  | _=>none
 | _=>none
theorem b1U{i:Nat}{x:Str}{p1 p2 cpos:Pos}(ha:EV X e fa)(hN:X.N[i]?=some x:=by rfl)(hv:Vis X.env.scope x:=by first | exact c1C rfl | exact c1q (c1C rfl) | exact c1q (c1q rfl))(hd:(x==("__debug__":Str))=false:=by decide)
  (hcd:(x==("__classdict__":Str))=false:=by decide)(hs:starEach [e] X.env=[(false,eval e X.env)]:=by rfl)
  (hbase:attributeBase (.Name x p1) "extend" X.env (eval (.Name x p1) X.env)=eval (.Name x p1) X.env:=by rfl)
  (hfew:((backTo cpos (starEach [e] X.env)).all (λx=>!x.1)&&(backToKw cpos (keywordEach [] X.env)).all (λx=>x.1.isSome)
   && decide ([e].length+([]:List Keyword).length+(if ([]:List Keyword).isEmpty then 0 else 1)<30))=true:=by rfl)
  (hline:(p2.endLine==cpos.line)=true:=by rfl)
  (hsw:swapsWith (.Call (.Attribute (.Name x p1) "extend" p2) [e] [] cpos) none pos.line X.env=pure false:=by rfl):
  SV X (.Expr (.Call (.Attribute (.Name x p1) "extend" p2) [e] [] cpos) pos) (sExt i fa):=by
 obtain ⟨t,p,k⟩:=ha
 refine ⟨_,b2h (b9e c3t c44 PySem.F.type_list_extend b2t (a4x hN hv hd hcd) (a2i p a3I hs) hbase hfew hline hs rfl) hsw,λO B σ H env fl env' D R e q=>?_⟩
 unfold sExt at e
 cases h:env[i]? with
 | none=>rw [h] at e;cases e
 | some s =>
  rw [h] at e
  cases s with
  | no=>cases e
  | sh d=>cases e
  | dw ds=>cases e
  | ow ds =>
   obtain ⟨r,e1,e2⟩:=bind_some e
   obtain ⟨l,xs,f1,f2,f3,f4⟩:=R.ow i ds h
   refine ⟨_,f1,.inl ⟨rfl,_,SqL.of f3⟩,?_⟩
   refine k O B σ H env r _ R e1 λv H1 s1 r1=>?_
   have hi:=r1.is λq=>R.oo
   cases hd:r.d with
   | lst ro es =>
    rw [hd] at hi e2
    cases ro with
    | true=>cases e2
    | false =>
     obtain ⟨hl,e3⟩:=a0D (show (if ds.length+es.length<=16777216 then some (Fl.nx,env.set i (.ow (ds++es))) else none)=some (fl,env') from e2)
     cases e3
     obtain ⟨b,zs,rfl,hb,g1,g2⟩:=b0y hi
     refine ⟨l,b,xs,zs,rfl,rfl,s1 _ _ f3,g1,by rw [f4.length,g2.length,c1G];exact hl,?_⟩
     obtain ⟨R',g'⟩:=(R.grow s1).wr h f1 ((f4.grow s1).append g2)
     exact q _ _ R' (g'.from s1)
   | _=>rw [hd] at e2;cases e2
noncomputable def sPop(i j:Nat):SF:=λenv=>match env[j]? with
 | some (.ow ds)=>(ds[ds.length-1]?).bind λd=>if i<env.length/\i≠j then some (.nx,(env.set j (.ow ds.dropLast)).set i (.sh d)) else none
 | _=>none
theorem b1R{i j:Nat}{x y:Str}{pos' p1 p2 cpos:Pos}(hN:X.N.Nodup)(hi:X.N[i]?=some x)(hx:Loc X.env.scope x)
  (hN2:X.N[j]?=some y:=by rfl)(hv:Vis X.env.scope y:=by first | exact c1C rfl | exact c1q (c1C rfl) | exact c1q (c1q rfl))(hd:(y==("__debug__":Str))=false:=by decide)
  (hcd:(y==("__classdict__":Str))=false:=by decide)
  (hbase:attributeBase (.Name y p1) "pop" X.env (eval (.Name y p1) X.env)=eval (.Name y p1) X.env:=by rfl)
  (hline:(p2.endLine==cpos.line)=true:=by rfl)
  (hs:swapsWith (.Call (.Attribute (.Name y p1) "pop" p2) [] [] cpos) (some (.Name x pos')) pos.line X.env=pure false:=by rfl)(hf:X.fn x=true\/X.env.scope.names.lookup x=some .local:=by first | exact .inl rfl | exact .inr rfl | assumption):
  SV X (.Assign [.Name x pos'] (.Call (.Attribute (.Name y p1) "pop" p2) [] [] cpos) pos) (sPop i j):=by
 refine ⟨_,b0l hN hi hx (b9d c3t c5E PySem.F.type_list_pop b9p (a4x hN2 hv hd hcd) hbase hline) hs hf,λO B σ H env fl env' D R e q=>?_⟩
 unfold sPop at e
 cases h:env[j]? with
 | none=>rw [h] at e;cases e
 | some s =>
  rw [h] at e
  cases s with
  | no=>cases e
  | sh d=>cases e
  | dw ds=>cases e
  | ow ds =>
   obtain ⟨d,e1,e2⟩:=bind_some e
   obtain ⟨⟨hl,hij⟩,e3⟩:=a8E e2
   cases e3
   obtain ⟨l,xs,f1,f2,f3,f4⟩:=R.ow j ds h
   obtain ⟨v,hv1,hv2⟩:=f4.get e1
   obtain ⟨R',g'⟩:=R.wr h f1 f4.dropLast
   refine ⟨_,f1,.inl ⟨rfl,_,SqL.of f3⟩,l,xs,v,rfl,rfl,f3,by rw [f4.length];exact hv1,?_⟩
   have hv3:Iss X.K (OO O σ (env.set j (.ow ds.dropLast))) (upd H l (.lst xs.dropLast)) [v] [d]:=g'.iss (.cons hv2 .nil)
   cases hv3 with
   | cons hv3 _ =>
    obtain ⟨R2,g2⟩:=R'.set (r:=.sh d) (i:=i) (Same.refl _) hv3 (by simp;exact hl)
    exact q _ _ R2 (g'.trans g2)
noncomputable def b19(i:Nat)(f g:En->Option Sl):SF:=λenv=>match env[i]? with
 | some (.ow ds)=>(f env).bind λr=>(g env).bind λk=>match k.d with
  | .int n=>(ixN ds.length n).bind λj=>some (.nx,env.set i (.ow (ds.set j r.d)))
  | _=>none
 | _=>none
theorem b6m{i:Nat}{x:Str}{p1 p2:Pos}(ha:EV X e fa)(hb:EV X b fb)(hN:X.N[i]?=some x:=by rfl)(hv:Vis X.env.scope x:=by first | exact c1C rfl | exact c1q (c1C rfl) | exact c1q (c1q rfl))(hd:(x==("__debug__":Str))=false:=by decide)
  (hcd:(x==("__classdict__":Str))=false:=by decide)
  (hsub:∀v,assign (.Subscript (.Name x p1) b p2) X.env v=(do
   let ov <-holding [v] (eval (.Name x p1) X.env)
   let iv <-holding [v,ov] (eval b X.env)
   standAt p2
   holding [v,ov,iv] (setItem ov iv v)
   release [v,ov,iv] []):=by intro _;rfl)
  (hs:swapsWithSole [.Subscript (.Name x p1) b p2] e pos.line X.env=pure false:=by rfl)(hw:swappedStores [.Subscript (.Name x p1) b p2] e X.env=pure none:=by rfl)
  (h1:(assignEach [.Subscript (.Name x p1) b p2] X.env).map (·.2)=[assign (.Subscript (.Name x p1) b p2) X.env]:=by rfl):
  SV X (.Assign [.Subscript (.Name x p1) b p2] e pos) (b19 i fa fb):=by
 obtain ⟨t,p,k⟩:=ha
 obtain ⟨t',p',k'⟩:=hb
 refine ⟨_,b83 p (b86 (a4x hN hv hd hcd) p' b0i hsub) hs hw h1,λO B σ H env fl env' D R e q=>?_⟩
 unfold b19 at e
 cases h:env[i]? with
 | none=>rw [h] at e;cases e
 | some s =>
  rw [h] at e
  cases s with
  | no=>cases e
  | sh d=>cases e
  | dw ds=>cases e
  | ow ds =>
   obtain ⟨r,e1,e2⟩:=bind_some e
   obtain ⟨kk,e2,e3⟩:=bind_some e2
   obtain ⟨l,xs,f1,f2,f3,f4⟩:=R.ow i ds h
   refine k O B σ H env r _ R e1 λv H1 s1 r1=>⟨_,f1,?_⟩
   refine k' O B σ H1 env kk _ (R.grow s1) e2 λw H2 s2 r2=>?_
   have hi:=r2.is λq=>(R.grow s1).oo
   cases hd:kk.d with
   | int n =>
    rw [hd] at hi e3
    obtain rfl:=a03 hi
    obtain ⟨j,e4,e5⟩:=bind_some (show (ixN ds.length n).bind (λj=>some (Fl.nx,env.set i (.ow (ds.set j r.d))))=some (fl,env') from e3)
    cases e5
    have s12:=s1.trans s2
    refine ⟨l,xs,n,j,rfl,rfl,s12 _ _ f3,by rw [f4.length];exact e4,?_⟩
    obtain ⟨R',g'⟩:=(R.grow s12).wr h f1 ((f4.grow s12).set ((r1.is λq=>R.oo).grow s2) j)
    exact q _ _ R' (g'.from s12)
   | _=>rw [hd] at e3;cases e3
def PP(X:Cx)(e:Option Expr)(f:En->Option (Option Int)):Prop:=
 ∃t:TO,PO X e t/\∀(O:Addr->Prop) (B:Hp) (σ:L2.St) (H:Hp) (env:En) (o:Option Int) (Q:Option Int->Hp->Prop),Rel X.K O B σ H env->f env=some o->(∀H',Same H H'->Q o H')->t σ H Q
noncomputable def pNo:En->Option (Option Int):=λ_=>some none
noncomputable def pSo(f:En->Option Sl):En->Option (Option Int):=λenv=>(f env).bind λr=>match r.d with
 | .int i=>some (some i)
 | _=>none
theorem a1W:PP X none pNo:=⟨_,b6z,λO B σ H env o Q R e q=>by
 obtain rfl:=c0U e
 exact q H (Same.refl _)⟩
theorem a1B(h:EV X e fa):PP X (some e) (pSo fa):=by
 obtain ⟨t,p,k⟩:=h
 refine ⟨_,b6y p,λO B σ H env o Q R e q=>?_⟩
 obtain ⟨r,e1,e2⟩:=bind_some e
 refine k O B σ H env r _ R e1 λv H1 s1 r1=>?_
 have hi:=r1.is λq=>R.oo
 cases hd:r.d with
 | int i =>
  rw [hd] at hi e2
  obtain rfl:=c0U e2
  exact ⟨i,a03 hi,q H1 s1⟩
 | _=>rw [hd] at e2;cases e2
noncomputable def cutD(xs:List D)(lo hi:Option Int):List D:=(xs.drop (HT.sIx xs.length 0 lo)).take (HT.sIx xs.length xs.length hi-HT.sIx xs.length 0 lo)
theorem Iss.cut{K:c0L}{O:Addr->Prop}{H:Hp}{xs:List V}{ds:List D}(h:Iss K O H xs ds)(lo hi:Option Int):Iss K O H (cutV xs lo hi) (cutD ds lo hi):=by
 unfold cutV cutD
 rw [h.length]
 exact (h.drop _).take _
noncomputable def eSl(f:En->Option (Bool×List D))(lo hi:En->Option (Option Int)):En->Option Sl:=λenv=>(f env).bind λx=>(lo env).bind λl=>(hi env).bind λh =>
 if x.1=true then some (.ow (cutD x.2 l h)) else if ¬(HT.sIx x.2.length 0 l=0/\HT.sIx x.2.length x.2.length h=x.2.length) then some (.sh (.tup (cutD x.2 l h))) else none
theorem a04{ba:En->Option (Bool×List D)}{lo hi:Option Expr}{fl fh:En->Option (Option Int)}{p2:Pos}(ha:BV X a ba)(hl:PP X lo fl)(hh:PP X hi fh):EV X (.Subscript a (.Slice lo hi none p2) pos) (eSl ba fl fh):=by
 obtain ⟨t,p,k⟩:=ha
 obtain ⟨tl,pl,kl⟩:=hl
 obtain ⟨th,ph,kh⟩:=hh
 refine ⟨_,b38 (sl_list.or b8R) p pl ph,λO B σ H env r Q R e q=>?_⟩
 obtain ⟨⟨kk,ds⟩,e1,e2⟩:=bind_some e
 obtain ⟨l,e2,e3⟩:=bind_some e2
 obtain ⟨h,e3,e4⟩:=bind_some e3
 refine k O B σ H env kk ds _ R e1 λpp xs H1 s1 hq hx=>?_
 refine kl O B σ H1 env l _ (R.grow s1) e2 λH2 s2=>?_
 refine kh O B σ H2 env h _ ((R.grow s1).grow s2) e3 λH3 s3=>?_
 have s12:=s1.trans (s2.trans s3)
 have hq':=hq.grow (s2.trans s3)
 have hx':=hx.grow (s2.trans s3)
 dsimp only at e4
 cases kk with
 | true =>
  rw [if_pos rfl] at e4
  obtain rfl:=c0U e4
  exact .inl ⟨pp,xs,rfl,hq',λp hp=>q _ _ (s12.trans (a08 hp _)) ((a4f hp (hx'.cut l h)).from s12)⟩
 | false =>
  rw [if_neg c1j] at e4
  obtain ⟨hw,rfl⟩:=a0D e4
  exact .inr ⟨pp,xs,rfl,hq',by rw [hx'.length];exact hw,λp hp=>q _ _ (s12.trans (a08 hp _)) ((a7n (O:=OO O σ env) (H:=H3) (λ_ z=>(R.grow s12).oo z) hp (hx'.cut l h)).from s12)⟩
noncomputable def eSlT(f:En->Option Sl)(lo hi:En->Option (Option Int)):En->Option Sl:=λenv=>(f env).bind λx=>(lo env).bind λl=>(hi env).bind λh=>match x.d with
 | .tup ds=>some (.sh (.tup (cutD ds l h)))
 | _=>none
end
structure Def(K:c0L)(mg:Str->Option Value)(x:Str)(st:Stmt)(ps:List Str)(f:Addr)(fd:FuncData):Prop where
 fn:Fun K x x st f fd
 bd:Binds K fd ps []
 m:mg x=some (.ref f)
end DL
namespace DL
open PySem PySem.Spec PyProof.Rows L2
structure Fx(X:Cx)(N:List Str)(sc:Scope)(k:Nat)(full:Bool:=true):Prop where
 n:X.N=N
 sc:X.env.scope=sc
 calm:X.calm=true
 fn:full=true->∀x,X.fn x=true
 own:PassesOwn (model X.prog X.w) X.A X.env X.xe
 room:Room k X.A
 nd:N.Nodup
 top:full=true->X.stack=X.env::X.outer/\X.env.frame=some X.env.locals/\X.ex=[]
section
variable {X:Cx}{N:List Str}{sc:Scope}{k:Nat}{full:Bool}{pos p p1 p2 pos' cpos:Pos}{e a b:Expr}{fa fb:En->Option Sl}
theorem Fx.vis(h:Fx X N sc k full)(hv:Vis sc x):Vis X.env.scope x:=by rw [h.sc];exact hv
theorem Fx.loc(h:Fx X N sc k full)(hv:Loc sc x):Loc X.env.scope x:=by rw [h.sc];exact hv
theorem Fx.ix(h:Fx X N sc k full){i:Nat}{x:Str}(hN:N[i]?=some x):X.N[i]?=some x:=by rw [h.n];exact hN
theorem Fx.sto(h:Fx X N sc k full)(hf:full=true\/sc.names.lookup x=some .local):X.fn x=true\/X.env.scope.names.lookup x=some .local:=hf.elim (λe=>.inl (h.fn e x)) λe=>.inr (by rw [h.sc];exact e)
theorem Fx.nod(h:Fx X N sc k full):X.N.Nodup:=by rw [h.n];exact h.nd
theorem Fx.g(h:Fx X N sc k full)(hg:sc.names.lookup x=some .globalImplicit:=by rfl):Gl X x:=by
 show X.env.kindOf x=some .globalImplicit
 unfold c4C
 rw [h.sc]
 exact hg
theorem Fx.v(h:Fx X N sc k full)(i:Nat)(hN:N[i]?=some x:=by rfl)(hv:Vis sc x:=by first | exact c1C rfl | exact c1q (c1C rfl) | exact c1q (c1q rfl))(hd:(x==("__debug__":Str))=false:=by rfl)
  (hcd:(x==("__classdict__":Str))=false:=by rfl):EV X (.Name x pos) (eV i):=b51 i (h.ix hN) (h.vis hv) hd hcd
theorem Fx.bv(h:Fx X N sc k full)(i:Nat)(hN:N[i]?=some x:=by rfl)(hv:Vis sc x:=by first | exact c1C rfl | exact c1q (c1C rfl) | exact c1q (c1q rfl))(hd:(x==("__debug__":Str))=false:=by rfl)
  (hcd:(x==("__classdict__":Str))=false:=by rfl):BV X (.Name x pos) (bV i):=b96 i (h.ix hN) (h.vis hv) hd hcd
theorem Fx.tg(h:Fx X N sc k full)(i:Nat)(hN:N[i]?=some x:=by rfl)(hv:Loc sc x:=by first | exact c1C rfl | exact c1q rfl)(hf:full=true\/sc.names.lookup x=some .local:=by first | exact c1C rfl | exact c1q rfl):GV X (.Name x pos) (gN i):=b7b h.nod (h.ix hN) (h.loc hv) (h.sto hf)
theorem Fx.set(h:Fx X N sc k full)(i:Nat)(he:EV X e fa)(hN:N[i]?=some x:=by rfl)(hv:Loc sc x:=by first | exact c1C rfl | exact c1q rfl)
  (hs:swapsWith e (some (.Name x pos')) pos.line X.env=pure false:=by rfl)(hf:full=true\/sc.names.lookup x=some .local:=by first | exact c1C rfl | exact c1q rfl):SV X (.Assign [.Name x pos'] e pos) (sSet i fa):=b5G h.nod (h.ix hN) (h.loc hv) he hs (h.sto hf)
theorem Fx.setF(h:Fx X N sc k full)(i:Nat)(he:EV X e fa)(hN:N[i]?=some x:=by rfl)(hv:Loc sc x:=by first | exact c1C rfl | exact c1q rfl)
  (hs:swapsWith e (some (.Name x pos')) pos.line X.env=pure false:=by rfl)(hf:full=true\/sc.names.lookup x=some .local:=by first | exact c1C rfl | exact c1q rfl):SV X (.Assign [.Name x pos'] e pos) (a0x i fa):=b1S h.nod (h.ix hN) (h.loc hv) he hs (h.sto hf)
theorem Fx.retO(h:Fx X N sc k full)(i:Nat)(hN:N[i]?=some x:=by rfl)(hv:Vis sc x:=by first | exact c1C rfl | exact c1q (c1C rfl) | exact c1q (c1q rfl))(hd:(x==("__debug__":Str))=false:=by rfl)
  (hcd:(x==("__classdict__":Str))=false:=by rfl):SV X (.Return (some (.Name x p2)) pos) (a6r i):=b6l i (h.ix hN) (h.vis hv) hd hcd
theorem Fx.app(h:Fx X N sc k full)(i:Nat)(ha:EV X e fa)(hN:N[i]?=some x:=by rfl)(hv:Vis sc x:=by first | exact c1C rfl | exact c1q (c1C rfl) | exact c1q (c1q rfl))(hd:(x==("__debug__":Str))=false:=by rfl)
  (hcd:(x==("__classdict__":Str))=false:=by rfl)(hs:starEach [e] X.env=[(false,eval e X.env)]:=by rfl)
  (hbase:attributeBase (.Name x p1) "append" X.env (eval (.Name x p1) X.env)=eval (.Name x p1) X.env:=by rfl)
  (hfew:((backTo cpos (starEach [e] X.env)).all (λx=>!x.1)&&(backToKw cpos (keywordEach [] X.env)).all (λx=>x.1.isSome)
   && decide ([e].length+([]:List Keyword).length+(if ([]:List Keyword).isEmpty then 0 else 1)<30))=true:=by rfl)
  (hline:(p2.endLine==cpos.line)=true:=by rfl)
  (hsw:swapsWith (.Call (.Attribute (.Name x p1) "append" p2) [e] [] cpos) none pos.line X.env=pure false:=by rfl):
  SV X (.Expr (.Call (.Attribute (.Name x p1) "append" p2) [e] [] cpos) pos) (sApp i fa):=a76 ha (h.ix hN) (h.vis hv) hd hcd hs hbase hfew hline hsw
theorem Fx.ext(h:Fx X N sc k full)(i:Nat)(ha:EV X e fa)(hN:N[i]?=some x:=by rfl)(hv:Vis sc x:=by first | exact c1C rfl | exact c1q (c1C rfl) | exact c1q (c1q rfl))(hd:(x==("__debug__":Str))=false:=by rfl)
  (hcd:(x==("__classdict__":Str))=false:=by rfl)(hs:starEach [e] X.env=[(false,eval e X.env)]:=by rfl)
  (hbase:attributeBase (.Name x p1) "extend" X.env (eval (.Name x p1) X.env)=eval (.Name x p1) X.env:=by rfl)
  (hfew:((backTo cpos (starEach [e] X.env)).all (λx=>!x.1)&&(backToKw cpos (keywordEach [] X.env)).all (λx=>x.1.isSome)
   && decide ([e].length+([]:List Keyword).length+(if ([]:List Keyword).isEmpty then 0 else 1)<30))=true:=by rfl)
  (hline:(p2.endLine==cpos.line)=true:=by rfl)
  (hsw:swapsWith (.Call (.Attribute (.Name x p1) "extend" p2) [e] [] cpos) none pos.line X.env=pure false:=by rfl):
  SV X (.Expr (.Call (.Attribute (.Name x p1) "extend" p2) [e] [] cpos) pos) (sExt i fa):=b1U ha (h.ix hN) (h.vis hv) hd hcd hs hbase hfew hline hsw
theorem Fx.pop(h:Fx X N sc k full)(i j:Nat){x y:Str}(hN:N[i]?=some x:=by rfl)(hx:Loc sc x:=by first | exact c1C rfl | exact c1q rfl)(hN2:N[j]?=some y:=by rfl)(hv:Vis sc y:=by first | exact c1C rfl | exact c1q (c1C rfl) | exact c1q (c1q rfl))
  (hd:(y==("__debug__":Str))=false:=by rfl)(hcd:(y==("__classdict__":Str))=false:=by rfl)
  (hbase:attributeBase (.Name y p1) "pop" X.env (eval (.Name y p1) X.env)=eval (.Name y p1) X.env:=by rfl)
  (hline:(p2.endLine==cpos.line)=true:=by rfl)
  (hs:swapsWith (.Call (.Attribute (.Name y p1) "pop" p2) [] [] cpos) (some (.Name x pos')) pos.line X.env=pure false:=by rfl)(hf:full=true\/sc.names.lookup x=some .local:=by first | exact c1C rfl | exact c1q rfl):
  SV X (.Assign [.Name x pos'] (.Call (.Attribute (.Name y p1) "pop" p2) [] [] cpos) pos) (sPop i j):=b1R h.nod (h.ix hN) (h.loc hx) (h.ix hN2) (h.vis hv) hd hcd hbase hline hs (h.sto hf)
theorem Fx.item(h:Fx X N sc k full)(i:Nat){x:Str}(ha:EV X e fa)(hb:EV X b fb)(hN:N[i]?=some x:=by rfl)(hv:Vis sc x:=by first | exact c1C rfl | exact c1q (c1C rfl) | exact c1q (c1q rfl))(hd:(x==("__debug__":Str))=false:=by rfl)
  (hcd:(x==("__classdict__":Str))=false:=by rfl)
  (hsub:∀v,assign (.Subscript (.Name x p1) b p2) X.env v=(do
   let ov <-holding [v] (eval (.Name x p1) X.env)
   let iv <-holding [v,ov] (eval b X.env)
   standAt p2
   holding [v,ov,iv] (setItem ov iv v)
   release [v,ov,iv] []):=by intro _;rfl)
  (hs:swapsWithSole [.Subscript (.Name x p1) b p2] e pos.line X.env=pure false:=by rfl)(hw:swappedStores [.Subscript (.Name x p1) b p2] e X.env=pure none:=by rfl)
  (h1:(assignEach [.Subscript (.Name x p1) b p2] X.env).map (·.2)=[assign (.Subscript (.Name x p1) b p2) X.env]:=by rfl):
  SV X (.Assign [.Subscript (.Name x p1) b p2] e pos) (b19 i fa fb):=b6m ha hb (h.ix hN) (h.vis hv) hd hcd hsub hs hw h1
end
theorem lenV0{us:List Value}(h:us.length=0):us=[]:=by
 exact c2m.mp h
theorem b9v{us:List Value}(h:us.length=1):∃a0,us=[a0]:=by
 cases us with
 | nil=>cases h
 | cons a r =>
  have:=lenV0 (us:=r) (by simpa using h)
  exact ⟨a,by rw [this]⟩
theorem b9u{us:List Value}(h:us.length=2):∃a0 a1,us=[a0,a1]:=by
 cases us with
 | nil=>cases h
 | cons a r =>
  have:=b9v (us:=r) (by simpa using h)
  obtain ⟨b0,e⟩:=this
  exact ⟨a,b0,by rw [e]⟩
theorem b9t{us:List Value}(h:us.length=3):∃a0 a1 a2,us=[a0,a1,a2]:=by
 cases us with
 | nil=>cases h
 | cons a r =>
  have:=b9u (us:=r) (by simpa using h)
  obtain ⟨b0,b1,e⟩:=this
  exact ⟨a,b0,b1,by rw [e]⟩
theorem b9s{us:List Value}(h:us.length=4):∃a0 a1 a2 a3,us=[a0,a1,a2,a3]:=by
 cases us with
 | nil=>cases h
 | cons a r =>
  have:=b9t (us:=r) (by simpa using h)
  obtain ⟨b0,b1,b2,e⟩:=this
  exact ⟨a,b0,b1,b2,by rw [e]⟩
theorem lenV5{us:List Value}(h:us.length=5):∃a0 a1 a2 a3 a4,us=[a0,a1,a2,a3,a4]:=by
 cases us with
 | nil=>cases h
 | cons a r =>
  have:=b9s (us:=r) (by simpa using h)
  obtain ⟨b0,b1,b2,b3,e⟩:=this
  exact ⟨a,b0,b1,b2,b3,by rw [e]⟩
section
variable {P:Program}{w:World}{K:c0L}{mg:Str->Option Value}{base:Heap}
theorem fn_x{x qual:Str}{st:Stmt}{f:Addr}{fd:FuncData}{N ps:List Str}{k:Nat}{F:SF}(Fn:Fun K x qual st f fd)(S:FnScope N ps (a0n st))
  (hbody:∀X:Cx,X.prog=P->X.w=w->X.K=K->X.mg=mg->X.base=base->Fx X N (a0n st) k->SVs X (a0G st) F):FnOk P w K mg base CX0 (k+1) f fd ps (spD K ps.length (runF F N.length)):=
 fn_d Fn S λcdv A outer s H E hr=>hbody _ rfl rfl rfl rfl rfl ⟨rfl,rfl,rfl,λ_ _=>rfl,c2s,hr,S.nd,λ_=>⟨rfl,rfl,rfl⟩⟩
end
def Oz(P:Program)(w:World)(K:c0L)(mg:Str->Option Value)(base:Heap)(x:Str)(st:Stmt)(ps:List Str)(j:Nat)(φ:List D->Option Sl):Prop:=∃f fd,Def K mg x st ps f fd/\FnOk P w K mg base CX0 j f fd ps (spD K ps.length φ)
inductive Sx:Cx->Program->World->c0L->(Str->Option Value)->Heap->Prop
 | mk (X:Cx):Sx X X.prog X.w X.K X.mg X.base
theorem fn_y{P:Program}{w:World}{K:c0L}{mg:Str->Option Value}{base:Heap}{x:Str}{st:Stmt}{f:Addr}{fd:FuncData}{N ps:List Str}{k:Nat}{F:SF}(D':Def K mg x st ps f fd)
  (hbody:∀X:Cx,Sx X P w K mg base->Fx X N (a0n st) k->SVs X (a0G st) F)(S:FnScope N ps (a0n st):=by exact ⟨rfl,rfl,rfl,by decide +kernel,rfl,by decide +kernel,by decide +kernel⟩):FnOk P w K mg base CX0 (k+1) f fd ps (spD K ps.length (runF F N.length)):=
 fn_x D'.fn S λX e1 e2 e3 e4 e5=>by subst e1 e2 e3 e4 e5;exact hbody X (.mk X)
theorem fn_z{P:Program}{w:World}{K:c0L}{mg:Str->Option Value}{base:Heap}{x:Str}{st:Stmt}{f:Addr}{fd:FuncData}{N ps:List Str}{k:Nat}{F:SF}(D':Def K mg x st ps f fd)
  (hbody:∀X:Cx,Sx X P w K mg base->Fx X N (a0n st) k->SVs X (a0G st) F)(S:FnScope N ps (a0n st):=by exact ⟨rfl,rfl,rfl,by decide +kernel,rfl,by decide +kernel,by decide +kernel⟩):Oz P w K mg base x st ps (k+1) (runF F N.length):=
 ⟨f,fd,D',fn_y D' hbody S⟩
theorem ocst{X X':Cx}{x:Str}{st:Stmt}{ps:List Str}{j:Nat}{φ:List D->Option Sl}(e1:X'.prog=X.prog)(e2:X'.w=X.w)(e3:X'.K=X.K)(e4:X'.mg=X.mg)(e5:X'.base=X.base)(O:Oz X.prog X.w X.K X.mg X.base x st ps j φ):Oz X'.prog X'.w X'.K X'.mg X'.base x st ps j φ:=by
 rw [e1,e2,e3,e4,e5];exact O
theorem Fx.cl{X:Cx}{N:List Str}{sc:Scope}{k j:Nat}{full:Bool}{x:Str}{st:Stmt}{ps:List Str}{φ:List D->Option Sl}{e:Expr}{es:List Expr}{fs:En->Option (List D)}{p pos:Pos}(h:Fx X N sc k full)(O:Oz X.prog X.w X.K X.mg X.base x st ps j φ)(ha:AV X (e::es) fs)(hj:j<=k:=by decide)(hg:sc.names.lookup x=some .globalImplicit:=by rfl)(hdb:(x==("__debug__":Str))=false:=by decide)(he:starEach (e::es) X.env=(false,eval e X.env)::starEach es X.env:=by rfl)(hpl:(backTo pos (starEach es X.env)).any (·.1)=false:=by rfl):
  EV X (.Call (.Name x p) (e::es) [] pos) (a0h ps.length φ fs):=by
 obtain ⟨f,fd,D',F⟩:=O
 exact b7l F (h.room.mono hj) (h.g hg) D'.m D'.fn.kp D'.bd ha hdb he hpl
structure FI(K:c0L)(n:Str)(t:Stmt)(f:Addr)(od an:Option Addr)(sl:Array (Option Value))(oc kV dc pm cd ct:Value):Prop where
 a:c1s K mainGlobals n=some (some (.ref f))
 l:K.lookup f=some ⟨oc,od,.func (c1B n n (a1C t) (a0G t) (a0n t) .none kV dc pm an cd ct),sl⟩
 c:c4t K cd n=true
 k:c2o K (.ref f)=true
section
variable {K:c0L}{mg:Str->Option Value}{h:Heap}{n:Str}{t:Stmt}{f:Addr}{od an:Option Addr}{sl:Array (Option Value)}{oc kV dc pm cd ct:Value}{ps:List Str}
theorem mkD(X:K.In h)(G:h.Ns mainGlobals mg)(i:FI K n t f od an sl oc kV dc pm cd ct)(hb:∀(kV doc pm:Value) (an:Option Addr) (cdv ct:Value) (us:List Value),us.length=ps.length->bindArgs (c1B n n (a1C t) (a0G t) (a0n t) .none kV doc pm an cdv ct) ⟨us,[]⟩=pure (ps.zip us)):Def K mg n t ps f (c1B n n (a1C t) (a0G t) (a0n t) .none kV dc pm an cd ct):=
 ⟨b5X i.l i.c i.k,(b5X i.l i.c i.k).binds hb,c3u X G i.a⟩
theorem mkD1(X:K.In h)(G:h.Ns mainGlobals mg)(i:FI K n t f od an sl oc kV dc pm cd ct)(hb:∀(kV doc pm:Value) (an:Option Addr) (cdv ct a0:Value),bindArgs (c1B n n (a1C t) (a0G t) (a0n t) .none kV doc pm an cdv ct) ⟨[a0],[]⟩=pure (ps.zip [a0]):=by intros;rfl)(hl:ps.length=1:=by rfl):Def K mg n t ps f (c1B n n (a1C t) (a0G t) (a0n t) .none kV dc pm an cd ct):=
 mkD X G i λ_ _ _ _ _ _ us hu=>by obtain ⟨_,rfl⟩:=b9v (hu.trans hl);exact hb ..
theorem mkD2(X:K.In h)(G:h.Ns mainGlobals mg)(i:FI K n t f od an sl oc kV dc pm cd ct)(hb:∀(kV doc pm:Value) (an:Option Addr) (cdv ct a0 a1:Value),bindArgs (c1B n n (a1C t) (a0G t) (a0n t) .none kV doc pm an cdv ct) ⟨[a0,a1],[]⟩=pure (ps.zip [a0,a1]):=by intros;rfl)(hl:ps.length=2:=by rfl):Def K mg n t ps f (c1B n n (a1C t) (a0G t) (a0n t) .none kV dc pm an cd ct):=
 mkD X G i λ_ _ _ _ _ _ us hu=>by obtain ⟨_,_,rfl⟩:=b9u (hu.trans hl);exact hb ..
theorem mkD3(X:K.In h)(G:h.Ns mainGlobals mg)(i:FI K n t f od an sl oc kV dc pm cd ct)(hb:∀(kV doc pm:Value) (an:Option Addr) (cdv ct a0 a1 a2:Value),bindArgs (c1B n n (a1C t) (a0G t) (a0n t) .none kV doc pm an cdv ct) ⟨[a0,a1,a2],[]⟩=pure (ps.zip [a0,a1,a2]):=by intros;rfl)(hl:ps.length=3:=by rfl):Def K mg n t ps f (c1B n n (a1C t) (a0G t) (a0n t) .none kV dc pm an cd ct):=
 mkD X G i λ_ _ _ _ _ _ us hu=>by obtain ⟨_,_,_,rfl⟩:=b9t (hu.trans hl);exact hb ..
theorem mkD4(X:K.In h)(G:h.Ns mainGlobals mg)(i:FI K n t f od an sl oc kV dc pm cd ct)(hb:∀(kV doc pm:Value) (an:Option Addr) (cdv ct a0 a1 a2 a3:Value),bindArgs (c1B n n (a1C t) (a0G t) (a0n t) .none kV doc pm an cdv ct) ⟨[a0,a1,a2,a3],[]⟩=pure (ps.zip [a0,a1,a2,a3]):=by intros;rfl)(hl:ps.length=4:=by rfl):Def K mg n t ps f (c1B n n (a1C t) (a0G t) (a0n t) .none kV dc pm an cd ct):=
 mkD X G i λ_ _ _ _ _ _ us hu=>by obtain ⟨_,_,_,_,rfl⟩:=b9s (hu.trans hl);exact hb ..
theorem mkD5(X:K.In h)(G:h.Ns mainGlobals mg)(i:FI K n t f od an sl oc kV dc pm cd ct)(hb:∀(kV doc pm:Value) (an:Option Addr) (cdv ct a0 a1 a2 a3 a4:Value),bindArgs (c1B n n (a1C t) (a0G t) (a0n t) .none kV doc pm an cdv ct) ⟨[a0,a1,a2,a3,a4],[]⟩=pure (ps.zip [a0,a1,a2,a3,a4]):=by intros;rfl)(hl:ps.length=5:=by rfl):Def K mg n t ps f (c1B n n (a1C t) (a0G t) (a0n t) .none kV dc pm an cd ct):=
 mkD X G i λ_ _ _ _ _ _ us hu=>by obtain ⟨_,_,_,_,_,rfl⟩:=lenV5 (hu.trans hl);exact hb ..
end
end DL
namespace DL
open PySem L2
theorem b9I(i j:Int):gSub (.int i) (.int j)=some (.sh (.int (i-j))):=rfl
end DL
namespace DL
open PySem PySem.Spec PyProof.Rows L2
def a6X(K:c0L)(O:Addr->Prop)(J:It)(H:Hp)(ds:List D):Prop:=
 ∀(O':Addr->Prop) (H2:Hp),(∀q u,H q=some u->¬O q->H2 q=some u/\¬O' q)->(∀q,O' q->H2 q≠none) ->
  ∀i:Nat,(∀d,ds[i]?=some d->J.go i H2/\∀x H3,J.yld i H2 x H3->Same H2 H3/\Is K O' H3 x d)/\(ds.length<=i->J.stop i H2)
def IV(X:Cx)(tg it:Expr)(f:En->Option (List D)):Prop:=
 ∃wi:TI,PI X tg it wi/\∀(O:Addr->Prop) (B:Hp) (σ:L2.St) (H:Hp) (env:En) (ds:List D) (R:It->Hp->Prop),Rel X.K O B σ H env->f env=some ds ->
  (∀J H',Same H H'->a6X X.K (OO O σ env) J H' ds->R J H')->wi σ H R
theorem a9n{K:c0L}{O:Addr->Prop}{H H2:Hp}{k:Bool}{p:Addr}{xs:List V}(kp:∀q u,H q=some u->¬O q->H2 q=some u)(h:Sq K H k p xs)(hp:¬O p):Sq K H2 k p xs:=by
 cases k with
 | true =>
  rcases h with (h | ⟨o,h⟩) | h
  .exact .inl (.inl (kp _ _ h hp))
  .exact .inl (.inr ⟨o,kp _ _ h hp⟩)
  .exact .inr h
 | false =>
  rcases h with (h | ⟨o,h⟩) | h
  .exact .inl (.inl (kp _ _ h hp))
  .exact .inl (.inr ⟨o,kp _ _ h hp⟩)
  .exact .inr h
noncomputable def fSeq(f:En->Option Sl):En->Option (List D):=λenv=>(f env).bind λr=>(seqD r.d).map (·.2)
section
variable {X:Cx}{tg it:Expr}{fa:En->Option Sl}
theorem a2F(hi:EV X it fa):IV X tg it (fSeq fa):=by
 obtain ⟨ti,pi,ki⟩:=hi
 refine ⟨_,b5L pi,λO B σ H env ds R Rl e q=>?_⟩
 obtain ⟨r,e1,e2⟩:=bind_some e
 obtain ⟨⟨k,ds'⟩,e4,e5⟩:=map_some e2
 cases e5
 refine ki O B σ H env r _ Rl e1 λv H1 s1 r1=>?_
 obtain ⟨p,xs,rfl,h1,h2,h3⟩:=(r1.is λq=>Rl.oo).seqN e4
 refine ⟨p,rfl,?_⟩
 have key:∀(O':Addr->Prop) (H2:Hp),(∀q u,H1 q=some u->¬OO O σ env q->H2 q=some u/\¬O' q)->Sq X.K H2 k p xs/\Iss X.K O' H2 xs ds':=λO' H2 kp=>by
  refine ⟨?_,h2.map (λq hq hn=>?_) λq u e n=>(kp q u e n).1⟩
  .rcases h3 with h3 | h3
   .exact a9n (λq u e n=>(kp q u e n).1) h1 h3
   .exact h3 H2
  .cases e:H1 q with
   | none=>exact (hq e).elim
   | some u=>exact (kp q u e hn).2
 cases k with
 | true =>
  refine .inl ⟨⟨xs,h1⟩,q _ H1 s1 λO' H2 kp hO i=>⟨λd hd=>?_,λhl=>?_⟩⟩
  .obtain ⟨hq,hs⟩:=key O' H2 kp
   obtain ⟨x,hx,hd'⟩:=hs.get hd
   refine ⟨⟨xs,x,hq,hx⟩,λy H3 hy=>?_⟩
   obtain ⟨rfl,hy⟩:=hy
   have:=hy xs hq
   rw [hx] at this
   cases this
   exact ⟨Same.refl _,hd'⟩
  .obtain ⟨hq,hs⟩:=key O' H2 kp
   exact ⟨xs,hq,by rw [hs.length];exact hl⟩
 | false =>
  refine .inr ⟨⟨xs,h1⟩,q _ H1 s1 λO' H2 kp hO i=>⟨λd hd=>?_,λhl=>?_⟩⟩
  .obtain ⟨hq,hs⟩:=key O' H2 kp
   obtain ⟨x,hx,hd'⟩:=hs.get hd
   refine ⟨⟨xs,x,hq,hx⟩,λy H3 hy=>?_⟩
   obtain ⟨rfl,hy⟩:=hy
   have:=hy xs hq
   rw [hx] at this
   cases this
   exact ⟨Same.refl _,hd'⟩
  .obtain ⟨hq,hs⟩:=key O' H2 kp
   exact ⟨xs,hq,by rw [hs.length];exact hl⟩
theorem b3Y{K:c0L}{O:Addr->Prop}{H:Hp}(lo:Int)(n:Nat):a6X K O (Itr lo n) H (rngD lo n):=λO' H2 _ _ i=>by
 refine ⟨λd hd=>?_,λhl=>show n<=i by simpa [rngD] using hl⟩
 unfold rngD at hd
 rw [c1O] at hd
 obtain ⟨k,hk,rfl⟩:=map_some hd
 obtain ⟨hi,rfl⟩:=c0V.mp hk
 rw [List.length_range] at hi
 refine ⟨hi,λx H3 hy=>?_⟩
 obtain ⟨rfl,rfl⟩:=hy
 rw [List.getElem_range]
 exact ⟨Same.refl _,Is.int _⟩
noncomputable def fRng(h:List D->Option (List D))(f:En->Option (List D)):En->Option (List D):=λenv=>(f env).bind h
noncomputable def sForI(f:En->Option (List D))(g:GF)(F:SF):SF:=λenv=>(f env).bind λds=>forL g F ds env
end
noncomputable def rl(sc' sc:Scope):Scope:=
 { sc' with names:=sc'.names.map λ(n,k)=>if (k==.free&&sc.kind==.function&&sc.names.lookup n==some .cell) then (n,.cell) else (n,k) }
theorem a52{sc:Scope}:∀{names:List (Str×NameKind)} {x:Str} {k:NameKind},names.lookup x=some k ->
  (names.map λ(n,k)=>if (k==c1W&&sc.kind==.function&&sc.names.lookup n==some .cell) then (n,c25) else (n,k)).lookup x=some (if (k==c1W&&sc.kind==.function&&sc.names.lookup x==some .cell) then c25 else k)
 | [],_,_,h=>by simp at h
 | (n,k')::r,x,k,h=>by
  have ih:=@a52 sc r x k
  show List.lookup x ((if (k'==c1W&&sc.kind==.function&&sc.names.lookup n==some .cell)=true then (n,c25) else (n,k'))::_)=_
  cases hx:x==n with
  | true =>
   simp only [c1A,hx] at h
   cases h
   have e:x=n:=by simpa using hx
   subst e
   split<;>simp [c1A]
  | false =>
   simp only [c1A,hx] at h
   split
   .simp only [c1A,hx];exact ih h
   .simp only [c1A,hx];exact ih h
theorem b1p{sc:Scope}:∀{names:List (Str×NameKind)} {x:Str} {k:NameKind},
  (names.map λ(n,k)=>if (k==c1W&&sc.kind==.function&&sc.names.lookup n==some .cell) then (n,c25) else (n,k)).lookup x=some k->∃k',names.lookup x=some k'/\k=if (k'==c1W&&sc.kind==.function&&sc.names.lookup x==some .cell) then c25 else k'
 | names,x,k,h=>by
  cases e:names.lookup x with
  | some k'=>have:=a52 (sc:=sc) e;rw [h] at this;exact ⟨k',rfl,c0U this⟩
  | none =>
   exfalso
   induction names with
   | nil=>simp at h
   | cons y r ih =>
    obtain ⟨n,k'⟩:=y
    have h':List.lookup x ((if (k'==c1W&&sc.kind==.function&&sc.names.lookup n==some .cell)=true then (n,c25) else (n,k'))::(r.map λ(n,k)=>if (k==c1W&&sc.kind==.function&&sc.names.lookup n==some .cell) then (n,c25) else (n,k)))=some k:=h
    cases hx:x==n with
    | true=>simp [c1A,hx] at e
    | false =>
     simp only [c1A,hx] at e
     apply ih _ e
     split at h'
     .simpa only [c1A,hx] using h'
     .simpa only [c1A,hx] using h'
noncomputable def clOf(cells:List (Str×Addr)):List (Str×NameKind)->List (Str×Addr)->List (Str×Addr)
 | [],acc=>acc
 | (n,k)::r,acc=>clOf cells r (if k==.free then (n,(cells.lookup n).getD 0)::acc else acc)
theorem a46:∀(names:List (Str×NameKind)) (acc:List (Str×Addr)),(∀y∈names,y.2=.free->∃c,env.cells.lookup y.1=some c) ->
  (forIn names acc λ(x:Str×NameKind) r=>(if (x.2==.free)=true then do let a <-cellOf env x.1;pure (c1T ((x.1,a)::r)) else pure (c1T r):Sem (ForInStep (List (Str×Addr)))))=pure (clOf env.cells names acc)
 | [],acc,_=>rfl
 | (n,k)::r,acc,h=>by
  rw [c3v]
  have hr:∀y∈r,y.2=.free->∃c,env.cells.lookup y.1=some c:=λy hy=>h y (c0O _ hy)
  cases hk:k==c1W with
  | true =>
   have ek:k=.free:=by simpa using hk
   obtain ⟨c,hc⟩:=h (n,k) c0N ek
   replace hc:env.cells.lookup n=some c:=hc
   have hce:cellOf env n=pure c:=by unfold cellOf;rw [hc]
   simp only [if_true]
   rw [hce]
   simp only [pure_bind]
   rw [a46 r _ hr]
   conv=>rhs;unfold clOf
   rw [hk,hc]
   rfl
  | false =>
   simp only [c1v,if_false,pure_bind]
   rw [a46 r _ hr]
   conv=>rhs;unfold clOf
   rw [hk]
   rfl
theorem a3o(h:∀y∈sc.names,y.2=.free->∃c,env.cells.lookup y.1=some c):closureFor sc env=pure (clOf env.cells sc.names []):=by
 unfold closureFor
 rw [<-a46 sc.names [] h]
 show (forIn sc.names [] _ >>= λcs=>pure cs)=_
 rw [bind_pure]
theorem b0T:∀(names:List (Str×NameKind)) (acc:List (Str×Addr)) {c:Addr},(clOf cells names acc).lookup x=some c->acc.lookup x=some c\/((x,c1W)∈names/\c=(cells.lookup x).getD 0)
 | [],acc,c,h=>.inl h
 | (n,k)::r,acc,c,h=>by
  unfold clOf at h
  rcases b0T r _ h with h1 | ⟨h,e⟩
  .clear h
   have h:=h1
   clear h1
   cases hk:k==c1W with
   | false=>rw [hk] at h;exact .inl (by simpa using h)
   | true =>
    rw [hk] at h
    simp only [if_true] at h
    have ek:k=.free:=by simpa using hk
    cases hx:x==n with
    | true =>
     simp only [c1A,hx] at h
     have e:x=n:=by simpa using hx
     subst e ek
     exact .inr ⟨c0N,(c0U h).symm⟩
    | false =>
     simp only [c1A,hx] at h
     exact .inl h
  .exact .inr ⟨c0O _ h,e⟩
theorem a82:∀(names:List (Str×NameKind)) (acc:List (Str×Addr)),((∃c,acc.lookup x=some c)\/(x,c1W)∈names)->∃c,(clOf cells names acc).lookup x=some c
 | [],acc,h=>h.elim id λz=>nomatch z
 | (n,k)::r,acc,h=>by
  unfold clOf
  refine a82 r _ ?_
  cases hk:k==c1W with
  | false =>
   rcases h with h | h
   .exact .inl (by simpa using h)
   .rcases c0R.mp h with e | h
    .cases e;simp at hk
    .exact .inr h
  | true =>
   simp only [if_true]
   cases hx:x==n with
   | true=>exact .inl ⟨_,by simp only [c1A,hx];rfl⟩
   | false =>
    rcases h with ⟨c,h⟩ | h
    .exact .inl ⟨c,by simp only [c1A,hx];exact h⟩
    .rcases c0R.mp h with e | h
     .cases e;simp at hx
     .exact .inr h
structure CompScope(N:List Str)(sc:Scope)(N':List Str)(caps:List Nat)(nt:Nat)(sc':Scope):Prop where
 kind:sc'.kind=.function
 loc:∀y∈sc'.names,y.2=.local->sc'.names.lookup y.1=some .local
 nocell:∀y∈sc'.names,y.2≠.cell
 free:∀y∈sc'.names,y.2=.free->sc.names.lookup y.1=some .cell\/sc.names.lookup y.1=some .free
 nd:N'.Nodup
 len:N'.length=nt+caps.length
 cap:caps.map (λi=>N[i]?)=(N'.drop nt).map some
 fr:∀x∈N'.drop nt,sc'.names.lookup x=some .free
theorem a4g{names:List (Str×NameKind)}{x:Str}(h:names.lookup x=some k):(x,k)∈names:=c1Y h
noncomputable def capE:List Nat->En->Option En
 | [],_=>some []
 | i::is,env=>match env[i]? with
  | some (.sh d)=>(capE is env).map (Sl.sh d::·)
  | _=>none
noncomputable def a2K(g:GF)(fc:En->Option Bool)(fe:En->Option Sl):List D->En->Option (List D)
 | [],_=>some []
 | d::ds,e=>(g d e).bind λe1=>(fc e1).bind λb=>if b=true then (fe e1).bind λr=>(a2K g fc fe ds e1).bind λrs=>some (r.d::rs) else a2K g fc fe ds e1
noncomputable def a1E(fi:En->Option (List D))(caps:List Nat)(nt:Nat)(g:GF)(fc:En->Option Bool)(fe:En->Option Sl):En->Option Sl:=λenv =>
 (fi env).bind λds=>(capE caps env).bind λcs=>if ds.length<=16777216 then (a2K g fc fe ds (c06 nt Sl.no++cs)).map Sl.ow else none
noncomputable def capS:List Nat->L2.St->L2.St
 | [],_=>[]
 | i::is,σ=>(σ[i]?).getD none::capS is σ
theorem b3a{K:c0L}{O:Addr->Prop}{B:Hp}{σ:L2.St}{H:Hp}{env:En}(R:Rel K O B σ H env):∀{caps:List Nat} {cs:En},capE caps env=some cs->cs.length=caps.length/\(capS caps σ).length=caps.length /\
  ∀(j:Nat) (s:Sl),cs[j]?=some s->∃(d:D) (v:V) (i:Nat),s=Sl.sh d/\(capS caps σ)[j]?=some (some v)/\Is K (OO O σ env) H v d/\caps[j]?=some i/\σ[i]?=some (some v)
 | [],cs,e=>by cases e;exact ⟨rfl,rfl,λj s h=>by simp at h⟩
 | i::is,cs,e=>by
  unfold capE at e
  cases h:env[i]? with
  | none=>rw [h] at e;cases e
  | some s =>
   rw [h] at e
   cases s with
   | no=>cases e
   | ow ds=>cases e
   | dw ds=>cases e
   | sh d =>
    obtain ⟨cs',e1,rfl⟩:=map_some (show (capE is env).map (Sl.sh d::·)=some cs from e)
    obtain ⟨l1,l2,ih⟩:=b3a R e1
    obtain ⟨v,hv,hi⟩:=R.sh i d h
    refine ⟨by simp [l1],by simp [capS,l2],λj s hj=>?_⟩
    cases j with
    | zero=>simp at hj;subst hj;exact ⟨d,v,i,rfl,by simp [capS,hv],hi,rfl,hv⟩
    | succ j =>
     obtain ⟨d',v',i',a1,a2,a3,a4,a5⟩:=ih j s (by simpa using hj)
     exact ⟨d',v',i',a1,by simpa [capS] using a2,a3,by simpa using a4,a5⟩
def IFV(X:Cx)(ifs:List Expr)(f:En->Option Bool):Prop:=
 ∃t:TT,(∀(pins:List (Addr×Obj)) (s:Shared) (σ:L2.St) (H:Hp) (Q:Bool->Hp->Prop),Inv X pins σ H s->t σ H Q ->
   wpAny (model X.prog X.w) X.A (forIn ifs true λc r=>if r=true then do let ok <-isTrue c X.env (eval c X.env);pure (c1T ok) else pure (c1T r)) (TP X pins σ Q) X.xe s) /\
  ∀(O:Addr->Prop) (B:Hp) (σ:L2.St) (H:Hp) (env:En) (b:Bool) (Q:Bool->Hp->Prop),Rel X.K O B σ H env->f env=some b->(∀H',Same H H'->Q b H')->t σ H Q
noncomputable def a2d:En->Option Bool:=λ_=>some true
theorem a19:IFV X [] a2d:=⟨λ_ H Q=>Q true H,λpins s σ H Q I h=>wpAny_tests_nil ⟨H,I,h⟩,λO B σ H env b Q R e q=>by cases e;exact q H (Same.refl _)⟩
theorem a8U(h:TV X c f):IFV X [c] f:=by
 obtain ⟨t,p,k⟩:=h
 exact ⟨t,λpins s σ H Q I h=>wpAny_tests_one (p pins s σ H Q I h),k⟩
section
variable {prog:Program}{w:World}{A:Around}{R:Result->Shared->Prop}{s:Shared}
theorem a9T{elt target iter:Expr}{ifs:List Expr}{scope:Scope}{pos:Pos}{it acc:Value}{env:Env}(I:Nat->Shared->Prop){N:Value->Shared->Prop}(hN:∀x s',N x s'->False)
  (turn:∀n s,I n s->wpAny (model prog w) A (pyNext it) (λr s₁=>match r with
   | none=>R (.ok .next) s₁
   | some v=>wpAny (model prog w) A (letOwnedTupleGo target it v) (λ_ s₁'=>wpAny (model prog w) A (assign target env v) (λ_ s₂ =>
     wpAny (model prog w) A (forIn ifs true λc r=>if r=true then do let ok <-isTrue c env (eval c env);pure (c1T ok) else pure (c1T r)) (λok s₃ =>
      if ok=true then wpAny (model prog w) A (eval elt env) (λx s₄ =>
       wpAny (model prog w) A (call (.builtin "list.append") [acc,x]) (λ_ s₅=>∃m,m<n/\I m s₅) N s₄) N s₃
      else ∃m,m<n/\I m s₃) N s₂) N s₁') N s₁) N s)
  (n:Nat)(h:I n s):
  codeAny (model prog w) A (.compLoop (.ListComp elt [⟨target,iter,ifs,0⟩] scope pos) 0 it acc env) R s:=by
 refine codeAny_loop rfl I (λn s hI=>?_) n h
 show wpAny _ A ((compTurn (.ListComp elt [⟨target,iter,ifs,0⟩] scope pos) 0 it acc env).onRaise (λx=>do noteFrame x env;theTreesLotGoes x)) _ _ s
 refine wpAny_noted ?_
 rw [compTurn_list]
 have no:∀{P:Value->Shared->Prop} (x:Value) (s':Shared),N x s'->P x s':=λx s' z=>(hN x s' z).elim
 refine c0K (c4D (c0K (c1z (turn n s hI) (λr s₁ h₁=>?_) no)))
 cases r with
 | none=>exact c0X h₁
 | some v =>
  refine c0K (c1z h₁ (λ_ s₁' h₁'=>?_) no)
  refine c0K (c1z h₁' (λ_ s₂ h₂=>c0K (c1z h₂ (λok s₃ h₃=>?_) no)) no)
  cases ok with
  | false=>exact c0X ⟨rfl,h₃⟩
  | true =>
   exact c0K (c0K (c1z h₃ (λx s₄ h₄=>c0K (c1z h₄ (λ_ s₅ h₅=>c0X (c0X ⟨rfl,h₅⟩)) no)) no))
end
section
variable {X:Cx}{N N':List Str}{sc sc':Scope}{k:Nat}{full:Bool}{elt iter tg:Expr}{ifs:List Expr}{pos:Pos}{fi:En->Option (List D)}{caps:List Nat}{nt:Nat}{g:GF}{fc:En->Option Bool}{fe:En->Option Sl}
noncomputable def cxB(X:Cx)(N':List Str)(sc':Scope)(ex:List Addr)(s:Shared)(H:Hp):Cx where
 prog:=X.prog
 w:=X.w
 K:=X.K
 mg:=X.mg
 base:=X.base
 A:=X.A
 N:=N'
 s₀:=s
 H₀:=H
 env:=compEnvC sc' (clOf X.env.cells sc'.names []) s.heap.objs.size X.env
 outer:=X.stack
 stack:=X.stack
 ex:=ex
 fn:=λ_=>false
 calm:=true
 pn:=[]
 xe:=λ_ _=>False
theorem a5l(C:CompScope N sc N' caps nt sc')(hsc:X.env.scope=sc){pins:List (Addr×Obj)}{σ:L2.St}{H:Hp}{s:Shared}(I:Inv X pins σ H s){x:Str}{c:Addr}(h:(clOf X.env.cells sc'.names []).lookup x=some c):X.env.cells.lookup x=some c:=by
 rcases b0T _ _ h with h | ⟨h,e⟩
 .simp at h
 .obtain ⟨c',hc'⟩:=I.ok.has x (by
   show X.env.scope.names.lookup x=_\/X.env.scope.names.lookup x=_
   rw [hsc]
   exact C.free _ h rfl)
  rw [hc'] at e
  rw [e];exact hc'
theorem b56(h:sc'.names.lookup x=some .free):∃c,(clOf X.env.cells sc'.names []).lookup x=some c:=a82 _ _ (.inr (a4g h))
theorem b42(C:CompScope N sc N' caps nt sc')(hsc:X.env.scope=sc)(hc:X.calm=true){pins:List (Addr×Obj)}{σ:L2.St}{H:Hp}{s s3:Shared}{fp:List Addr}(I:Inv X pins σ H s)(I3:Inv X pins σ H s3)
  (hf:∀b∈fp,FpOk X pins H b)(hfe:∀b∈fp,∃o,s3.heap.get? b=some o)(hs:s3.heap.objs.size=s.heap.objs.size+1):(cxB X N' sc' (s.heap.objs.size::fp) s3 H).Ok:=by
 have small:∀x c,X.env.cells.lookup x=some c->c<s.heap.objs.size:=λx c e=>by
  obtain ⟨v,z⟩:=I.cell x c e
  exact z.lt
 have kd:∀x,((cxB X N' sc' (s.heap.objs.size::fp) s3 H).env.kindOf x=some .cell\/(cxB X N' sc' (s.heap.objs.size::fp) s3 H).env.kindOf x=some .free)->sc'.names.lookup x=some .free:=λx h=>by
  have h':∃k,(rl sc' X.env.scope).names.lookup x=some k/\(k=.cell\/k=.free):=h.elim (λz=>⟨_,z,.inl rfl⟩) λz=>⟨_,z,.inr rfl⟩
  obtain ⟨k,e,hk⟩:=h'
  obtain ⟨k',e1,e2⟩:=b1p e
  have nc:k'≠.cell:=C.nocell _ (a4g e1)
  by_cases hcond:(k'==c1W&&X.env.scope.kind==.function&&X.env.scope.names.lookup x==some .cell)=true
  .have:k'=.free:=by
    have:=(c3i _ _▸(c3i _ _▸hcond).1).1
    simpa using this
   rw [e1,this]
  .rw [if_neg hcond] at e2
   subst e2
   rcases hk with rfl | rfl
   .exact (nc rfl).elim
   .exact e1
 refine ⟨I.ok.mod,C.kind,I.ok.glob,I.ok.blt,c0S _,λx y c h1 h2=>I.ok.inj x y c (a5l C hsc I h1) (a5l C hsc I h2),λx h=>b56 (kd x h),λ_ _ (z:false=true) _=>(nomatch z),λ_=>I.ok.hd hc,I.ok.frames,.inl rfl,λb hb=>⟨?_,λx c e=>?_⟩,λb o e=>?_,?_,λb o e hb=>?_,λb hb hfs=>?_,I3.stack,λb hb=>I.stkFree b hb⟩
 .show b≠s3.heap.objs.size
  rcases c0R.mp hb with rfl | hb
  .rw [hs];exact c09 (c2y _)
  .obtain ⟨o,e⟩:=hfe b hb
   exact c09 (c0W e)
 .have e':=a5l C hsc I e
  rcases c0R.mp hb with rfl | hb
  .exact c09 (small x c e')
  .exact (hf b hb).2.2.2.2.1 x c e'
 .exact I3.bs b o e
 .exact c02 I.ok.bsz I3.sz
 .have lt:b<X.base.objs.size:=c0W e
  have h0:=I.ok.bsz
  have h1:=I.sz
  rcases c0R.mp hb with rfl | hb
  .exact absurd (c1d lt (c02 h0 h1)) (c16 _)
  .rcases (hf b hb).2.2.2.1 with z | z
   .exact I.ok.noex b o e z
   .exact absurd (c1d lt (c02 h0 z)) (c16 _)
 .rcases c0R.mp hb with rfl | hb
  .obtain ⟨_,o,ho,_⟩:=I.stack.mem hfs
   exact absurd (c0W ho) (c16 _)
  .rcases c0R.mp (I.stkSub b hfs) with z | z
   .exact (hf b hb).2.1 z
   .exact (hf b hb).2.2.1 z
theorem a69{α:Type}{n j:Nat}{x y:α}{l:List α}(h:(c06 n x++l)[j]?=some y):y=x\/(n<=j/\l[j-n]?=some y):=by
 by_cases hj:j<n
 .rw [c3d (by simpa using hj),c2U,if_pos hj] at h
  exact .inl (c0U h).symm
 .rw [c28 (by simpa using hj),c20] at h
  exact .inr ⟨c5g.mp ‹_›,h⟩
theorem b3k(C:CompScope N sc N' caps nt sc')(hsc:X.env.scope=sc)(hN:X.N=N)(hc:X.calm=true){pins:List (Addr×Obj)}{σ:L2.St}{H:Hp}{s s3 s4:Shared}{fp:List Addr}(I:Inv X pins σ H s)(I3:Inv X pins σ H s3)
  (hf:∀b∈fp,FpOk X pins H b)(hfe:∀b∈fp,∃o,s3.heap.get? b=some o)(hs:s3.heap.objs.size=s.heap.objs.size+1)
  (hos:s4.os=s3.os)(hg:s4.gens=s3.gens)(hk:∀b o,s3.heap.get? b=some o->s4.heap.get? b=some o)(hns:s4.heap.Ns s3.heap.objs.size λ_=>none):
  Inv (cxB X N' sc' (s.heap.objs.size::fp) s3 H) [] (c06 nt none++capS caps σ) H s4:=by
 have sl:∀(caps:List Nat) (σ:L2.St),(capS caps σ).length=caps.length:=λcaps σ=>by
  induction caps with
  | nil=>rfl
  | cons i r ih=>simp [capS,ih]
 have sg:∀(caps:List Nat) (σ:L2.St) (j:Nat) (v:V),(capS caps σ)[j]?=some (some v)->∃i,caps[j]?=some i/\σ[i]?=some (some v):=λcaps σ=>by
  induction caps with
  | nil=>intro j v h;simp [capS] at h
  | cons i r ih =>
   intro j v h
   cases j with
   | zero =>
    have h':(σ[i]?).getD none=some v:=by simpa [capS] using h
    refine ⟨i,rfl,?_⟩
    cases e:σ[i]? with
    | none=>rw [e] at h';cases h'
    | some o=>rw [e] at h';exact congrArg some h'
   | succ j =>
    obtain ⟨i',e1,e2⟩:=ih j v (by simpa [capS] using h)
    exact ⟨i',by simpa using e1,e2⟩
 refine ⟨b42 C hsc hc I I3 hf hfe hs,hos,by rw [hg];exact I3.bare,Un.kept hk,⟨_,hns,λi x v h1 h2 h3=>?_⟩,λx c e=>?_,I3.hok.fresh (c0S _),λx c e=>I3.freeC x c (a5l C hsc I e),λp hp=>absurd (show p∈([]:List (Addr×Obj)) from hp) (by simp),I3.hok.kept hk,?_⟩
 .have h1:N'[i]?=some x:=h1
  rcases a69 h2 with z | ⟨hi,h2⟩
  .cases z
  .obtain ⟨i',e1,e2⟩:=sg caps σ _ v h2
   have hd:(N'.drop nt)[i-nt]?=some x:=by rw [List.getElem?_drop,Nat.add_sub_cancel' hi];exact h1
   have hm:=congrArg (λl=>l[i-nt]?) C.cap
   simp only [c1O,e1,hd,c3w] at hm
   have hN':X.N[i']?=some x:=by rw [hN];exact c0U hm
   have hfr:=C.fr x (c3a hd)
   have hcell:=C.free _ (a4g hfr) rfl
   obtain ⟨m,hn,hl⟩:=I3.loc
   obtain ⟨u,r,l⟩:=hl i' x v hN' e2 (by rw [hsc];exact .inr hcell)
   refine ⟨u,r,.inr ⟨?_,?_⟩⟩
   .have e:=a52 (sc:=X.env.scope) hfr
    show (rl sc' X.env.scope).names.lookup x=_\/(rl sc' X.env.scope).names.lookup x=_
    have e':(rl sc' X.env.scope).names.lookup x=_:=e
    rw [e']
    split
    .exact .inl rfl
    .exact .inr rfl
   .rcases l with ⟨k,_⟩ | ⟨k,c,e,z⟩
    .exfalso
     have k:X.env.scope.names.lookup x=some .local:=k
     rw [hsc] at k
     dsimp only at hcell
     rw [k] at hcell
     rcases hcell with z | z<;>cases z
    .obtain ⟨c',hc'⟩:=b56 (X:=X) hfr
     have:=a5l C hsc I hc'
     rw [e] at this
     cases this
     exact ⟨c,hc',z.keeps hk⟩
 .obtain ⟨v,z⟩:=I3.cell x c (a5l C hsc I e)
  exact ⟨v,z.keeps hk⟩
 .show (c06 nt none++capS caps σ).length=N'.length
  rw [c1f,c20,sl,C.len]
theorem b3E(r:Vals xs us):xs.length=us.length:=r.length
theorem b3j{pins pl:List (Addr×Obj)}{σ σ':L2.St}{H2 H':Hp}{s2 s3 s1:Shared}{fp:List Addr}{h':Heap}{xs:List V}{ys:List Value}(I2:Inv X pins σ H2 s2)(hs3:s3.os=s2.os)(h23:∀b o,s2.heap.get? b=some o->s3.heap.get? b=some o)
  (hsz:s3.heap.objs.size=s2.heap.objs.size+1)(f2:∀b∈fp,FpOk X pins H2 b)(I':Inv (cxB X N' sc' (s2.heap.objs.size::fp) s3 H2) pl σ' H' s1)(sb:c4g s3.heap.objs.size s1.heap h')
  (hn:H' s2.heap.objs.size=none)(hl:∃n,s1.heap.get? s2.heap.objs.size=some { cls:=.type "list",data:=.seq ys.toArray n })(hv:Vals xs ys)(hz:xs.length<=sizeLine):
  Inv X pins σ (upd H' s2.heap.objs.size (.lst xs)) { s1 with heap:=h' }:=by
 have ltC:∀b,b<s3.heap.objs.size->b≠s3.heap.objs.size:=λb h=>c09 h
 have lt2:∀b,b<s2.heap.objs.size->b≠s2.heap.objs.size:=λb h=>c09 h
 have out:∀b o,s2.heap.get? b=some o->b∉fp->b∉s2.heap.objs.size::fp:=λb o e n z=>(c0R.mp z).elim (lt2 b (c0W e)) n
 have hC:H' s3.heap.objs.size=none:=I'.free
 have up:∀b o,s2.heap.get? b=some o->∀o',s1.heap.get? b=some o'->h'.get? b=some o':=λb o e o' e'=>(sb.2 b (ltC b (c0W (h23 b o e)))).trans e'
 have nea:∀b u,H' b=some u->b≠s2.heap.objs.size:=λb u e z=>by rw [z,hn] at e;cases e
 have u:=I'.base
 refine I2.call' (s':={ s1 with heap:=h' }) (ch:=fp) (I'.os.trans hs3) ⟨λb o e n hb hx=>?_,λb o e n hb hx=>?_,λb o e n hx=>?_,λb o e hx=>?_,λb zs e=>?_,λb o v e=>?_,λb ps e=>?_⟩ (λb v e=>?_) I'.bare (λb hb=>?_)
 .exact up b o e o (u.keep b o (h23 b o e) n hb (out b o e hx))
 .obtain ⟨sl,e1⟩:=u.slot b o (h23 b o e) n hb (out b o e hx)
  exact ⟨sl,up b o e _ e1⟩
 .rw [a0q (lt2 b (c0W e))]
  exact u.free b o (h23 b o e) n (out b o e hx)
 .obtain ⟨o',e1⟩:=u.there b o (h23 b o e) (out b o e hx)
  exact ⟨o',up b o e _ e1⟩
 .have:=u.tups b zs e
  rw [a0q (nea b _ this)];exact this
 .have:=u.frzs b o v e
  rw [a0q (nea b _ this)];exact this
 .obtain ⟨more,this⟩:=u.tbls b ps e
  exact ⟨more,by rw [a0q (nea b _ this)];exact this⟩
 .by_cases hb:b=s2.heap.objs.size
  .subst hb
   rw [a0V] at e
   cases e
   obtain ⟨n,e1⟩:=hl
   exact ⟨hz,ys,n,hv,(sb.2 _ (by rw [hsz];exact c09 (c2y _))).trans e1⟩
  .rw [a0q hb] at e
   refine (I'.hok b v e).stay (λc w hc q=>(sb.2 c ?_).trans q) (λc _ _ q=>by rw [a0q (nea c _ q)];exact q) λc zs q=>by rw [a0q (nea c _ q)];exact q
   rintro rfl
   rcases hc with z | z
   .rw [<-z,hC] at e;cases e
   .rw [hC] at z;cases z
 .obtain ⟨_,g1,_,g3,g4,g5⟩:=f2 b hb
  exact ⟨g3,g1,g4,g5⟩
theorem a81(h:Fx X N sc k full)(C:CompScope N sc N' caps nt sc'){wi:TI}(pi:PI X tg iter wi)(ki:∀(O:Addr->Prop) (B:Hp) (σ:L2.St) (H:Hp) (env:En) (ds:List D) (R:It->Hp->Prop),Rel X.K O B σ H env->fi env=some ds->(∀J H',Same H H'->a6X X.K (OO O σ env) J H' ds->R J H')->wi σ H R)
  (hb:∀X':Cx,X'.prog=X.prog->X'.w=X.w->X'.K=X.K->X'.mg=X.mg->X'.base=X.base->Fx X' N' (rl sc' sc) k false->GV X' tg g/\IFV X' ifs fc/\EV X' elt fe)
  (hfs:∀x,foldedSetIterable iter X.env x=pure x){pins:List (Addr×Obj)}{s:Shared}{σ:L2.St}{H:Hp}(I:Inv X pins σ H s){O:Addr->Prop}{B:Hp}{env:En}{r:Sl}(R:Rel X.K O B σ H env)(e:a1E fi caps nt g fc fe env=some r)
  {use:Option (Value->Sem Unit)}{QQ:Value->Shared->Prop}
  (fin:∀(C0 p:Addr) (H':Hp) (s':Shared),(∃m,s'.heap.Ns C0 m)->FpOk X pins H' C0->(∀h',c4g C0 s'.heap h'->Inv X pins σ H' { s' with heap:=h' })->Same H H'->Res X.K (OO O σ env) H H' (.ref p) r ->
   compPost (model X.prog X.w) X.A X.xe use QQ (.ref p) C0 (.ok .next) s'):
  wpAny (model X.prog X.w) X.A (comprehension (.ListComp elt [⟨tg,iter,ifs,0⟩] sc' pos) sc' X.env (firstIterPos [⟨tg,iter,ifs,0⟩] pos) (newList []) (firstAsync [⟨tg,iter,ifs,0⟩]) (firstIter [⟨tg,iter,ifs,0⟩] X.env) use) QQ X.xe s:=by
 obtain ⟨ds,e1,e2⟩:=bind_some e
 obtain ⟨cs,e3,e4⟩:=bind_some e2
 by_cases hlen:ds.length<=16777216
 case neg=>rw [if_neg hlen] at e4;cases e4
 rw [if_pos hlen] at e4
 obtain ⟨rs,e5,rfl⟩:=map_some e4
 have hclos:closureFor sc' X.env=pure (clOf X.env.cells sc'.names []):=a3o λy hy hf=>I.ok.has y.1 (by
  show X.env.scope.names.lookup y.1=_\/X.env.scope.names.lookup y.1=_
  rw [h.sc]
  exact C.free y hy hf)
 have hpi:=pi pins s σ H (λJ H'=>Same H H'/\a6X X.K (OO O σ env) J H' ds) I (ki O B σ H env ds _ R e1 λJ H' s' wk=>⟨s',wk⟩)
 refine c3p (use:=use) rfl hfs hclos C.kind C.loc (thn hpi λxv s1 h1=>thn h1 λitv s2 h2=>?_)
 obtain ⟨it,fp,tn,J,H2,rfl,I2,T,st2,f2,s12,wk⟩:=h2
 refine c12 (wpAny_newFunctionEnv C.nocell (by intro y hy;simp at hy) (λh₁ hns₁ hsb₁=>?_) C.kind)
 dsimp only at hns₁ hsb₁ ⊢
 generalize hH3:s2.heap.push { cls:=.type "list",dict:=none,data:=.seq ([]:List Value).toArray }=H3 at hns₁ hsb₁ ⊢
 have hsz:H3.objs.size=s2.heap.objs.size+1:=by rw [<-hH3,c1N]
 have k23:∀b o,s2.heap.get? b=some o->H3.get? b=some o:=λb o e=>by rw [<-hH3];exact c0M _ e
 have k34:∀b o,H3.get? b=some o->h₁.get? b=some o:=λb o e=>hsb₁.extBut b o (c09 (c0W e)) (c0M _ e)
 have I3:Inv X pins σ H2 { s2 with heap:=H3 }:=I2.kept (t':=s2.toks) k23
 have nofp:∀b∈fp,b<s2.heap.objs.size:=λb hb=>by obtain ⟨o,eo,_⟩:=T.obj 0 _ st2 b hb;exact c0W eo
 have nea:∀b∈fp,b≠s2.heap.objs.size:=λb hb=>c09 (nofp b hb)
 have hfe:∀b∈fp,∃o,H3.get? b=some o:=λb hb=>by obtain ⟨o,eo,_⟩:=T.obj 0 _ st2 b hb;exact ⟨o,k23 b o eo⟩
 have R2:=R.grow s12
 obtain ⟨lc,ls,cg⟩:=b3a R2 e3
 generalize hX':cxB X N' sc' (s2.heap.objs.size::fp) { s2 with heap:=H3 } H2=X'
 have I4:∀t,Inv X' [] (c06 nt none++capS caps σ) H2 { s2 with heap:=h₁,toks:=t }:=λt=>by
  rw [<-hX']
  exact b3k (s3:={ s2 with heap:=H3 }) (s4:={ s2 with heap:=h₁,toks:=t }) C h.sc h.n h.calm I2 I3 f2 hfe hsz rfl rfl k34 (by simpa using hns₁)
 have hP:X'.prog=X.prog:=by rw [<-hX'];rfl
 have hW:X'.w=X.w:=by rw [<-hX'];rfl
 have hK:X'.K=X.K:=by rw [<-hX'];rfl
 have hE:X'.env=compEnvC sc' (clOf X.env.cells sc'.names []) H3.objs.size X.env:=by rw [<-hX'];rfl
 have hA:X'.A=X.A:=by rw [<-hX'];rfl
 have hx:X'.xe=λ_ _=>False:=by rw [<-hX'];rfl
 have hcm:X'.calm=true:=by rw [<-hX'];rfl
 have hbd:=hb X' hP hW hK (by rw [<-hX'];rfl) (by rw [<-hX'];rfl) ⟨by rw [<-hX'];rfl,by rw [hE];show rl sc' X.env.scope=_;rw [h.sc],hcm,λz=>(nomatch z),by rw [hx];exact c2s,by rw [hA];exact h.room,C.nd,λz=>(nomatch z)⟩
 obtain ⟨⟨tgt,pg,kg⟩,⟨tc,pc,kc⟩,te,pe,ke⟩:=hbd
 have fpB:∀{H':Hp} {pl:List (Addr×Obj)},(∀b∈fp,H' b=none)->(∀p∈pl,∀b∈fp,p.1≠b)->∀b∈fp,FpOk X' pl H' b:=λ{H' pl} hn hpl b hb=>by
  obtain ⟨_,g1,g2,g3,g4,g5⟩:=f2 b hb
  rw [<-hX']
  refine ⟨hn b hb,c09 (c1d (nofp b hb) (by show s2.heap.objs.size<=H3.objs.size;rw [hsz];exact c5t _)),λz=>?_,.inl (c0O _ hb),λx c e=>g4 x c (a5l C h.sc I2 e),λp hp=>hpl p (by simpa [cxB] using hp) b hb⟩
  rcases c0R.mp (I2.stkSub b z) with z | z
  .exact g1 z
  .exact g2 z
 have R0:Rel X'.K (OO O σ env) H2 (c06 nt none++capS caps σ) H2 (c06 nt Sl.no++cs):=by
  have noOw:∀(i:Nat) (es:Sl),(c06 nt Sl.no++cs)[i]?=some es->es.own->False:=λi es e o=>by
   rcases a69 e with z | ⟨_,z⟩
   .cases z;exact o
   .obtain ⟨d,_,_,z,_⟩:=cg _ _ z
    cases z;exact o
  have noOwn:∀p,¬Own (c06 nt none++capS caps σ) (c06 nt Sl.no++cs) p:=λp ⟨i,es,e,o,_⟩=>noOw i es e o
  rw [hK]
  refine ⟨Same.refl _,R2.dm,by simp [lc,ls],λi d e=>?_,λi es e=>(noOw i _ e trivial).elim,λi es e=>(noOw i _ e trivial).elim,λi j es fs p e _ _ _ o=>(noOw i es e o).elim⟩
  rcases a69 e with z | ⟨hi,z⟩
  .cases z
  .obtain ⟨d',v,i',z1,z2,z3,_⟩:=cg _ _ z
   cases z1
   refine ⟨v,?_,z3.less λp hp=>hp.elim id λz=>(noOwn p z).elim⟩
   rw [c28 (by simpa using hi),c20]
   exact z2
 have loop:∀t,codeAny (model X.prog X.w) X.A (.compLoop (.ListComp elt [⟨tg,iter,ifs,0⟩] sc' pos) 0 (.ref it) (.ref s2.heap.objs.size) (compEnvC sc' (clOf X.env.cells sc'.names []) H3.objs.size X.env))
   (compPost (model X.prog X.w) X.A X.xe use QQ (.ref s2.heap.objs.size) H3.objs.size) { s2 with heap:=h₁,toks:=t }:=λt=>by
  refine a9T (N:=λ_ _=>False) (λn s'=>∃(i:Nat) (σ':L2.St) (H':Hp) (env':En) (ys:List Value) (xs:List V) (rs1 rs2:List D),n=ds.length-i/\i<=ds.length/\Inv X' [] σ' H' s'/\tn i s'.heap/\(∀b∈fp,H' b=none)/\H' s2.heap.objs.size=none /\
    s'.heap.PlainList s2.heap.objs.size ys.toArray/\Vals xs ys/\Rel X'.K (OO O σ env) H2 σ' H' env'/\Gd (c06 nt none++capS caps σ) (c06 nt Sl.no++cs) H2 σ' env' H' /\
    Iss X'.K (OO (OO O σ env) σ' env') H' xs rs1/\a2K g fc fe (ds.drop i) env'=some rs2/\rs1++rs2=rs/\rs1.length<=i) (λ_ _ z=>z) ?_ ds.length
   ⟨0,_,H2,_,[],[],[],rs,by simp,c2T _,I4 t,T.keep _ _ _ st2 (λb _ o e=>k34 b o (k23 b o e)),λb hb=>(f2 b hb).1,I2.hok.fresh (c0S _),⟨_,k34 _ _ (by rw [<-hH3];exact c0Y _ rfl)⟩,.nil,R0,Gd.refl (Same.refl _),.nil,by simpa using e5,rfl,c0S _⟩
  rintro n s3 ⟨i,σ3,H3',env3,ys,xs,rs1,rs2,rfl,hi,J3,st3,fr3,ha3,pl3,vx,R3,gd3,is3,cl3,hrs,hr1⟩
  have pinA:Inv X' (a4v [s2.heap.objs.size] s3.heap) σ3 H3' s3:=by
   refine J3.pins_of λp hp=>?_
   obtain ⟨hb,e⟩:=a5X hp
   have hb:p.1=s2.heap.objs.size:=by simpa using hb
   obtain ⟨n,en⟩:=pl3
   rw [hb,en] at e
   refine ⟨by rw [hb,en];exact e,by rw [hb];exact ha3,?_,λz=>?_,λv z=>?_⟩
   .rw [hb,hE]
    show s2.heap.objs.size≠H3.objs.size
    rw [hsz]
    exact c09 (c2y _)
   .rw [hb,<-hX'] at z
    obtain ⟨_,o,ho,_⟩:=I2.stack.mem z
    exact absurd (c0W ho) (c16 _)
   .rw [<-c0U e] at z;cases z
  have apart:∀p∈a4v [s2.heap.objs.size] s3.heap,∀b∈fp,p.1≠b:=λp hp b hb z=>by
   have e:p.1=s2.heap.objs.size:=by simpa using (a5X hp).1
   exact nea b hb (z.symm.trans e)
  have accAt:∀{pl:List (Addr×Obj)} {σ':L2.St} {H':Hp} {s':Shared},Inv X' pl σ' H' s'->(∀p∈a4v [s2.heap.objs.size] s3.heap,p∈pl)->s'.heap.PlainList s2.heap.objs.size ys.toArray/\H' s2.heap.objs.size=none:=λ{pl σ' H' s'} J hsub=>by
   obtain ⟨n,en⟩:=pl3
   obtain ⟨q1,q2,_⟩:=J.pin _ (c04 _ (hsub _ (a3e (fp:=[s2.heap.objs.size]) (by simp) en)))
   exact ⟨⟨n,q1⟩,q2⟩
  have w:=wk (OO (OO O σ env) σ3 env3) H3' (λa u ea na=>by
   obtain ⟨h1,h2⟩:=gd3 a u ea λ⟨i,es,e,o,_⟩=>by
    rcases a69 e with z | ⟨_,z⟩
    .cases z;exact o
    .obtain ⟨d,_,_,z,_⟩:=cg _ _ z
     cases z;exact o
   exact ⟨h1,λz=>z.elim na h2⟩) (λa=>R3.oo) i
  by_cases hlt:i<ds.length
  .obtain ⟨go,yl⟩:=w.1 ds[i] (by simp [hlt])
   have hdr:ds.drop i=ds[i]::ds.drop (i+1):=c1r hlt
   rw [hdr,a2K] at cl3
   obtain ⟨env4,c1,c2⟩:=bind_some cl3
   obtain ⟨b,c2,c3⟩:=bind_some c2
   have ti:=T.item X' hP hW hK hcm i _ s3 σ3 H3' (λ_ _=>False) pinA (fpB fr3 apart) st3 go
   rw [hA] at ti
   refine thn ti λr s4 ⟨u,hr,h4⟩=>?_
   subst hr
   refine thn h4 λ_ s5 ⟨x,H5,I5,r5,y5,st5,fr5⟩=>?_
   obtain ⟨s35,hx5⟩:=yl x H5 y5
   have I5':=I5.pinned (fpB fr5 apart) (T.obj _ _ st5)
   have keepT:∀{σ':L2.St} {H':Hp} {s':Shared},Inv X' (a4v [s2.heap.objs.size] s3.heap++a4v fp s5.heap) σ' H' s'->tn (i+1) s'.heap/\∀b∈fp,H' b=none:=λ{σ' H' s'} J=>by
    refine ⟨T.keep _ _ _ st5 λb hb o e=>(J.pin (b,o) (c04 _ (c04 _ (a3e hb e)))).1,λb hb=>?_⟩
    obtain ⟨o,e,_⟩:=T.obj _ _ st5 b hb
    exact (J.pin (b,o) (c04 _ (c04 _ (a3e hb e)))).2.1
   have pg5:=pg _ s5 σ3 H5 x u _ I5' r5 (kg (OO O σ env) H2 σ3 H5 env3 env4 x ds[i] (λσ6 H6=>Rel X'.K (OO O σ env) H2 σ6 H6 env4/\Gd σ3 env3 H5 σ6 env4 H6) (R3.grow s35) (hK▸hx5) c1 λσ6 H6 R6 g6=>⟨R6,g6⟩)
   rw [hP,hW,hA,hE,hx] at pg5
   refine thn pg5 λ_ s6 ⟨σ6,H6,I6,R6,g6⟩=>?_
   have pc6:=pc _ s6 σ6 H6 (λb' H'=>b'=b/\Same H6 H') I6 (kc (OO O σ env) H2 σ6 H6 env4 b _ R6 c2 λH' s'=>⟨rfl,s'⟩)
   rw [hP,hW,hA,hE,hx] at pc6
   refine thn pc6 λok s7 ⟨H7,I7,hok,s67⟩=>?_
   subst hok
   have R7:=R6.grow s67
   have gd7:=gd3.trans ((Gd.refl s35).trans (g6.trans (Gd.refl s67)))
   have is7:Iss X'.K (OO (OO O σ env) σ6 env4) H7 xs rs1:=((Gd.refl s35).trans (g6.trans (Gd.refl s67))).iss is3
   cases ok with
   | false =>
    rw [if_neg c1j] at c3 ⊢
    obtain ⟨st7,fr7⟩:=keepT I7
    obtain ⟨pl7,ha7⟩:=accAt I7 λp hp=>c1a _ hp
    exact ⟨ds.length-(i+1),by lia,i+1,σ6,H7,env4,ys,xs,rs1,rs2,rfl,hlt,I7.pins_of (λ_ z=>nomatch z),st7,fr7,ha7,pl7,vx,R7,gd7,is7,c3,hrs,zqp ‹_›⟩
   | true =>
    rw [if_pos rfl] at c3 ⊢
    obtain ⟨r,d3,d4⟩:=bind_some c3
    obtain ⟨rs3,d5,d6⟩:=bind_some d4
    clear c3 d4 cl3
    obtain rfl:=c0U d6
    have pe7:=pe _ s7 σ6 H7 (λv H'=>Same H7 H'/\Is X'.K (OO (OO O σ env) σ6 env4) H' v r.d) I7 (ke (OO O σ env) H2 σ6 H7 env4 r _ R7 d3 λv H' s' rr=>⟨s',rr.is λp=>R7.oo⟩)
    rw [hP,hW,hA,hE,hx] at pe7
    refine thn pe7 λy s8 ⟨v,H8,I8,ry,s78,hv⟩=>?_
    obtain ⟨st8,fr8⟩:=keepT I8
    obtain ⟨pl8,ha8⟩:=accAt I8 λp hp=>c1a _ hp
    have hyl:ys.length=rs1.length:=by rw [<-b3E vx,is3.length]
    refine wpAny_list_append_plain (hsz:=by rw [c00,hyl,c1G];lia) pl8 λh' pl9 sb9=>?_
    have J8:Inv X' [] σ6 H8 s8:=I8.pins_of λ_ z=>nomatch z
    have J9:Inv X' [] σ6 H8 { s8 with heap:=h' }:=J8.turned (t':=s8.toks) (it:=s2.heap.objs.size) (λb o hb e=>(sb9.2 b hb).trans e) ha8
     (by rw [hE];show s2.heap.objs.size≠H3.objs.size;rw [hsz];exact c09 (c2y _)) (.inl (by rw [<-hX'];exact c0N))
     (λx c e=>by
      rw [hE] at e
      obtain ⟨_,z⟩:=I2.cell x c (a5l C h.sc I2 e)
      exact c09 z.lt) (λp hp=>by rw [<-hX'] at hp;exact absurd hp (by simp [cxB]))
    refine ⟨ds.length-(i+1),by lia,i+1,σ6,H8,env4,ys++[y],xs++[v],rs1++[r.d],rs3,rfl,hlt,J9,T.keep _ _ _ st8 λb hb o e=>(sb9.2 b (nea b hb)).trans e,fr8,ha8,by simpa using pl9,vx.append (.cons ry .nil),R7.grow s78,gd7.trans (Gd.refl s78),(is7.grow s78).append (.cons hv .nil),d5,by rw [<-hrs];simp,by simp;assumption⟩
  .have hil:i=ds.length:=by lia
   have td:=T.done X' hP hW hK hcm i _ s3 σ3 H3' (λ_ _=>False) pinA (fpB fr3 apart) st3 (w.2 (c5g.mp ‹_›))
   rw [hA] at td
   refine thn td λr s4 ⟨hr,I4'⟩=>?_
   subst hr
   obtain ⟨pl4,ha4⟩:=accAt I4' λp hp=>hp
   rw [c1F (c5g.mp ‹_›),a2K] at cl3
   obtain rfl:=c0U cl3
   rw [c1J] at hrs
   subst hrs
   obtain ⟨m4,hn4,_⟩:=I4'.loc
   rw [hE] at hn4
   obtain ⟨n4,en4⟩:=pl4
   rw [<-hX'] at I4'
   have hb0:H2 s2.heap.objs.size=none:=I2.hok.fresh (c0S _)
   have hge:s2.heap.objs.size<=H3.objs.size:=by rw [hsz];exact c5t _
   have hC0:H3' H3.objs.size=none:=I4'.free
   have hne:H3.objs.size≠s2.heap.objs.size:=by rw [hsz];exact Nat.succ_ne_self _
   refine fin H3.objs.size s2.heap.objs.size (upd H3' s2.heap.objs.size (.lst xs)) s4 ⟨m4,hn4⟩ (I2.fpOk hge (by rw [a0q hne];exact hC0)) (λh' sb=>b3j (s3:={ s2 with heap:=H3 }) (ys:=ys) I2 rfl k23 hsz f2 I4' sb ha4 ⟨n4,en4⟩ vx (by rw [is3.length,c1G];lia)) ?_ ⟨_,xs,rfl,s12.free hb0,a0V,?_⟩
   .intro b o e
    have e2:=s12 b o e
    rw [a0q (a0A e2 hb0)]
    exact R3.same b o e2
   .rw [hK] at is3
    refine is3.map (λp hp hn z=>hn (.inl (z.elim id λz=>?_))) λp u e _=>by rw [a0q (a0A e ha4)];exact e
    rw [z,ha4] at hp
    exact (hp rfl).elim
 exact codeAny_compStart_list (loop _) (T.self _ 0 _ _ _ (T.keep _ _ _ st2 (λb _ o e=>k34 b o (k23 b o e))) (loop _))
theorem a1p(h:Fx X N sc k full)(C:CompScope N sc N' caps nt sc')(hi:IV X tg iter fi)
  (hb:∀X':Cx,X'.prog=X.prog->X'.w=X.w->X'.K=X.K->X'.mg=X.mg->X'.base=X.base->Fx X' N' (rl sc' sc) k false->GV X' tg g/\IFV X' ifs fc/\EV X' elt fe)
  (hfs:∀x,foldedSetIterable iter X.env x=pure x:=by intro _;rfl):EV X (.ListComp elt [⟨tg,iter,ifs,0⟩] sc' pos) (a1E fi caps nt g fc fe):=by
 obtain ⟨wi,pi,ki⟩:=hi
 refine ⟨λσ H Q=>∃O B env r,Rel X.K O B σ H env/\a1E fi caps nt g fc fe env=some r/\∀v H',Same H H'->Res X.K (OO O σ env) H H' v r->Q v H',?_,λO B σ H env r Q R e q=>⟨O,B,env,r,R,e,q⟩⟩
 rintro pins s σ H Q I ⟨O,B,env,r,R,e,q⟩
 rw [eval_ListComp]
 exact a81 h C pi ki hb hfs I R e (use:=none) λC0 p H' s' ⟨m,hn⟩ _ hI sm rr=>⟨m,hn,λh' sb=>⟨.ref p,H',hI h' sb,rfl,q _ H' sm rr⟩⟩
theorem a4W{i:Nat}{x:Str}{pos' spos:Pos}(b:Bool)(h:Fx X N sc k full)(C:CompScope N sc N' caps nt sc')(hi:IV X tg iter fi)
  (hb:∀X':Cx,X'.prog=X.prog->X'.w=X.w->X'.K=X.K->X'.mg=X.mg->X'.base=X.base->Fx X' N' (rl sc' sc) k false->GV X' tg g/\IFV X' ifs fc/\EV X' elt fe)
  (hN:N[i]?=some x:=by rfl)(hv:Loc sc x:=by first | exact c1C rfl | exact c1q rfl)(hf:full=true\/sc.names.lookup x=some .local:=by first | exact c1C rfl | exact c1q rfl)(h1:(sc.names.lookup x==some .local)=true:=by rfl)(h2:(pos'.line==pos.line)=true:=by rfl)(h3:(sc'.names.any λ(n,k)=>n==x&&(k==.local||k==.cell))=false:=by rfl)
  (hfs:∀x,foldedSetIterable iter X.env x=pure x:=by intro _;rfl):SV X (.Assign [.Name x pos'] (.ListComp elt [⟨tg,iter,ifs,0⟩] sc' pos) spos) (bif b then sSet i (a1E fi caps nt g fc fe) else a0x i (a1E fi caps nt g fc fe)):=by
 obtain ⟨wi,pi,ki⟩:=hi
 refine ⟨λD σ H=>∃O B env fl env',Rel X.K O B σ H env/\(bif b then sSet i (a1E fi caps nt g fc fe) else a0x i (a1E fi caps nt g fc fe)) env=some (fl,env')/\EndOk X.K O B σ H env D fl env',?_,λO B σ H env fl env' D R e q=>⟨O,B,env,fl,env',R,e,q⟩⟩
 rintro pins s σ H D I ⟨O,B,env,fl,env',R,e,q⟩
 obtain ⟨r,e1,hl,hfl,t,rfl,ht⟩:∃r,a1E fi caps nt g fc fe env=some r/\i<env.length/\fl=.nx/\∃t,env'=env.set i t/\(t=r\/t=.sh r.d):=by
  cases b with
  | true =>
   dsimp only [cond] at e
   obtain ⟨r,e1,e2⟩:=bind_some e
   obtain ⟨hl,e3⟩:=a0D e2
   cases e3
   exact ⟨r,e1,hl,rfl,_,rfl,.inl rfl⟩
  | false =>
   dsimp only [cond] at e
   obtain ⟨r,e1,e2⟩:=bind_some e
   obtain ⟨hl,e3⟩:=a0D e2
   cases e3
   exact ⟨r,e1,hl,rfl,_,rfl,.inr rfl⟩
 subst hfl
 have hs:swapsWith (.ListComp elt [⟨tg,iter,ifs,0⟩] sc' pos) (some (.Name x pos')) spos.line X.env=pure true:=by
  have hk:X.env.blockKind=.function:=by unfold Env.blockKind;rw [I.ok.kind];rfl
  have hk2:X.env.kindOf x=sc.names.lookup x:=by unfold c4C;rw [h.sc]
  unfold swapsWith
  dsimp only
  rw [hk,hk2,h1,show (pos'.line==(Expr.ListComp elt [⟨tg,iter,ifs,0⟩] sc' pos).pos.line)=true from h2,h3]
  rfl
 rw [exec_Assign_Name_used _ _ _ _ hs]
 refine c0K (c4D (c0K ?_))
 show wpAny _ _ (comprehension _ sc' X.env _ (newList []) _ _ (some (assign (.Name x pos') X.env)) >>= λ_=>pure ()) _ _ _
 refine c0K (a81 h C pi ki hb hfs I R e1 (use:=some (assign (.Name x pos') X.env)) λC0 p H' s' ⟨m,hn⟩ hfp hI sm rr=>?_)
 have I':Inv X pins σ H' s':=hI s'.heap (Heap.SameBut.refl _ _)
 refine wpAny_assign_Name (a77 (v:=.ref p) I' h.nod (h.ix hN) (h.loc hv) rfl (λs2 I2 ⟨a,sb,ha⟩=>?_) (h.sto hf))
 have hac:C0≠a:=λz=>by
  rcases ha with ha | ha
  .exact hfp.2.1 (z.trans ha)
  .exact hfp.2.2.2.2.1 x a ha z.symm
 obtain ⟨o,es,ep,ho,rest⟩:=hn
 refine ⟨m,⟨o,es,ep,(sb.2 C0 hac).trans ho,rest⟩,λh' sb'=>?_⟩
 refine c0X (c0X ?_)
 have I3:Inv X pins (σ.set i (some (.ref p))) H' { s2 with heap:=h' }:=I2.turned (t':=s2.toks) (it:=C0) (λb o hb e=>(sb'.2 b hb).trans e) hfp.1 hfp.2.1 hfp.2.2.2.1 hfp.2.2.2.2.1 hfp.2.2.2.2.2
 have hr:Res X.K (OO O σ env) H H' (.ref p) t:=by
  rcases ht with rfl | rfl
  .exact rr
  .exact rr.is λq=>R.oo
 obtain ⟨R',g'⟩:=R.set sm hr hl
 exact ⟨_,H',I3,q _ H' R' g'⟩
end
end DL
namespace DL
open PySem PySem.Spec PyProof.Rows L2
section
variable {X:Cx}{pins:List (Addr×Obj)}{σ:L2.St}{H:Hp}{s:Shared}
theorem a68(I:Inv X pins σ H s)(hA:A'.handled=none)(hq:Sq X.K H k p xs)
  (h:∀(its:List Value) (h2:Heap) (St:Nat->Heap->Prop),Vals xs its->Walks X.prog X.w A' s.heap.objs.size [s.heap.objs.size,p] [s.heap.objs.size] its.length (λi v=>its[i]?=some v) St->St 0 h2 ->
   (∀b o,s.heap.get? b=some o->h2.get? b=some o)->(∀b∈[s.heap.objs.size,p],b<h2.objs.size)->Q (.ref s.heap.objs.size) { s with heap:=h2 }):wpAny (model X.prog X.w) A' (pyIter (.ref p)) Q E s:=by
 cases k with
 | true =>
  obtain ⟨its,rv,pl,hz⟩:=I.list (show SqL X.K H p xs from hq)
  have hlt:p<s.heap.objs.size:=by obtain ⟨o,n,e,_⟩:=pl;exact c0W e
  refine c2M pl.isList ?_
  have W:=Walks.list (prog:=X.prog) (w:=X.w) hA s.heap.objs.size p (c09 hlt) its.toArray
  refine h its _ (λi h=>h.IsListIter s.heap.objs.size p i/\h.IsList p its.toArray) rv (by simpa using W) ⟨⟨_,c0Y _ rfl,rfl,rfl⟩,pl.isList.push _⟩ (λb o e=>c0M _ e) λb hb=>?_
  rw [c1N]
  rcases c0R.mp hb with rfl | hb
  .exact c2y _
  .rw [c0Q.mp hb];exact Nat.lt_succ_of_lt hlt
 | false =>
  obtain ⟨its,rv,pl,hz⟩:=I.tuple (show SqT X.K H p xs from hq)
  have pl':s.heap.IsTuple p its.toArray:=pl
  have hlt:p<s.heap.objs.size:=by obtain ⟨o,e,_⟩:=pl;exact c0W e
  refine c1S pl' ?_
  have W:=Walks.tuple (prog:=X.prog) (w:=X.w) hA s.heap.objs.size p (c09 hlt) its.toArray
  refine h its _ (λi h=>h.IsTupleIter s.heap.objs.size p i/\h.IsTuple p its.toArray) rv (by simpa using W) ⟨⟨_,c0Y _ rfl,rfl,rfl⟩,?_⟩ (λb o e=>c0M _ e) λb hb=>?_
  .obtain ⟨o,e,r⟩:=pl'
   exact ⟨o,c0M _ e,r⟩
  .rw [c1N]
   rcases c0R.mp hb with rfl | hb
   .exact c2y _
   .rw [c0Q.mp hb];exact Nat.lt_succ_of_lt hlt
theorem a48(I:Inv X pins σ H s){h2 h':Heap}{tk:Nat}(k1:∀b o,s.heap.get? b=some o->h2.get? b=some o)(k2:∀b o,b∉[s.heap.objs.size]->h2.get? b=some o->h'.get? b=some o):Inv X pins σ H { s with heap:=h',toks:=tk }:=
 I.kept λb o e=>k2 b o (λz=>absurd (c0W e) (by rw [c0Q.mp z];exact c16 _)) (k1 b o e)
end
noncomputable def a3z:List D->Option (List Int)
 | []=>some []
 | .int i::ds=>(a3z ds).map (i::·)
 | _::_=>none
noncomputable def blsD:List D->Option (List Bool)
 | []=>some []
 | .bl i::ds=>(blsD ds).map (i::·)
 | _::_=>none
theorem a2G:∀(ns:List Int),a3z (ns.map D.int)=some ns
 | []=>rfl
 | n::r=>by rw [c1l,a3z,a2G r];rfl
theorem b0X:∀(ns:List Bool),blsD (ns.map D.bl)=some ns
 | []=>rfl
 | n::r=>by rw [c1l,blsD,b0X r];rfl
theorem a44:∀{ds:List D} {ns:List Int},a3z ds=some ns->ds=ns.map D.int
 | [],ns,e=>by cases e;rfl
 | .int i::ds,ns,e=>by
  obtain ⟨r,e1,rfl⟩:=map_some (show (a3z ds).map (i::·)=some ns from e)
  rw [a44 e1];rfl
 | .non::_,_,e=>by cases e
 | .bl _::_,_,e=>by cases e
 | .str _::_,_,e=>by cases e
 | .tup _::_,_,e=>by cases e
 | .lst _ _::_,_,e=>by cases e
theorem a84:∀{ds:List D} {ns:List Bool},blsD ds=some ns->ds=ns.map D.bl
 | [],ns,e=>by cases e;rfl
 | .bl i::ds,ns,e=>by
  obtain ⟨r,e1,rfl⟩:=map_some (show (blsD ds).map (i::·)=some ns from e)
  rw [a84 e1];rfl
 | .non::_,_,e=>by cases e
 | .int _::_,_,e=>by cases e
 | .str _::_,_,e=>by cases e
 | .tup _::_,_,e=>by cases e
 | .lst _ _::_,_,e=>by cases e
theorem a57{K:c0L}{O:Addr->Prop}{H:Hp}:∀{xs:List V} {ns:List Int},Iss K O H xs (ns.map D.int)->xs=ns.map V.int
 | _,[],.nil=>rfl
 | _,n::r,.cons h t=>by rw [a03 h,a57 t];rfl
theorem b0x{K:c0L}{O:Addr->Prop}{H:Hp}:∀{xs:List V} {ns:List Bool},Iss K O H xs (ns.map D.bl)->xs=ns.map V.bl
 | _,[],.nil=>rfl
 | _,n::r,.cons h t=>by rw [a9O h,b0x t];rfl
theorem b3F{ns:List Int}(r:Vals (ns.map V.int) its){i:Nat}(h:its[i]?=some v):∃t,v=.int (ns.getD i 0) t:=by
 have hl:=r.length
 have hi:=(c0V.mp h).1
 have hi':i<ns.length:=by rw [c0P] at hl;lia
 obtain ⟨u,hu,ru⟩:=r.get (show (ns.map V.int)[i]?=some (.int ns[i]) by simp [hi'])
 rw [h] at hu
 cases hu
 obtain ⟨t,e⟩:=ru
 exact ⟨t,by rw [e];simp [hi']⟩
theorem b6f{ns:List Bool}(r:Vals (ns.map V.bl) its){i:Nat}(h:its[i]?=some v):v=.bool (ns.getD i false):=by
 have hl:=r.length
 have hi:=(c0V.mp h).1
 have hi':i<ns.length:=by rw [c0P] at hl;lia
 obtain ⟨u,hu,ru⟩:=r.get (show (ns.map V.bl)[i]?=some (.bl ns[i]) by simp [hi'])
 rw [h] at hu
 cases hu
 obtain rfl:v=c11 ns[i]:=ru
 simp [hi']
section
variable {X:Cx}{a:Expr}{p pos:Pos}{ba:En->Option (Bool×List D)}
theorem preSum_eq(ns:List Int):∀j,j<=ns.length->preSum (λi=>ns.getD i 0) j=(ns.take j).sum
 | 0,_=>rfl
 | j+1,h=>by
  have hj:j<ns.length:=h
  rw [preSum,preSum_eq ns j (c2A hj),<-List.take_append_getElem hj,c33]
  simp [hj]
theorem a8g(ns:List Bool):(c1n ns.length).all (λi=>ns.getD i false)=ns.all id:=by
 rw [Bool.eq_iff_iff,c3U,c3U]
 constructor
 .intro h x hx
  obtain ⟨i,hi,rfl⟩:=c3b.mp hx
  have:=h i (c1x.mpr hi)
  simpa [hi] using this
 .intro h i hi
  have hi:=c1x.mp hi
  have:=h ns[i] (c1X hi)
  simpa [hi] using this
theorem b3c(hc:X.calm=true):CallR X (.builtin "sum") (λxs H Q=>∃p k ns,xs=[.ref p]/\Sq X.K H k p (c3J V.int ns)/\Q (.int ns.sum) H):=by
 intro pins s σ H xs us Q I r h
 obtain ⟨p,k,ns,rfl,hq,q⟩:=h
 obtain ⟨u,rfl,ru⟩:=r.one
 cases ru
 refine call_sum_walkAnyS (a68 (A':=X.A.in1) I (I.ok.hd hc) hq λits h2 St rv W st0 k1 hfp=>?_)
 refine ⟨_,_,_,_,_,_,_,λi=>ns.getD i 0,rfl,W.toS,st0,hfp,λi v hv=>b3F rv hv,λs' t' M=>?_⟩
 have hl:its.length=ns.length:=by rw [<-rv.length];simp
 have e:preSum (λi=>ns.getD i 0) its.length=ns.sum:=by rw [hl,preSum_eq ns _ (c0S _)];simp
 rw [e]
 obtain ⟨h',g',d',t2,o'⟩:=s'
 obtain ⟨m1,m2,m3,m4,m5⟩:=M
 have m2:g'=s.gens:=m2
 have m3:d'=s.drawn:=m3
 have m4:o'=s.os:=m4
 subst m2 m3 m4
 exact ⟨.int ns.sum,H,a48 I k1 m1,⟨t',rfl⟩,q⟩
theorem b3i(hc:X.calm=true):CallR X (.builtin "all") (λxs H Q=>∃p k ns,xs=[.ref p]/\Sq X.K H k p (c3J V.bl ns)/\Q (.bl (ns.all id)) H):=by
 intro pins s σ H xs us Q I r h
 obtain ⟨p,k,ns,rfl,hq,q⟩:=h
 obtain ⟨u,rfl,ru⟩:=r.one
 cases ru
 refine call_all_walk (a68 (A':=X.A.in1) I (I.ok.hd hc) hq λits h2 St rv W st0 k1 hfp=>?_)
 refine ⟨_,_,_,_,_,_,λi=>ns.getD i false,rfl,W,st0,λi v s Q E hP hQ=>?_,λh' tk hk=>?_⟩
 .rw [b6f rv hP]
  exact c2G hQ
 .have hl:its.length=ns.length:=by rw [<-rv.length];simp
  rw [hl,a8g]
  exact ⟨.bl _,H,a48 I k1 hk,rfl,q⟩
noncomputable def minL:List Int->Int
 | []=>0
 | n::r=>r.foldl (λa b=>if b<a then b else a) n
noncomputable def maxL:List Int->Int
 | []=>0
 | n::r=>r.foldl (λa b=>if b>a then b else a) n
noncomputable def eSum(f:En->Option (Bool×List D)):En->Option Sl:=λenv=>(f env).bind λx=>(a3z x.2).map λns=>.sh (.int ns.sum)
noncomputable def eAll(f:En->Option (Bool×List D)):En->Option Sl:=λenv=>(f env).bind λx=>(blsD x.2).map λns=>.sh (.bl (ns.all id))
noncomputable def eAny(f:En->Option (Bool×List D)):En->Option Sl:=λenv=>(f env).bind λx=>(blsD x.2).map λns=>.sh (.bl (ns.any id))
noncomputable def eMin(f:En->Option (Bool×List D)):En->Option Sl:=λenv=>(f env).bind λx=>(a3z x.2).bind λns=>if ns≠[] then some (.sh (.int (minL ns))) else none
noncomputable def eMax(f:En->Option (Bool×List D)):En->Option Sl:=λenv=>(f env).bind λx=>(a3z x.2).bind λns=>if ns≠[] then some (.sh (.int (maxL ns))) else none
theorem a3O(hg:Gl X "sum")(hm:X.mg "sum" = none)(hc:X.calm=true)(ha:BV X a ba)(hs:starEach [a] X.env=[(false,eval a X.env)]:=by rfl):EV X (.Call (.Name "sum" p) [a] [] pos) (eSum ba):=by
 obtain ⟨t,pt,k⟩:=ha
 refine ⟨_,a22 (b3c hc) hg hm (by decide +kernel) (a2i pt a3I hs) (by decide) (by decide) hs rfl,λO B σ H env s Q R e q=>?_⟩
 obtain ⟨⟨kk,ds⟩,e1,e2⟩:=bind_some e
 obtain ⟨ns,e3,rfl⟩:=map_some e2
 have e3':=a44 e3
 dsimp only at e3'
 subst e3'
 refine k O B σ H env kk _ _ R e1 λl xs H1 s1 hq hx=>⟨l,kk,ns,rfl,?_,q _ H1 s1 (Is.int _)⟩
 rw [<-a57 hx];exact hq
theorem b53(hg:Gl X "all")(hm:X.mg "all" = none)(hc:X.calm=true)(ha:BV X a ba)(hs:starEach [a] X.env=[(false,eval a X.env)]:=by rfl):EV X (.Call (.Name "all" p) [a] [] pos) (eAll ba):=by
 obtain ⟨t,pt,k⟩:=ha
 refine ⟨_,a22 (b3i hc) hg hm (by decide +kernel) (a2i pt a3I hs) (by decide) (by decide) hs rfl,λO B σ H env s Q R e q=>?_⟩
 obtain ⟨⟨kk,ds⟩,e1,e2⟩:=bind_some e
 obtain ⟨ns,e3,rfl⟩:=map_some e2
 have e3':=a84 e3
 dsimp only at e3'
 subst e3'
 refine k O B σ H env kk _ _ R e1 λl xs H1 s1 hq hx=>⟨l,kk,ns,rfl,?_,q _ H1 s1 (Is.bl _)⟩
 rw [<-b0x hx];exact hq
end
end DL
namespace DL
open PySem PySem.Spec PyProof.Rows L2
noncomputable def allS:List (Option Bool)->Option (List Bool)
 | []=>some []
 | some b::r=>(allS r).map (b::·)
 | none::_=>none
noncomputable def eqD:Nat->D->D->Option Bool
 | _,.int i,.int j=>some (decide (i=j))
 | _,.bl i,.bl j=>some (decide (i=j))
 | _,.str i,.str j=>some (decide (i=j))
 | _,.non,.non=>some true
 | _,.bl i,.int j=>some (decide ((if i then 1 else 0)=j))
 | _,.int i,.bl j=>some (decide (i=(if j then 1 else 0)))
 | n+1,.tup a,.tup b=>(allS (c2g (eqD n) a b)).map λbs=>bs.all id&&decide (a.length=b.length)
 | n+1,.lst _ a,.lst _ b=>if a.length=b.length then (allS (c2g (eqD n) a b)).map λbs=>bs.all id else some false
 | 0,.tup _,.tup _=>none
 | 0,.lst _ _,.lst _ _=>none
 | _,.exc _,_=>none
 | _,_,.exc _=>none
 | _,.dct _ _,_=>none
 | _,_,.dct _ _=>none
 | _,_,_=>some false
theorem a30:∀{os:List (Option Bool)} {bs:List Bool},allS os=some bs->os.length=bs.length/\∀(i:Nat) (b:Bool),bs[i]?=some b->os[i]?=some (some b)
 | [],bs,e=>by cases e;exact ⟨rfl,λi b h=>by simp at h⟩
 | some b::r,bs,e=>by
  obtain ⟨bs',e1,rfl⟩:=map_some (show (allS r).map (b::·)=some bs from e)
  obtain ⟨l,ih⟩:=a30 e1
  refine ⟨by simp [l],λi c h=>?_⟩
  cases i with
  | zero=>simpa using h
  | succ i=>simpa using ih i c (by simpa using h)
 | none::_,bs,e=>by cases e
theorem all_range{bs:List Bool}{n:Nat}(h:bs.length=n):(c1n n).all (λi=>bs.getD i false)=bs.all id:=by rw [<-h];exact a8g bs
section
variable {X:Cx}{pins:List (Addr×Obj)}{σ:L2.St}{H:Hp}{s:Shared}{O O':Addr->Prop}
noncomputable def IsV(K:c0L)(O:Addr->Prop)(H:Hp)(v:V):D->Prop
 | .non=>v=.non
 | .bl b=>v=.bl b
 | .int i=>v=.int i
 | .str x=>v=.str x
 | .tup ds=>∃p xs,v=.ref p/\SqT K H p xs/\Iss K O H xs ds
 | .lst _ ds=>∃p xs,v=.ref p/\SqL K H p xs/\Iss K O H xs ds
 | .exc _=>True
 | .dct _ _=>True
theorem Is.isV{K:c0L}{v:V}{d:D}(h:Is K O H v d):IsV K O H v d:=by
 cases d with
 | non=>exact b2E h
 | bl b=>exact a9O h
 | int i=>exact a03 h
 | str x=>exact b2D h
 | tup ds=>exact a8S h
 | lst r ds =>
  obtain ⟨p,xs,e,h1,h2⟩:=h.seq (k:=true) (ds:=ds) rfl
  exact ⟨p,xs,e,h1,h2⟩
 | exc n=>trivial
 | dct n m=>trivial
theorem a5p(I:Inv X pins σ H s)(h:SqT X.K H p xs)(h':SqL X.K H p ys):False:=by
 obtain ⟨_,_,⟨o,e1,c1,_⟩,_⟩:=I.tuple h
 obtain ⟨_,_,⟨o',_,e2,c2,_⟩,_⟩:=I.list h'
 rw [e1] at e2
 cases e2
 rw [c1] at c2
 injection c2 with c3
 exact absurd c3 (by decide)
theorem zip_get{n:Nat}{i:Nat}{o:Option Bool}(h:(c2g (eqD n) a b)[i]?=some o):∃x y,a[i]?=some x/\b[i]?=some y/\eqD n x y=o:=by
 rw [c3M] at h
 cases ha:a[i]? with
 | none=>rw [ha] at h;simp at h
 | some x =>
  cases hb:b[i]? with
  | none=>rw [ha,hb] at h;simp at h
  | some y=>rw [ha,hb] at h;exact ⟨x,y,rfl,rfl,by simpa using h⟩
theorem b0L(I:Inv X pins σ H s):∀(n:Nat) {v:V} {d d':D} {b:Bool},Is X.K O H v d->Is X.K O' H v d'->eqD n d d'=some b->b=true:=by
 intro n
 induction n with
 | zero =>
  intro v d d' b h h' e
  have h:=h.isV
  have h':=h'.isV
  cases d<;>cases d'<;>simp only [IsV] at h h'<;>simp only [eqD,c01,reduceCtorEq] at e<;>first
   | (subst h;cases h';exact e.symm)
   | (subst h;cases h';rw [<-e];simp;done)
   | (subst h;cases h';done)
   | (subst h;obtain ⟨_,_,h',_⟩:=h';cases h';done)
   | (subst h';obtain ⟨_,_,h,_⟩:=h;cases h;done)
   | (obtain ⟨_,_,rfl,h,_⟩:=h;obtain ⟨_,_,hr,h',_⟩:=h';cases hr;first | exact (a5p I h h').elim | exact (a5p I h' h).elim)
 | succ n ih =>
  intro v d d' b h h' e
  have key:∀{xs:List V} {ds ds':List D} {bs:List Bool},Iss X.K O H xs ds->Iss X.K O' H xs ds'->allS (c2g (eqD n) ds ds')=some bs->bs.all id=true:=λ{xs ds ds' bs} a1 a2 ea=>by
   obtain ⟨_,g⟩:=a30 ea
   rw [c3U]
   intro c hc
   obtain ⟨i,hi,rfl⟩:=c3b.mp hc
   obtain ⟨x,y,ex,ey,exy⟩:=zip_get (g i _ (c07 hi))
   obtain ⟨z,ez,iz⟩:=a1.get ex
   obtain ⟨z',ez',iz'⟩:=a2.get ey
   rw [ez] at ez'
   cases ez'
   exact ih iz iz' exy
  have h:=h.isV
  have h':=h'.isV
  cases d<;>cases d'<;>simp only [IsV] at h h'<;>simp only [eqD,c01,reduceCtorEq] at e<;>first
   | (subst h;cases h';exact e.symm)
   | (subst h;cases h';rw [<-e];simp;done)
   | (subst h;cases h';done)
   | (subst h;obtain ⟨_,_,h',_⟩:=h';cases h';done)
   | (subst h';obtain ⟨_,_,h,_⟩:=h;cases h;done)
   | (obtain ⟨_,_,rfl,h,_⟩:=h;obtain ⟨_,_,hr,h',_⟩:=h';cases hr;first | exact (a5p I h h').elim | exact (a5p I h' h).elim)
   | skip
  .obtain ⟨_,xs,rfl,h,a1⟩:=h
   obtain ⟨_,ys,hr,h',a2⟩:=h'
   cases hr
   cases I.tuple_inj h h'
   obtain ⟨bs,e1,rfl⟩:=map_some e
   rw [key a1 a2 e1,<-a1.length,<-a2.length]
   simp
  .obtain ⟨_,xs,rfl,h,a1⟩:=h
   obtain ⟨_,ys,hr,h',a2⟩:=h'
   cases hr
   cases I.list_inj h h'
   rw [if_pos (by rw [<-a1.length,<-a2.length])] at e
   obtain ⟨bs,e1,rfl⟩:=map_some e
   exact key a1 a2 e1
theorem b1F{xs:List V}{its:List Value}{O:Addr->Prop}{K:c0L}{ds:List D}(r:Vals xs its)(a:Iss K O H xs ds){j:Nat}(h:j<its.toArray.size):∃d v,ds[j]?=some d/\Is K O H v d/\RelV v its.toArray[j]:=by
 have hj:j<its.length:=by simpa using h
 have hl:=r.length
 obtain ⟨d,hd,hv⟩:=a.getV (i:=j) (x:=xs[j]'(by lia)) (c07 (by lia))
 obtain ⟨u,hu,ru⟩:=r.get (i:=j) (x:=xs[j]'(by lia)) (c07 (by lia))
 rw [c07 hj] at hu
 refine ⟨d,_,hd,hv,?_⟩
 rw [List.getElem_toArray,c0U hu]
 exact ru
open PySem.SeqAt in
theorem b5Z(I:Inv X pins σ H s)(hu:A.units<cLine)(h:IsV X.K O H v d)(h':IsV X.K O' H v' d')(r:RelV v u)(r':RelV v' u')(e:eqD n d d'=some b)
  (hn:(∀a c,d=.tup a->d'=.tup c->False)/\∀a c r r',d=.lst r a->d'=.lst r' c->False):EqAt A s u u' b/\RcAt A s u u' b/\RcNeAt A s u u' (!b):=by
 cases d with
 | non =>
  cases d' with
  | non =>
   subst h;obtain rfl:u=c1y:=r
   subst h';obtain rfl:u'=c1y:=r'
   simp only [eqD,c01] at e
   subst e
   exact ⟨EqAt.same _,RcAt.none_none,RcNeAt.none_none⟩
  | bl k' =>
   subst h;obtain rfl:u=c1y:=r
   subst h';obtain rfl:u'=c11 k':=r'
   simp only [eqD,c01] at e
   subst e
   exact ⟨EqAt.none_bool k',RcAt.none_bool k',RcNeAt.none_bool k'⟩
  | int k' =>
   subst h;obtain rfl:u=c1y:=r
   subst h';obtain ⟨t',rfl⟩:=r'
   simp only [eqD,c01] at e
   subst e
   exact ⟨EqAt.none_int k' t',RcAt.none_int k' t',RcNeAt.none_int k' t'⟩
  | str k' =>
   subst h;obtain rfl:u=c1y:=r
   subst h';obtain ⟨t',rfl⟩:=r'
   simp only [eqD,c01] at e
   subst e
   exact ⟨EqAt.none_str k' t',RcAt.none_str k' t',RcNeAt.none_str k' t'⟩
  | tup ds' =>
   subst h;obtain rfl:u=c1y:=r
   obtain ⟨p',xs',rfl,hq',_⟩:=h';obtain ⟨its',_,pl',_⟩:=I.tuple hq';obtain rfl:u'=c1k p':=r';replace pl':s.heap.IsTuple p' its'.toArray:=pl'
   simp only [eqD,c01] at e
   subst e
   exact ⟨EqAt.none_tuple pl' hu,RcAt.none_tuple pl' hu,RcNeAt.none_tuple pl' hu⟩
  | lst ro' ds' =>
   subst h;obtain rfl:u=c1y:=r
   obtain ⟨p',xs',rfl,hq',_⟩:=h';obtain ⟨its',_,pl',_⟩:=I.list hq';obtain rfl:u'=c1k p':=r';replace pl':=pl'.isList
   simp only [eqD,c01] at e
   subst e
   exact ⟨EqAt.none_list pl' hu,RcAt.none_list pl' hu,RcNeAt.none_list pl' hu⟩
  | exc n'=>simp [eqD] at e
  | dct n' m'=>simp [eqD] at e
 | bl k =>
  cases d' with
  | non =>
   subst h;obtain rfl:u=c11 k:=r
   subst h';obtain rfl:u'=c1y:=r'
   simp only [eqD,c01] at e
   subst e
   exact ⟨EqAt.bool_none k,RcAt.bool_none k,RcNeAt.bool_none k⟩
  | bl k' =>
   subst h;obtain rfl:u=c11 k:=r
   subst h';obtain rfl:u'=c11 k':=r'
   simp only [eqD,c01] at e
   subst e
   exact ⟨EqAt.bool_bool k k',RcAt.bool_bool k k',RcNeAt.bool_bool k k'⟩
  | int k' =>
   subst h;obtain rfl:u=c11 k:=r
   subst h';obtain ⟨t',rfl⟩:=r'
   simp only [eqD,c01] at e
   subst e
   exact ⟨EqAt.bool_int k k' t',RcAt.bool_int k k' t',RcNeAt.bool_int k k' t'⟩
  | str k' =>
   subst h;obtain rfl:u=c11 k:=r
   subst h';obtain ⟨t',rfl⟩:=r'
   simp only [eqD,c01] at e
   subst e
   exact ⟨EqAt.bool_str k k' t',RcAt.bool_str k k' t',RcNeAt.bool_str k k' t'⟩
  | tup ds' =>
   subst h;obtain rfl:u=c11 k:=r
   obtain ⟨p',xs',rfl,hq',_⟩:=h';obtain ⟨its',_,pl',_⟩:=I.tuple hq';obtain rfl:u'=c1k p':=r';replace pl':s.heap.IsTuple p' its'.toArray:=pl'
   simp only [eqD,c01] at e
   subst e
   exact ⟨EqAt.bool_tuple k pl' hu,RcAt.bool_tuple k pl' hu,RcNeAt.bool_tuple k pl' hu⟩
  | lst ro' ds' =>
   subst h;obtain rfl:u=c11 k:=r
   obtain ⟨p',xs',rfl,hq',_⟩:=h';obtain ⟨its',_,pl',_⟩:=I.list hq';obtain rfl:u'=c1k p':=r';replace pl':=pl'.isList
   simp only [eqD,c01] at e
   subst e
   exact ⟨EqAt.bool_list k pl' hu,RcAt.bool_list k pl' hu,RcNeAt.bool_list k pl' hu⟩
  | exc n'=>simp [eqD] at e
  | dct n' m'=>simp [eqD] at e
 | int k =>
  cases d' with
  | non =>
   subst h;obtain ⟨t,rfl⟩:=r
   subst h';obtain rfl:u'=c1y:=r'
   simp only [eqD,c01] at e
   subst e
   exact ⟨EqAt.int_none k t,RcAt.int_none k t,RcNeAt.int_none k t⟩
  | bl k' =>
   subst h;obtain ⟨t,rfl⟩:=r
   subst h';obtain rfl:u'=c11 k':=r'
   simp only [eqD,c01] at e
   subst e
   exact ⟨EqAt.int_bool k t k',RcAt.int_bool k t k',RcNeAt.int_bool k t k'⟩
  | int k' =>
   subst h;obtain ⟨t,rfl⟩:=r
   subst h';obtain ⟨t',rfl⟩:=r'
   simp only [eqD,c01] at e
   subst e
   exact ⟨EqAt.int_int k t k' t',RcAt.int_int k t k' t',RcNeAt.int_int k t k' t'⟩
  | str k' =>
   subst h;obtain ⟨t,rfl⟩:=r
   subst h';obtain ⟨t',rfl⟩:=r'
   simp only [eqD,c01] at e
   subst e
   exact ⟨EqAt.int_str k t k' t',RcAt.int_str k t k' t',RcNeAt.int_str k t k' t'⟩
  | tup ds' =>
   subst h;obtain ⟨t,rfl⟩:=r
   obtain ⟨p',xs',rfl,hq',_⟩:=h';obtain ⟨its',_,pl',_⟩:=I.tuple hq';obtain rfl:u'=c1k p':=r';replace pl':s.heap.IsTuple p' its'.toArray:=pl'
   simp only [eqD,c01] at e
   subst e
   exact ⟨EqAt.int_tuple k t pl' hu,RcAt.int_tuple k t pl' hu,RcNeAt.int_tuple k t pl' hu⟩
  | lst ro' ds' =>
   subst h;obtain ⟨t,rfl⟩:=r
   obtain ⟨p',xs',rfl,hq',_⟩:=h';obtain ⟨its',_,pl',_⟩:=I.list hq';obtain rfl:u'=c1k p':=r';replace pl':=pl'.isList
   simp only [eqD,c01] at e
   subst e
   exact ⟨EqAt.int_list k t pl' hu,RcAt.int_list k t pl' hu,RcNeAt.int_list k t pl' hu⟩
  | exc n'=>simp [eqD] at e
  | dct n' m'=>simp [eqD] at e
 | str k =>
  cases d' with
  | non =>
   subst h;obtain ⟨t,rfl⟩:=r
   subst h';obtain rfl:u'=c1y:=r'
   simp only [eqD,c01] at e
   subst e
   exact ⟨EqAt.str_none k t,RcAt.str_none k t,RcNeAt.str_none k t⟩
  | bl k' =>
   subst h;obtain ⟨t,rfl⟩:=r
   subst h';obtain rfl:u'=c11 k':=r'
   simp only [eqD,c01] at e
   subst e
   exact ⟨EqAt.str_bool k t k',RcAt.str_bool k t k',RcNeAt.str_bool k t k'⟩
  | int k' =>
   subst h;obtain ⟨t,rfl⟩:=r
   subst h';obtain ⟨t',rfl⟩:=r'
   simp only [eqD,c01] at e
   subst e
   exact ⟨EqAt.str_int k t k' t',RcAt.str_int k t k' t',RcNeAt.str_int k t k' t'⟩
  | str k' =>
   subst h;obtain ⟨t,rfl⟩:=r
   subst h';obtain ⟨t',rfl⟩:=r'
   simp only [eqD,c01] at e
   subst e
   exact ⟨EqAt.str_str k t k' t',RcAt.str_str k t k' t',RcNeAt.str_str k t k' t'⟩
  | tup ds' =>
   subst h;obtain ⟨t,rfl⟩:=r
   obtain ⟨p',xs',rfl,hq',_⟩:=h';obtain ⟨its',_,pl',_⟩:=I.tuple hq';obtain rfl:u'=c1k p':=r';replace pl':s.heap.IsTuple p' its'.toArray:=pl'
   simp only [eqD,c01] at e
   subst e
   exact ⟨EqAt.str_tuple k t pl' hu,RcAt.str_tuple k t pl' hu,RcNeAt.str_tuple k t pl' hu⟩
  | lst ro' ds' =>
   subst h;obtain ⟨t,rfl⟩:=r
   obtain ⟨p',xs',rfl,hq',_⟩:=h';obtain ⟨its',_,pl',_⟩:=I.list hq';obtain rfl:u'=c1k p':=r';replace pl':=pl'.isList
   simp only [eqD,c01] at e
   subst e
   exact ⟨EqAt.str_list k t pl' hu,RcAt.str_list k t pl' hu,RcNeAt.str_list k t pl' hu⟩
  | exc n'=>simp [eqD] at e
  | dct n' m'=>simp [eqD] at e
 | tup ds =>
  cases d' with
  | non =>
   obtain ⟨p,xs,rfl,hq,_⟩:=h;obtain ⟨its,_,pl,_⟩:=I.tuple hq;obtain rfl:u=c1k p:=r;replace pl:s.heap.IsTuple p its.toArray:=pl
   subst h';obtain rfl:u'=c1y:=r'
   simp only [eqD,c01] at e
   subst e
   exact ⟨EqAt.tuple_none pl hu,RcAt.tuple_none pl hu,RcNeAt.tuple_none pl hu⟩
  | bl k' =>
   obtain ⟨p,xs,rfl,hq,_⟩:=h;obtain ⟨its,_,pl,_⟩:=I.tuple hq;obtain rfl:u=c1k p:=r;replace pl:s.heap.IsTuple p its.toArray:=pl
   subst h';obtain rfl:u'=c11 k':=r'
   simp only [eqD,c01] at e
   subst e
   exact ⟨EqAt.tuple_bool k' pl hu,RcAt.tuple_bool k' pl hu,RcNeAt.tuple_bool k' pl hu⟩
  | int k' =>
   obtain ⟨p,xs,rfl,hq,_⟩:=h;obtain ⟨its,_,pl,_⟩:=I.tuple hq;obtain rfl:u=c1k p:=r;replace pl:s.heap.IsTuple p its.toArray:=pl
   subst h';obtain ⟨t',rfl⟩:=r'
   simp only [eqD,c01] at e
   subst e
   exact ⟨EqAt.tuple_int k' t' pl hu,RcAt.tuple_int k' t' pl hu,RcNeAt.tuple_int k' t' pl hu⟩
  | str k' =>
   obtain ⟨p,xs,rfl,hq,_⟩:=h;obtain ⟨its,_,pl,_⟩:=I.tuple hq;obtain rfl:u=c1k p:=r;replace pl:s.heap.IsTuple p its.toArray:=pl
   subst h';obtain ⟨t',rfl⟩:=r'
   simp only [eqD,c01] at e
   subst e
   exact ⟨EqAt.tuple_str k' t' pl hu,RcAt.tuple_str k' t' pl hu,RcNeAt.tuple_str k' t' pl hu⟩
  | tup ds'=>exact (hn.1 _ _ rfl rfl).elim
  | lst ro' ds' =>
   obtain ⟨p,xs,rfl,hq,_⟩:=h;obtain ⟨its,_,pl,_⟩:=I.tuple hq;obtain rfl:u=c1k p:=r;replace pl:s.heap.IsTuple p its.toArray:=pl
   obtain ⟨p',xs',rfl,hq',_⟩:=h';obtain ⟨its',_,pl',_⟩:=I.list hq';obtain rfl:u'=c1k p':=r';replace pl':=pl'.isList
   simp only [eqD,c01] at e
   subst e
   exact ⟨EqAt.tuple_list pl pl' hu,RcAt.tuple_list pl pl' hu,RcNeAt.tuple_list pl pl' hu⟩
  | exc n'=>simp [eqD] at e
  | dct n' m'=>simp [eqD] at e
 | lst ro ds =>
  cases d' with
  | non =>
   obtain ⟨p,xs,rfl,hq,_⟩:=h;obtain ⟨its,_,pl,_⟩:=I.list hq;obtain rfl:u=c1k p:=r;replace pl:=pl.isList
   subst h';obtain rfl:u'=c1y:=r'
   simp only [eqD,c01] at e
   subst e
   exact ⟨EqAt.list_none pl hu,RcAt.list_none pl hu,RcNeAt.list_none pl hu⟩
  | bl k' =>
   obtain ⟨p,xs,rfl,hq,_⟩:=h;obtain ⟨its,_,pl,_⟩:=I.list hq;obtain rfl:u=c1k p:=r;replace pl:=pl.isList
   subst h';obtain rfl:u'=c11 k':=r'
   simp only [eqD,c01] at e
   subst e
   exact ⟨EqAt.list_bool k' pl hu,RcAt.list_bool k' pl hu,RcNeAt.list_bool k' pl hu⟩
  | int k' =>
   obtain ⟨p,xs,rfl,hq,_⟩:=h;obtain ⟨its,_,pl,_⟩:=I.list hq;obtain rfl:u=c1k p:=r;replace pl:=pl.isList
   subst h';obtain ⟨t',rfl⟩:=r'
   simp only [eqD,c01] at e
   subst e
   exact ⟨EqAt.list_int k' t' pl hu,RcAt.list_int k' t' pl hu,RcNeAt.list_int k' t' pl hu⟩
  | str k' =>
   obtain ⟨p,xs,rfl,hq,_⟩:=h;obtain ⟨its,_,pl,_⟩:=I.list hq;obtain rfl:u=c1k p:=r;replace pl:=pl.isList
   subst h';obtain ⟨t',rfl⟩:=r'
   simp only [eqD,c01] at e
   subst e
   exact ⟨EqAt.list_str k' t' pl hu,RcAt.list_str k' t' pl hu,RcNeAt.list_str k' t' pl hu⟩
  | tup ds' =>
   obtain ⟨p,xs,rfl,hq,_⟩:=h;obtain ⟨its,_,pl,_⟩:=I.list hq;obtain rfl:u=c1k p:=r;replace pl:=pl.isList
   obtain ⟨p',xs',rfl,hq',_⟩:=h';obtain ⟨its',_,pl',_⟩:=I.tuple hq';obtain rfl:u'=c1k p':=r';replace pl':s.heap.IsTuple p' its'.toArray:=pl'
   simp only [eqD,c01] at e
   subst e
   exact ⟨EqAt.list_tuple pl pl' hu,RcAt.list_tuple pl pl' hu,RcNeAt.list_tuple pl pl' hu⟩
  | lst ro' ds'=>exact (hn.2 _ _ _ _ rfl rfl).elim
  | exc n'=>simp [eqD] at e
  | dct n' m'=>simp [eqD] at e
 | exc n=>cases d'<;>simp [eqD] at e
 | dct n m=>cases d'<;>simp [eqD] at e
open PySem.SeqAt in
theorem b2Y(I:Inv X pins σ H s):∀(n:Nat) {A:Around} {u u':Value} {v v':V} {d d':D} {b:Bool},A.units+n<cLine->Is X.K O H v d->Is X.K O' H v' d'->RelV v u->RelV v' u'->eqD n d d'=some b ->
  EqAt A s u u' b/\RcAt A s u u' b/\RcNeAt A s u u' (!b):=by
 intro n
 induction n with
 | zero =>
  intro A u u' v v' d d' b hu h h' r r' e
  refine b5Z I ‹_› h.isV h'.isV r r' e ⟨?_,?_⟩
  .rintro a c rfl rfl;simp [eqD] at e
  .rintro a c ro ro' rfl rfl;simp [eqD] at e
 | succ n ih =>
  intro A u u' v v' d d' b hu h h' r r' e
  have elems:∀{xs ys:List V} {its its2:List Value} {ds es:List D} {bs:List Bool},Vals xs its->Vals ys its2->Iss X.K O H xs ds->Iss X.K O' H ys es->allS (c2g (eqD n) ds es)=some bs ->
    ∀j (h1:j<its.toArray.size) (h2:j<its2.toArray.size),EqAt A.in1 s its.toArray[j] its2.toArray[j] (bs.getD j false):=λ{xs ys its its2 ds es bs} rx ry ax ay ea j h1 h2=>by
   obtain ⟨d1,v1,e1,i1,r1⟩:=b1F rx ax h1
   obtain ⟨d2,v2,e2,i2,r2⟩:=b1F ry ay h2
   obtain ⟨hl,g⟩:=a30 ea
   have hz:(c2g (eqD n) ds es)[j]?=some (eqD n d1 d2):=by rw [c3M,e1,e2]
   have hj:j<bs.length:=by rw [<-hl];exact (c0V.mp hz).1
   have:=g j bs[j] (c07 hj)
   rw [hz] at this
   have e3:bs.getD j false=bs[j]:=by simp [hj]
   rw [e3]
   exact (ih (A:=A.in1) (by show A.units+1+n<_;lia) i1 i2 r1 r2 (c0U this)).1
  by_cases ht:∃a c,d=.tup a/\d'=.tup c
  .obtain ⟨ds,es,rfl,rfl⟩:=ht
   simp only [eqD] at e
   obtain ⟨bs,e1,rfl⟩:=map_some e
   obtain ⟨p,xs,rfl,hq,ax⟩:=h.isV
   obtain ⟨p',ys,rfl,hq',ay⟩:=h'.isV
   obtain ⟨its,rx,pl,_⟩:=I.tuple hq
   obtain ⟨its2,ry,pl',_⟩:=I.tuple hq'
   obtain rfl:u=c1k p:=r
   obtain rfl:u'=c1k p':=r'
   have pl:s.heap.IsTuple p its.toArray:=pl
   have pl':s.heap.IsTuple p' its2.toArray:=pl'
   have hlen:bs.length=min ds.length es.length:=by rw [<-(a30 e1).1,c34]
   have l1:its.toArray.size=ds.length:=by rw [c00,<-rx.length,ax.length]
   have l2:its2.toArray.size=es.length:=by rw [c00,<-ry.length,ay.length]
   have val:((c1n (min its.toArray.size its2.toArray.size)).all (λj=>bs.getD j false)&&its.toArray.size==its2.toArray.size)=(bs.all id&&decide (ds.length=es.length)):=by
    rw [l1,l2,all_range hlen]
    rfl
   have rc:=RcAt.tuples pl pl' (zqo ‹_›) (elems rx ry ax ay e1)
   have rn:=RcNeAt.tuples pl pl' (zqo ‹_›) (elems rx ry ax ay e1)
   rw [val] at rc rn
   refine ⟨?_,rc,rn⟩
   by_cases hp:p=p'
   .subst hp
    have:=b0L I (n+1) h h' (show eqD (n+1) (.tup ds) (.tup es)=some (bs.all id&&decide (ds.length=es.length)) by simp only [eqD];rw [e1];rfl)
    rw [this]
    exact EqAt.same _
   .exact .of_refs hp rc
  by_cases hl:∃a c ro ro',d=.lst ro a/\d'=.lst ro' c
  .obtain ⟨ds,es,ro,ro',rfl,rfl⟩:=hl
   have e0:=e
   simp only [eqD] at e
   obtain ⟨p,xs,rfl,hq,ax⟩:=h.isV
   obtain ⟨p',ys,rfl,hq',ay⟩:=h'.isV
   obtain ⟨its,rx,pl,_⟩:=I.list hq
   obtain ⟨its2,ry,pl',_⟩:=I.list hq'
   obtain rfl:u=c1k p:=r
   obtain rfl:u'=c1k p':=r'
   have l1:its.toArray.size=ds.length:=by rw [c00,<-rx.length,ax.length]
   have l2:its2.toArray.size=es.length:=by rw [c00,<-ry.length,ay.length]
   have fin:RcAt A s (.ref p) (.ref p') b->RcNeAt A s (.ref p) (.ref p') (!b)->EqAt A s (.ref p) (.ref p') b/\RcAt A s (.ref p) (.ref p') b/\RcNeAt A s (.ref p) (.ref p') (!b):=λrc rn=>by
    refine ⟨?_,rc,rn⟩
    by_cases hp:p=p'
    .subst hp
     rw [b0L I (n+1) h h' e0]
     exact EqAt.same _
    .exact .of_refs hp rc
   by_cases hlen:ds.length=es.length
   .rw [if_pos hlen] at e
    obtain ⟨bs,e1,rfl⟩:=map_some e
    have hbs:bs.length=ds.length:=by rw [<-(a30 e1).1,c34];lia
    have rc:=RcAt.lists pl.isList pl'.isList (by lia) (zqo ‹_›) (elems rx ry ax ay e1)
    have rn:=RcNeAt.lists pl.isList pl'.isList (by lia) (zqo ‹_›) (elems rx ry ax ay e1)
    rw [l1,all_range hbs] at rc rn
    exact fin rc rn
   .rw [if_neg hlen] at e
    cases e
    have hne:(its.toArray.size != its2.toArray.size)=true:=by rw [l1,l2];simpa using hlen
    exact fin (RcAt.lists_lengths pl.isList pl'.isList hne (zqo ‹_›)) (RcNeAt.lists_lengths pl.isList pl'.isList hne (zqo ‹_›))
  refine b5Z I (zqo ‹_›) h.isV h'.isV r r' e ⟨λa c e1 e2=>ht ⟨a,c,e1,e2⟩,λa c ro ro' e1 e2=>hl ⟨a,c,ro,ro',e1,e2⟩⟩
noncomputable def gEqD:D->D->Option Sl:=λa b=>(eqD 8 a b).map λk=>.sh (.bl k)
noncomputable def gNeD:D->D->Option Sl:=λa b=>(eqD 8 a b).map λk=>.sh (.bl !k)
theorem a00(hu:X.A.units+8<cLine):OpD X (compareOp .Eq) gEqD:=by
 refine ⟨λx y H Q=>∃O O' a b k,Is X.K O H x a/\Is X.K O' H y b/\eqD 8 a b=some k/\Q (.bl k) H,?_,λO H x y a b s Q hO hx hy e q=>?_⟩
 .intro pins s σ H x y v u Q I rx ry h
  obtain ⟨O,O',a,b,k,hx,hy,e,q⟩:=h
  exact (b2Y I 8 hu hx hy rx ry e).2.1 _ _ _ _ ⟨.bl k,H,I,rfl,q⟩
 .obtain ⟨k,e1,rfl⟩:=map_some e
  exact ⟨O,O,a,b,k,hx,hy,e1,q _ H (Same.refl _) (Is.bl _)⟩
theorem a5i(hu:X.A.units+8<cLine):OpD X (compareOp .NotEq) gNeD:=by
 refine ⟨λx y H Q=>∃O O' a b k,Is X.K O H x a/\Is X.K O' H y b/\eqD 8 a b=some k/\Q (.bl !k) H,?_,λO H x y a b s Q hO hx hy e q=>?_⟩
 .intro pins s σ H x y v u Q I rx ry h
  obtain ⟨O,O',a,b,k,hx,hy,e,q⟩:=h
  exact (b2Y I 8 hu hx hy rx ry e).2.2 _ _ _ _ ⟨.bl _,H,I,rfl,q⟩
 .obtain ⟨k,e1,rfl⟩:=map_some e
  exact ⟨O,O,a,b,k,hx,hy,e1,q _ H (Same.refl _) (Is.bl _)⟩
end
theorem Fx.u8{X:Cx}{N:List Str}{sc:Scope}{k:Nat}{full:Bool}(h:Fx X N sc k full):X.A.units+8<cLine:=by have:=h.room.un;lia
theorem zcst{X X':Cx}{x:Str}(e4:X'.mg=X.mg)(h:X.mg x=none):X'.mg x=none:=by rw [e4];exact h
end DL
namespace DL
open PySem PySem.Spec PyProof.Rows L2
theorem b1I{P:Program}{w:World}{K:c0L}{tg:Expr}(it:Addr)(lo:Int)(n:Nat):Turn P w K tg (Itr lo n) [it] it (λi h=>IsLongIter h it (lo+(i:Nat)*1) ((n:Int)-(i:Nat)) 1) where
 mem:=by simp
 obj:=λi h st b hb=>by
  have e:b=it:=by simpa using hb
  subst e
  exact ⟨_,st,λv z=>by
   have z':c5r _=c41 v:=z
   cases z'⟩
 keep:=λi h h' st k=>k it (by simp) _ st
 item:=by
  intro X hP hw hK hc i pins s σ H E I hf st hg
  subst hP hw hK
  obtain ⟨f0,f1,f2,f3,f4,f5⟩:=hf it (by simp)
  have W:=Walks.longrange (prog:=X.prog) (w:=X.w) (I.ok.hd hc) it lo 1 n
  refine W.item i s _ _ hg st λv h' tk hv st' kk=>?_
  obtain ⟨t,rfl⟩:=hv
  have I1:Inv X pins σ H { s with heap:=h',toks:=tk }:=I.turned (λb o hb e=>kk b o (by simpa using hb) e) f0 f1 f3 f4 f5
  refine ⟨_,rfl,b4G (s:={ s with heap:=h',toks:=tk }) (n:="longrange_iterator") st' rfl rfl (by decide) ⟨.int (lo+i),H,I1,⟨t,?_⟩,⟨rfl,rfl⟩,st',λb hb=>(hf b hb).1⟩⟩
  rw [c3C]
 done:=by
  intro X hP hw hK hc i pins s σ H E I hf st hg
  subst hP hw hK
  obtain ⟨f0,f1,f2,f3,f4,f5⟩:=hf it (by simp)
  exact wpAny_pyNext_long_end (I.ok.hd hc) st (by have:n<=i:=hg;lia) λh' eb=>⟨rfl,I.turned (t':=s.toks) (λb o hb e=>eb b o hb e) f0 f1 f3 f4 f5⟩
 self:=λ_ _ _ _ _ st h=>wpAny_pyIter_longiter st h
section
variable {X:Cx}{tg:Expr}
theorem b2c{pins:List (Addr×Obj)}{σ:L2.St}{H:Hp}{s:Shared}{R:It->Hp->Prop}{E:Value->Shared->Prop}{lo hi:Int}{t u v:Tok}{tk:Nat}(I:Inv X pins σ H s)
  (q:R (Itr lo (hi-lo).toNat) H):wpAny (model X.prog X.w) X.A (pyIter (.ref s.heap.objs.size)) (PIE X pins σ tg R) E { s with heap:=s.heap.push { cls:=.type "range",data:=.fields #[.int lo t,.int hi u,.int 1 v] },toks:=tk }:=by
 have I1:Inv X pins σ H { s with heap:=s.heap.push { cls:=.type "range",data:=.fields #[.int lo t,.int hi u,.int 1 v] },toks:=tk }:=I.kept λb o e=>c0M _ e
 have e1:lo+((0:Nat):Int)*1=lo:=by simp
 have e2:(((hi-lo).toNat:Nat):Int)-((0:Nat):Int)=c3x lo hi 1:=by rw [c5G];split<;>lia
 have fin:∀b∈[(s.heap.push { cls:=.type "range",data:=.fields #[.int lo t,.int hi u,.int 1 v] }).objs.size],FpOk X pins H b:=λb hb=>by
  have e:b=(s.heap.push { cls:=.type "range",data:=.fields #[.int lo t,.int hi u,.int 1 v] }).objs.size:=by simpa using hb
  subst e
  exact I1.fpOk (c0S _) (I1.hok.fresh (c0S _))
 by_cases hsm:c35 lo hi 1=true
 .refine wpAny_pyIter_range (IsRange.new ..) hsm ?_
  refine ⟨_,[(s.heap.push { cls:=.type "range",data:=.fields #[.int lo t,.int hi u,.int 1 v] }).objs.size],_,_,H,rfl,I1.kept (t':=tk) λb o e=>c0M _ e,b05 _ lo (hi-lo).toNat,?_,fin,q⟩
  show IsRangeIter _ _ (lo+((0:Nat):Int)*1) ((((hi-lo).toNat:Nat):Int)-((0:Nat):Int)) 1
  rw [e1,e2]
  exact c0Y _ rfl
 .refine wpAny_pyIter_longrange (IsRange.new ..) (by simpa using hsm) ?_
  refine ⟨_,[(s.heap.push { cls:=.type "range",data:=.fields #[.int lo t,.int hi u,.int 1 v] }).objs.size],_,_,H,rfl,I1.kept (t':=tk) λb o e=>c0M _ e,b1I _ lo (hi-lo).toNat,?_,fin,q⟩
  show IsLongIter _ _ (lo+((0:Nat):Int)*1) ((((hi-lo).toNat:Nat):Int)-((0:Nat):Int)) 1
  rw [e1,e2]
  exact c0Y _ rfl
noncomputable def b9G(ta:TA):TI:=λσ H R=>ta σ H λvs H1=>∃j:Int,vs=[.int j]/\R (Itr 0 j.toNat) H1
theorem b1c(hg:Gl X "range")(hm:X.mg "range" = none)(ha:PA X [a] ta)(hs:starEach [a] X.env=[(false,eval a X.env)]:=by rfl):PI X tg (.Call (.Name "range" p) [a] [] pos) (b9G ta):=by
 intro pins s σ H R I h
 refine Call_ (a5j I hg hm boot_range (c2r (thn (ha pos pins s σ H _ I h) λus s1 ⟨vs,H1,I1,r1,q1⟩=>?_) hs rfl))
 obtain ⟨j,e,q⟩:=q1
 subst e
 cases r1 with
 | cons r rr =>
  cases rr
  obtain ⟨t,rfl⟩:=r
  exact call_range_1 (b2c I1 (by simpa using q))
noncomputable def b09:List D->Option (List D)
 | [.int j]=>some (rngD 0 j.toNat)
 | _=>none
noncomputable def rngA2:List D->Option (List D)
 | [.int i,.int j]=>some (rngD i (j-i).toNat)
 | _=>none
theorem a7u(hgr:Gl X "range")(hm:X.mg "range" = none)(ha:AV X [a] fs)(h1:starEach [a] X.env=[(false,eval a X.env)]:=by rfl):IV X tg (.Call (.Name "range" p) [a] [] pos) (fRng b09 fs):=by
 obtain ⟨ti,pi,ki⟩:=ha
 refine ⟨_,b1c hgr hm pi h1,λO B σ H env ds R Rl e q=>?_⟩
 obtain ⟨as,e1,e2⟩:=bind_some e
 refine ki O B σ H env as _ Rl e1 λvs H1 s1 r1=>?_
 unfold b09 at e2
 split at e2
 .cases e2
  exact ⟨_,b4w r1,q _ H1 s1 (b3Y _ _)⟩
 .cases e2
end
end DL
namespace DL
open PySem PySem.Spec PyProof.Rows L2
noncomputable def sCls(b:Bool):String:=if b then "list_iterator" else "tuple_iterator"
def sIt(b:Bool)(h:Heap)(it l:Addr)(k:Nat):Prop:=match b with
 | true=>h.IsListIter it l k
 | false=>h.IsTupleIter it l k
def sSq(b:Bool)(h:Heap)(l:Addr)(items:Array Value):Prop:=match b with
 | true=>h.IsList l items
 | false=>h.IsTuple l items
theorem sIt.keep(x:sIt b h it l k)(e:∀o,h.get? it=some o->h'.get? it=some o):sIt b h' it l k:=by
 cases b with
 | true=>obtain ⟨o,ho,r⟩:=x;exact ⟨o,e _ ho,r⟩
 | false=>obtain ⟨o,ho,r⟩:=x;exact ⟨o,e _ ho,r⟩
theorem sSq.keep(x:sSq b h l items)(e:∀o,h.get? l=some o->h'.get? l=some o):sSq b h' l items:=by
 cases b with
 | true=>obtain ⟨o,ho,r⟩:=x;exact ⟨o,e _ ho,r⟩
 | false=>obtain ⟨o,ho,r⟩:=x;exact ⟨o,e _ ho,r⟩
theorem sIt.lt(x:sIt b h it l k):it<h.objs.size:=by
 cases b with
 | true=>obtain ⟨o,ho,r⟩:=x;exact c0W ho
 | false=>obtain ⟨o,ho,r⟩:=x;exact c0W ho
theorem sSq.lt(x:sSq b h l items):l<h.objs.size:=by
 cases b with
 | true=>obtain ⟨o,ho,r⟩:=x;exact c0W ho
 | false=>obtain ⟨o,ho,r⟩:=x;exact c0W ho
theorem sIt.noCell(x:sIt b h it l k):∃o,h.get? it=some o/\∀v,o.data≠.cell v:=by
 cases b with
 | true=>obtain ⟨o,ho,_,d⟩:=x;exact ⟨o,ho,λv z=>by rw [d] at z;cases z⟩
 | false=>obtain ⟨o,ho,_,d⟩:=x;exact ⟨o,ho,λv z=>by rw [d] at z;cases z⟩
section
variable {prog:Program}{w:World}{A:Around}{E:Value->Shared->Prop}{s:Shared}
theorem a5w(hit:sIt b s.heap it l i)(hl:sSq b s.heap l items)(hx:items[i]?=some x)
  (hQ:∀h',sIt b h' it l (i+1)->c4g it s.heap h'->Q x { s with heap:=h' }):wpAny (model prog w) A (c1E (.ref it)) Q E s:=by
 cases b with
 | true=>exact wpAny_nextOf_list_item hit hl hx hQ
 | false =>
  have hit':s.heap.IsTupleIter it l i:=hit
  obtain ⟨o,ho,hc,hd⟩:=id hit'
  obtain ⟨ol,hol,_,nl,hdl⟩:=(show s.heap.IsTuple l items from hl)
  unfold c1E
  refine c0K (c17 (name:=c2Q "__next__") hit'.typeIs c2w (c2x c2w hit'.typeIs c36 ?_ (c3Z _)))
  show wpAny _ _ (field (.ref it) 0 >>= _) _ _ s
  refine c0K (c1Z ho hd (x:=.ref l) rfl ?_)
  show wpAny _ _ (if (c1k l==c1y)=true then _ else _) _ _ s
  rw [if_neg (show ¬((c1k l==c1y)=true) from c1j)]
  show wpAny _ _ (field (.ref it) 1 >>= _) _ _ s
  refine c0K (c1Z ho hd (x:=.int i 0) rfl ?_)
  show wpAny _ _ (seqItems? (.ref l) >>= _) _ _ s
  refine c0K (c14 hol hdl ?_)
  simp only [c2q,hx]
  refine c0K (wpAny_setField ho hd (by simp) (c0X ⟨x,rfl,c0X (hQ _ ?_ (c5u ..))⟩))
  exact ⟨_,c21 _ ho (Obj.isFreed_of_fields (Obj.data_mapFields hd _)),(Obj.cls_mapFields ..).trans hc,by rw [Obj.data_mapFields hd];simp [rawInt]⟩
theorem a7l(hh:A.handled=none)(hit:sIt b s.heap it l i)(hl:sSq b s.heap l items)(hx:items[i]?=none)
  (hE:∀h' e,Heap.ExtBut it s.heap h'->(∃o,h'.get? e=some o/\o.cls=.type "StopIteration")->E (.ref e) { s with heap:=h' }):wpAny (model prog w) A (c1E (.ref it)) Q E s:=by
 cases b with
 | true=>exact wpAny_nextOf_list_end hh hit hl hx hE
 | false =>
  have hit':s.heap.IsTupleIter it l i:=hit
  obtain ⟨o,ho,hc,hd⟩:=id hit'
  obtain ⟨ol,hol,_,nl,hdl⟩:=(show s.heap.IsTuple l items from hl)
  unfold c1E
  refine c0K (c17 (name:=c2Q "__next__") hit'.typeIs c2w (c2x c2w hit'.typeIs c36 ?_ (c3Z _)))
  show wpAny _ _ (field (.ref it) 0 >>= _) _ _ s
  refine c0K (c1Z ho hd (x:=.ref l) rfl ?_)
  show wpAny _ _ (if (c1k l==c1y)=true then _ else _) _ _ s
  rw [if_neg (show ¬((c1k l==c1y)=true) from c1j)]
  show wpAny _ _ (field (.ref it) 1 >>= _) _ _ s
  refine c0K (c1Z ho hd (x:=.int i 0) rfl ?_)
  show wpAny _ _ (seqItems? (.ref l) >>= _) _ _ s
  refine c0K (c14 hol hdl ?_)
  simp only [c2q,hx]
  refine c0K (c31 (c0K (wpAny_setField ho hd (by simp) ?_)))
  show wpAny _ _ (newExc (.type "StopIteration") [] >>= _) _ _ _
  refine c0K ?_
  simp only [newExc,newTuple]
  refine c0K (c12 ?_ (by size_fits))
  refine c0K (m:=firstArgMember _ _) (c4F (a:=c1y) (by first | rfl | (simp only [firstArgMember];rfl)) ?_)
  refine c12 ?_ (by size_fits)
  simp only [raiseNew]
  refine c0K (wpAny_handled ?_)
  first | rw [show A.in1.handled=none from hh] | rw [hh]
  refine c0K (c0X (wpAny_throw ?_))
  exact hE _ _ (((c5u ..).extBut.push _).push _) ⟨_,c0Y _ rfl,rfl⟩
structure ZAp(z TI TO i1 i2 l1 l2:Addr):Prop where
 a1:TI≠z
 a2:TO≠z
 a3:i1≠z
 a4:i2≠z
 a6:TO≠i1
 a7:TO≠i2
 a8:i1≠i2
 b1:l1≠z
 b2:l1≠TO
 b3:l1≠i1
 b4:l1≠i2
 c1:l2≠z
 c2:l2≠TO
 c3:l2≠i1
 c4:l2≠i2
theorem b3C{b1 b2:Bool}{z TI TO i1 i2 l1 l2:Addr}{k1 k2:Nat}{xs ys:Array Value}{x y a b:Value}{Q:Option Value->Shared->Prop}(D:ZAp z TI TO i1 i2 l1 l2)
  (hz:IsZip s.heap z TI TO .none)(hTI:IsPair s.heap TI (.ref i1) (.ref i2))(hTO:IsPair s.heap TO a b)(h1:sIt b1 s.heap i1 l1 k1)(h2:sIt b2 s.heap i2 l2 k2)(hl1:sSq b1 s.heap l1 xs)(hl2:sSq b2 s.heap l2 ys)(hx:xs[k1]?=some x)(hy:ys[k2]?=some y)
  (hQ:∀h',IsZip h' z TI TO (rawInt s.heap.objs.size)->IsPair h' TO x y->sIt b1 h' i1 l1 (k1+1)->sIt b2 h' i2 l2 (k2+1)->IsPair h' s.heap.objs.size x y->h'.objs.size=s.heap.objs.size+1 ->
   (∀c o,c≠z->c≠TO->c≠i1->c≠i2->s.heap.get? c=some o->h'.get? c=some o)->Q (some (.ref s.heap.objs.size)) { s with heap:=h' }):wpAny (model prog w) A (pyNext (.ref z)) Q E s:=by
 have hT:s.TypeIs (.ref z) "zip":=⟨_,hz,rfl⟩
 unfold pyNext
 refine c0K (c26 (c17 (name:=c2Q "__next__") hT c37 (c2x c37 hT F.entry_zip_next ?_ (F.args_zip_next_1 _))))
 show wpAny _ _ (field (.ref z) 2 >>= _) _ _ _
 refine c0K (c1Z hz rfl (x:=.bool false) rfl ?_)
 show wpAny _ _ (field (.ref z) 3 >>= _) _ _ _
 refine c0K (c1Z hz rfl (x:=.ref TI) rfl (c0K (c14 hTI rfl ?_)))
 show wpAny _ _ (c10 (.ref z) >>= _) _ _ _
 refine c0K ?_
 unfold c10
 refine c0K (c1Z hz rfl (x:=.none) rfl (c0X ?_))
 simp only [if_true]
 refine c0K (c31 (c0K (c1Z hz rfl (x:=.ref TO) rfl (c0K (c2D hz (by simp) λg1 hz1 s1=>?_)))))
 replace hz1:IsZip g1 z TI TO .ellipsis:=hz1
 refine c0K ?_
 simp only [c4S,List.zipIdx_nil,c3v,List.forIn_nil]
 refine c0K (c0K (c4G ?_))
 show wpAny _ _ (c1E (.ref i1) >>= _) _ _ _
 refine c0K (a5w (h1.keep λo e=>s1.extBut _ _ D.a3 e) (hl1.keep λo e=>s1.extBut _ _ D.b1 e) hx λg2 h12 s2=>c0X ?_)
 have t2:IsPair g2 TO a b:=s2.extBut _ _ D.a6 (s1.extBut _ _ D.a2 hTO)
 refine c0K (c14 t2 rfl (c0K (c3Y t2 λg3 t3 s3=>?_)))
 replace t3:IsPair g3 TO x b:=t3
 refine c0K (c3l (c0X (c0K (c0K (c4G ?_)))))
 show wpAny _ _ (c1E (.ref i2) >>= _) _ _ _
 refine c0K (a5w (h2.keep λo e=>s3.extBut _ _ D.a7.symm (s2.extBut _ _ D.a8.symm (s1.extBut _ _ D.a4 e))) (hl2.keep λo e=>s3.extBut _ _ D.c2 (s2.extBut _ _ D.c3 (s1.extBut _ _ D.c1 e))) hy λg4 h24 s4=>c0X ?_)
 have t4:IsPair g4 TO x b:=s4.extBut _ _ D.a7 t3
 refine c0K (c14 t4 rfl (c0K (c3Y t4 λg5 t5 s5=>?_)))
 replace t5:IsPair g5 TO x y:=t5
 refine c0K (c3l (c0X (c0X (c0K (c14 t5 rfl (c0K (c5o ?_)))))))
 have hsz:g5.objs.size=s.heap.objs.size:=by rw [s5.1,s4.1,s3.1,s2.1,s1.1]
 have hz5:IsZip g5 z TI TO .ellipsis:=s5.extBut _ _ D.a2.symm (s4.extBut _ _ D.a4.symm (s3.extBut _ _ D.a2.symm (s2.extBut _ _ D.a3.symm hz1)))
 have k5:∀c o,c≠z->c≠TO->c≠i1->c≠i2->s.heap.get? c=some o->g5.get? c=some o:=λc o c1 c2 c3 c4 e=>s5.extBut _ _ c2 (s4.extBut _ _ c4 (s3.extBut _ _ c2 (s2.extBut _ _ c3 (s1.extBut _ _ c1 e))))
 have j1:sIt b1 g5 i1 l1 (k1+1):=h12.keep λo e=>s5.extBut _ _ D.a6.symm (s4.extBut _ _ D.a8 (s3.extBut _ _ D.a6.symm e))
 have j2:sIt b2 g5 i2 l2 (k2+1):=h24.keep λo e=>s5.extBut _ _ D.a7.symm e
 have hzlt:z<g5.objs.size:=c0W hz5
 show wpAny _ _ (c3f (.ref z) (.ref g5.objs.size) >>= _) _ _ _
 refine c0K ?_
 unfold c3f
 have hz6:IsZip (g5.push { cls:=.type "tuple",data:=.seq #[x,y] }) z TI TO .ellipsis:=c0M _ hz5
 refine c0K (c2D hz6 (by simp) λg7 hz7 s7=>?_)
 replace hz7:IsZip g7 z TI TO (rawInt g5.objs.size):=hz7
 refine c2D hz7 (by simp) λg8 hz8 s8=>?_
 replace hz8:IsZip g8 z TI TO (rawInt g5.objs.size):=hz8
 have up:∀c o,c≠z->g5.get? c=some o->g8.get? c=some o:=λc o c1 e=>s8.extBut _ _ c1 (s7.extBut _ _ c1 (c0M _ e))
 have t8:IsPair g8 g5.objs.size x y:=s8.extBut _ _ (c3n hzlt) (s7.extBut _ _ (c3n hzlt) (c0Y _ rfl))
 have z8:g8.objs.size=g5.objs.size+1:=by rw [s8.1,s7.1,c1N]
 rw [hsz] at hz8 t8 z8
 refine c0X ⟨_,rfl,c0X ?_⟩
 show Q (some (.ref g5.objs.size)) _
 rw [hsz]
 exact hQ g8 hz8 (up _ _ D.a2 t5) (j1.keep λo e=>up _ o D.a3 e) (j2.keep λo e=>up _ o D.a4 e) t8 z8 λc o c1 c2 c3 c4 e=>up c o c1 (k5 c o c1 c2 c3 c4 e)
theorem b6b{b1 b2:Bool}{z TI TO i1 i2 l1 l2:Addr}{k1 k2:Nat}{xs ys:Array Value}{a b:Value}{Q:Option Value->Shared->Prop}(hh:A.handled=none)(D:ZAp z TI TO i1 i2 l1 l2)
  (hz:IsZip s.heap z TI TO .none)(hTI:IsPair s.heap TI (.ref i1) (.ref i2))(hTO:IsPair s.heap TO a b)(h1:sIt b1 s.heap i1 l1 k1)(h2:sIt b2 s.heap i2 l2 k2)(hl1:sSq b1 s.heap l1 xs)(hl2:sSq b2 s.heap l2 ys)(hend:xs[k1]?=none\/ys[k2]?=none)
  (hQ:∀h',(∀c o,c≠z->c≠TO->c≠i1->c≠i2->s.heap.get? c=some o->h'.get? c=some o)->Q none { s with heap:=h' }):wpAny (model prog w) A (pyNext (.ref z)) Q E s:=by
 have hT:s.TypeIs (.ref z) "zip":=⟨_,hz,rfl⟩
 unfold pyNext
 have fin:∀(h':Heap) (e:Addr),(∀c o,c≠z->c≠TO->c≠i1->c≠i2->s.heap.get? c=some o->h'.get? c=some o)->(∃o,h'.get? e=some o/\o.cls=.type "StopIteration") ->
   wpAny (model prog w) A (isInstance (.ref e) (.type "StopIteration") >>= λb=>if b=true then pure none else throw (.ref e)) Q E { s with heap:=h' }:=λh' e hk ⟨o,ho,hc⟩ =>
  c0K (wpAny_isInstance (T:="StopIteration") (b:=true) ⟨o,ho,hc⟩ isSubtype_stop (c0X (hQ _ hk)))
 refine c0K (c26 (c17 (name:=c2Q "__next__") hT c37 (c2x c37 hT F.entry_zip_next ?_ (F.args_zip_next_1 _))))
 show wpAny _ _ (field (.ref z) 2 >>= _) _ _ _
 refine c0K (c1Z hz rfl (x:=.bool false) rfl ?_)
 show wpAny _ _ (field (.ref z) 3 >>= _) _ _ _
 refine c0K (c1Z hz rfl (x:=.ref TI) rfl (c0K (c14 hTI rfl ?_)))
 show wpAny _ _ (c10 (.ref z) >>= _) _ _ _
 refine c0K ?_
 unfold c10
 refine c0K (c1Z hz rfl (x:=.none) rfl (c0X ?_))
 simp only [if_true]
 refine c0K (c31 (c0K (c1Z hz rfl (x:=.ref TO) rfl (c0K (c2D hz (by simp) λg1 hz1 s1=>?_)))))
 replace hz1:IsZip g1 z TI TO .ellipsis:=hz1
 refine c0K ?_
 simp only [c4S,List.zipIdx_nil,c3v,List.forIn_nil]
 refine c0K (c0K (c4G ?_))
 show wpAny _ _ (c1E (.ref i1) >>= _) _ _ _
 cases hx:xs[k1]? with
 | none =>
  refine c0K (a7l hh (h1.keep λo e=>s1.extBut _ _ D.a3 e) (hl1.keep λo e=>s1.extBut _ _ D.b1 e) hx λg2 e s2 he=>?_)
  obtain ⟨oe,hoe,hce⟩:=he
  have hz2:IsZip g2 z TI TO .ellipsis:=s2 _ _ D.a3.symm hz1
  have hez:e≠z:=λx=>by subst x;rw [hz2] at hoe;cases hoe;simp at hce
  exact c2D hz2 (by simp) λg3 _ s3=>fin g3 e (λc o c1 _ c3 _ x=>s3.extBut _ _ c1 (s2 _ _ c3 (s1.extBut _ _ c1 x))) ⟨oe,s3.extBut _ _ hez hoe,hce⟩
 | some x =>
  have hy:ys[k2]?=none:=by rcases hend with h | h;rw [hx] at h;cases h;exact h
  refine c0K (a5w (h1.keep λo e=>s1.extBut _ _ D.a3 e) (hl1.keep λo e=>s1.extBut _ _ D.b1 e) hx λg2 h12 s2=>c0X ?_)
  have t2:IsPair g2 TO a b:=s2.extBut _ _ D.a6 (s1.extBut _ _ D.a2 hTO)
  refine c0K (c14 t2 rfl (c0K (c3Y t2 λg3 t3 s3=>?_)))
  refine c0K (c3l (c0X (c0K (c0K (c4G ?_)))))
  show wpAny _ _ (c1E (.ref i2) >>= _) _ _ _
  refine c0K (a7l hh (h2.keep λo e=>s3.extBut _ _ D.a7.symm (s2.extBut _ _ D.a8.symm (s1.extBut _ _ D.a4 e))) (hl2.keep λo e=>s3.extBut _ _ D.c2 (s2.extBut _ _ D.c3 (s1.extBut _ _ D.c1 e))) hy λg4 e s4 he=>?_)
  obtain ⟨oe,hoe,hce⟩:=he
  have hz4:IsZip g4 z TI TO .ellipsis:=s4 _ _ D.a4.symm (s3.extBut _ _ D.a2.symm (s2.extBut _ _ D.a3.symm hz1))
  have hez:e≠z:=λx=>by subst x;rw [hz4] at hoe;cases hoe;simp at hce
  exact c2D hz4 (by simp) λg5 _ s5=>fin g5 e (λc o c1 c2 c3 c4 x=>s5.extBut _ _ c1 (s4 _ _ c4 (s3.extBut _ _ c2 (s2.extBut _ _ c3 (s1.extBut _ _ c1 x))))) ⟨oe,s5.extBut _ _ hez hoe,hce⟩
end
end DL
namespace DL
open PySem PySem.Spec PyProof.Rows L2
section
variable {X:Cx}{pins:List (Addr×Obj)}{σ:L2.St}{H:Hp}{s:Shared}
theorem a4Q{t':Nat}{h':Heap}{ch:List Addr}(I:Inv X pins σ H s)(hf:∀b∈ch,FpOk X pins H b)(k:∀b o,b∉ch->s.heap.get? b=some o->h'.get? b=some o):Inv X pins σ H { s with heap:=h',toks:=t' }:=by
 have nit:∀b u,H b=some u->b∉ch:=λb u e z=>by rw [(hf b z).1] at e;cases e
 refine I.step (g':=s.gens) (d':=s.drawn) (ch:=ch) (λb hb=>?_) (λb o _ _ hc e _=>k b o hc e) (λb o _ _ hc e _=>⟨o.slots,k b o hc e⟩) (λ_ _ _ _ n=>n)
  (λb o hc e=>⟨o,k b o hc e⟩) (λ_ _ e=>e) (λ_ _ _ e=>e) (λb ps e=>⟨#[],by rw [e];simp⟩) (λm hm=>?_) (λb u e=>?_) I.bare
 .obtain ⟨_,h1,_,h3,h4,h5⟩:=hf b hb
  exact ⟨h3,h1,h4,h5⟩
 .obtain ⟨o,es,ep,ho,r⟩:=hm
  exact ⟨o,es,ep,k _ o (λz=>(hf _ z).2.1 rfl) ho,r⟩
 .refine (I.hok b u e).stay (λc v hc q=>k c v ?_ q) (λ_ _ _ q=>q) λ_ _ q=>q
  rcases hc with z | z
  .rw [z];exact nit b u e
  .exact nit c _ z
theorem a4X(I:Inv X pins σ H s)(h:Sq X.K H b l xs):∃its:List Value,Vals xs its/\sSq b s.heap l its.toArray:=by
 cases b with
 | true=>obtain ⟨its,r,p,_⟩:=I.list h;exact ⟨its,r,p.isList⟩
 | false=>obtain ⟨its,r,p,_⟩:=I.tuple h;exact ⟨its,r,p⟩
theorem b1Z(I:Inv X pins σ H s)(h:Sq X.K H b l xs)(h':Sq X.K H b l ys):xs=ys:=by
 cases b with
 | true=>exact I.list_inj h h'
 | false=>exact I.tuple_inj h h'
end
noncomputable def Itz(K:c0L)(b1 b2:Bool)(l1 l2:Addr):It:=
 ⟨λi H=>∃xs ys x y,Sq K H b1 l1 xs/\Sq K H b2 l2 ys/\xs[i]?=some x/\ys[i]?=some y,
 λi H v H'=>∃p x y,v=.ref p/\H p=none/\H'=upd H p (.tup [x,y])/\(∀xs,Sq K H b1 l1 xs->xs[i]?=some x)/\(∀ys,Sq K H b2 l2 ys->ys[i]?=some y),
 λi H=>∃xs ys,Sq K H b1 l1 xs/\Sq K H b2 l2 ys/\(xs.length<=i\/ys.length<=i)⟩
theorem a6b{h:Heap}{c:Addr}{o p:Obj}(hc:c<h.objs.size)(e:(h.push p).get? c=some o):h.get? c=some o:=by
 have q:(h.objs.push p)[c]?=h.objs[c]?:=by rw [Array.getElem?_push,if_neg (c09 hc)]
 unfold Heap.get? Heap.push at e
 unfold Heap.get?
 rw [<-q];exact e
theorem b6c(h1:l1<n)(h2:l2<n):ZAp (n+4) (n+2) (n+3) n (n+1) l1 l2:=by
 have Z:=zipApart_new h1 h2
 exact ⟨Z.1,Z.2,Z.3,Z.4,Z.8,Z.9,Z.10,Z.11,Z.12,Z.13,Z.14,Z.15,Z.16,Z.17,Z.18⟩
theorem b3H{P:Program}{w:World}{K:c0L}{elts:List Expr}{kk:Nat}{pos:Pos}{b1 b2:Bool}{z TI TO i1 i2 l1 l2:Addr}(D:ZAp z TI TO i1 i2 l1 l2)(d1:TI≠TO)(d2:TI≠i1)(d3:TI≠i2):
  Turn P w K (.Tuple elts kk pos) (Itz K b1 b2 l1 l2) [z,TI,TO,i1,i2] z (λi h=>IsZip h z TI TO .none/\IsPair h TI (.ref i1) (.ref i2)/\(∃a b,IsPair h TO a b)/\sIt b1 h i1 l1 i/\sIt b2 h i2 l2 i) where
 mem:=by simp
 obj:=λi h ⟨hz,hTI,⟨a,b,hTO⟩,h1,h2⟩ c hc=>by
  simp only [c0R,c1m,or_false] at hc
  rcases hc with rfl | rfl | rfl | rfl | rfl
  .exact ⟨_,hz,λv q=>nomatch (show c5r _=c41 v from q)⟩
  .exact ⟨_,hTI,λv q=>nomatch (show Data.seq _ _=c41 v from q)⟩
  .exact ⟨_,hTO,λv q=>nomatch (show Data.seq _ _=c41 v from q)⟩
  .exact h1.noCell
  .exact h2.noCell
 keep:=λi h h' ⟨hz,hTI,⟨a,b,hTO⟩,h1,h2⟩ k=>⟨k z (by simp) _ hz,k TI (by simp) _ hTI,⟨a,b,k TO (by simp) _ hTO⟩,h1.keep λo e=>k i1 (by simp) o e,h2.keep λo e=>k i2 (by simp) o e⟩
 item:=by
  intro X hP hw hK hc i pins s σ H E I hf ⟨hz,hTI,⟨a,b,hTO⟩,h1,h2⟩ hg
  subst hP hw hK
  obtain ⟨xs,ys,x,y,q1,q2,hx,hy⟩:=hg
  obtain ⟨its1,r1,p1⟩:=a4X I q1
  obtain ⟨its2,r2,p2⟩:=a4X I q2
  obtain ⟨u1,hu1,ru1⟩:=r1.get hx
  obtain ⟨u2,hu2,ru2⟩:=r2.get hy
  refine b3C D hz hTI hTO h1 h2 p1 p2 (by simpa using hu1) (by simpa using hu2) λh' z8 t8 j1 j2 nw sz kp=>?_
  refine ⟨_,rfl,wpAny_letOwnedTupleGo_zip (s:={ s with heap:=h' }) z8 λh9 z9 sb=>?_⟩
  have fresh:H s.heap.objs.size=none:=I.hok.fresh (c0S _)
  have hlt:∀c∈[z,TO,i1,i2],c<s.heap.objs.size:=λc hc=>by
   simp only [c0R,c1m,or_false] at hc
   rcases hc with rfl | rfl | rfl | rfl
   .exact c0W hz
   .exact c0W hTO
   .exact h1.lt
   .exact h2.lt
  have up:∀c o,c∉[z,TO,i1,i2]->s.heap.get? c=some o->h9.get? c=some o:=λc o hc e=>by
   simp only [c0R,c1m,or_false,not_or] at hc
   exact sb.extBut _ _ hc.1 (kp c o hc.1 hc.2.1 hc.2.2.1 hc.2.2.2 e)
  have nz:s.heap.objs.size≠z:=c3n (hlt z (by simp))
  have nw9:IsPair h9 s.heap.objs.size u1 u2:=sb.extBut _ _ nz nw
  have I1:Inv X pins σ (upd H s.heap.objs.size (.tup [x,y])) { s with heap:=s.heap.push { cls:=.type "tuple",data:=.seq #[u1,u2] },toks:=s.toks }:=
   I.laid (λb o e=>c0M _ e) (c0S _) ⟨by simp [sizeLine],[u1,u2],.cons ru1 (.cons ru2 .nil),⟨_,c0Y _ rfl,rfl,_,rfl⟩⟩
  have I2:Inv X pins σ (upd H s.heap.objs.size (.tup [x,y])) { s with heap:=h9,toks:=s.toks }:=a4Q (s:={ s with heap:=s.heap.push { cls:=.type "tuple",data:=.seq #[u1,u2] },toks:=s.toks }) (ch:=[z,TO,i1,i2]) (t':=s.toks) I1 (λc hc=>by
    obtain ⟨f0,f1,f2,f3,f4,f5⟩:=hf c (by simp only [c0R,c1m,or_false] at hc ⊢;grind)
    exact ⟨by rw [a0q (c09 (hlt c hc))];exact f0,f1,f2,f3,f4,f5⟩) λc o hc e=>by
   by_cases hs:c<s.heap.objs.size
   .exact up c o hc (a6b hs e)
   .have hcs:c=s.heap.objs.size:=by
     have:=c0W e
     rw [c1N] at this
     exact Nat.le_antisymm (Nat.lt_succ_iff.mp this) (c3j hs)
    subst hcs
    have e2:(s.heap.push { cls:=.type "tuple",data:=.seq #[u1,u2] }).get? s.heap.objs.size=some _:=c0Y _ rfl
    rw [e2] at e;cases e
    exact nw9
  refine ⟨.ref s.heap.objs.size,_,I2,rfl,⟨_,x,y,rfl,fresh,rfl,λzs hzs=>by rw [b1Z I hzs q1];exact hx,λzs hzs=>by rw [b1Z I hzs q2];exact hy⟩,⟨z9,up TI _ (by simp [d1,d2,d3,D.a1]) hTI,⟨u1,u2,sb.extBut _ _ D.a2 t8⟩,j1.keep λo e=>sb.extBut _ _ D.a3 e,j2.keep λo e=>sb.extBut _ _ D.a4 e⟩,λc hc=>?_⟩
  rw [a0q ?_]
  .exact (hf c hc).1
  .simp only [c0R,c1m,or_false] at hc
   rcases hc with rfl | rfl | rfl | rfl | rfl
   .exact c09 (hlt _ (by simp))
   .exact c09 (c0W hTI)
   .exact c09 (hlt _ (by simp))
   .exact c09 (hlt _ (by simp))
   .exact c09 (hlt _ (by simp))
 done:=by
  intro X hP hw hK hc i pins s σ H E I hf ⟨hz,hTI,⟨a,b,hTO⟩,h1,h2⟩ hg
  subst hP hw hK
  obtain ⟨xs,ys,q1,q2,hl⟩:=hg
  obtain ⟨its1,r1,p1⟩:=a4X I q1
  obtain ⟨its2,r2,p2⟩:=a4X I q2
  have e1:=r1.length
  have e2:=r2.length
  refine b6b (I.ok.hd hc) D hz hTI hTO h1 h2 p1 p2 ?_ λh' kp=>⟨rfl,a4Q (ch:=[z,TO,i1,i2]) (t':=s.toks) I (λc hc=>hf c (by simp only [c0R,c1m,or_false] at hc ⊢;grind)) λc o hc e=>?_⟩
  .rcases hl with hl | hl
   .exact .inl (by simp;lia)
   .exact .inr (by simp;lia)
  .simp only [c0R,c1m,or_false,not_or] at hc
   exact kp c o hc.1 hc.2.1 hc.2.2.1 hc.2.2.2 e
 self:=λ_ _ _ _ _ st h=>wpAny_pyIter_zip st.1 h
noncomputable abbrev zH1(b1:Bool)(h:Heap)(l1:Addr):Heap:=h.push { cls:=.type (sCls b1),data:=.fields #[.ref l1,.int 0 0] }
noncomputable abbrev zH2(b1 b2:Bool)(h:Heap)(l1 l2:Addr):Heap:=(zH1 b1 h l1).push { cls:=.type (sCls b2),data:=.fields #[.ref l2,.int 0 0] }
noncomputable abbrev zH3(b1 b2:Bool)(h:Heap)(l1 l2:Addr):Heap:=(zH2 b1 b2 h l1 l2).push { cls:=.type "tuple",data:=.seq #[.ref h.objs.size,.ref (zH1 b1 h l1).objs.size] }
noncomputable abbrev zH4(b1 b2:Bool)(h:Heap)(l1 l2:Addr):Heap:=(zH3 b1 b2 h l1 l2).push { cls:=.type "tuple",data:=.seq #[.none,.none] }
noncomputable abbrev zH5(b1 b2:Bool)(h:Heap)(l1 l2:Addr):Heap:=(zH4 b1 b2 h l1 l2).push { cls:=.type "zip",data:=.fields #[.none,.bool false,.bool false,.ref (zH2 b1 b2 h l1 l2).objs.size,.ref (zH3 b1 b2 h l1 l2).objs.size] }
theorem a8w(l1 l2:Addr)(xs ys:Array Value):Meets (Builtin.«zip.__new__» ⟨[.type "zip",.ref l1,.ref l2],[]⟩) (λ_ R s=>s.heap.IsList l1 xs/\s.heap.IsList l2 ys/\R (.ok (.ret (.ref (zH4 true true s.heap l1 l2).objs.size))) { s with heap:=zH5 true true s.heap l1 l2 }):=
 .of_wp λprog w A R s h=>by
  obtain ⟨hp,g,d,tk,os⟩:=s;obtain ⟨hl1,hl2,h⟩:=h
  have hsub:=sub_zip
  have hL1:c5v (c22 ⟨hp,g,d,tk,os⟩) l1 xs:=hl1
  have hL2:c5v (c22 ⟨hp.push { cls:=.type "list_iterator",data:=.fields #[.ref l1,.int 0 0] },g,d,tk,os⟩) l2 ys:=c5W hl2 _
  wp_walk using c2M hL1,c2M hL2
  exact ⟨_,rfl,h⟩
theorem a8x(l1 l2:Addr)(xs ys:Array Value):Meets (Builtin.«zip.__new__» ⟨[.type "zip",.ref l1,.ref l2],[]⟩) (λ_ R s=>s.heap.IsList l1 xs/\s.heap.IsTuple l2 ys/\R (.ok (.ret (.ref (zH4 true false s.heap l1 l2).objs.size))) { s with heap:=zH5 true false s.heap l1 l2 }):=
 .of_wp λprog w A R s h=>by
  obtain ⟨hp,g,d,tk,os⟩:=s;obtain ⟨hl1,hl2,h⟩:=h
  have hsub:=sub_zip
  have hL1:c5v (c22 ⟨hp,g,d,tk,os⟩) l1 xs:=hl1
  have hL2:c4l (c22 ⟨hp.push { cls:=.type "list_iterator",data:=.fields #[.ref l1,.int 0 0] },g,d,tk,os⟩) l2 ys:=sSq.keep (b:=false) hl2 λo e=>c0M _ e
  wp_walk using c2M hL1,c1S hL2
  exact ⟨_,rfl,h⟩
theorem a8y(l1 l2:Addr)(xs ys:Array Value):Meets (Builtin.«zip.__new__» ⟨[.type "zip",.ref l1,.ref l2],[]⟩) (λ_ R s=>s.heap.IsTuple l1 xs/\s.heap.IsList l2 ys/\R (.ok (.ret (.ref (zH4 false true s.heap l1 l2).objs.size))) { s with heap:=zH5 false true s.heap l1 l2 }):=
 .of_wp λprog w A R s h=>by
  obtain ⟨hp,g,d,tk,os⟩:=s;obtain ⟨hl1,hl2,h⟩:=h
  have hsub:=sub_zip
  have hL1:c4l (c22 ⟨hp,g,d,tk,os⟩) l1 xs:=hl1
  have hL2:c5v (c22 ⟨hp.push { cls:=.type "tuple_iterator",data:=.fields #[.ref l1,.int 0 0] },g,d,tk,os⟩) l2 ys:=c5W hl2 _
  wp_walk using c1S hL1,c2M hL2
  exact ⟨_,rfl,h⟩
theorem a8z(l1 l2:Addr)(xs ys:Array Value):Meets (Builtin.«zip.__new__» ⟨[.type "zip",.ref l1,.ref l2],[]⟩) (λ_ R s=>s.heap.IsTuple l1 xs/\s.heap.IsTuple l2 ys/\R (.ok (.ret (.ref (zH4 false false s.heap l1 l2).objs.size))) { s with heap:=zH5 false false s.heap l1 l2 }):=
 .of_wp λprog w A R s h=>by
  obtain ⟨hp,g,d,tk,os⟩:=s;obtain ⟨hl1,hl2,h⟩:=h
  have hsub:=sub_zip
  have hL1:c4l (c22 ⟨hp,g,d,tk,os⟩) l1 xs:=hl1
  have hL2:c4l (c22 ⟨hp.push { cls:=.type "tuple_iterator",data:=.fields #[.ref l1,.int 0 0] },g,d,tk,os⟩) l2 ys:=sSq.keep (b:=false) hl2 λo e=>c0M _ e
  wp_walk using c1S hL1,c1S hL2
  exact ⟨_,rfl,h⟩
theorem b1k(b1 b2:Bool)(l1 l2:Addr)(xs ys:Array Value):Meets (Builtin.«zip.__new__» ⟨[.type "zip",.ref l1,.ref l2],[]⟩) (λ_ R s=>sSq b1 s.heap l1 xs/\sSq b2 s.heap l2 ys/\R (.ok (.ret (.ref (zH4 b1 b2 s.heap l1 l2).objs.size))) { s with heap:=zH5 b1 b2 s.heap l1 l2 }):=by
 cases b1<;>cases b2
 .exact a8z l1 l2 xs ys
 .exact a8y l1 l2 xs ys
 .exact a8x l1 l2 xs ys
 .exact a8w l1 l2 xs ys
section
variable {prog:Program}{w:World}{A:Around}{E:Value->Shared->Prop}{s:Shared}
theorem a9p(e:h.get? it=some { cls:=.type (sCls b),data:=.fields #[.ref l,.int 0 0] }):sIt b h it l 0:=by
 cases b with
 | true=>exact ⟨_,e,rfl,rfl⟩
 | false=>exact ⟨_,e,rfl,rfl⟩
theorem b3b(hl1:sSq b1 s.heap l1 xs)(hl2:sSq b2 s.heap l2 ys)
  (h:∀h',IsZip h' (s.heap.objs.size+4) (s.heap.objs.size+2) (s.heap.objs.size+3) .none->IsPair h' (s.heap.objs.size+2) (.ref s.heap.objs.size) (.ref (s.heap.objs.size+1)) ->
   IsPair h' (s.heap.objs.size+3) .none .none->sIt b1 h' s.heap.objs.size l1 0->sIt b2 h' (s.heap.objs.size+1) l2 0->h'.objs.size=s.heap.objs.size+5 ->
   (∀c o,s.heap.get? c=some o->h'.get? c=some o)->Q (.ref (s.heap.objs.size+4)) { s with heap:=h' }):
  wpAny (model prog w) A (call (.type "zip") [.ref l1,.ref l2]) Q E s:=by
 refine callType_new F.called_zip (by decide) (F.typeCall_zip_2 _ _) (F.newCall_zip_2 _ _) (λobj=>F.args_object_init_3 obj _ _) F.entry_zip_new (b1k b1 b2 l1 l2 xs ys) ⟨hl1,hl2,?_⟩
 have z1:(zH1 b1 s.heap l1).objs.size=s.heap.objs.size+1:=c1N ..
 have z2:(zH2 b1 b2 s.heap l1 l2).objs.size=s.heap.objs.size+2:=by rw [c1N,z1]
 have z3:(zH3 b1 b2 s.heap l1 l2).objs.size=s.heap.objs.size+3:=by rw [c1N,z2]
 have z4:(zH4 b1 b2 s.heap l1 l2).objs.size=s.heap.objs.size+4:=by rw [c1N,z3]
 have z5:(zH5 b1 b2 s.heap l1 l2).objs.size=s.heap.objs.size+5:=by rw [c1N,z4]
 have g5:(zH5 b1 b2 s.heap l1 l2).get? (zH4 b1 b2 s.heap l1 l2).objs.size=some _:=c0Y _ rfl
 have g4:(zH5 b1 b2 s.heap l1 l2).get? (zH3 b1 b2 s.heap l1 l2).objs.size=some _:=c0M _ (c0Y _ rfl)
 have g3:(zH5 b1 b2 s.heap l1 l2).get? (zH2 b1 b2 s.heap l1 l2).objs.size=some _:=c0M _ (c0M _ (c0Y _ rfl))
 have g2:(zH5 b1 b2 s.heap l1 l2).get? (zH1 b1 s.heap l1).objs.size=some _:=c0M _ (c0M _ (c0M _ (c0Y _ rfl)))
 have g1:(zH5 b1 b2 s.heap l1 l2).get? s.heap.objs.size=some _:=c0M _ (c0M _ (c0M _ (c0M _ (c0Y _ rfl))))
 show _/\_
 rw [z2,z3,z4] at g5
 rw [z1,z2] at g3
 rw [z3] at g4
 rw [z1] at g2
 rw [z4]
 exact ⟨⟨_,g5,rfl⟩,h _ g5 g3 g4 (a9p g1) (a9p g2) z5 λc o x =>
  c0M _ (c0M _ (c0M _ (c0M _ (c0M _ x))))⟩
end
section
variable {X:Cx}{elts:List Expr}{kk:Nat}{tp:Pos}
noncomputable def iZip(K:c0L)(ta:TA):TI:=λσ H R=>ta σ H λvs H1=>∃b1 b2 l1 l2 xs ys,vs=[.ref l1,.ref l2]/\Sq K H1 b1 l1 xs/\Sq K H1 b2 l2 ys/\R (Itz K b1 b2 l1 l2) H1
theorem b84{a b:Expr}{ta:TA}{p pos:Pos}(hg:Gl X "zip")(hm:X.mg "zip" = none)(ha:PA X [a,b] ta)(hs:starEach [a,b] X.env=[(false,eval a X.env),(false,eval b X.env)]:=by rfl)(hs2:starEach [b] X.env=[(false,eval b X.env)]:=by rfl):
  PI X (.Tuple elts kk tp) (.Call (.Name "zip" p) [a,b] [] pos) (iZip X.K ta):=by
 intro pins s σ H R I h
 refine Call_ (a5j I hg hm boot_zip (c2r (thn (ha pos pins s σ H _ I h) λus s1 ⟨vs,H1,I1,r1,q1⟩=>?_) (by rw [hs,hs2]) (by rw [hs2];rfl)))
 obtain ⟨b1,b2,l1,l2,xs,ys,e,q1,q2,q⟩:=q1
 subst e
 cases r1 with
 | cons r rr =>
  cases rr with
  | cons r' rr =>
   cases rr
   cases r
   cases r'
   obtain ⟨its1,rr1,p1⟩:=a4X I1 q1
   obtain ⟨its2,rr2,p2⟩:=a4X I1 q2
   refine b3b p1 p2 λh' z0 t0 o0 j1 j2 sz kp=>?_
   refine wpAny_pyIter_zip (s:={ s1 with heap:=h' }) z0 ?_
   have lt1:=p1.lt
   have lt2:=p2.lt
   have D:=b6c lt1 lt2
   have Z:=zipApart_new lt1 lt2
   have ge:∀c∈[s1.heap.objs.size+4,s1.heap.objs.size+2,s1.heap.objs.size+3,s1.heap.objs.size,s1.heap.objs.size+1],s1.heap.objs.size<=c:=λc hc=>by
    simp only [c0R,c1m,or_false] at hc
    rcases hc with rfl | rfl | rfl | rfl | rfl
    .exact c19 _ _
    .exact c19 _ _
    .exact c19 _ _
    .exact c0S _
    .exact c19 _ _
   exact ⟨_,_,_,_,H1,rfl,I1.kept (t':=s1.toks) kp,b3H D Z.5 Z.6 Z.7,⟨z0,t0,⟨_,_,o0⟩,j1,j2⟩,λc hc=>I1.fpOk (ge c hc) (I1.hok.fresh (ge c hc)),q⟩
noncomputable def zipD(a b:List D):List D:=c2g (λd e=>D.tup [d,e]) a b
noncomputable def zipA:List D->Option (List D)
 | [a,b]=>(seqD a).bind λp=>(seqD b).map λq=>zipD p.2 q.2
 | _=>none
theorem b3B{K:c0L}{O:Addr->Prop}{H:Hp}{b1 b2:Bool}{l1 l2:Addr}{xs ys:List V}{as bs:List D}(h1:Sq K H b1 l1 xs)(i1:Iss K O H xs as)(n1:¬O l1\/∀H',Sq K H' b1 l1 xs)(h2:Sq K H b2 l2 ys)(i2:Iss K O H ys bs)(n2:¬O l2\/∀H',Sq K H' b2 l2 ys):
  a6X K O (Itz K b1 b2 l1 l2) H (zipD as bs):=λO' H2 kp hO i=>by
 have key:∀{b:Bool} {l:Addr} {zs:List V} {cs:List D},Sq K H b l zs->Iss K O H zs cs->(¬O l\/∀H',Sq K H' b l zs)->Sq K H2 b l zs/\Iss K O' H2 zs cs:=λ{b l zs cs} h1 i1 n1=>by
  refine ⟨?_,i1.map (λq hq hn=>?_) λq u e n=>(kp q u e n).1⟩
  .rcases n1 with h3 | h3
   .exact a9n (λq u e n=>(kp q u e n).1) h1 h3
   .exact h3 H2
  .cases e:H q with
   | none=>exact (hq e).elim
   | some u=>exact (kp q u e hn).2
 obtain ⟨p1,s1⟩:=key h1 i1 n1
 obtain ⟨p2,s2⟩:=key h2 i2 n2
 refine ⟨λd hd=>?_,λhl=>⟨xs,ys,p1,p2,?_⟩⟩
 .unfold zipD at hd
  rw [c3M] at hd
  cases ea:as[i]? with
  | none=>simp [ea] at hd
  | some da =>
   cases eb:bs[i]? with
   | none=>simp [ea,eb] at hd
   | some db =>
    simp only [ea,eb] at hd
    cases hd
    obtain ⟨x,hx,dx⟩:=s1.get ea
    obtain ⟨y,hy,dy⟩:=s2.get eb
    refine ⟨⟨xs,ys,x,y,p1,p2,hx,hy⟩,λv H3 hv=>?_⟩
    obtain ⟨p,x',y',rfl,hp,rfl,f1,f2⟩:=hv
    have e1:=f1 xs p1
    have e2:=f2 ys p2
    rw [hx] at e1;cases e1
    rw [hy] at e2;cases e2
    have sm:Same H2 (upd H2 p (.tup [x,y])):=λq u e=>by rw [a0q (a0A e hp)];exact e
    exact ⟨sm,.tup (λz=>hO p z hp) (.inl a0V) (.cons (dx.grow sm) (.cons (dy.grow sm) .nil))⟩
 .have e1:=s1.length
  have e2:=s2.length
  simp only [zipD,c34] at hl
  lia
theorem b2z{a b:Expr}{fs:En->Option (List D)}{p pos:Pos}(hgr:Gl X "zip")(hm:X.mg "zip" = none)(ha:AV X [a,b] fs)(h1:starEach [a,b] X.env=[(false,eval a X.env),(false,eval b X.env)]:=by rfl)
  (h2:starEach [b] X.env=[(false,eval b X.env)]:=by rfl):IV X (.Tuple elts kk tp) (.Call (.Name "zip" p) [a,b] [] pos) (fRng zipA fs):=by
 obtain ⟨ti,pi,ki⟩:=ha
 refine ⟨_,b84 hgr hm pi h1 h2,λO B σ H env ds R Rl e q=>?_⟩
 obtain ⟨as,e1,e2⟩:=bind_some e
 refine ki O B σ H env as _ Rl e1 λvs H1 s1 r1=>?_
 unfold zipA at e2
 split at e2
 .rename_i da db
  obtain ⟨⟨k1,as⟩,ea,e2⟩:=bind_some e2
  obtain ⟨⟨k2,bs⟩,eb,e2⟩:=map_some e2
  cases e2
  cases r1 with
  | cons ra rr =>
   cases rr with
   | cons rb rr =>
    cases rr
    obtain ⟨l1,xs,rfl,g1,i1,n1⟩:=ra.seqN ea
    obtain ⟨l2,ys,rfl,g2,i2,n2⟩:=rb.seqN eb
    exact ⟨k1,k2,l1,l2,xs,ys,rfl,g1,g2,q _ H1 s1 (b3B g1 i1 n1 g2 i2 n2)⟩
 .cases e2
end
end DL
namespace DL
open PySem PySem.Spec PyProof.Rows L2
section
variable {prog:Program}{w:World}{A:Around}{E:Value->Shared->Prop}{s:Shared}
end
section
variable {X:Cx}
noncomputable def a43(lo:Int)(n:Nat):List V:=(c1n n).map λ(k:Nat)=>V.int (lo+k)
theorem b03{lo:Int}:∀{n:Nat} {its:List Value},its.length=n->(∀(j:Nat) (v:Value),its[j]?=some v->∃t,v=c15 (lo+j*1) t)->Vals (a43 lo n) its:=by
 intro n its hl h
 have key:∀(m:Nat) (k:Nat) (ys:List Value),ys.length=m->(∀(j:Nat) (v:Value),ys[j]?=some v->∃t,v=c15 (lo+(k+j:Nat)) t)->Vals ((List.range' k m).map λ(k:Nat)=>V.int (lo+k)) ys:=by
  intro m
  induction m with
  | zero =>
   intro k ys hy _
   rw [c2m.mp hy]
   exact .nil
  | succ m ih =>
   intro k ys hy hh
   cases ys with
   | nil=>cases hy
   | cons y ys =>
    rw [List.range'_succ,c1l]
    refine .cons ?_ (ih (k+1) ys (by simpa using hy) λj v e=>?_)
    .obtain ⟨t,e⟩:=hh 0 y rfl
     exact ⟨t,by simpa using e⟩
    .obtain ⟨t,e'⟩:=hh (j+1) v (by simpa using e)
     exact ⟨t,by rw [e',show k+(j+1)=k+1+j by lia]⟩
 unfold a43
 rw [List.range_eq_range']
 exact key n 0 its hl λj v e=>by
  obtain ⟨t,e'⟩:=h j v e
  exact ⟨t,by rw [e',c3C,c3q]⟩
noncomputable def b55(fs:En->Option (List D)):En->Option Sl:=λenv=>(fs env).bind λds=>match ds with
 | [.int i,.int j]=>if (j-i).toNat<=16777216 then some (.ow (rngD i (j-i).toNat)) else none
 | _=>none
theorem b2B{K:c0L}{O:Addr->Prop}{H:Hp}(lo:Int)(n:Nat):Iss K O H (a43 lo n) (rngD lo n):=by
 unfold a43 rngD
 have:=Iss.ints (K:=K) (O:=O) (H:=H) ((c1n n).map λ(k:Nat)=>lo+(k:Int))
 rw [c1h,c1h] at this
 exact this
end
end DL
namespace DL
open PySem PySem.Spec PyProof.Rows L2
theorem a9Q(l:Addr)(items:Array Value)(n:Nat)(dct:Option Addr)(sl:Array (Option Value)):
  Meets (Builtin.«enumerate.__new__» ⟨[.type "enumerate",.ref l],[]⟩) (λ_ R s=>s.heap.get? l=some { cls:=.type "tuple",dict:=dct,data:=.seq items n,slots:=sl } /\
   R (.ok (.ret (.ref (s.heap.push { cls:=.type (sCls false),data:=.fields #[.ref l,.int 0 0] }).objs.size)))
    { s with heap:=(s.heap.push { cls:=.type (sCls false),data:=.fields #[.ref l,.int 0 0] }).push { cls:=.type "enumerate",data:=.fields #[.none,.bool false,.ref s.heap.objs.size,rawInt 0,.none,.none] } }):=
 .of_wp λprog w A R s h=>by
  obtain ⟨hp,g,d,tk,os⟩:=s;obtain ⟨hl,h⟩:=h
  have sub:=sub_enumerate
  have hL:c4l (c22 ⟨hp,g,d,tk,os⟩) l items:=⟨_,hl,rfl,n,rfl⟩
  wp_walk using c2N hl
  refine wpAny_stack_any λst=>c0X ?_
  split
  .rename_i c _ _ _ _ _
   cases (c==c30 "enumerate")
   .wp_walk using c2N hl,c1S hL
    exact ⟨_,rfl,h⟩
   .wp_walk using c2N hl,c1S hL
    exact ⟨_,rfl,h⟩
  .wp_walk using c2N hl,c1S hL
   exact ⟨_,rfl,h⟩
section
variable {prog:Program}{w:World}{A:Around}{E:Value->Shared->Prop}{s:Shared}
theorem b2Z(hL:sSq b s.heap l items)
  (h:∀h',IsEnum h' (s.heap.objs.size+1) s.heap.objs.size 0 .none->sIt b h' s.heap.objs.size l 0->h'.objs.size=s.heap.objs.size+2 ->
   (∀c o,s.heap.get? c=some o->h'.get? c=some o)->Q (.ref (s.heap.objs.size+1)) { s with heap:=h' }):
  wpAny (model prog w) A (call (.type "enumerate") [.ref l]) Q E s:=by
 cases b with
 | true=>exact call_enumerate_list hL h
 | false =>
  obtain ⟨⟨c,dct,dt,sl⟩,hl,hc,n,hd⟩:=(show s.heap.IsTuple l items from hL)
  replace hc:c=.type "tuple":=hc
  replace hd:dt=.seq items n:=hd
  subst hc hd
  refine callType_new F.called_enumerate (by decide) (F.typeCall_enumerate_1 _) (F.newCall_enumerate_1 _) (λobj=>F.args_object_init_2 obj _) F.entry_enumerate_new (a9Q l items n dct sl) ⟨hl,?_⟩
  have hz:(s.heap.push { cls:=.type (sCls false),data:=.fields #[.ref l,.int 0 0] }).objs.size=s.heap.objs.size+1:=c1N ..
  show _/\_
  rw [hz]
  have he:=c0Y (s.heap.push { cls:=.type (sCls false),data:=.fields #[.ref l,.int 0 0] })
    (o:={ cls:=.type "enumerate",data:=.fields #[.none,.bool false,.ref s.heap.objs.size,rawInt 0,.none,.none] }) rfl
  rw [hz] at he
  exact ⟨⟨_,he,rfl⟩,h _ he (a9p (c0M _ (c0Y _ rfl))) (by rw [c1N,hz]) λb o x=>c0M _ (c0M _ x)⟩
theorem b1v(hh:A.handled=none)(it l:Addr)(hne:l≠it)(items:Array Value):
  Draws prog w A it [it,l] items.size (λi v=>items[i]?=some v) (λi h=>sIt b h it l i/\sSq b h l items) where
 live:=λ_ _ st=>let ⟨o,ho,_⟩:=st.1.noCell;⟨o,ho⟩
 frame:=λ_ _ _ st hk=>⟨st.1.keep λo e=>hk it (by simp) o e,st.2.keep λo e=>hk l (by simp) o e⟩
 item:=λi s Q E hi st hQ=>by
  refine a5w st.1 st.2 (x:=items[i]) (by simp [hi]) λh' hit' hs'=>?_
  exact hQ _ h' s.toks (by simp [hi]) ⟨hit',st.2.keep λo e=>hs'.extBut _ _ hne e⟩ hs'
 done:=λs Q E st hE=>a7l hh st.1 st.2 (by simp) hE
theorem b4R{b:Bool}{i:Nat}(hh:A.handled=none)
  (he:IsEnum s.heap e it i old)(hit:sIt b s.heap it l i)(hl:sSq b s.heap l items)(hx:items[i]?=none)
  (hQ:∀h',Heap.ExtBut it s.heap h'->Q none { s with heap:=h' }):wpAny (model prog w) A (pyNext (.ref e)) Q E s:=by
 have hT:s.TypeIs (.ref e) "enumerate":=⟨_,he,rfl⟩
 unfold pyNext
 refine c0K (c26 (c17 (name:=c2Q "__next__") hT c48 (c2x c48 hT F.entry_enumerate_next ?_ (F.args_enumerate_next_1 _))))
 show wpAny _ _ (field (.ref e) 2 >>= _) _ _ _
 refine c0K (c1Z he rfl (x:=.ref it) rfl ?_)
 refine c0K (a7l hh hit hl hx λh' x he' hx'=>?_)
 obtain ⟨o,ho,hc⟩:=hx'
 exact c0K (wpAny_isInstance (T:="StopIteration") (b:=true) ⟨o,ho,hc⟩ isSubtype_stop (c0X (hQ _ he')))
theorem b7o(he:IsEnum h e it i old)(hl:sSq b h l items):e≠l:=λz=>by
 subst z
 have q:∃o,h.get? e=some o/\∃xs n,o.data=.seq xs n:=by
  cases b with
  | true=>obtain ⟨o,ho,_,n,hd⟩:=hl;exact ⟨o,ho,_,n,hd⟩
  | false=>obtain ⟨o,ho,_,n,hd⟩:=hl;exact ⟨o,ho,_,n,hd⟩
 obtain ⟨o,ho,xs,n,hd⟩:=q
 have:=he.symm.trans ho
 cases this
 cases hd
theorem it_ne(hi:sIt b h it l i)(hl:sSq b h l items):l≠it:=λz=>by
 subst z
 cases b with
 | true=>obtain ⟨o,ho,_,n,hd⟩:=hl;obtain ⟨o',ho',_,hd'⟩:=hi;rw [ho] at ho';cases ho';rw [hd] at hd';cases hd'
 | false=>obtain ⟨o,ho,_,n,hd⟩:=hl;obtain ⟨o',ho',_,hd'⟩:=hi;rw [ho] at ho';cases ho';rw [hd] at hd';cases hd'
end
noncomputable def Ite(K:c0L)(b:Bool)(l:Addr):It:=
 ⟨λi H=>∃xs x,Sq K H b l xs/\xs[i]?=some x,
 λi H v H'=>∃p x,v=.ref p/\H p=none/\H'=upd H p (.tup [.int i,x])/\∀xs,Sq K H b l xs->xs[i]?=some x,
 λi H=>∃xs,Sq K H b l xs/\xs.length<=i⟩
theorem b1K{P:Program}{w:World}{K:c0L}{elts:List Expr}{kk:Nat}{pos:Pos}{b:Bool}{e it l:Addr}(d1:e≠it):Turn P w K (.Tuple elts kk pos) (Ite K b l) [e,it] e (λi h=>(∃old,IsEnum h e it (i:Int) old)/\sIt b h it l i) where
 mem:=by simp
 obj:=λi h ⟨⟨old,he⟩,hit⟩ c hc=>by
  simp only [c0R,c1m,or_false] at hc
  rcases hc with rfl | rfl
  .exact ⟨_,he,λv q=>nomatch (show c5r _=c41 v from q)⟩
  .exact hit.noCell
 keep:=λi h h' ⟨⟨old,he⟩,hit⟩ k=>⟨⟨old,k e (by simp) _ he⟩,hit.keep λo x=>k it (by simp) o x⟩
 item:=by
  intro X hP hw hK hc i pins s σ H E I hf ⟨⟨old,he⟩,hit⟩ hg
  subst hP hw hK
  obtain ⟨xs,x,q1,hx⟩:=hg
  obtain ⟨its,r1,p1⟩:=a4X I q1
  obtain ⟨u,hu,ru⟩:=r1.get hx
  refine wpAny_pyNext_enum_itemD (b1v (A:=X.A.in1) (I.ok.hd hc) it l (it_ne hit p1) its.toArray) he ⟨hit,p1⟩ (by have:=c0V.mp hu;simpa using this.1) d1 (by simp [d1,b7o he p1]) λx' h' tk hx' heo hit' ht sz kp=>?_
  have ex':u=x':=by simpa [hu] using hx'
  subst ex'
  refine ⟨_,rfl,wpAny_letOwnedTupleGo_enum (s:={ s with heap:=h',toks:=tk+1 }) heo λh9 he9 sb=>?_⟩
  have fresh:H s.heap.objs.size=none:=I.hok.fresh (c0S _)
  have hlt:∀c∈[e,it],c<s.heap.objs.size:=λc hc=>by
   simp only [c0R,c1m,or_false] at hc
   rcases hc with rfl | rfl
   .exact c0W he
   .exact hit.lt
  have up:∀c o,c∉[e,it]->s.heap.get? c=some o->h9.get? c=some o:=λc o hc x=>by
   simp only [c0R,c1m,or_false,not_or] at hc
   exact sb.extBut _ _ hc.1 (kp c o hc.1 hc.2 x)
  have ne:s.heap.objs.size≠e:=c3n (hlt e (by simp))
  have nw9:h9.get? s.heap.objs.size=some { cls:=.type "tuple",data:=.seq #[.int i tk,u] }:=sb.extBut _ _ ne ht
  have I1:Inv X pins σ (upd H s.heap.objs.size (.tup [.int i,x])) { s with heap:=s.heap.push { cls:=.type "tuple",data:=.seq #[.int i tk,u] },toks:=tk+1 }:=
   I.laid (λb o e=>c0M _ e) (c0S _) ⟨by simp [sizeLine],[.int i tk,u],.cons ⟨_,rfl⟩ (.cons ru .nil),⟨_,c0Y _ rfl,rfl,_,rfl⟩⟩
  have I2:Inv X pins σ (upd H s.heap.objs.size (.tup [.int i,x])) { s with heap:=h9,toks:=tk+1 }:=a4Q (s:={ s with heap:=s.heap.push { cls:=.type "tuple",data:=.seq #[.int i tk,u] },toks:=tk+1 }) (ch:=[e,it]) (t':=tk+1) I1 (λc hc=>by
    obtain ⟨f0,f1,f2,f3,f4,f5⟩:=hf c hc
    exact ⟨by rw [a0q (c09 (hlt c hc))];exact f0,f1,f2,f3,f4,f5⟩) λc o hc y=>by
   by_cases hs:c<s.heap.objs.size
   .exact up c o hc (a6b hs y)
   .have hcs:c=s.heap.objs.size:=by
     have:=c0W y
     rw [c1N] at this
     exact Nat.le_antisymm (Nat.lt_succ_iff.mp this) (c3j hs)
    subst hcs
    have e2:(s.heap.push { cls:=.type "tuple",data:=.seq #[.int i tk,u] }).get? s.heap.objs.size=some _:=c0Y _ rfl
    rw [e2] at y;cases y
    exact nw9
  refine ⟨.ref s.heap.objs.size,_,I2,rfl,⟨_,x,rfl,fresh,rfl,λzs hzs=>by rw [b1Z I hzs q1];exact hx⟩,⟨⟨_,he9⟩,sIt.keep hit'.1 λo y=>sb.extBut _ _ d1.symm y⟩,λc hc=>?_⟩
  rw [a0q (c09 (hlt c hc))]
  exact (hf c hc).1
 done:=by
  intro X hP hw hK hc i pins s σ H E I hf ⟨⟨old,he⟩,hit⟩ hg
  subst hP hw hK
  obtain ⟨xs,q1,hl⟩:=hg
  obtain ⟨its,r1,p1⟩:=a4X I q1
  have e1:=r1.length
  refine b4R (I.ok.hd hc) he hit p1 (by simp;lia) λh' kp=>⟨rfl,a4Q (ch:=[e,it]) (t':=s.toks) I hf λc o hc y=>?_⟩
  simp only [c0R,c1m,or_false,not_or] at hc
  exact kp c o hc.2 y
 self:=λ_ _ _ _ _ st h=>by
  obtain ⟨⟨old,he⟩,_⟩:=st
  exact wpAny_pyIter_enum he h
section
variable {X:Cx}{elts:List Expr}{kk:Nat}{tp:Pos}
noncomputable def iEnum(K:c0L)(ta:TA):TI:=λσ H R=>ta σ H λvs H1=>∃b l xs,vs=[.ref l]/\Sq K H1 b l xs/\R (Ite K b l) H1
theorem b6A{a:Expr}{ta:TA}{p pos:Pos}(hg:Gl X "enumerate")(hm:X.mg "enumerate" = none)(ha:PA X [a] ta)(hs:starEach [a] X.env=[(false,eval a X.env)]:=by rfl)(hn:starEach [] X.env=[]:=by rfl):
  PI X (.Tuple elts kk tp) (.Call (.Name "enumerate" p) [a] [] pos) (iEnum X.K ta):=by
 intro pins s σ H R I h
 refine Call_ (a5j I hg hm boot_enumerate (c2r (thn (ha pos pins s σ H _ I h) λus s1 ⟨vs,H1,I1,r1,q1⟩=>?_) (by rw [hs,hn]) (by rw [hn];rfl)))
 obtain ⟨b,l,xs,e,q1,q⟩:=q1
 subst e
 cases r1 with
 | cons r rr =>
  cases rr
  cases r
  obtain ⟨its,rr1,p1⟩:=a4X I1 q1
  refine b2Z p1 λh' z0 j1 sz kp=>?_
  refine wpAny_pyIter_enum (s:={ s1 with heap:=h' }) z0 ?_
  have ge:∀c∈[s1.heap.objs.size+1,s1.heap.objs.size],s1.heap.objs.size<=c:=λc hc=>by
   simp only [c0R,c1m,or_false] at hc
   rcases hc with rfl | rfl
   .exact c19 _ _
   .exact c0S _
  exact ⟨_,_,_,_,H1,rfl,I1.kept (t':=s1.toks) kp,b1K (Nat.succ_ne_self _),⟨⟨_,z0⟩,j1⟩,λc hc=>I1.fpOk (ge c hc) (I1.hok.fresh (ge c hc)),q⟩
noncomputable def a9R(ds:List D):List D:=ds.zipIdx.map λp=>D.tup [.int p.2,p.1]
noncomputable def b1w:List D->Option (List D)
 | [.lst _ ds]=>some (a9R ds)
 | [.tup ds]=>some (a9R ds)
 | _=>none
theorem a8W{K:c0L}{O:Addr->Prop}{H:Hp}{b:Bool}{l:Addr}{xs:List V}{as:List D}(h1:Sq K H b l xs)(i1:Iss K O H xs as)(n1:¬O l\/∀H',Sq K H' b l xs):
  a6X K O (Ite K b l) H (a9R as):=λO' H2 kp hO i=>by
 have p1:Sq K H2 b l xs:=by
  rcases n1 with h3 | h3
  .exact a9n (λq u e n=>(kp q u e n).1) h1 h3
  .exact h3 H2
 have s1:Iss K O' H2 xs as:=i1.map (λq hq hn=>by
  cases e:H q with
  | none=>exact (hq e).elim
  | some u=>exact (kp q u e hn).2) λq u e n=>(kp q u e n).1
 refine ⟨λd hd=>?_,λhl=>⟨xs,p1,?_⟩⟩
 .unfold a9R at hd
  rw [c1O,List.getElem?_zipIdx] at hd
  cases ea:as[i]? with
  | none=>simp [ea] at hd
  | some da =>
   simp only [ea,c3w,c3q] at hd
   cases hd
   obtain ⟨x,hx,dx⟩:=s1.get ea
   refine ⟨⟨xs,x,p1,hx⟩,λv H3 hv=>?_⟩
   obtain ⟨p,x',rfl,hp,rfl,f1⟩:=hv
   have e1:=f1 xs p1
   rw [hx] at e1;cases e1
   have sm:Same H2 (upd H2 p (.tup [.int i,x])):=λq u e=>by rw [a0q (a0A e hp)];exact e
   exact ⟨sm,.tup (λz=>hO p z hp) (.inl a0V) (.cons (.int _) (.cons (dx.grow sm) .nil))⟩
 .have e1:=s1.length
  simp only [a9R,c0P,List.length_zipIdx] at hl
  lia
theorem b2A{a:Expr}{fs:En->Option (List D)}{p pos:Pos}(hgr:Gl X "enumerate")(hm:X.mg "enumerate" = none)(ha:AV X [a] fs)(h1:starEach [a] X.env=[(false,eval a X.env)]:=by rfl)
  (h2:starEach [] X.env=[]:=by rfl):IV X (.Tuple elts kk tp) (.Call (.Name "enumerate" p) [a] [] pos) (fRng b1w fs):=by
 obtain ⟨ti,pi,ki⟩:=ha
 refine ⟨_,b6A hgr hm pi h1 h2,λO B σ H env ds R Rl e q=>?_⟩
 obtain ⟨as,e1,e2⟩:=bind_some e
 refine ki O B σ H env as _ Rl e1 λvs H1 s1 r1=>?_
 unfold b1w at e2
 split at e2
 .rename_i ro da
  cases e2
  cases r1 with
  | cons ra rr =>
   cases rr
   obtain ⟨l1,xs,rfl,g1,i1,n1⟩:=ra.seqN (k:=true) (ds:=da) rfl
   exact ⟨true,l1,xs,rfl,g1,q _ H1 s1 (a8W g1 i1 n1)⟩
 .rename_i da
  cases e2
  cases r1 with
  | cons ra rr =>
   cases rr
   obtain ⟨l1,xs,rfl,g1,i1,n1⟩:=ra.seqN (k:=false) (ds:=da) rfl
   exact ⟨false,l1,xs,rfl,g1,q _ H1 s1 (a8W g1 i1 n1)⟩
 .cases e2
end
end DL
noncomputable def b1B:Nat:=64
namespace TS
open PySem PyProof.Rows
noncomputable abbrev kTup:Bool → SortKind:=sortPriv% PySem.Builtin.KeyKind.tuples
theorem b6Z(x y:Value):keyLt' (kTup true) x y=(do
  let us <-c2Y x
  let vs <-c2Y y
  for ((p,q),i) in (us.toList.zip vs.toList).zipIdx do
   if !(<-eqBool p q) then return <-oneLt' (true&&i==0) p q
  return decide (us.size<vs.size)):=rfl
section
variable {prog:Program}{w:World}{A:Around}{E:Value->Shared->Prop}{s:Shared}
theorem b4n(hx:s.heap.get? x=some ox)(dx:ox.data=.seq (c15 a t::us).toArray n)
  (hy:s.heap.get? y=some oy)(dy:oy.data=.seq (c15 b u::vs).toArray m)(hne:a≠b)(h:Q (decide (a<b)) s):wpAny (model prog w) A (keyLt' (kTup true) (.ref x) (.ref y)) Q E s:=by
 rw [b6Z]
 refine c0K (c3N hx dx (c0K (c3N hy dy ?_)))
 dsimp only
 rw [c4m,c4S,c3v]
 refine c0K (c0K ?_)
 dsimp only
 refine c0K (wpAny_eqBool_int ?_)
 rw [if_pos (by simp [hne])]
 exact c0K (oneLt_int (c0X (c0X (c0X h))))
noncomputable def kI(ky:Value->Int)(xs:Array Keyed)(i:Nat):Int:=match xs[i]? with
 | some p=>ky p.1
 | none=>0
structure TB(a₀:Array Keyed)(st:SortSt):Prop where
 perm:(arrOf st).Perm a₀
 kind:kindOf st=kTup true
 failed:failedOf st=none
 pend:pendingOf st=#[]
theorem TB.size{a₀:Array Keyed}{st:SortSt}(h:TB a₀ st):(arrOf st).size=a₀.size:=h.perm.size_eq
theorem TB.put{a₀:Array Keyed}{st:SortSt}(h:TB a₀ st){xs:Array Keyed}(hp:xs.Perm (arrOf st)):TB a₀ (setArr st xs):=⟨hp.trans h.perm,h.kind,h.failed,h.pend⟩
def Keys(s:Shared)(ky:Value->Int)(a₀:Array Keyed):Prop:=∀p∈a₀.toList,∃x o t us n,p.1=.ref x/\s.heap.get? x=some o/\o.data=.seq (c15 (ky p.1) t::us).toArray n
def Dist(ky:Value->Int)(a₀:Array Keyed):Prop:=(a₀.toList.map λp=>ky p.1).Nodup
variable {ky:Value->Int}{a₀:Array Keyed}
theorem TB.at{st:SortSt}(h:TB a₀ st)(hk:Keys s ky a₀){i:Nat}(hi:i<a₀.size):∃x v o t us n,(arrOf st)[i]?=some (.ref x,v)/\s.heap.get? x=some o/\o.data=.seq (c15 (kI ky (arrOf st) i) t::us).toArray n:=by
 have hi':i<(arrOf st).size:=by rw [h.size];exact hi
 have hm:(arrOf st)[i]∈a₀.toList:=(c2b.mp h.perm).mem_iff.mp (by simp)
 obtain ⟨x,o,t,us,n,e1,e2,e3⟩:=hk _ hm
 have e:(arrOf st)[i]?=some (arrOf st)[i]:=getElem?_pos _ i hi'
 refine ⟨x,(arrOf st)[i].2,o,t,us,n,by rw [e,<-e1],e2,?_⟩
 unfold kI
 rw [e]
 exact e3
theorem TB.inj{st:SortSt}(h:TB a₀ st)(hd:Dist ky a₀){i j:Nat}(hi:i<a₀.size)(hj:j<a₀.size)(e:kI ky (arrOf st) i=kI ky (arrOf st) j):i=j:=by
 have hd':((arrOf st).toList.map λp=>ky p.1).Nodup:=((c2b.mp h.perm).map _).nodup_iff.mpr hd
 have hsz:=h.size
 have gi:∀k,k<a₀.size->∃hk:k<((arrOf st).toList.map λp=>ky p.1).length,((arrOf st).toList.map λp=>ky p.1)[k]=kI ky (arrOf st) k:=λk hk=>by
  have hk':k<(arrOf st).size:=by omega
  refine ⟨by simpa using hk',?_⟩
  unfold kI
  rw [getElem?_pos _ k hk']
  simp
 obtain ⟨h1,e1⟩:=gi i hi
 obtain ⟨h2,e2⟩:=gi j hj
 exact (List.getElem_inj hd').mp (by rw [e1,e2,e])
theorem ltT{st:SortSt}{i j:Nat}{Q:Option Bool->SortSt->Prop}(hB:TB a₀ st)(hk:Keys s ky a₀)(hd:Dist ky a₀)(hi:i<a₀.size)(hj:j<a₀.size)(hij:i≠j)
  (h:Q (some (decide (kI ky (arrOf st) i<kI ky (arrOf st) j))) st):wpS (model prog w) A E s (ltAt' i j) Q st:=by
 obtain ⟨x,v,o,t,us,n,e1,e2,e3⟩:=hB.at hk hi
 obtain ⟨y,v',o',t',us',n',f1,f2,f3⟩:=hB.at hk hj
 have hne:kI ky (arrOf st) i≠kI ky (arrOf st) j:=λz=>hij (hB.inj hd hi hj z)
 rw [ltAt'_eq]
 refine c1M (c50 ?_)
 show wpS _ _ _ _ (do let p <-elem' (arrOf st) i;let q <-elem' (arrOf st) j;lt' p q) Q st
 rw [elem'_eq,elem'_eq,e1,f1]
 refine c1M (c2n (c1M (c2n ?_)))
 rw [lt'_eq]
 refine c1M (c50 ?_)
 rw [hB.kind]
 refine c1M (wpS_lift (c26 (b4n e2 e3 f2 f3 hne ⟨rfl,?_⟩)))
 exact c2n h
theorem a56{xs ys:Array Keyed}{i j:Nat}(h:xs[i]?=ys[j]?):kI ky xs i=kI ky ys j:=by unfold kI;rw [h]
def Inc(ky:Value->Int)(xs:Array Keyed)(k:Nat):Prop:=∀i j,i<j->j<k->kI ky xs i<kI ky xs j
def Dec(ky:Value->Int)(xs:Array Keyed)(k:Nat):Prop:=∀i j,i<j->j<k->kI ky xs j<kI ky xs i
theorem b68{xs:Array Keyed}:Inc ky xs 1:=λi j h1 h2=>by omega
theorem ascT{st:SortSt}{a nrem:Nat}{Q:AscSt->SortSt->Prop}(hk:Keys s ky a₀)(hd:Dist ky a₀)(hn:nrem<=a₀.size)(ha:1<=a)(han:a<=nrem)(hB:TB a₀ st)(hs:Inc ky (arrOf st) a)
  (h:∀n,a<=n->n<=nrem->Inc ky (arrOf st) n->(n=nrem\/n<nrem/\kI ky (arrOf st) n<kI ky (arrOf st) (n-1))->Q (none,n) st):wpS (model prog w) A E s (ascLoop a nrem) Q st:=by
 unfold ascLoop
 refine c3O (λx c st'=>st'=st/\c=(none,x)/\Inc ky (arrOf st) x) (λx c st' h1 h2 hI=>?_) (λc st' hI=>?_) ⟨rfl,rfl,hs⟩
 .obtain ⟨rfl,rfl,hs'⟩:=hI
  refine c1M (ltT hB hk hd (by omega) (by omega) (by omega) ?_)
  dsimp only
  by_cases hl:kI ky (arrOf st') x<kI ky (arrOf st') (x-1)
  .rw [if_pos (decide_eq_true hl)]
   exact c2n (h x h1 (by omega) hs' (.inr ⟨h2,hl⟩))
  .rw [if_neg (by simpa using hl)]
   refine c2n ⟨rfl,rfl,λi j hij hj=>?_⟩
   have hne:kI ky (arrOf st') x≠kI ky (arrOf st') (x-1):=λz=>by have:=hB.inj hd (by omega) (by omega) z;omega
   by_cases hjx:j<x
   .exact hs' i j hij hjx
   .have:j=x:=by omega
    subst this
    by_cases hi:i=j-1
    .subst hi;omega
    .have:=hs' i (j-1) (by omega) (by omega);omega
 .obtain ⟨rfl,rfl,hs'⟩:=hI
  rw [show max a nrem=nrem by omega] at hs' ⊢
  exact h nrem han (c0S _) hs' (.inl rfl)
theorem a6S{xs:Array Keyed}{n:Nat}(hn:n<=xs.size)(k:Nat):kI ky (mirror xs 0 n ((n-0)/2)) k=if k<n then kI ky xs (n-1-k) else kI ky xs k:=by
 have e:=getElem?_mirror_all (i:=0) hn k
 by_cases h:k<n
 .rw [if_pos ⟨c2T _,h⟩,c3q] at e
  rw [if_pos h];exact a56 e
 .rw [if_neg (by omega)] at e
  rw [if_neg h];exact a56 e
theorem tailT{st:SortSt}{n nrem:Nat}{Q:Option Nat->SortSt->Prop}(hk:Keys s ky a₀)(hd:Dist ky a₀)(hn:nrem<=a₀.size)(h1:1<=n)(hnn:n<=nrem)(hB:TB a₀ st)(hs:Dec ky (arrOf st) n)
  (h:∀m st',TB a₀ st'->1<=m->m<=nrem->Inc ky (arrOf st') m->Q (some m) st'):wpS (model prog w) A E s (tail3 n nrem) Q st:=by
 unfold tail3
 have hsz:n<=(arrOf st).size:=by rw [hB.size];omega
 refine c1M (wpS_reverse ?_)
 have hB':TB a₀ (setArr st (mirror (arrOf st) 0 n ((n-0)/2))):=hB.put (c23 _ _ _ _)
 refine c1M (ascT hk hd hn h1 hnn hB' (λi j hij hj=>?_) λm m1 m2 hm _=>c2n (h m _ hB' (by omega) m2 hm))
 show kI ky (mirror (arrOf st) 0 n ((n-0)/2)) i<kI ky (mirror (arrOf st) 0 n ((n-0)/2)) j
 rw [a6S hsz,a6S hsz,if_pos (by omega),if_pos hj]
 exact hs _ _ (by omega) (by omega)
theorem descT{st:SortSt}{n nrem:Nat}{Q:DescSt->SortSt->Prop}(hk:Keys s ky a₀)(hd:Dist ky a₀)(hn:nrem<=a₀.size)(h1:1<=n)(hnn:n<=nrem)(hB:TB a₀ st)(hs:Dec ky (arrOf st) n)
  (h:∀m,n<=m->m<=nrem->Dec ky (arrOf st) m->Q (none,m,0) st):wpS (model prog w) A E s (descLoop n nrem) Q st:=by
 unfold descLoop
 refine c3O (λx c st'=>st'=st/\c=(none,x,0)/\Dec ky (arrOf st) x) (λx c st' g1 g2 hI=>?_) (λc st' hI=>?_) ⟨rfl,rfl,hs⟩
 .obtain ⟨rfl,rfl,hs'⟩:=hI
  dsimp only
  refine c1M (ltT hB hk hd (by omega) (by omega) (by omega) ?_)
  dsimp only
  have hne:kI ky (arrOf st') x≠kI ky (arrOf st') (x-1):=λz=>by have:=hB.inj hd (by omega) (by omega) z;omega
  by_cases hl:kI ky (arrOf st') x<kI ky (arrOf st') (x-1)
  .rw [if_pos (decide_eq_true hl),if_neg (by omega)]
   refine c2n ⟨rfl,rfl,λi j hij hj=>?_⟩
   by_cases hjx:j<x
   .exact hs' i j hij hjx
   .have:j=x:=by omega
    subst this
    by_cases hi:i=j-1
    .subst hi;exact hl
    .have:=hs' i (j-1) (by omega) (by omega);omega
  .rw [if_neg (by simpa using hl)]
   refine c1M (ltT hB hk hd (by omega) (by omega) (by omega) ?_)
   dsimp only
   rw [if_pos (decide_eq_true (by omega))]
   exact c2n (h x g1 (by omega) hs')
 .obtain ⟨rfl,rfl,hs'⟩:=hI
  rw [show max n nrem=nrem by omega] at hs' ⊢
  exact h nrem hnn (c0S _) hs'
theorem b24{st:SortSt}{n nrem:Nat}{Q:Option Nat->SortSt->Prop}(hk:Keys s ky a₀)(hd:Dist ky a₀)(hn:nrem<=a₀.size)(hnn:n+1<=nrem)(hB:TB a₀ st)(hs:Dec ky (arrOf st) (n+1))
  (h:∀m st',TB a₀ st'->1<=m->m<=nrem->Inc ky (arrOf st') m->Q (some m) st'):wpS (model prog w) A E s (descPart n nrem) Q st:=by
 unfold descPart
 refine c1M (wpS_lift (c31 ⟨rfl,?_⟩))
 refine c1M (descT hk hd hn (by omega) hnn hB hs λm m1 m2 hm=>?_)
 dsimp only
 rw [if_neg (by omega)]
 exact tailT hk hd hn (by omega) m2 hB hm h
theorem b94{st:SortSt}{nrem:Nat}{Q:Option Nat->SortSt->Prop}(hk:Keys s ky a₀)(hd:Dist ky a₀)(hn:nrem<=a₀.size)(h1:1<=nrem)(hB:TB a₀ st)
  (h:∀m st',TB a₀ st'->1<=m->m<=nrem->Inc ky (arrOf st') m->Q (some m) st'):wpS (model prog w) A E s (countRun' 0 nrem) Q st:=by
 rw [countRun0_eq]
 refine c1M (ascT hk hd hn (c0S 1) h1 hB b68 λn n1 n2 hs hor=>?_)
 dsimp only
 by_cases hnn:n=nrem
 .rw [if_pos (by simpa using hnn)]
  exact c2n (h n st hB n1 n2 hs)
 .rw [if_neg (by simpa using hnn)]
  have hlt:kI ky (arrOf st) n<kI ky (arrOf st) (n-1):=by omega
  by_cases hgt:n>1
  .rw [if_pos hgt]
   refine c1M (ltT hB hk hd (by omega) (by omega) (by omega) ?_)
   dsimp only
   rw [if_pos (decide_eq_true (hs 0 (n-1) (by omega) (by omega)))]
   exact c2n (h n st hB n1 n2 hs)
  .rw [if_neg hgt]
   have:n=1:=by omega
   subst this
   refine b24 hk hd hn (by omega) hB (λi j hij hj=>?_) h
   have:i=0/\j=1:=by omega
   obtain ⟨rfl,rfl⟩:=this
   exact hlt
theorem binT{st:SortSt}{n ok:Nat}{Q:Bool->SortSt->Prop}(hk:Keys s ky a₀)(hd:Dist ky a₀)(hn:n<=a₀.size)(hok:1<=ok)(hon:ok<=n)(hB:TB a₀ st)(hs:Inc ky (arrOf st) ok)
  (h:∀st',TB a₀ st'->Inc ky (arrOf st') n->Q true st'):wpS (model prog w) A E s (binarySort' 0 n ok) Q st:=by
 rw [binarySort'_eq]
 simp only [c3q]
 refine c1M (wpS_mono (c3O (λk c st'=>c=(none,())/\TB a₀ st'/\Inc ky (arrOf st') k) (Q:=λc st'=>c=(none,())/\TB a₀ st'/\Inc ky (arrOf st') n) (λk c st' g1 g2 hI=>?_) (λc st' hI=>?_) ⟨rfl,hB,?_⟩) λc st' hI=>?_)
 .obtain ⟨rfl,hB',hs'⟩:=hI
  have hka:k<a₀.size:=by omega
  refine c1M (wpS_mono (c3O (λx c st2=>st2=st'/\∃l r,c=(none,l,r)/\l<=r/\r<=k/\r-l<=k-x/\(∀i,i<l->kI ky (arrOf st') i<kI ky (arrOf st') k)/\∀i,r<=i->i<k->kI ky (arrOf st') k<kI ky (arrOf st') i)
   (Q:=λc st2=>st2=st'/\∃l r,c=(none,l,r)/\l<=k/\(∀i,i<l->kI ky (arrOf st') i<kI ky (arrOf st') k)/\∀i,l<=i->i<k->kI ky (arrOf st') k<kI ky (arrOf st') i) (λx c st2 f1 f2 hJ=>?_) (λc st2 hJ=>?_) ⟨rfl,0,k,rfl,by omega,by omega,by omega,λi z=>by omega,λi z1 z2=>by omega⟩) λc st2 hJ=>?_)
  .obtain ⟨rfl,l,r,rfl,j1,j2,j3,j4,j5⟩:=hJ
   dsimp only
   by_cases hge:l≥r
   .rw [if_pos hge]
    have:l=r:=by omega
    subst this
    exact c2n ⟨rfl,l,l,rfl,j2,j4,j5⟩
   .rw [if_neg hge]
    refine c1M (ltT hB' hk hd hka (by omega) (by omega) ?_)
    dsimp only
    have hne:kI ky (arrOf st2) k≠kI ky (arrOf st2) ((l+r)/2):=λz=>by have:=hB'.inj hd hka (by omega) z;omega
    by_cases hl:kI ky (arrOf st2) k<kI ky (arrOf st2) ((l+r)/2)
    .rw [if_pos (decide_eq_true hl)]
     refine c2n ⟨rfl,l,(l+r)/2,rfl,by omega,by omega,by omega,j4,λi z1 z2=>?_⟩
     by_cases hi:i=(l+r)/2
     .subst hi;exact hl
     .have:=hs' ((l+r)/2) i (by omega) z2;omega
    .rw [if_neg (by simpa using hl)]
     refine c2n ⟨rfl,(l+r)/2+1,r,rfl,by omega,by omega,by omega,λi z1=>?_,j5⟩
     by_cases hi:i=(l+r)/2
     .subst hi;omega
     .have:=hs' i ((l+r)/2) (by omega) (by omega);omega
  .obtain ⟨rfl,l,r,rfl,j1,j2,j3,j4,j5⟩:=hJ
   have:l=r:=by omega
   subst this
   exact ⟨rfl,l,l,rfl,j2,j4,j5⟩
  .obtain ⟨rfl,l,r,rfl,j2,j4,j5⟩:=hJ
   show wpS _ _ _ _ (do moveDown' k l;pure (c1T (none,()))) _ _
   rw [moveDown'_eq]
   refine c1M (wpS_modify (c2n ⟨rfl,hB'.put (bubble_perm _ _ _),λi j hij hj=>?_⟩))
   have hks:k<(arrOf st2).size:=by rw [hB'.size];exact hka
   have kb:∀m,kI ky (bubble (arrOf st2) k (k-l)) m=if m=l then kI ky (arrOf st2) k else if l<m/\m<=k then kI ky (arrOf st2) (m-1) else kI ky (arrOf st2) m:=λm=>by
    have e:=getElem?_bubble hks (k-l) (by omega) m
    rw [show k-(k-l)=l by omega] at e
    by_cases c1:m=l
    .rw [if_pos c1] at e ⊢;exact a56 e
    .rw [if_neg c1] at e ⊢
     by_cases c2:l<m/\m<=k
     .rw [if_pos c2] at e ⊢;exact a56 e
     .rw [if_neg c2] at e ⊢;exact a56 e
   show kI ky (bubble (arrOf st2) k (k-l)) i<kI ky (bubble (arrOf st2) k (k-l)) j
   rw [kb,kb]
   repeat' split
   all_goals first
    | (exfalso;omega)
    | exact j4 _ (by omega)
    | exact j5 _ (by omega) (by omega)
    | exact hs' _ _ (by omega) (by omega)
 .obtain ⟨hc,hB',hs'⟩:=hI
  rw [show max (max ok 1) n=n by omega] at hs'
  exact ⟨hc,hB',hs'⟩
 .rw [show max ok 1=ok by omega];exact hs
 .obtain ⟨rfl,hB',hs'⟩:=hI
  exact c2n (h st' hB' hs')
def Done(ky:Value->Int)(a₀:Array Keyed)(st:SortSt):Prop:=(arrOf st).Perm a₀/\failedOf st=none/\pendingOf st=#[(0,a₀.size,0)]/\Inc ky (arrOf st) a₀.size
theorem runsT{st:SortSt}{Q:Unit->SortSt->Prop}(hk:Keys s ky a₀)(hd:Dist ky a₀)(hB:TB a₀ st)(h2:2<=a₀.size)(h64:a₀.size<64)
  (h:∀st',(arrOf st').Perm a₀->failedOf st'=none->Inc ky (arrOf st') a₀.size->Q () st'):wpS (model prog w) A E s sortRuns' Q st:=by
 rw [sortRuns'_eq]
 refine c1M (c50 ?_)
 dsimp only
 have mr:minRun' a₀.size a₀.size 0=a₀.size:=by
  cases hz:a₀.size with
  | zero=>omega
  | succ f=>rw [minRun'_succ,if_pos (by omega)]
 simp only [hB.size,mr]
 have fin:∀st2,TB a₀ st2->Inc ky (arrOf st2) a₀.size->Done ky a₀ (setPending st2 ((pendingOf st2).push (0,a₀.size,0))):=λst2 b i=>⟨b.perm,b.failed,by show (pendingOf st2).push _=_;rw [b.pend];rfl,i⟩
 have back:∀st2,TB a₀ st2->(pendingOf st2).back?=none:=λst2 b=>by rw [b.pend];rfl
 refine c1M (wpS_mono (c3O (λx c st'=>x=0/\c=(none,0)/\TB a₀ st'\/0<x/\c=(none,a₀.size)/\Done ky a₀ st') (Q:=λc st'=>c=(none,a₀.size)/\Done ky a₀ st') (λx c st' _ g2 hI=>?_) (λc st' hI=>?_) (.inl ⟨rfl,rfl,hB⟩)) λc st' hI=>?_)
 .rcases hI with ⟨rfl,rfl,b⟩ | ⟨_,rfl,f⟩
  .dsimp only
   rw [if_neg (by omega)]
   simp only [Nat.sub_zero,Nat.min_self,c3q]
   refine c1M (b94 hk hd (c0S _) (by omega) b λm st2 b2 m1 m2 i2=>?_)
   dsimp only
   by_cases hlt:m<a₀.size
   .rw [if_pos hlt]
    refine c1M (wpS_lift (c31 ⟨rfl,c1M (binT hk hd (c0S _) m1 m2 b2 i2 λst3 b3 i3=>?_)⟩))
    simp only [c4I,c1v,if_false]
    refine c1M (c50 ?_)
    rw [back st3 b3]
    exact c1M (wpS_modify (c2n (.inr ⟨Nat.one_pos,rfl,fin st3 b3 i3⟩)))
   .rw [if_neg hlt]
    obtain rfl:m=a₀.size:=by omega
    refine c1M (c50 ?_)
    rw [back st2 b2]
    exact c1M (wpS_modify (c2n (.inr ⟨Nat.one_pos,rfl,fin st2 b2 i2⟩)))
  .dsimp only
   rw [if_pos (c0S _)]
   exact c2n ⟨rfl,f⟩
 .rcases hI with ⟨z,_,_⟩ | ⟨_,z,f⟩
  .omega
  .exact ⟨z,f⟩
 .obtain ⟨rfl,f⟩:=hI
  dsimp only
  refine c1M (wpS_mono (c3O (λ_ c st2=>st2=st'/\c=(none,())) (Q:=λc st2=>st2=st'/\c=(none,())) (λx c st2 _ _ hJ=>?_) (λ_ _ z=>z) ⟨rfl,rfl⟩) λc st2 hJ=>?_)
  .obtain ⟨rfl,rfl⟩:=hJ
   refine c1M (c50 ?_)
   rw [if_pos (by rw [f.2.2.1];exact c0S 1)]
   exact c2n ⟨rfl,rfl⟩
  .obtain ⟨rfl,rfl⟩:=hJ
   exact c2n (h _ f.1 f.2.1 f.2.2.2)
def TupAt(s:Shared)(ky:Value->Int)(v:Value):Prop:=∃x o t us n,v=.ref x/\s.heap.get? x=some o/\o.cls=.type "tuple" /\ o.data=.seq (c15 (ky v) t::us).toArray n
theorem b9O(vs:List Value)(hv:∀v∈vs,TupAt s ky v)(h:∀ts:List Tok,ts.length=vs.length->Q (c2g (λv t=>some (c15 (ky v) t)) vs ts) s):wpAny (model prog w) A (vs.mapM firstOfTuple') Q E s:=by
 induction vs generalizing Q with
 | nil=>rw [List.mapM_nil];exact c0X (h [] rfl)
 | cons v vs ih =>
  rw [List.mapM_cons]
  obtain ⟨x,o,t,us,n,e1,e2,e3,e4⟩:=hv v c0N
  have ht:s.TypeIs v "tuple":=by rw [e1];exact ⟨o,e2,e3⟩
  have one:wpAny (model prog w) A (firstOfTuple' v) (λr s'=>s'=s/\r=some (c15 (ky v) t)) E s:=by
   show wpAny _ _ (typeOf v >>= λT=>if (T != c30 "tuple")=true then pure none else c2Y v >>= λus=>pure us[0]?) _ _ _
   refine c0K (wpAny_typeOf ht ?_)
   rw [if_neg (by simp)]
   have li:wpAny (model prog w) A (c2Y (.ref x)) (λus s'=>wpAny (model prog w) A (pure us[0]?) (λr s'=>s'=s/\r=some (c15 (ky v) t)) E s') E s:=c3N e2 e4 (c0X ⟨rfl,rfl⟩)
   rw [<-e1] at li
   exact c0K li
  refine c0K (c1z one (λr s' hr=>?_) λ_ _ z=>z)
  obtain ⟨rfl,rfl⟩:=hr
  exact c0K (ih (λu hu=>hv u (c0O _ hu)) λts hl=>c0X (h (t::ts) (by simp [hl])))
theorem kindT(vs:List Value){Q:SortKind->Shared->Prop}(hne:vs≠[])(hv:∀v∈vs,TupAt s ky v)(h:Q (kTup true) s):wpAny (model prog w) A (keyKind' vs.toArray) Q E s:=by
 rw [keyKind'_eq,List.mapM_toArray,map_eq_pure_bind]
 refine c0K (c0K (b9O vs hv λts hl=>c0X ?_))
 have hi:∀(us:List Value) (ts:List Tok),ts.length=us.length->(c2g (λv t=>some (c15 (ky v) t)) us ts).all (·.isSome)=true/\∃ws ns,(c2g (λv t=>some (c15 (ky v) t)) us ts).filterMap id=ws/\IntsAre ws ns/\ws.length=us.length:=λus=>by
  induction us with
  | nil=>intro ts _;exact ⟨by simp,[],[],by simp,.nil,rfl⟩
  | cons u us ih =>
   intro ts hl
   cases ts with
   | nil=>simp at hl
   | cons t ts =>
    obtain ⟨h1,ws,ns,h2,h3,h4⟩:=ih ts (by simpa using hl)
    exact ⟨by simpa using h1,_::ws,_::ns,by simp [h2],.cons (ky u) t h3,by simp [h4]⟩
 obtain ⟨h1,ws,ns,h2,h3,h4⟩:=hi vs ts hl
 rw [if_pos (by simpa using h1)]
 refine c0K (c31 (c0K ?_))
 have e:(c2g (λv t=>some (c15 (ky v) t)) vs ts).toArray.filterMap id=ws.toArray:=by simp [h2]
 rw [e,oneTypeOnly'_eq,List.mapM_toArray,mapM_typeOf_ints h3]
 have hne':ws≠[]:=λz=>by rw [z] at h4;exact hne (c2m.mp h4.symm)
 cases ws with
 | nil=>exact absurd rfl hne'
 | cons a ws =>
  simp only [map_pure,pure_bind]
  have hall:((c3J (λ_=>c30 "int") (a::ws)).toArray.all λx=>x==c30 "int")=true:=by simp
  have h0:(c3J (λ_=>c30 "int") (a::ws)).toArray[0]?=some (c30 "int"):=by simp
  rw [h0]
  simp only [hall,if_true]
  exact c0X (c0X h)
theorem b9h{vs:List Value}{xs:Array Keyed}(hp:xs.Perm (pairsOf vs))(hi:Inc ky xs (pairsOf vs).size):(xs.map (·.2)).toList.Perm vs/\(xs.map (·.2)).toList.Pairwise λx y=>ky x<ky y:=by
 have hpl:=c2b.mp hp
 have hz:(vs.zip vs).map (·.2)=vs:=by rw [List.map_snd_zip];exact c0S _
 have hsame:∀p∈xs.toList,p.1=p.2:=λp hp'=>by
  have:=hpl.mem_iff.mp hp'
  rw [c4u] at this
  have key:∀(us:List Value) (p:Value×Value),p∈us.zip us->p.1=p.2:=λus=>by
   induction us with
   | nil=>intro p z;cases z
   | cons u us ih =>
    intro p z
    rcases c0R.mp z with rfl | z
    .rfl
    .exact ih p z
  exact key vs p this
 rw [Array.toList_map]
 refine ⟨by have:=hpl.map (·.2);rw [c4u,hz] at this;exact this,?_⟩
 rw [c2e,c3g]
 intro i j h1 h2 hij
 have hsz:xs.size=(pairsOf vs).size:=hp.size_eq
 have g:∀k (hk:k<xs.toList.length),kI ky xs k=ky (xs.toList[k]).2:=λk hk=>by
  have hk':k<xs.size:=by simpa using hk
  unfold kI
  rw [getElem?_pos _ k hk']
  have:=hsame xs.toList[k] (c1X hk)
  show ky (xs[k]).1=_
  rw [<-this]
  simp
 rw [<-g i h1,<-g j h2]
 exact hi i j hij (by rw [<-hsz];simpa using h2)
theorem sortT(hl0:s.heap.get? l0=some (seqObj "list" vs.toArray n))(hv:∀v∈vs,TupAt s ky v)(hd:(vs.map ky).Nodup)(h64:vs.length<64)
  (h:∀out:Array Value,out.toList.Perm vs->(out.toList.Pairwise λx y=>ky x<ky y)->P (.done (.ret .none)) { s with heap:=sortedHeap s.heap l0 vs out }):wpAny (model prog w) A (Builtin.«list.sort» ⟨[.ref l0],[]⟩) P E s:=by
 have hlt:l0<s.heap.objs.size:=c0W hl0
 obtain ⟨k1,hk1⟩:∃k1,(s.heap.update l0 (c1t λ_=>#[])).get? l0=some (seqObj "list" #[] k1):=⟨_,c38 hl0 λ_=>#[]⟩
 rw [list_sort_plain]
 refine c0K (c3N hl0 rfl (c0K (c3y hl0 rfl (c0K (c5w hk1 rfl (c0K (c5o (c0K (c4J (c1V ?_))))))))))
 have hl1:(((s.heap.update l0 (c1t λ_=>#[])).push (seqObj "tuple" vs.toArray 0)).push (seqObj "list" #[] 0)).get? l0=some (seqObj "list" #[] k1):=c0M _ (c0M _ hk1)
 have up:∀b o,b≠l0->s.heap.get? b=some o->(((s.heap.update l0 (c1t λ_=>#[])).push (seqObj "tuple" vs.toArray 0)).push (seqObj "list" #[] 0)).get? b=some o:=λb o hb e =>
  c0M _ (c0M _ ((c1p _ _ (c2j hb)).trans e))
 have hv1:∀v∈vs,TupAt { s with heap:=((s.heap.update l0 (c1t λ_=>#[])).push (seqObj "tuple" vs.toArray 0)).push (seqObj "list" #[] 0) } ky v:=λv hv'=>by
  obtain ⟨x,o,t,us,m,e1,e2,e3,e4⟩:=hv v hv'
  have hx:x≠l0:=λz=>by
   rw [z,hl0] at e2
   cases e2
   have:("list":String) = "tuple":=Value.type.inj e3
   exact absurd this (by decide)
  exact ⟨x,o,t,us,m,e1,up x o hx e2,e3,e4⟩
 dsimp only
 show wpAny _ _ _ _ _ { s with heap:=((s.heap.update l0 (c1t λ_=>#[])).push (seqObj "tuple" vs.toArray 0)).push (seqObj "list" #[] 0) }
 generalize hS:({ s with heap:=((s.heap.update l0 (c1t λ_=>#[])).push (seqObj "tuple" vs.toArray 0)).push (seqObj "list" #[] 0) }:Shared)=S at hv1 ⊢
 have hSh:S.heap=((s.heap.update l0 (c1t λ_=>#[])).push (seqObj "tuple" vs.toArray 0)).push (seqObj "list" #[] 0):=by rw [<-hS]
 have hl2:S.heap.get? l0=some (seqObj "list" #[] k1):=by rw [hSh];exact hl1
 have ends:∀st:SortSt,(arrOf st).Perm (pairsOf vs)->failedOf st=none->Inc ky (arrOf st) (pairsOf vs).size ->
   wpAny (model prog w) A (do
    let touched:=(<-seqEpoch l0) != k1
    Builtin.List.listUpdate (.ref l0) λ_=>(arrOf st).map (·.2)
    if let some e:=failedOf st then rule "list.sort.comparison-raised";throw e
    if touched then rule "list.sort.modified";raiseError "ValueError" "list modified during sort"
    ret .none) P E S:=λst hp hf hi=>by
  obtain ⟨o1,o2⟩:=b9h hp hi
  refine c0K (c5w hl2 rfl (c0K (c3y hl2 rfl ?_ (hsz2:=?_))))
  .rw [hf]
   simp only [bne_self_eq_false,c1v,if_false]
   refine c0X ?_
   have:=h _ o1 o2
   rw [<-hS]
   exact this
  .rw [Array.size_map,hp.size_eq,c49,c1G];lia
 have hkeys:Keys S ky (pairsOf vs):=λp hp=>by
  rw [c4u] at hp
  obtain ⟨x,o,t,us,m,e1,e2,e3,e4⟩:=hv1 p.1 (c32 hp).1
  exact ⟨x,o,t,us,m,e1,e2,e4⟩
 have hdist:Dist ky (pairsOf vs):=by
  unfold Dist
  rw [c4u,show (vs.zip vs).map (λp=>ky p.1)=((vs.zip vs).map (·.1)).map ky by rw [c1h];rfl,List.map_fst_zip (c0S _)]
  exact hd
 have hsz:vs.toArray.size=vs.length:=by simp
 by_cases h2:vs.toArray.size<2
 .rw [if_pos h2]
  refine c0K (c0X ?_)
  rw [if_pos h2,StateT.run_pure]
  refine c0K (c0X ?_)
  exact ends (c53 general' (pairsOf vs) #[] 7 none) (c2O _) rfl λi j hij hj=>by rw [c49] at hj;lia
 .rw [if_neg h2]
  refine c0K (kindT vs (λz=>by rw [z] at hsz;simp at h2;simp [z] at h2) hv1 ?_)
  rw [if_neg h2]
  refine c0K (c1z (runsT (a₀:=pairsOf vs) (st:=c53 (kTup true) (pairsOf vs) #[] 7 none) (Q:=λ_ st'=>(arrOf st').Perm (pairsOf vs)/\failedOf st'=none/\Inc ky (arrOf st') (pairsOf vs).size) hkeys hdist ⟨c2O _,rfl,rfl,rfl⟩ (by rw [c49];lia) (by rw [c49];exact h64) λst' a b c=>⟨a,b,c⟩) (λr s' hr=>?_) λ_ _ z=>z)
  obtain ⟨rfl,p1,p2,p3⟩:=hr
  exact ends r.2 p1 p2 p3
theorem sortedT(hl:s.heap.IsList l vs.toArray)(hv:∀v∈vs,TupAt s ky v)(hd:(vs.map ky).Nodup)(h64:vs.length<64)
  (h:∀out:Array Value,out.toList.Perm vs->(out.toList.Pairwise λx y=>ky x<ky y)->Q (.ref (s.heap.objs.size+1)) { s with heap:=sortedAll s.heap vs out }):wpAny (model prog w) A (call (.builtin "sorted") [.ref l]) Q E s:=by
 refine Calls.call_function_entry kind_sorted plain_sorted entry_sorted (args_sorted1 _) ?_
 unfold Builtin.«sorted»
 refine c0K (m:=checkCount "sorted" 1 1 _) (c0X (c0K (collect_list hl (c0K (c4J ?_)))))
 have z1:((s.heap.push (seqObj "list" #[] 0)).update s.heap.objs.size (c1t (·++vs.toArray))).objs.size=s.heap.objs.size+1:=(c4T ..).trans (c5N _ _)
 have z2:(((s.heap.push (seqObj "list" #[] 0)).update s.heap.objs.size (c1t (·++vs.toArray))).push (seqObj "list" vs.toArray 0)).get? (s.heap.objs.size+1)=some (seqObj "list" vs.toArray 0):=by
  rw [<-z1]
  exact c0Y _ rfl
 have up:∀b o,s.heap.get? b=some o->(((s.heap.push (seqObj "list" #[] 0)).update s.heap.objs.size (c1t (·++vs.toArray))).push (seqObj "list" vs.toArray 0)).get? b=some o:=λb o e =>
  c0M _ ((c1p _ _ (c3n (c0W e))).trans (c0M _ e))
 show wpAny _ _ _ _ _ { s with heap:=((s.heap.push (seqObj "list" #[] 0)).update s.heap.objs.size (c1t (·++vs.toArray))).push (seqObj "list" vs.toArray 0) }
 rw [z1]
 have hv2:∀v∈vs,TupAt { s with heap:=((s.heap.push (seqObj "list" #[] 0)).update s.heap.objs.size (c1t (·++vs.toArray))).push (seqObj "list" vs.toArray 0) } ky v:=λv hv'=>by
  obtain ⟨x,o,t,us,m,e1,e2,e3,e4⟩:=hv v hv'
  exact ⟨x,o,t,us,m,e1,up x o e2,e3,e4⟩
 refine c0K (c1V (c2x slot_list_sort ⟨_,z2,rfl⟩ entry_list_sort (sortT z2 hv2 hd h64 λout o1 o2=>⟨_,rfl,?_⟩) (args_list_sort _)))
 exact c0X ⟨_,rfl,h out o1 o2⟩
end
end TS
namespace DL
open PySem PySem.Spec PyProof.Rows L2
theorem a8k{α β:Type}{f:α->β}{l:List β}{ts:List α}(h:l.Perm (ts.map f)):∃us:List α,us.Perm ts/\us.map f=l:=by
 generalize e:ts.map f=m at h
 induction h generalizing ts with
 | nil=>exact ⟨[],by rw [List.map_eq_nil_iff.mp e],rfl⟩
 | cons x _ ih =>
  cases ts with
  | nil=>cases e
  | cons t ts =>
   cases e
   obtain ⟨us,h1,h2⟩:=ih rfl
   exact ⟨t::us,h1.cons t,by rw [c1l,h2]⟩
 | swap x y l =>
  match ts,e with
  | a::b::ts,e =>
   cases e
   exact ⟨b::a::ts,List.Perm.swap _ _ _,rfl⟩
 | trans _ _ ih1 ih2 =>
  obtain ⟨us,h1,h2⟩:=ih2 e
  obtain ⟨ws,h3,h4⟩:=ih1 h2
  exact ⟨ws,h3.trans h1,h4⟩
noncomputable def a6U(s:Shared):Value->Int
 | .ref x=>match s.heap.get? x with
  | some o=>match o.data with
   | .seq xs _=>match xs[0]? with
    | some (c15 a _)=>a
    | _=>0
   | _=>0
  | _=>0
 | _=>0
section
variable {X:Cx}
theorem a9W:CallR X (.builtin "sorted") (λxs H Q=>∃(p:Addr) (ts:List (Addr×Int×D)),xs=[.ref p]/\Sq X.K H true p (ts.map λt=>V.ref t.1)/\(∀t∈ts,∃zs,SqT X.K H t.1 (.int t.2.1::zs))/\(ts.map (·.2.1)).Nodup/\ts.length<b1B /\
  ∀(us:List (Addr×Int×D)) (a:Addr),us.Perm ts->(us.Pairwise λx y=>x.2.1<y.2.1)->H a=none->Q (.ref a) (upd H a (.lst (us.map λt=>V.ref t.1)))):=by
 intro pins s σ H xs vs Q I r h
 obtain ⟨p,ts,rfl,hq,hts,hnd,h64,q⟩:=h
 obtain ⟨u,rfl,ru⟩:=r.one
 cases ru
 obtain ⟨its,rv,pl⟩:=a4X (b:=true) I hq
 have hits:its=ts.map λt=>c1k t.1:=by
  clear pl hq hts hnd h64 q
  induction ts generalizing its with
  | nil=>cases rv;rfl
  | cons t ts ih =>
   cases rv with
   | cons a b =>
    cases a
    rw [c1l,ih _ b]
 subst hits
 have hky:∀t∈ts,TS.TupAt s (a6U s) (.ref t.1)/\a6U s (.ref t.1)=t.2.1:=λt ht=>by
  obtain ⟨zs,hz⟩:=hts t ht
  obtain ⟨ws,rw',pt,_⟩:=I.tuple hz
  obtain ⟨o,ho,hc,n,hd⟩:=(show s.heap.IsTuple t.1 ws.toArray from pt)
  cases rw' with
  | cons a b =>
   obtain ⟨tk,rfl⟩:=a
   have e:a6U s (.ref t.1)=t.2.1:=by
    unfold a6U
    dsimp only
    rw [ho]
    dsimp only
    rw [hd]
    rfl
   exact ⟨⟨t.1,o,tk,_,n,rfl,ho,hc,by rw [e];exact hd⟩,e⟩
 have hmap:(ts.map λt=>c1k t.1).map (a6U s)=ts.map (·.2.1):=by
  rw [c1h]
  exact c2V λt ht=>(hky t ht).2
 refine TS.sortedT (ky:=a6U s) pl (λv hv=>?_) (by rw [hmap];exact hnd) (by rw [c0P];exact h64) λout o1 o2=>?_
 .obtain ⟨t,ht,rfl⟩:=c1i.mp hv
  exact (hky t ht).1
 .obtain ⟨us,u1,u2⟩:=a8k o1
  have u3:us.Pairwise λx y=>x.2.1<y.2.1:=by
   rw [<-u2,c2e] at o2
   refine o2.imp_of_mem λ{x y} hx hy z=>?_
   rwa [(hky x (u1.subset hx)).2,(hky y (u1.subset hy)).2] at z
  obtain ⟨e,he⟩:=sortedAll_at s.heap (ts.map λt=>c1k t.1) out
  have fr:H (s.heap.objs.size+1)=none:=I.hok.fresh (c5t _)
  refine ⟨.ref (s.heap.objs.size+1),_,I.laid (o:=.lst (us.map λt=>V.ref t.1)) (t':=s.toks) (λb o e=>sortedAll_old e) (c5t _) ⟨?_,out.toList,e,?_,?_⟩,rfl,q us _ u1 u3 fr⟩
  .rw [c0P,u1.length_eq,c1G];unfold b1B at h64;lia
  .rw [<-u2]
   clear u1 u3 u2
   induction us with
   | nil=>exact .nil
   | cons t us ih=>exact .cons rfl ih
  .simpa using he
noncomputable def keyD:D->Option (Int×D)
 | .tup (.int k::ds)=>some (k,.tup (.int k::ds))
 | _=>none
noncomputable def b2x:List D->Option (List (Int×D))
 | []=>some []
 | d::ds=>(keyD d).bind λk=>(b2x ds).map λks=>k::ks
noncomputable def b06(ds:List D):Option (List D):=(b2x ds).bind λks=>if (ks.map (·.1)).Nodup/\ks.length<b1B then some ((ks.mergeSort λa b=>decide (a.1<=b.1)).map (·.2)) else none
noncomputable def a7G(f:En->Option Sl):En->Option Sl:=λenv=>(f env).bind λr=>match r.d with
 | .lst _ ds=>(b06 ds).map Sl.ow
 | _=>none
theorem a5A:∀{l m:List (Int×D)},l.Perm m->(l.map (·.1)).Nodup->(l.Pairwise λa b=>a.1<=b.1)->(m.Pairwise λa b=>a.1<=b.1)->l=m
 | [],m,h,_,_,_=>(List.nil_perm.mp h).symm
 | a::l,[],h,_,_,_=>by have:=h.length_eq;simp at this
 | a::l,b::m,h,hn,hl,hm=>by
  have hab:a=b:=by
   have h1:a∈b::m:=h.subset c0N
   have h2:b∈a::l:=h.symm.subset c0N
   have e:a.1=b.1:=by
    have k1:b.1<=a.1:=by
     rcases c0R.mp h1 with z | z
     .rw [z];exact c0T _
     .exact (c08.mp hm).1 a z
    have k2:a.1<=b.1:=by
     rcases c0R.mp h2 with z | z
     .rw [z];exact c0T _
     .exact (c08.mp hl).1 b z
    lia
   rcases c0R.mp h2 with z | z
   .exact z.symm
   .have:=(c2I.mp hn).1
    exact absurd (c1i.mpr ⟨b,z,e.symm⟩) this
  subst hab
  rw [a5A (h.cons_inv) (c2I.mp hn).2 (c08.mp hl).2 (c08.mp hm).2]
theorem b2X(hg:Gl X "sorted")(hm:X.mg "sorted" = none)(he:EV X e fa)(hs:starEach [e] X.env=[(false,eval e X.env)]:=by rfl):EV X (.Call (.Name "sorted" p) [e] [] pos) (a7G fa):=by
 obtain ⟨t,pt,k⟩:=he
 refine ⟨_,a22 a9W hg hm (by decide +kernel) (a2i pt a3I hs) (by decide) (by decide) hs rfl,λO B σ H env s Q R e q=>?_⟩
 obtain ⟨r,e1,e2⟩:=bind_some e
 refine k O B σ H env r _ R e1 λv H1 s1 r1=>?_
 have hi:=r1.is λq=>R.oo
 cases hd:r.d with
 | lst b ds =>
  rw [hd] at e2 hi
  obtain ⟨rs,e3,rfl⟩:=map_some (show (b06 ds).map Sl.ow=some s from e2)
  obtain ⟨ks,e4,e5⟩:=bind_some e3
  obtain ⟨⟨hnd,h64⟩,rfl⟩:=a0D e5
  obtain ⟨a,xs,rfl,h2,h3⟩:=hi.seq (k:=true) rfl
  have lay:∀{xs:List V} {ds:List D} {ks:List (Int×D)},Iss X.K (OO O σ env) H1 xs ds->b2x ds=some ks->∃ts:List (Addr×Int×D),xs=ts.map (λt=>V.ref t.1)/\ks=ts.map (λt=>t.2)/\∀t∈ts,Is X.K (OO O σ env) H1 (.ref t.1) t.2.2/\∃zs,SqT X.K H1 t.1 (.int t.2.1::zs):=λ{xs ds ks} hI=>by
   intro hk
   induction ds generalizing xs ks with
   | nil=>cases hI;cases hk;exact ⟨[],rfl,rfl,λ_ z=>nomatch z⟩
   | cons d ds ih =>
    cases hI with
    | cons i1 i2 =>
     rename_i x xs'
     obtain ⟨kd,f1,f2⟩:=bind_some hk
     obtain ⟨ks',f3,f4⟩:=map_some f2
     obtain ⟨ts,g1,g2,g3⟩:=ih i2 f3
     obtain ⟨kk,rest,rfl,rfl⟩:∃kk rest,d=.tup (.int kk::rest)/\kd=(kk,d):=by
      unfold keyD at f1
      split at f1
      .cases f1;exact ⟨_,_,rfl,rfl⟩
      .cases f1
     obtain ⟨ad,zs,rfl,hz,hzs⟩:=i1.seq (k:=false) rfl
     cases hzs with
     | cons z1 z2 =>
      obtain rfl:=a03 z1
      refine ⟨(ad,kk,.tup (.int kk::rest))::ts,by rw [g1];rfl,by rw [<-f4,g2];rfl,λt ht=>?_⟩
      rcases c0R.mp ht with rfl | ht
      .exact ⟨i1,_,hz⟩
      .exact g3 t ht
  obtain ⟨ts,rfl,rfl,g3⟩:=lay h3 e4
  rw [c1h] at hnd
  rw [c0P] at h64
  refine ⟨a,ts,rfl,h2,λt ht=>(g3 t ht).2,hnd,h64,λus c u1 u2 hc=>?_⟩
  have hsame:us.map (λt=>t.2)=(ts.map λt=>t.2).mergeSort λa b=>decide (a.1<=b.1):=by
   refine a5A ((u1.map _).trans (c5x _ _).symm) ?_ ?_ ?_
   .rw [c1h];exact (u1.map _).nodup_iff.mpr hnd
   .rw [c2e];exact u2.imp λ{x y} z=>c2C z
   .have:=c4K (le:=λa b:Int×D=>decide (a.1<=b.1)) (λa b c h1 h2=>by simp at *;lia) (λa b=>by simp;lia) (ts.map λt=>t.2)
    exact this.imp λ{x y} z=>by simpa using z
  rw [<-hsame,c1h] at q
  refine q _ _ (s1.trans (a08 hc _)) ((a4f hc ?_).from s1)
  have conv:∀ws:List (Addr×Int×D),(∀t∈ws,Is X.K (OO O σ env) H1 (.ref t.1) t.2.2)->Iss X.K (OO O σ env) H1 (ws.map λt=>V.ref t.1) (ws.map λt=>t.2.2):=λws=>by
   induction ws with
   | nil=>exact λ_=>.nil
   | cons w ws ih=>exact λhw=>.cons (hw w c0N) (ih λz hz=>hw z (c0O _ hz))
  exact conv us λt ht=>(g3 t (u1.subset ht)).1
 | _=>rw [hd] at e2;cases e2
noncomputable def b9Z(f:En->Option Sl):En->Option Sl:=λenv=>(asB (f env)).map λb=>.sh (.int (if b then 1 else 0))
end
end DL
namespace DL
open PySem PySem.Spec PyProof.Rows L2
section
variable {prog:Program}{w:World}{A:Around}{E:Value->Shared->Prop}{s:Shared}{a₀:Array Keyed}
end
section
variable {X:Cx}{pins:List (Addr×Obj)}{s:Shared}{σ:L2.St}{H:Hp}
theorem track(I:Inv X pins σ H s)(hf:FpOk X pins H a)(new:ObjOk X.prog X.w (upd H a o) s.heap a o):Inv X pins σ (upd H a o) s:=by
 have ne:∀b u,H b=some u->b≠a:=λb u e z=>by rw [z,hf.1] at e;cases e
 refine I.step (g':=s.gens) (t':=s.toks) (d':=s.drawn) (ch:=[a]) (h':=s.heap) (H':=upd H a o) (λb hb=>?_) (λb o _ _ _ e _=>e) (λb o _ _ _ e _=>⟨o.slots,e⟩) (λb o hc e n=>by rw [a0q (by simpa using hc)];exact n) (λb o _ e=>⟨o,e⟩)
  (λb xs e=>by rw [a0q (ne b _ e)];exact e) (λb o u e=>by rw [a0q (ne b _ e)];exact e) (λb ps e=>⟨#[],by rw [a0q (ne b _ e),e];simp⟩) (λm hm=>hm) (λb u e=>?_) I.bare
 .obtain rfl:b=a:=by simpa using hb
  exact ⟨hf.2.2.2.1,hf.2.1,hf.2.2.2.2.1,hf.2.2.2.2.2⟩
 .by_cases hb:b=a
  .subst hb
   rw [a0V] at e
   cases e
   exact new
  .rw [a0q hb] at e
   exact (I.hok b u e).stay (λ_ _ _ q=>q) (λc _ _ q=>by rw [a0q (ne c _ q)];exact q) λc xs q=>by rw [a0q (ne c _ q)];exact q
theorem b41(F:FnOk X.prog X.w X.K X.mg X.base CX0 k f fd ps (spD X.K ps.length φ))(h1:ps.length=1)(hr:Room k A')(hA:A'.frames=X.A.frames)(hb:Binds X.K fd ps [])
  (I:Inv X pins σ H s)(rx:RelV x v)(hO:Dom X.K O H)(hx:Is X.K O H x d)(e:φ [d]=some (.sh (.int n))):
  wpAny (model X.prog X.w) A' (call (.ref f) [v]) (λu s'=>∃t H',u=.int n t/\Inv X pins σ H' s'/\Same H H'/\∀b o,s.heap.get? b=some o->FpOk X pins H b->s'.heap.get? b=some o/\FpOk X pins H' b) E s:=by
 have e0:=I.env0
 have E0:Env0 X.prog X.w X.K X.mg X.base A' X.stack s H:=⟨hA.trans e0.frames,e0.mod,e0.bs,e0.bsz,e0.funs,e0.frf,e0.hok,e0.bare⟩
 refine c4z (c4i (F.run A' X.stack s H ⟨[v],[]⟩ [v] [x] (λu H'=>u=.int n/\Same H H') (λ_ _ _=>False) hr E0 (hb s [v] I.kIn (by simp [h1])) (.cons rx .nil) ⟨O,[d],.sh (.int n),hO,.cons hx .nil,by simp [h1],e,λv' H' sm r=>⟨a03 r,sm⟩⟩) λr s' hq=>?_)
 cases r with
 | error e=>exact c1b hq
 | ok fl =>
  cases fl with
  | ret u =>
   obtain ⟨v',H',os,bare,un,hok,rv,rfl,sm⟩:=hq
   obtain ⟨t,rfl⟩:=rv
   obtain ⟨hh,g,d',t',os'⟩:=s'
   obtain rfl:os'=s.os:=os
   refine ⟨t,H',rfl,I.call (h':=hh) (g':=g) (d':=d') (t':=t') (ch:=[]) un hok bare (λb z=>absurd z (by simp)),sm,λb o eb hf=>?_⟩
   have nst:b∉frs X.stack:=λz=>by
    rcases c0R.mp (I.stkSub b z) with z | z
    .exact hf.2.1 z
    .exact hf.2.2.1 z
   exact ⟨un.keep b o eb hf.1 nst (by simp),un.free b o eb hf.1 (by simp),hf.2⟩
  | next=>exact c1b hq
  | brk=>exact c1b hq
  | cont=>exact c1b hq
noncomputable def srtD(φ:List D->Option Sl)(d0 d1:D):Option Sl:=match φ [d0],φ [d1] with
 | some (.sh (.int k0)),some (.sh (.int k1))=>some (.ow (if k1<k0 then [d1,d0] else [d0,d1]))
 | _,_=>none
noncomputable def srtL(φ:List D->Option Sl):D->Option Sl
 | .lst _ [d0,d1]=>srtD φ d0 d1
 | _=>none
noncomputable def b9Y(φ:List D->Option Sl)(f:En->Option Sl):En->Option Sl:=λenv=>(f env).bind λr=>srtL φ r.d
end
end DL
namespace DL
open PySem PySem.Spec PyProof.Rows L2 PySem.SeqAt
section
variable {X:Cx}{pins:List (Addr×Obj)}{s:Shared}{σ:L2.St}{H:Hp}
theorem in_sq(e:Value->Bool)(hl:sSq b s.heap l items)(he:∀y,y∈items->EqAt A.in1 s y x (e y))
  (h:Q (.bool (items.any e)) s):wpAny (model prog w) A (compareOp .In x (.ref l)) Q E s:=by
 cases b with
 | true=>exact in_listAt e hl he h
 | false=>exact in_tupleAt e hl he h
noncomputable def inD(a:D)(ds:List D):Option Bool:=(allS (ds.map λd=>eqD 7 d a)).map λbs=>bs.any id
noncomputable def gIn:D->D->Option Sl:=λa d=>(seqD d).bind λx=>(inD a x.2).map λk=>.sh (.bl k)
theorem od_in(hu:X.A.units+8<cLine):OpD X (compareOp .In) gIn:=by
 refine ⟨λx y H Q=>∃O p k xs a ds bs,y=.ref p/\Sq X.K H k p xs/\Iss X.K O H xs ds/\Is X.K O H x a/\allS (ds.map λd=>eqD 7 d a)=some bs/\Q (.bl (bs.any id)) H,?_,λO H x y a b s Q hO hx hy e q=>?_⟩
 .intro pins s σ H x y v u Q I rx ry h
  obtain ⟨O,p,k,xs,a,ds,bs,rfl,hq,hs,ha,hb,q⟩:=h
  cases ry
  obtain ⟨its,rv,hl⟩:=a4X I hq
  obtain ⟨l1,g1⟩:=a30 hb
  have hlen:its.length=bs.length:=by rw [<-rv.length,hs.length,<-l1,c0P]
  have at_:∀(j:Nat) (y:Value) (b:Bool),its[j]?=some y->bs[j]?=some b->EqAt X.A.in1 s y v b:=λj y b h1 h2=>by
   have h3:=g1 j b h2
   rw [c1O] at h3
   cases hd:ds[j]? with
   | none=>rw [hd] at h3;cases h3
   | some d =>
    rw [hd] at h3
    have h4:eqD 7 d a=some b:=c0U h3
    obtain ⟨z,hz,iz⟩:=hs.get hd
    obtain ⟨y',hy',rz⟩:=rv.get hz
    rw [h1] at hy';cases hy'
    exact (b2Y I 7 (A:=X.A.in1) (by show X.A.units+1+7<cLine;omega) iz ha rz rx h4).1
  classical
  have e1:its.toArray.any (λy=>decide (∃j:Nat,its[j]?=some y/\bs[j]?=some true))=bs.any id:=by
   rw [Bool.eq_iff_iff]
   simp only [List.any_toArray,List.any_eq_true,decide_eq_true_eq,id]
   constructor
   .rintro ⟨y,hy,j,h1,h2⟩
    exact ⟨true,c3a h2,rfl⟩
   .rintro ⟨b,hb,rfl⟩
    obtain ⟨j,hj⟩:=c5a.mp hb
    have hjl:j<its.length:=by rw [hlen];exact (c0V.mp hj).1
    exact ⟨its[j],c1X hjl,j,c07 hjl,hj⟩
  refine in_sq (λy=>decide (∃j:Nat,its[j]?=some y/\bs[j]?=some true)) hl (λy hy=>?_) ?_
  .by_cases ht:∃j:Nat,its[j]?=some y/\bs[j]?=some true
   .rw [decide_eq_true ht]
    obtain ⟨j,h1,h2⟩:=ht
    exact at_ j y true h1 h2
   .rw [decide_eq_false ht]
    obtain ⟨j,hj⟩:=c5a.mp (List.mem_toArray.mp hy)
    have hjl:j<bs.length:=by rw [<-hlen];exact (c0V.mp hj).1
    refine at_ j y false hj ?_
    rw [c07 hjl]
    cases hb2:bs[j] with
    | false=>rfl
    | true=>exact absurd ⟨j,hj,by rw [c07 hjl,hb2]⟩ ht
  .rw [e1]
   exact ⟨.bl (bs.any id),H,I,rfl,q⟩
 .obtain ⟨⟨k,ds⟩,e1,e2⟩:=bind_some e
  obtain ⟨b1,e3,rfl⟩:=map_some e2
  obtain ⟨bs,e4,rfl⟩:=map_some e3
  obtain ⟨p,xs,rfl,hq,hs⟩:=hy.seq e1
  exact ⟨O,p,k,xs,a,ds,bs,rfl,hq,hs,hx,e4,q _ H (Same.refl _) (Is.bl _)⟩
end
end DL
namespace DL
open PySem PySem.Spec PyProof.Rows L2
section
variable {X:Cx}{N:List Str}{sc:Scope}{k:Nat}{full:Bool}{pos pos' p1 p2 p3 p4:Pos}{e c:Expr}{fa:En->Option Sl}{ga:En->Option Bool}
noncomputable def sAug(i:Nat)(f:En->Option Sl):SF:=λenv=>match env[i]? with
 | some (.sh (.int m))=>match f env with
  | some (.sh (.int n))=>some (.nx,env.set i (.sh (.int (m+n))))
  | _=>none
 | _=>none
theorem a8e(h:sAug i f env=some y):∃m n,env[i]?=some (.sh (.int m))/\f env=some (.sh (.int n))/\y=(.nx,env.set i (.sh (.int (m+n)))):=by
 unfold sAug at h
 split at h
 .rename_i m e1
  split at h
  .rename_i n e2
   cases h
   exact ⟨m,n,e1,e2,rfl⟩
  .cases h
 .cases h
theorem Fx.aug(h:Fx X N sc k full)(i:Nat)(he:EV X e fa)(hN:N[i]?=some x:=by rfl)(hv:Loc sc x:=by first | exact c1C rfl | exact c1q rfl)
  (hf:full=true\/sc.names.lookup x=some .local:=by first | exact c1C rfl | exact c1q rfl):SV X (.AugAssign (.Name x pos') .Add e pos) (sAug i fa):=by
 obtain ⟨t,p,kk⟩:=he
 refine ⟨_,b2i h.nod (h.ix hN) (h.loc hv) p b5V (h.sto hf),λO B σ H env fl env' D R e q=>?_⟩
 obtain ⟨m,n,hi,e1,e2⟩:=a8e e
 cases e2
 obtain ⟨v,e3,hv⟩:=R.sh i _ hi
 obtain rfl:=a03 hv
 refine ⟨_,e3,kk O B σ H env _ _ R e1 λv H1 s1 r1=>?_⟩
 obtain rfl:=a03 r1
 refine ⟨m,n,rfl,rfl,?_⟩
 obtain ⟨R',g'⟩:=R.set (v:=.int (m+n)) (r:=.sh (.int (m+n))) s1 (Is.int (m+n)) (c0V.mp hi).1
 exact q _ H1 R' g'
noncomputable def b8W(i j:Nat)(c:En->Option Bool)(f:En->Option Sl):SF:=λenv=>match env[i]? with
 | some (.ow ds)=>forL (gN j) (sIf c (sRet f) sNx) ds env
 | _=>none
end
end DL
namespace DL
open PySem L2
def Wo{α:Type}(o:Option α)(Q:α->Prop):Prop:=∃a,o=some a/\Q a
section
variable {α β:Type}
theorem a0g{a:α}{Q:α->Prop}:Wo (some a) Q↔Q a:=⟨λ⟨_,e,h⟩=>by cases e;exact h,λh=>⟨a,rfl,h⟩⟩
theorem a0u:Wo (none:Option α) Q↔False:=⟨λ⟨_,e,_⟩=>(nomatch e),c1b⟩
theorem a0l{o:Option α}{f:α->Option β}{Q:β->Prop}:Wo (o.bind f) Q↔Wo o λa=>Wo (f a) Q:=by
 cases o with
 | none=>simp [Wo]
 | some a=>simp [Wo]
theorem a2b{o:Option α}{f:α->β}{Q:β->Prop}:Wo (o.map f) Q↔Wo o λa=>Q (f a):=by
 cases o with
 | none=>simp [Wo]
 | some a=>simp [Wo]
theorem a0U{c:Prop}[Decidable c]{a:α}{Q:α->Prop}:Wo (if c then some a else none) Q↔c/\Q a:=by
 by_cases h:c
 .rw [if_pos h,a0g];exact ⟨λz=>⟨h,z⟩,λz=>z.2⟩
 .rw [if_neg h,a0u];exact ⟨c1b,λz=>h z.1⟩
theorem Wo.mono{o:Option α}{P Q:α->Prop}(h:Wo o P)(k:∀a,P a->Q a):Wo o Q:=let ⟨a,e,p⟩:=h;⟨a,e,k a p⟩
theorem Wo.eq{o:Option α}{a:α}(h:Wo o λx=>x=a):o=some a:=let ⟨_,e,p⟩:=h;by rw [e,p]
theorem a1r{o:Option α}{P Q:α->Prop}(k:∀a,P a↔Q a):Wo o P↔Wo o Q:=⟨λh=>h.mono λa=>(k a).mp,λh=>h.mono λa=>(k a).mpr⟩
end
noncomputable def seqQ(G:SF)(Q:Fl×En->Prop):Fl×En->Prop
 | (.nx,e)=>Wo (G e) Q
 | p=>Q p
theorem a2e:seqQ G Q (.nx,e)↔Wo (G e) Q:=c1R
theorem b16:seqQ G Q (.bk,e)↔Q (.bk,e):=c1R
theorem b15:seqQ G Q (.ct,e)↔Q (.ct,e):=c1R
theorem b14:seqQ G Q (.rt r,e)↔Q (.rt r,e):=c1R
theorem Wo_seq:Wo (sSeq F G env) Q↔Wo (F env) (seqQ G Q):=by
 unfold sSeq
 cases h:F env with
 | none=>simp [Wo]
 | some p =>
  obtain ⟨fl,e⟩:=p
  rw [a0g]
  cases fl with
  | nx=>exact c1R
  | bk=>rw [b16];exact a0g
  | ct=>rw [b15];exact a0g
  | rt r=>rw [b14];exact a0g
theorem a10:Wo (sIf c F G env) Q↔Wo (c env) λb=>(b=true->Wo (F env) Q)/\(b=false->Wo (G env) Q):=by
 unfold sIf
 cases h:c env with
 | none=>simp [Wo]
 | some b=>cases b<;>simp [a0g]
theorem c0m:Wo (sNx env) Q↔Q (.nx,env):=a0g
theorem Wo_bk:Wo (sBk env) Q↔Q (.bk,env):=a0g
theorem Wo_ct:Wo (sCt env) Q↔Q (.ct,env):=a0g
theorem c0i:Wo (sRet f env) Q↔Wo (f env) λr=>Q (.rt r,env):=a2b
theorem b7U:Wo (sRetN env) Q↔Q (.rt (.sh .non),env):=a0g
theorem c0h:Wo (sSet i f env) Q↔Wo (f env) λr=>i<env.length/\Q (.nx,env.set i r):=by
 unfold sSet;rw [a0l];simp only [a0U]
theorem b7Q:Wo (a0x i f env) Q↔Wo (f env) λr=>i<env.length/\Q (.nx,env.set i (.sh r.d)):=by
 unfold a0x;rw [a0l];simp only [a0U]
theorem b8p{f:En->Option Sl}{env:En}{Q:Fl×En->Prop}:Wo (sDrop f env) Q↔Wo (f env) λ_=>Q (.nx,env):=a2b
noncomputable def atSl:Option Sl->(Sl->Prop)->Prop
 | some (.sh d),Q=>Q (.sh d)
 | _,_=>False
theorem b7B:atSl (some (.sh d)) Q↔Q (.sh d):=c1R
theorem Wo_eV:Wo (eV i env) Q↔atSl env[i]? Q:=by
 unfold eV
 cases env[i]? with
 | none=>simp [slV,atSl,Wo]
 | some s=>cases s<;>simp [slV,atSl,Wo]
theorem Wo_eC:Wo (eC d env) Q↔Q (.sh d):=a0g
theorem c0D:Wo (eBin g fa fb env) Q↔Wo (fa env) λx=>Wo (fb env) λy=>Wo (g x.d y.d) Q:=by
 unfold eBin;rw [a0l];simp only [a0l]
theorem c0n:Wo (eNeg f env) Q↔Wo (f env) λx=>Wo (gNeg x.d) Q:=a0l
theorem b70:Wo (gNeg (.int i)) Q↔Q (.sh (.int (-i))):=a0g
theorem b76:Wo (gAdd (.int i) (.int j)) Q↔Q (.sh (.int (i+j))):=a0g
theorem b7Y:Wo (gSub (.int i) (.int j)) Q↔Q (.sh (.int (i-j))):=by rw [b9I,a0g]
theorem b72:Wo (gMul (.int i) (.int j)) Q↔MulC i j/\Q (.sh (.int (i*j))):=a0U
theorem b75:Wo (gDiv (.int i) (.int j)) Q↔DivC i j/\Q (.sh (.int (i/j))):=a0U
theorem c0s:Wo (gIn a d) Q↔Wo (seqD d) λx=>Wo (inD a x.2) λk=>Q (.sh (.bl k)):=by
 unfold gIn
 rw [a0l]
 simp only [a2b]
theorem b73:Wo (gMod (.int i) (.int j)) Q↔0<j/\Q (.sh (.int (i%j))):=a0U
theorem b7Z:Wo (gPow (.int i) (.int j)) Q↔PowC i j/\Q (.sh (.int (i^j.toNat))):=a0U
theorem c0q:Wo (gLt (.int i) (.int j)) Q↔Q (.sh (.bl (decide (i<j)))):=a0g
theorem c0r:Wo (gLe (.int i) (.int j)) Q↔Q (.sh (.bl (decide (i<=j)))):=a0g
theorem c0t:Wo (gGt (.int i) (.int j)) Q↔Q (.sh (.bl (decide (j<i)))):=a0g
theorem c0u:Wo (gGe (.int i) (.int j)) Q↔Q (.sh (.bl (decide (j<=i)))):=a0g
theorem c0v:Wo (gEqD (.int i) (.int j)) Q↔Q (.sh (.bl (decide (i=j)))):=a0g
theorem c0p:Wo (gNeD (.int i) (.int j)) Q↔Q (.sh (.bl (!decide (i=j)))):=a0g
theorem b74:Wo (gEqD (.bl i) (.bl j)) Q↔Q (.sh (.bl (decide (i=j)))):=a0g
theorem b71:Wo (gNeD (.bl i) (.bl j)) Q↔Q (.sh (.bl (!decide (i=j)))):=a0g
theorem b5m:Wo (gEqD (.int i) .non) Q↔Q (.sh (.bl false)):=a0g
theorem b5i:Wo (gNeD (.int i) .non) Q↔Q (.sh (.bl true)):=a0g
theorem b5l:Wo (gEqD .non (.int i)) Q↔Q (.sh (.bl false)):=a0g
theorem b5h:Wo (gNeD .non (.int i)) Q↔Q (.sh (.bl true)):=a0g
theorem b5k:Wo (gEqD .non .non) Q↔Q (.sh (.bl true)):=a0g
theorem b5g:Wo (gNeD .non .non) Q↔Q (.sh (.bl false)):=a0g
theorem c0o:Wo (gIsN a .non) Q↔Q (.sh (.bl a.isNon)):=a0g
theorem b7V:Wo (b4H a .non) Q↔Q (.sh (.bl (!a.isNon))):=a0g
theorem c0e:Wo (tOf f env) Q↔Wo (f env) λr=>Wo (asB (some r)) Q:=by
 unfold tOf
 cases f env with
 | none=>simp [asB,Wo]
 | some r=>rw [a0g]
theorem c0H:Wo (asB (some (.sh (.bl b)))) Q↔Q b:=a0g
theorem b7N:Wo (tTru f env) Q↔Wo (f env) λr=>Wo (truD r.d) Q:=a0l
theorem b7M:Wo (truD (.bl b)) Q↔Q b:=a0g
theorem b7L:Wo (truD (.int b)) Q↔Q (b != 0):=a0g
theorem b7I:Wo (truD (.tup ds)) Q↔Q (!ds.isEmpty):=a0g
theorem b7K:Wo (truD (.lst r ds)) Q↔Q (!ds.isEmpty):=a0g
theorem b7J:Wo (truD .non) Q↔Q false:=a0g
theorem b49:Wo (b1Q f env) Q↔Wo (f env) λr=>Q (!r.2.isEmpty):=by
 unfold b1Q;rw [a0l];simp only [a0g]
theorem b7P:Wo (a5H f g env) Q↔Wo (f env) λb=>(b=true->Wo (g env) Q)/\(b=false->Q false):=by
 unfold a5H
 cases f env with
 | none=>simp [Wo]
 | some b=>cases b<;>simp [a0g]
theorem c0d:Wo (tOrF f g env) Q↔Wo (f env) λb=>(b=true->Q true)/\(b=false->Wo (g env) Q):=by
 unfold tOrF
 cases f env with
 | none=>simp [Wo]
 | some b=>cases b<;>simp [a0g]
theorem b7O:Wo (a75 f env) Q↔Wo (f env) λb=>Q (!b):=a2b
theorem b8n:Wo (eAnd f g env) Q↔Wo (f env) λr=>Wo (asB (some r)) λb=>(b=true->Wo (g env) Q)/\(b=false->Q (.sh (.bl false))):=by
 unfold eAnd
 cases f env with
 | none=>simp [Wo,asB]
 | some r =>
  rw [a0g]
  cases asB (some r) with
  | none=>simp [Wo]
  | some b=>cases b<;>simp [a0g]
theorem c0z:Wo (eOr f g env) Q↔Wo (f env) λr=>Wo (asB (some r)) λb=>(b=true->Q (.sh (.bl true)))/\(b=false->Wo (g env) Q):=by
 unfold eOr
 cases f env with
 | none=>simp [Wo,asB]
 | some r =>
  rw [a0g]
  cases asB (some r) with
  | none=>simp [Wo]
  | some b=>cases b<;>simp [a0g]
theorem b8f:Wo (eNot f env) Q↔Wo (f env) λr=>Wo (asB (some r)) λb=>Q (.sh (.bl !b)):=by
 unfold eNot
 cases f env with
 | none=>simp [Wo,asB]
 | some r=>rw [a0g,a2b]
theorem c0B:Wo (eIf c f g env) Q↔Wo (c env) λb=>(b=true->Wo (f env) Q)/\(b=false->Wo (g env) Q):=by
 unfold eIf
 cases c env with
 | none=>simp [Wo]
 | some b=>cases b<;>simp [a0g]
theorem b8v:Wo (aNil env) Q↔Q []:=a0g
theorem b5A:Wo (a0b f g env) Q↔Wo (f env) λr=>Wo (g env) λds=>Q (r.d::ds):=by
 unfold a0b;rw [a0l];simp only [a0l,a0g]
theorem b8c:Wo (eTup f env) Q↔Wo (f env) λds=>ds.length<=16777216/\Q (.sh (.tup ds)):=by
 unfold eTup;rw [a0l];simp only [a0U]
theorem b8i:Wo (eLst f env) Q↔Wo (f env) λds=>ds.length<=16777216/\Q (.ow ds):=by
 unfold eLst;rw [a0l];simp only [a0U]
noncomputable def atSq:Option Sl->(Bool×List D->Prop)->Prop
 | some (.sh (.tup ds)),Q=>Q (false,ds)
 | some (.sh (.lst _ ds)),Q=>Q (true,ds)
 | some (.ow ds),Q=>Q (true,ds)
 | _,_=>False
theorem b99:atSq (some (.sh (.tup ds))) Q↔Q (false,ds):=c1R
theorem c0b:atSq (some (.sh (.lst r ds))) Q↔Q (true,ds):=c1R
theorem c0a:atSq (some (.ow ds)) Q↔Q (true,ds):=c1R
theorem Wo_bV:Wo (bV i env) Q↔atSq env[i]? Q:=by
 unfold bV
 cases env[i]? with
 | none=>simp [slB,atSq,Wo]
 | some s=>cases s with
  | no=>simp [slB,atSq,Wo]
  | dw ds=>simp [slB,atSq,Wo]
  | ow ds=>simp [slB,atSq,Wo]
  | sh d=>cases d<;>simp [slB,atSq,Wo,seqD]
theorem c0E:Wo (bOf f env) Q↔Wo (f env) λr=>Wo (seqD r.d) Q:=a0l
theorem c0f:Wo (seqD (.tup ds)) Q↔Q (false,ds):=a0g
theorem c0g:Wo (seqD (.lst r ds)) Q↔Q (true,ds):=a0g
theorem b8j:Wo (eLen f env) Q↔Wo (f env) λx=>Q (.sh (.int x.2.length)):=a2b
theorem b5t:Wo (eList f env) Q↔Wo (f env) λx=>Q (.ow x.2):=a2b
theorem b3r:Wo (a8Z f env) Q↔Wo (f env) λx=>x.1=true/\Q (.sh (.tup x.2)):=by
 unfold a8Z;rw [a0l];simp only [a0U]
def ixQ(xs:List D)(d:D)(Q:Sl->Prop):Prop:=match d with
 | .int i=>Wo (atI xs i) λd=>Q (.sh d)
 | _=>False
theorem ixQ_i:ixQ xs (.int i) Q↔Wo (atI xs i) λd=>Q (.sh d):=c1R
theorem c0A:Wo (eIx f g env) Q↔Wo (f env) λx=>Wo (g env) λy=>ixQ x.2 y.d Q:=by
 unfold eIx
 rw [a0l]
 refine a1r λx=>?_
 rw [a0l]
 refine a1r λy=>?_
 unfold ixQ
 cases y.d<;>simp [a2b,a0u]
theorem atI_nat{α:Type}{xs:List α}{n:Nat}:atI xs (n:Int)=xs[n]?:=by
 unfold atI ixN
 rw [if_pos (by lia)]
 by_cases h:n<xs.length
 .rw [if_pos (by lia)];simp
 .rw [if_neg (by lia),List.getElem?_eq_none (by lia)];rfl
theorem atI_0{α:Type}{x:α}{xs:List α}:atI (x::xs) 0=some x:=atI_nat (n:=0)
theorem atI_1{α:Type}{x y:α}{xs:List α}:atI (x::y::xs) 1=some y:=atI_nat (n:=1)
theorem atI_2{α:Type}{x y z:α}{xs:List α}:atI (x::y::z::xs) 2=some z:=atI_nat (n:=2)
theorem atI_3{α:Type}{x y z u:α}{xs:List α}:atI (x::y::z::u::xs) 3=some u:=atI_nat (n:=3)
theorem b5v:Wo (a0h n φ fs env) Q↔Wo (fs env) λds=>ds.length=n/\Wo (φ ds) Q:=by
 unfold a0h
 rw [a0l]
 have h:∀ds:List D,Wo (if ds.length=n then φ ds else none) Q↔ds.length=n/\Wo (φ ds) Q:=λds=>by
  by_cases h:ds.length=n<;>simp [h,a0u]
 simp only [h]
theorem b3w:Wo (a4F g fs env) Q↔Wo (fs env) λds=>Wo (g ds) Q:=a0l
theorem b5y:Wo (b1y [.int i,.int j]) Q↔Q (.sh (.int (min i j))):=by
 have:(if j<i then j else i)=min i j:=by simp only [Int.min_def];split<;>split<;>lia
 unfold b1y;rw [a0g,this]
theorem b5z:Wo (a9X [.int i,.int j]) Q↔Q (.sh (.int (max i j))):=by
 have:(if j>i then j else i)=max i j:=by simp only [Int.max_def];split<;>split<;>lia
 unfold a9X;rw [a0g,this]
theorem b8k:Wo (eIsi T f env) Q↔Wo (f env) λr=>Wo (isiO T r.d) Q:=a0l
theorem b4z:Wo (isiO T (.non)) Q↔Q (.sh (.bl (isiD T (.non)))):=a0g
theorem b64:Wo (isiO T (.bl b)) Q↔Q (.sh (.bl (isiD T (.bl b)))):=a0g
theorem b4B:Wo (isiO T (.int i)) Q↔Q (.sh (.bl (isiD T (.int i)))):=a0g
theorem b4y:Wo (isiO T (.str x)) Q↔Q (.sh (.bl (isiD T (.str x)))):=a0g
theorem b4x:Wo (isiO T (.tup ds)) Q↔Q (.sh (.bl (isiD T (.tup ds)))):=a0g
theorem b4A:Wo (isiO T (.lst r ds)) Q↔Q (.sh (.bl (isiD T (.lst r ds)))):=a0g
noncomputable def endQ(Q:Sl->Prop):Fl×En->Prop
 | (.rt r,_)=>Q r
 | (.nx,_)=>Q (.sh .non)
 | _=>False
theorem b7p:endQ Q (.rt r,e)↔Q r:=c1R
theorem b7q:endQ Q (.nx,e)↔Q (.sh .non):=c1R
theorem a0o:Wo (runF F N ds) Q↔Wo (F (a06 N ds)) (endQ Q):=by
 unfold runF
 cases F (a06 N ds) with
 | none=>simp [Wo]
 | some p =>
  obtain ⟨fl,e⟩:=p
  rw [a0g]
  cases fl<;>simp [a0g,a0u,endQ]
theorem c0w:Wo (sFor f g F env) Q↔Wo (f env) λr=>Wo (seqD r.d) λx=>Wo (forL g F x.2 env) Q:=by
 unfold sFor;rw [a0l];simp only [a0l]
theorem b77:Wo (b8V h f g F env) Q↔Wo (f env) λds=>Wo (h ds) λis=>Wo (forL g F is env) Q:=by
 unfold b8V;rw [a0l];simp only [a0l]
theorem b7S:Wo (rng1 [.int j]) Q↔R62 j/\Q (rngD 0 j.toNat):=a0U
theorem b7R:Wo (rng2 [.int i,.int j]) Q↔(R62 i/\R62 j)/\Q (rngD i (j-i).toNat):=a0U
noncomputable def a63(I:En->Prop)(Q:Fl×En->Prop):Fl×En->Prop
 | (.nx,e)=>I e
 | (.ct,e)=>I e
 | (.bk,e)=>Q (.nx,e)
 | (.rt r,e)=>Q (.rt r,e)
theorem b3J:a63 I Q (.nx,e)↔I e:=c1R
theorem b3K:a63 I Q (.ct,e)↔I e:=c1R
theorem b3L:a63 I Q (.bk,e)↔Q (.nx,e):=c1R
theorem b3I:a63 I Q (.rt r,e)↔Q (.rt r,e):=c1R
theorem a28{α:Type}(enc:α->D)(I:List α->En->Prop)(xs:List α)(turn:∀pre a post env,xs=pre++a::post->I pre env->Wo (g (enc a) env) λe=>Wo (F e) (a63 (I (pre++[a])) Q))
  (done:∀env,I xs env->Q (.nx,env)):∀{env:En},I [] env->Wo (forL g F (xs.map enc) env) Q:=by
 have key:∀(post pre:List α) (env:En),xs=pre++post->I pre env->Wo (forL g F (post.map enc) env) Q:=by
  intro post
  induction post with
  | nil =>
   intro pre env e h
   rw [c1J] at e
   subst e
   exact ⟨_,rfl,done env h⟩
  | cons a post ih =>
   intro pre env e h
   obtain ⟨e1,h1,p,h2,h3⟩:=turn pre a post env e h
   rw [c1l]
   unfold forL
   rw [h1]
   dsimp only
   rw [h2]
   obtain ⟨fl,e2⟩:=p
   cases fl with
   | nx=>exact ih (pre++[a]) e2 (by rw [e,c13];rfl) h3
   | ct=>exact ih (pre++[a]) e2 (by rw [e,c13];rfl) h3
   | bk=>exact ⟨_,rfl,h3⟩
   | rt r=>exact ⟨_,rfl,h3⟩
 exact λ{env} h=>key xs [] env rfl h
theorem Wo_gN:Wo (gN i d env) Q↔i<env.length/\Q (env.set i (.sh d)):=a0U
theorem Wo_gT:Wo (gT n u (.tup ds) env) Q↔ds.length=n/\Wo (u ds env) Q:=by
 unfold gT
 by_cases h:ds.length=n<;>simp [h,a0u]
theorem b5f:Wo (a6E [] env) Q↔Q env:=a0g
theorem b3q:Wo (a1U g u (d::ds) env) Q↔Wo (g d env) λe=>Wo (u ds e) Q:=a0l
theorem c0G:Wo (sAsg f g env) Q↔Wo (f env) λr=>Wo (g r.d env) λe=>Q (.nx,e):=by
 unfold sAsg;rw [a0l];simp only [a2b]
noncomputable def atOw:Option Sl->(List D->Prop)->Prop
 | some (.ow ds),Q=>Q ds
 | _,_=>False
theorem c0c:atOw (some (.ow ds)) Q↔Q ds:=c1R
theorem c0I:Wo (sApp i f env) Q↔atOw env[i]? λds=>Wo (f env) λr=>ds.length<16777216/\Q (.nx,env.set i (.ow (ds++[r.d]))):=by
 unfold sApp
 cases env[i]? with
 | none=>simp [a0u,atOw]
 | some s=>cases s with
  | no=>simp [a0u,atOw]
  | dw d=>simp [a0u,atOw]
  | sh d=>simp [a0u,atOw]
  | ow ds=>dsimp only [atOw];rw [a0l];simp only [a0U]
def extQ(env:En)(i:Nat)(ds:List D)(d:D)(Q:Fl×En->Prop):Prop:=match d with
 | .lst false es=>ds.length+es.length<=16777216/\Q (.nx,env.set i (.ow (ds++es)))
 | _=>False
theorem b9P:extQ env i ds (.lst false es) Q↔ds.length+es.length<=16777216/\Q (.nx,env.set i (.ow (ds++es))):=c1R
theorem c0x:Wo (sExt i f env) Q↔atOw env[i]? λds=>Wo (f env) λr=>extQ env i ds r.d Q:=by
 unfold sExt
 cases env[i]? with
 | none=>simp [a0u,atOw]
 | some s=>cases s with
  | no=>simp [a0u,atOw]
  | dw d=>simp [a0u,atOw]
  | sh d=>simp [a0u,atOw]
  | ow ds =>
   dsimp only [atOw];rw [a0l]
   refine a1r λr=>?_
   unfold extQ
   cases r.d with
   | lst ro es=>cases ro<;>simp [a0U,a0u]
   | _=>simp [a0u]
theorem c0j:Wo (sPop i j env) Q↔atOw env[j]? λds=>Wo ds[ds.length-1]? λd=>(i<env.length/\i≠j)/\Q (.nx,(env.set j (.ow ds.dropLast)).set i (.sh d)):=by
 unfold sPop
 cases env[j]? with
 | none=>simp [a0u,atOw]
 | some s=>cases s with
  | no=>simp [a0u,atOw]
  | dw d=>simp [a0u,atOw]
  | sh d=>simp [a0u,atOw]
  | ow ds=>dsimp only [atOw];rw [a0l];simp only [a0U]
def b62(env:En)(i:Nat)(ds:List D)(d:D)(k:D)(Q:Fl×En->Prop):Prop:=match k with
 | .int n=>Wo (ixN ds.length n) λj=>Q (.nx,env.set i (.ow (ds.set j d)))
 | _=>False
theorem b61:b62 env i ds d (.int n) Q↔Wo (ixN ds.length n) λj=>Q (.nx,env.set i (.ow (ds.set j d))):=c1R
theorem b7W:Wo (b19 i f g env) Q↔atOw env[i]? λds=>Wo (f env) λr=>Wo (g env) λk=>b62 env i ds r.d k.d Q:=by
 unfold b19
 cases env[i]? with
 | none=>simp [a0u,atOw]
 | some s=>cases s with
  | no=>simp [a0u,atOw]
  | dw d=>simp [a0u,atOw]
  | sh d=>simp [a0u,atOw]
  | ow ds =>
   dsimp only [atOw];rw [a0l]
   refine a1r λr=>?_
   rw [a0l]
   refine a1r λk=>?_
   unfold b62
   cases k.d<;>simp [a0l,a0g,a0u]
theorem b6a:Wo (sFrz i F env) Q↔Wo (F (frzE i env)) Q:=c1R
theorem b9M(h:env[i]?=some (.ow ds)):frzE i env=env.set i (.sh (.lst false ds)):=by unfold frzE;rw [h]
noncomputable def b3o(env:En):Option Sl->(Fl×En->Prop)->Prop
 | some (.ow ds),Q=>Q (.rt (.ow ds),env)
 | some (.dw ds),Q=>Q (.rt (.dw ds),env)
 | some (.sh d),Q=>Q (.rt (.sh d),env)
 | _,_=>False
theorem b7D:b3o env (some (.ow ds)) Q↔Q (.rt (.ow ds),env):=c1R
theorem b7C:b3o env (some (.sh d)) Q↔Q (.rt (.sh d),env):=c1R
theorem b7T:Wo (a6r i env) Q↔b3o env env[i]? Q:=by
 unfold a6r
 cases env[i]? with
 | none=>simp [a0u,b3o]
 | some s=>cases s<;>simp [a0u,a0g,b3o]
theorem c0l:Wo (pNo env) Q↔Q none:=a0g
def pQ(d:D)(Q:Option Int->Prop):Prop:=match d with
 | .int i=>Q (some i)
 | _=>False
theorem pQ_i:pQ (.int i) Q↔Q (some i):=c1R
theorem c0k:Wo (pSo f env) Q↔Wo (f env) λr=>pQ r.d Q:=by
 unfold pSo
 rw [a0l]
 refine a1r λr=>?_
 unfold pQ
 cases r.d<;>simp [a0g,a0u]
theorem c0y:Wo (eSl f lo hi env) Q↔Wo (f env) λx=>Wo (lo env) λl=>Wo (hi env) λh =>
  (x.1=true->Q (.ow (cutD x.2 l h)))/\(x.1=false->¬(HT.sIx x.2.length 0 l=0/\HT.sIx x.2.length x.2.length h=x.2.length)/\Q (.sh (.tup (cutD x.2 l h)))):=by
 unfold eSl
 rw [a0l]
 simp only [a0l]
 have h:∀(x:Bool×List D) (l h:Option Int),Wo (if x.1=true then some (Sl.ow (cutD x.2 l h)) else if ¬(HT.sIx x.2.length 0 l=0/\HT.sIx x.2.length x.2.length h=x.2.length) then some (.sh (.tup (cutD x.2 l h))) else none) Q ↔
   (x.1=true->Q (.ow (cutD x.2 l h)))/\(x.1=false->¬(HT.sIx x.2.length 0 l=0/\HT.sIx x.2.length x.2.length h=x.2.length)/\Q (.sh (.tup (cutD x.2 l h)))):=λx l h=>by
  obtain ⟨k,ds⟩:=x
  cases k
  .simp only [c1v,if_false,a0U];simp
  .simp [a0g]
 simp only [h]
theorem Sl_sh:Sl.d (.sh d)=d:=rfl
theorem Sl_ow:Sl.d (.ow ds)=.lst false ds:=rfl
theorem b5p:Wo (gAdd (.lst false a) (.lst false b)) Q↔a.length+b.length<=16777216/\Q (.ow (a++b)):=a0U
theorem b5n:Wo (gAdd (.tup a) (.tup b)) Q↔a.length+b.length<=16777216/\Q (.sh (.tup (a++b))):=a0U
theorem b5o:Wo (gAdd (.str a) (.str b)) Q↔a.length+b.length<=16777216/\Q (.sh (.str (a++b))):=a0U
theorem a9K :isiD "int" .non=false:=rfl
theorem b1s:isiD "int" (.bl b)=true:=rfl
theorem a9M:isiD "int" (.int i)=true:=rfl
theorem a9J:isiD "int" (.str x)=false:=rfl
theorem a9I:isiD "int" (.tup ds)=false:=rfl
theorem a9L:isiD "int" (.lst r ds)=false:=rfl
theorem a8P :isiD "bool" .non=false:=rfl
theorem a9N:isiD "bool" (.bl b)=true:=rfl
theorem a8R:isiD "bool" (.int i)=false:=rfl
theorem a8O:isiD "bool" (.str x)=false:=rfl
theorem a8N:isiD "bool" (.tup ds)=false:=rfl
theorem a8Q:isiD "bool" (.lst r ds)=false:=rfl
theorem a9E :isiD "str" .non=false:=rfl
theorem b1r:isiD "str" (.bl b)=false:=rfl
theorem a9G:isiD "str" (.int i)=false:=rfl
theorem a9D:isiD "str" (.str x)=true:=rfl
theorem a9C:isiD "str" (.tup ds)=false:=rfl
theorem a9F:isiD "str" (.lst r ds)=false:=rfl
theorem a8K :isiD "list" .non=false:=rfl
theorem a9H:isiD "list" (.bl b)=false:=rfl
theorem a8M:isiD "list" (.int i)=false:=rfl
theorem a8J:isiD "list" (.str x)=false:=rfl
theorem a8I:isiD "list" (.tup ds)=false:=rfl
theorem a8L:isiD "list" (.lst r ds)=true:=rfl
theorem a7x :isiD "tuple" .non=false:=rfl
theorem a8H:isiD "tuple" (.bl b)=false:=rfl
theorem a7z:isiD "tuple" (.int i)=false:=rfl
theorem a7w:isiD "tuple" (.str x)=false:=rfl
theorem a7v:isiD "tuple" (.tup ds)=true:=rfl
theorem a7y:isiD "tuple" (.lst r ds)=false:=rfl
theorem b0Y{α β:Type}{f:α->β}{xs:List α}{i:Int}(z:α)(h0:0<=i)(h:i<xs.length):atI (xs.map f) i=some (f (xs.getD i.toNat z)):=by
 unfold atI ixN
 rw [c0P,if_pos h0,if_pos h]
 have:i.toNat<xs.length:=by omega
 simp [this]
theorem a91:Wo (forL g F [] env) Q↔Q (.nx,env):=a0g
theorem a9c:Wo (forL g F (d::ds) env) Q↔Wo (g d env) λe=>Wo (F e) (a63 (λe=>Wo (forL g F ds e) Q) Q):=by
 rw [forL]
 cases g d env with
 | none=>simp [a0u]
 | some e =>
  rw [a0g]
  dsimp only
  cases F e with
  | none=>simp [a0u]
  | some p =>
   obtain ⟨fl,e2⟩:=p
   rw [a0g]
   cases fl<;>simp [a63,a0g]
theorem b2H:D.isNon .non=true:=rfl
theorem b4C:D.isNon (.bl b)=false:=rfl
theorem b2J:D.isNon (.int i)=false:=rfl
theorem b2G:D.isNon (.str x)=false:=rfl
theorem b2F:D.isNon (.tup ds)=false:=rfl
theorem b2I:D.isNon (.lst r ds)=false:=rfl
theorem b8q:Wo (a1E fi caps nt g fc fe env) Q↔Wo (fi env) λds=>Wo (capE caps env) λcs=>ds.length<=16777216/\Wo (a2K g fc fe ds (c06 nt Sl.no++cs)) λrs=>Q (.ow rs):=by
 unfold a1E
 rw [a0l]
 refine a1r λds=>?_
 rw [a0l]
 refine a1r λcs=>?_
 by_cases h:ds.length<=16777216
 .rw [if_pos h,a2b];exact ⟨λz=>⟨h,z⟩,λz=>z.2⟩
 .rw [if_neg h,a0u];exact ⟨c1b,λz=>h z.1⟩
theorem b8s:Wo (capE [] env) Q↔Q []:=a0g
theorem b8r:Wo (capE (i::is) env) Q↔atSl env[i]? λs=>Wo (capE is env) λcs=>Q (s::cs):=by
 rw [capE]
 cases h:env[i]? with
 | none=>simp [a0u,atSl]
 | some s=>cases s<;>simp [a0u,atSl,a2b]
theorem rep0{l:En}:c06 0 Sl.no++l=l:=rfl
theorem rep1{l:En}:c06 1 Sl.no++l=Sl.no::l:=rfl
theorem rep2{l:En}:c06 2 Sl.no++l=Sl.no::Sl.no::l:=rfl
theorem rep3{l:En}:c06 3 Sl.no++l=Sl.no::Sl.no::Sl.no::l:=rfl
theorem rep4{l:En}:c06 4 Sl.no++l=Sl.no::Sl.no::Sl.no::Sl.no::l:=rfl
theorem b48:Wo (a2d env) Q↔Q true:=a0g
theorem b5w:Wo (a2K g fc fe [] e) Q↔Q []:=a0g
theorem b5x:Wo (a2K g fc fe (d::ds) e) Q↔Wo (g d e) λe1=>Wo (fc e1) λb =>
  (b=true->Wo (fe e1) λr=>Wo (a2K g fc fe ds e1) λrs=>Q (r.d::rs))/\(b=false->Wo (a2K g fc fe ds e1) Q):=by
 rw [a2K,a0l]
 refine a1r λe1=>?_
 rw [a0l]
 refine a1r λb=>?_
 cases b
 .rw [if_neg c1j];simp
 .rw [if_pos rfl,a0l];simp only [a0l,a0g];simp
theorem b8a:Wo (fSeq f env) Q↔Wo (f env) λr=>Wo (seqD r.d) λx=>Q x.2:=by
 unfold fSeq;rw [a0l];simp only [a2b]
theorem b8b:Wo (fRng h f env) Q↔Wo (f env) λds=>Wo (h ds) Q:=a0l
theorem b79:Wo (sForI f g F env) Q↔Wo (f env) λds=>Wo (forL g F ds env) Q:=a0l
theorem a1q{α:Type}(enc:α->D)(f:α->D)(P:En->Prop)(xs:List α)
  (h:∀a∈xs,∀e,P e->Wo (g (enc a) e) λe1=>P e1/\Wo (fc e1) λb=>b=true/\Wo (fe e1) λr=>r.d=f a):∀{e:En},P e->a2K g fc fe (xs.map enc) e=some (xs.map f):=by
 induction xs with
 | nil=>intro e _;rfl
 | cons a xs ih =>
  intro e he
  obtain ⟨e1,g1,p1,b,c1,rfl,r,f1,f2⟩:=h a c0N e he
  rw [c1l,a2K,g1,c1w,c1,c1w,if_pos rfl,f1,c1w,ih (λb hb=>h b (c0O _ hb)) p1,f2]
  rfl
theorem a6i{α:Type}(enc:α->D)(p:α->Bool)(f:α->D)(P:En->Prop)(xs:List α)
  (h:∀a∈xs,∀e,P e->Wo (g (enc a) e) λe1=>P e1/\Wo (fc e1) λb=>b=p a/\(p a=true->Wo (fe e1) λr=>r.d=f a)):∀{e:En},P e->a2K g fc fe (xs.map enc) e=some ((xs.filter p).map f):=by
 induction xs with
 | nil=>intro e _;rfl
 | cons a xs ih =>
  intro e he
  obtain ⟨e1,g1,p1,b,c1,rfl,k⟩:=h a c0N e he
  have ih':=ih (λb hb=>h b (c0O _ hb)) p1
  rw [c1l,a2K,g1,c1w,c1,c1w]
  cases hp:p a with
  | true =>
   obtain ⟨r,f1,f2⟩:=k hp
   rw [if_pos rfl,f1,c1w,ih',f2,List.filter_cons_of_pos hp]
   rfl
  | false=>rw [if_neg c1j,ih',List.filter_cons_of_neg (by simp [hp])]
theorem b8d:Wo (eSum f env) Q↔Wo (f env) λx=>Wo (a3z x.2) λns=>Q (.sh (.int ns.sum)):=by
 unfold eSum;rw [a0l];simp only [a2b]
theorem b8o:Wo (eAll f env) Q↔Wo (f env) λx=>Wo (blsD x.2) λns=>Q (.sh (.bl (ns.all id))):=by
 unfold eAll;rw [a0l];simp only [a2b]
theorem b8m:Wo (eAny f env) Q↔Wo (f env) λx=>Wo (blsD x.2) λns=>Q (.sh (.bl (ns.any id))):=by
 unfold eAny;rw [a0l];simp only [a2b]
theorem b8g:Wo (eMin f env) Q↔Wo (f env) λx=>Wo (a3z x.2) λns=>ns≠[]/\Q (.sh (.int (minL ns))):=by
 unfold eMin;rw [a0l];simp only [a0l,a0U]
theorem b8h:Wo (eMax f env) Q↔Wo (f env) λx=>Wo (a3z x.2) λns=>ns≠[]/\Q (.sh (.int (maxL ns))):=by
 unfold eMax;rw [a0l];simp only [a0l,a0U]
theorem b7X:Wo (a3z (ns.map D.int)) Q↔Q ns:=by rw [a2G,a0g]
theorem c0C:Wo (blsD (ns.map D.bl)) Q↔Q ns:=by rw [b0X,a0g]
theorem b5d:Wo (a3z []) Q↔Q []:=a0g
theorem b5e:Wo (a3z (.int i::ds)) Q↔Wo (a3z ds) λns=>Q (i::ns):=by
 show Wo ((a3z ds).map (i::·)) Q↔_
 rw [a2b]
theorem b8t:Wo (blsD []) Q↔Q []:=a0g
theorem b8u:Wo (blsD (.bl i::ds)) Q↔Wo (blsD ds) λns=>Q (i::ns):=by
 show Wo ((blsD ds).map (i::·)) Q↔_
 rw [a2b]
theorem b0Z{α:Type}[DecidableEq α]{n:Nat}{enc:α->D}(h:∀x y,eqD n (enc x) (enc y)=some (decide (x=y))):∀(xs ys:List α),∃bs,allS (c2g (eqD n) (xs.map enc) (ys.map enc))=some bs/\(bs.all id&&decide (xs.length=ys.length))=decide (xs=ys)
 | [],[]=>⟨[],rfl,rfl⟩
 | [],y::ys=>⟨[],rfl,by simp⟩
 | x::xs,[]=>⟨[],rfl,by simp⟩
 | x::xs,y::ys=>by
  obtain ⟨bs,e,k⟩:=b0Z h xs ys
  refine ⟨decide (x=y)::bs,?_,?_⟩
  .simp only [c1l,c4X,h,allS,e,c3w]
  .rw [List.all_cons,Bool.and_assoc]
   have:decide ((x::xs).length=(y::ys).length)=decide (xs.length=ys.length):=by simp
   rw [this,k]
   simp only [id,List.cons.injEq,Bool.decide_and]
theorem b7m{α:Type}[DecidableEq α]{n:Nat}{enc:α->D}(h:∀x y,eqD n (enc x) (enc y)=some (decide (x=y)))(xs ys:List α):eqD (n+1) (.tup (xs.map enc)) (.tup (ys.map enc))=some (decide (xs=ys)):=by
 obtain ⟨bs,e,k⟩:=b0Z h xs ys
 simp only [eqD,e,c3w,c0P,k]
theorem atI_last{α:Type}{xs:List α}{x:α}:atI (xs++[x]) (-1)=some x:=by
 unfold atI ixN
 rw [if_neg (by lia),if_pos (by rw [c1f,c3L];lia),c1f,c3L]
 have:(-1+((xs.length+1:Nat):Int)).toNat=xs.length:=by lia
 rw [this]
 simp
theorem a3A(I:Nat->En->Prop)(turn:∀n env,I n env->Wo (c env) λb=>(b=true->Wo (F env) (a63 (λe=>∃m,m<n/\I m e) Q))/\(b=false->Q (.nx,env))):
  ∀(fuel n:Nat) {env:En},n<fuel->I n env->Wo (whl c F fuel env) Q
 | 0,n,env,h,_=>absurd h (c39 _)
 | fuel+1,n,env,h,hI=>by
  obtain ⟨b,e1,h1,h2⟩:=turn n env hI
  rw [whl,e1]
  cases b with
  | false=>exact ⟨_,rfl,h2 rfl⟩
  | true =>
   obtain ⟨⟨fl,e2⟩,e3,h3⟩:=h1 rfl
   dsimp only
   rw [e3]
   cases fl with
   | nx=>obtain ⟨m,hm,hI'⟩:=h3;exact a3A I turn fuel m (by lia) hI'
   | ct=>obtain ⟨m,hm,hI'⟩:=h3;exact a3A I turn fuel m (by lia) hI'
   | bk=>exact ⟨_,rfl,h3⟩
   | rt r=>exact ⟨_,rfl,h3⟩
theorem a7N:Wo (a8d m c F env) Q↔Wo (whl c F (m env) env) Q:=c1R
noncomputable def cutL{α:Type}(xs:List α)(lo hi:Option Int):List α:=(xs.drop (HT.sIx xs.length 0 lo)).take (HT.sIx xs.length xs.length hi-HT.sIx xs.length 0 lo)
theorem a7H{α:Type}{f:α->D}(xs:List α)(lo hi:Option Int):cutD (xs.map f) lo hi=(cutL xs lo hi).map f:=by
 unfold cutD cutL
 rw [c0P,<-List.map_drop,<-List.map_take]
theorem b4Z{α:Type}(xs:List α)(lo hi:Option Int):(cutL xs lo hi).length<=xs.length:=by
 unfold cutL
 rw [c2k,c2W]
 lia
theorem b5c:Wo (b09 [.int j]) Q↔Q (rngD 0 j.toNat):=a0g
theorem b5b:Wo (rngA2 [.int i,.int j]) Q↔Q (rngD i (j-i).toNat):=a0g
def slQ(d:D)(l h:Option Int)(Q:Sl->Prop):Prop:=match d with
 | .tup ds=>Q (.sh (.tup (cutD ds l h)))
 | _=>False
theorem slQ_t:slQ (.tup ds) l h Q↔Q (.sh (.tup (cutD ds l h))):=c1R
theorem b8e:Wo (eSlT f lo hi env) Q↔Wo (f env) λx=>Wo (lo env) λl=>Wo (hi env) λh=>slQ x.d l h Q:=by
 unfold eSlT
 simp only [a0l]
 refine a1r λx=>a1r λl=>a1r λh=>?_
 unfold slQ
 cases x.d<;>simp [a0g,a0u]
theorem b44:Wo (zipA [.tup a,.tup b]) Q↔Q (zipD a b):=a0g
theorem b45:Wo (zipA [.tup a,.lst r b]) Q↔Q (zipD a b):=a0g
theorem b46:Wo (zipA [.lst r a,.tup b]) Q↔Q (zipD a b):=a0g
theorem b47:Wo (zipA [.lst r a,.lst r' b]) Q↔Q (zipD a b):=a0g
def lrQ(ds:List D)(Q:Sl->Prop):Prop:=match ds with
 | [.int i,.int j]=>(j-i).toNat<=16777216/\Q (.ow (rngD i (j-i).toNat))
 | _=>False
theorem lrQ_i:lrQ [.int i,.int j] Q↔(j-i).toNat<=16777216/\Q (.ow (rngD i (j-i).toNat)):=c1R
theorem b3v:Wo (b55 fs env) Q↔Wo (fs env) λds=>lrQ ds Q:=by
 unfold b55
 rw [a0l]
 refine a1r λds=>?_
 unfold lrQ
 split
 .exact a0U
 .exact a0u
def augQ(i:Nat)(env:En)(a b:Sl)(Q:Fl×En->Prop):Prop:=match a,b with
 | .sh (.int m),.sh (.int n)=>Q (.nx,env.set i (.sh (.int (m+n))))
 | _,_=>False
theorem b98:augQ i env (.sh (.int m)) (.sh (.int n)) Q↔Q (.nx,env.set i (.sh (.int (m+n)))):=c1R
theorem c0F:Wo (sAug i f env) Q↔atSl env[i]? λa=>Wo (f env) λr=>augQ i env a r Q:=by
 constructor
 .rintro ⟨y,e,h⟩
  obtain ⟨m,n,e1,e2,rfl⟩:=a8e e
  rw [e1];exact ⟨_,e2,h⟩
 .intro h
  cases hi:env[i]? with
  | none=>rw [hi] at h;exact h.elim
  | some s =>
   rw [hi] at h
   cases s with
   | no=>exact h.elim
   | ow ds=>exact h.elim
   | dw ds=>exact h.elim
   | sh d =>
    obtain ⟨r,e1,h⟩:=h
    cases d with
    | int m =>
     cases r with
     | sh d2 =>
      cases d2 with
      | int n=>exact ⟨_,by unfold sAug;rw [hi,e1],h⟩
      | _=>exact h.elim
     | _=>exact h.elim
    | _=>exact h.elim
theorem b78:Wo (b8W i j c f env) Q↔atOw env[i]? λds=>Wo (forL (gN j) (sIf c (sRet f) sNx) ds env) Q:=by
 unfold b8W
 cases h:env[i]? with
 | none=>simp [a0u,atOw]
 | some s=>cases s<;>simp [a0u,atOw]
theorem b5q:Wo (b1w [.tup ds]) Q↔Q (a9R ds):=a0g
theorem b5r:Wo (b1w [.lst r ds]) Q↔Q (a9R ds):=a0g
theorem b3u:Wo (b9Y φ f env) Q↔Wo (f env) λr=>Wo (srtL φ r.d) Q:=a0l
def srQ(d:D)(Q:Sl->Prop):Prop:=match d with
 | .lst _ ds=>Wo (b06 ds) λrs=>Q (.ow rs)
 | _=>False
theorem srQ_l:srQ (.lst r ds) Q↔Wo (b06 ds) λrs=>Q (.ow rs):=c1R
theorem b1A:Wo (a7G f env) Q↔Wo (f env) λr=>srQ r.d Q:=by
 unfold a7G
 rw [a0l]
 refine a1r λr=>?_
 cases r.d<;>simp [srQ,a0u,a2b]
theorem b5u:Wo (b9Z f env) Q↔Wo (f env) λr=>Wo (asB (some r)) λb=>Q (.sh (.int (if b=true then 1 else 0))):=by
 unfold b9Z
 cases f env with
 | none=>simp [Wo,asB]
 | some r=>rw [a0g,a2b]
end DL
namespace DL
theorem a41(h:-(10^250)<=i)(h2:i<=10^250)(h3:-(10^250)<=j)(h4:j<=10^250):MulC i j:=.inr (.inr ⟨⟨h,h2⟩,h3,h4⟩)
theorem b7z(h:0<j)(h2:j<=10^250):DivC i j:=⟨h,h2⟩
theorem b0J{a b:Int}(hb:0<b):a/b*b<=a/\a<(a/b+1)*b:=by
 have h1:=Int.emod_add_mul_ediv a b
 have h2:=c5b a (c4k hb)
 have h3:=c4n a hb
 generalize a/b=q at *
 exact ⟨by grind,by grind⟩
end DL
namespace DL
open PySem PySem.Spec PyProof.Rows L2
def Tr(h:Heap)(e T:Addr)(c:Value):Prop:=∃oe vs a0 oT ts,h.get? e=some oe/\(oe.cls=c/\vs[0]?=some a0)/\oe.data=.fields vs/\vs[1]?=some (.ref T)/\T≠e/\h.get? T=some oT/\oT.data=.fields ts/\ts[3]?=some .none
structure Lies(h0:Heap)(H:Hp)(h:Heap)(e:Addr)(c:Value):Prop where
 new:h0.get? e=none
 un:H e=none
 tr:∃T,h0.get? T=none/\H T=none/\Tr h e T c
theorem b4k(x:ObjOk P w H h a o):∃u,h.get? a=some u:=by
 induction o with
 | lst xs=>obtain ⟨_,_,_,_,e⟩:=x;exact ⟨_,e⟩
 | tup xs=>obtain ⟨_,_,_,ob,e,_⟩:=x;exact ⟨_,e⟩
 | dK kvs=>obtain ⟨_,_,_,_,o,_,_,e,_⟩:=x;exact ⟨_,e⟩
 | dT kvs=>obtain ⟨_,_,_,_,o,_,_,e,_⟩:=x;exact ⟨_,e⟩
 | set S n=>obtain ⟨o,_,_,_,e,_⟩:=x;exact ⟨_,e⟩
 | tab q=>obtain ⟨_,e,_⟩:=x;exact ⟨_,e⟩
 | ins C dx fs=>obtain ⟨_,_,_,e,_⟩:=x;exact ⟨_,e⟩
 | own y=>obtain ⟨ob,e⟩:=x;exact ⟨_,e⟩
 | xd fs=>obtain ⟨_,⟨_,_,_,e,_⟩,_⟩:=x;exact ⟨_,e⟩
 | rng lo hi=>obtain ⟨_,_,_,e⟩:=x;exact ⟨_,e⟩
 | frz ob u ih=>obtain ⟨e,_⟩:=x;exact ⟨_,e⟩
 | tbl ps=>exact ⟨_,x⟩
 | met f y=>exact ⟨_,x⟩
 | ext φ=>obtain ⟨_,⟨o,e⟩,_⟩:=x;exact ⟨_,e⟩
theorem b5W(x:HOk P w H h)(e:H a=some o):∃u,h.get? a=some u:=b4k (x a o e)
theorem b4D(x:HOk P w H h)(e:h.get? a=none):H a=none:=by
 cases q:H a with
 | none=>rfl
 | some o=>obtain ⟨u,z⟩:=b5W x q;rw [e] at z;cases z
theorem a4j{h b0 b1:Heap}:∀{l:List Env},h.FunFrames b0 l->(∀L∈frs l,b1.get? L=none)->h.FunFrames b1 l
 | [],_,_=>trivial
 | env::r,⟨k,⟨L,o,hf,_,ho,hd⟩,t⟩,hb =>
  ⟨k,⟨L,o,hf,hb L (by unfold frs;rw [c2S,hf];exact c0N),ho,hd⟩,
   a4j t λL' m=>hb L' (by unfold frs at m ⊢;rw [c2S,hf];exact c0O _ m)⟩
noncomputable def hid2(h:Heap)(e T:Addr)(l:List Env):Heap:=c40 h (e::T::frs l)
theorem b5Y(t:Tr h e T c)(hl:h.FunFrames b0 l):∃a0,Heap.FlyingW (hid2 h e T l) l e c a0 h:=by
 obtain ⟨oe,vs,a0,oT,ts,he,hc,hd,h1,hT,hTo,hdT,h3⟩:=t
 refine ⟨a0,λb o q=>c4f _ q,c2F _ c0N,a4j hl λL m=>c2F _ (c0O _ (c0O _ m)),?_⟩
 exact ⟨oe,vs,T,oT,ts,he,hc,hd,h1,c2F _ (c0O _ c0N),hT,hTo,hdT,h3⟩
structure Moved(H:Hp)(l:List Env)(ex:List Addr)(h h':Heap):Prop where
 un:Un (frs l) ex H H h h'
theorem a7o{h h1 h' b0 B:Heap}(hl:h.FunFrames b0 l)(hB:∀b o,h.get? b=some o->b∉frs l->b∉ex->B.get? b=some o)(st:B.StaysIn h')(k1:∀b o,h.get? b=some o->h1.get? b=some o)(up:h1.UpToSlots h'):Un (frs l) ex H H h h':=by
 have sl:∀b o,h.get? b=some o->b∈frs l->∃s,h'.get? b=some { o with slots:=s }:=λb o e m=>by
  obtain ⟨_,o',ho',hd⟩:=hl.mem m
  rw [e] at ho';cases ho'
  exact up b o (k1 b o e) hd
 refine ⟨λb o e _ n1 n2=>st b o (hB b o e n1 n2),λb o e _ m _=>sl b o e m,λ_ _ _ n _=>n,λb o e n2=>?_,λ_ _ q=>q,λ_ _ _ q=>q,λ_ ps q=>⟨#[],by rw [q];simp⟩⟩
 by_cases m:b∈frs l
 .obtain ⟨s,q⟩:=sl b o e m;exact ⟨_,q⟩
 .exact ⟨o,st b o (hB b o e m n2)⟩
theorem a9h(a:Un fs [] H0 H h0 h)(b:Un fs2 ex2 H H' h h')(hf:∀x∈fs2,x∈fs\/h0.get? x=none)(hx:∀x∈ex2,h0.get? x=none):Un fs [] H0 H' h0 h' where
 keep:=λc o q n hc _=>b.keep c o (a.keep c o q n hc (by simp)) (a.free c o q n (by simp)) (λz=>(hf c z).elim hc λy=>by rw [q] at y;cases y) λz=>by rw [hx c z] at q;cases q
 slot:=λc o q n hc _=>by
  obtain ⟨sl,e1⟩:=a.slot c o q n hc (by simp)
  have nx:c∉ex2:=λz=>by rw [hx c z] at q;cases q
  obtain ⟨s2,e2⟩:=b.any e1 (a.free c o q n (by simp)) nx
  exact ⟨s2,e2⟩
 free:=λc o q n _=>by
  obtain ⟨o',e1⟩:=a.there c o q (by simp)
  exact b.free c o' e1 (a.free c o q n (by simp)) λz=>by rw [hx c z] at q;cases q
 there:=λc o q _=>by
  obtain ⟨o',e1⟩:=a.there c o q (by simp)
  exact b.there c o' e1 λz=>by rw [hx c z] at q;cases q
 tups:=λc xs q=>b.tups c xs (a.tups c xs q)
 frzs:=λc o u q=>b.frzs c o u (a.frzs c o u q)
 tbls:=λc ps q=>by
  obtain ⟨m1,e1⟩:=a.tbls c ps q
  obtain ⟨m2,e2⟩:=b.tbls c _ e1
  exact ⟨m1++m2,by rw [e2,c4e]⟩
theorem a59{P:Program}{w:World}{H:Hp}{fs ex:List Addr}{h h':Heap}(ok:HOk P w H h)(B:Heap)(hB:∀b o,h.get? b=some o->b∉fs->b∉ex->B.get? b=some o)(st:B.StaysIn h')(hf:∀b∈fs,H b=none)(hx:∀b∈ex,H b=none):HOk P w H h':=λa o e=>by
 refine (ok a o e).stay (λb u hb q=>st b u (hB b u q ?_ ?_)) (λ_ _ _ q=>q) λ_ _ q=>q
 .intro z
  rcases hb with rfl | hb
  .rw [hf _ z] at e;cases e
  .rw [hf _ z] at hb;cases hb
 .intro z
  rcases hb with rfl | hb
  .rw [hx _ z] at e;cases e
  .rw [hx _ z] at hb;cases hb
theorem b5E{P:Program}{w:World}{H:Hp}{h0 h h' b0 B:Heap}{l l':List Env}{ex:List Addr}{e:Addr}{c a0:Value}(ok:HOk P w H h)(hl:h.FunFrames b0 l)(hB:∀b o,h.get? b=some o->b∉frs l->b∉ex->B.get? b=some o)(fl:Heap.FlyingW B l' e c a0 h')
  (up:∀b o,h.get? b=some o->b∈frs l->∃sl,h'.get? b=some { o with slots:=sl })(hf:∀b∈frs l,H b=none)(hx:∀b∈ex,H b=none)(t0:∀b o,h0.get? b=some o->∃o',h.get? b=some o')(x0:∀b∈ex,h0.get? b=none):
  ∃T,h0.get? T=none/\H T=none/\Tr h' e T c:=by
 obtain ⟨_,_,_,oe,vs,T,oT,ts,he,hc,hd,h1,hn,hT,hTo,hdT,h3⟩:=fl
 have key:∀o,h.get? T=some o->T∈ex:=λo q=>by
  by_cases m:T∈frs l
  .exfalso
   obtain ⟨_,o',ho',hnf⟩:=hl.mem m
   rw [q] at ho';cases ho'
   obtain ⟨sl,q'⟩:=up T o q m
   rw [hTo] at q';cases q'
   exact hnf ts hdT
  .by_cases n:T∈ex
   .exact n
   .have:=hB T o q m n
    rw [hn] at this;cases this
 refine ⟨T,?_,?_,oe,vs,a0,oT,ts,he,hc,hd,h1,hT,hTo,hdT,h3⟩
 .cases q:h0.get? T with
  | none=>rfl
  | some o =>
   obtain ⟨o',q'⟩:=t0 T o q
   rw [x0 T (key o' q')] at q;cases q
 .cases q:H T with
  | none=>rfl
  | some o =>
   obtain ⟨u,q'⟩:=b5W ok q
   rw [hx T (key u q')] at q;cases q
noncomputable def CXE(P:Program)(w:World):CXT:=λouter H s E e s'=>∃ea c H',e=.ref ea/\s'.os=s.os/\AllBare s'.gens/\Un (frs outer) [] H H' s.heap s'.heap/\HOk P w H' s'.heap/\Lies s.heap H' s'.heap ea c/\E c none H'
def Xk(X:Cx)(W:L2.St->Hp->Value->Prop):Prop:=∀(pins:List (Addr×Obj)) (σ:L2.St) (H:Hp) (s:Shared) (e:Value) (s':Shared),Inv X pins σ H s->CXE X.prog X.w X.stack H s (λc _ H'=>W σ H' c) e s'->X.xe e s'
def Xr(X:Cx)(W:L2.St->Hp->Value->Prop):Prop:=∀(pins:List (Addr×Obj)) (σ:L2.St) (H:Hp) (s:Shared) (h':Heap) (e:Addr) (c:Value) (vs:List Value),Inv X pins σ H s->Heap.MadeExcOf s.heap h' e c vs->W σ H c->X.xe (.ref e) { s with heap:=h' }
section
variable {P:Program}{w:World}{K:c0L}{mg:Str->Option Value}{base:Heap}{N:List Str}{qual:Str}{scope:Scope}{f:Addr}{cd:Value}{A:Around}{outer:List Env}{s:Shared}{H:Hp}{E:XK}
theorem a7A{X:Cx}{pins:List (Addr×Obj)}{σ:L2.St}{H':Hp}{s1:Shared}(I:Inv X pins σ H' s1)(hx:X.ex=[]){a:Addr}(h:s1.heap.get? a=none):X.s₀.heap.get? a=none:=by
 cases q:X.s₀.heap.get? a with
 | none=>rfl
 | some o =>
  obtain ⟨o',e⟩:=I.base.there a o q (by rw [hx];simp)
  rw [h] at e;cases e
theorem xk_fn:Xk (cxOf (CXE P w) P w K mg base N qual scope f cd A outer s H E) λ_ H' c=>E c none H':=by
 intro pins σ H1 s1 e s' I hc
 obtain ⟨ea,c,H',rfl,os,bare,un,hok,⟨new,hun,T,newT,hT,tr⟩,hE⟩:=hc
 have J:Inv (cxOf (CXE P w) P w K mg base N qual scope f cd A outer s H E) pins σ H' s':=I.call' os un hok bare (by simp)
 have hl:=J.stack
 have hfree:=J.stkFree
 obtain ⟨a0,fl⟩:=b5Y tr hl
 show wpAny _ _ (leaving _ _) _ _ s'
 have ne:s.heap.get? ea=none:=a7A I rfl new
 have nT:s.heap.get? T=none:=a7A I rfl newT
 have hB:∀b o,s'.heap.get? b=some o->b∉frs (cxOf (CXE P w) P w K mg base N qual scope f cd A outer s H E).stack->b∉[ea,T]->(hid2 s'.heap ea T (cxOf (CXE P w) P w K mg base N qual scope f cd A outer s H E).stack).get? b=some o:=λb o q n1 n2 =>
  c3k _ q λz=>by
   rcases c0R.mp z with z | z
   .exact n2 (by simp [z])
   .rcases c0R.mp z with z | z
    .exact n2 (by simp [z])
    .exact n1 z
 refine wpAny_leaves_onW (outer:=outer) J.ok.frames rfl fl λh' fl' up=>?_
 have U:=a7o (H:=H') hl hB fl'.1 (λ_ _ q=>q) up
 have hx:∀b∈[ea,T],H' b=none:=λb z=>by
  rcases c0R.mp z with z | z
  .rw [z];exact hun
  .rw [c0Q.mp z];exact hT
 have x0:∀b∈[ea,T],s.heap.get? b=none:=λb z=>by
  rcases c0R.mp z with z | z
  .rw [z];exact ne
  .rw [c0Q.mp z];exact nT
 refine ⟨ea,c,H',rfl,J.os,bare,?_,a59 hok _ hB fl'.1 hfree hx,⟨ne,hun,?_⟩,hE⟩
 .refine a9h J.base U (λx z=>?_) x0
  rcases c0R.mp (J.stkSub x z) with z | z
  .exact .inr (by rw [z];exact c29 J.ok.above)
  .exact .inl z
 .exact b5E hok hl hB fl' (λb o q m=>U.any q (hfree b m) λz=>by
    obtain ⟨_,o',ho',hnf⟩:=hl.mem m
    obtain ⟨oe,vs,a0',oT,ts,he,_,hd,_,_,hTo,hdT,_⟩:=tr
    rcases c0R.mp z with z | z
    .rw [z,he] at ho';cases ho';exact hnf vs hd
    .rw [c0Q.mp z,hTo] at ho';cases ho';exact hnf ts hdT) hfree hx (λb o q=>J.base.there b o q (by show b∉[];simp)) x0
theorem xr_fn:Xr (cxOf (CXE P w) P w K mg base N qual scope f cd A outer s H E) λ_ H' c=>E c none H':=by
 intro pins σ H1 s1 h1 ea c vs J hx hE
 have hl:=J.stack
 have hfree:=J.stkFree
 have ne:s.heap.get? ea=none:=a7A J rfl hx.new
 have hB:∀b o,s1.heap.get? b=some o->b∉frs (cxOf (CXE P w) P w K mg base N qual scope f cd A outer s H E).stack->b∉([]:List Addr)->(c40 s1.heap (frs (cxOf (CXE P w) P w K mg base N qual scope f cd A outer s H E).stack)).get? b=some o:=λb o q n1 _=>c3k _ q n1
 show wpAny _ _ (leaving _ _) _ _ _
 refine wpAny_leaves_madeW (s:={ s1 with heap:=h1 }) (outer:=outer) J.ok.frames rfl (λb o q=>c4f _ q) (a4j hl λL m=>c2F _ m) hx λh' t fl' _ _ up=>?_
 have U:=a7o (H:=H1) hl hB fl'.1 hx.keeps up
 refine ⟨ea,c,H1,rfl,J.os,J.bare,?_,a59 J.hok _ hB fl'.1 hfree (by simp),⟨ne,b4D J.hok hx.new,?_⟩,hE⟩
 .refine a9h J.base U (λx z=>?_) (by simp)
  rcases c0R.mp (J.stkSub x z) with z | z
  .exact .inr (by rw [z];exact c29 J.ok.above)
  .exact .inl z
 .exact b5E J.hok hl hB fl' (λb o q m=>U.any q (hfree b m) (by simp)) hfree (by simp) (λb o q=>J.base.there b o q (by show b∉[];simp)) (by simp)
end
end DL
namespace DL
open PySem PySem.Spec PyProof.Rows L2
noncomputable def spX(K:c0L)(mg:Str->Option Value)(n:Nat)(ρ:List D->Option Str):Sp:=λvs H _ E=>∃(O:Addr->Prop) (ds:List D) (nm:Str),Dom K O H/\Iss K O H vs ds/\vs.length=n/\ρ ds=some nm/\∀c H',mg nm=some c->Same H H'->E c none H'
def EX(X:Cx)(W:L2.St->Hp->Value->Prop)(e:Expr)(r:En->Option Str):Prop:=
 ∃t:TE,PE X e t/\∀(O:Addr->Prop) (B:Hp) (σ:L2.St) (H:Hp) (env:En) (nm:Str) (Q:VK),Rel X.K O B σ H env->r env=some nm->(∀c H',X.mg nm=some c->Same H H'->W σ H' c)->t σ H Q
def AX(X:Cx)(W:L2.St->Hp->Value->Prop)(es:List Expr)(r:En->Option Str):Prop:=
 ∃t:TA,PA X es t/\∀(O:Addr->Prop) (B:Hp) (σ:L2.St) (H:Hp) (env:En) (nm:Str) (Q:List V->Hp->Prop),Rel X.K O B σ H env->r env=some nm->(∀c H',X.mg nm=some c->Same H H'->W σ H' c)->t σ H Q
noncomputable abbrev RF:=En->Option (Str×En)
def XV(X:Cx)(W:L2.St->Hp->Value->Prop)(st:Stmt)(r:RF):Prop:=
 ∃t:TS,PS X st t/\∀(O:Addr->Prop) (B:Hp) (σ:L2.St) (H:Hp) (env:En) (nm:Str) (env':En) (D:Ends),Rel X.K O B σ H env->r env=some (nm,env') ->
  (∀σ' H' c,X.mg nm=some c->Rel X.K O B σ' H' env'->Gd σ env H σ' env' H'->W σ' H' c)->t D σ H
def XVs(X:Cx)(W:L2.St->Hp->Value->Prop)(st:List Stmt)(r:RF):Prop:=
 ∃t:TS,PSs X st t/\∀(O:Addr->Prop) (B:Hp) (σ:L2.St) (H:Hp) (env:En) (nm:Str) (env':En) (D:Ends),Rel X.K O B σ H env->r env=some (nm,env') ->
  (∀σ' H' c,X.mg nm=some c->Rel X.K O B σ' H' env'->Gd σ env H σ' env' H'->W σ' H' c)->t D σ H
section
variable {X:Cx}{W:L2.St->Hp->Value->Prop}{e a b c:Expr}{es:List Expr}{st:Stmt}{rest sa sb:List Stmt}{F G:SF}{r r':RF}{re:En->Option Str}{fa:En->Option Sl}{ga:En->Option Bool}{fs:En->Option (List D)}{pos p cpos np:Pos}
noncomputable def rNo:RF:=λ_=>none
noncomputable def a6O:SF:=λ_=>none
theorem a5q:SV X st a6O:=⟨λ_ _ _=>False,λ_ _ _ _ _ _ h=>h.elim,λ_ _ _ _ _ _ _ _ _ e _=>by cases e⟩
theorem a9e:XV X W st rNo:=⟨λ_ _ _=>False,λ_ _ _ _ _ _ h=>h.elim,λ_ _ _ _ _ _ _ _ _ e _=>by cases e⟩
theorem EV.nox(h:EV X.nox e fa):EV X e fa:=let ⟨t,p,k⟩:=h;⟨t,p.nox,k⟩
theorem TV.nox(h:TV X.nox e ga):TV X e ga:=let ⟨t,p,k⟩:=h;⟨t,p.nox,k⟩
theorem SVs.nox(h:SVs X.nox rest F):SVs X rest F:=let ⟨t,p,k⟩:=h;⟨t,p.nox,k⟩
theorem SV.nox(h:SV X.nox st F):SV X st F:=let ⟨t,p,k⟩:=h;⟨t,λpins s σ H D I hw=>c1z (p pins s σ H D (I.wish _) hw) (λ_ _ q=>q.unwish) λ_ _ z=>c1b z,k⟩
theorem AV.nox(h:AV X.nox es fs):AV X es fs:=let ⟨t,p,k⟩:=h;⟨t,λpo pins s σ H Q I hw=>c1z (p po pins s σ H Q (I.wish _) hw) (λ_ _ ⟨v,H',I',r,q⟩=>⟨v,H',I'.unwish,r,q⟩) λ_ _ z=>c1b z,k⟩
theorem a4a:XVs X W [] rNo:=⟨λ_ _ _=>False,λ_ _ _ _ _ _ h=>h.elim,λ_ _ _ _ _ _ _ _ _ e _=>by cases e⟩
noncomputable def rSeq(r:RF)(F:SF)(r':RF):RF:=λenv=>match r env with
 | some x=>some x
 | none=>match F env with
  | some (.nx,env1)=>r' env1
  | _=>none
theorem a1V(h:XV X W st r):XVs X W [st] r:=let ⟨t,p,k⟩:=h;⟨t,b2f p,k⟩
theorem a13(h:XV X W st r)(hv:SV X st F)(h2:XVs X W rest r'):XVs X W (st::rest) (rSeq r F r'):=by
 obtain ⟨t,p,k⟩:=h
 obtain ⟨v,pv,kv⟩:=hv
 obtain ⟨u,p',k'⟩:=h2
 refine ⟨λD σ H=>t { D with nx:=u D } σ H\/v { D with nx:=u D } σ H,λpins s σ H D I hw=>?_,λO B σ H env nm env' D R e q=>?_⟩
 .rcases hw with hw | hw
  .exact a7a p p' pins s σ H D I hw
  .exact a7a pv p' pins s σ H D I hw
 .unfold rSeq at e
  cases hr:r env with
  | some x =>
   rw [hr] at e
   obtain rfl:=c0U e
   exact .inl (k O B σ H env nm env' _ R hr q)
  | none =>
   rw [hr] at e
   cases hF:F env with
   | none=>rw [hF] at e;cases e
   | some x =>
    obtain ⟨fl,env1⟩:=x
    rw [hF] at e
    cases fl with
    | nx=>exact .inr (kv O B σ H env .nx env1 _ R hF λσ' H' R' g'=>k' O B σ' H' env1 nm env' D R' e λσ2 H2 c hc R2 g2=>q σ2 H2 c hc R2 (g'.trans g2))
    | bk=>cases e
    | ct=>cases e
    | rt z=>cases e
noncomputable def rIf(c:En->Option Bool)(r r':RF):RF:=λenv=>match c env with
 | some true=>r env
 | some false=>r' env
 | none=>none
theorem a9f(hc:TV X c ga)(ha:XVs X W sa r)(hb:XVs X W sb r'):XV X W (.If c sa sb pos) (rIf ga r r'):=by
 obtain ⟨tc,pc,kc⟩:=hc
 obtain ⟨t,p,k⟩:=ha
 obtain ⟨u,p',k'⟩:=hb
 refine ⟨_,b81 pc p p',λO B σ H env nm env' D R e q=>?_⟩
 unfold rIf at e
 cases h:ga env with
 | none=>rw [h] at e;cases e
 | some x =>
  rw [h] at e
  refine kc O B σ H env x _ R h λH1 s1=>?_
  cases x with
  | true =>
   rw [if_pos rfl]
   exact k O B σ H1 env nm env' D (R.grow s1) e λσ2 H2 c hc R2 g2=>q σ2 H2 c hc R2 ((Gd.refl s1).trans g2)
  | false =>
   rw [if_neg c1j]
   exact k' O B σ H1 env nm env' D (R.grow s1) e λσ2 H2 c hc R2 g2=>q σ2 H2 c hc R2 ((Gd.refl s1).trans g2)
noncomputable def rE(re:En->Option Str):RF:=λenv=>(re env).map λnm=>(nm,env)
theorem a4o(h:EX X W e re):XV X W (.Return (some e) pos) (rE re):=by
 obtain ⟨t,p,k⟩:=h
 refine ⟨_,b2g p,λO B σ H env nm env' D R e q=>?_⟩
 obtain ⟨n1,e1,e2⟩:=map_some e
 cases e2
 exact k O B σ H env nm _ R e1 λc H' hc s=>q σ H' c hc (R.grow s) (Gd.refl s)
theorem b5B{i:Nat}{x:Str}(hN:X.N.Nodup)(hi:X.N[i]?=some x)(hx:Loc X.env.scope x)(h:EX X W e re)(hs:swapsWith e (some (.Name x pos')) pos.line X.env=pure false:=by rfl)
  (hf:X.fn x=true\/X.env.scope.names.lookup x=some .local:=by first | exact .inl rfl | exact .inr rfl | assumption):XV X W (.Assign [.Name x pos'] e pos) (rE re):=by
 obtain ⟨t,p,k⟩:=h
 refine ⟨_,b0l hN hi hx p hs hf,λO B σ H env nm env' D R e q=>?_⟩
 obtain ⟨n1,e1,e2⟩:=map_some e
 cases e2
 exact k O B σ H env nm _ R e1 λc H' hc s=>q σ H' c hc (R.grow s) (Gd.refl s)
theorem b3n(h:EX X W e re)(hr:AV X es fs)(hs:starEach (e::es) X.env=(false,eval e X.env)::starEach es X.env:=by rfl):AX X W (e::es) re:=by
 obtain ⟨t,p,k⟩:=h
 obtain ⟨u,p',_⟩:=hr
 exact ⟨_,a2i p p' hs,λO B σ H env nm Q R e q=>k O B σ H env nm _ R e q⟩
noncomputable def a2v(n:Nat)(ρ:List D->Option Str)(fs:En->Option (List D)):En->Option Str:=λenv=>(fs env).bind λds=>if ds.length=n then ρ ds else none
theorem run_x{k:Nat}{f:Addr}{fd:FuncData}{ps:List Str}{sp:Sp}{pins:List (Addr×Obj)}{σ:L2.St}{H:Hp}{s:Shared}{Q:VK}{us:List Value}{vs:List V}(F:FnOk X.prog X.w X.K X.mg X.base (CXE X.prog X.w) k f fd ps sp)(hr:Room k X.A)(hb:Binds X.K fd ps [])(hx:Xk X W)
  (I:Inv X pins σ H s)(rv:Vals vs us)(h:sp (vs++[]) H Q λc _ H'=>W σ H' c):wpAny (model X.prog X.w) X.A (call (.ref f) us) (EP X pins σ Q) X.xe s:=by
 have r2:Vals (vs++[]) (us++[]):=rv.append .nil
 have hl:(us++[]).length=ps.length:=by rw [<-r2.length];exact F.len _ _ _ _ h
 refine c4z (c4i (F.run X.A X.stack s H ⟨us,[]⟩ (us++[]) (vs++[]) Q _ hr I.env0 (hb s us I.kIn hl) r2 h) λz s' hq=>?_)
 cases z with
 | error e=>exact hx pins σ H s e s' I hq
 | ok fl =>
  cases fl with
  | ret u=>exact I.after hq
  | next=>exact c1b hq
  | brk=>exact c1b hq
  | cont=>exact c1b hq
theorem b7i{k:Nat}{f:Addr}{fd:FuncData}{ps:List Str}{ρ:List D->Option Str}{x:Str}(F:FnOk X.prog X.w X.K X.mg X.base (CXE X.prog X.w) k f fd ps (spX X.K X.mg ps.length ρ))(hr:Room k X.A)(hg:Gl X x)(hm:X.mg x=some (.ref f))(hk:c2o X.K (.ref f)=true)(hb:Binds X.K fd ps [])
  (hx:Xk X W)(ha:AV X (e::es) fs)(hdb:(x==("__debug__":Str))=false:=by decide)(he:starEach (e::es) X.env=(false,eval e X.env)::starEach es X.env:=by rfl)(hpl:(backTo pos (starEach es X.env)).any (·.1)=false:=by rfl):
  EX X W (.Call (.Name x p) (e::es) [] pos) (a2v ps.length ρ fs):=by
 obtain ⟨t,pt,ka⟩:=ha
 refine ⟨λσ H Q=>t σ H λvs H1=>spX X.K X.mg ps.length ρ (vs++[]) H1 Q λc _ H'=>W σ H' c,λpins s σ H Q I h=>?_,λO B σ H env nm Q R e q=>?_⟩
 .refine c2B (a4h I hg hm ?_ hdb)
  refine c5C (h₀:=X.base) I.ok.mod.kin hk (thn (pt pos pins s σ H _ I h) λus s1 ⟨vs,H1,I1,r,q⟩=>⟨I1.kIn,?_⟩) he hpl
  exact run_x F hr hb hx I1 r q
 .obtain ⟨ds,e1,e2⟩:=bind_some e
  refine ka O B σ H env ds _ R e1 λvs H1 s1 r1=>?_
  by_cases hn:ds.length=ps.length
  .rw [if_pos hn] at e2
   rw [c1J]
   exact ⟨OO O σ env,ds,nm,(R.grow s1).dm,r1,by rw [r1.length,hn],e2,λc H' hc s=>q c H' hc (s1.trans s)⟩
  .rw [if_neg hn] at e2;cases e2
theorem b9R{k:Nat}{f:Addr}{fd:FuncData}{ps:List Str}{sp:Sp}{x:Str}(F:FnOk X.prog X.w X.K X.mg X.base CX0 k f fd ps sp)(hr:Room k X.A)(hg:Gl X x)(hm:X.mg x=some (.ref f))(hk:c2o X.K (.ref f)=true)(hb:Binds X.K fd ps [])
  (ha:AX X W (e::es) re)(hdb:(x==("__debug__":Str))=false:=by decide)(he:starEach (e::es) X.env=(false,eval e X.env)::starEach es X.env:=by rfl)(hpl:(backTo pos (starEach es X.env)).any (·.1)=false:=by rfl):
  EX X W (.Call (.Name x p) (e::es) [] pos) re:=by
 obtain ⟨t,pt,ka⟩:=ha
 exact ⟨_,b2k F hr hg hm hk hb .nil b9g pt hdb he hpl,λO B σ H env nm Q R e q=>ka O B σ H env nm _ R e q⟩
end
noncomputable abbrev b6e:List Value:=[.type "ValueError",.type "Exception",.type "BaseException",.type "object"]
structure ExcC(K:c0L)(C:Addr):Prop where
 ob:∃(bm:List Value) (N:Addr) (nm q:Str) (bs:List Value) (hdct:Bool) (sn:List Str) (sub:List Value) (ab:Bool) (col:Option Bool) (dd:Option Addr) (k0 k1 k2 k3 k5:Option Value),K.lookup C=some (excClassObj nm q C N bs bm hdct sn sub ab col dd k0 k1 k2 k3 k5 "ValueError.__new__") /\
  c5p K N=true/\c1s K N "__init__" = some none/\c5q K b6e bm=true
section
variable {X:Cx}{W:L2.St->Hp->Value->Prop}{e:Expr}{es:List Expr}{fs:En->Option (List D)}{pos p cpos np:Pos}{x:Str}{C:Addr}
noncomputable def a8h(nm:Str)(fs:En->Option (List D)):RF:=λenv=>(fs env).bind λds=>if ds.length<=16777216 then some (nm,env) else none
theorem a98(hc:X.calm=true)(hx:Xr X W)(ec:ExcC X.K C)(hg:Gl X x)(hm:X.mg x=some (.ref C))(ha:AV X (e::es) fs)(hdb:(x==("__debug__":Str))=false:=by decide)
  (he:starEach (e::es) X.env=(false,eval e X.env)::starEach es X.env:=by rfl)(hpl:(backTo cpos (starEach es X.env)).any (·.1)=false:=by rfl):XV X W (.Raise (some (.Call (.Name x np) (e::es) [] cpos)) none pos) (a8h x fs):=by
 obtain ⟨t,pt,ka⟩:=ha
 refine ⟨λD σ H=>t σ H λvs H1=>vs.length<=sizeLine/\W σ H1 (.ref C),λpins s σ H D I h=>?_,λO B σ H env nm env' D R e q=>?_⟩
 .obtain ⟨bm,N,nm,q,bs,hdct,sn,sub,ab,col,dd,k0,k1,k2,k3,k5,lk,n1,n2,tl⟩:=ec.ob
  have T:=c5H I.kIn tl
  refine wpAny_Raise_call_subT (C:=C) (nm:=nm) (q:=q) (N:=N) (bs:=bs) (bm:=bm) (hdct:=hdct) (sn:=sn) (sub:=sub) (ab:=ab) (col:=col) (dd:=dd) (k0:=k0) (k1:=k1) (k2:=k2) (k3:=k3) (k5:=k5)
   PySem.F.excBase_ValueError (mN:=X.base.nsMap N) (T.hasType (by decide +kernel)) (I.ok.hd hc) (by rw [he];show (false||(backTo cpos (starEach es X.env)).any (·.1))=false;rw [hpl];rfl) (PySem.W.nsMap_none_of_in I.mod.kin n1 n2) (a4h I hg hm ⟨rfl,?_⟩ hdb)
  have h1:=pt cpos pins s σ H _ I h
  rw [he] at h1 ⊢
  refine c5j (c1z h1 (λus s2 ⟨vs,H2,I2,r2,hl,q2⟩=>?_) λ_ _ y=>y)
  exact ⟨rfl,by show us.length<=_;rw [<-r2.length];exact hl,I2.kIn _ _ lk,(Heap.Ns.of_isNs (PySem.W.isNs_of_in I2.mod.kin n1)).keeps I2.bk,c5H I2.kIn tl,λh' ea hm=>hx pins σ H2 s2 h' ea _ _ I2 hm q2⟩
 .obtain ⟨ds,e1,e2⟩:=bind_some e
  obtain ⟨hl,e3⟩:=a0D e2
  cases e3
  exact ka O B σ H env ds _ R e1 λvs H1 s1 r1=>⟨by rw [r1.length,c1G];exact hl,q σ H1 _ hm (R.grow s1) (Gd.refl s1)⟩
end
section
variable {P:Program}{w:World}{K:c0L}{mg:Str->Option Value}{base:Heap}
noncomputable def runX(r:RF)(N:Nat)(ds:List D):Option Str:=(r (a06 N ds)).map (·.1)
theorem fn_ex{x qual:Str}{st:Stmt}{f:Addr}{fd:FuncData}{N ps:List Str}{k:Nat}{r:RF}(Fn:Fun K x qual st f fd)(S:FnScope N ps (a0n st))
  (hbody:∀(X:Cx) (W:L2.St->Hp->Value->Prop),X.prog=P->X.w=w->X.K=K->X.mg=mg->X.base=base->Fx X.nox N (a0n st) k->Xk X W->Xr X W->XVs X W (a0G st) r):FnOk P w K mg base (CXE P w) (k+1) f fd ps (spX K mg ps.length (runX r N.length)):=by
 obtain ⟨oc,od,kV,doc,pm,an,cdv,ct,osl,rfl,lk,hcd⟩:=Fn.ex
 refine b7e lk hcd S (λvs H Q E h=>?_) λA outer s H vs Q E hr hsp=>?_
 .obtain ⟨O,ds,nm,_,_,hl,_⟩:=h
  exact hl
 obtain ⟨O,ds,nm,hO,hi,hl,e,q⟩:=hsp
 obtain ⟨t,p,kk⟩:=hbody (cxOf (CXE P w) P w K mg base N qual (a0n st) f cdv A outer s H E) (λ_ H' c=>E c none H') rfl rfl rfl rfl rfl ⟨rfl,rfl,rfl,λ_ _=>rfl,c2s,hr,S.nd,λ_=>⟨rfl,rfl,rfl⟩⟩ xk_fn xr_fn
 obtain ⟨⟨nm',env'⟩,e1,e2⟩:=map_some e
 cases e2
 exact ⟨t,p,kk O H (start N vs) H (a06 N.length ds) nm' env' _ (a5Q hO hi) e1 λσ' H' c hc R' _=>q c H' hc R'.same⟩
end
def Xz(P:Program)(w:World)(K:c0L)(mg:Str->Option Value)(base:Heap)(x:Str)(st:Stmt)(ps:List Str)(j:Nat)(ρ:List D->Option Str):Prop:=∃f fd,Def K mg x st ps f fd/\FnOk P w K mg base (CXE P w) j f fd ps (spX K mg ps.length ρ)
theorem a8V{P:Program}{w:World}{K:c0L}{mg:Str->Option Value}{base:Heap}{x:Str}{st:Stmt}{f:Addr}{fd:FuncData}{N ps:List Str}{k:Nat}{r:RF}(D':Def K mg x st ps f fd)
  (hbody:∀(X:Cx) (W:L2.St->Hp->Value->Prop),Sx X P w K mg base->Fx X.nox N (a0n st) k->Xk X W->Xr X W->XVs X W (a0G st) r)(S:FnScope N ps (a0n st):=by exact ⟨rfl,rfl,rfl,by decide +kernel,rfl,by decide +kernel,by decide +kernel⟩):Xz P w K mg base x st ps (k+1) (runX r N.length):=
 ⟨f,fd,D',fn_ex D'.fn S λX W e1 e2 e3 e4 e5=>by subst e1 e2 e3 e4 e5;exact hbody X W (.mk X)⟩
theorem xzst{X X':Cx}{x:Str}{st:Stmt}{ps:List Str}{j:Nat}{ρ:List D->Option Str}(e1:X'.prog=X.prog)(e2:X'.w=X.w)(e3:X'.K=X.K)(e4:X'.mg=X.mg)(e5:X'.base=X.base)(O:Xz X.prog X.w X.K X.mg X.base x st ps j ρ):Xz X'.prog X'.w X'.K X'.mg X'.base x st ps j ρ:=by
 rw [e1,e2,e3,e4,e5];exact O
theorem Fx.xcl{X:Cx}{W:L2.St->Hp->Value->Prop}{N:List Str}{sc:Scope}{k j:Nat}{full:Bool}{x:Str}{st:Stmt}{ps:List Str}{ρ:List D->Option Str}{e:Expr}{es:List Expr}{fs:En->Option (List D)}{p pos:Pos}(h:Fx X.nox N sc k full)(O:Xz X.prog X.w X.K X.mg X.base x st ps j ρ)(hx:Xk X W)(ha:AV X (e::es) fs)(hj:j<=k:=by decide)(hg:sc.names.lookup x=some .globalImplicit:=by rfl)(hdb:(x==("__debug__":Str))=false:=by decide)(he:starEach (e::es) X.env=(false,eval e X.env)::starEach es X.env:=by rfl)(hpl:(backTo pos (starEach es X.env)).any (·.1)=false:=by rfl):
  EX X W (.Call (.Name x p) (e::es) [] pos) (a2v ps.length ρ fs):=by
 obtain ⟨f,fd,D',F⟩:=O
 exact b7i F (h.room.mono hj) (h.g hg) D'.m D'.fn.kp D'.bd hx ha hdb he hpl
theorem Fx.xarg{X:Cx}{W:L2.St->Hp->Value->Prop}{N:List Str}{sc:Scope}{k j:Nat}{full:Bool}{x:Str}{st:Stmt}{ps:List Str}{φ:List D->Option Sl}{e:Expr}{es:List Expr}{re:En->Option Str}{p pos:Pos}(h:Fx X.nox N sc k full)(O:Oz X.prog X.w X.K X.mg X.base x st ps j φ)(ha:AX X W (e::es) re)(hj:j<=k:=by decide)(hg:sc.names.lookup x=some .globalImplicit:=by rfl)(hdb:(x==("__debug__":Str))=false:=by decide)(he:starEach (e::es) X.env=(false,eval e X.env)::starEach es X.env:=by rfl)(hpl:(backTo pos (starEach es X.env)).any (·.1)=false:=by rfl):
  EX X W (.Call (.Name x p) (e::es) [] pos) re:=by
 obtain ⟨f,fd,D',F⟩:=O
 exact b9R F (h.room.mono hj) (h.g hg) D'.m D'.fn.kp D'.bd ha hdb he hpl
end DL
namespace DL
open PySem PySem.Spec PyProof.Rows L2
section
variable {X:Cx}{pins:List (Addr×Obj)}{σ:L2.St}{H:Hp}{s:Shared}{h':Heap}
theorem b67(J:Inv X pins σ H s)(hx:X.ex=[])(U:Un (frs X.stack) ex2 H H s.heap h')(hok:HOk X.prog X.w H h')
  (n0:∀b∈ex2,X.s₀.heap.get? b=none/\b≠X.env.locals/\(∀x c,X.env.cells.lookup x=some c->c≠b)/\∀p∈X.pn++pins,p.1≠b):Inv X pins σ H { s with heap:=h' }:=by
 have cellK:∀x c v,X.env.cells.lookup x=some c->s.heap.IsCell c v->h'.IsCell c v:=λx c v e ⟨o,ho,hd⟩=>by
  obtain ⟨sl,q⟩:=U.any ho (J.freeC x c e) λz=>(n0 c z).2.2.1 x c e rfl
  exact ⟨_,q,hd⟩
 have hb:=J.base
 rw [hx] at hb
 refine ⟨J.ok,J.os,J.bare,?_,?_,λx c e=>?_,J.free,J.freeC,λp hp=>?_,hok,J.len⟩
 .rw [hx]
  refine a9h hb U (λx z=>?_) λb z=>(n0 b z).1
  rcases c0R.mp (J.stkSub x z) with z | z
  .exact .inr (by rw [z];exact c29 J.ok.above)
  .exact .inl z
 .obtain ⟨m,⟨o,es,ep,ho,r⟩,hl⟩:=J.loc
  obtain ⟨sl,q⟩:=U.any ho J.free λz=>(n0 _ z).2.1 rfl
  refine ⟨m,⟨_,es,ep,q,r⟩,λi x v e1 e2 e3=>?_⟩
  obtain ⟨u,ru,l⟩:=hl i x v e1 e2 e3
  refine ⟨u,ru,?_⟩
  rcases l with l | ⟨k,c,e,z⟩
  .exact .inl l
  .exact .inr ⟨k,c,e,cellK x c _ e z⟩
 .obtain ⟨v,z⟩:=J.cell x c e
  exact ⟨v,cellK x c v e z⟩
 .obtain ⟨e,n,ne,nf,d⟩:=J.pin p hp
  exact ⟨U.keep p.1 p.2 e n (λz=>(c0R.mp (J.stkSub _ z)).elim ne nf) λz=>(n0 p.1 z).2.2.2 p hp rfl,n,ne,nf,d⟩
theorem b2M(J:Inv X pins σ H s)(h1:H e=none)(h0:X.s₀.heap.get? e=none)(h2:clsP e C s.heap)(h3:e≠X.env.locals)(h4:∀x c,X.env.cells.lookup x=some c->c≠e)(h5:∀p∈X.pn++pins,p.1≠e):
  Inv X pins σ (upd H e (.ext (clsP e C))) s:=by
 have ne:∀{b:Addr} {u:HO},H b=some u->b≠e:=λq=>a0A q h1
 refine ⟨J.ok,J.os,J.bare,⟨J.base.keep,J.base.slot,λb o q n hx=>?_,J.base.there,λb xs q=>?_,λb o u q=>?_,λb ps q=>?_⟩,J.loc,J.cell,?_,λx c q=>?_,λp hp=>?_,λb u q=>?_,J.len⟩
 .rw [a0q (λz=>by rw [z,h0] at q;cases q)];exact J.base.free b o q n hx
 .have:=J.base.tups b xs q;rw [a0q (ne this)];exact this
 .have:=J.base.frzs b o u q;rw [a0q (ne this)];exact this
 .obtain ⟨m,q'⟩:=J.base.tbls b ps q;exact ⟨m,by rw [a0q (ne q')];exact q'⟩
 .rw [a0q (c2j h3)];exact J.free
 .rw [a0q (h4 x c q)];exact J.freeC x c q
 .obtain ⟨a,n,r⟩:=J.pin p hp
  exact ⟨a,by rw [a0q (h5 p hp)];exact n,r⟩
 .by_cases hb:b=e
  .subst hb
   rw [a0V] at q;cases q
   obtain ⟨o,ho,hc⟩:=h2
   exact ⟨⟨o,ho,hc⟩,⟨o,ho⟩,λg1 g2 ⟨o1,e1,e2⟩ k=>⟨o1,k o1 e1,e2⟩⟩
  .rw [a0q hb] at q
   exact (J.hok b u q).stay (λ_ _ _ z=>z) (λc _ _ z=>by rw [a0q (ne z)];exact z) λc xs z=>by rw [a0q (ne z)];exact z
noncomputable abbrev hcx(X:Cx)(v:Value):Cx:={ X with A:=X.A.mark (some v),calm:=false,xe:=λ_ _=>False }
theorem b0B(J:Inv X pins σ H s)(v:Value):Inv (hcx X v) pins σ H s:=
 ⟨⟨J.ok.mod,J.ok.kind,J.ok.glob,J.ok.blt,J.ok.above,J.ok.inj,J.ok.has,J.ok.cab,λz=>(nomatch z),J.ok.frames,J.ok.stk,J.ok.exf,J.ok.bs,J.ok.bsz,J.ok.noex,J.ok.exfs,J.ok.funs,J.ok.frf⟩,J.os,J.bare,J.base,J.loc,J.cell,J.free,J.freeC,J.pin,J.hok,J.len⟩
theorem a3Z(ok:X.Ok)(J:Inv (hcx X v) pins σ H s):Inv X pins σ H s:=⟨ok,J.os,J.bare,J.base,J.loc,J.cell,J.free,J.freeC,J.pin,J.hok,J.len⟩
noncomputable abbrev pcx(X:Cx)(pins:List (Addr×Obj))(E:Value->Shared->Prop):Cx:={ X with xe:=E,pn:=X.pn++pins }
theorem b66(J:Inv X pins σ H s)(E:Value->Shared->Prop):Inv (pcx X pins E) [] σ H s:=
 ⟨⟨J.ok.mod,J.ok.kind,J.ok.glob,J.ok.blt,J.ok.above,J.ok.inj,J.ok.has,J.ok.cab,J.ok.hd,J.ok.frames,J.ok.stk,J.ok.exf,J.ok.bs,J.ok.bsz,J.ok.noex,J.ok.exfs,J.ok.funs,J.ok.frf⟩,J.os,J.bare,J.base,J.loc,J.cell,J.free,J.freeC,λp hp=>J.pin p (by simpa using hp),J.hok,J.len⟩
theorem b2L(ok:X.Ok)(J:Inv (pcx X pins E) more σ H s):Inv X pins σ H s:=
 ⟨ok,J.os,J.bare,J.base,J.loc,J.cell,J.free,J.freeC,λp hp=>J.pin p (c1a _ hp),J.hok,J.len⟩
theorem name_goes{M:Model}{A:Around}{E:Value->Shared->Prop}{i:Nat}{n:Str}{pos:Pos}{Q:Unit->Shared->Prop}(J:Inv X pins σ H s)(hN:X.N.Nodup)(hi:X.N[i]?=some n)(hl:X.env.kindOf n=some .local)
  (q:∀s',Inv X pins (σ.set i none) H s'->Q () s'):wpAny M A (do bindName X.env n .none;unbindBehindTheSuite X.env n pos) Q E s:=by
 obtain ⟨m,hn,hlo⟩:=id J.loc
 have hcls:(X.env.scope.kind==.class||(X.env.scope.kind==.module&&X.env.locals != X.env.globals))=false:=by rw [J.ok.kind];rfl
 refine wpAny_nameGoes_keeps hl hn hcls λh1 v hn1 sb=>q _ ?_
 have sm:∀b o,b≠X.env.locals->s.heap.get? b=some o->h1.get? b=some o:=λb o hb e=>(sb.2 b hb).trans e
 have neL:∀b o,X.s₀.heap.get? b=some o->b≠X.env.locals:=λb o e=>c09 (c1d (c0W e) J.ok.above)
 refine ⟨J.ok,J.os,J.bare,⟨λb o e k f x=>sm b o (neL b o e) (J.base.keep b o e k f x),λb o e k f x=>?_,J.base.free,λb o e x=>?_,J.base.tups,J.base.frzs,J.base.tbls⟩,⟨_,hn1,λj y w e1 e2 e3=>?_⟩,λx c e=>?_,J.free,J.freeC,λp hp=>?_,λb u e=>?_,by rw [c42];exact J.len⟩
 .obtain ⟨sl,e1⟩:=J.base.slot b o e k f x
  exact ⟨sl,sm b _ (neL b o e) e1⟩
 .obtain ⟨o',e1⟩:=J.base.there b o e x
  exact ⟨o',sm b _ (neL b o e) e1⟩
 .have hj:j≠i:=λz=>by
   subst z
   rw [c05 (by rw [J.len];exact (c0V.mp hi).1)] at e2
   cases e2
  rw [c0Z (c2j hj)] at e2
  obtain ⟨u',r',q'⟩:=hlo j y w e1 e2 e3
  refine ⟨u',r',?_⟩
  rcases q' with ⟨k,e⟩ | ⟨k,c,e,z⟩
  .refine .inl ⟨k,?_⟩
   have:y≠n:=λe=>hj (a7m hN e1 (e▸hi))
   simp [this,e]
  .exact .inr ⟨k,c,e,z.sameBut sb (J.cne y c e)⟩
 .obtain ⟨w',z⟩:=J.cell x c e
  exact ⟨w',z.sameBut sb (J.cne x c e)⟩
 .obtain ⟨e,n,ne,nf,d⟩:=J.pin p hp
  exact ⟨sm p.1 p.2 ne e,n,ne,nf,d⟩
 .refine (J.hok b u e).stay (λc w hc z=>sm c w ?_ z) (λ_ _ _ z=>z) λ_ _ z=>z
  rintro rfl
  rcases hc with hc | hc
  .rw [<-hc,J.free] at e;cases e
  .rw [J.free] at hc;cases hc
end
theorem Rel.drop{K:c0L}{O:Addr->Prop}{B H:Hp}{σ:L2.St}{env:En}(R:Rel K O B σ H env)(i:Nat):Rel K O B (σ.set i none) H (env.set i .no)/\Gd σ env H (σ.set i none) (env.set i .no) H:=by
 have own:∀q,Own (σ.set i none) (env.set i .no) q->Own σ env q:=λq ⟨j,ds,e1,o,e2⟩=>by
  by_cases hj:j=i
  .subst hj
   rw [c3E] at e1
   simp at e1
   rw [<-e1.2] at o
   exact o.elim
  .rw [c0Z (c2j hj)] at e1 e2
   exact ⟨j,ds,e1,o,e2⟩
 have oo:∀q,OO O (σ.set i none) (env.set i .no) q->OO O σ env q:=λq z=>z.elim .inl λz=>.inr (own q z)
 have at_:∀{j:Nat} {x:Sl},(env.set i .no)[j]?=some x->x≠.no->j≠i/\env[j]?=some x:=λ{j x} e hx=>by
  by_cases hj:j=i
  .subst hj
   rw [c3E] at e
   simp at e
   exact absurd e.2.symm hx
  .rw [c0Z (c2j hj)] at e
   exact ⟨hj,e⟩
 refine ⟨⟨R.same,R.dom,by simp [R.len],λj d e=>?_,λj ds e=>?_,λj ds e=>?_,λj k ds es p e1 e2 e3 e4 o1 o2=>?_⟩,λq u e n=>⟨e,λz=>n (own q z)⟩⟩
 .obtain ⟨hj,e⟩:=at_ e (λz=>nomatch z)
  obtain ⟨v,e1,h⟩:=R.sh j d e
  exact ⟨v,by rw [c0Z (c2j hj)];exact e1,h.less oo⟩
 .obtain ⟨hj,e⟩:=at_ e (λz=>nomatch z)
  obtain ⟨p,xs,e1,e2,e3,h⟩:=R.ow j ds e
  exact ⟨p,xs,by rw [c0Z (c2j hj)];exact e1,e2,e3,h.less oo⟩
 .obtain ⟨hj,e⟩:=at_ e (λz=>nomatch z)
  obtain ⟨p,e1,e2,e3⟩:=R.dw j ds e
  exact ⟨p,by rw [c0Z (c2j hj)];exact e1,e2,e3⟩
 .obtain ⟨hj,e1⟩:=at_ e1 (λz=>by rw [z] at o1;exact o1)
  obtain ⟨hk,e2⟩:=at_ e2 (λz=>by rw [z] at o2;exact o2)
  rw [c0Z (c2j hj)] at e3
  rw [c0Z (c2j hk)] at e4
  exact R.sep j k ds es p e1 e2 e3 e4 o1 o2
end DL
namespace DL
open PySem PySem.Spec PyProof.Rows L2
structure Hx(X:Cx)(N:List Str)(sc:Scope):Prop where
 n:X.N=N
 sc:X.env.scope=sc
 fn:∀x,X.fn x=true
 nd:N.Nodup
noncomputable def sTry(i:Nat)(hit:Str->Bool)(Fb:SF)(rb:RF)(Fh:SF):SF:=λenv=>match Fb env with
 | some x=>some x
 | none=>match rb env with
  | none=>none
  | some (nm,env1)=>if hit nm=true/\i<env1.length then (match Fh (env1.set i (.sh (.exc nm))) with
    | some (fl,env2)=>some (fl,env2.set i .no)
    | none=>none) else none
section
variable {X:Cx}{N:List Str}{sc:Scope}{k i:Nat}{n Cn:Str}{hc:Value}{body suite:List Stmt}{b0:Stmt}{Fb Fh:SF}{rb:RF}{hit:Str->Bool}{np hpos pos:Pos}
theorem b8N(h:Fx X N sc k)(hi:N[i]?=some n)(hlo:sc.names.lookup n=some .local)(hg:Gl X Cn)(hm:X.mg Cn=some hc)
  (hcl:∀nm c,hit nm=true->X.mg nm=some c->∃C,c=.ref C/\c1s X.K mainGlobals nm=some (some (.ref C))/\c3K X.K (.ref C) hc=some true)
  (hb:∀X':Cx,X'.prog=X.prog->X'.w=X.w->X'.K=X.K->X'.mg=X.mg->X'.base=X.base->Fx X' N sc k->SVs X' body Fb)
  (hx:∀(X':Cx) (W:L2.St->Hp->Value->Prop),X'.prog=X.prog->X'.w=X.w->X'.K=X.K->X'.mg=X.mg->X'.base=X.base->Fx X'.nox N sc k->Xk X' W->XVs X' W body rb)
  (hh:∀X':Cx,X'.prog=X.prog->X'.w=X.w->X'.K=X.K->X'.mg=X.mg->X'.base=X.base->Hx X' N sc->SVs X' (b0::suite) Fh)
  (hdb:(Cn==("__debug__":Str))=false:=by decide):
  SV X (.Try body [.ExceptHandler (some (.Name Cn np)) (some n) (b0::suite) hpos] [] [] pos) (sTry i hit Fb rb Fh):=by
 refine ⟨λD σ H=>∃(O:Addr->Prop) (B:Hp) (env:En) (fl:Fl) (env':En),Rel X.K O B σ H env/\sTry i hit Fb rb Fh env=some (fl,env')/\EndOk X.K O B σ H env D fl env',λpins s σ H D I hw=>?_,λO B σ H env fl env' D R e q=>⟨O,B,env,fl,env',R,e,q⟩⟩
 obtain ⟨O,B,env,fl,env',R,e,q⟩:=hw
 refine wpAny_Try_except ?_
 unfold sTry at e
 cases hF:Fb env with
 | some x =>
  obtain ⟨f1,env1⟩:=x
  rw [hF] at e
  cases e
  obtain ⟨t,p,kk⟩:=hb X.nox rfl rfl rfl rfl rfl ⟨h.n,h.sc,h.calm,h.fn,c2s,h.room,h.nd,h.top⟩
  refine c1z (p pins s σ H D (I.wish _) (kk O B σ H env fl env' D R hF q)) (λf s1 hq=>?_) λ_ _ z=>c1b z
  have hq:=hq.unwish
  cases f with
  | next=>exact c3r hq
  | brk=>exact hq
  | cont=>exact hq
  | ret u=>exact hq
 | none =>
  rw [hF] at e
  dsimp only at e
  cases hr:rb env with
  | none=>rw [hr] at e;cases e
  | some y =>
  obtain ⟨nm,env1⟩:=y
  rw [hr] at e
  dsimp only at e
  obtain ⟨⟨hhit,hil⟩,e⟩:(hit nm=true/\i<env1.length)/\(match Fh (env1.set i (.sh (.exc nm))) with
    | some (fl,env2)=>some (fl,env2.set i .no)
    | none=>none)=some (fl,env'):=by
   split at e
   .rename_i hh;exact ⟨hh,e⟩
   .cases e
  cases hH:Fh (env1.set i (.sh (.exc nm))) with
  | none=>rw [hH] at e;cases e
  | some z =>
  obtain ⟨f2,env2⟩:=z
  rw [hH] at e
  cases e
  obtain ⟨hst,hfr,hex⟩:=h.top rfl
  have xk:Xk (pcx X pins λe s₁=>wpAny (model X.prog X.w) X.A (noteFrame e X.env) (λ_ s₂=>wpAny (model X.prog X.w) X.A (setFlight e none) (λ_ s₃=>wpAny (model X.prog X.w) X.A (handleBy e X.env [.ExceptHandler (some (.Name Cn np)) (some n) (b0::suite) hpos]) (SP X pins D) X.xe s₃) X.xe s₂) X.xe s₁)
    (λσ' H' c=>X.mg nm=some c/\Rel X.K O B σ' H' env1/\Gd σ env H σ' env1 H'):=by
   intro pins1 σ1 H1 s1 e1 s' I1 hc1
   obtain ⟨ea,c,H',rfl,os,bare,un,hok,⟨new,hun,T,newT,hT,tr⟩,hmc,R1,g1⟩:=hc1
   obtain ⟨C,rfl,hns,hexm⟩:=hcl nm c hhit hmc
   have I1':Inv X pins σ1 H1 s1:=b2L I.ok I1
   have J:Inv X pins σ1 H' s':=I1'.call' os un hok bare (by simp)
   have hl:=J.stack
   have hfree:=J.stkFree
   obtain ⟨a0,fly⟩:=b5Y tr hl
   have fresh:∀a,s1.heap.get? a=none->X.s₀.heap.get? a=none/\a≠X.env.locals/\(∀x c,X.env.cells.lookup x=some c->c≠a)/\∀p∈X.pn++pins,p.1≠a:=λa ha=>by
    refine ⟨a7A I1' hex ha,λz=>?_,λx c e z=>?_,λp hp z=>?_⟩
    .obtain ⟨m,⟨o,_,_,ho,_⟩,_⟩:=I1'.loc
     rw [<-z,ha] at ho;cases ho
    .obtain ⟨v,o,ho,_⟩:=I1'.cell x c e
     rw [z,ha] at ho;cases ho
    .have:=(I1'.pin p hp).1
     rw [z,ha] at this;cases this
   have n0:∀b∈[ea,T],X.s₀.heap.get? b=none/\b≠X.env.locals/\(∀x c,X.env.cells.lookup x=some c->c≠b)/\∀p∈X.pn++pins,p.1≠b:=λb z=>by
    rcases c0R.mp z with z | z
    .rw [z];exact fresh ea new
    .rw [c0Q.mp z];exact fresh T newT
   have hx0:∀b∈[ea,T],H' b=none:=λb z=>by
    rcases c0R.mp z with z | z
    .rw [z];exact hun
    .rw [c0Q.mp z];exact hT
   have hB:∀b o,s'.heap.get? b=some o->b∉frs X.stack->b∉[ea,T]->(hid2 s'.heap ea T X.stack).get? b=some o:=λb o q n1 n2 =>
    c3k _ q λz=>by
     rcases c0R.mp z with z | z
     .exact n2 (by simp [z])
     .rcases c0R.mp z with z | z
      .exact n2 (by simp [z])
      .exact n1 z
   have land:∀h5:Heap,(hid2 s'.heap ea T X.stack).StaysIn h5->s'.heap.UpToSlots h5->Inv X pins σ1 H' { s' with heap:=h5 }:=λh5 st up =>
    b67 J hex (a7o (H:=H') hl hB st (λ_ _ q=>q) up) (a59 hok _ hB st hfree hx0) n0
   show wpAny (model X.prog X.w) X.A (noteFrame (.ref ea) X.env) _ X.xe s'
   have fly':=fly
   rw [hst] at fly'
   refine wpAny_looks_onW (env:=X.env) (outer:=X.outer) (by rw [J.ok.frames,hst]) hfr fly' λh4 held up4=>?_
   refine wpAny_landsW held λh5 fl5 up5=>?_
   have J5:=land h5 (by rw [hst];exact fl5.1) (up4.trans up5)
   obtain ⟨ob,hob,hoc⟩:=fl5.there
   refine wpAny_handleBy_cons (codeAny_handlers_test ?_) (by intro q;cases q)
   refine a4h (X:=hcx X (.ref ea)) (b0B J5 _) hg hm ?_ hdb
   refine PySem.W.exm_one (e:=ea) (h:=h5) J5.kIn (hoc▸(PySem.W.Looks.ld hob).andThen .now) hexm _ _ _ _ (λ_ _ q=>q) ?_
   refine codeAny_handlers_suite_as ?_
   refine lands_againW fl5 λh6 fl6 up6=>?_
   have J6:=land h6 (by rw [hst];exact fl6.1) ((up4.trans up5).trans up6)
   obtain ⟨ob6,hob6,hoc6⟩:=fl6.there
   obtain ⟨f0,f1,f2',f3⟩:=fresh ea new
   have J7:=b2M (C:=C) J6 hun f0 ⟨ob6,hob6,hoc6⟩ (c2j λz=>f1 z.symm) f2' f3
   have hiX:X.N[i]?=some n:=h.ix hi
   have hkl:X.env.kindOf n=some .local:=by unfold c4C;rw [h.sc];exact hlo
   refine a5r (X:=hcx X (.ref ea)) (v:=.ref ea) (b0B J7 _) h.nod hiX (c1C hkl) rfl (λs8 J8=>?_) (c1C (h.fn rfl n))
   have sm:Same H' (upd H' ea (.ext (clsP ea C))):=λb o q=>by rw [a0q (a0A q hun)];exact q
   have R7:=R1.grow sm
   obtain ⟨R8,g8⟩:=R7.set (r:=.sh (.exc nm)) (Same.refl _) (Is.exc (p:=ea) (C:=C) (λz=>R1.oo z hun) hns a0V) hil
   have g18:=(g1.trans (Gd.refl sm)).trans g8
   obtain ⟨th,ph,kh⟩:=hh (hcx X (.ref ea)) rfl rfl rfl rfl rfl ⟨h.n,h.sc,h.fn rfl,h.nd⟩
   cases fl with
   | nx =>
    refine c1z (ph pins s8 _ _ { nx:=λσ' H2=>Rel X.K O B σ' H2 env2/\Gd σ env H σ' env2 H2,rt:=λ_ _=>False } J8 (kh O B _ _ _ .nx env2 _ R8 hH λσ' H2 R' g'=>⟨R',g18.trans g'⟩)) (λf s9 hq=>?_) λ_ _ z=>c1b z
    cases f with
    | next =>
     obtain ⟨σ9,H9,J9,R9,g9⟩:=hq
     obtain ⟨R10,g10⟩:=R9.drop i
     exact name_goes (a3Z J.ok J9) h.nod hiX hkl λs10 J10=>⟨_,H9,J10,q _ _ R10 (g9.trans g10)⟩
    | brk=>obtain ⟨_,_,_,z⟩:=hq;exact c1b z
    | cont=>obtain ⟨_,_,_,z⟩:=hq;exact c1b z
    | ret u=>obtain ⟨_,_,_,_,_,z⟩:=hq;exact c1b z
   | bk =>
    refine c1z (ph pins s8 _ _ { nx:=λ_ _=>False,bk:=λσ' H2=>Rel X.K O B σ' H2 env2/\Gd σ env H σ' env2 H2,rt:=λ_ _=>False } J8 (kh O B _ _ _ .bk env2 _ R8 hH λσ' H2 R' g'=>⟨R',g18.trans g'⟩)) (λf s9 hq=>?_) λ_ _ z=>c1b z
    cases f with
    | brk =>
     obtain ⟨σ9,H9,J9,R9,g9⟩:=hq
     obtain ⟨R10,g10⟩:=R9.drop i
     exact name_goes (a3Z J.ok J9) h.nod hiX hkl λs10 J10=>⟨_,H9,J10,q _ _ R10 (g9.trans g10)⟩
    | next=>obtain ⟨_,_,_,z⟩:=hq;exact c1b z
    | cont=>obtain ⟨_,_,_,z⟩:=hq;exact c1b z
    | ret u=>obtain ⟨_,_,_,_,_,z⟩:=hq;exact c1b z
   | ct =>
    refine c1z (ph pins s8 _ _ { nx:=λ_ _=>False,ct:=λσ' H2=>Rel X.K O B σ' H2 env2/\Gd σ env H σ' env2 H2,rt:=λ_ _=>False } J8 (kh O B _ _ _ .ct env2 _ R8 hH λσ' H2 R' g'=>⟨R',g18.trans g'⟩)) (λf s9 hq=>?_) λ_ _ z=>c1b z
    cases f with
    | cont =>
     obtain ⟨σ9,H9,J9,R9,g9⟩:=hq
     obtain ⟨R10,g10⟩:=R9.drop i
     exact name_goes (a3Z J.ok J9) h.nod hiX hkl λs10 J10=>⟨_,H9,J10,q _ _ R10 (g9.trans g10)⟩
    | next=>obtain ⟨_,_,_,z⟩:=hq;exact c1b z
    | brk=>obtain ⟨_,_,_,z⟩:=hq;exact c1b z
    | ret u=>obtain ⟨_,_,_,_,_,z⟩:=hq;exact c1b z
   | rt r =>
    refine c1z (ph pins s8 _ _ { nx:=λ_ _=>False,rt:=D.rt } J8 (kh O B _ _ _ (.rt r) env2 _ R8 hH λv H2 s2 r2=>q v H2 s2 r2)) (λf s9 hq=>?_) λ_ _ z=>c1b z
    cases f with
    | ret u =>
     obtain ⟨v,σ9,H9,J9,rv,z⟩:=hq
     exact name_goes (a3Z J.ok J9) h.nod hiX hkl λs10 J10=>⟨v,_,H9,J10,rv,z⟩
    | next=>obtain ⟨_,_,_,z⟩:=hq;exact c1b z
    | brk=>obtain ⟨_,_,_,z⟩:=hq;exact c1b z
    | cont=>obtain ⟨_,_,_,z⟩:=hq;exact c1b z
  obtain ⟨t,p,kk⟩:=hx (pcx X pins _) _ rfl rfl rfl rfl rfl ⟨h.n,h.sc,h.calm,h.fn,c2s,h.room,h.nd,h.top⟩ xk
  refine c1z (p [] s σ H { nx:=λ_ _=>False,rt:=λ_ _=>False } (b66 I _) (kk O B σ H env nm env1 _ R hr λσ' H' c hc1 R' g'=>⟨hc1,R',g'⟩)) (λf s1 hq=>?_) λ_ _ z=>z
  cases f with
  | next=>obtain ⟨_,_,_,z⟩:=hq;exact c1b z
  | brk=>obtain ⟨_,_,_,z⟩:=hq;exact c1b z
  | cont=>obtain ⟨_,_,_,z⟩:=hq;exact c1b z
  | ret u=>obtain ⟨_,_,_,_,_,z⟩:=hq;exact c1b z
end
end DL
namespace DL
open PySem PySem.W PySem.Spec PySem.Calls PyProof.Rows L2 PySem.Builtin.ObjectAttr PySem.Builtin PySem.Builtin.Getset_descriptor
section
variable {prog:Program}{w:World}{A:Around}{E:Value->Shared->Prop}{s:Shared}{K:Frag}{x C:Addr}
theorem a7I(p:clsP x C h)(M:Model):Looks M h (typeOf (.ref x)) (.ref C):=by
 obtain ⟨o,h1,h2⟩:=p
 exact h2▸(Looks.ld h1).andThen .now
structure ClsK(K:Frag)(C:Addr):Prop where
 ga:findIn K (.ref C) "__getattribute__" = some (some (.builtin "BaseException.__getattribute__"))
 no:findIn K (.ref C) "__getattr__" = some none
 at_:findIn K (.ref C) "__class__" = some (some (.builtin "object.__class__"))
 get:specialIn K (.builtin "object.__class__") "__get__" = some (some (.builtin "getset_descriptor.__get__"))
 tk:takesIn K (.builtin "object.__class__")=some true
 mro:mroIn K C (.type "object")=some true
 mrB:mroIn K C (.type "BaseException")=some true
theorem b1q(k:ClsK K C)(X:K.In h):Looks M h (find (.ref x) (.ref C) "__class__") (.bind (.builtin "getset_descriptor.__get__") (.builtin "object.__class__")):=by
 have d:Looks M h (dataDescriptor? (some (.builtin "object.__class__")) (some (.builtin "getset_descriptor.__get__"))) (some (.builtin "getset_descriptor.__get__",.builtin "object.__class__")):=
  (looks_takesIn X k.tk).andThen .now
 exact (looks_findIn X k.at_).andThen ((show Looks M h (getOf (some (.builtin "object.__class__"))) (some (.builtin "getset_descriptor.__get__")) from looks_specialIn X k.get).andThen (d.andThen (Looks.tag .now)))
theorem b7g(k:ClsK K C)(X:K.In s.heap)(p:clsP x C s.heap)(q:R (.ok (.ret (.ref C))) s):
  codeAny (model prog w) A (.call (.builtin "getset_descriptor.__get__") ⟨[.builtin "object.__class__",.ref x,tp],[]⟩) R s:=by
 obtain ⟨hp,gs,dr,tk,os⟩:=s
 have T0:=a7I p (model prog w)
 have T1:=looks_mroIn (M:=model prog w) X k.mro
 refine codeAny_call_builtin KF.slot_gs.plain KF.entry_gs ?_
 refine KF.slot_gs.check _ _ _ _ _ _ _ _ KF.type_class (KF.args_gs _ _ _) ?_
 unfold Builtin.«getset_descriptor.__get__» descrGet
 rw [dga_obj]
 apply c0K
 apply c0X
 unfold descrGetter descrCheckInstance descrNameAndClass isInstance
 simp only [KF.owner_class]
 repeat lk
 refine ⟨Code.quiet_builtin _ (by decide +kernel),?_⟩
 apply c2t KF.entry_class
 unfold Builtin.«object.__class__» shownTypeOf
 repeat lk
 exact q
theorem b9Q(k:ClsK K C)(X:K.In s.heap)(p:clsP x C s.heap)(q:R (.ok (.ret (.ref C))) s):
  codeAny (model prog w) A (.call (.builtin "BaseException.__getattribute__") ⟨[.ref x,.str "__class__" tk],[]⟩) R s:=by
 obtain ⟨hp,gs,dr,tt,os⟩:=s
 have T0:=a7I p (model prog w)
 have T2:=b1q (M:=model prog w) (x:=x) k X
 have T4:=looks_mroIn (M:=model prog w) X k.mrB
 have kd:builtinKind "BaseException.__getattribute__" = some .slot:=by decide +kernel
 have sp:splitId "BaseException.__getattribute__" = some ("BaseException","__getattribute__"):=by decide +kernel
 have ar:=F.args_bexc_ga (.ref x) (.str "__class__" tk)
 refine codeAny_call_builtin F.attr_ValueError.ga.plain F.entry_bexc_ga ?_
 have ti:Looks (model prog w) hp (isInstance (.ref x) (.type "BaseException")) true:=T0.andThen T4
 simp only [checkBuiltinCall,kd,sp]
 refine c0K (ti.at ?_)
 simp only [c4I,c1v,if_false]
 refine c4F ar ?_
 unfold Builtin.«object.__getattribute__»
 apply c0K
 refine c4F (a:=(c1k x,[Value.str "__class__" tk])) rfl ?_
 apply c0K
 apply c0X
 refine c0K (T0.at ?_)
 refine c0K (T2.at ?_)
 show wpAny _ _ (holding [.builtin "object.__class__"] (call (.builtin "getset_descriptor.__get__") [.builtin "object.__class__",.ref x,.ref C]) >>= ret) _ _ _
 apply c0K
 apply c1V
 apply c4z
 refine b7g (s:=⟨hp,gs,dr,tt,os⟩) k X p ?_
 apply c0X
 exact q
theorem b2V(k:ClsK K C)(X:K.In s.heap)(p:clsP x C s.heap)(q:Q (some (.ref C)) { s with toks:=s.toks+1 }):wpAny (model prog w) A (getAttr? (.ref x) "__class__") Q E s:=by
 obtain ⟨hp,gs,dr,tk,os⟩:=s
 have T0:=a7I p (model prog w)
 have T1:=looks_findIn (M:=model prog w) X k.ga
 have T3:=looks_findIn (M:=model prog w) X k.no
 have b:=F.attr_ValueError.ga.bind (.ref x)
 unfold getAttr? getAttrBy? getAttrBy
 apply c0K
 apply wpAny_mkText
 apply c0K
 apply c26
 apply c1V
 refine c0K (T0.at ?_)
 refine c0K (T1.at ?_)
 have ne:(c4L "BaseException.__getattribute__" == c4L "object.__getattribute__")=false:=by decide +kernel
 have ne':(onTheHeap (c1k C)&&c4L "BaseException.__getattribute__" == c4L "object.__getattribute__")=false:=by rw [ne];rfl
 dsimp only
 rw [ne']
 simp only [c1v,if_false]
 unfold getAttrByItsOwn hookBefore
 have oh:onTheHeap (c1k C)=true:=rfl
 rw [oh,if_pos rfl]
 refine c0K (T3.at ?_)
 apply c0K
 apply c26
 apply c1V
 unfold callGetattribute boundAndCalled
 simp only [c4s,c1v,if_false]
 refine c0K (c4F b ?_)
 apply c4z
 refine b9Q (s:=⟨hp,gs,dr,tk+1,os⟩) k X p ?_
 refine handed_on rfl ?_
 exact c0X q
theorem b6Y(k:ClsK K C)(cd:(clsIn K C).isSome=true):KitX K (.ref x) (.ref C) (clsP x C) where
 ty:=λM h _ p=>a7I p M
 it:=λM h X p=>by
  unfold clsIn at cd
  split at cd
  .rename_i ho
   intro A' Q' E' s' kp q
   unfold isType loadHead
   apply c0K
   exact wpAny_loadPart (kp _ _ (X _ _ ho)) (c0X q)
  .cases cd
 ne:=λh tp dd its n sl X htp=>by
  rw [Bool.eq_false_iff]
  intro q
  obtain rfl:C=tp:=Value.ref.inj (beq_iff_eq.mp q)
  unfold clsIn at cd
  split at cd
  .rename_i ho
   have z:=(X _ _ ho).symm.trans htp
   cases z
  .cases cd
 ca:=λX p q=>b2V k X p q
end
section
variable {X:Cx}{a:Expr}{pos p p2:Pos}{fa:En->Option Sl}
def rIsX(K:Frag)(c:Value)(cv:V):List V->Hp->VK->Prop:=λxs H Q=>∃p C b,xs=[.ref p,cv]/\H p=some (.ext (clsP p C))/\ClsK K C/\(clsIn K C).isSome=true/\kitOne K (.ref C) c=some b/\Q (.bl b) H
theorem b0W(hr:∀u,RelV cv u->u=c):CallR X (.builtin "isinstance") (rIsX X.K c cv):=by
 intro pins s σ H xs us Q I r h
 obtain ⟨p,C,b,rfl,hp,k,cd,e,q⟩:=h
 obtain ⟨u,w',rfl,r1,r2⟩:=vals2 r
 obtain rfl:=hr w' r2
 obtain rfl:u=c1k p:=r1
 obtain ⟨hc,_,_⟩:=I.hok p _ hp
 exact kia_one (b6Y k cd) I.kIn hc e (by intro z;cases z) λtk=>⟨.bl b,H,I.tok _,rfl,q⟩
noncomputable def eIsX(tab:Str->Option Bool)(f:En->Option Sl):En->Option Sl:=λenv=>(f env).bind λr=>match r.d with
 | .exc n=>(tab n).map λb=>.sh (.bl b)
 | _=>none
theorem b5U{K:Frag}{O:Addr->Prop}{H:Hp}{v:V}{n:Str}(h:Is K O H v (.exc n)):∃p C,v=.ref p/\nsIn K mainGlobals n=some (some (.ref C))/\H p=some (.ext (clsP p C)):=by
 cases h with
 | exc ho hn hp=>exact ⟨_,_,rfl,hn,hp⟩
theorem b52(hg:Gl X "isinstance")(hm:X.mg "isinstance" = none)(hg2:Gl X x)(hm2:X.mg x=some (.ref C2))
  (ht:∀n b C,tab n=some b->nsIn X.K mainGlobals n=some (some (.ref C))->ClsK X.K C/\(clsIn X.K C).isSome=true/\kitOne X.K (.ref C) (.ref C2)=some b)(ha:EV X a fa)
  (hd:(x==("__debug__":Str))=false:=by decide)
  (hs:starEach [a,.Name x p2] X.env=[(false,eval a X.env),(false,eval (.Name x p2) X.env)]:=by rfl)(hs2:starEach [.Name x p2] X.env=[(false,eval (.Name x p2) X.env)]:=by rfl):
  EV X (.Call (.Name "isinstance" p) [a,.Name x p2] [] pos) (eIsX tab fa):=by
 obtain ⟨t,pt,k⟩:=ha
 have pn:PE X (.Name x p2) (λ_ H Q=>Q (.ref C2) H):=λpins s σ H Q I h=>a4h I hg2 hm2 ⟨.ref C2,H,I,rfl,h⟩ hd
 refine ⟨_,a22 (b0W (c:=.ref C2) (cv:=.ref C2) λu r=>r) hg hm (by decide +kernel) (a2i pt (a2i pn a3I hs2) (by rw [hs,hs2])) (by decide) (by decide) (by rw [hs,hs2]) (by rw [hs2];rfl),λO B σ H env s Q R e q=>?_⟩
 obtain ⟨r,e1,e2⟩:=bind_some e
 refine k O B σ H env r _ R e1 λv H1 s1 r1=>?_
 have hi:=r1.is λq=>R.oo
 cases hd:r.d with
 | exc n =>
  rw [hd] at e2 hi
  obtain ⟨b,e3,e4⟩:=map_some e2
  subst e4
  obtain ⟨pp,C,rfl,hn,hp⟩:=b5U hi
  obtain ⟨c1,c2,c3⟩:=ht n b C e3 hn
  exact ⟨pp,C,b,rfl,hp,c1,c2,c3,q _ H1 s1 (Is.bl _)⟩
 | _=>rw [hd] at e2;cases e2
theorem b7k(hg:Gl X "isinstance")(hm:X.mg "isinstance" = none)(hg2:Gl X x)(hm2:X.mg x=none)(hv:bootBuiltins x=some (.type T))
  (ht:∀n b C,tab n=some b->nsIn X.K mainGlobals n=some (some (.ref C))->ClsK X.K C/\(clsIn X.K C).isSome=true/\kitOne X.K (.ref C) (.type T)=some b)(ha:EV X a fa)
  (hn:x ≠ "__name__":=by decide)(hd:(x==("__debug__":Str))=false:=by decide)
  (hs:starEach [a,.Name x p2] X.env=[(false,eval a X.env),(false,eval (.Name x p2) X.env)]:=by rfl)(hs2:starEach [.Name x p2] X.env=[(false,eval (.Name x p2) X.env)]:=by rfl):
  EV X (.Call (.Name "isinstance" p) [a,.Name x p2] [] pos) (eIsX tab fa):=by
 obtain ⟨t,pt,k⟩:=ha
 refine ⟨_,a22 (b0W (c:=.type T) (cv:=.ty T) λu r=>r) hg hm (by decide +kernel) (a2i pt (a2i (b6F (v:=.ty T) hg2 hm2 hv rfl hn hd) a3I hs2) (by rw [hs,hs2])) (by decide) (by decide) (by rw [hs,hs2]) (by rw [hs2];rfl),λO B σ H env s Q R e q=>?_⟩
 obtain ⟨r,e1,e2⟩:=bind_some e
 refine k O B σ H env r _ R e1 λv H1 s1 r1=>?_
 have hi:=r1.is λq=>R.oo
 cases hd:r.d with
 | exc n =>
  rw [hd] at e2 hi
  obtain ⟨b,e3,e4⟩:=map_some e2
  subst e4
  obtain ⟨pp,C,rfl,hn,hp⟩:=b5U hi
  obtain ⟨c1,c2,c3⟩:=ht n b C e3 hn
  exact ⟨pp,C,b,rfl,hp,c1,c2,c3,q _ H1 s1 (Is.bl _)⟩
 | _=>rw [hd] at e2;cases e2
end
section
variable {X:Cx}{N:List Str}{sc:Scope}{pos p p1 p2 pos' cpos:Pos}{e a b:Expr}{fa fb:En->Option Sl}
theorem Hx.v(h:Hx X N sc)(i:Nat)(hN:N[i]?=some x:=by rfl)(hv:Vis sc x:=by first | exact c1C rfl | exact c1q (c1C rfl) | exact c1q (c1q rfl))(hd:(x==("__debug__":Str))=false:=by rfl)
  (hcd:(x==("__classdict__":Str))=false:=by rfl):EV X (.Name x pos) (eV i):=b51 i (by rw [h.n];exact hN) (by rw [h.sc];exact hv) hd hcd
theorem Hx.g(h:Hx X N sc)(hg:sc.names.lookup x=some .globalImplicit:=by rfl):Gl X x:=by
 show X.env.kindOf x=some .globalImplicit
 unfold c4C
 rw [h.sc]
 exact hg
theorem Hx.set(h:Hx X N sc)(i:Nat)(he:EV X e fa)(hN:N[i]?=some x:=by rfl)(hv:Loc sc x:=by first | exact c1C rfl | exact c1q rfl)
  (hs:swapsWith e (some (.Name x pos')) pos.line X.env=pure false:=by rfl):SV X (.Assign [.Name x pos'] e pos) (sSet i fa):=b5G (by rw [h.n];exact h.nd) (by rw [h.n];exact hN) (by rw [h.sc];exact hv) he hs (.inl (h.fn x))
theorem Hx.app(h:Hx X N sc)(i:Nat)(ha:EV X e fa)(hN:N[i]?=some x:=by rfl)(hv:Vis sc x:=by first | exact c1C rfl | exact c1q (c1C rfl) | exact c1q (c1q rfl))(hd:(x==("__debug__":Str))=false:=by rfl)
  (hcd:(x==("__classdict__":Str))=false:=by rfl)(hs:starEach [e] X.env=[(false,eval e X.env)]:=by rfl)
  (hbase:attributeBase (.Name x p1) "append" X.env (eval (.Name x p1) X.env)=eval (.Name x p1) X.env:=by rfl)
  (hfew:((backTo cpos (starEach [e] X.env)).all (λx=>!x.1)&&(backToKw cpos (keywordEach [] X.env)).all (λx=>x.1.isSome)
   && decide ([e].length+([]:List Keyword).length+(if ([]:List Keyword).isEmpty then 0 else 1)<30))=true:=by rfl)
  (hline:(p2.endLine==cpos.line)=true:=by rfl)
  (hsw:swapsWith (.Call (.Attribute (.Name x p1) "append" p2) [e] [] cpos) none pos.line X.env=pure false:=by rfl):
  SV X (.Expr (.Call (.Attribute (.Name x p1) "append" p2) [e] [] cpos) pos) (sApp i fa):=a76 ha (by rw [h.n];exact hN) (by rw [h.sc];exact hv) hd hcd hs hbase hfew hline hsw
end
structure Cl(K:Frag)(mg:Str->Option Value)(x:Str)(C:Addr):Prop where
 ns:nsIn K mainGlobals x=some (some (.ref C))
 m:mg x=some (.ref C)
 ck:ClsK K C
 cd:(clsIn K C).isSome=true
def b8w(K:Frag)(c:Value)(tab:Str->Option Bool):Prop:=∀n b C,tab n=some b->nsIn K mainGlobals n=some (some (.ref C))->ClsK K C/\(clsIn K C).isSome=true/\kitOne K (.ref C) c=some b
noncomputable def b3N:Str->Option Bool:=λ_=>none
noncomputable def a74(x:Str)(b:Bool)(tab:Str->Option Bool):Str->Option Bool:=λn=>if n=x then some b else tab n
theorem a9i{K:Frag}{c:Value}:b8w K c b3N:=λn b C e _=>by cases e
theorem a3V{K:Frag}{mg:Str->Option Value}{c:Value}{x:Str}{C:Addr}{b:Bool}{tab:Str->Option Bool}(k:Cl K mg x C)(s:kitOne K (.ref C) c=some b)(r:b8w K c tab):b8w K c (a74 x b tab):=λn b' C' e hn=>by
 unfold a74 at e
 split at e
 .rename_i h
  subst h
  cases e
  obtain rfl:C=C':=by have:=k.ns.symm.trans hn;cases this;rfl
  exact ⟨k.ck,k.cd,s⟩
 .exact r n b' C' e hn
def b8x(K:Frag)(mg:Str->Option Value)(hc:Value)(hit:Str->Bool):Prop:=∀nm c,hit nm=true->mg nm=some c->∃C,c=.ref C/\nsIn K mainGlobals nm=some (some (.ref C))/\exmOne K (.ref C) hc=some true
noncomputable def b9H:Str->Bool:=λ_=>false
noncomputable def b4E(x:Str)(hit:Str->Bool):Str->Bool:=λn=>decide (n=x)||hit n
theorem b7a{K:Frag}{mg:Str->Option Value}{hc:Value}:b8x K mg hc b9H:=λn c e _=>by cases e
theorem b0E{K:Frag}{mg:Str->Option Value}{hc:Value}{x:Str}{C:Addr}{hit:Str->Bool}(k:Cl K mg x C)(s:exmOne K (.ref C) hc=some true)(r:b8x K mg hc hit):b8x K mg hc (b4E x hit):=λn c e hm=>by
 unfold b4E at e
 by_cases h:n=x
 .subst h
  obtain rfl:c=.ref C:=by have:=hm.symm.trans k.m;cases this;rfl
  exact ⟨C,rfl,k.ns,s⟩
 .exact r n c (by simpa [h] using e) hm
theorem Fx.nox{X:Cx}{N:List Str}{sc:Scope}{k:Nat}{full:Bool}(h:Fx X N sc k full):Fx X.nox N sc k full:=⟨h.n,h.sc,h.calm,h.fn,c2s,h.room,h.nd,h.top⟩
theorem Hx.setF{X:Cx}{N:List Str}{sc:Scope}{pos pos':Pos}{e:Expr}{fa:En->Option Sl}(h:Hx X N sc)(i:Nat){x:Str}(he:EV X e fa)(hN:N[i]?=some x:=by rfl)(hv:Loc sc x:=by first | exact c1C rfl | exact c1q rfl)
  (hs:swapsWith e (some (.Name x pos')) pos.line X.env=pure false:=by rfl):SV X (.Assign [.Name x pos'] e pos) (a0x i fa):=b1S (by rw [h.n];exact h.nd) (by rw [h.n];exact hN) (by rw [h.sc];exact hv) he hs (.inl (h.fn x))
theorem a9b:Wo (a6O env) Q↔False:=a0u
end DL
namespace DL
open PySem PySem.Spec PyProof.Rows L2
theorem b7f{P:Program}{w:World}{K:c0L}{mg:Str->Option Value}{base:Heap}{k n:Nat}{f:Addr}{fd:FuncData}{ps:List Str}{φ:List D->Option Sl}(h:∀ds r,φ ds=some r->False):FnOk P w K mg base CX0 k f fd ps (spD K n φ):=
 ⟨λvs H Q E q=>by obtain ⟨O,ds,r,_,_,_,e,_⟩:=q;exact (h ds r e).elim,λA outer s H args us vs Q E _ _ _ _ q=>by obtain ⟨O,ds,r,_,_,_,e,_⟩:=q;exact (h ds r e).elim⟩
section
variable {X:Cx}{W:L2.St->Hp->Value->Prop}{it tg:Expr}{re:En->Option Str}{pos:Pos}
end
theorem b6G{P:Program}{w:World}{K:c0L}{mg:Str->Option Value}{base:Heap}{x:Str}{st:Stmt}{ps:List Str}{j:Nat}{f:Addr}{fd:FuncData}(D':Def K mg x st ps f fd):Oz P w K mg base x st ps j λ_=>none:=⟨f,fd,D',b7f λ_ _ z=>nomatch z⟩
end DL
namespace DL
open PySem PySem.Spec PyProof.Rows L2
section
variable {prog:Program}{w:World}{A:Around}{R:Result->Shared->Prop}{I:Addr}{fp wr:List Addr}{n:Nat}{P:Nat->Value->Prop}{St:Nat->Heap->Prop}
def CmpH(prog:Program)(w:World)(A:Around)(P:Nat->Value->Prop)(KH:Heap->Prop)(bt:Nat->Nat->Bool):Prop:=∀i j x y (s:Shared) (Q:Value->Shared->Prop) (E:Value->Shared->Prop),P i x->P j y->KH s.heap->Q (.bool (bt i j)) s->wpAny (model prog w) A (richCompare .Lt x y) Q E s
theorem minH(W:Walks prog w A.in1 I fp wr n P St)(bt:Nat->Nat->Bool)(cmp:CmpH prog w A.in1 P KH bt)(S:Addr)(nS:S∉fp)
  (kk:∀h h':Heap,KH h->(∀b o,b∉wr->b≠S->h.get? b=some o->h'.get? b=some o)->KH h'):
  ∀(m j:Nat) (s:Shared) (best:Value) (c:Nat),n-(j+1)=m->j+1<=n->St (j+1) s.heap->KH s.heap->P (argBest bt j) best->s.heap.get? S=some { cls:=.type "list",dict:=none,data:=.seq #[best,best] c,slots:=#[] } ->
  (∀v h' tk,P (argBest bt (n-1)) v->(∀b o,b∉wr->b≠S->s.heap.get? b=some o->h'.get? b=some o)->R (.ok (.ret v)) { s with heap:=h',toks:=tk })->codeAny (model prog w) A (.builtin "min.loop" ⟨[.ref I,.none,.ref S],[]⟩) R s:=by
 have nw:S∉wr:=λz=>nS (W.sub _ z)
 have nm:(toString "min" ++ toString ".loop":String) = "min.loop":=by decide
 intro m
 induction m with
 | zero =>
  intro j s best c e1 e2 st kh pb hS hR
  have ej:j+1=n:=by lia
  apply c2t c4U
  rw [c18 c2z]
  show wpAny _ A.in1 (seqItems? (.ref S) >>= _) _ _ _
  apply c0K
  refine c14 hS rfl ?_
  show wpAny _ A.in1 (tryCatch (pyNext (.ref I)) _ >>= _) _ _ _
  apply c0K
  refine c4v (W.done s _ _ (ej▸st) λh1 tk k1=>?_)
  have hS1:=k1 S _ nw hS
  show wpAny _ A.in1 (updateSeq S (λ_=>#[]) >>= _) _ _ ⟨_,_,_,_,_⟩
  apply c0K
  refine c5c hS1 rfl ?_
  apply c0K
  refine c3l (c0X ?_)
  exact hR best _ tk (by rw [<-ej];exact pb) λb o nb nbS e=>(c1p _ _ (c2j nbS)).trans (k1 b o nb e)
 | succ m ih =>
  intro j s best c e1 e2 st kh pb hS hR
  have lt:j+1<n:=by lia
  apply c2t c4U
  rw [c18 c2z]
  show wpAny _ A.in1 (seqItems? (.ref S) >>= _) _ _ _
  apply c0K
  refine c14 hS rfl ?_
  show wpAny _ A.in1 (tryCatch (pyNext (.ref I)) _ >>= _) _ _ _
  apply c0K
  refine c4v (W.item (j+1) s _ _ lt st λv h1 tk pv st1 k1=>?_)
  have hS1:=k1 S _ nw hS
  have kh1:KH h1:=kk _ _ kh λb o nb _ e=>k1 b o nb e
  show wpAny _ A.in1 (tryCatch (holding [v,v] (richCompare .Lt v best >>= _)) _ >>= _) _ _ ⟨_,_,_,_,_⟩
  apply c0K
  refine c4v (c1V ?_)
  apply c0K
  refine cmp (j+1) (argBest bt j) v best _ _ _ pv pb kh1 ?_
  apply c0K
  refine c1V (c2G ?_)
  apply c0K
  refine c3l (c0X ?_)
  cases hb:bt (j+1) (argBest bt j) with
  | true =>
   simp only [if_true]
   apply c0K
   refine c5c hS1 rfl ?_
   apply c0K
   apply c3l
   rw [nm]
   have k2:∀b o,b≠S->h1.get? b=some o->(h1.update S λx=>{ x with data:=.seq #[v,v] (c+1) }).get? b=some o:=λb o nb e=>(c1p _ _ (c2j nb)).trans e
   refine c0X ⟨c27 c2z _,ih (j+1) _ v _ (by lia) lt (W.frame _ _ _ st1 λb bf o e=>?_) (kk _ _ kh1 λb o nb nbS e=>?_) (by simp only [argBest,hb,if_true];exact pv) (c21 _ hS1 rfl) λv2 h2 tk2 pv2 k2=>?_⟩
   .exact (c1p _ _ (λz:S=b=>nS (z▸bf))).trans e
   .exact (c1p _ _ (c2j nbS)).trans e
   .exact hR v2 h2 tk2 pv2 λb o nb nbS e=>k2 b o nb nbS ((c1p _ _ (c2j nbS)).trans (k1 b o nb e))
  | false =>
   simp only [c1v,if_false]
   apply c0K
   apply c3l
   rw [nm]
   refine c0X ⟨c27 c2z _,ih (j+1) _ best c (by lia) lt st1 kh1 (by simp only [argBest,hb,c1v,if_false];exact pb) hS1 λv2 h2 tk2 pv2 k2=>?_⟩
   exact hR v2 h2 tk2 pv2 λb o nb nbS e=>k2 b o nb nbS (k1 b o nb e)
theorem b3f
  (h:wpAny (model prog w) A.in1 (pyIter x) (λit s2=>∃I fp wr n P St bt KH,it=.ref I/\Walks prog w A.in1 I fp wr n P St/\St 0 s2.heap/\(∀b∈fp,b<s2.heap.objs.size)/\0<n/\CmpH prog w A.in1 P KH bt /\
   (∀h h':Heap,KH h->(∀b o,b∉wr->b≠s2.heap.objs.size->h.get? b=some o->h'.get? b=some o)->KH h')/\KH s2.heap /\
   ∀v h' tk,P (argBest bt (n-1)) v->(∀b o,b∉wr->s2.heap.get? b=some o->h'.get? b=some o)->Q v { s2 with heap:=h',toks:=tk }) E s):
  wpAny (model prog w) A (call (.builtin "min") [x]) Q E s:=by
 have nm:(toString "min" ++ toString ".loop":String) = "min.loop":=by decide
 apply call_function_tree F.kind_min F.plain_min F.entry_min (F.args_min1 _)
 show wpAny _ A.in1 (Builtin.Builtins.bindParams "min" ["key","default"] 0 ⟨[],[]⟩ >>= _) _ _ _
 apply c0K
 refine c4F (a:=[none,none]) rfl ?_
 apply c0K
 apply c0X
 apply c0K
 refine thn h λit s2 h2=>?_
 obtain ⟨I,fp,wr,n,P,St,bt,KH,rfl,W,st,hfp,hn,cmp,kk,kh,hQ⟩:=h2
 apply c0K
 refine c12 ?_
 have nS:s2.heap.objs.size∉fp:=λz=>c16 _ (hfp _ z)
 have nw:s2.heap.objs.size∉wr:=λz=>nS (W.sub _ z)
 rw [nm]
 refine c0X ⟨c27 c2z _,?_⟩
 apply c2t c4U
 rw [c18 c2z]
 show wpAny _ A.in1 (seqItems? (.ref s2.heap.objs.size) >>= _) _ _ ⟨_,_,_,_,_⟩
 apply c0K
 refine c14 (c0Y _ rfl) rfl ?_
 show wpAny _ A.in1 (tryCatch (pyNext (.ref I)) _ >>= _) _ _ _
 apply c0K
 refine c4v (W.item 0 _ _ _ hn (W.frame _ _ _ st λb _ o e=>c0M _ e) λv h1 tk pv st1 k1=>?_)
 have hS1:=k1 _ _ nw (c0Y _ rfl)
 show wpAny _ A.in1 (updateSeq s2.heap.objs.size (λ_=>#[v,v]) >>= _) _ _ ⟨_,_,_,_,_⟩
 apply c0K
 refine c5c hS1 rfl ?_
 rw [nm]
 have k01:∀b o,b∉wr->s2.heap.get? b=some o->h1.get? b=some o:=λb o nb e=>k1 b o nb (c0M _ e)
 refine c0X ⟨c27 c2z _,minH W bt cmp _ nS kk _ 0 _ v _ rfl hn (W.frame _ _ _ st1 λb bf o e=>?_) (kk _ _ kh λb o nb nbS e=>?_) pv (c21 _ hS1 rfl) λv2 h2 tk2 pv2 k2=>?_⟩
 .exact (c1p _ _ (λz:s2.heap.objs.size=b=>nS (z▸bf))).trans e
 .exact (c1p _ _ (c2j nbS)).trans (k01 b o nb e)
 .exact hQ v2 h2 tk2 pv2 λb o nb e=>k2 b o nb (c09 (c0W e)) ((c1p _ _ (c2j (c09 (c0W e)))).trans (k01 b o nb e))
end
noncomputable def minT:List (List Int)->List Int
 | []=>[]
 | x::r=>r.foldl (λm y=>if HT.lexLt y m then y else m) x
theorem b57(ns:List (List Int)):∀j,j<ns.length->argBest (λi j=>HT.lexLt (ns.getD i []) (ns.getD j [])) j<ns.length/\ns.getD (argBest (λi j=>HT.lexLt (ns.getD i []) (ns.getD j [])) j) []=minT (ns.take (j+1))
 | 0,h=>by
  refine ⟨h,?_⟩
  cases ns with
  | nil=>cases h
  | cons n r=>rfl
 | j+1,h=>by
  obtain ⟨h1,h2⟩:=b57 ns j (by lia)
  have e:ns.take (j+1+1)=ns.take (j+1)++[ns.getD (j+1) []]:=by rw [List.take_add_one];simp [h]
  have e2:minT (ns.take (j+1+1))=if HT.lexLt (ns.getD (j+1) []) (minT (ns.take (j+1))) then ns.getD (j+1) [] else minT (ns.take (j+1)):=by
   rw [e]
   cases ns with
   | nil=>cases h
   | cons n r=>simp only [List.take_succ_cons,c3V,minT,c3F,c2f,List.foldl_nil];rfl
  rw [e2,<-h2]
  simp only [argBest]
  split
  .exact ⟨h,rfl⟩
  .exact ⟨h1,rfl⟩
section
variable {X:Cx}{a b:Expr}{ba:En->Option (Bool×List D)}{fa fb:En->Option Sl}{p pos:Pos}{W:L2.St->Hp->Value->Prop}{re:En->Option Str}
theorem b0C:∀{ns:List Int} {its:List Value},Vals (ns.map V.int) its->IntsAre its ns
 | [],_,.nil=>.nil
 | n::r,_,.cons h t=>by obtain ⟨u,rfl⟩:=h;exact .cons _ _ (b0C t)
theorem b7h(h:Fx X.nox N sc k full)(C:CompScope N sc N' caps nt sc')(he:EX X W iter re)
  (hfs:∀x,foldedSetIterable iter X.env x=pure x:=by intro _;rfl):EX X W (.ListComp elt [⟨tg,iter,ifs,0⟩] sc' pos) re:=by
 obtain ⟨t,p,k'⟩:=he
 refine ⟨λσ H _=>t σ H λ_ _=>False,λpins s σ H Q I hw=>?_,λO B σ H env nm Q R e q=>k' O B σ H env nm _ R e q⟩
 have hclos:closureFor sc' X.env=pure (clOf X.env.cells sc'.names []):=a3o λy hy hf=>I.ok.has y.1 (by
  show X.env.scope.names.lookup y.1=_\/X.env.scope.names.lookup y.1=_
  have:=h.sc
  rw [show X.env.scope=sc from this]
  exact C.free y hy hf)
 rw [eval_ListComp]
 exact c3p (use:=none) rfl hfs hclos C.kind C.loc (thn (p pins s σ H (λ_ _=>False) I hw) λxv s1 h1=>by
  obtain ⟨_,_,_,_,z⟩:=h1
  exact c1b z)
end
end DL
namespace DL
open PySem PySem.Spec PyProof.Rows L2
section
variable {X:Cx}{a b c:Expr}{pos:Pos}{fa fb fc:En->Option Sl}
end
end DL
namespace DL
open PySem PySem.Spec PyProof.Rows L2
section
variable {X X':Cx}
def GcI(mg:Str->Option Value)(x:Str)(n:Int):Prop:=∃t,mg x=some (.int n t)
theorem a7C(hg:Gl X x)(hm:GcI X.mg x n)(hd:(x==("__debug__":Str))=false:=by decide):EV X (.Name x pos) (eC (.int n)):=by
 obtain ⟨t,hm⟩:=hm
 refine ⟨_,b6D (v:=.int n) hg hm ⟨t,rfl⟩ hd,λO B σ H env s Q R e q=>?_⟩
 cases e
 exact q _ H (Same.refl _) (Is.int _)
end
section
variable {X:Cx}{N:List Str}{sc:Scope}{k:Nat}{full:Bool}{pos pos':Pos}{e:Expr}{fa:En->Option Sl}
noncomputable def b08(C:Int->Int->Prop)[∀i j,Decidable (C i j)](g:Int->Int->Int)(i:Nat)(f:En->Option Sl):SF:=λenv=>match env[i]? with
 | some (.sh (.int m))=>match f env with
  | some (.sh (.int n))=>if C m n then some (.nx,env.set i (.sh (.int (g m n)))) else none
  | _=>none
 | _=>none
theorem a6P{C:Int->Int->Prop}[∀i j,Decidable (C i j)]{g:Int->Int->Int}{i:Nat}{f:En->Option Sl}{env:En}{y:Fl×En}(h:b08 C g i f env=some y):∃m n,env[i]?=some (.sh (.int m))/\f env=some (.sh (.int n))/\C m n/\y=(.nx,env.set i (.sh (.int (g m n)))):=by
 unfold b08 at h
 split at h
 .rename_i m e1
  split at h
  .rename_i n e2
   obtain ⟨hc,h⟩:=a0D h
   exact ⟨m,n,e1,e2,hc,h.symm⟩
  .cases h
 .cases h
noncomputable instance (i j:Int):Decidable (CMul i j):=by unfold CMul;infer_instance
noncomputable def b3X:Nat->(En->Option Sl)->SF:=b08 CMul λi j=>i*j
noncomputable def b3W:Nat->(En->Option Sl)->SF:=b08 (λ_ _=>True) λi j=>i-j
theorem ipm:PIp X .Mult (λx y H Q=>∃i j,x=.int i/\y=.int j/\CMul i j/\Q (.int (i*j)) H):=λpins s σ H x y v u Q I r1 r2 h=>b65 pins s σ H x y v u Q I r1 r2 h
theorem Fx.augM(h:Fx X N sc k full)(i:Nat)(he:EV X e fa)(hN:N[i]?=some x:=by rfl)(hv:Loc sc x:=by first | exact c1C rfl | exact c1q rfl)
  (hf:full=true\/sc.names.lookup x=some .local:=by first | exact c1C rfl | exact c1q rfl):SV X (.AugAssign (.Name x pos') .Mult e pos) (b3X i fa):=by
 obtain ⟨t,p,kk⟩:=he
 refine ⟨_,b2i h.nod (h.ix hN) (h.loc hv) p ipm (h.sto hf),λO B σ H env fl env' D R e q=>?_⟩
 obtain ⟨m,n,hi,e1,hc,e2⟩:=a6P e
 cases e2
 obtain ⟨v,e3,hv⟩:=R.sh i _ hi
 obtain rfl:=a03 hv
 refine ⟨_,e3,kk O B σ H env _ _ R e1 λv H1 s1 r1=>?_⟩
 obtain rfl:=a03 r1
 refine ⟨m,n,rfl,rfl,hc,?_⟩
 obtain ⟨R',g'⟩:=R.set (v:=.int (m*n)) (r:=.sh (.int (m*n))) s1 (Is.int (m*n)) (c0V.mp hi).1
 exact q _ H1 R' g'
theorem Fx.augS(h:Fx X N sc k full)(i:Nat)(he:EV X e fa)(hN:N[i]?=some x:=by rfl)(hv:Loc sc x:=by first | exact c1C rfl | exact c1q rfl)
  (hf:full=true\/sc.names.lookup x=some .local:=by first | exact c1C rfl | exact c1q rfl):SV X (.AugAssign (.Name x pos') .Sub e pos) (b3W i fa):=by
 obtain ⟨t,p,kk⟩:=he
 refine ⟨_,b2i h.nod (h.ix hN) (h.loc hv) p b9E (h.sto hf),λO B σ H env fl env' D R e q=>?_⟩
 obtain ⟨m,n,hi,e1,hc,e2⟩:=a6P e
 cases e2
 obtain ⟨v,e3,hv⟩:=R.sh i _ hi
 obtain rfl:=a03 hv
 refine ⟨_,e3,kk O B σ H env _ _ R e1 λv H1 s1 r1=>?_⟩
 obtain rfl:=a03 r1
 refine ⟨m,n,rfl,rfl,?_⟩
 obtain ⟨R',g'⟩:=R.set (v:=.int (m-n)) (r:=.sh (.int (m-n))) s1 (Is.int (m-n)) (c0V.mp hi).1
 exact q _ H1 R' g'
end
end DL
namespace TS
open PySem PyProof.Rows
section
variable {prog:Program}{w:World}{A:Around}{E:Value->Shared->Prop}{s:Shared}
end
end TS
namespace KS
open PySem PySem.W PyProof.Rows
noncomputable def go{α:Type}(cmp:Nat->Nat->Bool):KasT α->α
 | .ret a=>a
 | .ask i j k=>go cmp (k (cmp i j))
theorem a45{α β:Type}(cmp:Nat->Nat->Bool)(f:α->KasT β):∀t:KasT α,go cmp (t.bind f)=go cmp (f (go cmp t))
 | .ret a=>rfl
 | .ask i j k=>a45 cmp f (k (cmp i j))
section
variable (K:Nat->Int)
noncomputable def kI(p:Array Nat)(i:Nat):Int:=K (p.getD i 0)
def Srd(p:Array Nat)(k:Nat):Prop:=∀i j,i<=j->j<k->kI K p i<=kI K p j
def Nin(p:Array Nat)(k:Nat):Prop:=∀i j,i<=j->j<k->kI K p j<=kI K p i
noncomputable abbrev cmpK(i j:Nat):Bool:=decide (K i<K j)
variable {K}
theorem a56{p q:Array Nat}{i j:Nat}(h:p[i]?=q[j]?):kI K p i=kI K q j:=by
 unfold kI
 rw [c4a,c4a,h]
theorem a6S{p:Array Nat}{i j:Nat}(hj:j<=p.size)(k:Nat):kI K (mirror p i j ((j-i)/2)) k=if i<=k/\k<j then kI K p (i+j-1-k) else kI K p k:=by
 have e:=getElem?_mirror_all (i:=i) hj k
 by_cases h1:i<=k/\k<j
 .rw [if_pos h1] at e ⊢;exact a56 e
 .rw [if_neg h1] at e ⊢;exact a56 e
theorem a55(hj:j<=p.size)(he:∀k,i<=k->k<j->kI K p k=kI K p (j-1))(k:Nat):kI K (mirror p i j ((j-i)/2)) k=kI K p k:=by
 rw [a6S hj]
 split
 .rw [he _ (by omega) (by omega),he k (by omega) (by omega)]
 .rfl
theorem asc:∀(f n:Nat),1<=n->Srd K p n->∃m,go (cmpK K) (kas_asc p f n)=m/\n<=m/\m<=n+f/\Srd K p m/\(m=n+f\/kI K p m<kI K p (m-1))
 | 0,n,_,hs=>⟨n,rfl,by lia,by lia,hs,.inl rfl⟩
 | f+1,n,hn,hs=>by
  unfold kas_asc
  show ∃m,go (cmpK K) (if decide (kI K p n<kI K p (n-1))=true then .ret n else kas_asc p f (n+1))=m/\_
  by_cases c:kI K p n<kI K p (n-1)
  .rw [if_pos (decide_eq_true c)]
   exact ⟨n,rfl,by lia,by lia,hs,.inr c⟩
  .rw [if_neg (by simpa using c)]
   obtain ⟨m,e,m1,m2,m3,m4⟩:=asc f (n+1) (by lia) λi j hij hj=>by
    by_cases d:j<n
    .exact hs i j hij d
    .obtain rfl:j=n:=by lia
     by_cases d2:i=j
     .subst d2;exact c0T _
     .have:=hs i (j-1) (by lia) (by lia);lia
   exact ⟨m,e,by lia,by lia,m3,m4.elim (λz=>.inl (by lia)) .inr⟩
theorem desc:∀(f:Nat) (p:Array Nat) (n q:Nat),1<=n->n+f<=p.size->Nin K p n->q+1<=n->(∀i,n-(q+1)<=i->i<n->kI K p i=kI K p (n-1)) ->
  ∃p' m q',go (cmpK K) (c4M f p n q)=(p',m,q')/\p'.Perm p/\n<=m/\m<=n+f/\Nin K p' m/\q'+1<=m/\∀i,m-(q'+1)<=i->i<m->kI K p' i=kI K p' (m-1)
 | 0,p,n,q,_,_,hs,hq,he=>⟨p,n,q,rfl,c2O _,by lia,by lia,hs,hq,he⟩
 | f+1,p,n,q,hn,hz,hs,hq,he=>by
  have next:∀p':Array Nat,(∀k,kI K p' k=kI K p k)->kI K p n<=kI K p (n-1)->Nin K p' (n+1):=λp' hk hl i j hij hj=>by
   rw [hk,hk]
   by_cases d:j<n
   .exact hs i j hij d
   .obtain rfl:j=n:=by lia
    by_cases d2:i=j
    .subst d2;exact c0T _
    .have:=hs i (j-1) (by lia) (by lia);lia
  unfold c4M
  show ∃p' m q',go (cmpK K) (if decide (kI K p n<kI K p (n-1))=true then (if q>0 then c4M f (c3G p (n-(q+1)) n) (n+1) 0 else c4M f p (n+1) 0) else .ask (p.getD (n-1) 0) (p.getD n 0) λd=>if d=true then .ret (p,n,q) else c4M f p (n+1) (q+1))=(p',m,q')/\_
  by_cases c:kI K p n<kI K p (n-1)
  .rw [if_pos (decide_eq_true c)]
   by_cases cq:q>0
   .rw [if_pos cq]
    obtain ⟨p',m,q',e,k1,k2,k3,k4,k5,k6⟩:=desc f (c3G p (n-(q+1)) n) (n+1) 0 (by lia) (by unfold c3G;rw [mirror_size];lia) (next _ (a55 (by lia) he) (by lia)) (by lia) λi h1 h2=>by congr 1;lia
    exact ⟨p',m,q',e,k1.trans (c23 _ _ _ _),by lia,by lia,k4,k5,k6⟩
   .rw [if_neg cq]
    obtain ⟨p',m,q',e,k1,k2,k3,k4,k5,k6⟩:=desc f p (n+1) 0 (by lia) (by lia) (next _ (λ_=>rfl) (by lia)) (by lia) λi h1 h2=>by congr 1;lia
    exact ⟨p',m,q',e,k1,by lia,by lia,k4,k5,k6⟩
  .rw [if_neg (by simpa using c)]
   show ∃p' m q',go (cmpK K) (if decide (kI K p (n-1)<kI K p n)=true then .ret (p,n,q) else c4M f p (n+1) (q+1))=(p',m,q')/\_
   by_cases c2:kI K p (n-1)<kI K p n
   .rw [if_pos (decide_eq_true c2)]
    exact ⟨p,n,q,rfl,c2O _,by lia,by lia,hs,hq,he⟩
   .rw [if_neg (by simpa using c2)]
    have heq:kI K p n=kI K p (n-1):=by lia
    obtain ⟨p',m,q',e,k1,k2,k3,k4,k5,k6⟩:=desc f p (n+1) (q+1) (by lia) (by lia) (next _ (λ_=>rfl) (by lia)) (by lia) λi h1 h2=>by
     rw [show n+1-1=n by lia]
     by_cases d:i=n
     .subst d;rfl
     .rw [heq];exact he i (by lia) (by lia)
    exact ⟨p',m,q',e,k1,by lia,by lia,k4,k5,k6⟩
theorem b5F(h1:1<=n)(hn:n<=nrem)(hz:nrem<=p.size)(hs:Nin K p n):∃m p',go (cmpK K) (kas_tail3 n nrem p)=(m,p')/\p'.Perm p/\1<=m/\m<=nrem/\Srd K p' m:=by
 unfold kas_tail3
 rw [a45]
 obtain ⟨m,e,m1,m2,m3,_⟩:=asc (K:=K) (p:=c3G p 0 n) (nrem-n) n h1 λi j hij hj=>by
  unfold c3G
  rw [a6S (by lia),a6S (by lia),if_pos (by lia),if_pos (by lia)]
  exact hs _ _ (by lia) (by lia)
 rw [e]
 exact ⟨m,_,rfl,c23 _ _ _ _,by lia,by lia,m3⟩
theorem b90(hn:n+1<=nrem)(hz:nrem<=p.size)(hs:Nin K p (n+1)):∃m p',go (cmpK K) (c4o n nrem p)=(m,p')/\p'.Perm p/\1<=m/\m<=nrem/\Srd K p' m:=by
 unfold c4o
 rw [a45]
 obtain ⟨p',m,q',e,k1,k2,k3,k4,k5,k6⟩:=desc (K:=K) (nrem-(n+1)) p (n+1) 0 (by lia) (by lia) hs (by lia) λi h1 h2=>by congr 1;lia
 have hz':p'.size=p.size:=k1.size_eq
 rw [e]
 dsimp only
 by_cases c:q'>0
 .rw [if_pos c]
  obtain ⟨a,b,e2,j1,j2,j3,j4⟩:=b5F (K:=K) (p:=c3G p' (m-(q'+1)) m) (n:=m) (nrem:=nrem) (by lia) (by lia) (by unfold c3G;rw [mirror_size];lia) λi j hij hj=>by
   unfold c3G
   rw [a55 (by lia) k6,a55 (by lia) k6]
   exact k4 i j hij hj
  exact ⟨a,b,e2,j1.trans ((c23 _ _ _ _).trans k1),j2,j3,j4⟩
 .rw [if_neg c]
  obtain ⟨a,b,e2,j1,j2,j3,j4⟩:=b5F (K:=K) (p:=p') (n:=m) (nrem:=nrem) (by lia) (by lia) (by lia) k4
  exact ⟨a,b,e2,j1.trans k1,j2,j3,j4⟩
theorem cnt(h1:1<=nrem)(hz:nrem<=p.size):∃m p',go (cmpK K) (kas_count nrem p)=(m,p')/\p'.Perm p/\1<=m/\m<=nrem/\Srd K p' m:=by
 unfold kas_count
 rw [a45]
 obtain ⟨n,e,n1,n2,n3,n4⟩:=asc (K:=K) (p:=p) (nrem-1) 1 (by lia) λi j hij hj=>by
  obtain rfl:i=j:=by lia
  exact c0T _
 rw [e]
 by_cases c:n=nrem
 .rw [if_pos (by simpa using c)]
  exact ⟨n,p,rfl,c2O _,n1,by lia,n3⟩
 rw [if_neg (by simpa using c)]
 have hlt:kI K p n<kI K p (n-1):=n4.resolve_left (by lia)
 by_cases c2:n>1
 .rw [if_pos c2]
  show ∃m p',go (cmpK K) (if decide (kI K p 0<kI K p (n-1))=true then .ret (n,p) else c4o n nrem (c3G p 0 n))=(m,p')/\_
  by_cases c3:kI K p 0<kI K p (n-1)
  .rw [if_pos (decide_eq_true c3)]
   exact ⟨n,p,rfl,c2O _,n1,by lia,n3⟩
  .rw [if_neg (by simpa using c3)]
   have hall:∀k,0<=k->k<n->kI K p k=kI K p (n-1):=λk _ hk=>by
    have:=n3 0 k (by lia) hk
    have:=n3 k (n-1) (by lia) (by lia)
    lia
   obtain ⟨a,b,e2,j1,j2,j3,j4⟩:=b90 (K:=K) (p:=c3G p 0 n) (n:=n) (nrem:=nrem) (by lia) (by unfold c3G;rw [mirror_size];lia) λi j hij hj=>by
    unfold c3G
    rw [a55 (by lia) hall,a55 (by lia) hall]
    by_cases d:j<n
    .rw [hall i (by lia) (by lia),hall j (by lia) d];exact c0T _
    .obtain rfl:j=n:=by lia
     by_cases d2:i=j
     .subst d2;exact c0T _
     .rw [hall i (by lia) (by lia)];lia
   exact ⟨a,b,e2,j1.trans (c23 _ _ _ _),j2,j3,j4⟩
 .rw [if_neg c2]
  obtain rfl:n=1:=by lia
  exact b90 (K:=K) (by lia) hz λi j hij hj=>by
   by_cases d:i=j
   .subst d;exact c0T _
   .obtain ⟨rfl,rfl⟩:i=0/\j=1:=by lia
    exact c2C hlt
theorem a8i(hs:Srd K p k):∀(f l r:Nat),l<=r->r<=k->r-l<=f->(∀i,i<l->kI K p i<=kI K p k)->(∀i,r<=i->i<k->kI K p k<kI K p i) ->
  ∃m,go (cmpK K) (c5d p k f l r)=m/\m<=k/\(∀i,i<m->kI K p i<=kI K p k)/\∀i,m<=i->i<k->kI K p k<kI K p i
 | 0,l,r,h1,h2,h3,h4,h5=>by
  obtain rfl:l=r:=by lia
  exact ⟨l,rfl,h2,h4,h5⟩
 | f+1,l,r,h1,h2,h3,h4,h5=>by
  unfold c5d
  by_cases c:l≥r
  .rw [if_pos c]
   obtain rfl:l=r:=by lia
   exact ⟨l,rfl,h2,h4,h5⟩
  .rw [if_neg c]
   show ∃m,go (cmpK K) (if decide (kI K p k<kI K p ((l+r)/2))=true then c5d p k f l ((l+r)/2) else c5d p k f ((l+r)/2+1) r)=m/\_
   by_cases c2:kI K p k<kI K p ((l+r)/2)
   .rw [if_pos (decide_eq_true c2)]
    exact a8i hs f l _ (by lia) (by lia) (by lia) h4 λi z1 z2=>by
     have:=hs ((l+r)/2) i z1 z2;lia
   .rw [if_neg (by simpa using c2)]
    exact a8i hs f _ r (by lia) (by lia) (by lia) (λi z=>by
     have:=hs i ((l+r)/2) (by lia) (by lia);lia) h5
theorem bin:∀(f:Nat) (p:Array Nat) (k:Nat),1<=k->k+f<=p.size->Srd K p k->∃p',go (cmpK K) (kas_bin f p k)=p'/\p'.Perm p/\Srd K p' (k+f)
 | 0,p,k,_,_,hs=>⟨p,rfl,c2O _,hs⟩
 | f+1,p,k,hk,hz,hs=>by
  unfold kas_bin
  rw [a45]
  obtain ⟨l,e,l1,l2,l3⟩:=a8i (K:=K) hs k 0 k (by lia) (by lia) (by lia) (λi z=>by lia) λi z1 z2=>by lia
  rw [e]
  have hb:=getElem?_bubble (xs:=p) (src:=k) (by lia) (k-l) (by lia)
  rw [show k-(k-l)=l by lia] at hb
  have kb:∀m,kI K (bubble p k (k-l)) m=if m=l then kI K p k else if l<m/\m<=k then kI K p (m-1) else kI K p m:=λm=>by
   have e:=hb m
   by_cases c1:m=l
   .rw [if_pos c1] at e ⊢;exact a56 e
   .rw [if_neg c1] at e ⊢
    by_cases c2:l<m/\m<=k
    .rw [if_pos c2] at e ⊢;exact a56 e
    .rw [if_neg c2] at e ⊢;exact a56 e
  obtain ⟨p',e',j1,j2⟩:=bin f (bubble p k (k-l)) (k+1) (by lia) (by rw [bubble_size];lia) λi j hij hj=>by
   rw [kb,kb]
   repeat' split
   all_goals first
    | (exfalso;lia)
    | exact c0T _
    | exact l2 _ (by lia)
    | exact c2C (l3 _ (by lia) (by lia))
    | exact hs _ _ (by lia) (by lia)
  exact ⟨p',e',j1.trans (bubble_perm _ _ _),by rw [show k+(f+1)=k+1+f by lia];exact j2⟩
noncomputable def ord(K:Nat->Int)(n:Nat):List Nat:=(go (cmpK K) (c5X n)).toList
theorem ord_spec(K:Nat->Int)(n:Nat)(h:1<=n):(ord K n).Perm (c1n n)/\(ord K n).Pairwise λi j=>K i<=K j:=by
 have key:∃p',go (cmpK K) (c5X n)=p'/\p'.Perm (c5R (c1n n))/\Srd K p' n:=by
  unfold c5X
  rw [a45]
  obtain ⟨m,p,e,k1,k2,k3,k4⟩:=cnt (K:=K) (p:=c5R (c1n n)) (nrem:=n) h (by simp)
  rw [e]
  dsimp only
  have hz:p.size=n:=by rw [k1.size_eq];simp
  by_cases c:m<n
  .rw [if_pos c]
   obtain ⟨p',e',j1,j2⟩:=bin (K:=K) (n-max m 1) p (max m 1) (by lia) (by lia) (by rw [show max m 1=m by lia];exact k4)
   exact ⟨p',e',j1.trans k1,by rw [show max m 1+(n-max m 1)=n by lia] at j2;exact j2⟩
  .rw [if_neg c]
   obtain rfl:m=n:=by lia
   exact ⟨p,rfl,k1,k4⟩
 obtain ⟨p,e,k1,k2⟩:=key
 unfold ord
 rw [e]
 refine ⟨c2b.mp k1,c3g.mpr λi j hi hj hij=>?_⟩
 have hz:p.size=n:=by rw [k1.size_eq];simp
 simp only [c2c] at hi hj
 have:=k2 i j (by lia) (by lia)
 unfold kI at this
 simpa [hi,hj] using this
end
end KS
namespace KS
open PySem PySem.W PyProof.Rows
noncomputable def Ok{α:Type}(n:Nat)(R:α->Prop):KasT α->Prop
 | .ret a=>R a
 | .ask i j k=>i<n/\j<n/\∀b,Ok n R (k b)
theorem Ok.bind{α β:Type}{n:Nat}{R:α->Prop}{S:β->Prop}{f:α->KasT β}(hf:∀a,R a->Ok n S (f a)):∀{t:KasT α},Ok n R t->Ok n S (t.bind f)
 | .ret a,h=>hf a h
 | .ask i j k,h=>⟨h.1,h.2.1,λb=>Ok.bind hf (h.2.2 b)⟩
theorem wp_ok{α:Type}{n:Nat}{cm:Nat->Nat->(Bool->Shared->Prop)->Shared->Prop}{cmp:Nat->Nat->Bool}{s:Shared}(h:∀i j,i<n->j<n->∀Q,Q (cmp i j) s->cm i j Q s){R:α->Prop}{Q:α->Shared->Prop}:∀{t:KasT α},Ok n R t->Q (go cmp t) s->t.kasWp cm Q s
 | .ret _,_,q=>q
 | .ask i j k,o,q=>h i j o.1 o.2.1 _ (wp_ok h (o.2.2 (cmp i j)) q)
section
variable {n:Nat}
def En(n:Nat)(p:Array Nat):Prop:=∀k,p.getD k 0<n
theorem En.perm(h0:0<n)(h:En n p)(e:q.Perm p):En n q:=λk=>by
 by_cases hk:k<q.size
 .have hm:q[k]∈p.toList:=(c2b.mp e).mem_iff.mp (by simp)
  obtain ⟨i,hi,e2⟩:=c3b.mp hm
  have:=h i
  rw [c2c] at hi
  simp only [c5O,hi,hk,dite_true] at this ⊢
  simp at e2
  have e3:q[k]=p[i]:=e2.symm
  show q[k]<n
  rw [e3]
  exact this
 .simp [c5O,hk,h0]
theorem b2p{p:Array Nat}(h:En n p):∀f m,Ok n (λ_=>True) (kas_asc p f m)
 | 0,m=>trivial
 | f+1,m=>by
  unfold kas_asc
  refine ⟨h _,h _,λb=>?_⟩
  dsimp only
  split
  .trivial
  .exact b2p h f (m+1)
theorem a7i(h0:0<n):∀f (p:Array Nat) m q,En n p->Ok n (λr=>En n r.1) (c4M f p m q)
 | 0,p,m,q,h=>h
 | f+1,p,m,q,h=>by
  unfold c4M
  refine ⟨h _,h _,λb=>?_⟩
  dsimp only
  split
  .split
   .exact a7i h0 f _ _ _ (h.perm h0 (c23 _ _ _ _))
   .exact a7i h0 f _ _ _ h
  .refine ⟨h _,h _,λb=>?_⟩
   dsimp only
   split
   .exact h
   .exact a7i h0 f _ _ _ h
theorem b0n(h0:0<n)(h:En n p)(a b:Nat):Ok n (λr=>En n r.2) (kas_tail3 a b p):=by
 unfold kas_tail3
 have e:En n (c3G p 0 a):=h.perm h0 (c23 _ _ _ _)
 exact (b2p e _ _).bind λm _=>(show Ok n (λr:Nat×Array Nat=>En n r.2) (.ret (m,c3G p 0 a)) from e)
theorem b0o(h0:0<n)(h:En n p)(a b:Nat):Ok n (λr=>En n r.2) (c4o a b p):=by
 unfold c4o
 refine (a7i h0 _ _ _ _ h).bind λr hr=>?_
 split
 .exact b0n h0 (hr.perm h0 (c23 _ _ _ _)) _ _
 .exact b0n h0 hr _ _
theorem b4j(h0:0<n)(h:En n p)(b:Nat):Ok n (λr=>En n r.2) (kas_count b p):=by
 unfold kas_count
 refine (b2p h _ _).bind λm _=>?_
 split
 .exact h
 .split
  .refine ⟨h _,h _,λb=>?_⟩
   dsimp only
   split
   .exact h
   .exact b0o h0 (h.perm h0 (c23 _ _ _ _)) _ _
  .exact b0o h0 h _ _
theorem a7f{p:Array Nat}(h:En n p)(k:Nat):∀f l r,Ok n (λ_=>True) (c5d p k f l r)
 | 0,l,r=>trivial
 | f+1,l,r=>by
  unfold c5d
  split
  .trivial
  .refine ⟨h _,h _,λb=>?_⟩
   dsimp only
   split
   .exact a7f h k f _ _
   .exact a7f h k f _ _
theorem b5M(h0:0<n):∀f (p:Array Nat) k,En n p->Ok n (λ_=>True) (kas_bin f p k)
 | 0,p,k,h=>trivial
 | f+1,p,k,h=>by
  unfold kas_bin
  exact (a7f h k _ _ _).bind λl _=>b5M h0 f _ _ (h.perm h0 (bubble_perm _ _ _))
theorem ok_sort(h0:0<n):Ok n (λ_=>True) (c5X n):=by
 unfold c5X
 have e:En n (c5R (c1n n)):=λk=>by
  by_cases hk:k<n
  .simp [c5O,hk]
  .simp [c5O,hk,h0]
 refine (b4j h0 e n).bind λr hr=>?_
 split
 .exact b5M h0 _ _ _ hr
 .trivial
end
end KS
namespace PT
open PySem PySem.W PyProof.Rows
section
variable {prog:Program}{w:World}{A:Around}{E:Value->Shared->Prop}{s:Shared}
end
end PT
namespace DL
open PySem PySem.Spec PyProof.Rows L2
section
variable {X:Cx}
end
end DL
namespace DL
open PySem PySem.W PySem.Spec PyProof.Rows L2
theorem Fx.sw{X:Cx}{N:List Str}{sc:Scope}{k:Nat}{full:Bool}(h:Fx X N sc k full){x:Str}{l:Nat}(h1:(sc.names.lookup x==some .local)=false):swapsWith (.ListComp elt gs sc' pos) (some (.Name x pos')) l X.env=pure false:=by
 have hk2:X.env.kindOf x=sc.names.lookup x:=by unfold c4C;rw [h.sc]
 unfold swapsWith
 dsimp only
 rw [hk2,h1,Bool.and_false,c4s,c4s]
noncomputable def ordK{α:Type}(kz:List Int)(d:α)(vs:List α):List α:=if vs.length<2 then vs else (KS.ord (λi=>kz.getD i 0) vs.length).map λi=>vs.getD i d
theorem a5U{α:Type}(kz:List Int)(d:α)(vs:List α):(ordK kz d vs).Perm vs:=by
 unfold ordK
 split
 .exact c51 _
 .rename_i hn
  have h:=(KS.ord_spec (λi=>kz.getD i 0) vs.length (by lia)).1.map λi=>vs.getD i d
  refine h.trans ?_
  have:(c1n vs.length).map (λi=>vs.getD i d)=vs:=by
   refine c3W (by simp) λi h1 h2=>?_
   simp at h1
   simp [h1]
  rw [this]
theorem a7d:∀{xs:List V} {vs:List Value},Vals xs vs->∀i (h1:i<xs.length) (h2:i<vs.length),RelV xs[i] vs[i]
 | _::_,_::_,.cons a b,0,_,_=>a
 | _::_,_::_,.cons a b,i+1,h1,h2=>a7d b i (by simpa using h1) (by simpa using h2)
theorem a9B{K:c0L}{O:Addr->Prop}{H:Hp}:∀{xs:List V} {ds:List D},Iss K O H xs ds->∀i (h1:i<xs.length) (h2:i<ds.length),Is K O H xs[i] ds[i]
 | _::_,_::_,.cons a b,0,_,_=>a
 | _::_,_::_,.cons a b,i+1,h1,h2=>a9B b i (by simpa using h1) (by simpa using h2)
theorem ints_get:∀{vs:List Value} {ns:List Int},IntsAre vs ns->∀i,i<vs.length->∃t,vs.getD i c1y=.int (ns.getD i 0) t
 | _,_,.cons n t h,0,_=>⟨t,rfl⟩
 | _,_,.cons n t h,i+1,hi=>by
  obtain ⟨t',e⟩:=ints_get h i (by simpa using hi)
  exact ⟨t',by simpa using e⟩
theorem b4c(rv:Vals xs vs)(hl:vs.length=xs.length):Vals (ordK kz (.int 0) xs) (ordK kz c1y vs):=by
 unfold ordK
 by_cases h2:xs.length<2
 .rw [if_pos h2,if_pos (by lia)];exact rv
 rw [if_neg h2,if_neg (by lia),hl]
 have hm:∀i∈KS.ord (λi=>kz.getD i 0) xs.length,i<xs.length:=λi hi=>c1x.mp ((KS.ord_spec (λi=>kz.getD i 0) xs.length (by lia)).1.mem_iff.mp hi)
 generalize KS.ord (λi=>kz.getD i 0) xs.length=os at *
 induction os with
 | nil=>exact .nil
 | cons i os ih =>
  have hi:=hm i (c0N ..)
  refine .cons ?_ (ih λj hj=>hm j (c0O _ hj))
  have:=a7d rv i hi (by lia)
  simpa [hi,show i<vs.length by lia] using this
section
variable {X:Cx}{pins:List (Addr×Obj)}{s:Shared}{σ:L2.St}{H:Hp}
theorem ite_b{α β:Type}{c:Prop}[Decidable c]{M:Model}{A:Around}{a b:Sem α}{f:α->Sem β}{Q:β->Shared->Prop}{E:Value->Shared->Prop}{s:Shared}(h:wpAny M A ((if c then a else b) >>= f) Q E s):wpAny M A (if c then a >>= f else b >>= f) Q E s:=by
 by_cases hc:c
 .rw [if_pos hc] at h ⊢;exact h
 .rw [if_neg hc] at h ⊢;exact h
theorem a8f{k:Nat}{f it:Addr}(hr:Room (k+1) X.A)(I:Inv X pins σ H s){xs:List V}{kz:List Int}(hlk:kz.length=xs.length)(h64:xs.length<64)
  (hcol:∀{A':Around} {Q':List Value->Shared->Prop} {E':Value->Shared->Prop},A'.handled=X.A.handled->(∀h' tk vs,(∀b o,s.heap.get? b=some o->h'.get? b=some o)->s.heap.objs.size<=h'.objs.size->Vals xs vs->Q' vs { s with heap:=h',toks:=tk })->wpAny (model X.prog X.w) A' (collect (.ref it)) Q' E' s)
  (hkey:∀(H1:Hp) (s1:Shared) (j:Nat) (v:Value) (x:V),Inv X pins σ H1 s1->Same H H1->RelV x v->xs[j]?=some x->wpAny (model X.prog X.w) X.A.in1.in1 (call (.ref f) [v]) (λu s'=>∃t H',u=.int (kz.getD j 0) t/\Inv X pins σ H' s'/\Same H1 H'/\∀b o,s1.heap.get? b=some o->FpOk X pins H1 b->s'.heap.get? b=some o/\FpOk X pins H' b) (λ_ _=>False) s1)
  {Q:VK}(q:∀a H',Same H H'->H' a=none->Q (.ref a) (upd H' a (.lst (ordK kz (.int 0) xs)))):
  wpAny (model X.prog X.w) X.A (call (.builtin "sorted") [.ref it] [(c2Q "key",.ref f)]) (EP X pins σ Q) X.xe s:=by
 refine call_function_entry_kw kind_sorted plain_sorted entry_sorted (ksk_s1 _ _) ?_
 unfold Builtin.«sorted»
 refine c0K (m:=checkCount "sorted" 1 1 _) (c0X (c0K (hcol rfl λhC tkC vs kC zC rv=>?_)))
 have hlv:vs.length=xs.length:=rv.length.symm
 have hZ:vs.length<=sizeLine:=by rw [c1G];lia
 refine c0K (c4J ?_ hZ)
 obtain ⟨hL,ehL⟩:∃hL,hL=hC.push (seqObj "list" vs.toArray 0):=⟨_,rfl⟩
 have gL:hL.get? hC.objs.size=some (seqObj "list" vs.toArray 0):=by rw [ehL];exact c0Y _ rfl
 have zL:hL.objs.size=hC.objs.size+1:=by rw [ehL,c5N]
 have kL:∀b o,s.heap.get? b=some o->hL.get? b=some o:=λb o e=>by rw [ehL];exact c0M _ (kC b o e)
 show wpAny _ _ _ _ _ { s with heap:=hC.push (seqObj "list" vs.toArray 0),toks:=tkC }
 rw [<-ehL]
 clear ehL kC
 generalize ha:hC.objs.size=a at *
 refine c0K (c1V (wpAny_call_entry_kw slot_list_sort ⟨_,gL,rfl⟩ entry_list_sort ?_ (ksk_l1 _ _)))
 show wpAny (model X.prog X.w) X.A.in1.in1 (Builtin.«list.sort» ⟨[.ref a],[(c2Q "key",.ref f)]⟩) _ _ _
 rw [ksk_t1]
 unfold ksk_tree
 have fa:FpOk X pins H a:=I.fpOk (by lia) (I.hok.fresh (by lia))
 refine c0K (c3N gL rfl (c0K (c3y gL rfl ?_ (by rw [c00];exact hZ) (c2T _))))
 obtain ⟨c1,g1⟩:∃c1,(hL.update a (c1t λ_=>(#[]:Array Value))).get? a=some (seqObj "list" #[] c1):=⟨_,c38 gL λ_=>#[]⟩
 obtain ⟨hU,eU⟩:∃hU,hU=hL.update a (c1t λ_=>(#[]:Array Value)):=⟨_,rfl⟩
 rw [<-eU] at g1
 have zU:hU.objs.size=a+1:=by rw [eU,c4T,zL]
 have kU:∀b o,s.heap.get? b=some o->hU.get? b=some o:=λb o e=>by
  have hlt:b<s.heap.objs.size:=c0W e
  rw [eU,c2u _ _ _ _ (c09 (c1d hlt zC))]
  exact kL b o e
 show wpAny _ _ _ _ _ { s with toks:=tkC,heap:=hL.update a (c1t λ_=>(#[]:Array Value)) }
 rw [<-eU]
 clear eU kL gL zL
 refine c0K (c5w g1 rfl (c0K (c5o (c0K (c4J (c1V ?_) (c2T _))) (by show vs.toArray.size<=_;rw [c00];exact hZ))))
 obtain ⟨hK,eK⟩:∃hK,hK=(hU.push (seqObj "tuple" vs.toArray 0)).push (seqObj "list" #[] 0):=⟨_,rfl⟩
 have zT:(hU.push (seqObj "tuple" vs.toArray 0)).objs.size=a+2:=by rw [c5N,zU]
 have gK:hK.get? (a+2)=some (seqObj "list" #[] 0):=by rw [eK,<-zT];exact c0Y _ rfl
 have gA:hK.get? a=some (seqObj "list" #[] c1):=by rw [eK];exact c0M _ (c0M _ g1)
 have kK:∀b o,s.heap.get? b=some o->hK.get? b=some o:=λb o e=>by rw [eK];exact c0M _ (c0M _ (kU b o e))
 show wpAny _ _ _ _ _ { s with toks:=tkC,heap:=(hU.push (seqObj "tuple" vs.toArray 0)).push (seqObj "list" #[] 0) }
 rw [<-eK]
 show wpAny _ _ (ksk_rest a (.ref f) false vs.toArray c1 (.ref (hU.push (seqObj "tuple" vs.toArray 0)).objs.size)) _ _ _
 rw [zT]
 clear eK zT g1 kU zU
 generalize hk:a+2=kS at *
 have fk:FpOk X pins H kS:=I.fpOk (by lia) (I.hok.fresh (by lia))
 have nka:kS≠a:=by lia
 have I3:Inv X pins σ H { s with toks:=tkC,heap:=hK }:=I.kept (t':=tkC) kK
 unfold ksk_rest
 refine c0K (c31 ?_)
 rw [List.forIn_toArray]
 refine c0K (ksk_fold (λi s'=>∃H' kA c,Inv X pins σ H' s'/\Same H H'/\FpOk X pins H' kS/\FpOk X pins H' a/\s'.heap.get? kS=some (seqObj "list" kA c)/\s'.heap.get? a=some (seqObj "list" #[] c1)/\IntsAre kA.toList (kz.take i)) vs 0 _ ⟨H,#[],0,I3,Same.refl _,fk,fa,gK,gA,.nil⟩ (λj x s' hj hI=>?_) λs' hI=>?_)
 .obtain ⟨H1,kA,c,I1,sm,f1,f2,g3,g4,ia⟩:=hI
  rw [c3q] at ia ⊢
  obtain ⟨hjv,hjx⟩:=c0V.mp hj
  have hjl:j<xs.length:=by lia
  have rx:RelV xs[j] x:=by rw [<-hjx];exact a7d rv j hjl hjv
  obtain ⟨kv,ekv⟩:∃kv,kv=kz.getD j 0:=⟨_,rfl⟩
  have ek:kz.take (j+1)=kz.take j++[kv]:=by rw [List.take_succ,c07 (by lia),ekv];simp [show j<kz.length by lia]
  have ck:=hkey H1 s' j x xs[j] I1 sm rx (c07 hjl)
  rw [<-ekv] at ck
  refine c0K (c26 (c1z ck (λu s2 he=>?_) λ_ _ z=>z.elim))
  .obtain ⟨t,H2,rfl,I2,sm2,kp⟩:=he
   dsimp only
   obtain ⟨g5,f5⟩:=kp kS _ g3 f1
   obtain ⟨g6,f6⟩:=kp a _ g4 f2
   have hz:kA.size<=64:=by
    have:=ia.length
    rw [c2c,c2k] at this
    lia
   refine c0K (c3y g5 rfl (c0X ⟨rfl,?_⟩) (by rw [c1G];lia) (by rw [Array.size_push,c1G];lia))
   obtain ⟨c2,g7⟩:∃c2,(s2.heap.update kS (c1t (·.push (.int kv t)))).get? kS=some (seqObj "list" (kA.push (.int kv t)) c2):=⟨_,c38 g5 (·.push (.int kv t))⟩
   have kp2:∀b o,b∉[kS]->s2.heap.get? b=some o->(s2.heap.update kS (c1t (·.push (.int kv t)))).get? b=some o:=λb o hb e=>by
    rw [c2u _ _ _ _ (by simpa using hb)]
    exact e
   refine ⟨H2,kA.push (.int kv t),c2,a4Q (ch:=[kS]) (t':=s2.toks) I2 (λb hb=>by rw [c0Q.mp hb];exact f5) kp2,sm.trans sm2,f5,f6,g7,kp2 a _ (by simpa using nka.symm) g6,?_⟩
   rw [ek,show (kA.push (c15 kv t)).toList=kA.toList++[c15 kv t] by simp]
   exact ksk_snoc ia
 .obtain ⟨H1,kA,c,I1,sm,f1,f2,g3,g4,ia⟩:=hI
  have ia':IntsAre kA.toList kz:=by rw [c3q,hlv,<-hlk,List.take_length] at ia;exact ia
  have hlA:kA.toList.length=vs.length:=by rw [ia'.length,hlk,hlv]
  have hkA:kA.size=vs.length:=by rw [<-c2c];exact hlA
  refine c0K (c3N g3 rfl ?_)
  unfold ksk_end
  dsimp only
  rw [if_neg (by decide)]
  have runK:∀{E:Value->Shared->Prop},wpAny (model X.prog X.w) X.A.in1.in1 (if vs.toArray.size<2 then pure general' else keyKind' kA) (λkind s2=>s2=s'/\wpAny (model X.prog X.w) X.A.in1.in1 ((if vs.toArray.size<2 then pure () else sortRuns').run (c53 kind (if false=true then (kA.zip vs.toArray).reverse else kA.zip vs.toArray) #[] 7 none)) (λr s2=>s2=s'/\(arrOf r.2).map (·.2)=(ordK kz c1y vs).toArray/\failedOf r.2=none) E s') E s':=λ{E}=>by
   rw [if_neg (show ¬(false=true) by decide)]
   by_cases h2:vs.length<2
   .rw [if_pos (by simpa using h2),if_pos (by simpa using h2)]
    refine c0X ⟨rfl,c0X ⟨rfl,?_,rfl⟩⟩
    show (kA.zip vs.toArray).map (·.2)=_
    rw [show ordK kz c1y vs=vs by unfold ordK;rw [if_pos h2],Array.map_snd_zip (by simp;lia)]
   rw [if_neg (by simpa using h2),if_neg (by simpa using h2),ksk_kind ia' (by lia)]
   refine c0X ⟨rfl,?_⟩
   have:=kat_run (prog:=X.prog) (w:=X.w) (A:=X.A.in1.in1) (E:=E) (s:=s') (ks:=kA.toList) (vs:=vs) (κ:=oneType') (Q:=λst' s2=>s2=s'/\(arrOf st').map (·.2)=(ordK kz c1y vs).toArray/\failedOf st'=none) (G:=λp s2=>s2=s'/\p.toList=KS.ord (λi=>kz.getD i 0) vs.length) hlA (by lia) (by lia) (λp st' s2 hz ha hf hp=>⟨hp.1,by
    rw [kat_snds hlA ha,hp.2]
    unfold ordK
    rw [if_neg (by lia)],hf⟩) (KS.wp_ok (n:=vs.length) (cmp:=KS.cmpK λi=>kz.getD i 0) (λi j hi hj C hC=>by
     unfold kas_ask
     obtain ⟨t1,e1⟩:=ints_get ia' i (by lia)
     obtain ⟨t2,e2⟩:=ints_get ia' j (by lia)
     rw [e1,e2]
     exact kat_lt_int hC) (KS.ok_sort (by lia)) ⟨rfl,rfl⟩)
   rw [Array.toArray_toList] at this
   exact this
  refine ite_b (c0K (c1z runK (λkind s2 hq=>?_) λ_ _ e=>e))
  obtain ⟨rfl,run⟩:=hq
  refine c0K (c1z run ?_ λ_ _ e=>e)
  rintro ⟨⟨⟩,st'⟩ s2 ⟨rfl,hp,hf⟩
  dsimp only at hp hf ⊢
  unfold ksk_tail
  dsimp only
  rw [hp,hf]
  have hout:(ordK kz c1y vs).toArray.size=vs.length:=by rw [c00];exact (a5U kz _ vs).length_eq
  generalize hO2:(ordK kz c1y vs).toArray=out at *
  have kp1:∀b o,b∉[kS,a]->s2.heap.get? b=some o->(s2.heap.update kS (c1t λ_=>(#[]:Array Value))).get? b=some o:=λb o hb e=>by
   rw [c2u _ _ _ _ (by simp at hb;exact hb.1)]
   exact e
  have g5:(s2.heap.update kS (c1t λ_=>(#[]:Array Value))).get? a=some (seqObj "list" #[] c1):=by
   rw [c2u _ _ _ _ nka.symm]
   exact g4
  refine c0K (c3y g3 rfl (c0K (c3l (c0K (c5w g5 rfl (c0K (c3y g5 rfl ?_ (c2T _) ?_)))))) (by rw [hkA];exact hZ) (c2T _))
  .simp only [bne_self_eq_false,c1v,if_false]
   obtain ⟨c2,g6⟩:∃c2,((s2.heap.update kS (c1t λ_=>(#[]:Array Value))).update a (c1t λ_=>out)).get? a=some (seqObj "list" out c2):=⟨_,c38 g5 λ_=>out⟩
   refine c0X ⟨_,rfl,c0X ⟨_,rfl,?_⟩⟩
   have I5:Inv X pins σ H1 { s2 with heap:=(s2.heap.update kS (c1t λ_=>(#[]:Array Value))).update a (c1t λ_=>out),toks:=s2.toks }:=a4Q (ch:=[kS,a]) (t':=s2.toks) I1 (λb hb=>by
    rcases c0R.mp hb with rfl | hb
    .exact f1
    .rw [c0Q.mp hb];exact f2) λb o hb e=>by
     rw [c2u _ _ _ _ (by simp at hb;exact hb.2)]
     exact kp1 b o hb e
   refine ⟨.ref a,_,track (o:=.lst (ordK kz (.int 0) xs)) I5 f2 ⟨by rw [(a5U kz _ xs).length_eq,c1G];lia,out.toList,c2,?_,by simpa using g6⟩,rfl,q a H1 sm f2.1⟩
   rw [<-hO2]
   exact b4c rv (by lia)
  .simp only [c1v,if_false]
   rw [hout]
   lia
theorem b2a(F:FnOk X.prog X.w X.K X.mg X.base CX0 k f fd ps (spD X.K ps.length φ))(h1:ps.length=1)(hr:Room (k+1) X.A)(hb:Binds X.K fd ps [])
  (I:Inv X pins σ H s)(hq:Sq X.K H true p xs)(hO:Dom X.K O H)(ix:Iss X.K O H xs ds)(ek:ds.map (λd=>φ [d])=kz.map λk=>some (.sh (.int k)))(h64:xs.length<64)(q:∀a H',Same H H'->H' a=none->Q (.ref a) (upd H' a (.lst (ordK kz (.int 0) xs)))):
  wpAny (model X.prog X.w) X.A (call (.builtin "sorted") [.ref p] [(c2Q "key",.ref f)]) (EP X pins σ Q) X.xe s:=by
 obtain ⟨vs,rv,pl⟩:=a4X (b:=true) I hq
 have hld:ds.length=xs.length:=ix.length.symm
 have hlk:kz.length=xs.length:=by have:=congrArg c3D ek;rw [c0P,c0P] at this;lia
 have hr2:Room k X.A.in1.in1:=⟨hr.hd,by have:=hr.dp;show X.A.depth+3*k+5<_;lia,by have:=hr.un;show X.A.units+1+1+16*k+200<_;lia⟩
 refine a8f hr I hlk h64 (λ_ h=>collect_list pl (h _ s.toks vs (λb o e=>?_) ?_ rv) ?_) (λH1 s1 j v x I1 sm rx hx=>?_) q
 .rw [c2u _ _ _ _ (c09 (c0W e))]
  exact c0M _ e
 .rw [c4T,c5N];lia
 .have:=rv.length;rw [c1G];lia
 .obtain ⟨hj,rfl⟩:=c0V.mp hx
  have ev:φ [ds[j]]=some (.sh (.int (kz.getD j 0))):=by
   have:=congrArg (λl=>l[j]?) ek
   simp [show j<ds.length by lia,show j<kz.length by lia] at this
   simp [show j<kz.length by lia,this]
  exact b41 F h1 hr2 rfl hb I1 (O:=O) rx (hO.grow sm) ((a9B ix j hj (by lia)).grow sm) ev
noncomputable def kysD(φ:List D->Option Sl):List D->Option (List Int)
 | []=>some []
 | d::ds=>match φ [d] with
  | some (.sh (.int k))=>(kysD φ ds).map λks=>k::ks
  | _=>none
theorem b0w:∀{ds:List D} {kz:List Int},kysD φ ds=some kz->ds.map (λd=>φ [d])=kz.map λk=>some (.sh (.int k))
 | [],kz,h=>by cases h;rfl
 | d::ds,kz,h=>by
  unfold kysD at h
  split at h
  .rename_i k e
   obtain ⟨ks,e2,rfl⟩:=map_some h
   rw [c1l,c1l,e,b0w e2]
  .cases h
noncomputable def b8I(K:c0L)(φ:List D->Option Sl)(te:TE):TE:=λσ H Q=>te σ H λxv H1=>∃(O:Addr->Prop) (p:Addr) (xs:List V) (ds:List D) (kz:List Int),xv=.ref p/\Sq K H1 true p xs/\Dom K O H1/\Iss K O H1 xs ds/\ds.map (λd=>φ [d])=kz.map (λk=>some (.sh (.int k)))/\xs.length<64 /\
 ∀a H',Same H1 H'->H' a=none->Q (.ref a) (upd H' a (.lst (ordK kz (.int 0) xs)))
theorem b36{k:Nat}{f:Addr}{fd:FuncData}{ps:List Str}{φ:List D->Option Sl}{e:Expr}{te:TE}{x:Str}{p pos kp np:Pos}(F:FnOk X.prog X.w X.K X.mg X.base CX0 k f fd ps (spD X.K ps.length φ))(h1:ps.length=1)(hr:Room (k+1) X.A)(hgf:Gl X x)(hmf:X.mg x=some (.ref f))(hb:Binds X.K fd ps [])
  (hg:Gl X "sorted")(hm:X.mg "sorted" = none)(he:PE X e te)(hs:starEach [e] X.env=[(false,eval e X.env)]:=by rfl)(hdb:(x==("__debug__":Str))=false:=by decide):PE X (.Call (.Name "sorted" p) [e] [⟨some "key",.Name x np,kp⟩] pos) (b8I X.K φ te):=by
 intro pins s σ H Q I h
 refine c2B (a5j I hg hm boot_sorted ?_)
 refine callWith_builtin_kwB (first:=[]) (by rw [hs];rfl) rfl ?_
 rw [hs]
 refine evalArgs_kwB rfl ?_
 refine c4h (thn (he pins s σ H _ I h) λu s1 ⟨xv,H1,I1,r1,q1⟩=>c4y ?_)
 refine kws_cons (a4h I1 hgf hmf (kws_nil ?_) hdb)
 obtain ⟨O,p,xs,ds,kz,rfl,hq,hO,ix,ek,h64,q⟩:=q1
 cases r1
 exact b2a F h1 hr hb I1 hq hO ix ek h64 q
noncomputable def srtN(φ:List D->Option Sl):D->Option Sl
 | .lst _ ds=>(kysD φ ds).bind λkz=>if ds.length<64 then some (.ow (ordK kz .non ds)) else none
 | _=>none
noncomputable def a80(φ:List D->Option Sl)(f:En->Option Sl):En->Option Sl:=λenv=>(f env).bind λr=>srtN φ r.d
theorem b0m{K:c0L}{O:Addr->Prop}{H:Hp}{kz:List Int}{xs:List V}{ds:List D}(hi:Iss K O H xs ds):Iss K O H (ordK kz (.int 0) xs) (ordK kz .non ds):=by
 have hl:ds.length=xs.length:=hi.length.symm
 unfold ordK
 by_cases h2:xs.length<2
 .rw [if_pos h2,if_pos (by lia)];exact hi
 rw [if_neg h2,if_neg (by lia),hl]
 have hm:∀i∈KS.ord (λi=>kz.getD i 0) xs.length,i<xs.length:=λi hi=>c1x.mp ((KS.ord_spec (λi=>kz.getD i 0) xs.length (by lia)).1.mem_iff.mp hi)
 generalize KS.ord (λi=>kz.getD i 0) xs.length=os at *
 induction os with
 | nil=>exact .nil
 | cons i os ih =>
  have hj:=hm i (c0N ..)
  refine .cons ?_ (ih λj hj=>hm j (c0O _ hj))
  have:=a9B hi i hj (by lia)
  simpa [hj,show i<ds.length by lia] using this
theorem b4M{k:Nat}{f:Addr}{fd:FuncData}{ps:List Str}{φ:List D->Option Sl}{e:Expr}{fa:En->Option Sl}{x:Str}{p pos kp np:Pos}(F:FnOk X.prog X.w X.K X.mg X.base CX0 k f fd ps (spD X.K ps.length φ))(h1:ps.length=1)(hr:Room (k+1) X.A)(hgf:Gl X x)(hmf:X.mg x=some (.ref f))(hb:Binds X.K fd ps [])
  (hg:Gl X "sorted")(hm:X.mg "sorted" = none)(he:EV X e fa)(hs:starEach [e] X.env=[(false,eval e X.env)]:=by rfl)(hdb:(x==("__debug__":Str))=false:=by decide):EV X (.Call (.Name "sorted" p) [e] [⟨some "key",.Name x np,kp⟩] pos) (a80 φ fa):=by
 obtain ⟨t,pt,kk⟩:=he
 refine ⟨_,b36 F h1 hr hgf hmf hb hg hm pt hs hdb,λO B σ H env s Q R e q=>?_⟩
 obtain ⟨r,e1,e2⟩:=bind_some e
 refine kk O B σ H env r _ R e1 λv H1 s1 r1=>?_
 have hi:=r1.is λq=>R.oo
 unfold srtN at e2
 split at e2
 .rename_i ro ds hd
  rw [hd] at hi
  obtain ⟨kz,e3,e4⟩:=bind_some e2
  obtain ⟨h64,rfl⟩:=a0D e4
  obtain ⟨a,xs,rfl,g2,g3⟩:=hi.seq (k:=true) rfl
  have hl:ds.length=xs.length:=g3.length.symm
  refine ⟨OO O σ env,a,xs,ds,kz,rfl,g2,(R.grow s1).dm,g3,b0w e3,by lia,λc H2 s2 hc=>?_⟩
  refine q _ _ ((s1.trans s2).trans (a08 hc _)) ((a4f hc ?_).from (s1.trans s2))
  exact (b0m g3).grow s2
 .cases e2
theorem b3s(e:f env=some (.sh (.lst r ds)))(hk:kysD φ ds=some kz)(h64:ds.length<64):Wo (a80 φ f env) Q↔Q (.ow (ordK kz .non ds)):=by
 unfold a80
 rw [e,c1w]
 show Wo ((kysD φ ds).bind _) Q↔_
 rw [hk,c1w,if_pos h64,a0g]
end
noncomputable def Itl(K:c0L)(l:Addr)(n:Nat):It:=
 ⟨λi H=>∃xs x,Sq K H true l xs/\xs.length=n/\i<n/\xs[n-1-i]?=some x,
 λi H v H'=>H'=H/\∀xs,Sq K H true l xs->xs[n-1-i]?=some v,
 λi _=>n<=i⟩
section
variable {X:Cx}{tg:Expr}
end
theorem Fx.srtN{X:Cx}{N:List Str}{sc:Scope}{k j:Nat}{full:Bool}{x:Str}{st:Stmt}{ps:List Str}{φ:List D->Option Sl}{e:Expr}{fa:En->Option Sl}{p pos kp np:Pos}(h:Fx X N sc k full)(O:Oz X.prog X.w X.K X.mg X.base x st ps j φ)(hm:X.mg "sorted" = none)(he:EV X e fa)(hj:j+1<=k:=by decide)(h1:ps.length=1:=by rfl)(hgf:sc.names.lookup x=some .globalImplicit:=by rfl)(hg:sc.names.lookup ("sorted":Str)=some .globalImplicit:=by rfl)
  (hs:starEach [e] X.env=[(false,eval e X.env)]:=by rfl)(hdb:(x==("__debug__":Str))=false:=by decide):EV X (.Call (.Name "sorted" p) [e] [⟨some "key",.Name x np,kp⟩] pos) (a80 φ fa):=by
 obtain ⟨f,fd,D',F⟩:=O
 exact b4M F h1 (h.room.mono hj) (h.g hgf) D'.m D'.bd (h.g hg) hm he hs hdb
end DL
namespace DL
open PySem PySem.W PySem.Spec PyProof.Rows L2
theorem a9a:∀{l:List Value},TriplesOk l->codeAmong pos (l++[rawInt a,rawInt b,c])=some cv->codeAmong pos l=some cv\/cv=c
 | [],_,h=>by
  simp only [c45,rawInt,codeAmong] at h
  split at h
  .exact .inr (c0U h).symm
  .cases h
 | .int x t::.int y u::d::r,ht,h=>by
  simp only [c3V,codeAmong] at h ⊢
  split at h
  .rename_i hc
   rw [if_pos hc]
   exact .inl h
  .rename_i hc
   rw [if_neg hc]
   exact a9a (l:=r) ht h
structure Lm(X:Cx)(c P:Addr):Prop where
 tab:tabIn X.K "dealt" = some (c,P)
 hd:codeHdIn X.K c P=true
 code:X.env.code=.ref c
 qual:X.env.qual ++ "<lambda>" = lamQ
section
variable {X:Cx}{pins:List (Addr×Obj)}{s:Shared}{σ:L2.St}{H:Hp}
theorem b4r(L:Lm X c P)(I:Inv X pins σ H s)(tb:Tb X.K H)(hdef:defaultsOf params X.env=([],[]))(hcl:closureFor scope X.env=pure clos)
  (q:∀f c' ctv pm oc H' s',Same H H'->Inv X pins σ H' s'->H' f=some (.frz (kla_obj "<lambda>" lamQ params body scope clos pm c' ctv) (.own f))->H' c'=some (.frz oc (.own P))->b0A lamQ oc->Q (.ref f) s'):
  wpAny (model X.prog X.w) A (eval (.Lambda params body scope pos) X.env) Q E s:=by
 have hP:=tb c P L.tab
 obtain ⟨ps,e,ht,codes⟩:=I.hok P _ hP
 have C:CodeHd s.heap c P:=(codeHd_of_K I.mod.kin L.hd).keeps I.bk
 obtain ⟨bm,ob,b1,b2,b3,b4,b5,b6⟩:=I.mod.bmod
 have b3':=I.bk _ _ b3
 have hg:s.heap.Ns mainGlobals X.mg:=I.mod.glob.keeps I.bk
 have hgP:mainGlobals≠P:=λz=>by
  obtain ⟨o,es,ep,e1,hd,_⟩:=hg
  rw [z,e] at e1;cases e1;cases hd
 have hbG:bm≠mainGlobals:=λz=>by
  obtain ⟨o,es,ep,e1,hd,_⟩:=hg
  rw [<-z,b3'] at e1;cases e1;rw [b6] at hd;cases hd
 have hbP:bm≠P:=λz=>by rw [z,e] at b3';cases b3';cases b4
 have hb:s.heap.BuiltinsAt X.mg P:=⟨bm,ob,b1,b2,hbG,hbP,b3',b4,b5,b6⟩
 refine kla_eval hdef ?_
 rw [L.qual]
 have lay:∀(H1:Hp) (s1:Shared),Same H H1->Inv X pins σ H1 s1->∀c' oc ctv pm (tk:Nat),H1 c'=some (.frz oc (.own P))->b0A lamQ oc->Q (.ref s1.heap.objs.size) { s1 with heap:=s1.heap.push (kla_obj "<lambda>" lamQ params body scope clos pm c' ctv),toks:=tk }:=λH1 s1 sm I1 c' oc ctv pm tk h1 h2=>by
  have hf:=I1.hok.fresh (c0S s1.heap.objs.size)
  have I2:=I1.laid (t':=tk) (o:=.frz (kla_obj "<lambda>" lamQ params body scope clos pm c' ctv) (.own s1.heap.objs.size)) (h':=s1.heap.push (kla_obj "<lambda>" lamQ params body scope clos pm c' ctv)) (λb u e=>c0M _ e) (c0S _) ⟨c0Y _ rfl,_,c0Y _ rfl⟩
  exact q _ c' ctv pm oc _ _ (sm.trans (a08 hf _)) I2 a0V (by rw [a0q (a0A h1 hf)];exact h1) h2
 cases hc:codeAmong pos ps.toList with
 | some cv =>
  obtain ⟨c',oc,rfl,hc',ho⟩:=codes pos cv hc
  refine kla_makeFunctionHit hcl I.ok.glob hg L.code C e ht hc hb λctv h' tk keep sz=>?_
  exact lay H { s with heap:=h',toks:=s.toks } (Same.refl _) (I.kept (t':=s.toks) keep) c' oc ctv _ tk hc' ho
 | none =>
  refine kla_makeFunction hcl I.ok.glob hg L.code C e ht hc hgP hb λc' ctv h' tk hx hge hlt hrec htb=>?_
  obtain ⟨c2,oc,vs,t,e2,hoc,hd,hv⟩:=hrec
  cases e2
  have hf:H c'=none:=I.hok.fresh hge
  have nP:∀{b:Addr},H b=none->b≠P:=λh z=>by rw [z,hP] at h;cases h
  have I1:Inv X pins σ (upd H c' (.frz oc (.own P))) { s with heap:=h',toks:=s.toks }:=by
   refine I.un (t':=s.toks) ⟨λb o e1 n _ _=>hx b o (nP n) e1,λb o e1 n _ _=>⟨o.slots,hx b o (nP n) e1⟩,λb o e1 n _=>?_,λb o e1 _=>?_,λb xs e1=>?_,λb o u e1=>?_,λb ps e1=>⟨#[],?_⟩⟩ λb u q1=>?_
   .rw [a0q (c09 (c1d (c0W e1) hge))];exact n
   .by_cases hb:b=P
    .rw [hb];exact ⟨_,htb⟩
    .exact ⟨o,hx b o hb e1⟩
   .rw [a0q (a0A e1 hf)];exact e1
   .rw [a0q (a0A e1 hf)];exact e1
   .rw [a0q (a0A e1 hf),e1];simp
   .by_cases hb:b=c'
    .subst hb
     rw [a0V] at q1;cases q1
     exact ⟨hoc,_,hoc⟩
    .rw [a0q hb] at q1
     by_cases hbP:b=P
     .subst hbP
      rw [hP] at q1;cases q1
      refine ⟨_,htb,?_,λpos' cv h1=>?_⟩
      .rw [c5y]
       exact TriplesOk_snoc _ _ _ _ ht
      .rw [c5y] at h1
       rcases a9a ht h1 with h1 | rfl
       .obtain ⟨d,od,rfl,h2,h3⟩:=codes pos' cv h1
        exact ⟨d,od,rfl,by rw [a0q (a0A h2 hf)];exact h2,h3⟩
       .exact ⟨c',oc,rfl,a0V,vs,t,hd,hv⟩
     .refine (I.hok b u q1).stay (λd v h1 r=>hx d v ?_ r) (λd v _ r=>by rw [a0q (a0A r hf)];exact r) λd xs r=>by rw [a0q (a0A r hf)];exact r
      rcases h1 with rfl | h1
      .exact hbP
      .exact λz=>by rw [z,hP] at h1;cases h1
  exact lay _ { s with heap:=h',toks:=s.toks } (a08 hf _) I1 c' oc ctv _ tk a0V ⟨vs,t,hd,hv⟩
end
section
variable {prog:Program}{w:World}{A:Around}{E:Value->Shared->Prop}{s:Shared}
theorem a9U{b:Int}{n:Nat}(hh:A.handled=none)(hr:IsRange s.heap r 0 b 1 t u v)(hsmall:c35 0 b 1=true)(hn:c3x 0 b 1=n)(hlen:n<=2^24)
  (h:∀h' tk (vs:List Value),(∀b o,s.heap.get? b=some o->h'.get? b=some o)->s.heap.objs.size<=h'.objs.size->ItemsOf (λi v=>∃t,v=.int (0+i*1) t) vs.toArray n->Q vs { s with heap:=h',toks:=tk }):
  wpAny (model prog w) A (collect (.ref r)) Q E s:=by
 unfold collect
 refine c0K (wpAny_runValue (c2t PySem.F.entry_proto_collect ?_))
 rw [c18 PySem.F.plain_proto_collect _]
 show wpAny _ A.in1 (newList [] >>= λl=>again (.builtin "list.__iadd__" ⟨[l,.ref r],[]⟩)) _ _ s
 refine c0K (c12 ?_)
 refine c0X ⟨c27 c4N _,c2t PySem.F.entry_list_iadd ?_⟩
 rw [c18 c4N _]
 show wpAny _ A.in1 (Builtin.List.listExtendWith (.ref s.heap.objs.size) (.ref r) (.ref s.heap.objs.size)) _ _ { s with heap:=s.heap.push (seqObj "list" #[] 0) }
 have hS:(s.heap.push (seqObj "list" #[] 0)).get? s.heap.objs.size=some { cls:=.type "list",data:=.seq #[] 0 }:=c0Y _ rfl
 refine wpAny_extend_range (R:=wants _ E) (s:={ s with heap:=s.heap.push (seqObj "list" #[] 0) }) (A:=A) ?_ (c0M _ hr) hsmall hn hlen s.heap.objs.size (.ref s.heap.objs.size) 0 hS λh' tk acc c' hk hS' hacc=>?_
 .exact hh
 .show wpAny _ A (load s.heap.objs.size >>= _) _ _ _
  refine c0K (wpAny_load hS' ?_)
  refine c0X (h h' tk acc.toList (λb o e=>hk b o (c09 (c0W e)) (c0M _ e)) (c2A (c0W hS')) (by simpa using hacc))
end
section
variable {X:Cx}{pins:List (Addr×Obj)}{s:Shared}{σ:L2.St}{H:Hp}
structure LamSc(sc:Scope)(x y:Str):Prop where
 kind:sc.kind=.function
 co:sc.isCoroutine=false
 gen:sc.isGenerator=false
 ncell:∀z∈sc.names,z.2≠.cell
 free:∀z∈sc.names,z.2=.free->z.1=x
 hx:sc.names.lookup x=some .free
 hy:sc.names.lookup y=some .local
 ne:y≠x
noncomputable def b7A(X:Cx)(A:Around)(s:Shared)(H:Hp)(env:Env)(N:List Str):Cx where
 prog:=X.prog
 w:=X.w
 K:=X.K
 mg:=X.mg
 base:=X.base
 A:=A.deeper env
 N:=N
 s₀:=s
 H₀:=H
 env:=env
 outer:=X.stack
 stack:=env::X.stack
 ex:=[]
 calm:=true
 fn:=λ_=>false
 pn:=[]
 xe:=λ_ _=>False
theorem b4s{A':Around}{k:Nat}{x y:Str}{i:Nat}(S:LamSc sc x y)(I:Inv X pins σ H s)(hA:A'.frames=X.A.frames)(hr:Room (k+1) A')
  (hf:H f=some (.frz (kla_obj "<lambda>" lamQ params body sc [(x,cc)] pm c' ctv) (.own f)))(hc:H c'=some (.frz oc (.own P)))(ho:b0A lamQ oc)
  (hN:X.N[i]?=some x)(hkx:X.env.scope.names.lookup x=some .cell)(hcx:X.env.cells.lookup x=some cc)
  (hbind:∀v,bindArgs (kla_fn "<lambda>" lamQ params body sc [(x,cc)] pm (.ref c') ctv) ⟨[v],[]⟩=pure [(y,v)])(hbody:∀X':Cx,X'.prog=X.prog->X'.w=X.w->X'.K=X.K->X'.mg=X.mg->X'.base=X.base->Fx X' [y,x] sc k false->EV X' body fb){n:Int}(rx:RelV xv v)(hσ:σ[i]?=some (some vr))(hO:Dom X.K O H)(i1:Is X.K O H xv dv)(i2:Is X.K O H vr dr)(e:fb [.sh dv,.sh dr]=some (.sh (.int n))):
  wpAny (model X.prog X.w) A' (call (.ref f) [v]) (λu s'=>∃t H',u=.int n t/\Inv X pins σ H' s'/\Same H H'/\∀b o,s.heap.get? b=some o->FpOk X pins H b->s'.heap.get? b=some o/\FpOk X pins H' b) E s:=by
 have gf:=(I.hok f _ hf).1
 have gc:=(I.hok c' _ hc).1
 obtain ⟨vs,t,hd,hv⟩:=ho
 obtain ⟨m,hm,hl⟩:=I.loc
 obtain ⟨u,ru,lk⟩:=hl i x vr hN hσ (.inr (.inl hkx))
 have hcell:s.heap.IsCell cc (some u):=by
  rcases lk with ⟨z,_⟩ | ⟨_,c,e1,z⟩
  .have:X.env.scope.names.lookup x=some .local:=z
   rw [hkx] at this;cases this
  .rw [hcx] at e1;cases e1;exact z
 refine c4z (kla_callFunE (body:=body) hr.depth gf rfl S.co S.gen rfl ⟨c',oc,vs,t,rfl,gc,hd,hv⟩ ?_)
 rw [hbind]
 refine c0X (wpAny_newFunctionEnv S.ncell (λz hz=>by rw [c0Q.mp hz];exact S.hy) (λh1 hns hsb=>⟨I.nolimit.fresh _ hsb,?_⟩) S.kind)
 have hk:∀b o,s.heap.get? b=some o->h1.get? b=some o:=λb o e1=>hsb.extBut b o (c09 (c0W e1)) (c0M _ e1)
 show codeAny _ _ (.expr body (envX lamQ sc s.heap.objs.size f (.ref c') [(x,cc)])) _ _
 generalize hen:envX lamQ sc s.heap.objs.size f (.ref c') [(x,cc)]=env at *
 have e0:=I.env0
 have noA:∀b:Addr,b∉(b7A X A' s H env [y,x]).ex:=λb z=>absurd (show b∈([]:List Addr) from z) (by simp)
 have cel:∀z c,env.cells.lookup z=some c->z=x/\c=cc:=λz c h=>by
  rw [<-hen] at h
  have h:([(x,cc)]:List (Str×Addr)).lookup z=some c:=h
  rw [c1A] at h
  split at h
  .rename_i hz;cases h;exact ⟨by simpa using hz,rfl⟩
  .cases h
 have J:Inv (b7A X A' s H env [y,x]) [] [some xv,some vr] H { s with heap:=h1,toks:=s.toks+[(y,v)].length }:=by
  have hfr:=hA.trans e0.frames
  refine ⟨⟨e0.mod,by rw [<-hen];exact S.kind,by rw [<-hen];rfl,by rw [<-hen];rfl,by rw [<-hen];exact c0S _,λz1 z2 c h1 h2=>?_,λz hz=>?_,λz c h=>(nomatch h),λ_=>hr.hd,c5i hfr,.inr ⟨rfl,by rw [<-hen];rfl⟩,λb z=>absurd z (noA b),e0.bs,e0.bsz,λb _ _=>noA b,λb z=>absurd z (noA b),e0.funs,e0.frf⟩,
   rfl,e0.bare,Un.kept hk,⟨_,by rw [<-hen];exact hns,λj z w h1 h2 h3=>?_⟩,λz c h=>?_,by rw [<-hen];exact I.hok.fresh (c0S _),λz c h=>?_,λp hp=>absurd (show p∈([]:List (Addr×Obj)) from hp) (by simp),I.hok.kept hk,rfl⟩
  .exact (cel z1 c h1).1.trans (cel z2 c h2).1.symm
  .have:z=x:=by
    rcases hz with hz | hz
    .rw [<-hen] at hz
     exact absurd rfl (S.ncell _ (c1Y hz))
    .rw [<-hen] at hz
     exact S.free _ (c1Y hz) rfl
   subst this
   exact ⟨cc,by rw [<-hen];show ([(z,cc)]:List (Str×Addr)).lookup z=_;simp⟩
  .match j,h1,h2 with
   | 0,h1,h2 =>
    cases h1;cases h2
    refine ⟨v,rx,.inl ⟨by rw [<-hen];exact S.hy,?_⟩⟩
    show ([(y,v)]:List (Str×Value)).reverse.lookup y=_
    simp
   | 1,h1,h2 =>
    cases h1;cases h2
    obtain ⟨o,ho,hd⟩:=hcell
    exact ⟨u,ru,.inr ⟨.inr (by rw [<-hen];exact S.hx),cc,by rw [<-hen];show ([(x,cc)]:List (Str×Addr)).lookup x=_;simp,o,hk _ _ ho,hd⟩⟩
  .obtain ⟨rfl,rfl⟩:=cel z c h
   obtain ⟨o,ho,hd⟩:=hcell
   exact ⟨_,o,hk _ _ ho,hd⟩
  .obtain ⟨rfl,rfl⟩:=cel z c h
   exact I.freeC z c hcx
 obtain ⟨tt,pt,kk⟩:=hbody (b7A X A' s H env [y,x]) rfl rfl rfl rfl rfl ⟨rfl,by show env.scope=sc;rw [<-hen],rfl,λz=>(nomatch z),c2s,hr.deeper _,by simp [S.ne],λz=>(nomatch z)⟩
 have R:Rel X.K O H [some xv,some vr] H [.sh dv,.sh dr]:=by
  have nos:∀(j:Nat) (t:Sl),([.sh dv,.sh dr]:En)[j]?=some t->t.own->False:=λj t e1 o=>by
   match j,e1 with
   | 0,e1=>cases e1;exact o
   | 1,e1=>cases e1;exact o
  have no:∀p,¬Own [some xv,some vr] [.sh dv,.sh dr] p:=λp ⟨j,es,e1,o,_⟩=>nos j es e1 o
  refine ⟨Same.refl _,hO,rfl,λj d e1=>?_,λj es e1=>(nos j _ e1 trivial).elim,λj es e1=>(nos j _ e1 trivial).elim,λj j2 es fs p e1 _ _ _ o _=>(nos j _ e1 o).elim⟩
  .match j,e1 with
   | 0,e1=>cases e1;exact ⟨xv,rfl,i1.less λq z=>z.elim id λz=>(no q z).elim⟩
   | 1,e1=>cases e1;exact ⟨vr,rfl,i2.less λq z=>z.elim id λz=>(no q z).elim⟩
 have run:=pt [] _ _ H (λw H'=>w=.int n/\Same H H') J (kk O H _ H _ _ _ R e λw H' sm rr=>⟨a03 rr,sm⟩)
 refine kla_codeExpr (c1z run (λw s' hq=>?_) λ_ _ z=>z.elim)
 obtain ⟨w',H',J',rw',rfl,sm⟩:=hq
 obtain ⟨tok,rfl⟩:=rw'
 obtain ⟨hh,g,d',t',os'⟩:=s'
 obtain rfl:os'=s.os:=J'.os
 have un:Un (frs X.stack) [] H H' s.heap hh:=J'.base
 refine ⟨tok,H',rfl,I.call (h':=hh) (g':=g) (d':=d') (t':=t') (ch:=[]) un J'.hok J'.bare (λb z=>absurd z (by simp)),sm,λb o eb hf=>?_⟩
 have nst:b∉frs X.stack:=λz=>by
  rcases c0R.mp (I.stkSub b z) with z | z
  .exact hf.2.1 z
  .exact hf.2.2.1 z
 exact ⟨un.keep b o eb hf.1 nst (by simp),un.free b o eb hf.1 (by simp),hf.2⟩
end
section
variable {X:Cx}
theorem b25:CallR X (.type "range") (λxs H Q=>∃j:Int,xs=[.int j]/\∀p,H p=none->Q (.ref p) (upd H p (.rng 0 j))):=by
 intro pins s σ H xs us Q I r h
 obtain ⟨j,rfl,q⟩:=h
 cases r with
 | cons r rr =>
  cases rr
  obtain ⟨t,rfl⟩:=r
  refine call_range_1 ⟨.ref s.heap.objs.size,_,I.laid (o:=.rng 0 j) (λb o e=>c0M _ e) (c0S _) ?_,rfl,q _ (I.hok.fresh (c0S _))⟩
  exact ⟨_,_,_,c0Y _ rfl⟩
noncomputable def b8J(K:c0L)(i:Nat)(fb:En->Option Sl)(te:TE):TE:=λσ H Q=>te σ H λxv H1=>∃(O:Addr->Prop) (p:Addr) (n:Nat) (vr:V) (dr:D) (kz:List Int),xv=.ref p/\H1 p=some (.rng 0 n)/\n<64/\kz.length=n/\σ[i]?=some (some vr)/\Dom K O H1/\Is K O H1 vr dr /\
 (∀j:Nat,j<n->fb [.sh (.int j),.sh dr]=some (.sh (.int (kz.getD j 0))))/\∀a H',Same H1 H'->H' a=none->Q (.ref a) (upd H' a (.lst (ordK kz (.int 0) (a43 0 n))))
theorem b37(L:Lm X c P)(S:LamSc sc x y)(hc:X.calm=true)(hr:Room 2 X.A)(hg:Gl X "sorted")(hm:X.mg "sorted" = none)
  (hN:X.N[i]?=some x)(hkx:X.env.scope.names.lookup x=some .cell)(hdef:defaultsOf params X.env=([],[]))(hclo:∀cc,X.env.cells.lookup x=some cc->closureFor sc X.env=pure [(x,cc)])
  (hbind:∀cc pm c' ctv v,bindArgs (kla_fn "<lambda>" lamQ params body sc [(x,cc)] pm (.ref c') ctv) ⟨[v],[]⟩=pure [(y,v)])
  (hbody:∀X':Cx,X'.prog=X.prog->X'.w=X.w->X'.K=X.K->X'.mg=X.mg->X'.base=X.base->Fx X' [y,x] sc 0 false->EV X' body fb)
  (he:PE X e te)(hs:starEach [e] X.env=[(false,eval e X.env)]:=by rfl):PE X (.Call (.Name "sorted" p) [e] [⟨some "key",.Lambda params body sc lp,kp⟩] pos) (b8J X.K i fb te):=by
 intro pins s σ H Q I h
 obtain ⟨cc,hcc⟩:=I.ok.has x (.inl hkx)
 refine c2B (a5j I hg hm boot_sorted ?_)
 refine callWith_builtin_kwB (first:=[]) (by rw [hs];rfl) rfl ?_
 rw [hs]
 refine evalArgs_kwB rfl ?_
 refine c4h (thn (he pins s σ H _ I h) λu s1 ⟨xv,H1,I1,r1,q1⟩=>c4y ?_)
 obtain ⟨O,p,n,vr,dr,kz,rfl,hp,h64,hlk,hσ,hO,hi,hky,q⟩:=q1
 cases r1
 refine kws_cons (b4r L I1 hO.2 hdef (hclo cc hcc) λf c' ctv pm oc H2 s2 sm I2 hf hc' ho=>kws_nil ?_)
 obtain ⟨t,u,v,hrg⟩:=I2.hok p _ (sm _ _ hp)
 have hr2:Room 1 X.A.in1.in1:=⟨hr.hd,by have:=hr.dp;show X.A.depth+3*1+5<_;lia,by have:=hr.un;show X.A.units+1+1+16*1+200<_;lia⟩
 have hlx:(a43 0 n).length=n:=by unfold a43;simp
 refine a8f hr I2 (hlk.trans hlx.symm) (by lia) (λhA h=>a9U (n:=n) (hA.trans (I.ok.hd hc)) hrg ?_ ?_ (by lia) λh' tk vs k1 k2 it=>h h' tk vs k1 k2 (b03 (by simpa using it.1) λk v e=>it.2 k v (by simpa using e))) (λH3 s3 j v xv I3 sm3 rx hx=>?_) λa H' s' hn=>q a H' (sm.trans s') hn
 .have hz:c3x 0 n 1=n:=by rw [c5G];split<;>lia
  unfold c35
  rw [hz]
  simp [Builtin.Range.rangeFitsLong]
  lia
 .rw [c5G];split<;>lia
 .obtain ⟨hj,rfl⟩:=c0V.mp hx
  have hjn:j<n:=by lia
  have s13:=sm.trans sm3
  have ej:(a43 0 n)[j]=.int j:=by unfold a43;simp
  rw [ej] at rx
  exact b4s (A':=X.A.in1.in1) (k:=0) S I3 rfl hr2 (sm3 _ _ hf) (sm3 _ _ hc') ho hN hkx hcc (hbind cc pm c' ctv) hbody rx hσ (hO.grow s13) (Is.int _) (hi.grow s13) (hky j hjn)
noncomputable def kyL(fb:En->Option Sl)(d:D)(j:Nat):Option Int:=match fb [.sh (.int j),.sh d] with
 | some (.sh (.int k))=>some k
 | _=>none
theorem b4u(h:kyL fb d j=some k):fb [.sh (.int j),.sh d]=some (.sh (.int k)):=by
 unfold kyL at h
 split at h
 .rename_i k' e
  cases h
  exact e
 .cases h
noncomputable def b0R(i:Nat)(fb:En->Option Sl)(fs:En->Option (List D)):En->Option Sl:=λenv=>(fs env).bind λds=>match ds,env[i]? with
 | [.int n],some (.sh d)=>if n<64/\0<=n/\∀j,j<n.toNat->(kyL fb d j).isSome=true then some (.ow (ordK ((c1n n.toNat).map λj=>(kyL fb d j).getD 0) .non (rngD 0 n.toNat))) else none
 | _,_=>none
theorem b4N{c P:Addr}(L:Lm X c P){N:List Str}{scD:Scope}{k:Nat}(h:Fx X N scD k){params:Arguments}{body a:Expr}{sc:Scope}{x y:Str}{i:Nat}{fs:En->Option (List D)}{fb:En->Option Sl}{p pos kp lp p2 pos2:Pos}(S:LamSc sc x y)(hr:Room 2 X.A)(hg:Gl X "sorted")(hm:X.mg "sorted" = none)(hg2:Gl X "range")(hm2:X.mg "range" = none)
  (hN:N[i]?=some x)(hkx:scD.names.lookup x=some .cell)(hdef:defaultsOf params X.env=([],[]))(hclo:∀cc,X.env.cells.lookup x=some cc->closureFor sc X.env=pure [(x,cc)])
  (hbind:∀cc pm c' ctv v,bindArgs (kla_fn "<lambda>" lamQ params body sc [(x,cc)] pm (.ref c') ctv) ⟨[v],[]⟩=pure [(y,v)])
  (hbody:∀X':Cx,X'.prog=X.prog->X'.w=X.w->X'.K=X.K->X'.mg=X.mg->X'.base=X.base->Fx X' [y,x] sc 0 false->EV X' body fb)
  (ha:AV X [a] fs)(hs:starEach [Expr.Call (.Name "range" p2) [a] [] pos2] X.env=[(false,eval (.Call (.Name "range" p2) [a] [] pos2) X.env)]:=by rfl)(h1:starEach [a] X.env=[(false,eval a X.env)]:=by rfl):
  EV X (.Call (.Name "sorted" p) [.Call (.Name "range" p2) [a] [] pos2] [⟨some "key",.Lambda params body sc lp,kp⟩] pos) (b0R i fb fs):=by
 obtain ⟨t,pt,kk⟩:=ha
 refine ⟨_,b37 L S h.calm hr hg hm (by rw [h.n];exact hN) (by rw [h.sc];exact hkx) hdef hclo hbind hbody (a8l b25 hg2 hm2 boot_range pt (by decide) (by decide) (by rw [h1];rfl) rfl) hs,λO B σ H env s Q R e q=>?_⟩
 obtain ⟨ds,e1,e2⟩:=bind_some e
 refine kk O B σ H env ds _ R e1 λvs H1 s1 r1=>?_
 split at e2
 .rename_i n d hd
  obtain ⟨⟨h64,h0,hk⟩,rfl⟩:=a0D e2
  obtain ⟨vr,hσ,hi⟩:=R.sh i d hd
  obtain ⟨m,rfl⟩:∃m:Nat,n=m:=⟨n.toNat,by omega⟩
  rw [c2q] at *
  have ev:vs=[.int m]:=by
   cases r1 with
   | cons a b=>cases b;cases a;rfl
  refine ⟨m,ev,λpp hp=>?_⟩
  have s2:=s1.trans (a08 hp (.rng 0 m))
  refine ⟨OO O σ env,pp,m,vr,d,(c1n m).map λj=>(kyL fb d j).getD 0,rfl,a0V,by omega,by simp,hσ,(R.grow s2).dm,hi.grow s2,λj hj=>b4u ?_,λa H' sm ha=>q _ _ ((s2.trans sm).trans (a08 ha _)) ((a4f ha ?_).from (s2.trans sm))⟩
  .obtain ⟨k,hk⟩:=c4A.mp (hk j hj)
   simp [hj,hk]
  .by_cases h2:(a43 0 m).length<2
   .have:ordK ((c1n m).map λj=>(kyL fb d j).getD 0) (.int 0) (a43 0 m)=a43 0 m:=by unfold ordK;rw [if_pos h2]
    rw [this,show ordK ((c1n m).map λj=>(kyL fb d j).getD 0) .non (rngD 0 m)=rngD 0 m by unfold ordK;rw [if_pos (by unfold rngD a43 at *;simpa using h2)]]
    exact b2B _ _
   .exact (b0m (b2B 0 m))
 .cases e2
theorem b3t(e:fs env=some [.int n])(he:env[i]?=some (.sh d))(h64:n<64)(hk:∀j,j<n->fb [.sh (.int j),.sh d]=some (.sh (.int (kf j)))):
  Wo (b0R i fb fs env) Q↔Q (.ow (ordK ((c1n n).map kf) .non (rngD 0 n))):=by
 have hk':∀j,j<n->kyL fb d j=some (kf j):=λj hj=>by unfold kyL;rw [hk j hj]
 unfold b0R
 rw [e,he,c1w]
 dsimp only
 rw [if_pos ⟨by lia,by lia,λj hj=>by rw [hk' j (by lia)];rfl⟩,a0g,c2q]
 have:((c1n n).map λj=>(kyL fb d j).getD 0)=(c1n n).map kf:=c2V λj hj=>by rw [hk' j (c1x.mp hj)];rfl
 rw [this]
end
theorem b95(h:sc.names.filter (λz=>z.2==.free)=[(x,.free)])(hc:env.cells.lookup x=some cc):closureFor sc env=pure [(x,cc)]:=by
 have cel:cellOf env x=pure cc:=by unfold cellOf;rw [hc]
 have key:∀(l:List (Str×NameKind)) (cs:List (Str×Addr)),(l.filter (λz=>z.2==.free)=[]->(forIn l cs λz r=>if (z.2==.free)=true then cellOf env z.1 >>= λc=>pure (c1T ((z.1,c)::r)) else pure (c1T r))=(pure cs:Sem _)) /\
   (l.filter (λz=>z.2==.free)=[(x,.free)]->(forIn l cs λz r=>if (z.2==.free)=true then cellOf env z.1 >>= λc=>pure (c1T ((z.1,c)::r)) else pure (c1T r))=(pure ((x,cc)::cs):Sem _)):=by
  intro l
  induction l with
  | nil=>exact λcs=>⟨λ_=>rfl,λh=>nomatch h⟩
  | cons z l ih =>
   intro cs
   rw [List.filter_cons,c3v]
   by_cases hz:(z.2==.free)=true
   .rw [if_pos hz,if_pos hz]
    refine ⟨λh=>(nomatch h),λh=>?_⟩
    obtain ⟨rfl,h2⟩:=c5I h
    rw [cel]
    exact (ih _).1 h2
   .rw [if_neg hz,if_neg hz]
    exact ⟨λh=>(ih _).1 h,λh=>(ih _).2 h⟩
 have:=(key sc.names []).2 h
 unfold closureFor
 dsimp only
 rw [bind_pure]
 exact this
theorem b3M{K:c0L}{x:Str}{fd:FuncData}(ht:tabIn K x=some (c,P))(hn:nsIn K mainGlobals x=some (some (.ref f)))(hl:K.lookup f=some ⟨oc,od,.func fd,sl⟩):fd.code=.ref c:=by
 unfold tabIn at ht
 rw [hn] at ht
 dsimp only at ht
 rw [hl] at ht
 dsimp only at ht
 split at ht
 .rename_i c' e
  split at ht
  .split at ht
   .cases ht;exact e
   .cases ht
  .cases ht
 .cases ht
section
variable {P:Program}{w:World}{K:c0L}{mg:Str->Option Value}{base:Heap}
theorem fn_xL{st:Stmt}{f:Addr}{fd:FuncData}{N ps:List Str}{k:Nat}{F:SF}{c T:Addr}(Fn:Fun K "dealt" "dealt" st f fd)(hcd:fd.code=.ref c)(hT:tabIn K "dealt" = some (c,T))(hC:codeHdIn K c T=true)(S:FnScope N ps (a0n st))
  (hbody:∀X:Cx,X.prog=P->X.w=w->X.K=K->X.mg=mg->X.base=base->Fx X N (a0n st) k->Lm X c T->SVs X (a0G st) F):FnOk P w K mg base CX0 (k+1) f fd ps (spD K ps.length (runF F N.length)):=by
 obtain ⟨oc,od,kV,doc,pm,an,cdv,ct,osl,rfl,lk,hcd'⟩:=Fn.ex
 obtain rfl:cdv=.ref c:=hcd
 refine b7e lk hcd' S (λvs H Q E h=>?_) λA outer s H vs Q E hr h=>?_
 .obtain ⟨O,ds,r,_,_,hl,_⟩:=h
  exact hl
 obtain ⟨O,ds,r,hO,hi,hl,e,q⟩:=h
 obtain ⟨t,p,kk⟩:=hbody (cxOf CX0 P w K mg base N "dealt" (a0n st) f (.ref c) A outer s H E).nox rfl rfl rfl rfl rfl ⟨rfl,rfl,rfl,λ_ _=>rfl,c2s,hr,S.nd,λ_=>⟨rfl,rfl,rfl⟩⟩ ⟨hT,hC,rfl,show (("dealt":Str) ++ ".<locals>.") ++ "<lambda>" = lamQ by decide +kernel⟩
 refine ⟨t,p.nox,?_⟩
 unfold runF at e
 cases hF:F (a06 N.length ds) with
 | none=>rw [hF] at e;cases e
 | some y =>
  obtain ⟨fl,env'⟩:=y
  rw [hF] at e
  refine kk O H (start N vs) H (a06 N.length ds) fl env' _ (a5Q hO hi) hF ?_
  cases fl with
  | nx=>cases e;exact λσ' H' R' _=>q .non H' R'.same Is.non
  | bk=>cases e
  | ct=>cases e
  | rt r=>cases e;exact λv H' s h=>q v H' s h
end
theorem fn_zL{P:Program}{w:World}{K:c0L}{mg:Str->Option Value}{base:Heap}{st:Stmt}{f:Addr}{fd:FuncData}{N ps:List Str}{k:Nat}{F:SF}{c T:Addr}(D':Def K mg "dealt" st ps f fd)(hcd:fd.code=.ref c)(hT:tabIn K "dealt" = some (c,T))(hC:codeHdIn K c T=true)
  (hbody:∀X:Cx,Sx X P w K mg base->Fx X N (a0n st) k->Lm X c T->SVs X (a0G st) F)(S:FnScope N ps (a0n st):=by exact ⟨rfl,rfl,rfl,by decide +kernel,rfl,by decide +kernel,by decide +kernel⟩):Oz P w K mg base "dealt" st ps (k+1) (runF F N.length):=
 ⟨f,fd,D',fn_xL D'.fn hcd hT hC S λX e1 e2 e3 e4 e5=>by subst e1 e2 e3 e4 e5;exact hbody X (.mk X)⟩
end DL
namespace DL
open PySem PySem.Spec PyProof.Rows L2
section
open PySem.SeqAt
open PySem.AutoSeq1 (wpAny_loadPart')
open PySem.MeetsSeq PySem.MeetsSeq2 PySem.MeetsSeq3
theorem a9w(l b:Addr)(items items2:Array Value)(n n2:Nat)(dd dd2:Option Addr)(sl sl2:Array (Option Value))(ns ms:List Int)(hi:IntsAre items.toList ns)(hj:IntsAre items2.toList ms)(k:Nat):
  ∀i:Nat,items.size-i=k->i<=items.size->i<=items2.size->Meets (Builtin.«list.__eq__.loop» ⟨[.ref l,.ref b,rawInt i,rawInt 0],[]⟩)
   (λA R s=>s.heap.get? l=some { cls:=.type "list",dict:=dd,data:=.seq items n,slots:=sl }/\s.heap.get? b=some { cls:=.type "list",dict:=dd2,data:=.seq items2 n2,slots:=sl2 } /\
    R (.ok (.ret (.bool (HT.lexLt (ns.drop i) (ms.drop i))))) s):=by
 have z1:items.size=ns.length:=by rw [<-hi.length];simp
 have z2:items2.size=ms.length:=by rw [<-hj.length];simp
 induction k with
 | zero =>
  intro i hk l1 l2 prog w A R s h
  obtain ⟨hp,g,d,tk,os⟩:=s;obtain ⟨hl,hb,h⟩:=h
  wp_walk using c1o hl,c1o hb
  have hi1:items[((i:Nat):Int).toNat]?=none:=by simp;lia
  rw [hi1]
  wp_walk using c1o hl,c1o hb
  have e:HT.lexLt (ns.drop i) (ms.drop i)=decide (items.size<items2.size):=by
   rw [c1F (by lia)]
   by_cases c:i<ms.length
   .rw [c1r c,HT.lexLt_nil_cons]
    exact (decide_eq_true (by lia)).symm
   .rw [c1F (by lia),HT.lexLt_nil_nil]
    exact (decide_eq_false (by lia)).symm
  rw [e] at h
  show R (.ok (.ret (.bool (decide (items.size<items2.size))))) _
  exact h
 | succ k ih =>
  intro i hk l1 l2 prog w A R s h
  obtain ⟨hp,g,d,tk,os⟩:=s;obtain ⟨hl,hb,h⟩:=h
  have hlt:i<items.size:=by lia
  have hi1:items[((i:Nat):Int).toNat]?=some items[i]:=by simp [hlt]
  by_cases c:i<items2.size
  .wp_walk using c1o hl,c1o hb
   have hi2:items2[((i:Nat):Int).toNat]?=some items2[i]:=by simp [c]
   have hc:((i:Int)+1)=((i+1:Nat):Int):=by push_cast;rfl
   obtain ⟨t,et⟩:=hi.int_at i items[i] (by simp [hlt])
   obtain ⟨u,eu⟩:=hj.int_at i items2[i] (by simp [c])
   rw [c1r (show i<ns.length by lia),c1r (show i<ms.length by lia),HT.lexLt_cons] at h
   have e1:ns.getD i 0=ns[i]:=by simp [show i<ns.length by lia]
   have e2:ms.getD i 0=ms[i]:=by simp [show i<ms.length by lia]
   rw [e1] at et
   rw [e2] at eu
   rw [hi1,hi2]
   refine c0K ?_
   rw [et,eu]
   refine EqAt.int_int _ t _ u prog w _ _ ?_
   by_cases hb':ns[i]=ms[i]
   .rw [if_pos hb'] at h
    rw [show (ns[i]==ms[i])=true by simpa using hb']
    wp_walk
    rw [hc]
    exact ⟨c27 plain_eq_loop _,c2t entry_eq_loop (by
     rw [c18 plain_eq_loop _]
     exact ih (i+1) (by lia) (by lia) (by lia) prog w A R _ ⟨hl,hb,h⟩)⟩
   .rw [if_neg hb'] at h
    rw [show (ns[i]==ms[i])=false by simpa using hb']
    wp_walk using c1o hl,c1o hb
    rw [hi1,hi2]
    have hri:=HT.rcLt_int A.in1 ⟨hp,g,d,tk,os⟩ ns[i] t ms[i] u prog w
    rw [et,eu]
    wp_walk using hri
    exact h
  .wp_walk using c1o hl,c1o hb
   have hi2:items2[((i:Nat):Int).toNat]?=none:=by simp;lia
   rw [hi1,hi2]
   wp_walk using c1o hl,c1o hb
   rw [c1r (show i<ns.length by lia),c1F (show ms.length<=i by lia),HT.lexLt_cons_nil] at h
   show R (.ok (.ret (.bool (decide (items.size<items2.size))))) _
   rw [decide_eq_false (by lia)]
   exact h
theorem a9y(l b:Addr)(items items2:Array Value)(n n2:Nat)(dd dd2:Option Addr)(sl sl2:Array (Option Value))(ns ms:List Int)(hi:IntsAre items.toList ns)(hj:IntsAre items2.toList ms):
  Meets (Builtin.«list.__lt__» ⟨[.ref l,.ref b],[]⟩)
   (λA R s=>s.heap.get? l=some { cls:=.type "list",dict:=dd,data:=.seq items n,slots:=sl }/\s.heap.get? b=some { cls:=.type "list",dict:=dd2,data:=.seq items2 n2,slots:=sl2 } /\
    R (.ok (.ret (.bool (HT.lexLt ns ms)))) s):=by
 intro prog w A R s h
 obtain ⟨hp,g,d,tk,os⟩:=s;obtain ⟨hl,hb,h⟩:=h
 have f3:=AutoSeq1.sub_list_list
 wp_walk using c1o hl,c1o hb
 exact ⟨c27 plain_eq_loop _,c2t entry_eq_loop (by
  rw [c18 plain_eq_loop _]
  exact a9w l b items items2 n n2 dd dd2 sl sl2 ns ms hi hj _ 0 rfl (c2T _) (c2T _) prog w A R _ ⟨hl,hb,by simpa using h⟩)⟩
end
section
variable {prog:Program}{w:World}{A:Around}{E:Value->Shared->Prop}{s:Shared}
theorem b4m(hl:s.heap.IsList l items)(hb:s.heap.IsList b items2)(hi:IntsAre items.toList ns)(hj:IntsAre items2.toList ms)
  (hu:A.units<cLine)(h:Q (.bool (HT.lexLt ns ms)) s):wpAny (model prog w) A (richCompare .Lt (.ref l) (.ref b)) Q E s:=by
 obtain ⟨⟨cls,dd,data,sl⟩,ho,hc,n,hd⟩:=id hl
 obtain ⟨⟨cls2,dd2,data2,sl2⟩,ho2,hc2,n2,hd2⟩:=id hb
 simp only at hc hd hc2 hd2
 subst hc hd hc2 hd2
 exact richCompare_meets_room (op:=.Lt) ⟨_,ho,rfl⟩ ⟨_,ho2,rfl⟩ PySem.F.slot_list_lt PySem.F.entry_list_lt (PySem.F.args_list_lt_2 _ _) (a9y l b items items2 n n2 dd dd2 sl sl2 ns ms hi hj)
  ⟨ho,ho2,show c11 (HT.lexLt ns ms)≠c5l/\Q (.bool (HT.lexLt ns ms)) s from ⟨(λx=>nomatch x),h⟩⟩ hu
theorem all_ints{items items2:Array Value}{ns ms:List Int}(hi:IntsAre items.toList ns)(hj:IntsAre items2.toList ms)(hs:items.size=items2.size):((c1n items.size).all λj=>ns.getD j 0==ms.getD j 0)=decide (ns=ms):=by
 have z1:items.size=ns.length:=by rw [<-hi.length];simp
 have z2:items2.size=ms.length:=by rw [<-hj.length];simp
 by_cases c:ns=ms
 .rw [decide_eq_true c,c]
  simp
 .rw [decide_eq_false c,Bool.eq_false_iff]
  intro h
  refine c (c3W (by lia) λj h1 h2=>?_)
  have:=c3U.mp h j (c1x.mpr (by lia))
  simpa [h1,h2] using this
theorem b4P(hl:s.heap.IsList l items)(hb:s.heap.IsList b items2)(hi:IntsAre items.toList ns)(hj:IntsAre items2.toList ms)(hu:A.units<cLine):SeqAt.EqAt A s (.ref l) (.ref b) (decide (ns=ms)):=by
 have z1:items.size=ns.length:=by rw [<-hi.length];simp
 have z2:items2.size=ms.length:=by rw [<-hj.length];simp
 by_cases hlb:l=b
 .subst hlb
  have e:items=items2:=by
   obtain ⟨o,ho,_,n,hd⟩:=hl
   obtain ⟨o2,ho2,_,n2,hd2⟩:=hb
   rw [ho] at ho2;cases ho2
   rw [hd] at hd2;cases hd2;rfl
  subst e
  have:ns=ms:=by
   refine c3W (by lia) λj h1 h2=>?_
   obtain ⟨t,e1⟩:=hi.int_at j items[j] (by simp [show j<items.size by lia])
   obtain ⟨u,e2⟩:=hj.int_at j items[j] (by simp [show j<items.size by lia])
   have h:=e1.symm.trans e2
   injection h with h
   rw [c1H,c1H,c07 h1,c07 h2] at h
   exact h
  rw [decide_eq_true this]
  exact SeqAt.EqAt.same _
 .refine SeqAt.EqAt.of_refs hlb ?_
  by_cases hs:items.size=items2.size
  .rw [<-all_ints hi hj hs]
   refine SeqAt.RcAt.lists hl hb hs hu λj h1 h2=>?_
   obtain ⟨t,e1⟩:=hi.int_at j items[j] (by simp [h1])
   obtain ⟨u,e2⟩:=hj.int_at j items2[j] (by simp [h2])
   rw [e1,e2]
   exact SeqAt.EqAt.int_int _ _ _ _
  .rw [decide_eq_false λz=>hs (by rw [z1,z2,z])]
   exact SeqAt.RcAt.lists_lengths hl hb (by simpa using hs) hu
end
section
open PySem.SeqAt
open PySem.AutoSeq1 (wpAny_loadPart')
open PySem.MeetsSeq PySem.MeetsSeq2 PySem.MeetsSeq3
theorem b0u:∀ns:List Int,HT.lexLt ns ns=false
 | []=>rfl
 | n::r=>by rw [HT.lexLt_cons,if_pos rfl];exact b0u r
theorem a73(p q l b:Addr)(it it2:Array Value)(a c:Int)(t u:Tok)(n n2:Nat)(dd dd2:Option Addr)(sl sl2:Array (Option Value))(ns ms:List Int)(hi:IntsAre it.toList ns)(hj:IntsAre it2.toList ms):
  Meets (Builtin.«tuple.__lt__» ⟨[.ref p,.ref q],[]⟩)
   (λA R s=>s.heap.get? p=some { cls:=.type "tuple",dict:=dd,data:=.seq #[.int a t,.ref l] n,slots:=sl }/\s.heap.get? q=some { cls:=.type "tuple",dict:=dd2,data:=.seq #[.int c u,.ref b] n2,slots:=sl2 }/\s.heap.IsList l it/\s.heap.IsList b it2/\A.units+1<cLine /\
    R (.ok (.ret (.bool (HT.lexLt (a::ns) (c::ms))))) s):=
 .of_wp λprog w A R s h=>by
  obtain ⟨hp,g,d,tk,os⟩:=s;obtain ⟨h1,h2,h3,h4,hu,h⟩:=h
  have f2:=AutoSeq1.sub_tuple_tuple
  have hu':A.in1.units<cLine:=hu
  have e1:=EqAt.int_int (A:=A.in1) (s:=⟨hp,g,d,tk,os⟩) a t c u
  have e2:=b4P (A:=A.in1) (s:=⟨hp,g,d,tk,os⟩) h3 h4 hi hj hu'
  rw [HT.lexLt_cons] at h
  wp_walk using c1o h1,c1o h2,wpAny_forIn_list _ (λrest b' s'=>b'.1=none/\s'=⟨hp,g,d,tk,os⟩/\((rest=[(c15 a t,c15 c u),(c1k l,c1k b)]/\R (.ok (.ret (.bool (if a=c then HT.lexLt ns ms else decide (a<c))))) ⟨hp,g,d,tk,os⟩)\/(rest=[(c1k l,c1k b)]/\R (.ok (.ret (.bool (HT.lexLt ns ms)))) ⟨hp,g,d,tk,os⟩)\/(rest=[]/\R (.ok (.ret (.bool false))) ⟨hp,g,d,tk,os⟩))) _
  case turn =>
   rintro ⟨y,x⟩ rest b' s' ⟨hb',rfl,⟨hz,hR⟩ | ⟨hz,hR⟩ | ⟨hz,_⟩⟩
   .obtain ⟨h5,rfl⟩:=c5I hz
    cases h5
    refine c0K (e1 prog w _ _ ?_)
    by_cases hac:a=c
    .rw [if_pos hac] at hR
     rw [show (a==c)=true by simpa using hac]
     wp_walk
     exact ⟨rfl,rfl,.inr (.inl ⟨rfl,hR⟩)⟩
    .rw [if_neg hac] at hR
     rw [show (a==c)=false by simpa using hac]
     have hri:=HT.rcLt_int A.in1 ⟨hp,g,d,tk,os⟩ a t c u prog w
     wp_walk using hri
     exact ⟨_,rfl,by simpa using hR⟩
   .obtain ⟨h5,rfl⟩:=c5I hz
    cases h5
    refine c0K (e2 prog w _ _ ?_)
    by_cases hac:ns=ms
    .rw [decide_eq_true hac]
     wp_walk
     rw [hac,b0u] at hR
     exact ⟨rfl,rfl,.inr (.inr ⟨rfl,hR⟩)⟩
    .rw [decide_eq_false hac]
     have hri:=λ(E:Value->Shared->Prop) (Q:Value->Shared->Prop) (h:Q (.bool (HT.lexLt ns ms)) ⟨hp,g,d,tk,os⟩)=>b4m (prog:=prog) (w:=w) (A:=A.in1) (E:=E) (s:=⟨hp,g,d,tk,os⟩) h3 h4 hi hj hu' h
     wp_walk using hri
     exact ⟨_,rfl,by simpa using hR⟩
   .cases hz
  case fin =>
   rintro ⟨b1,b2⟩ s' ⟨hb',rfl,⟨hz,hR⟩ | ⟨hz,hR⟩ | ⟨hz,hR⟩⟩
   .cases hz
   .cases hz
   .simp only at hb'
    subst hb'
    wp_walk
    exact ⟨_,rfl,by simpa [Builtin.Tuple.tupleCompareSizes] using hR⟩
  case h=>exact ⟨rfl,rfl,.inl ⟨rfl,h⟩⟩
end
end DL
namespace DL
open PySem PySem.Spec PyProof.Rows L2
section
variable {prog:Program}{w:World}{A:Around}{E:Value->Shared->Prop}{s:Shared}
theorem b4l(hp:IsTup s.heap p #[.int a t,.ref l])(hq:IsTup s.heap q #[.int c u,.ref b])(hl:s.heap.IsList l it)(hb:s.heap.IsList b it2)(hi:IntsAre it.toList ns)(hj:IntsAre it2.toList ms)
  (hu:A.units+1<cLine)(h:Q (.bool (HT.lexLt (a::ns) (c::ms))) s):wpAny (model prog w) A (richCompare .Lt (.ref p) (.ref q)) Q E s:=by
 obtain ⟨⟨cls,dd,data,sl⟩,ho,hc,n,hd⟩:=id hp
 obtain ⟨⟨cls2,dd2,data2,sl2⟩,ho2,hc2,n2,hd2⟩:=id hq
 simp only at hc hd hc2 hd2
 subst hc hd hc2 hd2
 exact richCompare_meets_room (op:=.Lt) ⟨_,ho,rfl⟩ ⟨_,ho2,rfl⟩ PySem.F.slot_tuple_lt PySem.F.entry_tuple_lt (PySem.F.args_tuple_lt_2 _ _) (a73 p q l b it it2 a c t u n n2 dd dd2 sl sl2 ns ms hi hj)
  ⟨ho,ho2,hl,hb,hu,show c11 (HT.lexLt (a::ns) (c::ms))≠c5l/\Q (.bool (HT.lexLt (a::ns) (c::ms))) s from ⟨(λx=>nomatch x),h⟩⟩ (by lia)
end
section
variable {X:Cx}{a:Expr}{ba:En->Option (Bool×List D)}{p pos:Pos}
theorem b3e(hc:X.calm=true)(hu:X.A.units+2<cLine):CallR X (.builtin "min") (λxs H Q=>∃(q:Addr) (k:Bool) (vs:List V) (rs:List (List Int)),xs=[.ref q]/\Sq X.K H k q vs/\rs≠[]/\vs.length=rs.length /\
  (∀i v,vs[i]?=some v->∃c l a ns,v=.ref c/\SqT X.K H c [.int a,.ref l]/\SqL X.K H l (ns.map V.int)/\rs.getD i []=a::ns)/\∀i v,vs[i]?=some v->rs.getD i []=minT rs->Q v H):=by
 intro pins s σ H xs us Q I r h
 obtain ⟨q,k,vs,rs,rfl,hq,hne,hlen,hrs,qq⟩:=h
 obtain ⟨u,rfl,ru⟩:=r.one
 cases ru
 refine b3f (a68 (A':=X.A.in1) I (I.ok.hd hc) hq λits h2 St rv W st0 k1 hfp=>?_)
 have hl:its.length=rs.length:=by rw [<-rv.length,hlen]
 have hp:0<rs.length:=c5z.mpr hne
 have hsz:s.heap.objs.size<h2.objs.size:=hfp _ c0N
 have tups:∀i v,its[i]?=some v->∃c l it a t ns,v=.ref c/\(c<s.heap.objs.size/\l<s.heap.objs.size)/\IsTup s.heap c #[.int a t,.ref l]/\s.heap.IsList l it/\IntsAre it.toList ns/\rs.getD i []=a::ns:=λi v hv=>by
  have hi:i<vs.length:=by rw [rv.length];exact (c0V.mp hv).1
  obtain ⟨c,l,a,ns,e1,e2,e3,e4⟩:=hrs i vs[i] (c07 hi)
  obtain ⟨u',hu',ru'⟩:=rv.get (c07 hi)
  rw [hv] at hu'
  cases hu'
  rw [e1] at ru'
  obtain rfl:v=c1k c:=ru'
  obtain ⟨items,rvs,pl,_⟩:=I.tuple e2
  obtain ⟨li,rl,pl2⟩:=a4X (b:=true) I e3
  cases rvs with
  | cons r1 r2 =>
   cases r2 with
   | cons r2 r3 =>
    cases r3
    cases r2
    obtain ⟨t,rfl⟩:=r1
    have pl2':s.heap.IsList l li.toArray:=pl2
    exact ⟨c,l,li.toArray,a,t,ns,rfl,⟨pl.lt,let ⟨_,ho,_⟩:=pl2';c0W ho⟩,pl,pl2',by simpa using b0C rl,e4⟩
 refine ⟨_,_,_,_,_,_,λi j=>HT.lexLt (rs.getD i []) (rs.getD j []),λh=>∀b o,b<s.heap.objs.size->s.heap.get? b=some o->h.get? b=some o,rfl,W,st0,hfp,by lia,?_,?_,λb o _ e=>k1 b o e,λv h' tk hv hk=>?_⟩
 .intro i j x y s' Q' E' hx hy kh hq'
  obtain ⟨c,l,it1,a1,t1,ns1,rfl,⟨l1,l2⟩,⟨o1,g1,r1⟩,⟨o2,g2,r2⟩,i1,w1⟩:=tups i x hx
  obtain ⟨d,m,it2,a2,t2,ns2,rfl,⟨l3,l4⟩,⟨o3,g3,r3⟩,⟨o4,g4,r4⟩,i2,w2⟩:=tups j y hy
  have hq':Q' (c11 (HT.lexLt (rs.getD i []) (rs.getD j []))) s':=hq'
  rw [w1,w2] at hq'
  exact b4l ⟨o1,kh c o1 l1 g1,r1⟩ ⟨o3,kh d o3 l3 g3,r3⟩ ⟨o2,kh l o2 l2 g2,r2⟩ ⟨o4,kh m o4 l4 g4,r4⟩ i1 i2 (by show X.A.units+1+1<_;exact hu) hq'
 .intro h h' kh kp b o lb e
  exact kp b o (λz=>by rw [c0Q.mp z] at lb;exact c16 _ lb) (c09 (Nat.lt_trans lb hsz)) (kh b o lb e)
 .obtain ⟨b1,b2⟩:=b57 rs (its.length-1) (by lia)
  have e2:rs.take (its.length-1+1)=rs:=by rw [c4Y];lia
  rw [e2] at b2
  have hi:=(c0V.mp hv).1
  have hi':argBest (λi j=>HT.lexLt (rs.getD i []) (rs.getD j [])) (its.length-1)<vs.length:=by rw [rv.length];exact hi
  obtain ⟨u',hu',ru'⟩:=rv.get (c07 hi')
  rw [hv] at hu'
  cases hu'
  exact ⟨_,H,a48 I k1 hk,ru',qq _ _ (c07 hi') b2⟩
noncomputable def ilD(x:List Int):D:=.tup [.int (x.headD 0),.lst false (x.tail.map D.int)]
noncomputable def ilsD:List D->Option (List (List Int))
 | []=>some []
 | .tup [.int a,.lst false ds]::r=>(a3z ds).bind λx=>(ilsD r).map ((a::x)::·)
 | _::_=>none
theorem a8T:∀{ds:List D} {rs:List (List Int)},ilsD ds=some rs->ds=rs.map ilD/\∀x∈rs,x≠[]
 | [],rs,e=>by cases e;exact ⟨rfl,λ_ h=>nomatch h⟩
 | d::r,rs,e=>by
  unfold ilsD at e
  split at e
  .rename_i h;cases h
  .rename_i a ds r' h
   cases h
   obtain ⟨x,e1,e2⟩:=bind_some e
   obtain ⟨y,e3,rfl⟩:=map_some e2
   obtain ⟨f1,f2⟩:=a8T e3
   refine ⟨?_,λz hz=>?_⟩
   .rw [c1l,<-f1,a44 e1];rfl
   .rcases c0R.mp hz with rfl | hz
    .exact λz=>nomatch z
    .exact f2 z hz
  .cases e
noncomputable def b4Y(f:En->Option (Bool×List D)):En->Option Sl:=λenv=>(f env).bind λx=>(ilsD x.2).bind λrs=>if rs≠[] then some (.sh (ilD (minT rs))) else none
theorem b7j(hg:Gl X "min")(hm:X.mg "min" = none)(hc:X.calm=true)(hu:X.A.units+8<cLine)(ha:BV X a ba)(hs:starEach [a] X.env=[(false,eval a X.env)]:=by rfl):EV X (.Call (.Name "min" p) [a] [] pos) (b4Y ba):=by
 obtain ⟨t,pt,k⟩:=ha
 refine ⟨_,a22 (b3e hc (by lia)) hg hm (by decide +kernel) (a2i pt a3I hs) (by decide) (by decide) hs rfl,λO B σ H env s Q R e q=>?_⟩
 obtain ⟨⟨kk,ds⟩,e1,e2⟩:=bind_some e
 obtain ⟨rs,e3,e4⟩:=bind_some e2
 obtain ⟨hne,rfl⟩:=a0D e4
 obtain ⟨e3',e5⟩:=a8T e3
 dsimp only at e3'
 subst e3'
 refine k O B σ H env kk _ _ R e1 λl xs H1 s1 hq hx=>⟨l,kk,xs,rs,rfl,hq,hne,by rw [hx.length,c0P],λi v hv=>?_,λi v hv em=>?_⟩
 .obtain ⟨d,hd,hi⟩:=hx.getV hv
  rw [c1O] at hd
  obtain ⟨x,ex,rfl⟩:=map_some hd
  obtain ⟨c,ys,rfl,h1,h2⟩:=a8S hi
  cases h2 with
  | cons g1 g2 =>
   cases g2 with
   | cons g2 g3 =>
    cases g3
    rw [a03 g1] at h1
    obtain ⟨m,zs,rfl,g4,g5⟩:=g2.seq (k:=true) rfl
    refine ⟨c,m,_,x.tail,rfl,h1,?_,?_⟩
    .rw [<-a57 g5];exact g4
    .rw [c1H,ex]
     have:=e5 x (c3a ex)
     show x=_
     cases x with
     | nil=>exact absurd rfl this
     | cons a r=>rfl
 .obtain ⟨d,hd,hi⟩:=hx.getV hv
  rw [c1O] at hd
  obtain ⟨x,ex,rfl⟩:=map_some hd
  rw [c1H,ex] at em
  have em:x=minT rs:=em
  rw [em] at hi
  exact q _ H1 s1 hi
theorem b0D{α:Type}{f:α->Int}{g:α->List Int}:∀(xs:List α),ilsD (xs.map λx=>.tup [.int (f x),.lst false ((g x).map D.int)])=some (xs.map λx=>f x::g x)
 | []=>rfl
 | x::r=>by
  show ((a3z ((g x).map D.int)).bind λy=>(ilsD (r.map λx=>.tup [.int (f x),.lst false ((g x).map D.int)])).map ((f x::y)::·))=_
  rw [b0D r,a2G]
  rfl
theorem b5s(e:f env=some (k,ds))(h:ilsD ds=some rs)(hn:rs≠[]):Wo (b4Y f env) Q↔Q (.sh (ilD (minT rs))):=by
 unfold b4Y
 rw [e,c1w]
 show Wo ((ilsD ds).bind _) Q↔_
 rw [h,c1w,if_pos hn,a0g]
end
end DL
namespace DL
open PySem PySem.Spec PyProof.Rows L2
section
variable {X:Cx}{a b c:Expr}{pos:Pos}{fa fb fc:En->Option Sl}
noncomputable def eChn(f:En->Option Bool):En->Option Sl:=λenv=>(f env).map λb=>.sh (.bl b)
theorem b4O(ho:OpD X (compareOp op) g)(ho':OpD X (compareOp op') g')(ha:EV X a fa)(hb:EV X b fb)(hc:EV X c fc)(hm:lastMarks [op,op'] [b,c]=false:=by with_unfolding_all rfl):
  EV X (.Compare a [op,op'] [b,c] pos) (eChn (a5H (tOf (eBin g fa fb)) (tOf (eBin g' fb fc)))):=by
 obtain ⟨r,hr,hg⟩:=ho
 obtain ⟨r',hr',hg'⟩:=ho'
 obtain ⟨ta,pa,ka⟩:=ha
 obtain ⟨tb,pb,kb⟩:=hb
 obtain ⟨tc,pc,kc⟩:=hc
 refine ⟨_,b4a hr hr' pa pb pc hm,λO B σ H env k Q R e q=>?_⟩
 obtain ⟨bb,e',rfl⟩:=map_some e
 clear e
 have e:=e'
 clear e'
 unfold a5H at e
 cases e1:tOf (eBin g fa fb) env with
 | none=>rw [e1] at e;cases e
 | some b1 =>
  rw [e1] at e
  obtain ⟨x,ex,e3⟩:=bind_some (a5x e1)
  obtain ⟨y,ey,e4⟩:=bind_some e3
  refine ka O B σ H env x _ R ex λv H1 s1 h1=>?_
  refine kb O B σ H1 env y _ (R.grow s1) ey λu H2 s2 h2=>?_
  have R2:=(R.grow s1).grow s2
  refine hg (OO O σ env) H2 v u x.d y.d _ _ (λq=>R2.oo) ((h1.is λq=>R.oo).grow s2) (h2.is λq=>(R.grow s1).oo) e4 λw H3 s3 h3=>?_
  refine ⟨b1,a9O h3,?_⟩
  cases b1 with
  | false =>
   cases e
   rw [if_neg (by decide)]
   exact q _ H3 ((s1.trans s2).trans s3) (Is.bl _)
  | true =>
   rw [if_pos rfl]
   obtain ⟨y',ey',e5⟩:=bind_some (a5x e)
   rw [ey] at ey'
   cases ey'
   obtain ⟨z,ez,e6⟩:=bind_some e5
   have R3:=R2.grow s3
   refine kc O B σ H3 env z _ R3 ez λw' H4 s4 h4=>?_
   have R4:=R3.grow s4
   refine hg' (OO O σ env) H4 u w' y.d z.d _ _ (λq=>R4.oo) (((h2.is λq=>(R.grow s1).oo).grow s3).grow s4) (h4.is λq=>R3.oo) e6 λw2 H5 s5 h5=>?_
   exact q _ H5 ((((s1.trans s2).trans s3).trans s4).trans s5) (by rw [a9O h5];exact Is.bl _)
theorem b8l:Wo (eChn f env) Q↔Wo (f env) λb=>Q (.sh (.bl b)):=by
 unfold eChn
 cases f env with
 | none=>simp [a0u]
 | some b=>simp [a0g]
end
end DL
namespace DL
open PySem PySem.Spec PyProof.Rows L2
section
variable {X:Cx}{b e:Expr}{fa fb:En->Option Sl}{pos:Pos}
theorem b2Q:PGet X (λo i H Q=>∃p xs k v,o=.ref p/\i=.int k/\SqL X.K H p xs/\0<=k/\xs[k.toNat]?=some v/\Q v H):=by
 intro pins s σ H o i ov iv Q I ro ri h
 obtain ⟨p,xs,k,v,rfl,rfl,hq,h0,hv,q⟩:=h
 cases ro
 obtain ⟨t,rfl⟩:=ri
 obtain ⟨its,r,pl,hz⟩:=I.list hq
 obtain ⟨w,ew,rw'⟩:=r.get hv
 have hn:=a54
 have hl:=r.length
 have hk:=(c0V.mp hv).1
 exact wpAny_getItem_list pl.isList h0 (by lia) (by simpa using ew) ⟨v,H,I,rw',q⟩
theorem b63{α:Type}{c:Prop}[Decidable c]{o:Option α}{y:α}(h:(if c then o else none)=some y):c/\o=some y:=by
 by_cases hc:c
 .rw [if_pos hc] at h;exact ⟨hc,h⟩
 .rw [if_neg hc] at h;cases h
noncomputable def b07(i:Nat)(g f:En->Option Sl):SF:=λenv=>match env[i]? with
 | some (.ow ds)=>(g env).bind λk=>match k.d with
  | .int n=>if 0<=n then (match ds[n.toNat]? with
   | some (.int m)=>(f env).bind λr=>(match r.d with
    | .int v=>some (.nx,env.set i (.ow (ds.set n.toNat (.int (m+v)))))
    | _=>none)
   | _=>none) else none
  | _=>none
 | _=>none
theorem b6n{i:Nat}{x:Str}{p1 p2:Pos}(hb:EV X b fb)(ha:EV X e fa)(hN:X.N[i]?=some x)(hv:Vis X.env.scope x)(hd:(x==("__debug__":Str))=false:=by decide)(hcd:(x==("__classdict__":Str))=false:=by decide)
  (hau:∀ov iv new,augStore b ov iv new=(do holding [new,ov,iv] (setItem ov iv new);release [new,ov,iv] [];pure .next):=by intros;rfl):
  SV X (.AugAssign (.Subscript (.Name x p1) b p2) .Add e pos) (b07 i fb fa):=by
 obtain ⟨t,p,k⟩:=ha
 obtain ⟨t',p',k'⟩:=hb
 refine ⟨_,b6x (a4x hN hv hd hcd) p' b2Q p b5V b0i hau,λO B σ H env fl env' D R e q=>?_⟩
 unfold b07 at e
 cases h:env[i]? with
 | none=>rw [h] at e;cases e
 | some s =>
  rw [h] at e
  cases s with
  | no=>cases e
  | sh d=>cases e
  | dw d=>cases e
  | ow ds =>
   obtain ⟨kk,e2,e3⟩:=bind_some e
   obtain ⟨l,xs,f1,f2,f3,f4⟩:=R.ow i ds h
   refine ⟨_,f1,?_⟩
   refine k' O B σ H env kk _ R e2 λw H1 s1 r1=>?_
   have hi:=r1.is λq=>R.oo
   cases hd:kk.d with
   | int n =>
    rw [hd] at hi e3
    obtain rfl:=a03 hi
    obtain ⟨h0,e4⟩:=b63 e3
    cases hm:ds[n.toNat]? with
    | none=>rw [hm] at e4;cases e4
    | some dm =>
     rw [hm] at e4
     cases dm with
     | int m =>
      obtain ⟨r,e5,e6⟩:=bind_some e4
      obtain ⟨xm,hxm,im⟩:=f4.get hm
      obtain rfl:=a03 im
      refine ⟨l,xs,n,.int m,rfl,rfl,.inl (.inl (s1 _ _ f3)),h0,hxm,?_⟩
      refine k O B σ H1 env r _ (R.grow s1) e5 λv H2 s2 r2=>?_
      have hi2:=r2.is λq=>(R.grow s1).oo
      cases hd2:r.d with
      | int j =>
       rw [hd2] at hi2 e6
       obtain rfl:=a03 hi2
       cases e6
       have s12:=s1.trans s2
       have hlt:=(c0V.mp hm).1
       refine ⟨m,j,rfl,rfl,l,xs,n,n.toNat,rfl,rfl,s12 _ _ f3,?_,?_⟩
       .unfold ixN
        rw [if_pos h0,if_pos (by have:=f4.length;omega)]
       .obtain ⟨R',g'⟩:=(R.grow s12).wr h f1 ((f4.grow s12).set (Is.int (m+j)) n.toNat)
        exact q _ _ R' (g'.from s12)
      | _=>rw [hd2] at e6;cases e6
     | _=>cases e4
   | _=>rw [hd] at e3;cases e3
theorem Fx.augX{N:List Str}{sc:Scope}{kk:Nat}{full:Bool}(h:Fx X N sc kk full)(i:Nat){x:Str}{p1 p2:Pos}(hb:EV X b fb)(ha:EV X e fa)(hN:N[i]?=some x:=by rfl)(hv:Vis sc x:=by first | exact c1C rfl | exact c1q (c1C rfl) | exact c1q (c1q rfl))(hd:(x==("__debug__":Str))=false:=by rfl)(hcd:(x==("__classdict__":Str))=false:=by rfl)
  (hau:∀ov iv new,augStore b ov iv new=(do holding [new,ov,iv] (setItem ov iv new);release [new,ov,iv] [];pure .next):=by intros;rfl):
  SV X (.AugAssign (.Subscript (.Name x p1) b p2) .Add e pos) (b07 i fb fa):=b6n hb ha (h.ix hN) (h.vis hv) hd hcd hau
theorem b5a{i:Nat}{env:En}{ds:List D}{n:Nat}{m v:Int}(he:env[i]?=some (.ow ds))(hg:g env=some (.sh (.int n)))(hm:ds[n]?=some (.int m))(hf:f env=some (.sh (.int v))):Wo (b07 i g f env) Q↔Q (.nx,env.set i (.ow (ds.set n (.int (m+v))))):=by
 unfold b07
 rw [he]
 dsimp only
 rw [hg,c1w]
 show Wo (if (0:Int)<=n then _ else _) Q↔_
 rw [if_pos (by lia),c2q,hm]
 dsimp only
 rw [hf,c1w]
 exact a0g
end
section
variable {X:Cx}{W:L2.St->Hp->Value->Prop}{re:En->Option Str}{pos:Pos}
theorem b6d{N N':List Str}{sc sc':Scope}{k:Nat}{full:Bool}{elt iter tg:Expr}{ifs:List Expr}{caps:List Nat}{nt:Nat}{x:Str}{pos' spos:Pos}(h:Fx X.nox N sc k full)(C:CompScope N sc N' caps nt sc')(he:EX X W iter re)
  (h1:(sc.names.lookup x==some .local)=true:=by rfl)(h2:(pos'.line==pos.line)=true:=by rfl)(h3:(sc'.names.any λ(n,k)=>n==x&&(k==.local||k==.cell))=false:=by rfl)
  (hfs:∀x,foldedSetIterable iter X.env x=pure x:=by intro _;rfl):XV X W (.Assign [.Name x pos'] (.ListComp elt [⟨tg,iter,ifs,0⟩] sc' pos) spos) (rE re):=by
 obtain ⟨t,p,k'⟩:=he
 refine ⟨λD σ H=>t σ H λ_ _=>False,λpins s σ H D I hw=>?_,λO B σ H env nm env' D R e q=>?_⟩
 .have hsc:X.env.scope=sc:=h.sc
  have hs:swapsWith (.ListComp elt [⟨tg,iter,ifs,0⟩] sc' pos) (some (.Name x pos')) spos.line X.env=pure true:=by
   have hk:X.env.blockKind=.function:=by unfold Env.blockKind;rw [I.ok.kind];rfl
   have hk2:X.env.kindOf x=sc.names.lookup x:=by unfold c4C;rw [hsc]
   unfold swapsWith
   dsimp only
   rw [hk,hk2,h1,show (pos'.line==(Expr.ListComp elt [⟨tg,iter,ifs,0⟩] sc' pos).pos.line)=true from h2,h3]
   rfl
  have hclos:closureFor sc' X.env=pure (clOf X.env.cells sc'.names []):=a3o λy hy hf=>I.ok.has y.1 (by
   show X.env.scope.names.lookup y.1=_\/X.env.scope.names.lookup y.1=_
   rw [hsc]
   exact C.free y hy hf)
  rw [exec_Assign_Name_used _ _ _ _ hs]
  refine c0K (c4D (c0K ?_))
  show wpAny _ _ (comprehension _ sc' X.env _ (newList []) _ _ (some (assign (.Name x pos') X.env)) >>= λ_=>pure ()) _ _ _
  exact c0K (c3p (use:=some (assign (.Name x pos') X.env)) rfl hfs hclos C.kind C.loc (thn (p pins s σ H (λ_ _=>False) I hw) λxv s1 h1=>by
   obtain ⟨_,_,_,_,z⟩:=h1
   exact c1b z))
 .obtain ⟨n1,e1,e2⟩:=map_some e
  cases e2
  exact k' O B σ H env nm _ R e1 λc H' hc s=>q σ H' c hc (R.grow s) (Gd.refl s)
end
end DL
namespace DL
open PySem PySem.Spec PyProof.Rows L2
section
variable {X:Cx}
noncomputable def b4I:D->D->Option Sl
 | .lst false a,.int n=>if n.natAbs<=1000/\a.length<=1000 then some (.ow (c06 n.toNat a).flatten) else none
 | _,_=>none
theorem b2C{K:c0L}{O:Addr->Prop}{H:Hp}{xs:List V}{ds:List D}(h:Iss K O H xs ds):∀k:Nat,Iss K O H (c06 k xs).flatten (c06 k ds).flatten
 | 0=>.nil
 | k+1=>by
  rw [c2d,c2d,c2K,c2K]
  exact h.append (b2C h k)
theorem b6P:OpD X (binaryOp .Mult) b4I:=by
 refine ⟨_,b9j,λO H x y a b s Q hO hx hy e q=>?_⟩
 unfold b4I at e
 split at e
 .rename_i a n
  obtain ⟨⟨h0,h1⟩,rfl⟩:=a0D e
  obtain ⟨p1,xs,rfl,_,h2,i1⟩:=b0y hx
  have hm:xs.length*n.toNat<=1000*1000:=by
   rw [i1.length]
   exact Nat.mul_le_mul h1 (by omega)
  exact ⟨p1,n,xs,rfl,a03 hy,h2,by omega,by omega,by rw [c1G];omega,λp hp=>q _ _ (a08 hp _) (a4f hp (b2C i1 _))⟩
 .cases e
theorem b5j{a:List D}{n:Int}{Q:Sl->Prop}:Wo (b4I (.lst false a) (.int n)) Q↔(n.natAbs<=1000/\a.length<=1000)/\Q (.ow (c06 n.toNat a).flatten):=a0U
end
end DL
namespace My
open PySem L2 DL
noncomputable def top(i:Nat):Stmt:=PySem.Challenge.pw_offerhouse_k60_too_many_choices.main.body.getD i (.Pass ⟨0,0,0,0⟩)
noncomputable abbrev a5h:Stmt:=top 13
noncomputable abbrev a4d{α:Type}(Y:Str->Stmt->List Str->α):α:=Y "holds_one" a5h ["row"]
noncomputable def a4n:SF:=
 (sRet (eBin gEqD (eIx (bV 0) (eC (.int 0))) (eIx (bV 0) (eC (.int 1)))))
noncomputable def a0Z:List D->Option Sl:=runF a4n 1
theorem W_holds_one:Wo (a0Z [a0]) Q↔Wo (a4n [.sh a0]) (endQ Q):=a0o
noncomputable abbrev b0c:Stmt:=top 17
noncomputable abbrev a9k{α:Type}(Y:Str->Stmt->List Str->α):α:=Y "plain" b0c ["row"]
noncomputable def a94:SF:=
 (sRet (eIf (tTru (a0h 1 a0Z (a0b (eV 0) aNil))) (eTup (a0b (eIx (bV 0) (eC (.int 0))) (a0b (eIx (bV 0) (eC (.int 1))) (a0b (eIx (bV 0) (eC (.int 2))) (a0b (eC (.int 0)) aNil))))) (eV 0)))
noncomputable def a2f:List D->Option Sl:=runF a94 1
theorem W_plain:Wo (a2f [a0]) Q↔Wo (a94 [.sh a0]) (endQ Q):=a0o
noncomputable abbrev a6J:Stmt:=top 7
noncomputable abbrev a5E{α:Type}(Y:Str->Stmt->List Str->α):α:=Y "line_at" a6J ["line","low","x"]
noncomputable def a6o:SF:=
 (sRet (eBin gAdd (eIx (bV 0) (eC (.int 0))) (eBin gMul (eIx (bV 0) (eC (.int 1))) (eBin gSub (eV 2) (eV 1)))))
noncomputable def a1J:List D->Option Sl:=runF a6o 3
theorem W_line_at:Wo (a1J [a0,a1,a2]) Q↔Wo (a6o [.sh a0,.sh a1,.sh a2]) (endQ Q):=a0o
noncomputable abbrev a38:Stmt:=top 16
noncomputable abbrev a3k{α:Type}(Y:Str->Stmt->List Str->α):α:=Y "laid_beside" a38 ["ahead","row"]
noncomputable def a3v:SF:=
 (sSeq (a0x 2 (eIf (tTru (a0h 1 a0Z (a0b (eV 0) aNil))) (eBin gSub (eIx (bV 1) (eC (.int 2))) (eIx (bV 0) (eC (.int 2)))) (eIx (bV 0) (eC (.int 3)))))
 (sSeq (sIf (tOf (eBin gNeD (eIx (bV 1) (eC (.int 2))) (a0h 3 a1J (a0b (eTup (a0b (eIx (bV 0) (eC (.int 2))) (a0b (eV 2) aNil))) (a0b (eIx (bV 0) (eC (.int 0))) (a0b (eIx (bV 1) (eC (.int 0))) aNil))))))
 (sRet (eLst (a0b (eV 0) (a0b (a0h 1 a2f (a0b (eV 1) aNil)) aNil)))) sNx)
 (sSeq (sIf (tOrF (tTru (a0h 1 a0Z (a0b (eV 1) aNil))) (tOf (eBin gEqD (eIx (bV 1) (eC (.int 3))) (eV 2))))
 (sRet (eLst (a0b (eTup (a0b (eIx (bV 0) (eC (.int 0))) (a0b (eIx (bV 1) (eC (.int 1))) (a0b (eIx (bV 0) (eC (.int 2))) (a0b (eV 2) aNil))))) aNil))) sNx)
 (sSeq (a0x 3 (a0h 1 a2f (a0b (eTup (a0b (eBin gAdd (eIx (bV 1) (eC (.int 0))) (eC (.int 1))) (a0b (eIx (bV 1) (eC (.int 1))) (a0b (eBin gAdd (eIx (bV 1) (eC (.int 2))) (eIx (bV 1) (eC (.int 3)))) (a0b (eIx (bV 1) (eC (.int 3))) aNil))))) aNil)))
 (sRet (eLst (a0b (eTup (a0b (eIx (bV 0) (eC (.int 0))) (a0b (eIx (bV 1) (eC (.int 0))) (a0b (eIx (bV 0) (eC (.int 2))) (a0b (eV 2) aNil))))) (a0b (eV 3) aNil))))))))
noncomputable def a1M:List D->Option Sl:=runF a3v 4
theorem W_laid_beside:Wo (a1M [a0,a1]) Q↔Wo (a3v [.sh a0,.sh a1,.no,.no]) (endQ Q):=a0o
noncomputable abbrev b1X:Stmt:=top 15
noncomputable abbrev b1O{α:Type}(Y:Str->Stmt->List Str->α):α:=Y "laid" b1X ["rows"]
noncomputable def b3z:SF:=
 (sSeq (sSet 1 (eLst aNil))
 (sSeq (sFor (eV 0) (gN 2)
 (sIf (a5H (b1Q (bV 1)) (tOf (eBin gEqD (eBin gAdd (eIx (bOf (eIx (bV 1) (eNeg (eC (.int 1))))) (eC (.int 1))) (eC (.int 1))) (eIx (bV 2) (eC (.int 0))))))
 (sSeq (sPop 3 1)
 (sExt 1 (a0h 2 a1M (a0b (eV 3) (a0b (eV 2) aNil))))) (sApp 1 (a0h 1 a2f (a0b (eV 2) aNil)))))
 (sRet (a8Z (bV 1)))))
noncomputable def a2h:List D->Option Sl:=runF b3z 4
theorem W_laid:Wo (a2h [a0]) Q↔Wo (b3z [.sh a0,.no,.no,.no]) (endQ Q):=a0o
noncomputable abbrev a4q:Stmt:=top 11
noncomputable abbrev a3B{α:Type}(Y:Str->Stmt->List Str->α):α:=Y "stretch_on" a4q ["line","low","first","last"]
noncomputable def a3S:SF:=
 (sRet (eTup (a0b (eV 2) (a0b (eV 3) (a0b (a0h 3 a1J (a0b (eV 0) (a0b (eV 1) (a0b (eV 2) aNil)))) (a0b (eIx (bV 0) (eC (.int 1))) aNil))))))
noncomputable def a0P:List D->Option Sl:=runF a3S 4
theorem W_stretch_on:Wo (a0P [a0,a1,a2,a3]) Q↔Wo (a3S [.sh a0,.sh a1,.sh a2,.sh a3]) (endQ Q):=a0o
noncomputable abbrev a3E:Stmt:=top 9
noncomputable abbrev a26{α:Type}(Y:Str->Stmt->List Str->α):α:=Y "span_or_none" a3E ["first","last"]
noncomputable def a3a:SF:=
 (sRet (eIf (tOf (eBin gLe (eV 0) (eV 1))) (eTup (a0b (eV 0) (a0b (eV 1) aNil))) (eC .non)))
noncomputable def a0Y:List D->Option Sl:=runF a3a 2
theorem W_span_or_none:Wo (a0Y [a0,a1]) Q↔Wo (a3a [.sh a0,.sh a1]) (endQ Q):=a0o
noncomputable abbrev b8O:Stmt:=top 5
noncomputable abbrev t_up{α:Type}(Y:Str->Stmt->List Str->α):α:=Y "up" b8O ["a","b"]
noncomputable def G_up:SF:=
 (sRet (eNeg (eBin gDiv (eNeg (eV 0)) (eV 1))))
noncomputable def a8j:List D->Option Sl:=runF G_up 2
theorem W_up:Wo (a8j [a0,a1]) Q↔Wo (G_up [.sh a0,.sh a1]) (endQ Q):=a0o
noncomputable abbrev b1Y:Stmt:=top 6
noncomputable abbrev b1P{α:Type}(Y:Str->Stmt->List Str->α):α:=Y "down" b1Y ["a","b"]
noncomputable def b3A:SF:=
 (sRet (eBin gDiv (eV 0) (eV 1)))
noncomputable def a4w:List D->Option Sl:=runF b3A 2
theorem W_down:Wo (a4w [a0,a1]) Q↔Wo (b3A [.sh a0,.sh a1]) (endQ Q):=a0o
noncomputable abbrev a5e:Stmt:=top 8
noncomputable abbrev a4b{α:Type}(Y:Str->Stmt->List Str->α):α:=Y "no_dearer" a5e ["one","other","low","high"]
noncomputable def a4l:SF:=
 (sSeq (a0x 4 (eBin gSub (eIx (bV 0) (eC (.int 0))) (eIx (bV 1) (eC (.int 0)))))
 (sSeq (a0x 5 (eBin gSub (eIx (bV 0) (eC (.int 1))) (eIx (bV 1) (eC (.int 1)))))
 (sSeq (sIf (tOf (eBin gGt (eV 5) (eC (.int 0))))
 (sRet (a0h 2 a0Y (a0b (eV 2) (a0b (a4F b1y (a0b (eV 3) (a0b (eBin gAdd (eV 2) (a0h 2 a4w (a0b (eNeg (eV 4)) (a0b (eV 5) aNil)))) aNil))) aNil)))) sNx)
 (sSeq (sIf (tOf (eBin gLt (eV 5) (eC (.int 0))))
 (sRet (a0h 2 a0Y (a0b (a4F a9X (a0b (eV 2) (a0b (eBin gAdd (eV 2) (a0h 2 a8j (a0b (eV 4) (a0b (eNeg (eV 5)) aNil)))) aNil))) (a0b (eV 3) aNil)))) sNx)
 (sRet (eIf (tOf (eBin gGt (eV 4) (eC (.int 0)))) (eC .non) (eTup (a0b (eV 2) (a0b (eV 3) aNil)))))))))
noncomputable def a2g:List D->Option Sl:=runF a4l 6
theorem W_no_dearer:Wo (a2g [a0,a1,a2,a3]) Q↔Wo (a4l [.sh a0,.sh a1,.sh a2,.sh a3,.no,.no]) (endQ Q):=a0o
noncomputable abbrev a4r:Stmt:=top 10
noncomputable abbrev a3C{α:Type}(Y:Str->Stmt->List Str->α):α:=Y "lower_line" a4r ["one","other","low","high"]
noncomputable def a3T:SF:=
 (sSeq (a0x 4 (a0h 4 a2g (a0b (eV 0) (a0b (eV 1) (a0b (eV 2) (a0b (eV 3) aNil))))))
 (sSeq (sIf (tOf (eBin gIsN (eV 4) (eC .non)))
 (sRet (eLst (a0b (a0h 4 a0P (a0b (eV 1) (a0b (eV 2) (a0b (eV 2) (a0b (eV 3) aNil))))) aNil))) sNx)
 (sSeq (sSet 5 (eLst aNil))
 (sSeq (sIf (tOf (eBin gLt (eV 2) (eIx (bV 4) (eC (.int 0)))))
 (sApp 5 (a0h 4 a0P (a0b (eV 1) (a0b (eV 2) (a0b (eV 2) (a0b (eBin gSub (eIx (bV 4) (eC (.int 0))) (eC (.int 1))) aNil)))))) sNx)
 (sSeq (sApp 5 (a0h 4 a0P (a0b (eV 0) (a0b (eV 2) (a0b (eIx (bV 4) (eC (.int 0))) (a0b (eIx (bV 4) (eC (.int 1))) aNil))))))
 (sSeq (sIf (tOf (eBin gLt (eIx (bV 4) (eC (.int 1))) (eV 3)))
 (sApp 5 (a0h 4 a0P (a0b (eV 1) (a0b (eV 2) (a0b (eBin gAdd (eIx (bV 4) (eC (.int 1))) (eC (.int 1))) (a0b (eV 3) aNil)))))) sNx)
 (a6r 5)))))))
noncomputable def a1Z:List D->Option Sl:=runF a3T 6
theorem W_lower_line:Wo (a1Z [a0,a1,a2,a3]) Q↔Wo (a3T [.sh a0,.sh a1,.sh a2,.sh a3,.no,.no]) (endQ Q):=a0o
noncomputable abbrev a5N:Stmt:=top 14
noncomputable abbrev a4V{α:Type}(Y:Str->Stmt->List Str->α):α:=Y "drawn_to" a5N ["row","x"]
noncomputable def a5c:SF:=
 (sRet (a0h 3 a1J (a0b (eTup (a0b (eIx (bV 0) (eC (.int 2))) (a0b (eIx (bV 0) (eC (.int 3))) aNil))) (a0b (eIx (bV 0) (eC (.int 0))) (a0b (eV 1) aNil)))))
noncomputable def a1m:List D->Option Sl:=runF a5c 2
theorem W_drawn_to:Wo (a1m [a0,a1]) Q↔Wo (a5c [.sh a0,.sh a1]) (endQ Q):=a0o
noncomputable abbrev a5f:Stmt:=top 24
noncomputable abbrev a4c{α:Type}(Y:Str->Stmt->List Str->α):α:=Y "line_from" a5f ["row","low"]
noncomputable def a4m:SF:=
 (sRet (eTup (a0b (a0h 2 a1m (a0b (eV 0) (a0b (eV 1) aNil))) (a0b (eIx (bV 0) (eC (.int 3))) aNil))))
noncomputable def a1Q:List D->Option Sl:=runF a4m 2
theorem W_line_from:Wo (a1Q [a0,a1]) Q↔Wo (a4m [.sh a0,.sh a1]) (endQ Q):=a0o
noncomputable abbrev b5H:Stmt:=top 23
noncomputable abbrev b6i{α:Type}(Y:Str->Stmt->List Str->α):α:=Y "met" b5H ["one","other"]
noncomputable def b5R:En->Nat:=λ_=>1000000
noncomputable def b8z:SF:=
 (sSeq (sSet 2 (eLst aNil))
 (sSeq (a0x 3 (eC (.int 0)))
 (sSeq (a0x 4 (eC (.int 0)))
 (sSeq (a8d b5R (a5H (tOf (eBin gLt (eV 3) (eLen (bV 0)))) (tOf (eBin gLt (eV 4) (eLen (bV 1)))))
 (sSeq (a0x 5 (eIx (bV 0) (eV 3)))
 (sSeq (a0x 6 (eIx (bV 1) (eV 4)))
 (sSeq (a0x 7 (a4F a9X (a0b (eIx (bV 5) (eC (.int 0))) (a0b (eIx (bV 6) (eC (.int 0))) aNil))))
 (sSeq (a0x 8 (a4F b1y (a0b (eIx (bV 5) (eC (.int 1))) (a0b (eIx (bV 6) (eC (.int 1))) aNil))))
 (sSeq (sIf (tOf (eBin gLe (eV 7) (eV 8)))
 (sApp 2 (eTup (a0b (eV 7) (a0b (eV 8) (a0b (a0h 2 a1Q (a0b (eV 5) (a0b (eV 7) aNil))) (a0b (a0h 2 a1Q (a0b (eV 6) (a0b (eV 7) aNil))) aNil)))))) sNx)
 (sIf (tOf (eBin gLt (eIx (bV 5) (eC (.int 1))) (eIx (bV 6) (eC (.int 1)))))
 (sAug 3 (eC (.int 1))) (sAug 4 (eC (.int 1))))))))))
 (a6r 2)))))
noncomputable def a4Y:List D->Option Sl:=runF b8z 9
theorem W_met:Wo (a4Y [a0,a1]) Q↔Wo (b8z [.sh a0,.sh a1,.no,.no,.no,.no,.no,.no,.no]) (endQ Q):=a0o
noncomputable abbrev a36:Stmt:=top 31
noncomputable abbrev a3i{α:Type}(Y:Str->Stmt->List Str->α):α:=Y "lesser_rows" a36 ["one","other"]
noncomputable def a3s:SF:=
 (sSeq (sSet 2 (eLst aNil))
 (sSeq (sFor (a0h 2 a4Y (a0b (eV 0) (a0b (eV 1) aNil))) (gT 4 (a1U (gN 3) (a1U (gN 4) (a1U (gN 5) (a1U (gN 6) a6E)))))
 (sExt 2 (a0h 4 a1Z (a0b (eV 5) (a0b (eV 6) (a0b (eV 3) (a0b (eV 4) aNil)))))))
 (a6r 2)))
noncomputable def a1K:List D->Option Sl:=runF a3s 7
theorem W_lesser_rows:Wo (a1K [a0,a1]) Q↔Wo (a3s [.sh a0,.sh a1,.no,.no,.no,.no,.no]) (endQ Q):=a0o
noncomputable abbrev b5I:Stmt:=top 26
noncomputable abbrev b6j{α:Type}(Y:Str->Stmt->List Str->α):α:=Y "cut" b5I ["row","low","high"]
noncomputable def b8B:SF:=
 (sRet (eTup (a0b (eV 1) (a0b (eV 2) (a0b (a0h 2 a1m (a0b (eV 0) (a0b (eV 1) aNil))) (a0b (eIx (bV 0) (eC (.int 3))) aNil))))))
noncomputable def a4e:List D->Option Sl:=runF b8B 3
theorem W_cut:Wo (a4e [a0,a1,a2]) Q↔Wo (b8B [.sh a0,.sh a1,.sh a2]) (endQ Q):=a0o
noncomputable abbrev a6I:Stmt:=top 27
noncomputable abbrev a5D{α:Type}(Y:Str->Stmt->List Str->α):α:=Y "outside" a6I ["form","spans"]
noncomputable def a6R:En->Nat:=λ_=>1000000
noncomputable def a6n:SF:=
 (sSeq (sSet 2 (eLst aNil))
 (sSeq (a0x 3 (eC (.int 0)))
 (sSeq (sFor (eV 0) (gN 4)
 (sSeq (a0x 5 (eIx (bV 4) (eC (.int 0))))
 (sSeq (a8d a6R (a5H (tOf (eBin gLt (eV 3) (eLen (bV 1)))) (tOf (eBin gLe (eIx (bOf (eIx (bV 1) (eV 3))) (eC (.int 0))) (eIx (bV 4) (eC (.int 1))))))
 (sSeq (sIf (tOf (eBin gLt (eV 5) (eIx (bOf (eIx (bV 1) (eV 3))) (eC (.int 0)))))
 (sApp 2 (a0h 3 a4e (a0b (eV 4) (a0b (eV 5) (a0b (eBin gSub (eIx (bOf (eIx (bV 1) (eV 3))) (eC (.int 0))) (eC (.int 1))) aNil))))) sNx)
 (sSeq (a0x 5 (a4F a9X (a0b (eV 5) (a0b (eBin gAdd (eIx (bOf (eIx (bV 1) (eV 3))) (eC (.int 1))) (eC (.int 1))) aNil))))
 (sSeq (sIf (tOf (eBin gGt (eIx (bOf (eIx (bV 1) (eV 3))) (eC (.int 1))) (eIx (bV 4) (eC (.int 1)))))
 sBk sNx)
 (sAug 3 (eC (.int 1)))))))
 (sIf (tOf (eBin gLe (eV 5) (eIx (bV 4) (eC (.int 1)))))
 (sApp 2 (a0h 3 a4e (a0b (eV 4) (a0b (eV 5) (a0b (eIx (bV 4) (eC (.int 1))) aNil))))) sNx))))
 (a6r 2))))
noncomputable def a2A:List D->Option Sl:=runF a6n 6
theorem W_outside:Wo (a2A [a0,a1]) Q↔Wo (a6n [.sh a0,.sh a1,.no,.no,.no,.no]) (endQ Q):=a0o
noncomputable abbrev a5J:Stmt:=top 20
noncomputable abbrev a4R{α:Type}(Y:Str->Stmt->List Str->α):α:=Y "spans_of" a5J ["form"]
noncomputable def a49:SF:=
 (sSeq (sSet 1 (eLst aNil))
 (sSeq (sFor (eV 0) (gN 2)
 (sIf (a5H (b1Q (bV 1)) (tOf (eBin gEqD (eBin gAdd (eIx (bOf (eIx (bV 1) (eNeg (eC (.int 1))))) (eC (.int 1))) (eC (.int 1))) (eIx (bV 2) (eC (.int 0))))))
 (sSeq (sPop 3 1)
 (sApp 1 (eTup (a0b (eIx (bV 3) (eC (.int 0))) (a0b (eIx (bV 2) (eC (.int 1))) aNil))))) (sApp 1 (eTup (a0b (eIx (bV 2) (eC (.int 0))) (a0b (eIx (bV 2) (eC (.int 1))) aNil))))))
 (sRet (a8Z (bV 1)))))
noncomputable def a1H:List D->Option Sl:=runF a49 4
theorem W_spans_of:Wo (a1H [a0]) Q↔Wo (a49 [.sh a0,.no,.no,.no]) (endQ Q):=a0o
noncomputable abbrev b0e:Stmt:=top 29
noncomputable abbrev a9l{α:Type}(Y:Str->Stmt->List Str->α):α:=Y "least" b0e ["one","other"]
noncomputable def a95:SF:=
 (sSeq (a0x 2 (eBin gAdd (a0h 2 a2A (a0b (eV 0) (a0b (a0h 1 a1H (a0b (eV 1) aNil)) aNil))) (a0h 2 a2A (a0b (eV 1) (a0b (a0h 1 a1H (a0b (eV 0) aNil)) aNil)))))
 (sRet (a0h 1 a2h (a0b (a7G (eBin gAdd (a0h 2 a1K (a0b (eV 0) (a0b (eV 1) aNil))) (eV 2))) aNil))))
noncomputable def a1i:List D->Option Sl:=runF a95 3
theorem W_least:Wo (a1i [a0,a1]) Q↔Wo (a95 [.sh a0,.sh a1,.no]) (endQ Q):=a0o
noncomputable abbrev a5L:Stmt:=top 30
noncomputable abbrev a0p{α:Type}(Y:Str->Stmt->List Str->α):α:=Y "least_of" a5L ["forms"]
noncomputable def a1L:List D->Option Sl:=λ_=>none
noncomputable def a4O:SF:=
 (sSeq (sIf (tOf (eBin gLt (eLen (bV 0)) (eC (.int 2))))
 (sRet (eIf (tTru (eV 0)) (eIx (bV 0) (eC (.int 0))) (eTup aNil))) sNx)
 (sSeq (a0x 1 (eBin gDiv (eLen (bV 0)) (eC (.int 2))))
 (sRet (a0h 2 a1i (a0b (a0h 1 a1L (a0b (eSl (bV 0) pNo (pSo (eV 1))) aNil)) (a0b (a0h 1 a1L (a0b (eSl (bV 0) (pSo (eV 1)) pNo) aNil)) aNil))))))
noncomputable def a1h:List D->Option Sl:=runF a4O 2
theorem a7U:Wo (a1h [a0]) Q↔Wo (a4O [.sh a0,.no]) (endQ Q):=a0o
noncomputable def a4N:SF:=
 (sSeq (sIf (tOf (eBin gLt (eLen (bV 0)) (eC (.int 2))))
 (sRet (eIf (tTru (eV 0)) (eIx (bV 0) (eC (.int 0))) (eTup aNil))) sNx)
 (sSeq (a0x 1 (eBin gDiv (eLen (bV 0)) (eC (.int 2))))
 (sRet (a0h 2 a1i (a0b (a0h 1 a1h (a0b (eSl (bV 0) pNo (pSo (eV 1))) aNil)) (a0b (a0h 1 a1h (a0b (eSl (bV 0) (pSo (eV 1)) pNo) aNil)) aNil))))))
noncomputable def a1g:List D->Option Sl:=runF a4N 2
theorem a7T:Wo (a1g [a0]) Q↔Wo (a4N [.sh a0,.no]) (endQ Q):=a0o
noncomputable def a4M:SF:=
 (sSeq (sIf (tOf (eBin gLt (eLen (bV 0)) (eC (.int 2))))
 (sRet (eIf (tTru (eV 0)) (eIx (bV 0) (eC (.int 0))) (eTup aNil))) sNx)
 (sSeq (a0x 1 (eBin gDiv (eLen (bV 0)) (eC (.int 2))))
 (sRet (a0h 2 a1i (a0b (a0h 1 a1g (a0b (eSl (bV 0) pNo (pSo (eV 1))) aNil)) (a0b (a0h 1 a1g (a0b (eSl (bV 0) (pSo (eV 1)) pNo) aNil)) aNil))))))
noncomputable def a1f:List D->Option Sl:=runF a4M 2
theorem a7S:Wo (a1f [a0]) Q↔Wo (a4M [.sh a0,.no]) (endQ Q):=a0o
noncomputable def a4L:SF:=
 (sSeq (sIf (tOf (eBin gLt (eLen (bV 0)) (eC (.int 2))))
 (sRet (eIf (tTru (eV 0)) (eIx (bV 0) (eC (.int 0))) (eTup aNil))) sNx)
 (sSeq (a0x 1 (eBin gDiv (eLen (bV 0)) (eC (.int 2))))
 (sRet (a0h 2 a1i (a0b (a0h 1 a1f (a0b (eSl (bV 0) pNo (pSo (eV 1))) aNil)) (a0b (a0h 1 a1f (a0b (eSl (bV 0) (pSo (eV 1)) pNo) aNil)) aNil))))))
noncomputable def a1e:List D->Option Sl:=runF a4L 2
theorem a7R:Wo (a1e [a0]) Q↔Wo (a4L [.sh a0,.no]) (endQ Q):=a0o
noncomputable def a4K:SF:=
 (sSeq (sIf (tOf (eBin gLt (eLen (bV 0)) (eC (.int 2))))
 (sRet (eIf (tTru (eV 0)) (eIx (bV 0) (eC (.int 0))) (eTup aNil))) sNx)
 (sSeq (a0x 1 (eBin gDiv (eLen (bV 0)) (eC (.int 2))))
 (sRet (a0h 2 a1i (a0b (a0h 1 a1e (a0b (eSl (bV 0) pNo (pSo (eV 1))) aNil)) (a0b (a0h 1 a1e (a0b (eSl (bV 0) (pSo (eV 1)) pNo) aNil)) aNil))))))
noncomputable def a1d:List D->Option Sl:=runF a4K 2
theorem a7Q:Wo (a1d [a0]) Q↔Wo (a4K [.sh a0,.no]) (endQ Q):=a0o
noncomputable def a4J:SF:=
 (sSeq (sIf (tOf (eBin gLt (eLen (bV 0)) (eC (.int 2))))
 (sRet (eIf (tTru (eV 0)) (eIx (bV 0) (eC (.int 0))) (eTup aNil))) sNx)
 (sSeq (a0x 1 (eBin gDiv (eLen (bV 0)) (eC (.int 2))))
 (sRet (a0h 2 a1i (a0b (a0h 1 a1d (a0b (eSl (bV 0) pNo (pSo (eV 1))) aNil)) (a0b (a0h 1 a1d (a0b (eSl (bV 0) (pSo (eV 1)) pNo) aNil)) aNil))))))
noncomputable def a1c:List D->Option Sl:=runF a4J 2
theorem a7P:Wo (a1c [a0]) Q↔Wo (a4J [.sh a0,.no]) (endQ Q):=a0o
noncomputable def a4I:SF:=
 (sSeq (sIf (tOf (eBin gLt (eLen (bV 0)) (eC (.int 2))))
 (sRet (eIf (tTru (eV 0)) (eIx (bV 0) (eC (.int 0))) (eTup aNil))) sNx)
 (sSeq (a0x 1 (eBin gDiv (eLen (bV 0)) (eC (.int 2))))
 (sRet (a0h 2 a1i (a0b (a0h 1 a1c (a0b (eSl (bV 0) pNo (pSo (eV 1))) aNil)) (a0b (a0h 1 a1c (a0b (eSl (bV 0) (pSo (eV 1)) pNo) aNil)) aNil))))))
noncomputable def a1b:List D->Option Sl:=runF a4I 2
theorem a7O:Wo (a1b [a0]) Q↔Wo (a4I [.sh a0,.no]) (endQ Q):=a0o
noncomputable def a3t:SF:=
 (sSeq (sIf (tOf (eBin gLt (eLen (bV 0)) (eC (.int 2))))
 (sRet (eIf (tTru (eV 0)) (eIx (bV 0) (eC (.int 0))) (eTup aNil))) sNx)
 (sSeq (a0x 1 (eBin gDiv (eLen (bV 0)) (eC (.int 2))))
 (sRet (a0h 2 a1i (a0b (a0h 1 a1b (a0b (eSl (bV 0) pNo (pSo (eV 1))) aNil)) (a0b (a0h 1 a1b (a0b (eSl (bV 0) (pSo (eV 1)) pNo) aNil)) aNil))))))
noncomputable def a0S:List D->Option Sl:=runF a3t 2
theorem W_least_of__8:Wo (a0S [a0]) Q↔Wo (a3t [.sh a0,.no]) (endQ Q):=a0o
noncomputable abbrev a3b:Stmt:=top 38
noncomputable abbrev a2I{α:Type}(Y:Str->Stmt->List Str->α):α:=Y "how_many_picks" a3b ["forms"]
noncomputable def a2M:SF:=
 (sSeq (a0x 1 (eC (.int 1)))
 (sSeq (sFor (eV 0) (gN 2)
 (b3X 1 (eLen (bV 2))))
 (sRet (eV 1))))
noncomputable def a0s:List D->Option Sl:=runF a2M 3
theorem W_how_many_picks:Wo (a0s [a0]) Q↔Wo (a2M [.sh a0,.no,.no]) (endQ Q):=a0o
noncomputable abbrev b0d:Stmt:=top 37
noncomputable abbrev a4T{α:Type}(Y:Str->Stmt->List Str->α):α:=Y "picks" b0d ["forms"]
noncomputable def a5b:SF:=
 (sSeq (sIf (tOf (eBin gGt (a0h 1 a0s (a0b (eV 0) aNil)) (eC (.int 100))))
 a6O sNx)
 (sSeq (sIf (tOf (eBin gEqD (a0h 1 a0s (a0b (eV 0) aNil)) (eC (.int 0))))
 (sRet (eLst aNil)) sNx)
 (sSeq (a0x 1 (eLst (a0b (eLst aNil) aNil)))
 (sSeq (sFor (eV 0) (gN 2)
 (sSeq (sSet 3 (eLst aNil))
 (sSeq (sFor (eV 1) (gN 4)
 (sExt 3 (a1E (fSeq (eV 2)) [4] 1 (gN 0) a2d (eBin gAdd (eV 1) (eLst (a0b (eV 0) aNil))))))
 (sFrz 3 (a0x 1 (eV 3))))))
 (sRet (eV 1))))))
noncomputable def a1a:List D->Option Sl:=runF a5b 5
noncomputable def a92:RF:=
 (rSeq (rIf (tOf (eBin gGt (a0h 1 a0s (a0b (eV 0) aNil)) (eC (.int 100))))
 (a8h "TooMany" (a0b (eC (.str "there are too many ways to pick a stretch of each seller")) aNil)) rNo) (sIf (tOf (eBin gGt (a0h 1 a0s (a0b (eV 0) aNil)) (eC (.int 100))))
 a6O sNx)
 (rSeq (rIf (tOf (eBin gEqD (a0h 1 a0s (a0b (eV 0) aNil)) (eC (.int 0))))
 rNo rNo) (sIf (tOf (eBin gEqD (a0h 1 a0s (a0b (eV 0) aNil)) (eC (.int 0))))
 (sRet (eLst aNil)) sNx)
 (rSeq rNo (a0x 1 (eLst (a0b (eLst aNil) aNil)))
 (rSeq rNo (sFor (eV 0) (gN 2)
 (sSeq (sSet 3 (eLst aNil))
 (sSeq (sFor (eV 1) (gN 4)
 (sExt 3 (a1E (fSeq (eV 2)) [4] 1 (gN 0) a2d (eBin gAdd (eV 1) (eLst (a0b (eV 0) aNil))))))
 (sFrz 3 (a0x 1 (eV 3))))))
 rNo))))
noncomputable def a1F:List D->Option Str:=runX a92 5
theorem W_picks:Wo (a1a [a0]) Q↔Wo (a5b [.sh a0,.no,.no,.no,.no]) (endQ Q):=a0o
noncomputable abbrev a6G:Stmt:=top 35
noncomputable abbrev a5B{α:Type}(Y:Str->Stmt->List Str->α):α:=Y "step_of" a6G ["row"]
noncomputable def a6l:SF:=
 (sRet (eIx (bV 0) (eC (.int 3))))
noncomputable def a1G:List D->Option Sl:=runF a6l 1
theorem W_step_of:Wo (a1G [a0]) Q↔Wo (a6l [.sh a0]) (endQ Q):=a0o
noncomputable abbrev a79:Stmt:=top 34
noncomputable abbrev a64{α:Type}(Y:Str->Stmt->List Str->α):α:=Y "poured" a79 ["rows"]
noncomputable def a7X:SF:=
 (sSeq (a0x 1 (eSum (bOf (a1E (fSeq (eV 0)) [] 1 (gN 0) a2d (eIx (bV 0) (eC (.int 0)))))))
 (sSeq (a0x 2 (eSum (bOf (a1E (fSeq (eV 0)) [] 1 (gN 0) a2d (eIx (bV 0) (eC (.int 2)))))))
 (sSeq (sSet 3 (eLst (a0b (eTup (a0b (eV 1) (a0b (eV 1) (a0b (eV 2) (a0b (eC (.int 0)) aNil))))) aNil)))
 (sSeq (sFor (a80 a1G (eV 0)) (gN 4)
 (sSeq (a0x 5 (eBin gSub (eIx (bV 4) (eC (.int 1))) (eIx (bV 4) (eC (.int 0)))))
 (sSeq (sIf (tOf (eBin gGt (eV 5) (eC (.int 0))))
 (sApp 3 (eTup (a0b (eBin gAdd (eV 1) (eC (.int 1))) (a0b (eBin gAdd (eV 1) (eV 5)) (a0b (eBin gAdd (eV 2) (eIx (bV 4) (eC (.int 3)))) (a0b (eIx (bV 4) (eC (.int 3))) aNil)))))) sNx)
 (sSeq (sAug 1 (eV 5))
 (sAug 2 (eBin gMul (eIx (bV 4) (eC (.int 3))) (eV 5)))))))
 (sFrz 3 (sRet (a0h 1 a2h (a0b (eV 3) aNil))))))))
noncomputable def a2z:List D->Option Sl:=runF a7X 6
theorem W_poured:Wo (a2z [a0]) Q↔Wo (a7X [.sh a0,.no,.no,.no,.no,.no]) (endQ Q):=a0o
noncomputable abbrev a3F:Stmt:=top 36
noncomputable abbrev a1v{α:Type}(Y:Str->Stmt->List Str->α):α:=Y "least_poured" a3F ["forms"]
noncomputable def a1A:SF:=
 (sRet (a0h 1 a0S (a0b (a1E (fSeq (a0h 1 a1a (a0b (eV 0) aNil))) [] 1 (gN 0) a2d (a0h 1 a2z (a0b (eV 0) aNil))) aNil)))
noncomputable def a0K:List D->Option Sl:=runF a1A 1
noncomputable def a39:RF:=
 (rE (a2v 1 a1F (a0b (eV 0) aNil)))
noncomputable def a1u:List D->Option Str:=runX a39 1
theorem W_least_poured:Wo (a0K [a0]) Q↔Wo (a1A [.sh a0]) (endQ Q):=a0o
noncomputable abbrev a8b:Stmt:=top 44
noncomputable abbrev a3X{α:Type}(Y:Str->Stmt->List Str->α):α:=Y "joined" a8b ["forms"]
noncomputable def a4P:SF:=
 (sRet (a0h 1 a0K (a0b (eV 0) aNil)))
noncomputable def a0v:List D->Option Sl:=runF a4P 1
noncomputable def b01:RF:=
 (rE (a2v 1 a1u (a0b (eV 0) aNil)))
noncomputable def a09:List D->Option Str:=runX b01 1
theorem W_joined:Wo (a0v [a0]) Q↔Wo (a4P [.sh a0]) (endQ Q):=a0o
noncomputable abbrev a6K:Stmt:=top 48
noncomputable abbrev a5F{α:Type}(Y:Str->Stmt->List Str->α):α:=Y "from_on" a6K ["form","low"]
noncomputable def a6p:SF:=
 (sRet (a0h 1 a2h (a0b (a1E (fSeq (eV 0)) [1] 1 (gN 0) (tOf (eBin gGe (eIx (bV 0) (eC (.int 1))) (eV 1))) (a0h 3 a4e (a0b (eV 0) (a0b (a4F a9X (a0b (eV 1) (a0b (eIx (bV 0) (eC (.int 0))) aNil))) (a0b (eIx (bV 0) (eC (.int 1))) aNil))))) aNil)))
noncomputable def a05:List D->Option Sl:=runF a6p 2
theorem W_from_on:Wo (a05 [a0,a1]) Q↔Wo (a6p [.sh a0,.sh a1]) (endQ Q):=a0o
noncomputable abbrev a5I:Stmt:=top 47
noncomputable abbrev a2P{α:Type}(Y:Str->Stmt->List Str->α):α:=Y "standing" a5I ["forms","least_shares"]
noncomputable def a33:SF:=
 (sRet (a0h 1 a0v (a0b (a1E (fRng zipA (a0b (eV 0) (a0b (eV 1) aNil))) [] 2 (gT 2 (a1U (gN 0) (a1U (gN 1) a6E))) a2d (a0h 2 a05 (a0b (eV 0) (a0b (eV 1) aNil)))) aNil)))
noncomputable def a0Q:List D->Option Sl:=runF a33 2
noncomputable def a6Y:RF:=
 (rE (a2v 1 a09 (a0b (a1E (fRng zipA (a0b (eV 0) (a0b (eV 1) aNil))) [] 2 (gT 2 (a1U (gN 0) (a1U (gN 1) a6E))) a2d (a0h 2 a05 (a0b (eV 0) (a0b (eV 1) aNil)))) aNil)))
noncomputable def a17:List D->Option Str:=runX a6Y 2
theorem W_standing:Wo (a0Q [a0,a1]) Q↔Wo (a33 [.sh a0,.sh a1]) (endQ Q):=a0o
noncomputable abbrev b1W:Stmt:=top 22
noncomputable abbrev b1N{α:Type}(Y:Str->Stmt->List Str->α):α:=Y "plus" b1W ["one","other"]
noncomputable def c0J:SF:=
 (sRet (a0h 1 a2h (a0b (a1E (fSeq (a0h 2 a4Y (a0b (eV 0) (a0b (eV 1) aNil)))) [] 4 (gT 4 (a1U (gN 0) (a1U (gN 1) (a1U (gN 2) (a1U (gN 3) a6E))))) a2d (eTup (a0b (eV 0) (a0b (eV 1) (a0b (eBin gAdd (eIx (bV 2) (eC (.int 0))) (eIx (bV 3) (eC (.int 0)))) (a0b (eBin gAdd (eIx (bV 2) (eC (.int 1))) (eIx (bV 3) (eC (.int 1)))) aNil)))))) aNil)))
noncomputable def a7b:List D->Option Sl:=runF c0J 2
noncomputable abbrev b0b:Stmt:=top 25
noncomputable abbrev a9j{α:Type}(Y:Str->Stmt->List Str->α):α:=Y "times" b0b ["form","many"]
noncomputable def b8y:SF:=
 (sRet (a0h 1 a2h (a0b (a1E (fSeq (eV 0)) [1] 1 (gN 0) a2d (eTup (a0b (eIx (bV 0) (eC (.int 0))) (a0b (eIx (bV 0) (eC (.int 1))) (a0b (eBin gMul (eIx (bV 0) (eC (.int 2))) (eV 1)) (a0b (eBin gMul (eIx (bV 0) (eC (.int 3))) (eV 1)) aNil)))))) aNil)))
noncomputable def a5S:List D->Option Sl:=runF b8y 2
noncomputable abbrev a78:Stmt:=top 46
noncomputable abbrev a3W{α:Type}(Y:Str->Stmt->List Str->α):α:=Y "spared" a78 ["forms","k"]
noncomputable def a5y:SF:=
 (sSeq (a0x 2 (a0h 1 a0v (a0b (eV 0) aNil)))
 (sSeq (sIf (tOf (eBin gEqD (eV 2) (eTup aNil)))
 (sRet (eTup aNil)) sNx)
 (sSeq (a0x 3 (a1E (fRng b1w (a0b (eV 0) aNil)) [1] 2 (gT 2 (a1U (gN 0) (a1U (gN 1) a6E))) (tOf (eBin gNeD (eV 0) (eV 2))) (eV 1)))
 (sRet (a0h 2 a7b (a0b (a0h 1 a0v (a0b (eV 3) aNil)) (a0b (a0h 2 a5S (a0b (eV 2) (a0b (eNeg (eC (.int 1))) aNil))) aNil)))))))
noncomputable def a1w:List D->Option Sl:=runF a5y 4
noncomputable def b00:RF:=
 (rSeq (rE (a2v 1 a09 (a0b (eV 0) aNil))) (a0x 2 (a0h 1 a0v (a0b (eV 0) aNil)))
 (rSeq (rIf (tOf (eBin gEqD (eV 2) (eTup aNil)))
 rNo rNo) (sIf (tOf (eBin gEqD (eV 2) (eTup aNil)))
 (sRet (eTup aNil)) sNx)
 (rSeq rNo (a0x 3 (a1E (fRng b1w (a0b (eV 0) aNil)) [1] 2 (gT 2 (a1U (gN 0) (a1U (gN 1) a6E))) (tOf (eBin gNeD (eV 0) (eV 2))) (eV 1)))
 (rE (a2v 1 a09 (a0b (eV 3) aNil))))))
noncomputable def a2Q:List D->Option Str:=runX b00 4
theorem W_spared:Wo (a1w [a0,a1]) Q↔Wo (a5y [.sh a0,.sh a1,.no,.no]) (endQ Q):=a0o
noncomputable abbrev a6H:Stmt:=top 40
noncomputable abbrev a5C{α:Type}(Y:Str->Stmt->List Str->α):α:=Y "reaches" a6H ["rows","x"]
noncomputable def a6m:SF:=
 (sRet (eChn (a5H (tOf (eBin gLe (eSum (bOf (a1E (fSeq (eV 0)) [] 1 (gN 0) a2d (eIx (bV 0) (eC (.int 0)))))) (eV 1))) (tOf (eBin gLe (eV 1) (eSum (bOf (a1E (fSeq (eV 0)) [] 1 (gN 0) a2d (eIx (bV 0) (eC (.int 1)))))))))))
noncomputable def a1I:List D->Option Sl:=runF a6m 2
theorem W_reaches:Wo (a1I [a0,a1]) Q↔Wo (a6m [.sh a0,.sh a1]) (endQ Q):=a0o
noncomputable abbrev b0f:Stmt:=top 42
noncomputable abbrev a9m{α:Type}(Y:Str->Stmt->List Str->α):α:=Y "dealt" b0f ["rows","x"]
noncomputable def a96:SF:=
 (sSeq (sSet 2 (a1E (fSeq (eV 0)) [] 1 (gN 0) a2d (eIx (bV 0) (eC (.int 0)))))
 (sSeq (a0x 3 (eBin gSub (eV 1) (eSum (bV 2))))
 (sSeq (sFor (b0R 0 (eIx (bOf (eIx (bV 1) (eV 0))) (eC (.int 3))) (a0b (eLen (bV 0)) aNil)) (gN 4)
 (sSeq (a0x 5 (a4F b1y (a0b (eV 3) (a0b (eBin gSub (eIx (bOf (eIx (bV 0) (eV 4))) (eC (.int 1))) (eIx (bOf (eIx (bV 0) (eV 4))) (eC (.int 0)))) aNil))))
 (sSeq (b07 2 (eV 4) (eV 5))
 (b3W 3 (eV 5)))))
 (a6r 2))))
noncomputable def a3c:List D->Option Sl:=runF a96 6
theorem W_dealt:Wo (a3c [a0,a1]) Q↔Wo (a96 [.sh a0,.sh a1,.no,.no,.no,.no]) (endQ Q):=a0o
noncomputable abbrev a21:Stmt:=top 41
noncomputable abbrev a2y{α:Type}(Y:Str->Stmt->List Str->α):α:=Y "cost_and_shares" a21 ["rows","x"]
noncomputable def a2C:SF:=
 (sSeq (a0x 2 (a0h 2 a3c (a0b (eV 0) (a0b (eV 1) aNil))))
 (sRet (eTup (a0b (eSum (bOf (a1E (fRng zipA (a0b (eV 0) (a0b (eV 2) aNil))) [] 2 (gT 2 (a1U (gN 0) (a1U (gN 1) a6E))) a2d (a0h 2 a1m (a0b (eV 0) (a0b (eV 1) aNil)))))) (a0b (eV 2) aNil)))))
noncomputable def a0t:List D->Option Sl:=runF a2C 3
theorem W_cost_and_shares:Wo (a0t [a0,a1]) Q↔Wo (a2C [.sh a0,.sh a1,.no]) (endQ Q):=a0o
noncomputable abbrev a4t:Stmt:=top 39
noncomputable abbrev a16{α:Type}(Y:Str->Stmt->List Str->α):α:=Y "best_dealt" a4t ["forms","x"]
noncomputable def a2H:SF:=
 (sSeq (a0x 2 (a1E (fSeq (a0h 1 a1a (a0b (eV 0) aNil))) [1] 1 (gN 0) (tTru (a0h 2 a1I (a0b (eV 0) (a0b (eV 1) aNil)))) (a0h 2 a0t (a0b (eV 0) (a0b (eV 1) aNil)))))
 (sSeq (sIf (a75 (tTru (eV 2)))
 a6O sNx)
 (sRet (eIx (bOf (b4Y (bV 2))) (eC (.int 1))))))
noncomputable def a0I:List D->Option Sl:=runF a2H 3
noncomputable def a3P:RF:=
 (rSeq (rE (a2v 1 a1F (a0b (eV 0) aNil))) (a0x 2 (a1E (fSeq (a0h 1 a1a (a0b (eV 0) aNil))) [1] 1 (gN 0) (tTru (a0h 2 a1I (a0b (eV 0) (a0b (eV 1) aNil)))) (a0h 2 a0t (a0b (eV 0) (a0b (eV 1) aNil)))))
 (rSeq (rIf (a75 (tTru (eV 2)))
 (a8h "NotOffered" (a0b (eC (.str "no shares come to the amount")) aNil)) rNo) (sIf (a75 (tTru (eV 2)))
 a6O sNx)
 rNo))
noncomputable def a0O:List D->Option Str:=runX a3P 3
theorem W_best_dealt:Wo (a0I [a0,a1]) Q↔Wo (a2H [.sh a0,.sh a1,.no]) (endQ Q):=a0o
noncomputable abbrev a5d:Stmt:=top 45
noncomputable abbrev a2w{α:Type}(Y:Str->Stmt->List Str->α):α:=Y "shares_at" a5d ["forms","x"]
noncomputable def a3r:SF:=
 (sRet (a0h 2 a0I (a0b (eV 0) (a0b (eV 1) aNil))))
noncomputable def a0N:List D->Option Sl:=runF a3r 2
noncomputable def a6j:RF:=
 (rE (a2v 2 a0O (a0b (eV 0) (a0b (eV 1) aNil))))
noncomputable def a1P:List D->Option Str:=runX a6j 2
theorem W_shares_at:Wo (a0N [a0,a1]) Q↔Wo (a3r [.sh a0,.sh a1]) (endQ Q):=a0o
noncomputable abbrev a5g:Stmt:=top 54
noncomputable abbrev a2x{α:Type}(Y:Str->Stmt->List Str->α):α:=Y "_law_asked" a5g ["deed","forms","x"]
noncomputable def a1t:SF:=
 (sSeq (sIf (tOf (eBin gEqD (eV 0) (eC (.int 0))))
 (sRet (a0h 1 a0v (a0b (eV 1) aNil))) sNx)
 (sSeq (sIf (tOf (eBin gEqD (eV 0) (eC (.int 1))))
 (sRet (a0h 2 a0N (a0b (eV 1) (a0b (eV 2) aNil)))) sNx)
 (sSeq (sIf (tOf (eBin gEqD (eV 0) (eC (.int 2))))
 (sRet (a0h 2 a1w (a0b (eV 1) (a0b (eC (.int 0)) aNil)))) sNx)
 (sRet (a0h 2 a0Q (a0b (eV 1) (a0b (a1E (fSeq (eV 1)) [2] 1 (gN 0) a2d (eV 1)) aNil)))))))
noncomputable def a0z:List D->Option Sl:=runF a1t 3
noncomputable def a2W:RF:=
 (rSeq (rIf (tOf (eBin gEqD (eV 0) (eC (.int 0))))
 (rE (a2v 1 a09 (a0b (eV 1) aNil))) rNo) (sIf (tOf (eBin gEqD (eV 0) (eC (.int 0))))
 (sRet (a0h 1 a0v (a0b (eV 1) aNil))) sNx)
 (rSeq (rIf (tOf (eBin gEqD (eV 0) (eC (.int 1))))
 (rE (a2v 2 a1P (a0b (eV 1) (a0b (eV 2) aNil)))) rNo) (sIf (tOf (eBin gEqD (eV 0) (eC (.int 1))))
 (sRet (a0h 2 a0N (a0b (eV 1) (a0b (eV 2) aNil)))) sNx)
 (rSeq (rIf (tOf (eBin gEqD (eV 0) (eC (.int 2))))
 (rE (a2v 2 a2Q (a0b (eV 1) (a0b (eC (.int 0)) aNil)))) rNo) (sIf (tOf (eBin gEqD (eV 0) (eC (.int 2))))
 (sRet (a0h 2 a1w (a0b (eV 1) (a0b (eC (.int 0)) aNil)))) sNx)
 (rE (a2v 2 a17 (a0b (eV 1) (a0b (a1E (fSeq (eV 1)) [2] 1 (gN 0) a2d (eV 1)) aNil)))))))
noncomputable def a0y:List D->Option Str:=runX a2W 3
theorem W_law_asked:Wo (a0z [a0,a1,a2]) Q↔Wo (a1t [.sh a0,.sh a1,.sh a2]) (endQ Q):=a0o
noncomputable abbrev a5M:Stmt:=top 55
noncomputable abbrev a4U{α:Type}(Y:Str->Stmt->List Str->α):α:=Y "_law_told" a5M ["deed","forms","x"]
noncomputable def a34:SF:=
 (sSeq (a0x 3 (eC .non))
 (sSeq (a0x 4 (eLst aNil))
 (sSeq (sTry 5 (b4E "NotOffered" (b4E "TooMany" b9H)) (a0x 3 (a0h 3 a0z (a0b (eV 0) (a0b (eV 1) (a0b (eV 2) aNil)))))
 (rE (a2v 3 a0y (a0b (eV 0) (a0b (eV 1) (a0b (eV 2) aNil)))))
 (a0x 4 (eLst (a0b (eIsX (a74 "NotOffered" true (a74 "TooMany" true b3N)) (eV 5)) (a0b (eIsX (a74 "NotOffered" false (a74 "TooMany" true b3N)) (eV 5)) (a0b (eIsX (a74 "NotOffered" true (a74 "TooMany" false b3N)) (eV 5)) aNil))))))
 (sSeq (sIf (tOf (eBin gEqD (eV 4) (eLst aNil)))
 (sRet (eTup (a0b (eC (.str "told")) (a0b (eV 3) aNil)))) sNx)
 (sSeq (sIf (tOf (eBin gEqD (eV 4) (eLst (a0b (eC (.bl true)) (a0b (eC (.bl true)) (a0b (eC (.bl false)) aNil))))))
 (sRet (eTup (a0b (eC (.str "many")) (a0b (eC .non) aNil)))) sNx)
 (sSeq (sIf (tOf (eBin gEqD (eV 4) (eLst (a0b (eC (.bl true)) (a0b (eC (.bl false)) (a0b (eC (.bl true)) aNil))))))
 (sRet (eTup (a0b (eC (.str "not")) (a0b (eC .non) aNil)))) sNx)
 (sRet (eTup (a0b (eC (.str "other")) (a0b (eC .non) aNil))))))))))
noncomputable def a0B:List D->Option Sl:=runF a34 6
theorem W_law_told:Wo (a0B [a0,a1,a2]) Q↔Wo (a34 [.sh a0,.sh a1,.sh a2,.no,.no,.no]) (endQ Q):=a0o
noncomputable abbrev a5K:Stmt:=top 19
noncomputable abbrev a4S{α:Type}(Y:Str->Stmt->List Str->α):α:=Y "place_of" a5K ["form","x"]
noncomputable def a51:En->Nat:=λ_=>1000000
noncomputable def a5a:SF:=
 (sSeq (a0x 2 (eC (.int 0)))
 (sSeq (a0x 3 (eLen (bV 0)))
 (sSeq (a8d a51 (tOf (eBin gLt (eV 2) (eV 3)))
 (sSeq (a0x 4 (eBin gDiv (eBin gAdd (eV 2) (eV 3)) (eC (.int 2))))
 (sIf (tOf (eBin gLt (eIx (bOf (eIx (bV 0) (eV 4))) (eC (.int 1))) (eV 1)))
 (a0x 2 (eBin gAdd (eV 4) (eC (.int 1)))) (a0x 3 (eV 4)))))
 (sRet (eV 2)))))
noncomputable def a18:List D->Option Sl:=runF a5a 5
theorem W_place_of:Wo (a18 [a0,a1]) Q↔Wo (a5a [.sh a0,.sh a1,.no,.no,.no]) (endQ Q):=a0o
noncomputable abbrev a6L:Stmt:=top 18
noncomputable abbrev a5G{α:Type}(Y:Str->Stmt->List Str->α):α:=Y "cost_at" a6L ["form","x"]
noncomputable def a6q:SF:=
 (sSeq (a0x 2 (a0h 2 a18 (a0b (eV 0) (a0b (eV 1) aNil))))
 (sSeq (sIf (tOrF (tOf (eBin gEqD (eV 2) (eLen (bV 0)))) (tOf (eBin gLt (eV 1) (eIx (bOf (eIx (bV 0) (eV 2))) (eC (.int 0))))))
 (sRet (eC .non)) sNx)
 (sRet (a0h 2 a1m (a0b (eIx (bV 0) (eV 2)) (a0b (eV 1) aNil))))))
noncomputable def a2T:List D->Option Sl:=runF a6q 3
theorem W_cost_at:Wo (a2T [a0,a1]) Q↔Wo (a6q [.sh a0,.sh a1,.no]) (endQ Q):=a0o
noncomputable abbrev a3x:Stmt:=top 56
noncomputable abbrev a2S{α:Type}(Y:Str->Stmt->List Str->α):α:=Y "_law_line_good" a3x ["forms","first","step","reach","cells"]
noncomputable def a20:SF:=
 (sSeq (a0x 5 (a0h 1 a0v (a0b (eV 0) aNil)))
 (sSeq (a0x 6 (eLen (bV 0)))
 (sSeq (sFor (eV 4) (gN 7)
 (sSeq (a0x 8 (eBin gSub (eBin gMod (eV 7) (eBin gAdd (eBin gMul (eC (.int 2)) (eV 3)) (eC (.int 5)))) (eC (.int 2))))
 (sSeq (a0x 9 (eBin gAdd (eBin gMul (eV 1) (eV 6)) (eV 8)))
 (sSeq (a0x 10 (a0h 2 a2T (a0b (eV 5) (a0b (eV 9) aNil))))
 (sSeq (a0x 11 (a0h 3 a0B (a0b (eC (.int 1)) (a0b (eV 0) (a0b (eV 9) aNil)))))
 (sIf (tOrF (tOf (eBin gEqD (eBin gMod (eV 8) (eC (.int 2))) (eC (.int 1)))) (tOrF (tOf (eBin gLt (eV 8) (eC (.int 0)))) (tOf (eBin gGt (eV 8) (eBin gMul (eC (.int 2)) (eV 3))))))
 (sIf (tOrF (tOf (eBin b4H (eV 10) (eC .non))) (tOf (eBin gNeD (eIx (bV 11) (eC (.int 0))) (eC (.str "not")))))
 (sRet (eC (.bl false))) sNx) (sIf (tOrF (tOf (eBin gNeD (eV 10) (eBin gAdd (eBin gMul (eC (.int 7)) (eV 6)) (eBin gMul (eV 2) (eV 8))))) (tOrF (tOf (eBin gNeD (eIx (bV 11) (eC (.int 0))) (eC (.str "told")))) (tOf (eBin gNeD (eSum (bOf (eIx (bV 11) (eC (.int 1))))) (eV 9)))))
 (sRet (eC (.bl false))) sNx)))))))
 (sRet (eC (.bl true))))))
noncomputable def a1j:List D->Option Sl:=runF a20 12
theorem W_law_line_good:Wo (a1j [a0,a1,a2,a3,a4]) Q↔Wo (a20 [.sh a0,.sh a1,.sh a2,.sh a3,.sh a4,.no,.no,.no,.no,.no,.no,.no]) (endQ Q):=a0o
noncomputable abbrev a4s:Stmt:=top 53
noncomputable abbrev a3D{α:Type}(Y:Str->Stmt->List Str->α):α:=Y "_law_seller" a4s ["first","step","many"]
noncomputable def a3U:SF:=
 (sRet (a0h 1 a2h (a0b (a1E (fRng b09 (a0b (eV 2) aNil)) [0,1] 1 (gN 0) a2d (eTup (a0b (eBin gAdd (eV 1) (eBin gMul (eC (.int 2)) (eV 0))) (a0b (eBin gAdd (eV 1) (eBin gMul (eC (.int 2)) (eV 0))) (a0b (eBin gAdd (eC (.int 7)) (eBin gMul (eBin gMul (eV 2) (eC (.int 2))) (eV 0))) (a0b (eC (.int 0)) aNil)))))) aNil)))
noncomputable def a1x:List D->Option Sl:=runF a3U 3
theorem W_law_seller:Wo (a1x [a0,a1,a2]) Q↔Wo (a3U [.sh a0,.sh a1,.sh a2]) (endQ Q):=a0o
noncomputable abbrev a37:Stmt:=top 50
noncomputable abbrev a3j{α:Type}(Y:Str->Stmt->List Str->α):α:=Y "_law_cell_at" a37 ["script","k"]
noncomputable def a3u:SF:=
 (sSeq (sIf (tOf (eBin gLt (eV 1) (eLen (bV 0))))
 (sRet (eIx (bV 0) (eV 1))) sNx)
 (sRet (eC (.int 0))))
noncomputable def a0T:List D->Option Sl:=runF a3u 2
theorem W_law_cell_at:Wo (a0T [a0,a1]) Q↔Wo (a3u [.sh a0,.sh a1]) (endQ Q):=a0o
noncomputable abbrev a8a:Stmt:=top 57
noncomputable abbrev t_law{α:Type}(Y:Str->Stmt->List Str->α):α:=Y "law" a8a ["script"]
noncomputable def b8A:SF:=
 (sSeq (a0x 1 (a0h 2 a0T (a0b (eV 0) (a0b (eC (.int 0)) aNil))))
 (sSeq (a0x 2 (eBin gSub (eBin gMod (a0h 2 a0T (a0b (eV 0) (a0b (eC (.int 1)) aNil))) (eBin gPow (eC (.int 10)) (eC (.int 46)))) (eBin gMul (eC (.int 5)) (eBin gPow (eC (.int 10)) (eC (.int 45))))))
 (sSeq (a0x 3 (eBin gSub (eBin gMod (a0h 2 a0T (a0b (eV 0) (a0b (eC (.int 2)) aNil))) (eBin gPow (eC (.int 10)) (eC (.int 30)))) (eBin gMul (eC (.int 5)) (eBin gPow (eC (.int 10)) (eC (.int 29))))))
 (sSeq (a0x 4 (eLst (a0b (eLst (a0b (eC (.int 10)) (a0b (eC (.int 10)) aNil))) (a0b (eLst (a0b (eC (.int 5)) (a0b (eC (.int 5)) (a0b (eC (.int 4)) aNil)))) (a0b (eLst (a0b (eC (.int 2)) (a0b (eC (.int 2)) (a0b (eC (.int 5)) (a0b (eC (.int 5)) aNil))))) (a0b (eLst (a0b (eC (.int 101)) aNil)) (a0b (eLst (a0b (eC (.int 2)) (a0b (eC (.int 51)) aNil))) (a0b (eLst (a0b (eC (.int 5)) (a0b (eC (.int 5)) (a0b (eC (.int 5)) aNil)))) (a0b (eLst (a0b (eC (.int 2)) (a0b (eC (.int 2)) (a0b (eC (.int 3)) (a0b (eC (.int 3)) (a0b (eC (.int 3)) aNil)))))) (a0b (eBin b4I (eLst (a0b (eC (.int 40)) aNil)) (eC (.int 6))) (a0b (eLst (a0b (eC (.int 11)) (a0b (eC (.int 11)) (a0b (eC (.int 0)) aNil)))) aNil)))))))))))
 (sSeq (a0x 5 (eIx (bV 4) (eBin gMod (eV 1) (eLen (bV 4)))))
 (sSeq (a0x 6 (a1E (fSeq (eV 5)) [2,3] 1 (gN 0) a2d (a0h 3 a1x (a0b (eV 1) (a0b (eV 2) (a0b (eV 0) aNil))))))
 (sSeq (sIf (tOf (eBin gIn (eC (.int 0)) (eV 5)))
 (sSeq (sIf (tOrF (tOf (eBin gNeD (a0h 3 a0B (a0b (eC (.int 0)) (a0b (eV 6) (a0b (eC (.int 0)) aNil)))) (eTup (a0b (eC (.str "told")) (a0b (eTup aNil) aNil))))) (a75 (tTru (eAll (bOf (a1E (fRng b09 (a0b (eC (.int 3)) aNil)) [6] 1 (gN 0) a2d (eBin gEqD (a0h 2 a1w (a0b (eV 1) (a0b (eV 0) aNil))) (eTup aNil))))))))
 (sRet (eC (.bl false))) sNx)
 (sRet (eAnd (eBin gEqD (a0h 3 a0B (a0b (eC (.int 3)) (a0b (eV 6) (a0b (eV 2) aNil)))) (eTup (a0b (eC (.str "told")) (a0b (eTup aNil) aNil)))) (eBin gEqD (eIx (bOf (a0h 3 a0B (a0b (eC (.int 1)) (a0b (eV 6) (a0b (eV 2) aNil))))) (eC (.int 0))) (eC (.str "not")))))) sNx)
 (sSeq (sIf (tOf (eBin gGt (eBin gMod (eV 1) (eLen (bV 4))) (eC (.int 2))))
 (sSeq (a0x 8 (eBin gSub (eBin gSub (eV 2) (eC (.int 1))) (eBin gMod (eV 1) (eBin gPow (eC (.int 10)) (eC (.int 9))))))
 (sSeq (sIf (a75 (tTru (eAll (bOf (a1E (fRng b09 (a0b (eC (.int 4)) aNil)) [6,8] 1 (gN 0) a2d (eBin gEqD (eIx (bOf (a0h 3 a0B (a0b (eV 0) (a0b (eV 1) (a0b (eV 2) aNil))))) (eC (.int 0))) (eC (.str "many"))))))))
 (sRet (eC (.bl false))) sNx)
 (sSeq (a0x 9 (a1E (fSeq (eV 5)) [2] 1 (gN 0) a2d (eBin gAdd (eV 1) (eBin gMul (eC (.int 2)) (eBin gSub (eV 0) (eC (.int 1)))))))
 (sSeq (a0x 10 (eTup (a0b (eSum (bV 9)) (a0b (eSum (bV 9)) (a0b (eBin gAdd (eBin gMul (eC (.int 7)) (eLen (bV 5))) (eBin gMul (eBin gMul (eV 3) (eC (.int 2))) (eBin gSub (eSum (bV 5)) (eLen (bV 5))))) (a0b (eC (.int 0)) aNil))))))
 (sRet (eBin gEqD (a0h 2 a0Q (a0b (eV 6) (a0b (eV 9) aNil))) (eTup (a0b (eV 10) aNil)))))))) sNx)
 (sSeq (a0x 7 (eBin gSub (eSum (bV 5)) (eLen (bV 5))))
 (sRet (a0h 5 a1j (a0b (eV 6) (a0b (eV 2) (a0b (eV 3) (a0b (eV 7) (a0b (eBin gAdd (eLst (a0b (eC (.int 0)) aNil)) (eSl (bV 0) (pSo (eC (.int 3))) (pSo (eC (.int 12))))) aNil))))))))))))))))
noncomputable def a7c:List D->Option Sl:=runF b8A 11
theorem W_law:Wo (a7c [a0]) Q↔Wo (b8A [.sh a0,.no,.no,.no,.no,.no,.no,.no,.no,.no,.no]) (endQ Q):=a0o
structure Tops(K:c0L)(mg:Str->Option Value)(v0i v0j v0k:Addr):Prop where
 v0V:Cl K mg "NotOffered" v0i
 v0W:Cl K mg "OfferError" v0j
 v0X:Cl K mg "TooMany" v0k
 v0p:c3K K (.ref v0i) (.ref v0j)=some true
 v0q:c3K K (.ref v0k) (.ref v0j)=some true
 v1f:c1U K (.ref v0i) (.ref v0i)=some true
 v1g:c1U K (.ref v0i) (.ref v0k)=some false
 v1h:c1U K (.ref v0k) (.ref v0i)=some false
 v1i:c1U K (.ref v0k) (.ref v0k)=some true
 v1n:c1U K (.ref v0i) (.type "ValueError")=some true
 v1o:c1U K (.ref v0k) (.type "ValueError")=some true
 v1x:ExcC K v0i
 v1y:ExcC K v0k
theorem tcst{X X':Cx}{v0i v0j v0k:Addr}(e3:X'.K=X.K)(e4:X'.mg=X.mg)(h:Tops X.K X.mg v0i v0j v0k):Tops X'.K X'.mg v0i v0j v0k:=by rw [e3,e4];exact h
section
variable {P:Program}{w:World}{K:c0L}{mg:Str->Option Value}{base:Heap}
variable {v0i v0j v0k:Addr}(TT:Tops K mg v0i v0j v0k)
variable (z_max:mg "max" = none)
variable (z_min:mg "min" = none)
variable (z_tuple:mg "tuple" = none)
variable (z_len:mg "len" = none)
variable (z_sorted:mg "sorted" = none)
variable (z_sum:mg "sum" = none)
variable (z_MOST_PICKS:GcI mg "MOST_PICKS" 100)
variable (z_zip:mg "zip" = none)
variable (z_range:mg "range" = none)
variable (z_enumerate:mg "enumerate" = none)
variable (z_isinstance:mg "isinstance" = none)
variable (z_ValueError:mg "ValueError" = none)
variable (z_all:mg "all" = none)
theorem a8s(D':a4d (Def K mg) a d):a4d (Oz P w K mg base) 1 a0Z:=fn_z (N:=["row"]) D' λX r h=>by
 cases r
 exact (a0f (a0k (a6V (a00 h.u8) (a0j (h.bv 0) a0c) (a0j (h.bv 0) a0c))))
variable (a1O:a4d (Oz P w K mg base) 1 a0Z)
include a1O in
theorem b4f(D':a9k (Def K mg) a d):a9k (Oz P w K mg base) 2 a2f:=fn_z (N:=["row"]) D' λX r h=>by
 cases r
 exact (a0f (a0k (a5o (a2u (h.cl a1O (a0a (h.v 0) a0d))) (a0C (a0a (a0j (h.bv 0) a0c) (a0a (a0j (h.bv 0) a0c) (a0a (a0j (h.bv 0) a0c) (a0a a0c a0d))))) (h.v 0))))
variable (a3Q:a9k (Oz P w K mg base) 2 a2f)
theorem b1g(D':a5E (Def K mg) a d):a5E (Oz P w K mg base) 1 a1J:=fn_z (N:=["line","low","x"]) D' λX r h=>by
 cases r
 exact (a0f (a0k (a0i a01 (a0j (h.bv 0) a0c) (a0i a2j (a0j (h.bv 0) a0c) (a0i a2E (h.v 2) (h.v 1))))))
variable (a12:a5E (Oz P w K mg base) 1 a1J)
include a1O a3Q a12 in
theorem a6D(D':a3k (Def K mg) a d):a3k (Oz P w K mg base) 3 a1M:=fn_z (N:=["ahead","row","step","rest"]) D' λX r h=>by
 cases r
 exact (a0e (h.setF 2 (a5o (a2u (h.cl a1O (a0a (h.v 0) a0d))) (a0i a2E (a0j (h.bv 1) a0c) (a0j (h.bv 0) a0c)) (a0j (h.bv 0) a0c))) (a0e (a0M (a0m (a5i h.u8) (a0j (h.bv 1) a0c) (h.cl a12 (a0a (a0C (a0a (a0j (h.bv 0) a0c) (a0a (h.v 2) a0d))) (a0a (a0j (h.bv 0) a0c) (a0a (a0j (h.bv 1) a0c) a0d))))) (a0f (a0k (a0F (a0a (h.v 0) (a0a (h.cl a3Q (a0a (h.v 1) a0d)) a0d))))) a0r) (a0e (a0M (tv_w (a70 (a2u (h.cl a1O (a0a (h.v 1) a0d))) (a6F (a0m (a00 h.u8) (a0j (h.bv 1) a0c) (h.v 2))))) (a0f (a0k (a0F (a0a (a0C (a0a (a0j (h.bv 0) a0c) (a0a (a0j (h.bv 1) a0c) (a0a (a0j (h.bv 0) a0c) (a0a (h.v 2) a0d))))) a0d)))) a0r) (a0e (h.setF 3 (h.cl a3Q (a0a (a0C (a0a (a0i a01 (a0j (h.bv 1) a0c) a0c) (a0a (a0j (h.bv 1) a0c) (a0a (a0i a01 (a0j (h.bv 1) a0c) (a0j (h.bv 1) a0c)) (a0a (a0j (h.bv 1) a0c) a0d))))) a0d))) (a0f (a0k (a0F (a0a (a0C (a0a (a0j (h.bv 0) a0c) (a0a (a0j (h.bv 1) a0c) (a0a (a0j (h.bv 0) a0c) (a0a (h.v 2) a0d))))) (a0a (h.v 3) a0d)))))))))
variable (a2O:a3k (Oz P w K mg base) 3 a1M)
include z_tuple a3Q a2O in
theorem b6L(D':b1O (Def K mg) a d):b1O (Oz P w K mg base) 4 a2h:=fn_z (N:=["rows","made","row","ahead"]) D' λX r h=>by
 cases r
 exact (a0e (h.set 1 (a0F a0d)) (a0e (a3w h.own h.calm (h.v 0) (h.tg 2) (a0f (a0M (tv_w (a99 (b1H (h.bv 1)) (a62 (a0m (a00 h.u8) (a0i a01 (a0j (a2V (a0j (h.bv 1) (a5k a0c))) a0c) a0c) (a0j (h.bv 2) a0c))))) (a0e (h.pop 3 1) (a0f (h.ext 1 (h.cl a2O (a0a (h.v 3) (a0a (h.v 2) a0d)))))) (a0f (h.app 1 (h.cl a3Q (a0a (h.v 2) a0d))))))) (a0f (a0k (b0K h.g z_tuple (h.bv 1))))))
variable (a2t:b1O (Oz P w K mg base) 4 a2h)
include a12 in
theorem a7e(D':a3B (Def K mg) a d):a3B (Oz P w K mg base) 2 a0P:=fn_z (N:=["line","low","first","last"]) D' λX r h=>by
 cases r
 exact (a0f (a0k (a0C (a0a (h.v 2) (a0a (h.v 3) (a0a (h.cl a12 (a0a (h.v 0) (a0a (h.v 1) (a0a (h.v 2) a0d)))) (a0a (a0j (h.bv 0) a0c) a0d)))))))
variable (a1N:a3B (Oz P w K mg base) 2 a0P)
theorem a5V(D':a26 (Def K mg) a d):a26 (Oz P w K mg base) 1 a0Y:=fn_z (N:=["first","last"]) D' λX r h=>by
 cases r
 exact (a0f (a0k (a5o (a0m b1j (h.v 0) (h.v 1)) (a0C (a0a (h.v 0) (a0a (h.v 1) a0d))) a4E)))
variable (a11:a26 (Oz P w K mg base) 1 a0Y)
theorem ok_up(D':t_up (Def K mg) a d):t_up (Oz P w K mg base) 1 a8j:=fn_z (N:=["a","b"]) D' λX r h=>by
 cases r
 exact (a0f (a0k (a5k (a0i a3J (a5k (h.v 0)) (h.v 1)))))
variable (O_up:t_up (Oz P w K mg base) 1 a8j)
theorem b6M(D':b1P (Def K mg) a d):b1P (Oz P w K mg base) 1 a4w:=fn_z (N:=["a","b"]) D' λX r h=>by
 cases r
 exact (a0f (a0k (a0i a3J (h.v 0) (h.v 1))))
variable (b02:b1P (Oz P w K mg base) 1 a4w)
include z_max z_min a11 O_up b02 in
theorem a8p(D':a4b (Def K mg) a d):a4b (Oz P w K mg base) 2 a2g:=fn_z (N:=["one","other","low","high","above","slope"]) D' λX r h=>by
 cases r
 exact (a0e (h.setF 4 (a0i a2E (a0j (h.bv 0) a0c) (a0j (h.bv 1) a0c))) (a0e (h.setF 5 (a0i a2E (a0j (h.bv 0) a0c) (a0j (h.bv 1) a0c))) (a0e (a0M (a0m a7k (h.v 5) a0c) (a0f (a0k (h.cl a11 (a0a (h.v 2) (a0a (a3n (a9V h.calm) h.g z_min (by decide +kernel) (a0a (h.v 3) (a0a (a0i a01 (h.v 2) (h.cl b02 (a0a (a5k (h.v 4)) (a0a (h.v 5) a0d)))) a0d))) a0d))))) a0r) (a0e (a0M (a0m a27 (h.v 5) a0c) (a0f (a0k (h.cl a11 (a0a (a3n (a7J h.calm) h.g z_max (by decide +kernel) (a0a (h.v 2) (a0a (a0i a01 (h.v 2) (h.cl O_up (a0a (h.v 4) (a0a (a5k (h.v 5)) a0d)))) a0d))) (a0a (h.v 3) a0d))))) a0r) (a0f (a0k (a5o (a0m a7k (h.v 4) a0c) a4E (a0C (a0a (h.v 2) (a0a (h.v 3) a0d))))))))))
variable (a3p:a4b (Oz P w K mg base) 2 a2g)
include a1N a3p in
theorem a7g(D':a3C (Def K mg) a d):a3C (Oz P w K mg base) 3 a1Z:=fn_z (N:=["one","other","low","high","span","rows"]) D' λX r h=>by
 cases r
 exact (a0e (h.setF 4 (h.cl a3p (a0a (h.v 0) (a0a (h.v 1) (a0a (h.v 2) (a0a (h.v 3) a0d)))))) (a0e (a0M (a0m b9o (h.v 4) a4E) (a0f (a0k (a0F (a0a (h.cl a1N (a0a (h.v 1) (a0a (h.v 2) (a0a (h.v 2) (a0a (h.v 3) a0d))))) a0d)))) a0r) (a0e (h.set 5 (a0F a0d)) (a0e (a0M (a0m a27 (h.v 2) (a0j (h.bv 4) a0c)) (a0f (h.app 5 (h.cl a1N (a0a (h.v 1) (a0a (h.v 2) (a0a (h.v 2) (a0a (a0i a2E (a0j (h.bv 4) a0c) a0c) a0d))))))) a0r) (a0e (h.app 5 (h.cl a1N (a0a (h.v 0) (a0a (h.v 2) (a0a (a0j (h.bv 4) a0c) (a0a (a0j (h.bv 4) a0c) a0d)))))) (a0e (a0M (a0m a27 (a0j (h.bv 4) a0c) (h.v 3)) (a0f (h.app 5 (h.cl a1N (a0a (h.v 1) (a0a (h.v 2) (a0a (a0i a01 (a0j (h.bv 4) a0c) a0c) (a0a (h.v 3) a0d))))))) a0r) (a0f (h.retO 5))))))))
variable (a24:a3C (Oz P w K mg base) 3 a1Z)
include a12 in
theorem a9u(D':a4V (Def K mg) a d):a4V (Oz P w K mg base) 2 a1m:=fn_z (N:=["row","x"]) D' λX r h=>by
 cases r
 exact (a0f (a0k (h.cl a12 (a0a (a0C (a0a (a0j (h.bv 0) a0c) (a0a (a0j (h.bv 0) a0c) a0d))) (a0a (a0j (h.bv 0) a0c) (a0a (h.v 1) a0d))))))
variable (a0R:a4V (Oz P w K mg base) 2 a1m)
include a0R in
theorem a8q(D':a4c (Def K mg) a d):a4c (Oz P w K mg base) 3 a1Q:=fn_z (N:=["row","low"]) D' λX r h=>by
 cases r
 exact (a0f (a0k (a0C (a0a (h.cl a0R (a0a (h.v 0) (a0a (h.v 1) a0d))) (a0a (a0j (h.bv 0) a0c) a0d)))))
variable (a2Y:a4c (Oz P w K mg base) 3 a1Q)
include z_max z_min z_len a2Y in
theorem b9l(D':b6i (Def K mg) a d):b6i (Oz P w K mg base) 4 a4Y:=fn_z (N:=["one","other","parts","first","second","mine","yours","low","high"]) D' λX r h=>by
 cases r
 exact (a0e (h.set 2 (a0F a0d)) (a0e (h.setF 3 a0c) (a0e (h.setF 4 a0c) (a0e (a65 b5R h.own (tv_w (a99 (a0m a27 (h.v 3) (a0X h.g z_len (h.bv 0))) (a62 (a0m a27 (h.v 4) (a0X h.g z_len (h.bv 1)))))) (a0e (h.setF 5 (a0j (h.bv 0) (h.v 3))) (a0e (h.setF 6 (a0j (h.bv 1) (h.v 4))) (a0e (h.setF 7 (a3n (a7J h.calm) h.g z_max (by decide +kernel) (a0a (a0j (h.bv 5) a0c) (a0a (a0j (h.bv 6) a0c) a0d)))) (a0e (h.setF 8 (a3n (a9V h.calm) h.g z_min (by decide +kernel) (a0a (a0j (h.bv 5) a0c) (a0a (a0j (h.bv 6) a0c) a0d)))) (a0e (a0M (a0m b1j (h.v 7) (h.v 8)) (a0f (h.app 2 (a0C (a0a (h.v 7) (a0a (h.v 8) (a0a (h.cl a2Y (a0a (h.v 5) (a0a (h.v 7) a0d))) (a0a (h.cl a2Y (a0a (h.v 6) (a0a (h.v 7) a0d))) a0d))))))) a0r) (a0f (a0M (a0m a27 (a0j (h.bv 5) a0c) (a0j (h.bv 6) a0c)) (a0f (h.aug 3 a0c)) (a0f (h.aug 4 a0c)))))))))) (a0f (h.retO 2))))))
variable (a93:b6i (Oz P w K mg base) 4 a4Y)
include a24 a93 in
theorem a6s(D':a3i (Def K mg) a d):a3i (Oz P w K mg base) 5 a1K:=fn_z (N:=["one","other","rows","low","high","mine","yours"]) D' λX r h=>by
 cases r
 exact (a0e (h.set 2 (a0F a0d)) (a0e (a3w h.own h.calm (h.cl a93 (a0a (h.v 0) (a0a (h.v 1) a0d))) (a6a (n:=4) h.calm (a0W (h.tg 3) (a0W (h.tg 4) (a0W (h.tg 5) (a0W (h.tg 6) a4i))))) (a0f (h.ext 2 (h.cl a24 (a0a (h.v 5) (a0a (h.v 6) (a0a (h.v 3) (a0a (h.v 4) a0d)))))))) (a0f (h.retO 2))))
variable (a2N:a3i (Oz P w K mg base) 5 a1K)
include a0R in
theorem b9n(D':b6j (Def K mg) a d):b6j (Oz P w K mg base) 3 a4e:=fn_z (N:=["row","low","high"]) D' λX r h=>by
 cases r
 exact (a0f (a0k (a0C (a0a (h.v 1) (a0a (h.v 2) (a0a (h.cl a0R (a0a (h.v 0) (a0a (h.v 1) a0d))) (a0a (a0j (h.bv 0) a0c) a0d)))))))
variable (a9d:b6j (Oz P w K mg base) 3 a4e)
include z_max z_len a9d in
theorem b1f(D':a5D (Def K mg) a d):a5D (Oz P w K mg base) 4 a2A:=fn_z (N:=["form","spans","rows","place","row","low"]) D' λX r h=>by
 cases r
 exact (a0e (h.set 2 (a0F a0d)) (a0e (h.setF 3 a0c) (a0e (a3w h.own h.calm (h.v 0) (h.tg 4) (a0e (h.setF 5 (a0j (h.bv 4) a0c)) (a0e (a65 a6R h.own (tv_w (a99 (a0m a27 (h.v 3) (a0X h.g z_len (h.bv 1))) (a62 (a0m b1j (a0j (a2V (a0j (h.bv 1) (h.v 3))) a0c) (a0j (h.bv 4) a0c))))) (a0e (a0M (a0m a27 (h.v 5) (a0j (a2V (a0j (h.bv 1) (h.v 3))) a0c)) (a0f (h.app 2 (h.cl a9d (a0a (h.v 4) (a0a (h.v 5) (a0a (a0i a2E (a0j (a2V (a0j (h.bv 1) (h.v 3))) a0c) a0c) a0d)))))) a0r) (a0e (h.setF 5 (a3n (a7J h.calm) h.g z_max (by decide +kernel) (a0a (h.v 5) (a0a (a0i a01 (a0j (a2V (a0j (h.bv 1) (h.v 3))) a0c) a0c) a0d)))) (a0e (a0M (a0m a7k (a0j (a2V (a0j (h.bv 1) (h.v 3))) a0c) (a0j (h.bv 4) a0c)) (a0f b3O) a0r) (a0f (h.aug 3 a0c)))))) (a0f (a0M (a0m b1j (h.v 5) (a0j (h.bv 4) a0c)) (a0f (h.app 2 (h.cl a9d (a0a (h.v 4) (a0a (h.v 5) (a0a (a0j (h.bv 4) a0c) a0d)))))) a0r))))) (a0f (h.retO 2)))))
variable (a3R:a5D (Oz P w K mg base) 4 a2A)
include z_tuple in
theorem a9r(D':a4R (Def K mg) a d):a4R (Oz P w K mg base) 1 a1H:=fn_z (N:=["form","spans","row","ahead"]) D' λX r h=>by
 cases r
 exact (a0e (h.set 1 (a0F a0d)) (a0e (a3w h.own h.calm (h.v 0) (h.tg 2) (a0f (a0M (tv_w (a99 (b1H (h.bv 1)) (a62 (a0m (a00 h.u8) (a0i a01 (a0j (a2V (a0j (h.bv 1) (a5k a0c))) a0c) a0c) (a0j (h.bv 2) a0c))))) (a0e (h.pop 3 1) (a0f (h.app 1 (a0C (a0a (a0j (h.bv 3) a0c) (a0a (a0j (h.bv 2) a0c) a0d)))))) (a0f (h.app 1 (a0C (a0a (a0j (h.bv 2) a0c) (a0a (a0j (h.bv 2) a0c) a0d)))))))) (a0f (a0k (b0K h.g z_tuple (h.bv 1))))))
variable (a3h:a4R (Oz P w K mg base) 1 a1H)
include z_sorted a2t a2N a3R a3h in
theorem b4h(D':a9l (Def K mg) a d):a9l (Oz P w K mg base) 6 a1i:=fn_z (N:=["one","other","alone"]) D' λX r h=>by
 cases r
 exact (a0e (h.setF 2 (a0i a01 (h.cl a3R (a0a (h.v 0) (a0a (h.cl a3h (a0a (h.v 1) a0d)) a0d))) (h.cl a3R (a0a (h.v 1) (a0a (h.cl a3h (a0a (h.v 0) a0d)) a0d))))) (a0f (a0k (h.cl a2t (a0a (b2X h.g z_sorted (a0i a01 (h.cl a2N (a0a (h.v 0) (a0a (h.v 1) a0d))) (h.v 2))) a0d)))))
variable (a0L:a9l (Oz P w K mg base) 6 a1i)
theorem a6B(D':a0p (Def K mg) a d):a0p (Oz P w K mg base) 1 a1L:=b6G D'
variable (O_least_of__0:a0p (Oz P w K mg base) 1 a1L)
include z_len a0L O_least_of__0 in
theorem a6A(D':a0p (Def K mg) a d):a0p (Oz P w K mg base) 7 a1h:=fn_z (N:=["forms","half"]) D' λX r h=>by
 cases r
 exact (a0e (a0M (a0m a27 (a0X h.g z_len (h.bv 0)) a0c) (a0f (a0k (a5o (a2u (h.v 0)) (a0j (h.bv 0) a0c) (a0C a0d)))) a0r) (a0e (h.setF 1 (a0i a3J (a0X h.g z_len (h.bv 0)) a0c)) (a0f (a0k (h.cl a0L (a0a (h.cl O_least_of__0 (a0a (a04 (h.bv 0) a1W (a1B (h.v 1))) a0d)) (a0a (h.cl O_least_of__0 (a0a (a04 (h.bv 0) (a1B (h.v 1)) a1W) a0d)) a0d)))))))
variable (a2r:a0p (Oz P w K mg base) 7 a1h)
include z_len a0L a2r in
theorem a6z(D':a0p (Def K mg) a d):a0p (Oz P w K mg base) 8 a1g:=fn_z (N:=["forms","half"]) D' λX r h=>by
 cases r
 exact (a0e (a0M (a0m a27 (a0X h.g z_len (h.bv 0)) a0c) (a0f (a0k (a5o (a2u (h.v 0)) (a0j (h.bv 0) a0c) (a0C a0d)))) a0r) (a0e (h.setF 1 (a0i a3J (a0X h.g z_len (h.bv 0)) a0c)) (a0f (a0k (h.cl a0L (a0a (h.cl a2r (a0a (a04 (h.bv 0) a1W (a1B (h.v 1))) a0d)) (a0a (h.cl a2r (a0a (a04 (h.bv 0) (a1B (h.v 1)) a1W) a0d)) a0d)))))))
variable (a2q:a0p (Oz P w K mg base) 8 a1g)
include z_len a0L a2q in
theorem a6y(D':a0p (Def K mg) a d):a0p (Oz P w K mg base) 9 a1f:=fn_z (N:=["forms","half"]) D' λX r h=>by
 cases r
 exact (a0e (a0M (a0m a27 (a0X h.g z_len (h.bv 0)) a0c) (a0f (a0k (a5o (a2u (h.v 0)) (a0j (h.bv 0) a0c) (a0C a0d)))) a0r) (a0e (h.setF 1 (a0i a3J (a0X h.g z_len (h.bv 0)) a0c)) (a0f (a0k (h.cl a0L (a0a (h.cl a2q (a0a (a04 (h.bv 0) a1W (a1B (h.v 1))) a0d)) (a0a (h.cl a2q (a0a (a04 (h.bv 0) (a1B (h.v 1)) a1W) a0d)) a0d)))))))
variable (a2p:a0p (Oz P w K mg base) 9 a1f)
include z_len a0L a2p in
theorem a6x(D':a0p (Def K mg) a d):a0p (Oz P w K mg base) 10 a1e:=fn_z (N:=["forms","half"]) D' λX r h=>by
 cases r
 exact (a0e (a0M (a0m a27 (a0X h.g z_len (h.bv 0)) a0c) (a0f (a0k (a5o (a2u (h.v 0)) (a0j (h.bv 0) a0c) (a0C a0d)))) a0r) (a0e (h.setF 1 (a0i a3J (a0X h.g z_len (h.bv 0)) a0c)) (a0f (a0k (h.cl a0L (a0a (h.cl a2p (a0a (a04 (h.bv 0) a1W (a1B (h.v 1))) a0d)) (a0a (h.cl a2p (a0a (a04 (h.bv 0) (a1B (h.v 1)) a1W) a0d)) a0d)))))))
variable (a2o:a0p (Oz P w K mg base) 10 a1e)
include z_len a0L a2o in
theorem a6w(D':a0p (Def K mg) a d):a0p (Oz P w K mg base) 11 a1d:=fn_z (N:=["forms","half"]) D' λX r h=>by
 cases r
 exact (a0e (a0M (a0m a27 (a0X h.g z_len (h.bv 0)) a0c) (a0f (a0k (a5o (a2u (h.v 0)) (a0j (h.bv 0) a0c) (a0C a0d)))) a0r) (a0e (h.setF 1 (a0i a3J (a0X h.g z_len (h.bv 0)) a0c)) (a0f (a0k (h.cl a0L (a0a (h.cl a2o (a0a (a04 (h.bv 0) a1W (a1B (h.v 1))) a0d)) (a0a (h.cl a2o (a0a (a04 (h.bv 0) (a1B (h.v 1)) a1W) a0d)) a0d)))))))
variable (a2n:a0p (Oz P w K mg base) 11 a1d)
include z_len a0L a2n in
theorem a6v(D':a0p (Def K mg) a d):a0p (Oz P w K mg base) 12 a1c:=fn_z (N:=["forms","half"]) D' λX r h=>by
 cases r
 exact (a0e (a0M (a0m a27 (a0X h.g z_len (h.bv 0)) a0c) (a0f (a0k (a5o (a2u (h.v 0)) (a0j (h.bv 0) a0c) (a0C a0d)))) a0r) (a0e (h.setF 1 (a0i a3J (a0X h.g z_len (h.bv 0)) a0c)) (a0f (a0k (h.cl a0L (a0a (h.cl a2n (a0a (a04 (h.bv 0) a1W (a1B (h.v 1))) a0d)) (a0a (h.cl a2n (a0a (a04 (h.bv 0) (a1B (h.v 1)) a1W) a0d)) a0d)))))))
variable (a2m:a0p (Oz P w K mg base) 12 a1c)
include z_len a0L a2m in
theorem a6u(D':a0p (Def K mg) a d):a0p (Oz P w K mg base) 13 a1b:=fn_z (N:=["forms","half"]) D' λX r h=>by
 cases r
 exact (a0e (a0M (a0m a27 (a0X h.g z_len (h.bv 0)) a0c) (a0f (a0k (a5o (a2u (h.v 0)) (a0j (h.bv 0) a0c) (a0C a0d)))) a0r) (a0e (h.setF 1 (a0i a3J (a0X h.g z_len (h.bv 0)) a0c)) (a0f (a0k (h.cl a0L (a0a (h.cl a2m (a0a (a04 (h.bv 0) a1W (a1B (h.v 1))) a0d)) (a0a (h.cl a2m (a0a (a04 (h.bv 0) (a1B (h.v 1)) a1W) a0d)) a0d)))))))
variable (a2l:a0p (Oz P w K mg base) 13 a1b)
include z_len a0L a2l in
theorem a6t(D':a0p (Def K mg) a d):a0p (Oz P w K mg base) 14 a0S:=fn_z (N:=["forms","half"]) D' λX r h=>by
 cases r
 exact (a0e (a0M (a0m a27 (a0X h.g z_len (h.bv 0)) a0c) (a0f (a0k (a5o (a2u (h.v 0)) (a0j (h.bv 0) a0c) (a0C a0d)))) a0r) (a0e (h.setF 1 (a0i a3J (a0X h.g z_len (h.bv 0)) a0c)) (a0f (a0k (h.cl a0L (a0a (h.cl a2l (a0a (a04 (h.bv 0) a1W (a1B (h.v 1))) a0d)) (a0a (h.cl a2l (a0a (a04 (h.bv 0) (a1B (h.v 1)) a1W) a0d)) a0d)))))))
variable (a1s:a0p (Oz P w K mg base) 14 a0S)
include z_len in
theorem a40(D':a2I (Def K mg) a d):a2I (Oz P w K mg base) 1 a0s:=fn_z (N:=["forms","many","form"]) D' λX r h=>by
 cases r
 exact (a0e (h.setF 1 a0c) (a0e (a3w h.own h.calm (h.v 0) (h.tg 2) (a0f (h.augM 1 (a0X h.g z_len (h.bv 2))))) (a0f (a0k (h.v 1)))))
variable (a0w:a2I (Oz P w K mg base) 1 a0s)
include TT z_MOST_PICKS a0w in
theorem b4g(D':a4T (Def K mg) a d):a4T (Oz P w K mg base) 2 a1a:=fn_z (N:=["forms","ways","form","longer","rows"]) D' λX r h=>by
 cases r
 exact (a0e (a0M (a0m a7k (h.cl a0w (a0a (h.v 0) a0d)) (a7C h.g z_MOST_PICKS)) (a0f a5q) a0r) (a0e (a0M (a0m (a00 h.u8) (h.cl a0w (a0a (h.v 0) a0d)) a0c) (a0f (a0k (a0F a0d))) a0r) (a0e (h.setF 1 (a0F (a0a (a0F a0d) a0d))) (a0e (a3w h.own h.calm (h.v 0) (h.tg 2) (a0e (h.set 3 (a0F a0d)) (a0e (a3w h.own h.calm (h.v 1) (h.tg 4) (a0f (h.ext 3 (a1p (N':=["row","rows"]) (caps:=[4]) (nt:=1) h ⟨rfl,by decide +kernel,by decide +kernel,by decide +kernel,by decide +kernel,rfl,rfl,by decide +kernel⟩ (a2F (h.v 2)) (λX1 e1_1 e1_2 e1_3 e1_4 e1_5 h1=>⟨(h1.tg 0),a19,(a0i a01 (h1.v 1) (a0F (a0a (h1.v 0) a0d)))⟩))))) (a0f (b1T 3 (h.setF 1 (h.v 3))))))) (a0f (a0k (h.v 1)))))))
variable (a2L:a4T (Oz P w K mg base) 2 a1a)
include TT z_MOST_PICKS a0w in
theorem b3D(D':a4T (Def K mg) a d):a4T (Xz P w K mg base) 2 a1F:=a8V (N:=["forms","ways","form","longer","rows"]) D' λX W r h xk xr=>by
 cases r
 exact (a13 (a9f (TV.nox (a0m a7k (h.cl a0w (a0a (h.v 0) a0d)) (a7C h.g z_MOST_PICKS))) (a1V (a98 h.calm xr TT.v1y h.g TT.v0X.m (AV.nox (a0a a3y a0d)))) a4a) (SV.nox (a0M (a0m a7k (h.cl a0w (a0a (h.v 0) a0d)) (a7C h.g z_MOST_PICKS)) (a0f a5q) a0r)) (a13 (a9f (TV.nox (a0m (a00 h.u8) (h.cl a0w (a0a (h.v 0) a0d)) a0c)) (a1V a9e) a4a) (SV.nox (a0M (a0m (a00 h.u8) (h.cl a0w (a0a (h.v 0) a0d)) a0c) (a0f (a0k (a0F a0d))) a0r)) (a13 a9e (SV.nox (h.setF 1 (a0F (a0a (a0F a0d) a0d)))) (a13 a9e (SV.nox (a3w h.own h.calm (h.v 0) (h.tg 2) (a0e (h.set 3 (a0F a0d)) (a0e (a3w h.own h.calm (h.v 1) (h.tg 4) (a0f (h.ext 3 (a1p (N':=["row","rows"]) (caps:=[4]) (nt:=1) h ⟨rfl,by decide +kernel,by decide +kernel,by decide +kernel,by decide +kernel,rfl,rfl,by decide +kernel⟩ (a2F (h.v 2)) (λX1 e1_1 e1_2 e1_3 e1_4 e1_5 h1=>⟨(h1.tg 0),a19,(a0i a01 (h1.v 1) (a0F (a0a (h1.v 0) a0d)))⟩))))) (a0f (b1T 3 (h.setF 1 (h.v 3)))))))) (a1V a9e)))))
variable (a2k:a4T (Xz P w K mg base) 2 a1F)
theorem b1d(D':a5B (Def K mg) a d):a5B (Oz P w K mg base) 1 a1G:=fn_z (N:=["row"]) D' λX r h=>by
 cases r
 exact (a0f (a0k (a0j (h.bv 0) a0c)))
variable (a4G:a5B (Oz P w K mg base) 1 a1G)
include z_sorted z_sum a2t a4G in
theorem b2n(D':a64 (Def K mg) a d):a64 (Oz P w K mg base) 6 a2z:=fn_z (N:=["rows","low","price","made","row","more"]) D' λX r h=>by
 cases r
 exact (a0e (h.setF 1 (a3O h.g z_sum h.calm (a2V (a1p (N':=["row"]) (caps:=[]) (nt:=1) h ⟨rfl,by decide +kernel,by decide +kernel,by decide +kernel,by decide +kernel,rfl,rfl,by decide +kernel⟩ (a2F (h.v 0)) (λX1 e1_1 e1_2 e1_3 e1_4 e1_5 h1=>⟨(h1.tg 0),a19,(a0j (h1.bv 0) a0c)⟩))))) (a0e (h.setF 2 (a3O h.g z_sum h.calm (a2V (a1p (N':=["row"]) (caps:=[]) (nt:=1) h ⟨rfl,by decide +kernel,by decide +kernel,by decide +kernel,by decide +kernel,rfl,rfl,by decide +kernel⟩ (a2F (h.v 0)) (λX1 e1_1 e1_2 e1_3 e1_4 e1_5 h1=>⟨(h1.tg 0),a19,(a0j (h1.bv 0) a0c)⟩))))) (a0e (h.set 3 (a0F (a0a (a0C (a0a (h.v 1) (a0a (h.v 1) (a0a (h.v 2) (a0a a0c a0d))))) a0d))) (a0e (a3w h.own h.calm (h.srtN a4G z_sorted (h.v 0)) (h.tg 4) (a0e (h.setF 5 (a0i a2E (a0j (h.bv 4) a0c) (a0j (h.bv 4) a0c))) (a0e (a0M (a0m a7k (h.v 5) a0c) (a0f (h.app 3 (a0C (a0a (a0i a01 (h.v 1) a0c) (a0a (a0i a01 (h.v 1) (h.v 5)) (a0a (a0i a01 (h.v 2) (a0j (h.bv 4) a0c)) (a0a (a0j (h.bv 4) a0c) a0d))))))) a0r) (a0e (h.aug 1 (h.v 5)) (a0f (h.aug 2 (a0i a2j (a0j (h.bv 4) a0c) (h.v 5)))))))) (a0f (b1T 3 (a0k (h.cl a2t (a0a (h.v 3) a0d)))))))))
variable (a31:a64 (Oz P w K mg base) 6 a2z)
include a1s a2L a2k a31 in
theorem a5W(D':a1v (Def K mg) a d):a1v (Oz P w K mg base) 15 a0K:=fn_z (N:=["forms"]) D' λX r h=>by
 cases r
 exact (a0f (a0k (h.cl a1s (a0a (a1p (N':=["rows"]) (caps:=[]) (nt:=1) h ⟨rfl,by decide +kernel,by decide +kernel,by decide +kernel,by decide +kernel,rfl,rfl,by decide +kernel⟩ (a2F (h.cl a2L (a0a (h.v 0) a0d))) (λX1 e1_1 e1_2 e1_3 e1_4 e1_5 h1=>⟨(h1.tg 0),a19,(h1.cl (ocst e1_1 e1_2 e1_3 e1_4 e1_5 a31) (a0a (h1.v 0) a0d))⟩)) a0d))))
variable (a1y:a1v (Oz P w K mg base) 15 a0K)
include a1s a2L a2k a31 in
theorem a5z(D':a1v (Def K mg) a d):a1v (Xz P w K mg base) 15 a1u:=a8V (N:=["forms"]) D' λX W r h xk xr=>by
 cases r
 exact (a1V (a4o (h.xarg a1s (b3n (b7h (N':=["rows"]) (caps:=[]) (nt:=1) h ⟨rfl,by decide +kernel,by decide +kernel,by decide +kernel,by decide +kernel,rfl,rfl,by decide +kernel⟩ (h.xcl a2k xk (AV.nox (a0a (h.v 0) a0d)))) (AV.nox a0d)))))
variable (a1k:a1v (Xz P w K mg base) 15 a1u)
include a1y a1k in
theorem b2o(D':a3X (Def K mg) a d):a3X (Oz P w K mg base) 16 a0v:=fn_z (N:=["forms"]) D' λX r h=>by
 cases r
 exact (a0f (a0k (h.cl a1y (a0a (h.v 0) a0d))))
variable (a0E:a3X (Oz P w K mg base) 16 a0v)
include a1y a1k in
theorem b1D(D':a3X (Def K mg) a d):a3X (Xz P w K mg base) 16 a09:=a8V (N:=["forms"]) D' λX W r h xk xr=>by
 cases r
 exact (a1V (a4o (h.xcl a1k xk (AV.nox (a0a (h.v 0) a0d)))))
variable (a0J:a3X (Xz P w K mg base) 16 a09)
include z_max a2t a9d in
theorem b1h(D':a5F (Def K mg) a d):a5F (Oz P w K mg base) 5 a05:=fn_z (N:=["form","low"]) D' λX r h=>by
 cases r
 exact (a0f (a0k (h.cl a2t (a0a (a1p (N':=["row","low"]) (caps:=[1]) (nt:=1) h ⟨rfl,by decide +kernel,by decide +kernel,by decide +kernel,by decide +kernel,rfl,rfl,by decide +kernel⟩ (a2F (h.v 0)) (λX1 e1_1 e1_2 e1_3 e1_4 e1_5 h1=>⟨(h1.tg 0),(a8U (a0m od_ge (a0j (h1.bv 0) a0c) (h1.v 1))),(h1.cl (ocst e1_1 e1_2 e1_3 e1_4 e1_5 a9d) (a0a (h1.v 0) (a0a (a3n (a7J h1.calm) h1.g (zcst e1_4 z_max) (by decide +kernel) (a0a (h1.v 1) (a0a (a0j (h1.bv 0) a0c) a0d))) (a0a (a0j (h1.bv 0) a0c) a0d))))⟩)) a0d))))
variable (a2Z:a5F (Oz P w K mg base) 5 a05)
include z_zip a0E a0J a2Z in
theorem a9q(D':a2P (Def K mg) a d):a2P (Oz P w K mg base) 17 a0Q:=fn_z (N:=["forms","least_shares"]) D' λX r h=>by
 cases r
 exact (a0f (a0k (h.cl a0E (a0a (a1p (N':=["form","low"]) (caps:=[]) (nt:=2) h ⟨rfl,by decide +kernel,by decide +kernel,by decide +kernel,by decide +kernel,rfl,rfl,by decide +kernel⟩ (b2z h.g z_zip (a0a (h.v 0) (a0a (h.v 1) a0d))) (λX1 e1_1 e1_2 e1_3 e1_4 e1_5 h1=>⟨(a6a (n:=2) h1.calm (a0W (h1.tg 0) (a0W (h1.tg 1) a4i))),a19,(h1.cl (ocst e1_1 e1_2 e1_3 e1_4 e1_5 a2Z) (a0a (h1.v 0) (a0a (h1.v 1) a0d)))⟩)) a0d))))
variable (a1S:a2P (Oz P w K mg base) 17 a0Q)
include z_zip a0E a0J a2Z in
theorem a9g(D':a2P (Def K mg) a d):a2P (Xz P w K mg base) 17 a17:=a8V (N:=["forms","least_shares"]) D' λX W r h xk xr=>by
 cases r
 exact (a1V (a4o (h.xcl a0J xk (AV.nox (a0a (a1p (N':=["form","low"]) (caps:=[]) (nt:=2) h ⟨rfl,by decide +kernel,by decide +kernel,by decide +kernel,by decide +kernel,rfl,rfl,by decide +kernel⟩ (b2z h.g z_zip (a0a (h.v 0) (a0a (h.v 1) a0d))) (λX1 e1_1 e1_2 e1_3 e1_4 e1_5 h1=>⟨(a6a (n:=2) h1.calm (a0W (h1.tg 0) (a0W (h1.tg 1) a4i))),a19,(h1.cl (ocst e1_1 e1_2 e1_3 e1_4 e1_5 a2Z) (a0a (h1.v 0) (a0a (h1.v 1) a0d)))⟩)) a0d)))))
variable (a2B:a2P (Xz P w K mg base) 17 a17)
include a2t a93 in
theorem b6K(D':b1N (Def K mg) a d):b1N (Oz P w K mg base) 5 a7b:=fn_z (N:=["one","other"]) D' λX r h=>by
 cases r
 exact (a0f (a0k (h.cl a2t (a0a (a1p (N':=["low","high","mine","yours"]) (caps:=[]) (nt:=4) h ⟨rfl,by decide +kernel,by decide +kernel,by decide +kernel,by decide +kernel,rfl,rfl,by decide +kernel⟩ (a2F (h.cl a93 (a0a (h.v 0) (a0a (h.v 1) a0d)))) (λX1 e1_1 e1_2 e1_3 e1_4 e1_5 h1=>⟨(a6a (n:=4) h1.calm (a0W (h1.tg 0) (a0W (h1.tg 1) (a0W (h1.tg 2) (a0W (h1.tg 3) a4i))))),a19,(a0C (a0a (h1.v 0) (a0a (h1.v 1) (a0a (a0i a01 (a0j (h1.bv 2) a0c) (a0j (h1.bv 3) a0c)) (a0a (a0i a01 (a0j (h1.bv 2) a0c) (a0j (h1.bv 3) a0c)) a0d)))))⟩)) a0d))))
variable (a6k:b1N (Oz P w K mg base) 5 a7b)
include a2t in
theorem b4e(D':a9j (Def K mg) a d):a9j (Oz P w K mg base) 5 a5S:=fn_z (N:=["form","many"]) D' λX r h=>by
 cases r
 exact (a0f (a0k (h.cl a2t (a0a (a1p (N':=["row","many"]) (caps:=[1]) (nt:=1) h ⟨rfl,by decide +kernel,by decide +kernel,by decide +kernel,by decide +kernel,rfl,rfl,by decide +kernel⟩ (a2F (h.v 0)) (λX1 e1_1 e1_2 e1_3 e1_4 e1_5 h1=>⟨(h1.tg 0),a19,(a0C (a0a (a0j (h1.bv 0) a0c) (a0a (a0j (h1.bv 0) a0c) (a0a (a0i a2j (a0j (h1.bv 0) a0c) (h1.v 1)) (a0a (a0i a2j (a0j (h1.bv 0) a0c) (h1.v 1)) a0d)))))⟩)) a0d))))
variable (a4k:a9j (Oz P w K mg base) 5 a5S)
include z_enumerate a0E a0J a6k a4k in
theorem b2m(D':a3W (Def K mg) a d):a3W (Oz P w K mg base) 17 a1w:=fn_z (N:=["forms","k","together","others"]) D' λX r h=>by
 cases r
 exact (a0e (h.setF 2 (h.cl a0E (a0a (h.v 0) a0d))) (a0e (a0M (a0m (a00 h.u8) (h.v 2) (a0C a0d)) (a0f (a0k (a0C a0d))) a0r) (a0e (a4W (i:=3) false (N':=["place","form","k"]) (caps:=[1]) (nt:=2) h ⟨rfl,by decide +kernel,by decide +kernel,by decide +kernel,by decide +kernel,rfl,rfl,by decide +kernel⟩ (b2A h.g z_enumerate (a0a (h.v 0) a0d)) (λX1 e1_1 e1_2 e1_3 e1_4 e1_5 h1=>⟨(a6a (n:=2) h1.calm (a0W (h1.tg 0) (a0W (h1.tg 1) a4i))),(a8U (a0m (a5i h1.u8) (h1.v 0) (h1.v 2))),(h1.v 1)⟩)) (a0f (a0k (h.cl a6k (a0a (h.cl a0E (a0a (h.v 3) a0d)) (a0a (h.cl a4k (a0a (h.v 2) (a0a (a5k a0c) a0d))) a0d))))))))
variable (a2D:a3W (Oz P w K mg base) 17 a1w)
include z_enumerate a0E a0J a6k a4k in
theorem b1C(D':a3W (Def K mg) a d):a3W (Xz P w K mg base) 17 a2Q:=a8V (N:=["forms","k","together","others"]) D' λX W r h xk xr=>by
 cases r
 exact (a13 (b5B h.nod (h.ix (i:=2) rfl) (h.loc (by first | exact c1C rfl | exact c1q rfl)) (h.xcl a0J xk (AV.nox (a0a (h.v 0) a0d))) (hf:=h.sto (c1C rfl))) (SV.nox (h.setF 2 (h.cl a0E (a0a (h.v 0) a0d)))) (a13 (a9f (TV.nox (a0m (a00 h.u8) (h.v 2) (a0C a0d))) (a1V a9e) a4a) (SV.nox (a0M (a0m (a00 h.u8) (h.v 2) (a0C a0d)) (a0f (a0k (a0C a0d))) a0r)) (a13 a9e (SV.nox (a4W (i:=3) false (N':=["place","form","k"]) (caps:=[1]) (nt:=2) h ⟨rfl,by decide +kernel,by decide +kernel,by decide +kernel,by decide +kernel,rfl,rfl,by decide +kernel⟩ (b2A h.g z_enumerate (a0a (h.v 0) a0d)) (λX1 e1_1 e1_2 e1_3 e1_4 e1_5 h1=>⟨(a6a (n:=2) h1.calm (a0W (h1.tg 0) (a0W (h1.tg 1) a4i))),(a8U (a0m (a5i h1.u8) (h1.v 0) (h1.v 2))),(h1.v 1)⟩))) (a1V (a4o (h.xarg a6k (b3n (h.xcl a0J xk (AV.nox (a0a (h.v 3) a0d))) (AV.nox (a0a (h.cl a4k (a0a (h.v 2) (a0a (a5k a0c) a0d))) a0d)))))))))
variable (a3g:a3W (Xz P w K mg base) 17 a2Q)
include z_sum in
theorem b1e(D':a5C (Def K mg) a d):a5C (Oz P w K mg base) 1 a1I:=fn_z (N:=["rows","x"]) D' λX r h=>by
 cases r
 exact (a0f (a0k (b4O b1j b1j (a3O h.g z_sum h.calm (a2V (a1p (N':=["row"]) (caps:=[]) (nt:=1) h ⟨rfl,by decide +kernel,by decide +kernel,by decide +kernel,by decide +kernel,rfl,rfl,by decide +kernel⟩ (a2F (h.v 0)) (λX1 e1_1 e1_2 e1_3 e1_4 e1_5 h1=>⟨(h1.tg 0),a19,(a0j (h1.bv 0) a0c)⟩)))) (h.v 1) (a3O h.g z_sum h.calm (a2V (a1p (N':=["row"]) (caps:=[]) (nt:=1) h ⟨rfl,by decide +kernel,by decide +kernel,by decide +kernel,by decide +kernel,rfl,rfl,by decide +kernel⟩ (a2F (h.v 0)) (λX1 e1_1 e1_2 e1_3 e1_4 e1_5 h1=>⟨(h1.tg 0),a19,(a0j (h1.bv 0) a0c)⟩)))))))
variable (a2X:a5C (Oz P w K mg base) 1 a1I)
include z_min z_len z_sorted z_sum z_range in
theorem b4i(D':a9m (Def K mg) a d){cT pT:Addr}(hcd:d.code=.ref cT)(hT:c1P K "dealt" = some (cT,pT))(hC:c3T K cT pT=true):a9m (Oz P w K mg base) 3 a3c:=fn_zL (N:=["rows","x","shares","left","place","more"]) D' hcd hT hC λX r h L=>by
 cases r
 exact (a0e (a4W (i:=2) true (N':=["row"]) (caps:=[]) (nt:=1) h ⟨rfl,by decide +kernel,by decide +kernel,by decide +kernel,by decide +kernel,rfl,rfl,by decide +kernel⟩ (a2F (h.v 0)) (λX1 e1_1 e1_2 e1_3 e1_4 e1_5 h1=>⟨(h1.tg 0),a19,(a0j (h1.bv 0) a0c)⟩)) (a0e (h.setF 3 (a0i a2E (h.v 1) (a3O h.g z_sum h.calm (h.bv 2)))) (a0e (a3w h.own h.calm (b4N L h ⟨rfl,rfl,rfl,by decide +kernel,by decide +kernel,by decide +kernel,by decide +kernel,by decide +kernel⟩ (h.room.mono (by decide)) h.g z_sorted h.g z_range (i:=0) rfl (by decide +kernel) rfl (λcc hc=>b95 (by decide +kernel) hc) (λ_ _ _ _ _=>rfl) (λX' _ _ _ _ _ h'=>(a0j (a2V (a0j (h'.bv 1) (h'.v 0))) a0c)) (a0a (a0X h.g z_len (h.bv 0)) a0d)) (h.tg 4) (a0e (h.setF 5 (a3n (a9V h.calm) h.g z_min (by decide +kernel) (a0a (h.v 3) (a0a (a0i a2E (a0j (a2V (a0j (h.bv 0) (h.v 4))) a0c) (a0j (a2V (a0j (h.bv 0) (h.v 4))) a0c)) a0d)))) (a0e (h.augX 2 (h.v 4) (h.v 5)) (a0f (h.augS 3 (h.v 5)))))) (a0f (h.retO 2)))))
variable (a7W:a9m (Oz P w K mg base) 3 a3c)
include z_sum z_zip a0R a7W in
theorem a4y(D':a2y (Def K mg) a d):a2y (Oz P w K mg base) 4 a0t:=fn_z (N:=["rows","x","shares"]) D' λX r h=>by
 cases r
 exact (a0e (h.setF 2 (h.cl a7W (a0a (h.v 0) (a0a (h.v 1) a0d)))) (a0f (a0k (a0C (a0a (a3O h.g z_sum h.calm (a2V (a1p (N':=["row","share"]) (caps:=[]) (nt:=2) h ⟨rfl,by decide +kernel,by decide +kernel,by decide +kernel,by decide +kernel,rfl,rfl,by decide +kernel⟩ (b2z h.g z_zip (a0a (h.v 0) (a0a (h.v 2) a0d))) (λX1 e1_1 e1_2 e1_3 e1_4 e1_5 h1=>⟨(a6a (n:=2) h1.calm (a0W (h1.tg 0) (a0W (h1.tg 1) a4i))),a19,(h1.cl (ocst e1_1 e1_2 e1_3 e1_4 e1_5 a0R) (a0a (h1.v 0) (a0a (h1.v 1) a0d)))⟩)))) (a0a (h.v 2) a0d))))))
variable (a0H:a2y (Oz P w K mg base) 4 a0t)
include TT z_min a2L a2k a2X a0H in
theorem a7j(D':a16 (Def K mg) a d):a16 (Oz P w K mg base) 5 a0I:=fn_z (N:=["forms","x","found"]) D' λX r h=>by
 cases r
 exact (a0e (a4W (i:=2) false (N':=["rows","x"]) (caps:=[1]) (nt:=1) h ⟨rfl,by decide +kernel,by decide +kernel,by decide +kernel,by decide +kernel,rfl,rfl,by decide +kernel⟩ (a2F (h.cl a2L (a0a (h.v 0) a0d))) (λX1 e1_1 e1_2 e1_3 e1_4 e1_5 h1=>⟨(h1.tg 0),(a8U (a2u (h1.cl (ocst e1_1 e1_2 e1_3 e1_4 e1_5 a2X) (a0a (h1.v 0) (a0a (h1.v 1) a0d))))),(h1.cl (ocst e1_1 e1_2 e1_3 e1_4 e1_5 a0H) (a0a (h1.v 0) (a0a (h1.v 1) a0d)))⟩)) (a0e (a0M (a72 (a2u (h.v 2))) (a0f a5q) a0r) (a0f (a0k (a0j (a2V (b7j h.g z_min h.calm h.u8 (h.bv 2))) a0c)))))
variable (a2c:a16 (Oz P w K mg base) 5 a0I)
include TT z_min a2L a2k a2X a0H in
theorem a61(D':a16 (Def K mg) a d):a16 (Xz P w K mg base) 5 a0O:=a8V (N:=["forms","x","found"]) D' λX W r h xk xr=>by
 cases r
 exact (a13 (b6d (N':=["rows","x"]) (caps:=[1]) (nt:=1) h ⟨rfl,by decide +kernel,by decide +kernel,by decide +kernel,by decide +kernel,rfl,rfl,by decide +kernel⟩ (h.xcl a2k xk (AV.nox (a0a (h.v 0) a0d)))) (SV.nox (a4W (i:=2) false (N':=["rows","x"]) (caps:=[1]) (nt:=1) h ⟨rfl,by decide +kernel,by decide +kernel,by decide +kernel,by decide +kernel,rfl,rfl,by decide +kernel⟩ (a2F (h.cl a2L (a0a (h.v 0) a0d))) (λX1 e1_1 e1_2 e1_3 e1_4 e1_5 h1=>⟨(h1.tg 0),(a8U (a2u (h1.cl (ocst e1_1 e1_2 e1_3 e1_4 e1_5 a2X) (a0a (h1.v 0) (a0a (h1.v 1) a0d))))),(h1.cl (ocst e1_1 e1_2 e1_3 e1_4 e1_5 a0H) (a0a (h1.v 0) (a0a (h1.v 1) a0d)))⟩))) (a13 (a9f (TV.nox (a72 (a2u (h.v 2)))) (a1V (a98 h.calm xr TT.v1x h.g TT.v0V.m (AV.nox (a0a a3y a0d)))) a4a) (SV.nox (a0M (a72 (a2u (h.v 2))) (a0f a5q) a0r)) (a1V a9e)))
variable (a1R:a16 (Xz P w K mg base) 5 a0O)
include a2c a1R in
theorem a8o(D':a2w (Def K mg) a d):a2w (Oz P w K mg base) 6 a0N:=fn_z (N:=["forms","x"]) D' λX r h=>by
 cases r
 exact (a0f (a0k (h.cl a2c (a0a (h.v 0) (a0a (h.v 1) a0d)))))
variable (a15:a2w (Oz P w K mg base) 6 a0N)
include a2c a1R in
theorem a7Y(D':a2w (Def K mg) a d):a2w (Xz P w K mg base) 6 a1P:=a8V (N:=["forms","x"]) D' λX W r h xk xr=>by
 cases r
 exact (a1V (a4o (h.xcl a1R xk (AV.nox (a0a (h.v 0) (a0a (h.v 1) a0d))))))
variable (a2a:a2w (Xz P w K mg base) 6 a1P)
include a0E a0J a1S a2B a2D a3g a15 a2a in
theorem a8r(D':a2x (Def K mg) a d):a2x (Oz P w K mg base) 18 a0z:=fn_z (N:=["deed","forms","x"]) D' λX r h=>by
 cases r
 exact (a0e (a0M (a0m (a00 h.u8) (h.v 0) a0c) (a0f (a0k (h.cl a0E (a0a (h.v 1) a0d)))) a0r) (a0e (a0M (a0m (a00 h.u8) (h.v 0) a0c) (a0f (a0k (h.cl a15 (a0a (h.v 1) (a0a (h.v 2) a0d))))) a0r) (a0e (a0M (a0m (a00 h.u8) (h.v 0) a0c) (a0f (a0k (h.cl a2D (a0a (h.v 1) (a0a a0c a0d))))) a0r) (a0f (a0k (h.cl a1S (a0a (h.v 1) (a0a (a1p (N':=["form","x"]) (caps:=[2]) (nt:=1) h ⟨rfl,by decide +kernel,by decide +kernel,by decide +kernel,by decide +kernel,rfl,rfl,by decide +kernel⟩ (a2F (h.v 1)) (λX1 e1_1 e1_2 e1_3 e1_4 e1_5 h1=>⟨(h1.tg 0),a19,(h1.v 1)⟩)) a0d))))))))
variable (a3q:a2x (Oz P w K mg base) 18 a0z)
include a0E a0J a1S a2B a2D a3g a15 a2a in
theorem a7Z(D':a2x (Def K mg) a d):a2x (Xz P w K mg base) 18 a0y:=a8V (N:=["deed","forms","x"]) D' λX W r h xk xr=>by
 cases r
 exact (a13 (a9f (TV.nox (a0m (a00 h.u8) (h.v 0) a0c)) (a1V (a4o (h.xcl a0J xk (AV.nox (a0a (h.v 1) a0d))))) a4a) (SV.nox (a0M (a0m (a00 h.u8) (h.v 0) a0c) (a0f (a0k (h.cl a0E (a0a (h.v 1) a0d)))) a0r)) (a13 (a9f (TV.nox (a0m (a00 h.u8) (h.v 0) a0c)) (a1V (a4o (h.xcl a2a xk (AV.nox (a0a (h.v 1) (a0a (h.v 2) a0d)))))) a4a) (SV.nox (a0M (a0m (a00 h.u8) (h.v 0) a0c) (a0f (a0k (h.cl a15 (a0a (h.v 1) (a0a (h.v 2) a0d))))) a0r)) (a13 (a9f (TV.nox (a0m (a00 h.u8) (h.v 0) a0c)) (a1V (a4o (h.xcl a3g xk (AV.nox (a0a (h.v 1) (a0a a0c a0d)))))) a4a) (SV.nox (a0M (a0m (a00 h.u8) (h.v 0) a0c) (a0f (a0k (h.cl a2D (a0a (h.v 1) (a0a a0c a0d))))) a0r)) (a1V (a4o (h.xcl a2B xk (AV.nox (a0a (h.v 1) (a0a (a1p (N':=["form","x"]) (caps:=[2]) (nt:=1) h ⟨rfl,by decide +kernel,by decide +kernel,by decide +kernel,by decide +kernel,rfl,rfl,by decide +kernel⟩ (a2F (h.v 1)) (λX1 e1_1 e1_2 e1_3 e1_4 e1_5 h1=>⟨(h1.tg 0),a19,(h1.v 1)⟩)) a0d)))))))))
variable (a23:a2x (Xz P w K mg base) 18 a0y)
include TT z_isinstance z_ValueError a3q a23 in
theorem a9t(D':a4U (Def K mg) a d):a4U (Oz P w K mg base) 19 a0B:=fn_z (N:=["deed","forms","x","found","kinds","e"]) D' λX r h=>by
 cases r
 exact (a0e (h.setF 3 a4E) (a0e (h.setF 4 (a0F a0d)) (a0e (b8N (i:=5) h rfl rfl h.g TT.v0W.m (b0E TT.v0V TT.v0p (b0E TT.v0X TT.v0q b7a)) (λX1 e1_1 e1_2 e1_3 e1_4 e1_5 h1=>(a0f (h1.setF 3 (h1.cl (ocst e1_1 e1_2 e1_3 e1_4 e1_5 a3q) (a0a (h1.v 0) (a0a (h1.v 1) (a0a (h1.v 2) a0d))))))) (λX1 W1 e1_1 e1_2 e1_3 e1_4 e1_5 h1 xk1=>(a1V (b5B h1.nod (h1.ix (i:=3) rfl) (h1.loc (by first | exact c1C rfl | exact c1q rfl)) (h1.xcl (xzst e1_1 e1_2 e1_3 e1_4 e1_5 a23) xk1 (AV.nox (a0a (h1.v 0) (a0a (h1.v 1) (a0a (h1.v 2) a0d))))) (hf:=h1.sto (c1C rfl))))) (λX1 e1_1 e1_2 e1_3 e1_4 e1_5 h1=>(a0f (h1.setF 4 (a0F (a0a (b7k h1.g (zcst e1_4 z_isinstance) h1.g (zcst e1_4 z_ValueError) (by decide +kernel) (a3V (tcst e1_3 e1_4 TT).v0V (tcst e1_3 e1_4 TT).v1n (a3V (tcst e1_3 e1_4 TT).v0X (tcst e1_3 e1_4 TT).v1o a9i)) (h1.v 5)) (a0a (b52 h1.g (zcst e1_4 z_isinstance) h1.g (tcst e1_3 e1_4 TT).v0X.m (a3V (tcst e1_3 e1_4 TT).v0V (tcst e1_3 e1_4 TT).v1g (a3V (tcst e1_3 e1_4 TT).v0X (tcst e1_3 e1_4 TT).v1i a9i)) (h1.v 5)) (a0a (b52 h1.g (zcst e1_4 z_isinstance) h1.g (tcst e1_3 e1_4 TT).v0V.m (a3V (tcst e1_3 e1_4 TT).v0V (tcst e1_3 e1_4 TT).v1f (a3V (tcst e1_3 e1_4 TT).v0X (tcst e1_3 e1_4 TT).v1h a9i)) (h1.v 5)) a0d)))))))) (a0e (a0M (a0m (a00 h.u8) (h.v 4) (a0F a0d)) (a0f (a0k (a0C (a0a a3y (a0a (h.v 3) a0d))))) a0r) (a0e (a0M (a0m (a00 h.u8) (h.v 4) (a0F (a0a a6d (a0a a6d (a0a a6d a0d))))) (a0f (a0k (a0C (a0a a3y (a0a a4E a0d))))) a0r) (a0e (a0M (a0m (a00 h.u8) (h.v 4) (a0F (a0a a6d (a0a a6d (a0a a6d a0d))))) (a0f (a0k (a0C (a0a a3y (a0a a4E a0d))))) a0r) (a0f (a0k (a0C (a0a a3y (a0a a4E a0d)))))))))))
variable (a1z:a4U (Oz P w K mg base) 19 a0B)
include z_len in
theorem a9s(D':a4S (Def K mg) a d):a4S (Oz P w K mg base) 1 a18:=fn_z (N:=["form","x","first","behind","middle"]) D' λX r h=>by
 cases r
 exact (a0e (h.setF 2 a0c) (a0e (h.setF 3 (a0X h.g z_len (h.bv 0))) (a0e (a65 a51 h.own (a0m a27 (h.v 2) (h.v 3)) (a0e (h.setF 4 (a0i a3J (a0i a01 (h.v 2) (h.v 3)) a0c)) (a0f (a0M (a0m a27 (a0j (a2V (a0j (h.bv 0) (h.v 4))) a0c) (h.v 1)) (a0f (h.setF 2 (a0i a01 (h.v 4) a0c))) (a0f (h.setF 3 (h.v 4))))))) (a0f (a0k (h.v 2))))))
variable (a32:a4S (Oz P w K mg base) 1 a18)
include z_len a0R a32 in
theorem b1i(D':a5G (Def K mg) a d):a5G (Oz P w K mg base) 3 a2T:=fn_z (N:=["form","x","place"]) D' λX r h=>by
 cases r
 exact (a0e (h.setF 2 (h.cl a32 (a0a (h.v 0) (a0a (h.v 1) a0d)))) (a0e (a0M (tv_w (a70 (a0m (a00 h.u8) (h.v 2) (a0X h.g z_len (h.bv 0))) (a6F (a0m a27 (h.v 1) (a0j (a2V (a0j (h.bv 0) (h.v 2))) a0c))))) (a0f (a0k a4E)) a0r) (a0f (a0k (h.cl a0R (a0a (a0j (h.bv 0) (h.v 2)) (a0a (h.v 1) a0d)))))))
variable (a4H:a5G (Oz P w K mg base) 3 a2T)
include z_len z_sum a0E a1z a4H in
theorem a5n(D':a2S (Def K mg) a d):a2S (Oz P w K mg base) 20 a1j:=fn_z (N:=["forms","first","step","reach","cells","found","many","cell","more","x","cost","told"]) D' λX r h=>by
 cases r
 exact (a0e (h.setF 5 (h.cl a0E (a0a (h.v 0) a0d))) (a0e (h.setF 6 (a0X h.g z_len (h.bv 0))) (a0e (a3w h.own h.calm (h.v 4) (h.tg 7) (a0e (h.setF 8 (a0i a2E (a0i a5Y (h.v 7) (a0i a01 (a0i a2j a0c (h.v 3)) a0c)) a0c)) (a0e (h.setF 9 (a0i a01 (a0i a2j (h.v 1) (h.v 6)) (h.v 8))) (a0e (h.setF 10 (h.cl a4H (a0a (h.v 5) (a0a (h.v 9) a0d)))) (a0e (h.setF 11 (h.cl a1z (a0a a0c (a0a (h.v 0) (a0a (h.v 9) a0d))))) (a0f (a0M (tv_w (a70 (a0m (a00 h.u8) (a0i a5Y (h.v 8) a0c) a0c) (a70 (a0m a27 (h.v 8) a0c) (a6F (a0m a7k (h.v 8) (a0i a2j a0c (h.v 3))))))) (a0f (a0M (tv_w (a70 (a0m b6O (h.v 10) a4E) (a6F (a0m (a5i h.u8) (a0j (h.bv 11) a0c) a3y)))) (a0f (a0k a6d)) a0r)) (a0f (a0M (tv_w (a70 (a0m (a5i h.u8) (h.v 10) (a0i a01 (a0i a2j a0c (h.v 6)) (a0i a2j (h.v 2) (h.v 8)))) (a70 (a0m (a5i h.u8) (a0j (h.bv 11) a0c) a3y) (a6F (a0m (a5i h.u8) (a3O h.g z_sum h.calm (a2V (a0j (h.bv 11) a0c))) (h.v 9)))))) (a0f (a0k a6d)) a0r))))))))) (a0f (a0k a6d)))))
variable (a2s:a2S (Oz P w K mg base) 20 a1j)
include z_range a2t in
theorem a7h(D':a3D (Def K mg) a d):a3D (Oz P w K mg base) 5 a1x:=fn_z (N:=["first","step","many"]) D' λX r h=>by
 cases r
 exact (a0f (a0k (h.cl a2t (a0a (a1p (N':=["k","first","step"]) (caps:=[0,1]) (nt:=1) h ⟨rfl,by decide +kernel,by decide +kernel,by decide +kernel,by decide +kernel,rfl,rfl,by decide +kernel⟩ (a7u h.g z_range (a0a (h.v 2) a0d)) (λX1 e1_1 e1_2 e1_3 e1_4 e1_5 h1=>⟨(h1.tg 0),a19,(a0C (a0a (a0i a01 (h1.v 1) (a0i a2j a0c (h1.v 0))) (a0a (a0i a01 (h1.v 1) (a0i a2j a0c (h1.v 0))) (a0a (a0i a01 a0c (a0i a2j (a0i a2j (h1.v 2) a0c) (h1.v 0))) (a0a a0c a0d)))))⟩)) a0d))))
variable (a25:a3D (Oz P w K mg base) 5 a1x)
include z_len in
theorem a6C(D':a3j (Def K mg) a d):a3j (Oz P w K mg base) 1 a0T:=fn_z (N:=["script","k"]) D' λX r h=>by
 cases r
 exact (a0e (a0M (a0m a27 (h.v 1) (a0X h.g z_len (h.bv 0))) (a0f (a0k (a0j (h.bv 0) (h.v 1)))) a0r) (a0f (a0k a0c)))
variable (a1T:a3j (Oz P w K mg base) 1 a0T)
include z_len z_sum z_range z_all a1S a2D a1z a2s a25 a1T in
theorem b9m(D':t_law (Def K mg) a d):FnOk P w K mg base CX0 21 a d ["script"] (spD K 1 a7c):=fn_y (N:=["script","head","first","step","every","counts","forms","reach","beneath","last","due"]) D' λX r h=>by
 cases r
 exact (a0e (h.setF 1 (h.cl a1T (a0a (h.v 0) (a0a a0c a0d)))) (a0e (h.setF 2 (a0i a2E (a0i a5Y (h.cl a1T (a0a (h.v 0) (a0a a0c a0d))) (a0i a8t a0c a0c)) (a0i a2j a0c (a0i a8t a0c a0c)))) (a0e (h.setF 3 (a0i a2E (a0i a5Y (h.cl a1T (a0a (h.v 0) (a0a a0c a0d))) (a0i a8t a0c a0c)) (a0i a2j a0c (a0i a8t a0c a0c)))) (a0e (h.setF 4 (a0F (a0a (a0F (a0a a0c (a0a a0c a0d))) (a0a (a0F (a0a a0c (a0a a0c (a0a a0c a0d)))) (a0a (a0F (a0a a0c (a0a a0c (a0a a0c (a0a a0c a0d))))) (a0a (a0F (a0a a0c a0d)) (a0a (a0F (a0a a0c (a0a a0c a0d))) (a0a (a0F (a0a a0c (a0a a0c (a0a a0c a0d)))) (a0a (a0F (a0a a0c (a0a a0c (a0a a0c (a0a a0c (a0a a0c a0d)))))) (a0a (a0i b6P (a0F (a0a a0c a0d)) a0c) (a0a (a0F (a0a a0c (a0a a0c (a0a a0c a0d)))) a0d))))))))))) (a0e (h.setF 5 (a0j (h.bv 4) (a0i a5Y (h.v 1) (a0X h.g z_len (h.bv 4))))) (a0e (h.setF 6 (a1p (N':=["many","first","step"]) (caps:=[2,3]) (nt:=1) h ⟨rfl,by decide +kernel,by decide +kernel,by decide +kernel,by decide +kernel,rfl,rfl,by decide +kernel⟩ (a2F (h.v 5)) (λX1 e1_1 e1_2 e1_3 e1_4 e1_5 h1=>⟨(h1.tg 0),a19,(h1.cl (ocst e1_1 e1_2 e1_3 e1_4 e1_5 a25) (a0a (h1.v 1) (a0a (h1.v 2) (a0a (h1.v 0) a0d))))⟩)) (hs:=Fx.sw h rfl)) (a0e (a0M (a0m (od_in h.u8) a0c (h.v 5) (by with_unfolding_all rfl)) (a0e (a0M (tv_w (a70 (a0m (a5i h.u8) (h.cl a1z (a0a a0c (a0a (h.v 6) (a0a a0c a0d)))) (a0C (a0a a3y (a0a (a0C a0d) a0d)))) (a6F (a72 (a2u (b53 h.g z_all h.calm (a2V (a1p (N':=["k","forms"]) (caps:=[6]) (nt:=1) h ⟨rfl,by decide +kernel,by decide +kernel,by decide +kernel,by decide +kernel,rfl,rfl,by decide +kernel⟩ (a7u h.g z_range (a0a a0c a0d)) (λX1 e1_1 e1_2 e1_3 e1_4 e1_5 h1=>⟨(h1.tg 0),a19,(a6V (a00 h1.u8) (h1.cl (ocst e1_1 e1_2 e1_3 e1_4 e1_5 a2D) (a0a (h1.v 1) (a0a (h1.v 0) a0d))) (a0C a0d))⟩))))))))) (a0f (a0k a6d)) a0r) (a0f (a0k (b9T (a6V (a00 h.u8) (h.cl a1z (a0a a0c (a0a (h.v 6) (a0a (h.v 2) a0d)))) (a0C (a0a a3y (a0a (a0C a0d) a0d)))) (b9S (a6V (a00 h.u8) (a0j (a2V (h.cl a1z (a0a a0c (a0a (h.v 6) (a0a (h.v 2) a0d))))) a0c) a3y)))))) a0r) (a0e (a0M (a0m a7k (a0i a5Y (h.v 1) (a0X h.g z_len (h.bv 4))) a0c) (a0e (h.setF 8 (a0i a2E (a0i a2E (h.v 2) a0c) (a0i a5Y (h.v 1) (a0i a8t a0c a0c)))) (a0e (a0M (a72 (a2u (b53 h.g z_all h.calm (a2V (a1p (N':=["deed","forms","beneath"]) (caps:=[6,8]) (nt:=1) h ⟨rfl,by decide +kernel,by decide +kernel,by decide +kernel,by decide +kernel,rfl,rfl,by decide +kernel⟩ (a7u h.g z_range (a0a a0c a0d)) (λX1 e1_1 e1_2 e1_3 e1_4 e1_5 h1=>⟨(h1.tg 0),a19,(a6V (a00 h1.u8) (a0j (a2V (h1.cl (ocst e1_1 e1_2 e1_3 e1_4 e1_5 a1z) (a0a (h1.v 0) (a0a (h1.v 1) (a0a (h1.v 2) a0d))))) a0c) a3y)⟩)))))) (a0f (a0k a6d)) a0r) (a0e (a4W (i:=9) false (N':=["many","first"]) (caps:=[2]) (nt:=1) h ⟨rfl,by decide +kernel,by decide +kernel,by decide +kernel,by decide +kernel,rfl,rfl,by decide +kernel⟩ (a2F (h.v 5)) (λX1 e1_1 e1_2 e1_3 e1_4 e1_5 h1=>⟨(h1.tg 0),a19,(a0i a01 (h1.v 1) (a0i a2j a0c (a0i a2E (h1.v 0) a0c)))⟩)) (a0e (h.setF 10 (a0C (a0a (a3O h.g z_sum h.calm (h.bv 9)) (a0a (a3O h.g z_sum h.calm (h.bv 9)) (a0a (a0i a01 (a0i a2j a0c (a0X h.g z_len (h.bv 5))) (a0i a2j (a0i a2j (h.v 3) a0c) (a0i a2E (a3O h.g z_sum h.calm (h.bv 5)) (a0X h.g z_len (h.bv 5))))) (a0a a0c a0d)))))) (a0f (a0k (a6V (a00 h.u8) (h.cl a1S (a0a (h.v 6) (a0a (h.v 9) a0d))) (a0C (a0a (h.v 10) a0d))))))))) a0r) (a0e (h.setF 7 (a0i a2E (a3O h.g z_sum h.calm (h.bv 5)) (a0X h.g z_len (h.bv 5)))) (a0f (a0k (h.cl a2s (a0a (h.v 6) (a0a (h.v 2) (a0a (h.v 3) (a0a (h.v 7) (a0a (a0i a01 (a0F (a0a a0c a0d)) (a04 (h.bv 0) (a1B a0c) (a1B a0c))) a0d)))))))))))))))))
end
theorem all_mk{l:c46}{w:World}{K:c0L}{h:Heap}{mg:Str->Option Value}{fa:Addr}(X:K.In h)(G:h.Ns mainGlobals mg)(hfa:mg "law" = some (.ref fa))
  (i1:FI K "holds_one" a5h f1 od1 an1 sl1 oc1 kV1 dc1 pm1 cd1 ct1)
  (i2:FI K "plain" b0c f2 od2 an2 sl2 oc2 kV2 dc2 pm2 cd2 ct2)
  (i3:FI K "line_at" a6J f3 od3 an3 sl3 oc3 kV3 dc3 pm3 cd3 ct3)
  (i4:FI K "laid_beside" a38 f4 od4 an4 sl4 oc4 kV4 dc4 pm4 cd4 ct4)
  (i5:FI K "laid" b1X f5 od5 an5 sl5 oc5 kV5 dc5 pm5 cd5 ct5)
  (i6:FI K "stretch_on" a4q f6 od6 an6 sl6 oc6 kV6 dc6 pm6 cd6 ct6)
  (i7:FI K "span_or_none" a3E f7 od7 an7 sl7 oc7 kV7 dc7 pm7 cd7 ct7)
  (i8:FI K "up" b8O f8 od8 an8 sl8 oc8 kV8 dc8 pm8 cd8 ct8)
  (i9:FI K "down" b1Y f9 od9 an9 sl9 oc9 kV9 dc9 pm9 cd9 ct9)
  (i10:FI K "no_dearer" a5e f10 od10 an10 sl10 oc10 kV10 dc10 pm10 cd10 ct10)
  (i11:FI K "lower_line" a4r f11 od11 an11 sl11 oc11 kV11 dc11 pm11 cd11 ct11)
  (i12:FI K "drawn_to" a5N f12 od12 an12 sl12 oc12 kV12 dc12 pm12 cd12 ct12)
  (i13:FI K "line_from" a5f f13 od13 an13 sl13 oc13 kV13 dc13 pm13 cd13 ct13)
  (i14:FI K "met" b5H f14 od14 an14 sl14 oc14 kV14 dc14 pm14 cd14 ct14)
  (i15:FI K "lesser_rows" a36 f15 od15 an15 sl15 oc15 kV15 dc15 pm15 cd15 ct15)
  (i16:FI K "cut" b5I f16 od16 an16 sl16 oc16 kV16 dc16 pm16 cd16 ct16)
  (i17:FI K "outside" a6I f17 od17 an17 sl17 oc17 kV17 dc17 pm17 cd17 ct17)
  (i18:FI K "spans_of" a5J f18 od18 an18 sl18 oc18 kV18 dc18 pm18 cd18 ct18)
  (i19:FI K "least" b0e f19 od19 an19 sl19 oc19 kV19 dc19 pm19 cd19 ct19)
  (i20:FI K "least_of" a5L f20 od20 an20 sl20 oc20 kV20 dc20 pm20 cd20 ct20)
  (i21:FI K "how_many_picks" a3b f21 od21 an21 sl21 oc21 kV21 dc21 pm21 cd21 ct21)
  (i22:FI K "picks" b0d f22 od22 an22 sl22 oc22 kV22 dc22 pm22 cd22 ct22)
  (i23:FI K "step_of" a6G f23 od23 an23 sl23 oc23 kV23 dc23 pm23 cd23 ct23)
  (i24:FI K "poured" a79 f24 od24 an24 sl24 oc24 kV24 dc24 pm24 cd24 ct24)
  (i25:FI K "least_poured" a3F f25 od25 an25 sl25 oc25 kV25 dc25 pm25 cd25 ct25)
  (i26:FI K "joined" a8b f26 od26 an26 sl26 oc26 kV26 dc26 pm26 cd26 ct26)
  (i27:FI K "from_on" a6K f27 od27 an27 sl27 oc27 kV27 dc27 pm27 cd27 ct27)
  (i28:FI K "standing" a5I f28 od28 an28 sl28 oc28 kV28 dc28 pm28 cd28 ct28)
  (i29:FI K "plus" b1W f29 od29 an29 sl29 oc29 kV29 dc29 pm29 cd29 ct29)
  (i30:FI K "times" b0b f30 od30 an30 sl30 oc30 kV30 dc30 pm30 cd30 ct30)
  (i31:FI K "spared" a78 f31 od31 an31 sl31 oc31 kV31 dc31 pm31 cd31 ct31)
  (i32:FI K "reaches" a6H f32 od32 an32 sl32 oc32 kV32 dc32 pm32 cd32 ct32)
  (i33:FI K "dealt" b0f f33 od33 an33 sl33 oc33 kV33 dc33 pm33 cd33 ct33)
  (i34:FI K "cost_and_shares" a21 f34 od34 an34 sl34 oc34 kV34 dc34 pm34 cd34 ct34)
  (i35:FI K "best_dealt" a4t f35 od35 an35 sl35 oc35 kV35 dc35 pm35 cd35 ct35)
  (i36:FI K "shares_at" a5d f36 od36 an36 sl36 oc36 kV36 dc36 pm36 cd36 ct36)
  (i37:FI K "_law_asked" a5g f37 od37 an37 sl37 oc37 kV37 dc37 pm37 cd37 ct37)
  (i38:FI K "_law_told" a5M f38 od38 an38 sl38 oc38 kV38 dc38 pm38 cd38 ct38)
  (i39:FI K "place_of" a5K f39 od39 an39 sl39 oc39 kV39 dc39 pm39 cd39 ct39)
  (i40:FI K "cost_at" a6L f40 od40 an40 sl40 oc40 kV40 dc40 pm40 cd40 ct40)
  (i41:FI K "_law_line_good" a3x f41 od41 an41 sl41 oc41 kV41 dc41 pm41 cd41 ct41)
  (i42:FI K "_law_seller" a4s f42 od42 an42 sl42 oc42 kV42 dc42 pm42 cd42 ct42)
  (i43:FI K "_law_cell_at" a37 f43 od43 an43 sl43 oc43 kV43 dc43 pm43 cd43 ct43)
  (i44:FI K "law" a8a f44 od44 an44 sl44 oc44 kV44 dc44 pm44 cd44 ct44)
  (zmax:c1s K mainGlobals "max" = some none)
  (zmin:c1s K mainGlobals "min" = some none)
  (ztuple:c1s K mainGlobals "tuple" = some none)
  (zlen:c1s K mainGlobals "len" = some none)
  (zsorted:c1s K mainGlobals "sorted" = some none)
  (zsum:c1s K mainGlobals "sum" = some none)
  (zMOST_PICKS:∃t,c1s K mainGlobals "MOST_PICKS" = some (some (.int 100 t)))
  (zzip:c1s K mainGlobals "zip" = some none)
  (zrange:c1s K mainGlobals "range" = some none)
  (zenumerate:c1s K mainGlobals "enumerate" = some none)
  (zisinstance:c1s K mainGlobals "isinstance" = some none)
  (zValueError:c1s K mainGlobals "ValueError" = some none)
  (zall:c1s K mainGlobals "all" = some none)
  {v0i:Addr}(v0Y:c1s K mainGlobals "NotOffered" = some (some (.ref v0i)))(v0r:c1K K (.ref v0i) "__getattribute__" = some (some (.builtin "BaseException.__getattribute__")))(v0u:c1K K (.ref v0i) "__getattr__" = some none)(v0x:c1K K (.ref v0i) "__class__" = some (some (.builtin "object.__class__")))(v0A:c24 K v0i (.type "object")=some true)(v0G:c24 K v0i (.type "BaseException")=some true)(v0D:(c5J K v0i).isSome=true)
  {v0j:Addr}(v0Z:c1s K mainGlobals "OfferError" = some (some (.ref v0j)))(v0s:c1K K (.ref v0j) "__getattribute__" = some (some (.builtin "BaseException.__getattribute__")))(v0v:c1K K (.ref v0j) "__getattr__" = some none)(v0y:c1K K (.ref v0j) "__class__" = some (some (.builtin "object.__class__")))(v0B:c24 K v0j (.type "object")=some true)(v0H:c24 K v0j (.type "BaseException")=some true)(v0E:(c5J K v0j).isSome=true)
  {v0k:Addr}(v1a:c1s K mainGlobals "TooMany" = some (some (.ref v0k)))(v0t:c1K K (.ref v0k) "__getattribute__" = some (some (.builtin "BaseException.__getattribute__")))(v0w:c1K K (.ref v0k) "__getattr__" = some none)(v0z:c1K K (.ref v0k) "__class__" = some (some (.builtin "object.__class__")))(v0C:c24 K v0k (.type "object")=some true)(v0I:c24 K v0k (.type "BaseException")=some true)(v0F:(c5J K v0k).isSome=true)
  (g4:c4x K (.builtin "object.__class__") "__get__" = some (some (.builtin "getset_descriptor.__get__")))(g5:c5Z K (.builtin "object.__class__")=some true)
  (v0p:c3K K (.ref v0i) (.ref v0j)=some true)
  (v0q:c3K K (.ref v0k) (.ref v0j)=some true)
  (v1f:c1U K (.ref v0i) (.ref v0i)=some true)
  (v1g:c1U K (.ref v0i) (.ref v0k)=some false)
  (v1h:c1U K (.ref v0k) (.ref v0i)=some false)
  (v1i:c1U K (.ref v0k) (.ref v0k)=some true)
  (v1n:c1U K (.ref v0i) (.type "ValueError")=some true)
  (v1o:c1U K (.ref v0k) (.type "ValueError")=some true)
  {v0e v0g v1l:List Value}{v0a:Addr}{v1b v1d:Str}{v0J v0c:Bool}{v1j:List Str}{v0l:Option Bool}{v0n:Option Addr}{v0L v0N v0P v0R v0T:Option Value}
  (v1p:K.lookup v0i=some (excClassObj v1b v1d v0i v0a v0g v0e v0J v1j v1l v0c v0l v0n v0L v0N v0P v0R v0T "ValueError.__new__"))(v1r:c5p K v0a=true)(v1t:c1s K v0a "__init__" = some none)(v1v:c5q K b6e v0e=true)
  {v0f v0h v1m:List Value}{v0b:Addr}{v1c v1e:Str}{v0K v0d:Bool}{v1k:List Str}{v0m:Option Bool}{v0o:Option Addr}{v0M v0O v0Q v0S v0U:Option Value}
  (v1q:K.lookup v0k=some (excClassObj v1c v1e v0k v0b v0h v0f v0K v1k v1m v0d v0m v0o v0M v0O v0Q v0S v0U "ValueError.__new__"))(v1s:c5p K v0b=true)(v1u:c1s K v0b "__init__" = some none)(v1w:c5q K b6e v0f=true)
  {cT pT:Addr}(hT:c1P K "dealt" = some (cT,pT))(hC:c3T K cT pT=true)
  (fin:∀ns:List Int,ns.length<=63->a7c [.lst true (ns.map D.int)]=some (.sh (.bl true))):
  ∃fd:FuncData,(∀(s:Shared) (v:Value),BindsTo s fd ⟨[v],[]⟩ [("script",v)])/\∀base:Heap,K.In base->base.Ns mainGlobals mg->FnOk l.prog w K mg base CX0 21 fa fd ["script"] (spT K):=by
 have e:=hfa.symm.trans (c3u X G i44.a)
 cases e
 have z_max:=c1D X G zmax
 have z_min:=c1D X G zmin
 have z_tuple:=c1D X G ztuple
 have z_len:=c1D X G zlen
 have z_sorted:=c1D X G zsorted
 have z_sum:=c1D X G zsum
 have z_MOST_PICKS:GcI mg "MOST_PICKS" 100:=zMOST_PICKS.imp λ_ q=>c3u X G q
 have z_zip:=c1D X G zzip
 have z_range:=c1D X G zrange
 have z_enumerate:=c1D X G zenumerate
 have z_isinstance:=c1D X G zisinstance
 have z_ValueError:=c1D X G zValueError
 have z_all:=c1D X G zall
 have TT:Tops K mg v0i v0j v0k:=⟨⟨v0Y,c3u X G v0Y,⟨v0r,v0u,v0x,g4,g5,v0A,v0G⟩,v0D⟩,⟨v0Z,c3u X G v0Z,⟨v0s,v0v,v0y,g4,g5,v0B,v0H⟩,v0E⟩,⟨v1a,c3u X G v1a,⟨v0t,v0w,v0z,g4,g5,v0C,v0I⟩,v0F⟩,v0p,v0q,v1f,v1g,v1h,v1i,v1n,v1o,⟨⟨v0e,v0a,v1b,v1d,v0g,v0J,v1j,v1l,v0c,v0l,v0n,v0L,v0N,v0P,v0R,v0T,v1p,v1r,v1t,v1v⟩⟩,⟨⟨v0f,v0b,v1c,v1e,v0h,v0K,v1k,v1m,v0d,v0m,v0o,v0M,v0O,v0Q,v0S,v0U,v1q,v1s,v1u,v1w⟩⟩⟩
 refine ⟨c1B "law" "law" (a1C a8a) (a0G a8a) (a0n a8a) .none kV44 dc44 pm44 an44 cd44 ct44,λs v=>.of_eq rfl,λbase _ _=>?_⟩
 have a1O:=a8s (P:=l.prog) (w:=w) (base:=base) (mkD1 X G i1)
 have a3Q:=b4f a1O (mkD1 X G i2)
 have a12:=b1g (P:=l.prog) (w:=w) (base:=base) (mkD3 X G i3)
 have a2O:=a6D a1O a3Q a12 (mkD2 X G i4)
 have a2t:=b6L z_tuple a3Q a2O (mkD1 X G i5)
 have a1N:=a7e a12 (mkD4 X G i6)
 have a11:=a5V (P:=l.prog) (w:=w) (base:=base) (mkD2 X G i7)
 have O_up:=ok_up (P:=l.prog) (w:=w) (base:=base) (mkD2 X G i8)
 have b02:=b6M (P:=l.prog) (w:=w) (base:=base) (mkD2 X G i9)
 have a3p:=a8p z_max z_min a11 O_up b02 (mkD4 X G i10)
 have a24:=a7g a1N a3p (mkD4 X G i11)
 have a0R:=a9u a12 (mkD2 X G i12)
 have a2Y:=a8q a0R (mkD2 X G i13)
 have a93:=b9l z_max z_min z_len a2Y (mkD2 X G i14)
 have a2N:=a6s a24 a93 (mkD2 X G i15)
 have a9d:=b9n a0R (mkD3 X G i16)
 have a3R:=b1f z_max z_len a9d (mkD2 X G i17)
 have a3h:=a9r (P:=l.prog) (w:=w) (base:=base) z_tuple (mkD1 X G i18)
 have a0L:=b4h z_sorted a2t a2N a3R a3h (mkD2 X G i19)
 have O_least_of__0:=a6B (P:=l.prog) (w:=w) (base:=base) (mkD1 X G i20)
 have a2r:=a6A z_len a0L O_least_of__0 (mkD1 X G i20)
 have a2q:=a6z z_len a0L a2r (mkD1 X G i20)
 have a2p:=a6y z_len a0L a2q (mkD1 X G i20)
 have a2o:=a6x z_len a0L a2p (mkD1 X G i20)
 have a2n:=a6w z_len a0L a2o (mkD1 X G i20)
 have a2m:=a6v z_len a0L a2n (mkD1 X G i20)
 have a2l:=a6u z_len a0L a2m (mkD1 X G i20)
 have a1s:=a6t z_len a0L a2l (mkD1 X G i20)
 have a0w:=a40 (P:=l.prog) (w:=w) (base:=base) z_len (mkD1 X G i21)
 have a2L:=b4g TT z_MOST_PICKS a0w (mkD1 X G i22)
 have a2k:=b3D TT z_MOST_PICKS a0w (mkD1 X G i22)
 have a4G:=b1d (P:=l.prog) (w:=w) (base:=base) (mkD1 X G i23)
 have a31:=b2n z_sorted z_sum a2t a4G (mkD1 X G i24)
 have a1y:=a5W a1s a2L a2k a31 (mkD1 X G i25)
 have a1k:=a5z a1s a2L a2k a31 (mkD1 X G i25)
 have a0E:=b2o a1y a1k (mkD1 X G i26)
 have a0J:=b1D a1y a1k (mkD1 X G i26)
 have a2Z:=b1h z_max a2t a9d (mkD2 X G i27)
 have a1S:=a9q z_zip a0E a0J a2Z (mkD2 X G i28)
 have a2B:=a9g z_zip a0E a0J a2Z (mkD2 X G i28)
 have a6k:=b6K a2t a93 (mkD2 X G i29)
 have a4k:=b4e a2t (mkD2 X G i30)
 have a2D:=b2m z_enumerate a0E a0J a6k a4k (mkD2 X G i31)
 have a3g:=b1C z_enumerate a0E a0J a6k a4k (mkD2 X G i31)
 have a2X:=b1e (P:=l.prog) (w:=w) (base:=base) z_sum (mkD2 X G i32)
 have a7W:=b4i (P:=l.prog) (w:=w) (base:=base) z_min z_len z_sorted z_sum z_range (mkD2 X G i33) (b3M hT i33.a i33.l) hT hC
 have a0H:=a4y z_sum z_zip a0R a7W (mkD2 X G i34)
 have a2c:=a7j TT z_min a2L a2k a2X a0H (mkD2 X G i35)
 have a1R:=a61 TT z_min a2L a2k a2X a0H (mkD2 X G i35)
 have a15:=a8o a2c a1R (mkD2 X G i36)
 have a2a:=a7Y a2c a1R (mkD2 X G i36)
 have a3q:=a8r a0E a0J a1S a2B a2D a3g a15 a2a (mkD3 X G i37)
 have a23:=a7Z a0E a0J a1S a2B a2D a3g a15 a2a (mkD3 X G i37)
 have a1z:=a9t TT z_isinstance z_ValueError a3q a23 (mkD3 X G i38)
 have a32:=a9s (P:=l.prog) (w:=w) (base:=base) z_len (mkD2 X G i39)
 have a4H:=b1i z_len a0R a32 (mkD2 X G i40)
 have a2s:=a5n z_len z_sum a0E a1z a4H (mkD5 X G i41)
 have a25:=a7h z_range a2t (mkD3 X G i42)
 have a1T:=a6C (P:=l.prog) (w:=w) (base:=base) z_len (mkD2 X G i43)
 have O_law:=b9m z_len z_sum z_range z_all a1S a2D a1z a2s a25 a1T (mkD1 X G i44)
 exact b9w O_law fin
end My
open PySem L2 DL
def vcNames:String:="a0g a0u a0l a2b a2e b16 b15 b14 Wo_seq c0m Wo_bk Wo_ct c0i b7U c0h b7Q c0F b98 b78 b8p b7B Wo_eV Wo_eC c0D c0n b70 b76 b7Y b72 b75 c0s b3u b73 b7Z c0q c0r c0t c0u c0v c0p b74 b71 b5m b5i b5l b5h b5k b5g b8q b8s b8r rep0 rep1 rep2 rep3 rep4 b48 b5w b5x b8a b8b b79 b8d b8o b8m b8g b8h b7X c0C b5d b5e b8t b8u c0o b7V b2H b4C b2J b2G b2F b2I c0e c0H b7N b7M b7L b7I b7K b7J b49 b7P c0d b7O b8n c0z b8f c0B b8v b5A b8c b8i b99 c0b c0a Wo_bV c0E c0f c0g b8j b5t b3r ixQ_i c0A atI_0 atI_1 atI_2 atI_3 b5v b3w b5y b5z b8k b7p b7q c0w b77 a91 a9c b7S b7R b5c b5b b3J b3K b3L b3I Wo_gN Wo_gT b5f b3q c0G c0c c0I b9P c0x c0j b61 b7W b7D b7C b7T c0l pQ_i c0k c0y b3v lrQ_i b8e slQ_t b44 b45 b46 b47 b5r b5q srQ_l b1A b5u b5n b5p Sl_sh Sl_ow b5o List.getElem?_cons_zero List.getElem?_cons_succ List.set_cons_zero List.set_cons_succ List.length_cons List.length_nil a9K b1s a9M a9J a9I a9L a8P a9N a8R a8O a8N a8Q a9E b1r a9G a9D a9C a9F a8K a9H a8M a8J a8I a8L a7x a8H a7z a7w a7v a7y decide_eq_true_eq decide_eq_false_iff_not Bool.not_eq_true' Bool.not_eq_false' Bool.not_true Bool.not_false true_and and_true forall_const Bool.true_eq_false Bool.false_eq_true false_implies reduceCtorEq implies_true true_implies Int.reduceToNat Nat.reduceAdd Nat.reduceLT Nat.reduceLeDiff Nat.reduceSub Int.reduceLT Int.reduceLE Int.reduceEq Int.cast_ofNat_Int not_true_eq_false not_false_eq_true"
local macro_rules | `(tactic| walk_at "vc")=>do
 let ls ← ((vcNames.splitOn " ") ++ ["a10","a9b","b4z","b64","b4B","b4y","b4x","b4A"]).toArray.mapM fun s=>`(Lean.Parser.Tactic.simpLemma| $(Lean.mkIdent s.toName):ident)
 `(tactic| first | simp only [$ls,*] | dsimp only | skip)
local macro_rules | `(tactic| walk_at "v1")=>do
 let ls ← (vcNames.splitOn " ").toArray.mapM fun s=>`(Lean.Parser.Tactic.simpLemma| $(Lean.mkIdent s.toName):ident)
 `(tactic| first | simp only [$ls,*] | dsimp only | skip)
local macro_rules | `(tactic| walk_at "sc")=>`(tactic| first | omega | (simp only [DivC,PowC,MulC,LIM,R62]; omega) | rfl | decide)
local macro_rules | `(tactic| walk_at "go")=>`(tactic| (walk_at "vc"; repeat' first | apply c5F | intro _); all_goals try (walk_at "sc"))
local macro_rules | `(tactic| walk_at "sp")=>`(tactic| (repeat' first | apply And.intro | intro _); all_goals first | (exfalso; omega) | walk_at "sc" | ((repeat apply Exists.intro); rfl) | skip)
local macro_rules | `(tactic| walk_at "st")=>`(tactic| repeat (refine And.intro ?_ ?_; · first | (simp only [DivC,PowC,MulC,LIM,R62]; omega) | omega))
namespace My
noncomputable abbrev Row:=Int×Int×Int×Int
noncomputable def Row.d(r:Row):D:=.tup [.int r.1,.int r.2.1,.int r.2.2.1,.int r.2.2.2]
theorem a1l(r:Row):Row.d r=.tup [.int r.1,.int r.2.1,.int r.2.2.1,.int r.2.2.2]:=rfl
noncomputable def Row.at(r:Row)(x:Int):Int:=r.2.2.1+r.2.2.2*(x-r.1)
def a7V(r:Row):Prop:=r.1<=r.2.1/\(r.1=r.2.1->r.2.2.2=0)
def a6Z(a r:Row):Prop:=a.2.1<r.1/\(r.1=a.2.1+1->a.1<a.2.1/\r.2.2.1≠a.at r.1)
noncomputable def Links(R:Row->Row->Prop):List Row->Prop
 | a::b::rs=>R a b/\Links R (b::rs)
 | _=>True
theorem Links.snoc{R:Row->Row->Prop}{r:Row}:∀{rs:List Row},Links R rs->(∀a,rs.getLast?=some a->R a r)->Links R (rs++[r])
 | [],_,_=>trivial
 | [a],_,h=>⟨h a rfl,trivial⟩
 | a::b::rs,h,k=>⟨h.1,h.2.snoc (rs:=b::rs) λc hc=>k c (by simpa using hc)⟩
theorem Links.tail{R:Row->Row->Prop}{r:Row}{rs:List Row}(h:Links R (r::rs)):Links R rs:=by
 cases rs with
 | nil=>trivial
 | cons q rs=>exact h.2
def Canon(rs:List Row):Prop:=(∀r∈rs,a7V r)/\Links a6Z rs
def BdRow(B:Int)(r:Row):Prop:=(-B<=r.1/\r.1<=B)/\(-B<=r.2.1/\r.2.1<=B)/\(-B<=r.2.2.1/\r.2.2.1<=B)/\(-B<=r.2.2.2/\r.2.2.2<=B)
noncomputable def look:List Row->Int->Option Int
 | [],_=>none
 | r::rs,x=>if r.1<=x/\x<=r.2.1 then some (r.at x) else look rs x
noncomputable def encI:Option Int->D
 | none=>.non
 | some i=>.int i
def Asc(rs:List Row):Prop:=(∀r∈rs,r.1<=r.2.1)/\rs.Pairwise λa b=>a.2.1<b.1
theorem Canon.asc:∀{rs:List Row},Canon rs->Asc rs
 | [],_=>⟨λ_ z=>(nomatch z),.nil⟩
 | [r],h=>⟨λq hq=>(h.1 q hq).1,c1I _ _⟩
 | r::q::rs,h=>by
  obtain ⟨i1,i2⟩:=Canon.asc (rs:=q::rs) ⟨λa ha=>h.1 a (c0O _ ha),h.2.2⟩
  refine ⟨λa ha=>(h.1 a ha).1,c08.mpr ⟨λa ha=>?_,i2⟩⟩
  have h1:=h.2.1.1
  rcases c0R.mp ha with rfl | ha
  .exact h1
  .have:=(c08.mp i2).1 a ha
   have:=i1 q c0N
   lia
theorem a53{x:Int}{post:List Row}:∀{pre:List Row},(∀q∈pre,q.2.1<x)->look (pre++post) x=look post x
 | [],_=>rfl
 | r::pre,h=>by
  have:=h r c0N
  rw [c3V,look,if_neg (by omega)]
  exact a53 λq hq=>h q (c0O _ hq)
theorem a4B{x:Int}:∀{rs:List Row},(∀q∈rs,x<q.1\/q.2.1<x)->look rs x=none
 | [],_=>rfl
 | r::rs,h=>by
  have:=h r c0N
  rw [look,if_neg (by lia)]
  exact a4B λq hq=>h q (c0O _ hq)
theorem a4C{x c:Int}:∀{rs:List Row},look rs x=some c->∃r∈rs,r.1<=x/\x<=r.2.1/\c=r.at x
 | [],h=>by cases h
 | r::rs,h=>by
  rw [look] at h
  split at h
  .exact ⟨r,c0N,by lia,by lia,(c0U h).symm⟩
  .obtain ⟨q,hq,k⟩:=a4C h
   exact ⟨q,c0O _ hq,k⟩
theorem a2U{rs:List Row}(h:Asc rs){r:Row}(hr:r∈rs){x:Int}(h1:r.1<=x)(h2:x<=r.2.1):look rs x=some (r.at x):=by
 obtain ⟨pre,post,rfl⟩:=c5K hr
 rw [a53 λq hq=>?_,look,if_pos ⟨h1,h2⟩]
 have:=(c1g.mp h.2).2.2 q hq r c0N
 exact Int.lt_of_lt_of_le ‹_› ‹_›
def Val(rs:List Row)(x c:Int):Prop:=∃r∈rs,r.1<=x/\x<=r.2.1/\c=r.at x
theorem a1D{rs:List Row}(h:Asc rs){x c:Int}:look rs x=some c↔Val rs x c:=
 ⟨a4C,λ⟨r,hr,h1,h2,e⟩=>by rw [a2U h hr h1 h2,e]⟩
theorem a9x{rs qs:List Row}(h:Asc rs)(k:Asc qs){x:Int}(e:∀c,Val rs x c↔Val qs x c):look rs x=look qs x:=by
 cases h1:look rs x with
 | some c=>exact ((a1D k).mpr ((e c).mp ((a1D h).mp h1))).symm
 | none =>
  cases h2:look qs x with
  | none=>rfl
  | some c =>
   have:=(a1D h).mpr ((e c).mpr ((a1D k).mp h2))
   rw [h1] at this;cases this
theorem Val.app{rs qs:List Row}{x c:Int}:Val (rs++qs) x c↔Val rs x c\/Val qs x c:=by
 unfold Val
 constructor
 .rintro ⟨r,hr,h⟩
  rcases c03.mp hr with hr | hr
  .exact .inl ⟨r,hr,h⟩
  .exact .inr ⟨r,hr,h⟩
 .rintro (⟨r,hr,h⟩ | ⟨r,hr,h⟩)
  .exact ⟨r,c1a _ hr,h⟩
  .exact ⟨r,c04 _ hr,h⟩
theorem Val.one{r:Row}{x c:Int}:Val [r] x c↔r.1<=x/\x<=r.2.1/\c=r.at x:=by
 unfold Val
 simp
theorem Val.two{r q:Row}{x c:Int}:Val [r,q] x c↔(r.1<=x/\x<=r.2.1/\c=r.at x)\/(q.1<=x/\x<=q.2.1/\c=q.at x):=by
 unfold Val
 simp
noncomputable def total(rs:List Row):Int:=(rs.map λr=>r.2.1-r.1+1).sum
theorem a2R(rs qs:List Row):total (rs++qs)=total rs+total qs:=by unfold total;rw [c1c,c33]
theorem Links.append{R:Row->Row->Prop}:∀{rs qs:List Row},Links R rs->Links R qs->(∀a b,rs.getLast?=some a->qs.head?=some b->R a b)->Links R (rs++qs)
 | [],_,_,h,_=>h
 | [a],[],_,_,_=>trivial
 | [a],b::qs,_,h,k=>⟨k a b rfl rfl,h⟩
 | a::b::rs,qs,h,h',k=>⟨h.1,Links.append (rs:=b::rs) h.2 h' λc d hc hd=>k c d (by simpa using hc) hd⟩
theorem Links.left{R:Row->Row->Prop}:∀{rs qs:List Row},Links R (rs++qs)->Links R rs
 | [],_,_=>trivial
 | [a],_,_=>trivial
 | a::b::rs,qs,h=>⟨h.1,Links.left (rs:=b::rs) h.2⟩
theorem Links.mid{R:Row->Row->Prop}{b:Row}:∀{rs:List Row},Links R (rs++[b])->∀a,rs.getLast?=some a->R a b
 | [],_,a,h=>by cases h
 | [a],h,c,hc=>by cases hc;exact h.1
 | a::c::rs,h,d,hd=>Links.mid (rs:=c::rs) h.2 d (by simpa using hd)
theorem Links.get{R:Row->Row->Prop}:∀{rs:List Row},Links R rs->∀(k:Nat) (h:k+1<rs.length),R (rs[k]'(c2A ‹_›)) rs[k+1]
 | [],_,k,h=>absurd h (by simp)
 | [a],_,k,h=>absurd h (by simp)
 | a::b::rs,h,0,_=>h.1
 | a::b::rs,h,k+1,hk=>Links.get (rs:=b::rs) h.2 k (by simpa using hk)
theorem a7M{rs:List Row}{n:Nat}(h:n<rs.length):atI (rs.map Row.d) (n:Int)=some (Row.d rs[n]):=by
 rw [DL.atI_nat];simp [h]
theorem BdRow.mono{A B:Int}{r:Row}(h:BdRow A r)(hab:A<=B):BdRow B r:=by unfold BdRow at *;omega
theorem b7n{n:Nat}(x y:Row):eqD (n+1) x.d y.d=some (decide (x=y)):=by
 obtain ⟨a,b,c,d⟩:=x
 obtain ⟨a',b',c',d'⟩:=y
 simp only [Row.d,eqD,c4X,List.zipWith_nil_left,allS,c3w,List.all_cons,List.all_nil,c1u,List.length_nil,id]
 simp [Bool.and_assoc]
theorem b22{p s l x:Int}(h1:-(10^250)<=s)(h2:s<=10^250)(h3:-(10^250)<=x-l)(h4:x-l<=10^250):a1J [.tup [.int p,.int s],.int l,.int x]=some (.sh (.int (p+s*(x-l)))):=by
 refine Wo.eq (W_line_at.mpr ?_)
 unfold a6o
 walk_at "go"
theorem a7E{r:Row}{x:Int}(h1:-(10^250)<=r.2.2.2)(h2:r.2.2.2<=10^250)(h3:-(10^250)<=x-r.1)(h4:x-r.1<=10^250):a1m [r.d,.int x]=some (.sh (.int (r.at x))):=by
 refine Wo.eq (W_drawn_to.mpr ?_)
 unfold a5c
 rw [a1l r]
 walk_at "vc"
 rw [b22 h1 h2 h3 h4]
 walk_at "vc"
 rfl
theorem b9X{a b:Int}(h:0<b)(h2:b<=10^250):a4w [.int a,.int b]=some (.sh (.int (a/b))):=by
 refine Wo.eq (W_down.mpr ?_)
 unfold b3A
 walk_at "go"
theorem e_up{a b:Int}(h:0<b)(h2:b<=10^250):a8j [.int a,.int b]=some (.sh (.int (-(-a/b)))):=by
 refine Wo.eq (W_up.mpr ?_)
 unfold G_up
 walk_at "go"
noncomputable def encP:Option (Int×Int)->D
 | none=>.non
 | some (a,b)=>.tup [.int a,.int b]
noncomputable def spn(a b:Int):Option (Int×Int):=if a<=b then some (a,b) else none
theorem b9U(a b:Int):a0Y [.int a,.int b]=some (.sh (encP (spn a b))):=by
 refine Wo.eq (W_span_or_none.mpr ?_)
 unfold a3a
 walk_at "go"
 all_goals simp [spn,encP, *]
noncomputable def nd(a s low high:Int):Option (Int×Int):=if 0<s then spn low (min high (low+(-a)/s)) else if s<0 then spn (max low (low + -((-a)/(-s)))) high else if 0<a then none else some (low,high)
theorem e_nd{p1 s1 p2 s2 low high:Int}(h:-(10^250)<=s1-s2)(h2:s1-s2<=10^250):
  a2g [.tup [.int p1,.int s1],.tup [.int p2,.int s2],.int low,.int high]=some (.sh (encP (nd (p1-p2) (s1-s2) low high))):=by
 refine Wo.eq (W_no_dearer.mpr ?_)
 unfold a4l
 walk_at "vc"
 refine ⟨λhs=>?_,λhs=>⟨λhs2=>?_,λhs2=>⟨λha=>?_,λha=>?_⟩⟩⟩
 .rw [b9X hs h2]
  walk_at "vc"
  rw [b9U]
  walk_at "vc"
  rw [nd,if_pos hs]
 .rw [e_up (by lia) (by lia)]
  walk_at "vc"
  rw [b9U]
  walk_at "vc"
  rw [nd,if_neg hs,if_pos hs2]
 .rw [nd,if_neg hs,if_neg hs2,if_pos ha];rfl
 .rw [nd,if_neg hs,if_neg hs2,if_neg ha];rfl
theorem b2s{a s low high:Int}(hlh:low<=high):match nd a s low high with
  | none=>∀x,low<=x->x<=high->0<a+s*(x-low)
  | some (f,l)=>(low<=f/\f<=l/\l<=high/\(f=low\/l=high))/\∀x,low<=x->x<=high->(a+s*(x-low)<=0↔f<=x/\x<=l):=by
 unfold nd
 by_cases hs:0<s
 .rw [if_pos hs]
  obtain ⟨f1,f2⟩:=b0J (a:=-a) hs
  generalize (-a)/s=q at *
  have key:∀x,a+s*(x-low)<=0↔x-low<=q:=λx=>by
   constructor
   .intro h
    rcases c5S q (x-low) with h' | h'
    .have:=c2l (show q+1<=x-low by assumption) (c2C hs)
     grind
    .exact h'
   .intro h
    have:=c2l h (c2C hs)
    grind
  unfold spn
  by_cases hm:low<=min high (low+q)
  .rw [if_pos hm]
   refine ⟨⟨c0T _,‹_›,Int.min_le_left _ _,.inl rfl⟩,λx h1 h2=>?_⟩
   rw [key]
   lia
  .rw [if_neg hm]
   intro x h1 h2
   have:=not_congr (key x)
   lia
 .rw [if_neg hs]
  by_cases hs2:s<0
  .rw [if_pos hs2]
   obtain ⟨f1,f2⟩:=b0J (a:=-a) (b:=-s) (by lia)
   generalize (-a)/(-s)=q at *
   have key:∀x,a+s*(x-low)<=0 ↔ -q<=x-low:=λx=>by
    constructor
    .intro h
     rcases c5S (x-low) (-q) with h' | h'
     .have:=c2l (show x-low+1 <= -q by assumption) (show 0 <= -s by lia)
      grind
     .exact h'
    .intro h
     have:=c2l h (show 0 <= -s by lia)
     grind
   unfold spn
   by_cases hm:max low (low + -q)<=high
   .rw [if_pos hm]
    refine ⟨⟨Int.le_max_left _ _,‹_›,c0T _,.inr rfl⟩,λx h1 h2=>?_⟩
    rw [key]
    lia
   .rw [if_neg hm]
    intro x h1 h2
    have:=not_congr (key x)
    lia
  .rw [if_neg hs2]
   have:s=0:=by lia
   subst this
   by_cases ha:0<a
   .rw [if_pos ha];intro x _ _;lia
   .rw [if_neg ha];exact ⟨⟨c0T _,‹_›,c0T _,.inl rfl⟩,λx h1 h2=>by lia⟩
theorem b4S{p s l f g:Int}(h1:-(10^250)<=s)(h2:s<=10^250)(h3:-(10^250)<=f-l)(h4:f-l<=10^250):a0P [.tup [.int p,.int s],.int l,.int f,.int g]=some (.sh (.tup [.int f,.int g,.int (p+s*(f-l)),.int s])):=by
 refine Wo.eq (W_stretch_on.mpr ?_)
 unfold a3S
 walk_at "vc"
 rw [b22 h1 h2 h3 h4]
 walk_at "go"
noncomputable def ston(p s l f g:Int):Row:=(f,g,p+s*(f-l),s)
noncomputable def lowl(p1 s1 p2 s2 low high:Int):List Row:=match nd (p1-p2) (s1-s2) low high with
 | none=>[ston p2 s2 low low high]
 | some (f,l)=>(if low<f then [ston p2 s2 low low (f-1)] else [])++[ston p1 s1 low f l]++(if l<high then [ston p2 s2 low (l+1) high] else [])
theorem b9W{p1 s1 p2 s2 low high:Int}(hlh:low<=high)(hw:high-low<=10^200)(h1:-(10^200)<=s1)(h2:s1<=10^200)(h3:-(10^200)<=s2)(h4:s2<=10^200):
  a1Z [.tup [.int p1,.int s1],.tup [.int p2,.int s2],.int low,.int high]=some (.ow ((lowl p1 s1 p2 s2 low high).map Row.d)):=by
 refine Wo.eq (W_lower_line.mpr ?_)
 unfold a3T
 walk_at "vc"
 rw [e_nd (by lia) (by lia)]
 have sp:=b2s (a:=p1-p2) (s:=s1-s2) (low:=low) (high:=high) hlh
 unfold lowl
 cases hnd:nd (p1-p2) (s1-s2) low high with
 | none =>
  dsimp only [encP]
  walk_at "vc"
  rw [b4S (zqa ‹_› (by decide)) (c1e ‹_› (by decide)) (by lia) (by lia)]
  walk_at "vc"
  rfl
 | some fl =>
  obtain ⟨f,l⟩:=fl
  rw [hnd] at sp
  obtain ⟨⟨q1,q2,q3,q4⟩,q5⟩:=sp
  dsimp only [encP]
  walk_at "vc"
  rw [b4S (zqa ‹_› (by decide)) (c1e ‹_› (by decide)) (by lia) (by lia),b4S (zqa ‹_› (by decide)) (c1e ‹_› (by decide)) (by lia) (by lia),b4S (zqa ‹_› (by decide)) (c1e ‹_› (by decide)) (by lia) (by lia)]
  walk_at "vc"
  refine ⟨λa=>?_,λa=>?_⟩<;>(repeat' first | apply c5F | intro _)<;>simp [*,Row.d,ston]
theorem b7t(r:Row):a0Z [r.d]=some (.sh (.bl (decide (r.1=r.2.1)))):=by
 refine Wo.eq (W_holds_one.mpr ?_)
 unfold a4n
 rw [a1l r]
 walk_at "go"
noncomputable def a07(r:Row):Row:=if r.1=r.2.1 then (r.1,r.2.1,r.2.2.1,0) else r
theorem a7D(r:Row):a2f [r.d]=some (.sh (a07 r).d):=by
 refine Wo.eq (W_plain.mpr ?_)
 unfold a94
 walk_at "vc"
 rw [b7t]
 walk_at "vc"
 unfold a07
 refine ⟨λh=>?_,λh=>?_⟩
 .rw [if_pos h,a1l]
  walk_at "vc"
  rfl
 .rw [if_neg h]
noncomputable def a35(a r:Row):Int:=if a.1=a.2.1 then r.2.2.1-a.2.2.1 else a.2.2.2
noncomputable def a1X(a r:Row):List Row:=if r.2.2.1≠a.2.2.1+a35 a r*(r.1-a.1) then [a,a07 r] else if r.1=r.2.1\/r.2.2.2=a35 a r then [(a.1,r.2.1,a.2.2.1,a35 a r)] else
 [(a.1,r.1,a.2.2.1,a35 a r),a07 (r.1+1,r.2.1,r.2.2.1+r.2.2.2,r.2.2.2)]
theorem b4X{a r:Row}(ha:BdRow (3*10^140) a)(hr:BdRow (10^140) r):a1M [a.d,r.d]=some (.ow ((a1X a r).map Row.d)):=by
 refine Wo.eq (W_laid_beside.mpr ?_)
 unfold a3v
 walk_at "v1"
 rw [b7t]
 unfold BdRow at ha hr
 have hst:Wo (some (Sl.sh (D.bl (decide (a.1=a.2.1))))) λr_1=>Wo (truD r_1.d) λb=>True:=⟨_,rfl,_,rfl,trivial⟩
 have hsb:-(10^200)<=a35 a r/\a35 a r<=10^200:=by unfold a35;split<;>omega
 rw [a1l a,a1l r]
 walk_at "v1"
 have fin:∀{st:Int},st=a35 a r->Wo (sSeq (sIf (tOf (eBin gNeD (eIx (bV 1) (eC (.int 2))) (a0h 3 a1J (a0b (eTup (a0b (eIx (bV 0) (eC (.int 2))) (a0b (eV 2) aNil))) (a0b (eIx (bV 0) (eC (.int 0))) (a0b (eIx (bV 1) (eC (.int 0))) aNil))))))
   (sRet (eLst (a0b (eV 0) (a0b (a0h 1 a2f (a0b (eV 1) aNil)) aNil)))) sNx)
   (sSeq (sIf (tOrF (tTru (a0h 1 a0Z (a0b (eV 1) aNil))) (tOf (eBin gEqD (eIx (bV 1) (eC (.int 3))) (eV 2))))
   (sRet (eLst (a0b (eTup (a0b (eIx (bV 0) (eC (.int 0))) (a0b (eIx (bV 1) (eC (.int 1))) (a0b (eIx (bV 0) (eC (.int 2))) (a0b (eV 2) aNil))))) aNil))) sNx)
   (sSeq (a0x 3 (a0h 1 a2f (a0b (eTup (a0b (eBin gAdd (eIx (bV 1) (eC (.int 0))) (eC (.int 1))) (a0b (eIx (bV 1) (eC (.int 1))) (a0b (eBin gAdd (eIx (bV 1) (eC (.int 2))) (eIx (bV 1) (eC (.int 3)))) (a0b (eIx (bV 1) (eC (.int 3))) aNil))))) aNil)))
   (sRet (eLst (a0b (eTup (a0b (eIx (bV 0) (eC (.int 0))) (a0b (eIx (bV 1) (eC (.int 0))) (a0b (eIx (bV 0) (eC (.int 2))) (a0b (eV 2) aNil))))) (a0b (eV 3) aNil)))))) [.sh (.tup [.int a.1,.int a.2.1,.int a.2.2.1,.int a.2.2.2]),.sh (.tup [.int r.1,.int r.2.1,.int r.2.2.1,.int r.2.2.2]),.sh (.int st),.no])
   (endQ λx=>x=.ow ((a1X a r).map Row.d)):=by
  rintro st rfl
  walk_at "vc"
  rw [b22 (by omega) (by omega) (by omega) (by omega),<-a1l r,a7D,b7t]
  have e2:=a7D (r.1+1,r.2.1,r.2.2.1+r.2.2.2,r.2.2.2)
  rw [a1l] at e2
  dsimp only at e2
  rw [e2]
  walk_at "vc"
  unfold a1X
  refine ⟨λh=>?_,λh=>⟨λh1=>?_,λh1=>⟨λh2=>?_,λh2=>?_⟩⟩⟩
  .rw [if_pos h];rfl
  .rw [if_neg (by simpa using h),if_pos (.inl h1)];rfl
  .rw [if_neg (by simpa using h),if_pos (.inr h2)];rfl
  .rw [if_neg (by simpa using h),if_neg (by simp [h1,h2])];rfl
 refine ⟨λh=>?_,λh=>?_⟩
 .exact Wo_seq.mp (fin (by unfold a35;rw [if_pos h]))
 .exact Wo_seq.mp (fin (by unfold a35;rw [if_neg h]))
theorem a89{a r:Row}(ha:a7V a)(hr:r.1<=r.2.1)(hn:r.1=a.2.1+1):(∀q∈a1X a r,a7V q)/\Links a6Z (a1X a r)/\(∀x c,Val (a1X a r) x c↔(a.1<=x/\x<=a.2.1/\c=a.at x)\/(r.1<=x/\x<=r.2.1/\c=r.at x)) /\
  total (a1X a r)=(a.2.1-a.1+1)+(r.2.1-r.1+1)/\(∃q,(a1X a r).head?=some q/\q.1=a.1/\q.2.2.1=a.2.2.1)/\(∃q,(a1X a r).getLast?=some q/\q.2.1=r.2.1)/\(a1X a r).length<=2:=by
 obtain ⟨a0,a1,a2,a3⟩:=a
 obtain ⟨r0,r1,r2,r3⟩:=r
 unfold a7V at ha
 dsimp only at ha hr hn
 have hpl:∀r:Row,r.1<=r.2.1->a7V (a07 r)/\(a07 r).1=r.1/\(a07 r).2.1=r.2.1/\(a07 r).2.2.1=r.2.2.1/\∀x,r.1<=x->x<=r.2.1->(a07 r).at x=r.at x:=λr h=>by
  unfold a07
  split
  .rename_i e
   refine ⟨⟨by dsimp only;assumption,λ_=>rfl⟩,rfl,rfl,rfl,λx h1 h2=>?_⟩
   have:x=r.1:=by lia
   unfold Row.at
   dsimp only
   rw [this];simp
  .rename_i e
   exact ⟨⟨h,λz=>absurd z e⟩,rfl,rfl,rfl,λ_ _ _=>rfl⟩
 generalize hs:a35 (a0,a1,a2,a3) (r0,r1,r2,r3)=s
 have hs1:a0=a1->s=r2-a2:=λe=>by rw [<-hs];unfold a35;dsimp only;rw [if_pos e]
 have hs2:a0≠a1->s=a3:=λe=>by rw [<-hs];unfold a35;dsimp only;rw [if_neg e]
 unfold a1X
 dsimp only
 rw [hs]
 by_cases hne:r2≠a2+s*(r0-a0)
 .rw [if_pos hne]
  have h01:a0≠a1:=λe=>hne (by rw [hs1 e,hn,<-e];grind)
  have hs:=hs2 h01
  obtain ⟨p1,p2,p3,p4,p5⟩:=hpl (r0,r1,r2,r3) hr
  dsimp only at p2 p3 p4 p5
  refine ⟨λq hq=>?_,⟨⟨by rw [p2];dsimp only;exact zqv ‹_›,λ_=>⟨by dsimp only;lia,?_⟩⟩,trivial⟩,λx c=>?_,?_,⟨_,rfl,rfl,rfl⟩,⟨_,rfl,p3⟩,by simp⟩
  .simp at hq
   rcases hq with rfl | rfl
   .exact ha
   .exact p1
  .rw [p4,p2]
   unfold Row.at
   dsimp only
   rw [<-hs];exact hne
  .rw [Val.two,p2,p3]
   constructor
   .rintro (h | ⟨h1,h2,h3⟩)
    .exact .inl h
    .exact .inr ⟨h1,h2,by rw [h3,p5 x h1 h2]⟩
   .rintro (h | ⟨h1,h2,h3⟩)
    .exact .inl h
    .exact .inr ⟨h1,h2,by rw [h3,p5 x h1 h2]⟩
  .unfold total
   simp [p2,p3]
 .have he:r2=a2+s*(r0-a0):=Classical.not_not.mp hne
  rw [if_neg hne]
  have va:∀x,a0<=x->x<=a1->a2+s*(x-a0)=a2+a3*(x-a0):=λx h1 h2=>by
   by_cases e:a0=a1
   .have:x=a0:=by lia
    rw [this];simp
   .rw [hs2 e]
  by_cases hj:r0=r1\/r3=s
  .rw [if_pos hj]
   have vr:∀x,r0<=x->x<=r1->a2+s*(x-a0)=r2+r3*(x-r0):=λx h1 h2=>by
    have e1:a2+s*(x-a0)=r2+s*(x-r0):=by rw [he];grind
    rw [e1]
    rcases hj with e | e
    .have:x=r0:=by lia
     rw [this];simp
    .rw [e]
   refine ⟨λq hq=>?_,trivial,λx c=>?_,?_,⟨_,rfl,rfl,rfl⟩,⟨_,rfl,rfl⟩,by simp⟩
   .simp at hq
    subst hq
    exact ⟨by dsimp only;lia,λz=>by dsimp only at z;lia⟩
   .rw [Val.one]
    unfold Row.at
    dsimp only
    constructor
    .rintro ⟨h1,h2,h3⟩
     by_cases hx:x<=a1
     .exact .inl ⟨h1,hx,by rw [h3];exact va x h1 hx⟩
     .exact .inr ⟨by lia,h2,by rw [h3];exact vr x (by lia) h2⟩
    .rintro (⟨h1,h2,h3⟩ | ⟨h1,h2,h3⟩)
     .exact ⟨h1,by lia,by rw [h3];exact (va x h1 h2).symm⟩
     .exact ⟨by lia,h2,by rw [h3];exact (vr x h1 h2).symm⟩
   .unfold total
    simp
    lia
  .rw [if_neg hj]
   have hj1:r0≠r1:=λe=>hj (.inl e)
   have hj2:r3≠s:=λe=>hj (.inr e)
   obtain ⟨p1,p2,p3,p4,p5⟩:=hpl (r0+1,r1,r2+r3,r3) (by dsimp only;lia)
   dsimp only at p2 p3 p4 p5
   have vp:∀x,Row.at (r0+1,r1,r2+r3,r3) x=r2+r3*(x-r0):=λx=>by unfold Row.at;dsimp only;grind
   refine ⟨λq hq=>?_,⟨⟨by rw [p2];dsimp only;exact c0T _,λ_=>⟨by dsimp only;lia,?_⟩⟩,trivial⟩,λx c=>?_,?_,⟨_,rfl,rfl,rfl⟩,⟨_,rfl,p3⟩,by simp⟩
   .simp at hq
    rcases hq with rfl | rfl
    .exact ⟨by dsimp only;lia,λz=>by dsimp only at z;lia⟩
    .exact p1
   .rw [p4,p2]
    unfold Row.at
    dsimp only
    have:a2+s*(r0+1-a0)=r2+s:=by rw [he];grind
    rw [this]
    lia
   .rw [Val.two,p2,p3]
    unfold Row.at at vp p5 ⊢
    dsimp only at vp p5 ⊢
    constructor
    .rintro (⟨h1,h2,h3⟩ | ⟨h1,h2,h3⟩)
     .by_cases hx:x<=a1
      .exact .inl ⟨h1,hx,by rw [h3];exact va x h1 hx⟩
      .have:x=r0:=by lia
       exact .inr ⟨zqv ‹_›,c1e ‹_› ‹_›,by rw [h3,this,<-he];simp⟩
     .refine .inr ⟨c2C ‹_›,h2,?_⟩
      rw [p5 x h1 h2,vp] at h3
      exact h3
    .rintro (⟨h1,h2,h3⟩ | ⟨h1,h2,h3⟩)
     .exact .inl ⟨h1,by lia,by rw [h3];exact (va x h1 h2).symm⟩
     .by_cases hx:x=r0
      .exact .inl ⟨by lia,by lia,by rw [h3,hx,<-he];simp⟩
      .refine .inr ⟨by lia,h2,?_⟩
       rw [p5 x (by lia) h2,vp]
       exact h3
   .unfold total
    simp [p2,p3]
    lia
theorem b3l{a r:Row}(ha:BdRow (3*10^140) a/\(-(2*10^140)<=a.2.2.1/\a.2.2.1<=2*10^140))(hr:BdRow (10^140) r):∀q∈a1X a r,BdRow (3*10^140) q/\(-(2*10^140)<=q.2.2.1/\q.2.2.1<=2*10^140):=by
 unfold BdRow at *
 have hs:-(3*10^140)<=a35 a r/\a35 a r<=3*10^140:=by unfold a35;split<;>omega
 have hp:∀z:Row,((a07 z).1=z.1/\(a07 z).2.1=z.2.1/\(a07 z).2.2.1=z.2.2.1/\((a07 z).2.2.2=z.2.2.2\/(a07 z).2.2.2=0)):=λz=>by unfold a07;split<;>simp
 intro q hq
 unfold a1X at hq
 split at hq
 .simp at hq
  rcases hq with rfl | rfl
  .exact ha
  .have:=hp r;omega
 .split at hq
  .simp at hq
   subst hq
   dsimp only
   omega
  .simp at hq
   rcases hq with rfl | rfl
   .dsimp only;omega
   .have:=hp (r.1+1,r.2.1,r.2.2.1+r.2.2.2,r.2.2.2)
    dsimp only at this
    omega
theorem b33{r:Row}(h:r.1<=r.2.1):a7V (a07 r)/\(a07 r).1=r.1/\(a07 r).2.1=r.2.1/\(a07 r).2.2.1=r.2.2.1/\∀x,r.1<=x->x<=r.2.1->(a07 r).at x=r.at x:=by
 unfold a07
 split
 .rename_i e
  refine ⟨⟨by dsimp only;assumption,λ_=>rfl⟩,rfl,rfl,rfl,λx h1 h2=>?_⟩
  have:x=r.1:=by lia
  unfold Row.at
  dsimp only
  rw [this];simp
 .rename_i e
  exact ⟨⟨h,λz=>absurd z e⟩,rfl,rfl,rfl,λ_ _ _=>rfl⟩
structure Laid(pre ms:List Row):Prop where
 canon:Canon ms
 val:∀x c,Val ms x c↔Val pre x c
 total:total ms=total pre
 last:∀a r,ms.getLast?=some a->pre.getLast?=some r->a.2.1=r.2.1
 none:ms=[]↔pre=[]
 len:ms.length<=pre.length
 bd:∀q∈ms,BdRow (3*10^140) q/\(-(2*10^140)<=q.2.2.1/\q.2.2.1<=2*10^140)
theorem Laid.append{pre ms:List Row}{r:Row}(h:Laid pre ms)(hr:r.1<=r.2.1)(hb:BdRow (10^140) r)(hf:∀a,ms.getLast?=some a->a.2.1<r.1/\a.2.1+1≠r.1):Laid (pre++[r]) (ms++[a07 r]):=by
 obtain ⟨p1,p2,p3,p4,p5⟩:=b33 hr
 refine ⟨⟨λq hq=>?_,h.canon.2.snoc λa ha=>?_⟩,λx c=>?_,?_,λa q ha hq=>?_,by simp,by simp;exact h.len,λq hq=>?_⟩
 .rcases c03.mp hq with hq | hq
  .exact h.canon.1 q hq
  .rw [c0Q.mp hq];exact p1
 .have:=hf a ha
  exact ⟨by rw [p2];omega,λz=>by rw [p2] at z;omega⟩
 .rw [Val.app,Val.app,h.val x c,Val.one,Val.one,p2,p3]
  constructor
  .rintro (h | ⟨h1,h2,h3⟩)
   .exact .inl h
   .exact .inr ⟨h1,h2,by rw [h3,p5 x h1 h2]⟩
  .rintro (h | ⟨h1,h2,h3⟩)
   .exact .inl h
   .exact .inr ⟨h1,h2,by rw [h3,p5 x h1 h2]⟩
 .rw [a2R,a2R,h.total]
  unfold My.total
  simp [p2,p3]
 .simp at ha hq
  subst ha hq
  exact p3
 .rcases c03.mp hq with hq | hq
  .exact h.bd q hq
  .rw [c0Q.mp hq]
   have:(a07 r).2.2.2=r.2.2.2\/(a07 r).2.2.2=0:=by unfold a07;split<;>simp
   unfold BdRow at *
   omega
theorem Laid.beside{pre ms:List Row}{a r:Row}(h:Laid pre (ms++[a]))(hr:r.1<=r.2.1)(hb:BdRow (10^140) r)(hn:a.2.1+1=r.1):Laid (pre++[r]) (ms++a1X a r):=by
 obtain ⟨b1,b2,b3,b4,⟨q1,b5,b6,b7⟩,⟨q2,b8,b9⟩,b10⟩:=a89 (h.canon.1 a (by simp)) hr hn.symm
 have hne:a1X a r≠[]:=λz=>by rw [z] at b5;cases b5
 refine ⟨⟨λq hq=>?_,h.canon.2.left.append b2 λc d hc hd=>?_⟩,λx c=>?_,?_,λc q hc hq=>?_,by simp [hne],?_,λq hq=>?_⟩
 .rcases c03.mp hq with hq | hq
  .exact h.canon.1 q (by simp [hq])
  .exact b1 q hq
 .rw [b5] at hd
  cases hd
  have:=h.canon.2.mid c hc
  unfold a6Z at this ⊢
  rw [b6,b7]
  exact this
 .rw [Val.app,Val.app,Val.one,b3,<-h.val,Val.app,Val.one,or_assoc]
 .have e:=h.total
  rw [a2R] at e
  rw [a2R,a2R,b4,<-e]
  unfold My.total
  simp
  lia
 .rw [List.getLast?_append,b8] at hc
  simp at hc hq
  subst hc hq
  exact b9
 .have:=h.len
  simp at this ⊢
  lia
 .rcases c03.mp hq with hq | hq
  .exact h.bd q (by simp [hq])
  .exact b3l (h.bd a (by simp)) hb q hq
theorem b0O{rows:List Row}(ha:Asc rows)(hb:∀r∈rows,BdRow (10^140) r)(hl:rows.length<=8000000){ro:Bool}:∃fs:List Row,a2h [.lst ro (rows.map Row.d)]=some (.sh (.tup (fs.map Row.d)))/\Laid rows fs:=by
 have key:Wo (a2h [.lst ro (rows.map Row.d)]) λs=>∃fs:List Row,s=.sh (.tup (fs.map Row.d))/\Laid rows fs:=by
  refine W_laid.mpr ?_
  unfold b3z
  walk_at "vc"
  refine a28 Row.d (λpre env=>∃x2 x3,∃ms:List Row,env=[.sh (.lst ro (rows.map Row.d)),.ow (ms.map Row.d),x2,x3]/\Laid pre ms) rows (λpre r post env e h=>?_) (λenv h=>?_)
   ⟨_,_,[],rfl,⟨⟨λ_ z=>(nomatch z),trivial⟩,λ_ _=>c1R,rfl,λ_ _ z=>(nomatch z),c1R,c0S _,λ_ z=>(nomatch z)⟩⟩
  .obtain ⟨x2,x3,ms,rfl,h⟩:=h
   have hr:r∈rows:=by rw [e];simp
   have hrl:=ha.1 r hr
   have hrb:=hb r hr
   have hlen:ms.length<=8000000:=c02 h.len (c02 (by rw [e];simp) hl)
   have hpre:∀q,pre.getLast?=some q->q.2.1<r.1:=λq hq=>by
    have:=ha.2
    rw [e] at this
    exact (c1g.mp this).2.2 q (c5m hq) r c0N
   rcases c3P ms with rfl | ⟨ns,a,e2⟩
   .walk_at "vc"
    simp only [c4j,List.isEmpty_nil,c4I,c1v,false_implies,true_implies,true_and]
    rw [a7D]
    walk_at "vc"
    have:=h.append hrl hrb (λ_ z=>nomatch z)
    exact ⟨_,_,[a07 r],rfl,this⟩
   .have e2:ms=ns++[a]:=by simpa using e2
    subst e2
    have hpne:pre≠[]:=λz=>by have:=h.none.mpr z;simp at this
    obtain ⟨q,hq⟩:∃q,pre.getLast?=some q:=⟨pre.getLast hpne,List.getLast?_eq_some_getLast hpne⟩
    have hlast:=h.last a q (by simp) hq
    have hlt:=hpre q hq
    walk_at "vc"
    have em:(c3J Row.d (ns++[a])).isEmpty=false:=by simp
    rw [em,c1c,c1l,c4j,DL.atI_last,a1l a,a1l r]
    walk_at "vc"
    refine ⟨λhe=>?_,λhe=>?_⟩
    .have ed:(c3J Row.d ns++[D.tup [D.int a.1,D.int a.2.1,D.int a.2.2.1,D.int a.2.2.2]])[(c3J Row.d ns++[D.tup [D.int a.1,D.int a.2.1,D.int a.2.2.1,D.int a.2.2.2]]).length-1]?=some (D.tup [D.int a.1,D.int a.2.1,D.int a.2.2.1,D.int a.2.2.2]):=by simp
     rw [ed,c5n]
     walk_at "vc"
     rw [<-a1l a,<-a1l r,b4X (h.bd a (by simp)).1 hrb]
     walk_at "vc"
     have hb2:=(a89 (h.canon.1 a (by simp)) hrl he.symm).2.2.2.2.2.2
     simp at hlen
     refine ⟨by decide,by simp;lia,_,_,ns++a1X a r,by rw [c1c],h.beside hrl hrb he⟩
    .rw [<-a1l a,<-a1l r,a7D]
     walk_at "vc"
     simp at hlen
     refine ⟨by simp;lia,_,_,ns++[a]++[a07 r],by rw [c1c,c1c];rfl,h.append hrl hrb λc hc=>?_⟩
     simp at hc
     subst hc
     exact ⟨by lia,he⟩
  .obtain ⟨x2,x3,ms,rfl,h⟩:=h
   walk_at "vc"
   exact ⟨ms,rfl,h⟩
 obtain ⟨s,e,fs,rfl,h⟩:=key
 exact ⟨fs,e,h⟩
noncomputable def fap(a b:Row):Int:=if a.1≠b.1 then min a.1 b.1 else if a.2.2.1≠b.2.2.1 then a.1 else if a.2.2.2≠b.2.2.2 then a.1+1 else min a.2.1 b.2.1+1
noncomputable def fu:List Row->List Row->Option Int
 | [],[]=>none
 | [],b::_=>some b.1
 | a::_,[]=>some a.1
 | a::as,b::bs=>if a=b then fu as bs else some (fap a b)
theorem Canon.tail{r:Row}{rs:List Row}(h:Canon (r::rs)):Canon rs:=⟨λq hq=>h.1 q (c0O _ hq),h.2.tail⟩
theorem a02{r:Row}{rs:List Row}(h:Canon (r::rs)){y:Int}(hy:y<r.1):look (r::rs) y=none:=by
 have ha:=h.asc
 refine a4B λq hq=>.inl ?_
 rcases c0R.mp hq with rfl | hq
 .exact hy
 .have:=(c08.mp ha.2).1 q hq
  have:=ha.1 r c0N
  lia
theorem a1n{r:Row}{rs:List Row}{y:Int}(h1:r.1<=y)(h2:y<=r.2.1):look (r::rs) y=some (r.at y):=by
 rw [look,if_pos ⟨h1,h2⟩]
theorem a3L{r:Row}{rs:List Row}{y:Int}(h:r.2.1<y):look (r::rs) y=look rs y:=by
 rw [look,if_neg (by lia)]
theorem a4A{r:Row}{rs:List Row}(h:Canon (r::rs)){y:Int}(hy:y<=r.2.1):look rs y=none:=by
 have ha:=h.asc
 refine a4B λq hq=>.inl ?_
 have:=(c08.mp ha.2).1 q hq
 exact c4p ‹_› ‹_›
theorem a8B{r:Row}{rs:List Row}(h:Canon (r::rs)):look (r::rs) (r.2.1+1)≠some (r.at (r.2.1+1))/\(r.1=r.2.1->look (r::rs) (r.2.1+1)=none):=by
 rw [a3L (c0T _)]
 cases rs with
 | nil=>exact ⟨λz=>(nomatch z),λ_=>rfl⟩
 | cons q qs =>
  have hf:a6Z r q:=h.2.1
  have hq:=h.tail.1 q c0N
  unfold a6Z at hf
  unfold a7V at hq
  by_cases hl:q.1=r.2.1+1
  .obtain ⟨g1,g2⟩:=hf.2 hl
   rw [a1n (by omega) (by omega)]
   refine ⟨λz=>g2 ?_,λz=>absurd z (Int.ne_of_lt ‹_›)⟩
   have z:=c0U z
   rw [<-hl] at z
   rw [<-z]
   unfold Row.at
   rw [c3Q,c3R,c2R]
  .rw [a02 h.tail (by omega)]
   exact ⟨λz=>(nomatch z),λ_=>rfl⟩
theorem b6p{a b:Row}(h1:a.1=b.1)(h2:a.2.1=b.2.1)(h3:a.2.2.1=b.2.2.1)(h4:a.2.2.2=b.2.2.2):a=b:=c54 h1 (c54 h2 (c54 h3 h4))
theorem b4L{a b:Row}{as bs:List Row}(ha:Canon (a::as))(hb:Canon (b::bs))(hne:a≠b):look (a::as) (fap a b)≠look (b::bs) (fap a b)/\∀y,y<fap a b->look (a::as) y=look (b::bs) y:=by
 have oa:=ha.1 a c0N
 have ob:=hb.1 b c0N
 obtain ⟨na,na2⟩:=a8B ha
 obtain ⟨nb,nb2⟩:=a8B hb
 unfold a7V at oa ob
 unfold fap
 by_cases h1:a.1=b.1
 .rw [if_neg (by simpa using h1)]
  by_cases h2:a.2.2.1=b.2.2.1
  .rw [if_neg (by simpa using h2)]
   by_cases h3:a.2.2.2=b.2.2.2
   .rw [if_neg (by simpa using h3)]
    have eat:∀y,a.at y=b.at y:=λy=>by unfold Row.at;rw [h1,h2,h3]
    have h4:a.2.1≠b.2.1:=λz=>hne (b6p h1 z h2 h3)
    rcases Int.lt_or_lt_of_ne h4 with h | h
    .rw [show min a.2.1 b.2.1+1=a.2.1+1 by lia]
     refine ⟨?_,λy hy=>?_⟩
     .rw [a1n (r:=b) (by lia) ‹_›,<-eat]
      exact na
     .by_cases hl:y<a.1
      .rw [a02 ha hl,a02 hb (by lia)]
      .rw [a1n (r:=a) (c3H.mp ‹_›) (zqh ‹_›),a1n (r:=b) (by lia) (by lia),eat]
    .rw [show min a.2.1 b.2.1+1=b.2.1+1 by lia]
     refine ⟨?_,λy hy=>?_⟩
     .rw [a1n (r:=a) (by lia) ‹_›,eat]
      exact λz=>nb z.symm
     .by_cases hl:y<a.1
      .rw [a02 ha hl,a02 hb (by lia)]
      .rw [a1n (r:=a) (c3H.mp ‹_›) (by lia),a1n (r:=b) (by lia) (zqh ‹_›),eat]
   .rw [if_pos (by simpa using h3)]
    refine ⟨?_,λy hy=>?_⟩
    .by_cases sa:a.1=a.2.1
     .have hsb:b.1<b.2.1:=by lia
      have e:=na2 sa
      rw [<-sa] at e
      rw [e,a1n (r:=b) (by lia) (by lia)]
      exact λz=>(nomatch z)
     .by_cases sb:b.1=b.2.1
      .have e:=nb2 sb
       rw [<-sb,<-h1] at e
       rw [e,a1n (r:=a) (by lia) (by lia)]
       exact λz=>(nomatch z)
      .rw [a1n (r:=a) (by lia) (by lia),a1n (r:=b) (by lia) (by lia)]
       intro z
       have z:=c0U z
       unfold Row.at at z
       rw [<-h1,show a.1+1-a.1=1 by lia,c3C,c3C] at z
       lia
    .by_cases hl:y<a.1
     .rw [a02 ha hl,a02 hb (by lia)]
     .have:y=a.1:=by lia
      subst this
      rw [a1n (r:=a) (c0T _) (by lia),a1n (r:=b) (zqv ‹_›) (by lia)]
      unfold Row.at
      rw [<-h1,h2]
      simp
  .rw [if_pos (by simpa using h2)]
   refine ⟨?_,λy hy=>by rw [a02 ha hy,a02 hb (by lia)]⟩
   rw [a1n (r:=a) (c0T _) (by lia),a1n (r:=b) (zqv ‹_›) (by lia)]
   intro z
   have z:=c0U z
   unfold Row.at at z
   rw [<-h1,c3Q,c3R,c3R] at z
   lia
 .rw [if_pos (by simpa using h1)]
  rcases Int.lt_or_lt_of_ne h1 with h | h
  .rw [show min a.1 b.1=a.1 by lia]
   refine ⟨?_,λy hy=>by rw [a02 ha hy,a02 hb (by lia)]⟩
   rw [a1n (r:=a) (c0T _) (by lia),a02 hb ‹_›]
   exact λz=>(nomatch z)
  .rw [show min a.1 b.1=b.1 by lia]
   refine ⟨?_,λy hy=>by rw [a02 ha (by lia),a02 hb hy]⟩
   rw [a1n (r:=b) (c0T _) (by lia),a02 ha ‹_›]
   exact λz=>(nomatch z)
theorem fu_none:∀{A B:List Row},fu A B=none↔A=B
 | [],[]=>by simp [fu]
 | [],b::_=>by simp [fu]
 | a::_,[]=>by simp [fu]
 | a::as,b::bs=>by
  unfold fu
  by_cases h:a=b
  .rw [if_pos h,fu_none,h];simp
  .rw [if_neg h];simp [h]
theorem b2R:∀{A B:List Row},Canon A->Canon B->∀{x:Int},fu A B=some x->look A x≠look B x/\∀y,y<x->look A y=look B y
 | [],[],_,_,x,h=>by cases h
 | [],b::bs,_,hb,x,h=>by
  obtain rfl:=c0U h
  have ob:=hb.1 b c0N
  refine ⟨?_,λy hy=>by rw [a02 hb hy];rfl⟩
  rw [a1n (c0T _) ob.1]
  exact λz=>(nomatch z)
 | a::as,[],ha,_,x,h=>by
  obtain rfl:=c0U h
  have oa:=ha.1 a c0N
  refine ⟨?_,λy hy=>by rw [a02 ha hy];rfl⟩
  rw [a1n (c0T _) oa.1]
  exact λz=>(nomatch z)
 | a::as,b::bs,ha,hb,x,h=>by
  unfold fu at h
  by_cases e:a=b
  .subst e
   rw [if_pos rfl] at h
   obtain ⟨h1,h2⟩:=b2R ha.tail hb.tail h
   have hx:a.2.1<x:=by
    rcases c5S a.2.1 x with z | z
    .exact z
    .exact absurd (by rw [a4A ha z,a4A hb z]) h1
   refine ⟨by rw [a3L hx,a3L hx];exact h1,λy hy=>?_⟩
   by_cases hl:a.2.1<y
   .rw [a3L hl,a3L hl];exact h2 y hy
   .rw [look,look,a4A ha (c3H.mp ‹_›),a4A hb (c3H.mp ‹_›)]
  .rw [if_neg e] at h
   obtain rfl:=c0U h
   exact b4L ha hb e
theorem a47{A B:List Row}(ha:Canon A)(hb:Canon B)(h:∀x,look A x=look B x):A=B:=by
 cases e:fu A B with
 | none=>exact fu_none.mp e
 | some x=>exact absurd (h x) (b2R ha hb e).1
structure Met where
 lo:Int
 hi:Int
 a:Row
 b:Row
noncomputable def metL:List Row->List Row->List Met
 | a::as,b::bs=>(if max a.1 b.1<=min a.2.1 b.2.1 then [⟨max a.1 b.1,min a.2.1 b.2.1,a,b⟩] else [])++(if a.2.1<b.2.1 then metL as (b::bs) else metL (a::as) bs)
 | _,_=>[]
termination_by as bs=>as.length+bs.length
theorem a4z{bs:List Row}:metL [] bs=[]:=by rw [metL];simp
theorem a3K{as:List Row}:metL as []=[]:=by rw [metL];simp
theorem a3d{a b:Row}{as bs:List Row}:metL (a::as) (b::bs)=(if max a.1 b.1<=min a.2.1 b.2.1 then [⟨max a.1 b.1,min a.2.1 b.2.1,a,b⟩] else [])++(if a.2.1<b.2.1 then metL as (b::bs) else metL (a::as) bs):=by rw [metL]
theorem a14{m:Met}:∀{n:Nat} {A B:List Row},A.length+B.length<=n->m∈metL A B->m.a∈A/\m.b∈B/\m.lo=max m.a.1 m.b.1/\m.hi=min m.a.2.1 m.b.2.1/\m.lo<=m.hi
 | n,[],B,_,h=>by rw [a4z] at h;cases h
 | n,a::as,[],_,h=>by rw [a3K] at h;cases h
 | 0,a::as,b::bs,hn,_=>absurd hn (by simp)
 | n+1,a::as,b::bs,hn,h=>by
  rw [a3d] at h
  rcases c03.mp h with h | h
  .split at h
   .simp at h;subst h;simp;assumption
   .cases h
  .split at h
   .obtain ⟨h1,h2,h3⟩:=a14 (n:=n) (by simp at hn ⊢;lia) h
    exact ⟨c0O _ h1,h2,h3⟩
   .obtain ⟨h1,h2,h3⟩:=a14 (n:=n) (by simp at hn ⊢;exact zqi ‹_›) h
    exact ⟨h1,c0O _ h2,h3⟩
theorem a7r:∀{n:Nat} {A B:List Row},A.length+B.length<=n->Asc A->Asc B->(metL A B).Pairwise λm k=>m.hi<k.lo
 | n,[],B,_,_,_=>by rw [a4z];exact .nil
 | n,a::as,[],_,_,_=>by rw [a3K];exact .nil
 | 0,a::as,b::bs,hn,_,_=>absurd hn (by simp)
 | n+1,a::as,b::bs,hn,ha,hb=>by
  have ta:Asc as:=⟨λq hq=>ha.1 q (c0O _ hq),(c08.mp ha.2).2⟩
  have tb:Asc bs:=⟨λq hq=>hb.1 q (c0O _ hq),(c08.mp hb.2).2⟩
  rw [a3d]
  refine c1g.mpr ⟨?_,?_,λm hm k hk=>?_⟩
  .split<;>simp
  .split
   .exact a7r (n:=n) (by simp at hn ⊢;lia) ta hb
   .exact a7r (n:=n) (by simp at hn ⊢;exact zqi ‹_›) ha tb
  .have em:m.hi=min a.2.1 b.2.1:=by
    split at hm
    .simp at hm;subst hm;rfl
    .cases hm
   split at hk
   .obtain ⟨h1,h2,h3,_⟩:=a14 (c0S _) hk
    have:=(c08.mp ha.2).1 _ h1
    lia
   .obtain ⟨h1,h2,h3,_⟩:=a14 (c0S _) hk
    have:=(c08.mp hb.2).1 _ h2
    lia
theorem a7q{x:Int}{a' b':Row}:∀{n:Nat} {A B:List Row},A.length+B.length<=n->Asc A->Asc B->a'∈A->b'∈B->a'.1<=x->x<=a'.2.1->b'.1<=x->x<=b'.2.1->∃m∈metL A B,m.a=a'/\m.b=b'/\m.lo<=x/\x<=m.hi
 | n,[],B,_,_,_,h,_,_,_,_,_=>by cases h
 | n,a::as,[],_,_,_,_,h,_,_,_,_=>by cases h
 | 0,a::as,b::bs,hn,_,_,_,_,_,_,_,_=>absurd hn (by simp)
 | n+1,a::as,b::bs,hn,ha,hb,h1,h2,x1,x2,x3,x4=>by
  have ta:Asc as:=⟨λq hq=>ha.1 q (c0O _ hq),(c08.mp ha.2).2⟩
  have tb:Asc bs:=⟨λq hq=>hb.1 q (c0O _ hq),(c08.mp hb.2).2⟩
  rw [a3d]
  by_cases hh:a'=a/\b'=b
  .obtain ⟨rfl,rfl⟩:=hh
   refine ⟨⟨max a'.1 b'.1,min a'.2.1 b'.2.1,a',b'⟩,?_,rfl,rfl,by dsimp only;lia,by dsimp only;lia⟩
   rw [if_pos (by lia)];simp
  .have rest:∃m∈(if a.2.1<b.2.1 then metL as (b::bs) else metL (a::as) bs),m.a=a'/\m.b=b'/\m.lo<=x/\x<=m.hi:=by
    split
    .rename_i hlt
     have h1':a'∈as:=by
      rcases c0R.mp h1 with e | e
      .rcases c0R.mp h2 with e2 | e2
       .exact absurd ⟨e,e2⟩ hh
       .have:=(c08.mp hb.2).1 _ e2
        subst e;lia
      .exact e
     exact a7q (n:=n) (by simp at hn ⊢;lia) ta hb h1' h2 x1 x2 x3 x4
    .rename_i hlt
     have h2':b'∈bs:=by
      rcases c0R.mp h2 with e | e
      .rcases c0R.mp h1 with e2 | e2
       .exact absurd ⟨e2,e⟩ hh
       .have:=(c08.mp ha.2).1 _ e2
        subst e;lia
      .exact e
     exact a7q (n:=n) (by simp at hn ⊢;exact zqi ‹_›) ha tb h1 h2' x1 x2 x3 x4
   obtain ⟨m,hm,k⟩:=rest
   exact ⟨m,c04 _ hm,k⟩
theorem a7p:∀{n:Nat} {A B:List Row},A.length+B.length<=n->(metL A B).length<=A.length+B.length
 | n,[],B,_=>by rw [a4z];simp
 | n,a::as,[],_=>by rw [a3K];simp
 | 0,a::as,b::bs,hn=>absurd hn (by simp)
 | n+1,a::as,b::bs,hn=>by
  rw [a3d,c1f]
  have h1:(if max a.1 b.1<=min a.2.1 b.2.1 then [(⟨max a.1 b.1,min a.2.1 b.2.1,a,b⟩:Met)] else []).length<=1:=by split<;>simp
  by_cases hc:a.2.1<b.2.1
  .have:=a7p (n:=n) (A:=as) (B:=b::bs) (by simp at hn ⊢;lia)
   rw [if_pos hc]
   simp at this ⊢;lia
  .have:=a7p (n:=n) (A:=a::as) (B:=bs) (by simp at hn ⊢;exact zqi ‹_›)
   rw [if_neg hc]
   simp at this ⊢;lia
theorem b4Q(A B:List Row):gEqD (.tup (A.map Row.d)) (.tup (B.map Row.d))=some (.sh (.bl (decide (A=B)))):=by
 unfold gEqD
 rw [b7m (n:=7) (enc:=Row.d) (λx y=>b7n x y)]
 rfl
theorem b6U{rs:List Row}(h:Asc rs){x:Int}{o:Option Int}(k:∀c,Val rs x c↔o=some c):look rs x=o:=by
 cases o with
 | some c=>exact (a1D h).mpr ((k c).mpr rfl)
 | none =>
  cases e:look rs x with
  | none=>rfl
  | some c=>exact nomatch (k c).mp ((a1D h).mp e)
theorem a4p{rs:List Row}(h:Asc rs){x c:Int}:Val rs x c↔look rs x=some c:=(a1D h).symm
noncomputable def a8C(r:Row)(x:Int):D:=.tup [.int (r.at x),.int r.2.2.2]
theorem b5T(r:Row)(x:Int):a8C r x=.tup [.int (r.at x),.int r.2.2.2]:=rfl
noncomputable def Met.d(m:Met):D:=.tup [.int m.lo,.int m.hi,a8C m.a m.lo,a8C m.b m.lo]
theorem met_d(m:Met):Met.d m=.tup [.int m.lo,.int m.hi,a8C m.a m.lo,a8C m.b m.lo]:=rfl
theorem b54{r:Row}{x:Int}(h1:-(10^250)<=r.2.2.2)(h2:r.2.2.2<=10^250)(h3:-(10^250)<=x-r.1)(h4:x-r.1<=10^250):a1Q [r.d,.int x]=some (.sh (a8C r x)):=by
 refine Wo.eq (W_line_from.mpr ?_)
 unfold a4m
 walk_at "vc"
 rw [a7E h1 h2 h3 h4,a1l]
 walk_at "vc"
 rfl
theorem e_met{A B:List Row}(ha:∀r∈A,BdRow (10^200) r)(hb:∀r∈B,BdRow (10^200) r)(l1:A.length<=400000)(l2:B.length<=400000):a4Y [.tup (A.map Row.d),.tup (B.map Row.d)]=some (.ow ((metL A B).map Met.d)):=by
 refine Wo.eq (W_met.mpr ?_)
 unfold b8z
 walk_at "v1"
 rw [a7N]
 refine a3A (λn env=>∃x5 x6 x7 x8,∃(f s:Nat) (ms:List Met),env=[.sh (.tup (A.map Row.d)),.sh (.tup (B.map Row.d)),.ow (ms.map Met.d),.sh (.int f),.sh (.int s),x5,x6,x7,x8]/\n=(A.length-f)+(B.length-s)/\f<=A.length/\s<=B.length/\ms.length<=f+s/\ms++metL (A.drop f) (B.drop s)=metL A B) (λn env h=>?_) _ (A.length+B.length) (show A.length+B.length<1000000 by lia) ⟨_,_,_,_,0,0,[],rfl,by simp,by simp,by simp,by simp,rfl⟩
 obtain ⟨x5,x6,x7,x8,f,s,ms,rfl,rfl,hf,hs,hml,e⟩:=h
 walk_at "v1"
 rw [c0P,c0P]
 refine ⟨λh1=>⟨λh2=>?_,λh2=>?_⟩,λh1=>?_⟩
 .have h1':f<A.length:=by exact zqr ‹_›
  have h2':s<B.length:=by exact zqr ‹_›
  have d1:A.drop f=A[f]::A.drop (f+1):=c1r h1'
  have d2:B.drop s=B[s]::B.drop (s+1):=c1r h2'
  have b1:=ha A[f] (c1X h1')
  have b2:=hb B[s] (c1X h2')
  rw [a7M h1',a7M h2']
  generalize A[f]=a at *
  generalize B[s]=b at *
  rw [d1,d2,a3d] at e
  unfold BdRow at b1 b2
  have ea:=b54 (r:=a) (x:=max a.1 b.1) (by lia) (by lia) (by lia) (by lia)
  have eb:=b54 (r:=b) (x:=max a.1 b.1) (by lia) (by lia) (by lia) (by lia)
  rw [a1l] at ea eb
  rw [a1l,a1l]
  walk_at "v1"
  rw [a10]
  walk_at "v1"
  rw [ea,eb]
  walk_at "v1"
  rw [c0P]
  refine ⟨λhc=>⟨by lia,?_⟩,λhc=>?_⟩
  .rw [if_pos hc] at e
   rw [a10]
   walk_at "vc"
   refine ⟨λh3=>?_,λh3=>?_⟩
   .rw [if_pos h3,<-d2] at e
    exact ⟨(A.length-(f+1))+(B.length-s),by lia,_,_,_,_,f+1,s,ms++[⟨max a.1 b.1,min a.2.1 b.2.1,a,b⟩],by rw [c1c];rfl,rfl,by assumption,hs,by simp;lia,by rw [c13];exact e⟩
   .rw [if_neg h3,<-d1] at e
    exact ⟨(A.length-f)+(B.length-(s+1)),by lia,_,_,_,_,f,s+1,ms++[⟨max a.1 b.1,min a.2.1 b.2.1,a,b⟩],by rw [c1c];rfl,rfl,hf,by assumption,by simp;exact zqj ‹_›,by rw [c13];exact e⟩
  .rw [if_neg hc,c45] at e
   rw [a10]
   walk_at "vc"
   refine ⟨λh3=>?_,λh3=>?_⟩
   .rw [if_pos h3,<-d2] at e
    exact ⟨(A.length-(f+1))+(B.length-s),by lia,_,_,_,_,f+1,s,ms,rfl,rfl,‹_›,hs,by lia,e⟩
   .rw [if_neg h3,<-d1] at e
    exact ⟨(A.length-f)+(B.length-(s+1)),by lia,_,_,_,_,f,s+1,ms,rfl,rfl,hf,‹_›,by lia,e⟩
 .have:B.drop s=[]:=c1F (by lia)
  rw [this,a3K,c1J] at e
  rw [e]
 .have:A.drop f=[]:=c1F (by lia)
  rw [this,a4z,c1J] at e
  rw [e]
noncomputable abbrev Span:=Int×Int
def InS(ss:List Span)(x:Int):Prop:=∃s∈ss,s.1<=x/\x<=s.2
noncomputable def Span.d(s:Span):D:=.tup [.int s.1,.int s.2]
theorem b11(s:Span):Span.d s=.tup [.int s.1,.int s.2]:=rfl
structure SpansOf(pre:List Row)(ss:List Span):Prop where
 ok:∀s∈ss,s.1<=s.2
 apart:ss.Pairwise λa b=>a.2+1<b.1
 cov:∀x,InS ss x↔∃r∈pre,r.1<=x/\x<=r.2.1
 last:ss.getLast?.map (·.2)=pre.getLast?.map (·.2.1)
 head:ss.head?.map (·.1)=pre.head?.map (·.1)
 sum:(ss.map λs=>s.2-s.1+1).sum=total pre
 sub:∀r∈pre,∃s∈ss,s.1<=r.1/\r.2.1<=s.2
 len:ss.length<=pre.length
 ends:∀s∈ss,(∃r∈pre,r.1=s.1)/\∃r∈pre,r.2.1=s.2
theorem SpansOf.nil:SpansOf [] []:=⟨λ_ z=>(nomatch z),.nil,λx=>⟨λ⟨_,z,_⟩=>(nomatch z),λ⟨_,z,_⟩=>(nomatch z)⟩,rfl,rfl,rfl,λ_ z=>(nomatch z),c0S _,λ_ z=>(nomatch z)⟩
theorem InS.app{a b:List Span}{x:Int}:InS (a++b) x↔InS a x\/InS b x:=by
 unfold InS
 constructor
 .rintro ⟨s,hs,h⟩
  rcases c03.mp hs with hs | hs
  .exact .inl ⟨s,hs,h⟩
  .exact .inr ⟨s,hs,h⟩
 .rintro (⟨s,hs,h⟩ | ⟨s,hs,h⟩)
  .exact ⟨s,c1a _ hs,h⟩
  .exact ⟨s,c04 _ hs,h⟩
theorem InS.one{s:Span}{x:Int}:InS [s] x↔s.1<=x/\x<=s.2:=by unfold InS;simp
theorem b2W{pre:List Row}{r:Row}{x:Int}:(∃q∈pre++[r],q.1<=x/\x<=q.2.1)↔(∃q∈pre,q.1<=x/\x<=q.2.1)\/(r.1<=x/\x<=r.2.1):=by
 constructor
 .rintro ⟨q,hq,h⟩
  rcases c03.mp hq with hq | hq
  .exact .inl ⟨q,hq,h⟩
  .rw [c0Q.mp hq] at h;exact .inr h
 .rintro (⟨q,hq,h⟩ | h)
  .exact ⟨q,c1a _ hq,h⟩
  .exact ⟨r,by simp,h⟩
theorem SpansOf.more{pre:List Row}{ss:List Span}{r:Row}(h:SpansOf pre ss)(hr:r.1<=r.2.1)(hf:∀a,ss.getLast?=some a->a.2+1<r.1):SpansOf (pre++[r]) (ss++[(r.1,r.2.1)]):=by
 have hb:∀s∈ss,s.2+1<r.1:=λs hs=>by
  rcases c3P ss with rfl | ⟨ts,t,e⟩
  .cases hs
  .have e:ss=ts++[t]:=by simpa using e
   subst e
   have h1:=hf t (by simp)
   rcases c03.mp hs with hs | hs
   .have:=(c1g.mp h.apart).2.2 s hs t (by simp)
    have:=h.ok t (by simp)
    omega
   .rw [c0Q.mp hs];exact h1
 refine ⟨λs hs=>?_,c1g.mpr ⟨h.apart,c1I _ _,λa ha b hb'=>?_⟩,λx=>?_,by simp,?_,?_,λq hq=>?_,by have:=h.len;simp;assumption,λs hs=>?_⟩
 .rcases c03.mp hs with hs | hs
  .exact h.ok s hs
  .rw [c0Q.mp hs];exact hr
 .rw [c0Q.mp hb'];exact hb a ha
 .rw [InS.app,InS.one,b2W,h.cov]
 .have:=h.head
  cases ss with
  | nil=>cases pre with
   | nil=>rfl
   | cons q qs=>simp at this
  | cons s ts=>cases pre with
   | nil=>simp at this
   | cons q qs=>simpa using this
 .rw [c1c,c33,h.sum,a2R];unfold total;simp
 .rcases c03.mp hq with hq | hq
  .obtain ⟨s,hs,k⟩:=h.sub q hq
   exact ⟨s,c1a _ hs,k⟩
  .rw [c0Q.mp hq];exact ⟨_,c04 _ c0N,c0T _,c0T _⟩
 .rcases c03.mp hs with hs | hs
  .obtain ⟨⟨a,ha,e1⟩,⟨b,hb,e2⟩⟩:=h.ends s hs
   exact ⟨⟨a,c1a _ ha,e1⟩,⟨b,c1a _ hb,e2⟩⟩
  .rw [c0Q.mp hs];exact ⟨⟨r,by simp,rfl⟩,⟨r,by simp,rfl⟩⟩
theorem SpansOf.glue{pre:List Row}{ss:List Span}{s:Span}{r:Row}(h:SpansOf pre (ss++[s]))(hr:r.1<=r.2.1)(hn:s.2+1=r.1):SpansOf (pre++[r]) (ss++[(s.1,r.2.1)]):=by
 have hs:=h.ok s (by simp)
 have hp:=(c1g.mp h.apart)
 refine ⟨λt ht=>?_,c1g.mpr ⟨hp.1,c1I _ _,λa ha b hb'=>?_⟩,λx=>?_,by simp,?_,?_,λq hq=>?_,by have:=h.len;simp at this ⊢;exact c2A ‹_›,λt ht=>?_⟩
 .rcases c03.mp ht with ht | ht
  .exact h.ok t (by simp [ht])
  .rw [c0Q.mp ht];show s.1<=r.2.1;lia
 .rw [c0Q.mp hb'];exact hp.2.2 a ha s (by simp)
 .have:=h.cov x
  rw [InS.app,InS.one] at this ⊢
  rw [b2W,<-this]
  dsimp only
  constructor
  .rintro (h | h)
   .exact .inl (.inl h)
   .by_cases hx:x<=s.2
    .exact .inl (.inr ⟨h.1,hx⟩)
    .exact .inr ⟨by lia,h.2⟩
  .rintro ((h | h) | h)
   .exact .inl h
   .exact .inr ⟨h.1,by lia⟩
   .exact .inr ⟨by lia,h.2⟩
 .have:=h.head
  cases pre with
  | nil=>cases ss<;>simp at this
  | cons q qs=>cases ss with
   | nil=>simpa using this
   | cons t ts=>simpa using this
 .have:=h.sum
  rw [c1c,c33] at this ⊢
  rw [a2R,<-this]
  unfold total
  simp
  lia
 .rcases c03.mp hq with hq | hq
  .obtain ⟨t,ht,k1,k2⟩:=h.sub q hq
   rcases c03.mp ht with ht | ht
   .exact ⟨t,c1a _ ht,k1,k2⟩
   .rw [c0Q.mp ht] at k1 k2
    exact ⟨_,c04 _ c0N,k1,by dsimp only;lia⟩
  .rw [c0Q.mp hq];exact ⟨_,c04 _ c0N,by dsimp only;lia,c0T _⟩
 .rcases c03.mp ht with ht | ht
  .obtain ⟨⟨a,ha,e1⟩,⟨b,hb,e2⟩⟩:=h.ends t (by simp [ht])
   exact ⟨⟨a,c1a _ ha,e1⟩,⟨b,c1a _ hb,e2⟩⟩
  .rw [c0Q.mp ht]
   obtain ⟨⟨a,ha,e1⟩,_⟩:=h.ends s (by simp)
   exact ⟨⟨a,c1a _ ha,e1⟩,⟨r,by simp,rfl⟩⟩
theorem b20{rs:List Row}(ha:Asc rs)(hl:rs.length<=8000000):∃ss:List Span,a1H [.tup (rs.map Row.d)]=some (.sh (.tup (ss.map Span.d)))/\SpansOf rs ss:=by
 have key:Wo (a1H [.tup (rs.map Row.d)]) λs=>∃ss:List Span,s=.sh (.tup (ss.map Span.d))/\SpansOf rs ss:=by
  refine W_spans_of.mpr ?_
  unfold a49
  walk_at "vc"
  refine a28 Row.d (λpre env=>∃x2 x3,∃ss:List Span,env=[.sh (.tup (rs.map Row.d)),.ow (ss.map Span.d),x2,x3]/\SpansOf pre ss) rs (λpre r post env e h=>?_) (λenv h=>?_) ⟨_,_,[],rfl,SpansOf.nil⟩
  .obtain ⟨x2,x3,ss,rfl,h⟩:=h
   have hr:r∈rs:=by rw [e];simp
   have hrl:=ha.1 r hr
   have hlen:ss.length<=8000000:=c02 h.len (c02 (by rw [e];simp) hl)
   rcases c3P ss with rfl | ⟨ts,a,e2⟩
   .rw [a1l r]
    walk_at "vc"
    simp only [c4j,List.isEmpty_nil,c4I,c1v,false_implies,true_implies,true_and]
    walk_at "vc"
    exact ⟨_,_,[(r.1,r.2.1)],rfl,h.more hrl (λ_ z=>nomatch z)⟩
   .have e2:ss=ts++[a]:=by simpa using e2
    subst e2
    have hlt:a.2<r.1:=by
     have hls:=h.last
     cases hq:pre.getLast? with
     | none=>rw [hq] at hls;simp at hls
     | some q =>
      rw [hq] at hls
      simp at hls
      have:=ha.2
      rw [e] at this
      have:=(c1g.mp this).2.2 q (c5m hq) r c0N
      lia
    walk_at "vc"
    have em:(c3J Span.d (ts++[a])).isEmpty=false:=by simp
    rw [em,c1c,c1l,c4j,DL.atI_last,b11 a,a1l r]
    walk_at "vc"
    simp at hlen
    refine ⟨λhe=>?_,λhe=>?_⟩
    .have ed:(c3J Span.d ts++[D.tup [D.int a.1,D.int a.2]])[(c3J Span.d ts++[D.tup [D.int a.1,D.int a.2]]).length-1]?=some (D.tup [D.int a.1,D.int a.2]):=by simp
     rw [ed,c5n]
     walk_at "vc"
     refine ⟨by decide,by simp;exact c2i ‹_› (by decide),_,_,ts++[(a.1,r.2.1)],by rw [c1c];rfl,h.glue hrl he⟩
    .refine ⟨by simp;lia,_,_,ts++[a]++[(r.1,r.2.1)],by rw [c1c,c1c];rfl,h.more hrl λc hc=>?_⟩
     simp at hc
     subst hc
     lia
  .obtain ⟨x2,x3,ss,rfl,h⟩:=h
   walk_at "vc"
   exact ⟨ss,rfl,h⟩
 obtain ⟨s,e,fs,rfl,h⟩:=key
 exact ⟨fs,e,h⟩
noncomputable def cutR(r:Row)(lo hi:Int):Row:=(lo,hi,r.at lo,r.2.2.2)
theorem cutR_at{r:Row}{lo hi x:Int}:(cutR r lo hi).at x=r.at x:=by unfold cutR Row.at;dsimp only;grind
def SAsc(ss:List Span):Prop:=(∀s∈ss,s.1<=s.2)/\ss.Pairwise λa b=>a.2<b.1
noncomputable def a4D(r:Row)(low:Int):List Row:=if low<=r.2.1 then [cutR r low r.2.1] else []
noncomputable def a3f(r:Row)(low to:Int):List Row:=if low<to then [cutR r low (to-1)] else []
noncomputable def outR(r:Row)(low:Int):List Span->List Row×List Span
 | []=>(a4D r low,[])
 | s::ss=>if s.1<=r.2.1 then
   (if s.2>r.2.1 then (a3f r low s.1++a4D r (max low (s.2+1)),s::ss) else (a3f r low s.1++(outR r (max low (s.2+1)) ss).1,(outR r (max low (s.2+1)) ss).2))
  else (a4D r low,s::ss)
noncomputable def outL:List Row->List Span->List Row
 | [],_=>[]
 | r::rs,ss=>(outR r r.1 ss).1++outL rs (outR r r.1 ss).2
theorem a8n{r:Row}:∀{ss:List Span} {low:Int},r.1<=low->SAsc ss ->
  (∀q∈(outR r low ss).1,low<=q.1/\q.1<=q.2.1/\q.2.1<=r.2.1/\∀x,q.at x=r.at x)/\((outR r low ss).1.Pairwise λa b=>a.2.1<b.1) /\
  (∀x,(∃q∈(outR r low ss).1,q.1<=x/\x<=q.2.1)↔low<=x/\x<=r.2.1/\¬InS ss x)/\(outR r low ss).2 <:+ ss/\(∀x,r.2.1<x->(InS ss x↔InS (outR r low ss).2 x))/\(outR r low ss).1.length+(outR r low ss).2.length<=ss.length+1
 | [],low,hl,_=>by
  unfold outR a4D
  dsimp only
  have hI:∀x,¬InS [] x:=λx ⟨s,h,_⟩=>nomatch h
  split
  .refine ⟨λq hq=>?_,c1I _ _,λx=>?_,c3X _,λ_ _=>c1R,by simp⟩
   .simp at hq;subst hq;exact ⟨c0T _,by unfold cutR;dsimp only;assumption,c0T _,λx=>cutR_at⟩
   .simp [cutR,hI]
  .refine ⟨λq hq=>(nomatch hq),.nil,λx=>?_,c3X _,λ_ _=>c1R,by simp⟩
   simp;lia
 | s::ss,low,hl,hs=>by
  have hs1:=hs.1 s c0N
  have ht:SAsc ss:=⟨λq hq=>hs.1 q (c0O _ hq),(c08.mp hs.2).2⟩
  have hp:=(c08.mp hs.2).1
  have hI:∀x,InS (s::ss) x↔(s.1<=x/\x<=s.2)\/InS ss x:=λx=>by unfold InS;simp
  have hlate:∀x,x<=s.2->¬InS ss x:=λx hx ⟨t,ht',h1,h2⟩=>by have:=hp t ht';lia
  have lp:∀lo,(∀q∈a4D r lo,q.1=lo/\q.2.1=r.2.1/\lo<=r.2.1/\∀x,q.at x=r.at x)/\(a4D r lo).length<=1/\(∀x,(∃q∈a4D r lo,q.1<=x/\x<=q.2.1)↔lo<=x/\x<=r.2.1):=λlo=>by
   unfold a4D
   split
   .refine ⟨λq hq=>?_,by simp,λx=>by simp [cutR]⟩
    simp at hq;subst hq;exact ⟨rfl,rfl,by assumption,λx=>cutR_at⟩
   .exact ⟨λq hq=>(nomatch hq),by simp,λx=>by simp;lia⟩
  have fp:(∀q∈a3f r low s.1,q.1=low/\q.2.1=s.1-1/\low<s.1/\∀x,q.at x=r.at x)/\(a3f r low s.1).length<=1/\(∀x,(∃q∈a3f r low s.1,q.1<=x/\x<=q.2.1)↔low<=x/\x<s.1):=by
   unfold a3f
   split
   .refine ⟨λq hq=>?_,by simp,λx=>by simp [cutR];lia⟩
    simp at hq;subst hq;exact ⟨rfl,rfl,by assumption,λx=>cutR_at⟩
   .exact ⟨λq hq=>(nomatch hq),by simp,λx=>by simp;lia⟩
  have pw:∀(L:List Row),L.length<=1->L.Pairwise λa b=>a.2.1<b.1:=λL hL=>by
   match L,hL with
   | [],_=>exact .nil
   | [_],_=>exact c1I _ _
  obtain ⟨f1,f2,f3⟩:=fp
  have app:∀(L M:List Row) x,(∃q∈L++M,q.1<=x/\x<=q.2.1)↔(∃q∈L,q.1<=x/\x<=q.2.1)\/(∃q∈M,q.1<=x/\x<=q.2.1):=λL M x=>by
   constructor
   .rintro ⟨q,hq,k⟩
    rcases c03.mp hq with h | h
    .exact .inl ⟨q,h,k⟩
    .exact .inr ⟨q,h,k⟩
   .rintro (⟨q,hq,k⟩ | ⟨q,hq,k⟩)
    .exact ⟨q,c1a _ hq,k⟩
    .exact ⟨q,c04 _ hq,k⟩
  unfold outR
  by_cases c1:s.1<=r.2.1
  .rw [if_pos c1]
   by_cases c2:s.2>r.2.1
   .rw [if_pos c2]
    dsimp only
    obtain ⟨l1,l2,l3⟩:=lp (max low (s.2+1))
    refine ⟨λq hq=>?_,c1g.mpr ⟨pw _ f2,pw _ l2,λa ha b hb=>?_⟩,λx=>?_,c3X _,λ_ _=>c1R,?_⟩
    .rcases c03.mp hq with h | h
     .obtain ⟨e1,e2,e3,e4⟩:=f1 q h;exact ⟨zqv ‹_›,by lia,by lia,e4⟩
     .obtain ⟨e1,e2,e3,e4⟩:=l1 q h;lia
    .obtain ⟨e1,e2,e3,e4⟩:=l1 b hb;lia
    .rw [app,f3,l3,hI]
     have:=hlate x
     constructor
     .rintro (h | h)
      .exact ⟨by lia,by lia,λz=>z.elim (by lia) (this (by lia))⟩
      .lia
     .intro ⟨h1,h2,h3⟩
      by_cases hx:x<s.1
      .exact .inl ⟨h1,hx⟩
      .exact absurd (.inl ⟨c3H.mp ‹_›,by lia⟩) h3
    .have e:((a3f r low s.1++a4D r (max low (s.2+1)))).length<=1:=by
      have:a4D r (max low (s.2+1))=[]:=by unfold a4D;rw [if_neg (by lia)]
      rw [this];simpa using f2
     simp at e ⊢;lia
   .rw [if_neg c2]
    dsimp only
    obtain ⟨i1,i2,i3,i4,i5,i6⟩:=a8n (r:=r) (ss:=ss) (low:=max low (s.2+1)) (by lia) ht
    refine ⟨λq hq=>?_,c1g.mpr ⟨pw _ f2,i2,λa ha b hb=>?_⟩,λx=>?_,i4.trans (List.suffix_cons _ _),λx hx=>?_,?_⟩
    .rcases c03.mp hq with h | h
     .obtain ⟨e1,e2,e3,e4⟩:=f1 q h;exact ⟨zqv ‹_›,by lia,by lia,e4⟩
     .obtain ⟨e1,e2,e3,e4⟩:=i1 q h;exact ⟨by lia,e2,e3,e4⟩
    .obtain ⟨e1,e2,e3,e4⟩:=f1 a ha;have g1:=(i1 b hb).1;show a.2.1<b.1;lia
    .rw [app,f3,i3,hI]
     have:=hlate x
     constructor
     .rintro (h | ⟨h1,h2,h3⟩)
      .exact ⟨by lia,by lia,λz=>z.elim (by lia) (this (by lia))⟩
      .exact ⟨by lia,h2,λz=>z.elim (by lia) h3⟩
     .intro ⟨h1,h2,h3⟩
      by_cases hx:x<s.1
      .exact .inl ⟨h1,hx⟩
      .have h4:¬x<=s.2:=λz=>h3 (.inl ⟨c3H.mp ‹_›,z⟩)
       exact .inr ⟨by lia,h2,λz=>h3 (.inr z)⟩
    .rw [hI,<-i5 x hx]
     exact ⟨λz=>z.elim (by lia) id,.inr⟩
    .simp at i6 ⊢;lia
  .rw [if_neg c1]
   dsimp only
   obtain ⟨l1,l2,l3⟩:=lp low
   refine ⟨λq hq=>?_,pw _ l2,λx=>?_,c3X _,λ_ _=>c1R,by simp;lia⟩
   .obtain ⟨e1,e2,e3,e4⟩:=l1 q hq;exact ⟨zqv ‹_›,by lia,by lia,e4⟩
   .rw [l3,hI]
    have:=hlate x
    constructor
    .intro h
     exact ⟨h.1,h.2,λz=>z.elim (by lia) (this (by lia))⟩
    .intro h;exact ⟨h.1,h.2.1⟩
theorem a5T:∀{rs:List Row} {ss:List Span},Asc rs->SAsc ss->Asc (outL rs ss)/\(∀q∈outL rs ss,∃r∈rs,r.1<=q.1/\q.2.1<=r.2.1/\q.2.2.1=r.at q.1/\q.2.2.2=r.2.2.2)/\(∀x c,Val (outL rs ss) x c↔Val rs x c/\¬InS ss x)/\(outL rs ss).length<=rs.length+ss.length
 | [],ss,_,_=>⟨⟨λ_ z=>(nomatch z),.nil⟩,λ_ z=>(nomatch z),λx c=>⟨λ⟨_,z,_⟩=>(nomatch z),λ⟨⟨_,z,_⟩,_⟩=>(nomatch z)⟩,by simp [outL]⟩
 | r::rs,ss,ha,hs=>by
  have ta:Asc rs:=⟨λq hq=>ha.1 q (c0O _ hq),(c08.mp ha.2).2⟩
  have hp:=(c08.mp ha.2).1
  obtain ⟨i1,i2,i3,i4,i5,i6⟩:=a8n (r:=r) (ss:=ss) (c0T _) hs
  unfold outL
  generalize (outR r r.1 ss).1=P at *
  generalize (outR r r.1 ss).2=tt at *
  have hs':SAsc tt:=⟨λq hq=>hs.1 q (i4.subset hq),hs.2.sublist i4.sublist⟩
  obtain ⟨j1,j2,j3,j4⟩:=a5T ta hs'
  refine ⟨⟨λq hq=>?_,c1g.mpr ⟨i2,j1.2,λa hav b hb=>?_⟩⟩,λq hq=>?_,λx c=>?_,?_⟩
  .rcases c03.mp hq with h | h
   .exact (i1 q h).2.1
   .exact j1.1 q h
  .obtain ⟨q,hq,k1,k2,_⟩:=j2 b hb
   have:=hp q hq
   have:=i1 a hav
   show a.2.1<b.1
   lia
  .rcases c03.mp hq with h | h
   .obtain ⟨k1,k2,k3,k4⟩:=i1 q h
    refine ⟨r,c0N,k1,k3,?_,?_⟩
    .rw [<-k4];unfold Row.at;rw [c3Q,c3R,c2R]
    .have e1:=k4 q.1
     have e2:=k4 (q.1+1)
     unfold Row.at at e1 e2
     grind
   .obtain ⟨r',hr',k⟩:=j2 q h
    exact ⟨r',c0O _ hr',k⟩
  .rw [Val.app,j3]
   have e0:Val (r::rs) x c↔(r.1<=x/\x<=r.2.1/\c=r.at x)\/Val rs x c:=by unfold Val;simp
   have eP:Val P x c↔(r.1<=x/\x<=r.2.1/\¬InS ss x)/\c=r.at x:=by
    rw [<-i3 x]
    constructor
    .rintro ⟨q,hq,h1,h2,h3⟩
     exact ⟨⟨q,hq,h1,h2⟩,by rw [h3,(i1 q hq).2.2.2]⟩
    .rintro ⟨⟨q,hq,h1,h2⟩,h3⟩
     exact ⟨q,hq,h1,h2,by rw [h3,(i1 q hq).2.2.2]⟩
   rw [eP,e0]
   have late:Val rs x c->r.2.1<x:=λ⟨q,hq,h1,_⟩=>by have:=hp q hq;exact Int.lt_of_lt_of_le ‹_› ‹_›
   constructor
   .rintro (⟨⟨h1,h2,h3⟩,h4⟩ | ⟨h1,h2⟩)
    .exact ⟨.inl ⟨h1,h2,h4⟩,h3⟩
    .exact ⟨.inr h1,λz=>h2 ((i5 x (late h1)).mp z)⟩
   .rintro ⟨⟨h1,h2,h3⟩ | h1,h4⟩
    .exact .inl ⟨⟨h1,h2,h4⟩,h3⟩
    .exact .inr ⟨h1,λz=>h4 ((i5 x (late h1)).mpr z)⟩
  .simp at i6 j4 ⊢;lia
theorem b7x{r:Row}{lo hi:Int}(h1:-(10^250)<=r.2.2.2)(h2:r.2.2.2<=10^250)(h3:-(10^250)<=lo-r.1)(h4:lo-r.1<=10^250):a4e [r.d,.int lo,.int hi]=some (.sh (cutR r lo hi).d):=by
 refine Wo.eq (W_cut.mpr ?_)
 unfold b8B
 walk_at "vc"
 rw [a7E h1 h2 h3 h4,a1l]
 walk_at "vc"
 rfl
theorem b43{ss:List Span}{n:Nat}(h:n<ss.length):atI (ss.map Span.d) (n:Int)=some (Span.d ss[n]):=by
 rw [DL.atI_nat];simp [h]
def BdS(s:Span):Prop:=(-(10^200)<=s.1/\s.1<=10^200)/\(-(10^200)<=s.2/\s.2<=10^200)
theorem a8X{rs:List Row}{ss:List Span}(hb:∀r∈rs,BdRow (10^200) r)(hs:∀s∈ss,BdS s)(l1:rs.length<=400000)(l2:ss.length<=400000):a2A [.tup (rs.map Row.d),.tup (ss.map Span.d)]=some (.ow ((outL rs ss).map Row.d)):=by
 refine Wo.eq (W_outside.mpr ?_)
 unfold a6n
 walk_at "v1"
 refine a28 Row.d (λpre env=>∃x4 x5,∃(done post:List Row) (pl:Nat),env=[.sh (.tup (rs.map Row.d)),.sh (.tup (ss.map Span.d)),.ow (done.map Row.d),.sh (.int pl),x4,x5]/\rs=pre++post/\pl<=ss.length/\done.length<=2*pre.length+pl/\done++outL post (ss.drop pl)=outL rs ss) rs (λpre r post env e h=>?_) (λenv h=>?_) ⟨_,_,[],rs,0,rfl,rfl,by simp,by simp,rfl⟩
 .obtain ⟨x4,x5,done,post0,pl,rfl,e0,hpl,hdl,hout⟩:=h
  obtain rfl:post0=r::post:=c3z (e0.symm.trans e)
  have hpre:pre.length<=400000:=by have:=congrArg c3D e;simp at this;lia
  have hbr:=hb r (by rw [e];simp)
  unfold BdRow at hbr
  rw [a1l r]
  walk_at "v1"
  rw [a7N,<-a1l r]
  refine Wo.mono (P:=λy=>y.1=.nx/\∃(d3:List Row) (p3:Nat) (lw:Int),y.2=[.sh (.tup (rs.map Row.d)),.sh (.tup (ss.map Span.d)),.ow (d3.map Row.d),.sh (.int p3),.sh r.d,.sh (.int lw)]/\p3<=ss.length/\d3.length<=2*pre.length+p3+1/\(-(10^200)<=lw/\lw<=10^200+1)/\d3++a4D r lw=done++(outR r r.1 (ss.drop pl)).1/\ss.drop p3=(outR r r.1 (ss.drop pl)).2) ?_ (λy hy=>?_)
  .refine a3A (λn env=>∃(d2:List Row) (p2:Nat) (lw:Int),env=[.sh (.tup (rs.map Row.d)),.sh (.tup (ss.map Span.d)),.ow (d2.map Row.d),.sh (.int p2),.sh r.d,.sh (.int lw)]/\n=ss.length-p2/\p2<=ss.length/\d2.length<=2*pre.length+p2/\(-(10^200)<=lw/\lw<=10^200+1)/\d2++(outR r lw (ss.drop p2)).1=done++(outR r r.1 (ss.drop pl)).1/\(outR r lw (ss.drop p2)).2=(outR r r.1 (ss.drop pl)).2) (λn env h=>?_) _ (ss.length-pl) (show ss.length-pl<1000000 by lia) ⟨done,pl,r.1,rfl,rfl,hpl,hdl,by lia,rfl,rfl⟩
   obtain ⟨d2,p2,lw,rfl,rfl,hp2,hd2,hlw,o1,o2⟩:=h
   have ecut:=λhi=>b7x (r:=r) (lo:=lw) (hi:=hi) (by lia) (by lia) (by lia) (by lia)
   rw [a1l] at ecut ⊢
   walk_at "v1"
   rw [c0P]
   refine ⟨λh1=>?_,λh1=>?_⟩
   .have h1':p2<ss.length:=by exact zqr ‹_›
    have dd:ss.drop p2=ss[p2]::ss.drop (p2+1):=c1r h1'
    have hbs:=hs ss[p2] (c1X h1')
    have hat:=b43 h1'
    rw [hat]
    generalize ss[p2]=s at *
    unfold BdS at hbs
    rw [dd,outR] at o1 o2
    rw [b11]
    walk_at "v1"
    refine ⟨λh2=>?_,λh2=>?_⟩
    .rw [if_pos h2] at o1 o2
     walk_at "v1"
     rw [b11] at hat
     refine Wo.mono (P:=λy=>y=(.nx,[.sh (.tup (rs.map Row.d)),.sh (.tup (ss.map Span.d)),.ow ((d2++a3f r lw s.1).map Row.d),.sh (.int p2),.sh (.tup [.int r.1,.int r.2.1,.int r.2.2.1,.int r.2.2.2]),.sh (.int lw)])) ?_ (λy hy=>?_)
     .walk_at "vc"
      rw [hat]
      walk_at "vc"
      rw [ecut]
      walk_at "vc"
      rw [c0P]
      unfold a3f
      refine ⟨λh=>⟨by lia,?_⟩,λh=>?_⟩
      .rw [if_pos h,c1c];rfl
      .rw [if_neg h,c1J]
     .subst hy
      have hfl:(a3f r lw s.1).length<=1:=by unfold a3f;split<;>simp
      walk_at "v1"
      rw [hat]
      walk_at "v1"
      rw [a10]
      walk_at "vc"
      rw [hat]
      walk_at "vc"
      refine ⟨λh3=>?_,λh3=>?_⟩
      .rw [if_pos h3] at o1 o2
       exact ⟨d2++a3f r lw s.1,p2,max lw (s.2+1),rfl,hp2,by simp;lia,by lia,by rw [c13];exact o1,by rw [dd];exact o2⟩
      .rw [if_neg h3] at o1 o2
       exact ⟨ss.length-(p2+1),by lia,d2++a3f r lw s.1,p2+1,max lw (s.2+1),rfl,rfl,‹_›,by simp;lia,by lia,by rw [c13];exact o1,o2⟩
    .rw [if_neg h2] at o1 o2
     exact ⟨d2,p2,lw,rfl,hp2,zqp ‹_›,hlw,o1,by rw [dd];exact o2⟩
   .have dd:ss.drop p2=[]:=c1F (by lia)
    rw [dd,outR] at o1 o2
    exact ⟨d2,p2,lw,rfl,hp2,zqp ‹_›,hlw,o1,by rw [dd];exact o2⟩
  .obtain ⟨fl,env'⟩:=y
   obtain ⟨h1,d3,p3,lw,h2,hp3,hd3,hlw,o1,o2⟩:=hy
   dsimp only at h1 h2
   subst h1 h2
   have ecut:=b7x (r:=r) (lo:=lw) (hi:=r.2.1) (by lia) (by lia) (by lia) (by lia)
   rw [a1l] at ecut ⊢
   walk_at "vc"
   rw [ecut]
   walk_at "vc"
   rw [c0P]
   rw [outL,<-o2,<-c13,<-o1] at hout
   refine ⟨λh=>⟨by lia,_,_,d3++[cutR r lw r.2.1],post,p3,by rw [c1c];rfl,by rw [e];simp,hp3,by simp;lia,?_⟩,λh=>⟨_,_,d3,post,p3,rfl,by rw [e];simp,hp3,by simp;lia,?_⟩⟩
   .rw [a4D,if_pos h] at hout
    exact hout
   .rw [a4D,if_neg h,c1J] at hout
    exact hout
 .obtain ⟨x4,x5,done,post0,pl,rfl,e0,hpl,hdl,hout⟩:=h
  have:post0=[]:=by simpa using e0
  subst this
  walk_at "vc"
  rw [<-hout];simp [outL]
theorem a1Y{c:En->Option Bool}{F:SF}{env:En}{Q:Fl×En->Prop}(hc:Wo (c env) λb=>b=false)(h:Q (.nx,env)):Wo (sIf c F sNx env) Q:=by
 rw [a10]
 exact hc.mono λb hb=>⟨λz=>(by rw [hb] at z;cases z),λ_=>(by rw [c0m];exact h)⟩
noncomputable abbrev Line:=Int×Int
noncomputable def Line.at(l:Line)(low x:Int):Int:=l.1+l.2*(x-low)
noncomputable def Chain:Int->List Row->Int->Prop
 | at_,[],e=>at_=e
 | at_,r::rs,e=>r.1=at_/\at_<=r.2.1/\Chain (r.2.1+1) rs e
theorem Chain.le:∀{rs:List Row} {a e:Int},Chain a rs e->a<=e
 | [],_,_,h=>Int.le_of_eq h
 | r::rs,a,e,h=>by have:=h.2.2.le;have:=h.2.1;lia
theorem Chain.mem:∀{rs:List Row} {a e:Int} {r:Row},Chain a rs e->r∈rs->a<=r.1/\r.1<=r.2.1/\r.2.1<e
 | [],_,_,_,_,h=>nomatch h
 | r::rs,a,e,q,h,k=>by
  obtain ⟨h1,h2,h3⟩:=h
  have:=h3.le
  rcases c0R.mp k with rfl | k
  .omega
  .have:=h3.mem k;omega
noncomputable def put1(l:Line)(low:Int)(r:Row):List Row:=lowl r.2.2.1 r.2.2.2 (l.at low r.1) l.2 r.1 r.2.1
theorem b6u{l:Line}{low:Int}{r:Row}(h:r.1<=r.2.1):Chain r.1 (put1 l low r) (r.2.1+1)/\(∀q∈put1 l low r,(q.2.2.2=r.2.2.2\/q.2.2.2=l.2)/\r.1<=q.1/\q.2.1<=r.2.1/\∀x,q.1<=x->x<=q.2.1->q.at x=min (r.at x) (l.at low x)) /\
  (put1 l low r).length<=2/\((∀x,r.1<=x->x<=r.2.1->r.at x<=l.at low x)->(put1 l low r).length=1)/\((∀x,r.1<=x->x<=r.2.1->l.at low x<r.at x)->(put1 l low r).length=1):=by
 obtain ⟨f,g,c,s⟩:=r
 dsimp only at h
 have sp:=b2s (a:=c-l.at low f) (s:=s-l.2) (low:=f) (high:=g) h
 have gap:∀x,c-l.at low f+(s-l.2)*(x-f)=Row.at (f,g,c,s) x-l.at low x:=λx=>by unfold Row.at Line.at;dsimp only;grind
 have v1:∀a b x,Row.at (ston c s f a b) x=Row.at (f,g,c,s) x:=λa b x=>by unfold Row.at ston;dsimp only;grind
 have v2:∀a b x,Row.at (ston (l.at low f) l.2 f a b) x=l.at low x:=λa b x=>by unfold Row.at ston Line.at;dsimp only;grind
 simp only [gap] at sp
 unfold put1 lowl
 dsimp only
 cases hnd:nd (c-l.at low f) (s-l.2) f g with
 | none =>
  rw [hnd] at sp
  refine ⟨⟨rfl,h,rfl⟩,λq hq=>?_,by simp,λ_=>rfl,λ_=>rfl⟩
  obtain rfl:=c0Q.mp hq
  refine ⟨.inr rfl,c0T _,c0T _,λx h1 h2=>?_⟩
  rw [v2]
  have:=sp x h1 h2
  lia
 | some fl =>
  obtain ⟨a,b⟩:=fl
  rw [hnd] at sp
  obtain ⟨⟨q1,q2,q3,q4⟩,q5⟩:=sp
  have A:∀x,a<=x->x<=b->Row.at (ston c s f a b) x=min (Row.at (f,g,c,s) x) (l.at low x):=λx h1 h2=>by
   rw [v1];have:=(q5 x (c1e ‹_› ‹_›) (c1e ‹_› ‹_›)).mpr ⟨h1,h2⟩;lia
  have B:∀a' b' x,f<=x->x<=g->¬(a<=x/\x<=b)->Row.at (ston (l.at low f) l.2 f a' b') x=min (Row.at (f,g,c,s) x) (l.at low x):=λa' b' x h1 h2 h3=>by
   rw [v2];have:=(not_congr (q5 x h1 h2)).mpr h3;lia
  dsimp only
  by_cases hf:f<a
  .have hl:¬b<g:=by lia
   rw [if_pos hf,if_neg hl]
   refine ⟨⟨rfl,by show f<=a-1;lia,⟨by show a=a-1+1;lia,by show a-1+1<=b;lia,by show b+1=g+1;lia⟩⟩,λq hq=>?_,by simp,λz=>?_,λz=>?_⟩
   .simp at hq
    rcases hq with rfl | rfl
    .exact ⟨.inr rfl,c0T _,by show a-1<=g;lia,λx h1 h2=>B _ _ x h1 (by have:x<=a-1:=h2;lia) (by have:x<=a-1:=h2;lia)⟩
    .exact ⟨.inl rfl,by show f<=a;assumption,by show b<=g;assumption,λx h1 h2=>A x h1 h2⟩
   .exfalso;have:=(not_congr (q5 f (c0T _) ‹_›)).mpr (by lia);have:=z f (c0T _) ‹_›;lia
   .exfalso;have:=(q5 a ‹_› (c1e ‹_› ‹_›)).mpr (by lia);have:=z a ‹_› (c1e ‹_› ‹_›);lia
  .have hlf:a=f:=by lia
   rw [if_neg hf]
   by_cases hl:b<g
   .rw [if_pos hl]
    refine ⟨⟨hlf,by show f<=b;exact c1e ‹_› ‹_›,⟨rfl,by show b+1<=g;assumption,rfl⟩⟩,λq hq=>?_,by simp,λz=>?_,λz=>?_⟩
    .simp at hq
     rcases hq with rfl | rfl
     .exact ⟨.inl rfl,by show f<=a;assumption,by show b<=g;assumption,λx h1 h2=>A x h1 h2⟩
     .exact ⟨.inr rfl,by show f<=b+1;lia,c0T _,λx h1 h2=>B _ _ x (by have:b+1<=x:=h1;lia) h2 (by have:b+1<=x:=h1;lia)⟩
    .exfalso;have:=(not_congr (q5 g ‹_› (c0T _))).mpr (by lia);have:=z g ‹_› (c0T _);lia
    .exfalso;have:=(q5 a ‹_› (c1e ‹_› ‹_›)).mpr (by lia);have:=z a ‹_› (c1e ‹_› ‹_›);lia
   .rw [if_neg hl]
    refine ⟨⟨hlf,by show f<=b;exact c1e ‹_› ‹_›,by show b+1=g+1;lia⟩,λq hq=>?_,by simp,λ_=>rfl,λ_=>rfl⟩
    simp at hq
    subst hq
    exact ⟨.inl rfl,by show f<=a;assumption,by show b<=g;assumption,λx h1 h2=>A x h1 h2⟩
theorem Chain.cov:∀{rs:List Row} {a e x:Int},Chain a rs e->a<=x->x<e->∃q∈rs,q.1<=x/\x<=q.2.1
 | [],a,e,x,h,h1,h2=>by have:a=e:=h;lia
 | r::rs,a,e,x,⟨h1,h2,h3⟩,k1,k2=>by
  by_cases hx:x<=r.2.1
  .exact ⟨r,c0N,by lia,hx⟩
  .obtain ⟨q,hq,k⟩:=h3.cov (x:=x) (c4B.mp ‹_›) k2
   exact ⟨q,c0O _ hq,k⟩
theorem Chain.asc:∀{rs:List Row} {a e:Int},Chain a rs e->rs.Pairwise λp q=>p.2.1<q.1
 | [],_,_,_=>.nil
 | r::rs,a,e,⟨h1,h2,h3⟩=>c08.mpr ⟨λq hq=>by have:=h3.mem hq;omega,h3.asc⟩
def disj(a b:Row):Prop:=a.2.1<b.1\/b.2.1<a.1
theorem a8D:∀rs:List Row,b2x (rs.map Row.d)=some (rs.map λr=>(r.1,Row.d r))
 | []=>rfl
 | r::rs=>by
  rw [c1l,b2x,a8D rs]
  rfl
theorem b12{rs:List Row}(hv:∀r∈rs,r.1<=r.2.1)(hd:rs.Pairwise disj)(h64:rs.length<b1B):∃ts:List Row,b06 (rs.map Row.d)=some (ts.map Row.d)/\Asc ts/\(∀x c,Val ts x c↔Val rs x c)/\ts.Perm rs:=by
 have hne:(rs.map (·.1)).Nodup:=by
  rw [List.Nodup,c2e]
  refine hd.imp_of_mem λ{a b} ha hb h=>?_
  have:=hv a ha;have:=hv b hb
  unfold disj at h
  lia
 obtain ⟨ts,t1,t2⟩:=a8k (c5x (rs.map λr=>(r.1,Row.d r)) λa b=>decide (a.1<=b.1))
 have hle:ts.Pairwise λa b=>a.1<=b.1:=by
  have:=c4K (le:=λa b:Int×D=>decide (a.1<=b.1)) (λa b c h1 h2=>by simp at *;exact c1e ‹_› ‹_›) (λa b=>by simp;lia) (rs.map λr=>(r.1,Row.d r))
  rw [<-t2,c2e] at this
  exact this.imp λ{x y} z=>by simpa using z
 have hdt:ts.Pairwise disj:=(t1.pairwise_iff (λ{a b} h=>by unfold disj at *;lia)).mpr hd
 have hvt:∀r∈ts,r.1<=r.2.1:=λr hr=>hv r (t1.subset hr)
 refine ⟨ts,?_,⟨hvt,?_⟩,λx c=>?_,t1⟩
 .unfold b06
  rw [a8D,c1w,if_pos ⟨by rw [c1h];exact hne,by rw [c0P];exact h64⟩,<-t2,c1h]
  rfl
 .refine (hle.and hdt).imp_of_mem λ{a b} ha hb h=>?_
  have:=hvt a ha;have:=hvt b hb
  obtain ⟨h1,h2⟩:=h
  unfold disj at h2
  lia
 .unfold Val
  exact ⟨λ⟨r,hr,k⟩=>⟨r,t1.subset hr,k⟩,λ⟨r,hr,k⟩=>⟨r,t1.symm.subset hr,k⟩⟩
noncomputable def lesR(m:Met):List Row:=lowl (m.a.at m.lo) m.a.2.2.2 (m.b.at m.lo) m.b.2.2.2 m.lo m.hi
theorem a3M{m:Met}(h:m.lo<=m.hi):Chain m.lo (lesR m) (m.hi+1)/\(∀q∈lesR m,(q.2.2.2=m.a.2.2.2\/q.2.2.2=m.b.2.2.2)/\m.lo<=q.1/\q.2.1<=m.hi/\∀x,q.1<=x->x<=q.2.1->q.at x=min (m.a.at x) (m.b.at x))/\(lesR m).length<=2:=by
 obtain ⟨h1,h2,h3,_⟩:=b6u (l:=(m.b.at m.lo,m.b.2.2.2)) (low:=m.lo) (r:=(m.lo,m.hi,m.a.at m.lo,m.a.2.2.2)) h
 have e0:put1 (m.b.at m.lo,m.b.2.2.2) m.lo (m.lo,m.hi,m.a.at m.lo,m.a.2.2.2)=lesR m:=by
  unfold put1 lesR Line.at
  dsimp only
  rw [c3Q,c3R,c2R]
 rw [e0] at h1 h2 h3
 refine ⟨h1,λq hq=>?_,h3⟩
 obtain ⟨k1,k2,k3,k4⟩:=h2 q hq
 refine ⟨k1,k2,k3,λx x1 x2=>?_⟩
 rw [k4 x x1 x2]
 have e1:Row.at (m.lo,m.hi,m.a.at m.lo,m.a.2.2.2) x=m.a.at x:=cutR_at (r:=m.a) (lo:=m.lo) (hi:=m.hi)
 have e2:Line.at (m.b.at m.lo,m.b.2.2.2) m.lo x=m.b.at x:=cutR_at (r:=m.b) (lo:=m.lo) (hi:=m.hi)
 rw [e1,e2]
noncomputable def lesL(A B:List Row):List Row:=(metL A B).flatMap lesR
theorem a7s{A B:List Row}{q:Row}(h:q∈lesL A B):∃m∈metL A B,q∈lesR m/\m.a∈A/\m.b∈B/\m.lo=max m.a.1 m.b.1/\m.hi=min m.a.2.1 m.b.2.1/\m.lo<=q.1/\q.1<=q.2.1/\q.2.1<=m.hi/\(q.2.2.2=m.a.2.2.2\/q.2.2.2=m.b.2.2.2)/\∀x,q.1<=x->x<=q.2.1->q.at x=min (m.a.at x) (m.b.at x):=by
 obtain ⟨m,hm,hq⟩:=c2a.mp h
 obtain ⟨k1,k2,k3,k4,k5⟩:=a14 (c0S _) hm
 obtain ⟨c1,c2,_⟩:=a3M k5
 have:=c1.mem hq
 obtain ⟨d1,d2,d3,d4⟩:=c2 q hq
 exact ⟨m,hm,hq,k1,k2,k3,k4,d2,this.2.1,d3,d1,d4⟩
theorem b4o{A B:List Row}(ha:Asc A)(hb:Asc B):Asc (lesL A B)/\∀x c,Val (lesL A B) x c↔∃p q,look A x=some p/\look B x=some q/\c=min p q:=by
 refine ⟨⟨λq hq=>?_,?_⟩,λx c=>⟨λ⟨q,hq,h1,h2,h3⟩=>?_,λ⟨p,q,h1,h2,h3⟩=>?_⟩⟩
 .obtain ⟨m,_,_,_,_,_,_,_,k,_⟩:=a7s hq;exact k
 .unfold lesL
  rw [List.pairwise_flatMap]
  refine ⟨λm hm=>?_,?_⟩
  .exact (a3M (a14 (c0S _) hm).2.2.2.2).1.asc
  .refine (a7r (c0S _) ha hb).imp_of_mem λ{m k} hm hk h x hx y hy=>?_
   have c1:=(a3M (a14 (c0S _) hm).2.2.2.2).1.mem hx
   have c2:=(a3M (a14 (c0S _) hk).2.2.2.2).1.mem hy
   show x.2.1<y.1
   lia
 .obtain ⟨m,hm,_,k1,k2,k3,k4,k5,k6,k7,_,k8⟩:=a7s hq
  exact ⟨_,_,a2U ha k1 (by lia) (by lia),a2U hb k2 (by lia) (by lia),by rw [h3,k8 x h1 h2]⟩
 .obtain ⟨a,ha',a1,a2,rfl⟩:=a4C h1
  obtain ⟨b,hb',b1,b2,rfl⟩:=a4C h2
  obtain ⟨m,hm,rfl,rfl,m1,m2⟩:=a7q (x:=x) (c0S _) ha hb ha' hb' a1 a2 b1 b2
  obtain ⟨c1,c2,_⟩:=a3M (a14 (c0S _) hm).2.2.2.2
  obtain ⟨q,hq,q1,q2⟩:=c1.cov (x:=x) m1 (zqg ‹_›)
  exact ⟨q,c2a.mpr ⟨m,hm,hq⟩,q1,q2,by rw [h3,(c2 q hq).2.2.2 x q1 q2]⟩
theorem b4p(A B:List Row):(lesL A B).length<=2*(metL A B).length:=by
 unfold lesL
 have:∀ms:List Met,(∀m∈ms,m.lo<=m.hi)->(ms.flatMap lesR).length<=2*ms.length:=λms=>by
  induction ms with
  | nil=>intro _;simp
  | cons m ms ih =>
   intro h
   have:=ih λk hk=>h k (c0O _ hk)
   have:=(a3M (h m c0N)).2.2
   rw [c3I,c1f,c1u]
   lia
 exact this _ λm hm=>(a14 (c0S _) hm).2.2.2.2
theorem a50:∀{n:Nat} {A B:List Row},A.length+B.length<=n->(metL A B).length=0\/(metL A B).length+1<=A.length+B.length
 | n,[],B,_=>by rw [a4z];exact .inl rfl
 | n,a::as,[],_=>by rw [a3K];exact .inl rfl
 | 0,a::as,b::bs,hn=>absurd hn (by simp)
 | n+1,a::as,b::bs,hn=>by
  rw [a3d,c1f]
  have h1:(if max a.1 b.1<=min a.2.1 b.2.1 then [(⟨max a.1 b.1,min a.2.1 b.2.1,a,b⟩:Met)] else []).length<=1:=by split<;>simp
  by_cases hc:a.2.1<b.2.1
  .have:=a50 (n:=n) (A:=as) (B:=b::bs) (by simp at hn ⊢;lia)
   rw [if_pos hc]
   simp only [c1u] at this ⊢;lia
  .have:=a50 (n:=n) (A:=a::as) (B:=bs) (by simp at hn ⊢;exact zqi ‹_›)
   rw [if_neg hc]
   simp only [c1u] at this ⊢;lia
theorem b4V{A B:List Row}(ha:∀r∈A,BdRow (10^140) r)(hb:∀r∈B,BdRow (10^140) r)(l1:A.length<=400000)(l2:B.length<=400000):a1K [.tup (A.map Row.d),.tup (B.map Row.d)]=some (.ow ((lesL A B).map Row.d)):=by
 refine Wo.eq (W_lesser_rows.mpr ?_)
 unfold a3s
 walk_at "v1"
 rw [e_met (λr hr=>(ha r hr).mono (by decide)) (λr hr=>(hb r hr).mono (by decide)) ‹_› ‹_›]
 walk_at "v1"
 have hml:=a7p (A:=A) (B:=B) (c0S _)
 refine a28 Met.d (λpre env=>∃x3 x4 x5 x6,env=[.sh (.tup (A.map Row.d)),.sh (.tup (B.map Row.d)),.ow ((pre.flatMap lesR).map Row.d),x3,x4,x5,x6]) (metL A B) (λpre m post env e h=>?_) (λenv h=>?_) ⟨_,_,_,_,rfl⟩
 .obtain ⟨x3,x4,x5,x6,rfl⟩:=h
  have hm:m∈metL A B:=by rw [e];simp
  obtain ⟨k1,k2,k3,k4,k5⟩:=a14 (c0S _) hm
  have b1:=ha _ k1
  have b2:=hb _ k2
  unfold BdRow at b1 b2
  have hpl:(pre.flatMap lesR).length<=2*pre.length:=by
   have:∀ms:List Met,(∀m∈ms,m.lo<=m.hi)->(ms.flatMap lesR).length<=2*ms.length:=λms=>by
    induction ms with
    | nil=>intro _;simp
    | cons m ms ih =>
     intro h
     have:=ih λk hk=>h k (c0O _ hk)
     have:=(a3M (h m c0N)).2.2
     rw [c3I,c1f,c1u]
     omega
   exact this _ λk hk=>(a14 (A:=A) (B:=B) (c0S _) (by rw [e];simp [hk])).2.2.2.2
  have hpl2:pre.length<=800000:=by have:=congrArg c3D e;simp at this;omega
  have el:=b9W (p1:=m.a.at m.lo) (s1:=m.a.2.2.2) (p2:=m.b.at m.lo) (s2:=m.b.2.2.2) k5 (by omega) (by omega) (by omega) (by omega) (by omega)
  rw [met_d,b5T,b5T]
  walk_at "v1"
  rw [el]
  walk_at "v1"
  have hl2:=(a3M k5).2.2
  refine ⟨?_,.sh (.int m.lo),.sh (.int m.hi),.sh (a8C m.a m.lo),.sh (a8C m.b m.lo),?_⟩
  .rw [c0P,c0P]
   show (pre.flatMap lesR).length+(lesR m).length<=_
   omega
  .rw [c5A,c1c]
   simp only [c3I,List.flatMap_nil,c1J]
   rfl
 .obtain ⟨x3,x4,x5,x6,rfl⟩:=h
  walk_at "vc"
  rfl
noncomputable def minO:Option Int->Option Int->Option Int
 | some a,some b=>some (min a b)
 | some a,none=>some a
 | none,b=>b
theorem b0g{A:List Row}(ha:Asc A){x:Int}:(∃r∈A,r.1<=x/\x<=r.2.1)↔look A x≠none:=by
 constructor
 .rintro ⟨r,hr,h1,h2⟩
  rw [a2U ha hr h1 h2];exact λz=>nomatch z
 .intro h
  cases e:look A x with
  | none=>exact absurd e h
  | some c=>obtain ⟨r,hr,h1,h2,_⟩:=a4C e;exact ⟨r,hr,h1,h2⟩
theorem a5Z:∀(N:Nat) (l:List Nat),l.Nodup->(∀a∈l,a<N)->l.length<=N
 | 0,[],_,_=>c0S _
 | 0,a::_,_,h=>absurd (h a (c0N ..)) (c39 _)
 | N+1,l,hn,h=>by
  by_cases hm:N∈l
  .have k:=a5Z N (l.erase N) (hn.erase N) λa ha=>by
    have:=(hn.mem_erase_iff).mp ha
    have:=h a this.2
    lia
   rw [List.length_erase_of_mem hm] at k
   lia
  .have:=a5Z N l hn λa ha=>by
    have:=h a ha
    have:a≠N:=λz=>hm (z▸ha)
    lia
   exact zqp ‹_›
def Win(X s:Int)(f:List Row):Prop:=∀x c,Val f x c->∃k:Nat,k<60/\x=X+s*k
theorem b1E{X s:Int}(hs:0<s){L:List Row}(h1:∀r∈L,r.1<=r.2.1)(h2:L.Pairwise disj)(hw:Win X s L):L.length<=60:=by
 have inw:∀r∈L,((r.1-X)/s).toNat<60/\r.1=X+s*((r.1-X)/s).toNat:=λr hr=>by
  obtain ⟨k,hk,e⟩:=hw r.1 _ ⟨r,hr,c0T _,h1 r hr,rfl⟩
  have:(r.1-X)/s=k:=by rw [show r.1-X=s*k by lia];exact Int.mul_ediv_cancel_left _ (c4k ‹_›)
  rw [this]
  exact ⟨‹_›,e⟩
 have:=a5Z 60 (L.map λr=>((r.1-X)/s).toNat) ?_ λa ha=>?_
 .simpa using this
 .refine c2e.mpr (h2.imp_of_mem λ{a b} ha hb hd e=>?_)
  have a1:=(inw a ha).2
  have b1:=(inw b hb).2
  rw [<-e] at b1
  have a2:=h1 a ha
  have b2:=h1 b hb
  unfold disj at hd
  lia
 .obtain ⟨r,hr,rfl⟩:=c1i.mp ha
  exact (inw r hr).1
theorem a90{X s:Int}(hs:0<s){f:List Row}(c:Asc f)(hw:Win X s f):f.length<=60:=b1E hs c.1 (c.2.imp λ{a b} z=>.inl z) hw
theorem b7v{A B:List Row}{V C:Int}(ca:Asc A)(cb:Asc B)(ha:∀r∈A,BdRow (10^140) r)(hb:∀r∈B,BdRow (10^140) r)(hV:V<=10^140)(hC:C<=10^140)
  (va:∀x c,look A x=some c->(-V<=x/\x<=V)/\(-C<=c/\c<=C))(vb:∀x c,look B x=some c->(-V<=x/\x<=V)/\(-C<=c/\c<=C)){X s:Int}(hs:0<s)(wa:Win X s A)(wb:Win X s B):
  ∃fs:List Row,a1i [.tup (A.map Row.d),.tup (B.map Row.d)]=some (.sh (.tup (fs.map Row.d)))/\Canon fs/\(∀x,look fs x=minO (look A x) (look B x))/\Win X s fs:=by
 have hN:b1B<=1600000/\60<b1B:=by decide
 have l60:=a90 hs ca wa
 have l61:=a90 hs cb wb
 obtain ⟨sa,ea,SA⟩:=b20 ca (c02 ‹_› (by decide))
 obtain ⟨sb,eb,SB⟩:=b20 cb (c02 ‹_› (by decide))
 have bsp:∀{L:List Row} {ss:List Span},SpansOf L ss->(∀r∈L,BdRow (10^140) r)->∀s∈ss,BdS s:=λ{L ss} S hL s hs=>by
  obtain ⟨⟨r1,h1,e1⟩,⟨r2,h2,e2⟩⟩:=S.ends s hs
  have k1:=hL r1 h1
  have k2:=hL r2 h2
  unfold BdRow at k1 k2
  unfold BdS
  lia
 have asp:∀{L:List Row} {ss:List Span},SpansOf L ss->SAsc ss:=λ{L ss} S=>⟨S.ok,S.apart.imp λ{a b} h=>by exact c2C ‹_›⟩
 have oa:=a8X (rs:=A) (ss:=sb) (λr hr=>(ha r hr).mono (by decide)) (bsp SB hb) (c02 ‹_› (by decide)) (by have:=SB.len;lia)
 have ob:=a8X (rs:=B) (ss:=sa) (λr hr=>(hb r hr).mono (by decide)) (bsp SA ha) (c02 ‹_› (by decide)) (by have:=SA.len;lia)
 obtain ⟨a1,a2,a3,a4⟩:=a5T ca (asp SB)
 obtain ⟨b1,b2,b3,b4⟩:=a5T cb (asp SA)
 obtain ⟨c1,c2⟩:=b4o ca cb
 have la:=SA.len
 have lb:=SB.len
 have ll:=b4p A B
 have lm:=a50 (A:=A) (B:=B) (c0S _)
 have inA:∀x,InS sa x↔look A x≠none:=λx=>(SA.cov x).trans (b0g ca)
 have inB:∀x,InS sb x↔look B x≠none:=λx=>(SB.cov x).trans (b0g cb)
 have tot:∀r∈lesL A B++(outL A sb++outL B sa),r.1<=r.2.1:=λr hr=>by
  rcases c03.mp hr with h | h
  .exact c1.1 r h
  .exact (c03.mp h).elim (a1.1 r) (b1.1 r)
 have apart:∀{L M:List Row},(∀r∈L,r.1<=r.2.1)->(∀r∈M,r.1<=r.2.1)->(∀x c d,Val L x c->Val M x d->False)->∀a∈L,∀b∈M,disj a b:=λ{L M} hL hM hx a haL b hbM=>by
  have h1:=hL a haL
  have h2:=hM b hbM
  by_cases h:a.2.1<b.1\/b.2.1<a.1
  .exact h
  .exact (hx (max a.1 b.1) _ _ ⟨a,haL,Int.le_max_left _ _,by lia,rfl⟩ ⟨b,hbM,Int.le_max_right _ _,by lia,rfl⟩).elim
 have own:∀{L:List Row},Asc L->L.Pairwise disj:=λ{L} h=>h.2.imp λ{a b} z=>.inl z
 have hdis:(lesL A B++(outL A sb++outL B sa)).Pairwise disj:=by
  refine c1g.mpr ⟨own c1,c1g.mpr ⟨own a1,own b1,apart a1.1 b1.1 λx c d h1 h2=>?_⟩,λa haL b hbM=>?_⟩
  .obtain ⟨k1,k2⟩:=(a3 x c).mp h1
   obtain ⟨k3,k4⟩:=(b3 x d).mp h2
   rw [inB,a4p cb] at *
   exact k2 (by rw [k3];exact λz=>nomatch z)
  .rcases c03.mp hbM with hbM | hbM
   .refine apart c1.1 a1.1 (λx c d h1 h2=>?_) a haL b hbM
    obtain ⟨p,q,k1,k2,_⟩:=(c2 x c).mp h1
    obtain ⟨_,k4⟩:=(a3 x d).mp h2
    exact k4 ((inB x).mpr (by rw [k2];exact λz=>nomatch z))
   .refine apart c1.1 b1.1 (λx c d h1 h2=>?_) a haL b hbM
    obtain ⟨p,q,k1,k2,_⟩:=(c2 x c).mp h1
    obtain ⟨_,k4⟩:=(b3 x d).mp h2
    exact k4 ((inA x).mpr (by rw [k1];exact λz=>nomatch z))
 have hval:∀x c,Val (lesL A B++(outL A sb++outL B sa)) x c↔minO (look A x) (look B x)=some c:=λx c=>by
  rw [Val.app,Val.app,c2,a3,b3,inA,inB,a4p ca,a4p cb]
  cases look A x with
  | none=>cases look B x<;>simp [minO]
  | some a=>cases look B x<;>simp [minO,eq_comm]
 have wL:Win X s (lesL A B++(outL A sb++outL B sa)):=λx c h=>by
  have m:=(hval x c).mp h
  cases e1:look A x with
  | some v=>exact wa x v ((a4p ca).mpr e1)
  | none =>
   cases e2:look B x with
   | some v=>exact wb x v ((a4p cb).mpr e2)
   | none=>rw [e1,e2] at m;cases m
 have h60:=b1E hs tot hdis wL
 obtain ⟨ts,es,cts,vts,pts⟩:=b12 tot hdis (c2i ‹_› (by decide))
 have hbd:∀r∈ts,BdRow (10^140) r:=λr hr=>by
  have hr':=pts.subset hr
  have hle:=tot r hr'
  rcases c03.mp hr' with h | h
  .obtain ⟨m,_,_,k1,k2,k3,k4,k5,k6,k7,k8,k9⟩:=a7s h
   have q1:=ha _ k1
   have q2:=hb _ k2
   have v1:=va _ _ (a2U ca k1 (x:=r.1) (by lia) (by lia))
   have v2:=vb _ _ (a2U cb k2 (x:=r.1) (by lia) (by lia))
   have e1:r.at r.1=r.2.2.1:=by unfold Row.at;simp
   have e2:=k9 r.1 (c0T _) hle
   rw [e1] at e2
   unfold BdRow at *
   lia
  .have key:∀{L:List Row} {q:Row},Asc L->(∀r∈L,BdRow (10^140) r)->(∀x c,look L x=some c->(-V<=x/\x<=V)/\(-C<=c/\c<=C))->(∃r∈L,r.1<=q.1/\q.2.1<=r.2.1/\q.2.2.1=r.at q.1/\q.2.2.2=r.2.2.2)->q.1<=q.2.1->BdRow (10^140) q:=λ{L q} hA hL hv ⟨z,hz,k1,k2,k3,k4⟩ hq=>by
    have q1:=hL z hz
    have v1:=hv _ _ (a2U hA hz (x:=q.1) ‹_› (c1e ‹_› ‹_›))
    unfold BdRow at *
    rw [k3,k4]
    lia
   rcases c03.mp h with h | h
   .exact key ca ha va (a2 r h) hle
   .exact key cb hb vb (b2 r h) hle
 obtain ⟨fs,ef,L⟩:=b0O cts hbd (by rw [pts.length_eq];exact c02 ‹_› (by decide)) (ro:=false)
 have lk:∀x,look fs x=minO (look A x) (look B x):=λx=>b6U L.canon.asc λc=>by rw [L.val,vts,hval]
 refine ⟨fs,?_,L.canon,lk,?_⟩
 .refine Wo.eq (W_least.mpr ?_)
  unfold a95
  walk_at "vc"
  rw [eb,ea]
  walk_at "vc"
  rw [oa,ob]
  walk_at "vc"
  rw [b4V (λr hr=>(ha r hr).mono (by decide)) (λr hr=>(hb r hr).mono (by decide)) (c02 ‹_› (by decide)) (c02 ‹_› (by decide))]
  walk_at "vc"
  rw [<-c1c,<-c1c,es]
  walk_at "vc"
  rw [ef]
  walk_at "vc"
  simp only [c0P,c1f]
  lia
 .exact λx c h=>wL x c ((vts x c).mp ((L.val x c).mp h))
theorem b0V{fs:List Row}(h:Canon fs){B C:Int}(hC:0<=C)(hb:∀x c,look fs x=some c->(-B<=x/\x<=B)/\(-C<=c/\c<=C)):∀r∈fs,(-B<=r.1/\r.1<=B)/\(-B<=r.2.1/\r.2.1<=B)/\(-C<=r.2.2.1/\r.2.2.1<=C)/\(-(2*C)<=r.2.2.2/\r.2.2.2<=2*C):=λr hr=>by
 have ok:=h.1 r hr
 unfold a7V at ok
 have l1:=a2U h.asc hr (x:=r.1) (c0T _) ok.1
 have l2:=a2U h.asc hr (x:=r.2.1) ok.1 (c0T _)
 have b1:=hb _ _ l1
 have b2:=hb _ _ l2
 have e1:r.at r.1=r.2.2.1:=by unfold Row.at;simp
 rw [e1] at b1
 refine ⟨b1.1,b2.1,b1.2,?_⟩
 by_cases hs:r.1=r.2.1
 .rw [ok.2 hs];lia
 .have l3:=a2U h.asc hr (x:=r.1+1) (by lia) (by lia)
  have b3:=hb _ _ l3
  have e3:r.at (r.1+1)=r.2.2.1+r.2.2.2:=by unfold Row.at;rw [show r.1+1-r.1=1 by lia,c3C]
  rw [e3] at b3
  lia
noncomputable def Gl(φ:List D->Option Sl):SF:=
 (sSeq (sIf (tOf (eBin gLt (eLen (bV 0)) (eC (.int 2))))
 (sRet (eIf (tTru (eV 0)) (eIx (bV 0) (eC (.int 0))) (eTup aNil))) sNx)
 (sSeq (a0x 1 (eBin gDiv (eLen (bV 0)) (eC (.int 2))))
 (sRet (a0h 2 a1i (a0b (a0h 1 φ (a0b (eSl (bV 0) pNo (pSo (eV 1))) aNil)) (a0b (a0h 1 φ (a0b (eSl (bV 0) (pSo (eV 1)) pNo) aNil)) aNil))))))
theorem b91{α:Type}(xs:List α){k:Nat}(h:k<=xs.length):cutL xs none (some (k:Int))=xs.take k:=by
 unfold cutL
 have e1:HT.sIx xs.length 0 none=0:=rfl
 have e2:HT.sIx xs.length xs.length (some (k:Int))=min k xs.length:=HT.sIx_nat _ _ k
 rw [e1,e2,List.drop_zero,Nat.sub_zero,Nat.min_eq_left h]
theorem b92{α:Type}(xs:List α){k:Nat}(h:k<=xs.length):cutL xs (some (k:Int)) none=xs.drop k:=by
 unfold cutL
 have e1:HT.sIx xs.length 0 (some (k:Int))=min k xs.length:=HT.sIx_nat _ _ k
 have e2:HT.sIx xs.length xs.length none=xs.length:=rfl
 rw [e1,e2,Nat.min_eq_left h,c4Y]
 rw [c2W]
 exact c0S _
structure FV(V C:Int)(f:List Row):Prop where
 canon:Canon f
 bd:∀x c,look f x=some c->(-V<=x/\x<=V)/\(-C<=c/\c<=C)
theorem FV.row{V C:Int}{f:List Row}(h:FV V C f)(hV:V<=10^140)(hC:0<=C/\2*C<=10^140):∀r∈f,BdRow (10^140) r:=λr hr=>by
 have:=b0V h.canon hC.1 h.bd r hr
 unfold BdRow
 omega
def MinF(Fs:List (List Row))(f:List Row):Prop:=∀x v,look f x=some v↔(∃g∈Fs,look g x=some v)/\∀g∈Fs,∀w,look g x=some w->v<=w
theorem MinF.fv{V C:Int}{Fs:List (List Row)}{f:List Row}(h:MinF Fs f)(cf:Canon f)(hF:∀g∈Fs,FV V C g):FV V C f:=⟨cf,λx c e=>by
 obtain ⟨⟨g,hg,k⟩,_⟩:=(h x c).mp e
 exact (hF g hg).bd x c k⟩
theorem MinF.merge{Fs Gs:List (List Row)}{a b f:List Row}(ha:MinF Fs a)(hb:MinF Gs b)(lk:∀x,look f x=minO (look a x) (look b x)):MinF (Fs++Gs) f:=λx v=>by
 rw [lk]
 have no:∀{Hs:List (List Row)} {h:List Row},MinF Hs h->look h x=none->∀g∈Hs,look g x=none:=λ{Hs h} hh e=>by
  have key:∀Ks:List (List Row),(∀g∈Ks,g∈Hs)->(∃g∈Ks,look g x≠none)->∃v,(∃g∈Ks,look g x=some v)/\∀g∈Ks,∀w,look g x=some w->v<=w:=λKs=>by
   induction Ks with
   | nil=>rintro _ ⟨g,hg,_⟩;cases hg
   | cons k Ks ih =>
    intro hs hex
    by_cases hK:∃g∈Ks,look g x≠none
    .obtain ⟨v,⟨g,hg,e1⟩,m⟩:=ih (λg hg=>hs g (c0O _ hg)) hK
     cases ek:look k x with
     | none=>exact ⟨v,⟨g,c0O _ hg,e1⟩,λq hq w hw=>by
       rcases c0R.mp hq with rfl | hq
       .rw [ek] at hw;cases hw
       .exact m q hq w hw⟩
     | some u =>
      by_cases huv:u<=v
      .exact ⟨u,⟨k,c0N ..,ek⟩,λq hq w hw=>by
        rcases c0R.mp hq with rfl | hq
        .rw [ek] at hw;cases hw;exact c0T _
        .exact c1e huv (m q hq w hw)⟩
      .exact ⟨v,⟨g,c0O _ hg,e1⟩,λq hq w hw=>by
        rcases c0R.mp hq with rfl | hq
        .rw [ek] at hw;cases hw;lia
        .exact m q hq w hw⟩
    .obtain ⟨g,hg,e1⟩:=hex
     rcases c0R.mp hg with rfl | hg
     .cases ek:look g x with
      | none=>exact absurd ek e1
      | some u=>exact ⟨u,⟨g,c0N ..,ek⟩,λq hq w hw=>by
        rcases c0R.mp hq with rfl | hq
        .rw [ek] at hw;cases hw;exact c0T _
        .exact absurd ⟨q,hq,by rw [hw];exact λz=>nomatch z⟩ hK⟩
     .exact absurd ⟨g,hg,e1⟩ hK
  intro g hg
  refine Classical.byContradiction λz=>?_
  obtain ⟨v,hv⟩:=key Hs (λ_ h=>h) ⟨g,hg,z⟩
  rw [(hh x v).mpr hv] at e
  cases e
 cases ea:look a x with
 | none =>
  have n1:=no ha ea
  show look b x=some v↔_
  rw [hb x v]
  constructor
  .rintro ⟨⟨g,hg,e⟩,m⟩
   exact ⟨⟨g,c04 _ hg,e⟩,λq hq w hw=>(c03.mp hq).elim (λz=>by rw [n1 q z] at hw;cases hw) λz=>m q z w hw⟩
  .rintro ⟨⟨g,hg,e⟩,m⟩
   exact ⟨(c03.mp hg).elim (λz=>by rw [n1 g z] at e;cases e) λz=>⟨g,z,e⟩,λq hq=>m q (c04 _ hq)⟩
 | some u =>
  obtain ⟨⟨g1,hg1,e1⟩,m1⟩:=(ha x u).mp ea
  cases eb:look b x with
  | none =>
   have n2:=no hb eb
   show some u=some v↔_
   constructor
   .intro z
    cases z
    exact ⟨⟨g1,c1a _ hg1,e1⟩,λq hq w hw=>(c03.mp hq).elim (λz=>m1 q z w hw) λz=>by rw [n2 q z] at hw;cases hw⟩
   .rintro ⟨⟨g,hg,e⟩,m⟩
    rcases c03.mp hg with z | z
    .have k1:=m g1 (c1a _ hg1) u e1
     have k2:=m1 g z v e
     rw [show u=v by exact c2P ‹_› ‹_›]
    .rw [n2 g z] at e;cases e
  | some t =>
   obtain ⟨⟨g2,hg2,e2⟩,m2⟩:=(hb x t).mp eb
   show some (min u t)=some v↔_
   constructor
   .intro z
    cases z
    refine ⟨?_,λq hq w hw=>?_⟩
    .by_cases c:u<=t
     .exact ⟨g1,c1a _ hg1,by rw [e1,show min u t=u by lia]⟩
     .exact ⟨g2,c04 _ hg2,by rw [e2,show min u t=t by lia]⟩
    .rcases c03.mp hq with z | z
     .have:=m1 q z w hw;lia
     .have:=m2 q z w hw;lia
   .rintro ⟨⟨g,hg,e⟩,m⟩
    have k1:=m g1 (c1a _ hg1) u e1
    have k2:=m g2 (c04 _ hg2) t e2
    congr 1
    rcases c03.mp hg with z | z
    .have:=m1 g z v e;lia
    .have:=m2 g z v e;lia
def LOw(φ:List D->Option Sl)(n:Nat):Prop:=∀{V C X s:Int} {Fs:List (List Row)} {r:Bool},0<s->V<=10^140->0<=C/\2*C<=10^140->(∀f∈Fs,FV V C f/\Win X s f)->Fs≠[]->Fs.length<=n->∃fs:List Row,φ [.lst r (Fs.map λf=>.tup (f.map Row.d))]=some (.sh (.tup (fs.map Row.d)))/\Canon fs/\MinF Fs fs/\Win X s fs
theorem b2v{φ ψ:List D->Option Sl}(W:∀{a0:D} {Q:Sl->Prop},Wo (ψ [a0]) Q↔Wo (Gl φ [.sh a0,.no]) (endQ Q)):LOw ψ 1:=λ{V C X s Fs r} hs hV hC hF hne hl=>by
 match Fs,hne,hl with
 | [f],_,_ =>
  refine ⟨f,Wo.eq (W.mpr ?_),(hF f (c0N ..)).1.canon,λx v=>?_,(hF f (c0N ..)).2⟩
  .unfold Gl
   dsimp only [c3J]
   walk_at "vc"
   exact λz=>nomatch z
  .exact ⟨λe=>⟨⟨f,c0N ..,e⟩,λg hg w hw=>by rw [c0Q.mp hg] at hw;rw [e] at hw;cases hw;exact c0T _⟩,λ⟨⟨g,hg,e⟩,_⟩=>by rw [c0Q.mp hg] at e;exact e⟩
theorem a3m{φ ψ:List D->Option Sl}{n:Nat}(hn:n<=1000)(h:LOw φ n)(W:∀{a0:D} {Q:Sl->Prop},Wo (ψ [a0]) Q↔Wo (Gl φ [.sh a0,.no]) (endQ Q)):LOw ψ (2*n):=λ{V C X s Fs r} hs hV hC hF hne hl=>by
 by_cases hlen:Fs.length<2
 .have hpos:=c5z.mpr hne
  exact b2v W hs hV hC hF hne (zqi ‹_›) (r:=r)
 .obtain ⟨k,hk⟩:∃k:Nat,(Fs.length:Int)/2=k:=⟨((Fs.length:Int)/2).toNat,by lia⟩
  have hk1:1<=k:=by lia
  have hk2:k<Fs.length:=by lia
  have nA:Fs.take k≠[]:=c3h (by rw [c2k];lia)
  have nB:Fs.drop k≠[]:=c3h (by rw [c2W];lia)
  have hFa:∀f∈Fs.take k,FV V C f/\Win X s f:=λf hf=>hF f (List.mem_of_mem_take hf)
  have hFb:∀f∈Fs.drop k,FV V C f/\Win X s f:=λf hf=>hF f (List.mem_of_mem_drop hf)
  obtain ⟨A,ea,cA,mA,lA⟩:=h (r:=false) hs hV hC hFa nA (by rw [c2k];lia)
  obtain ⟨B,eb,cB,mB,lB⟩:=h (r:=false) hs hV hC hFb nB (by rw [c2W];lia)
  have vA:=mA.fv cA λf hf=>(hFa f hf).1
  have vB:=mB.fv cB λf hf=>(hFb f hf).1
  obtain ⟨fs,ef,cf,lk,lf⟩:=b7v (V:=V) (C:=C) cA.asc cB.asc (vA.row hV hC) (vB.row hV hC) hV (by lia) vA.bd vB.bd hs lA lB
  have mf:=mA.merge mB lk
  rw [c5e] at mf
  refine ⟨fs,Wo.eq (W.mpr ?_),cf,mf,lf⟩
  unfold Gl
  walk_at "v1"
  refine a1Y ?_ ?_
  .walk_at "vc"
   rw [c0P]
   lia
  walk_at "v1"
  rw [c0P,hk,a7H,a7H,b91 _ (c2A ‹_›),b92 _ (c2A ‹_›)]
  walk_at "v1"
  refine ⟨b7z (by decide) (by decide),?_⟩
  rw [ea]
  walk_at "v1"
  rw [eb]
  walk_at "v1"
  rw [ef]
  walk_at "vc"
noncomputable def fl:List (Int×Int)->Int->Int
 | [],_=>0
 | p::L,t=>if t<=p.2 then p.1*t else p.1*p.2+fl L (t-p.2)
noncomputable def gl:List (Int×Int)->Int->Int
 | [],_=>0
 | p::L,l=>p.2*min 0 (p.1-l)+gl L l
noncomputable def tw:List (Int×Int)->Int
 | []=>0
 | p::L=>p.2+tw L
def Wd(L:List (Int×Int)):Prop:=∀p∈L,0<=p.2
theorem Wd.tl{p:Int×Int}{L:List (Int×Int)}(h:Wd (p::L)):0<=p.2/\Wd L:=⟨h p (c0N ..),λq hq=>h q (c0O _ hq)⟩
theorem b3G:∀{L:List (Int×Int)},Wd L->0<=tw L
 | [],_=>c0T _
 | p::L,h=>by have:=b3G h.tl.2;have:=h.tl.1;unfold tw;lia
theorem b2P{l:Int}:∀{L:List (Int×Int)},(∀p∈L,l<=p.1)->gl L l=0
 | [],_=>rfl
 | p::L,h=>by
  have:=h p (c0N ..)
  unfold gl
  rw [b2P λq hq=>h q (c0O _ hq),show min 0 (p.1-l)=0 by lia]
  simp
def Up(L:List (Int×Int)):Prop:=L.Pairwise λa b=>a.1<=b.1
theorem b9N:∀{L:List (Int×Int)},L≠[]->Wd L->Up L->∀{t:Int},0<=t->t<=tw L->∃p∈L,fl L t=p.1*t+gl L p.1
 | [],h,_,_,_,_,_=>(h rfl).elim
 | p::L,_,h,hu,t,h0,h1=>by
  obtain ⟨hu1,hu2⟩:=c08.mp hu
  have h1':t<=p.2+tw L:=h1
  by_cases ht:t<=p.2
  .refine ⟨p,c0N ..,?_⟩
   unfold fl
   rw [if_pos ht,b2P (l:=p.1)]
   .lia
   .intro q hq
    rcases c0R.mp hq with rfl | hq
    .exact c0T _
    .exact hu1 q hq
  .have hn:L≠[]:=λz=>by subst z;simp [tw] at h1';lia
   obtain ⟨q,hq,e⟩:=b9N hn h.tl.2 hu2 (t:=t-p.2) (by lia) (by lia)
   refine ⟨q,c0O _ hq,?_⟩
   have hpq:=hu1 q hq
   unfold fl gl
   rw [if_neg ht,e,show min 0 (p.1-q.1)=p.1-q.1 by lia,c4O,c4O,c5T p.2 p.1,c5T p.2 q.1]
   lia
noncomputable def cs:List (Int×Int)->Int
 | []=>0
 | p::L=>p.1*p.2+cs L
theorem a9P{L:List (Int×Int)}(h:Wd L):fl L 0=0:=by
 cases L with
 | nil=>rfl
 | cons r P=>unfold fl;rw [if_pos h.tl.1];simp
theorem b8F(L M:List (Int×Int)):tw (L++M)=tw L+tw M:=by
 induction L with
 | nil=>show tw M=0+tw M;lia
 | cons p L ih=>show p.2+tw (L++M)=p.2+tw L+tw M;lia
theorem b93(L M:List (Int×Int)):cs (L++M)=cs L+cs M:=by
 induction L with
 | nil=>show cs M=0+cs M;lia
 | cons p L ih=>show p.1*p.2+cs (L++M)=p.1*p.2+cs L+cs M;lia
noncomputable def mk1(q:Int×Int)(x p:Int):List Row:=if q.2>0 then [(x+1,x+q.2,p+q.1,q.1)] else []
noncomputable def mk:List (Int×Int)->Int->Int->List Row
 | [],_,_=>[]
 | q::L,x,p=>mk1 q x p++mk L (x+q.2) (p+q.1*q.2)
theorem b5Q:∀(L:List (Int×Int)) (q:Int×Int) (x p:Int),mk (L++[q]) x p=mk L x p++mk1 q (x+tw L) (p+cs L)
 | [],q,x,p=>by show mk1 q x p++[]=[]++mk1 q (x+0) (p+0);simp
 | r::L,q,x,p=>by
  show mk1 r x p++mk (L++[q]) (x+r.2) (p+r.1*r.2)=(mk1 r x p++mk L (x+r.2) (p+r.1*r.2))++mk1 q (x+(r.2+tw L)) (p+(r.1*r.2+cs L))
  rw [b5Q L q,c13,show x+r.2+tw L=x+(r.2+tw L) by exact c4P _ _ _,show p+r.1*r.2+cs L=p+(r.1*r.2+cs L) by exact c4P _ _ _]
theorem b1G{A B:List Row}{x c:Int}:Val (A++B) x c↔Val A x c\/Val B x c:=by
 unfold Val
 constructor
 .rintro ⟨r,hr,h⟩
  rcases c03.mp hr with hr | hr
  .exact .inl ⟨r,hr,h⟩
  .exact .inr ⟨r,hr,h⟩
 .rintro (⟨r,hr,h⟩ | ⟨r,hr,h⟩)
  .exact ⟨r,c1a _ hr,h⟩
  .exact ⟨r,c04 _ hr,h⟩
theorem b6S{q:Int×Int}{x p y c:Int}:Val (mk1 q x p) y c↔x<y/\y<=x+q.2/\c=p+q.1*(y-x):=by
 unfold mk1 Val
 have e:∀y,Row.at (x+1,x+q.2,p+q.1,q.1) y=p+q.1*(y-x):=λy=>by
  show p+q.1+q.1*(y-(x+1))=_
  rw [show y-(x+1)=(y-x)-1 by lia,c4O,c3C]
  lia
 split
 .constructor
  .rintro ⟨r,hr,h1,h2,h3⟩
   rw [c0Q.mp hr] at h1 h2 h3
   rw [e] at h3
   dsimp only at h1 h2
   exact ⟨‹_›,h2,h3⟩
  .rintro ⟨h1,h2,h3⟩
   exact ⟨_,c0Q.mpr rfl,by dsimp only;assumption,h2,by rw [e];exact h3⟩
 .constructor
  .rintro ⟨r,hr,_⟩
   exact absurd hr (c1m)
  .rintro ⟨h1,h2,h3⟩
   lia
theorem b5O:∀{L:List (Int×Int)},Wd L->∀{x p y c:Int},Val (mk L x p) y c↔x<y/\y<=x+tw L/\c=p+fl L (y-x)
 | [],_,x,p,y,c=>by
  constructor
  .rintro ⟨r,hr,_⟩
   exact absurd hr (c1m)
  .rintro ⟨h1,h2,h3⟩
   have:y<=x+0:=h2
   lia
 | q::L,h,x,p,y,c=>by
  have hq:=h.tl.1
  have hP:=b3G h.tl.2
  show Val (mk1 q x p++mk L (x+q.2) (p+q.1*q.2)) y c↔x<y/\y<=x+(q.2+tw L)/\_
  rw [b1G,b6S,b5O h.tl.2,show fl (q::L) (y-x)=if y-x<=q.2 then q.1*(y-x) else q.1*q.2+fl L (y-x-q.2) from rfl]
  by_cases hy:y-x<=q.2
  .rw [if_pos hy]
   constructor
   .rintro (⟨h1,h2,h3⟩ | ⟨h1,h2,h3⟩)
    .exact ⟨h1,by lia,h3⟩
    .lia
   .rintro ⟨h1,h2,h3⟩
    exact .inl ⟨h1,by lia,h3⟩
  .rw [if_neg hy,show y-(x+q.2)=y-x-q.2 by lia]
   constructor
   .rintro (⟨h1,h2,h3⟩ | ⟨h1,h2,h3⟩)
    .lia
    .exact ⟨by lia,by lia,by lia⟩
   .rintro ⟨h1,h2,h3⟩
    exact .inr ⟨by lia,by lia,by lia⟩
noncomputable def Sh:List (List Row)->Int->Int->Prop
 | [],x,c=>x=0/\c=0
 | F::Fs,x,c=>∃y cy z cz,Val F y cy/\Sh Fs z cz/\y+z=x/\cy+cz=c
def Jn(Fs:List (List Row))(x c:Int):Prop:=Sh Fs x c/\∀c',Sh Fs x c'->c<=c'
theorem Sh.app:∀{Fs Gs:List (List Row)} {x c:Int},Sh (Fs++Gs) x c↔∃y cy z cz,Sh Fs y cy/\Sh Gs z cz/\y+z=x/\cy+cz=c
 | [],Gs,x,c=>by
  constructor
  .intro h
   exact ⟨0,0,x,c,⟨rfl,rfl⟩,h,c3S _,c3S _⟩
  .rintro ⟨y,cy,z,cz,⟨rfl,rfl⟩,h,rfl,rfl⟩
   rw [c3S,c3S]
   exact h
 | F::Fs,Gs,x,c=>by
  constructor
  .rintro ⟨y,cy,z,cz,v,h,rfl,rfl⟩
   obtain ⟨p,cp,q,cq,h1,h2,rfl,rfl⟩:=Sh.app.mp h
   exact ⟨y+p,cy+cp,q,cq,⟨y,cy,p,cp,v,h1,rfl,rfl⟩,h2,c4P _ _ _,c4P _ _ _⟩
  .rintro ⟨y,cy,z,cz,⟨p,cp,q,cq,v,h1,rfl,rfl⟩,h2,rfl,rfl⟩
   exact ⟨p,cp,q+z,cq+cz,v,Sh.app.mpr ⟨q,cq,z,cz,h1,h2,rfl,rfl⟩,by lia,by lia⟩
theorem Sh.perm{Fs Gs:List (List Row)}(h:Fs.Perm Gs):∀{x c:Int},Sh Fs x c->Sh Gs x c:=by
 induction h with
 | nil=>exact id
 | cons F _ ih=>rintro x c ⟨y,cy,z,cz,v,h,e1,e2⟩;exact ⟨y,cy,z,cz,v,ih h,e1,e2⟩
 | swap F G Fs =>
  rintro x c ⟨y,cy,z,cz,v,⟨p,cp,q,cq,w,h,rfl,rfl⟩,rfl,rfl⟩
  exact ⟨p,cp,y+q,cy+cq,w,⟨y,cy,q,cq,v,h,rfl,rfl⟩,by lia,by lia⟩
 | trans _ _ i1 i2=>intro x c h;exact i2 (i1 h)
theorem Jn.perm{Fs Gs:List (List Row)}(h:Fs.Perm Gs){x c:Int}(j:Jn Fs x c):Jn Gs x c:=⟨j.1.perm h,λc' k=>j.2 c' (k.perm h.symm)⟩
theorem Jn.merge{Fs Gs:List (List Row)}{f:List Row}(hf:∀x c,Val f x c↔Jn Fs x c)(ex:∀x c,Sh Fs x c->∃m,Jn Fs x m){x c:Int}:Jn (f::Gs) x c↔Jn (Fs++Gs) x c:=by
 have up:∀{x c},Sh (f::Gs) x c->Sh (Fs++Gs) x c:=λ{x c} ⟨y,cy,z,cz,v,h,e1,e2⟩=>Sh.app.mpr ⟨y,cy,z,cz,((hf _ _).mp v).1,h,e1,e2⟩
 have dn:∀{x c},Sh (Fs++Gs) x c->∃c',c'<=c/\Sh (f::Gs) x c':=λ{x c} h=>by
  obtain ⟨y,cy,z,cz,h1,h2,e1,e2⟩:=Sh.app.mp h
  obtain ⟨m,hm⟩:=ex y cy h1
  exact ⟨m+cz,by have:=hm.2 _ h1;lia,y,m,z,cz,(hf _ _).mpr hm,h2,e1,rfl⟩
 constructor
 .rintro ⟨h,k⟩
  refine ⟨up h,λc' h'=>?_⟩
  obtain ⟨c'',l,h''⟩:=dn h'
  have:=k c'' h''
  exact c1e ‹_› ‹_›
 .rintro ⟨h,k⟩
  obtain ⟨c'',l,h''⟩:=dn h
  have:=k c'' (up h'')
  have:c''=c:=by exact c2P ‹_› ‹_›
  subst this
  exact ⟨h'',λc' h'=>k c' (up h')⟩
noncomputable def St:List (Int×Int)->Int->Int->Prop
 | [],t,k=>t=0/\k=0
 | q::L,t,k=>∃a u v,(0<=a/\a<=q.2)/\St L u v/\a+u=t/\q.1*a+v=k
theorem St.dom:∀{L:List (Int×Int)} {t k:Int},St L t k->0<=t/\t<=tw L
 | [],t,k,h=>by unfold tw;have:=h.1;lia
 | q::L,t,k,⟨a,u,v,ha,h,e,_⟩=>by have:=St.dom h;unfold tw;lia
theorem St.ge:∀{L:List (Int×Int)} {t k:Int},St L t k->∀l,l*t+gl L l<=k
 | [],t,k,⟨h1,h2⟩,l=>by subst h1 h2;unfold gl;simp
 | q::L,t,k,⟨a,u,v,ha,h,e1,e2⟩,l=>by
  have i:=St.ge h l
  subst e1 e2
  unfold gl
  have m:q.2*min 0 (q.1-l)<=(q.1-l)*a:=by
   by_cases hs:0<=q.1-l
   .rw [Int.min_eq_left hs,c3R]
    exact c2X hs ha.1
   .rw [Int.min_eq_right (by lia),c5T]
    exact Int.mul_le_mul_of_nonpos_left (by lia) ha.2
  rw [c3m]
  rw [Int.sub_mul] at m
  lia
theorem St.fl:∀{L:List (Int×Int)},Wd L->∀{t:Int},0<=t->t<=tw L->St L t (fl L t)
 | [],_,t,h0,h1=>⟨by unfold tw at h1;exact c2P ‹_› ‹_›,rfl⟩
 | q::L,h,t,h0,h1=>by
  obtain ⟨hq,hL⟩:=h.tl
  unfold My.fl
  unfold tw at h1
  by_cases ht:t<=q.2
  .rw [if_pos ht]
   have:=St.fl hL (t:=0) (c0T _) (b3G hL)
   rw [a9P hL] at this
   exact ⟨t,0,0,⟨h0,ht⟩,this,c2R _,c2R _⟩
  .rw [if_neg ht]
   exact ⟨q.2,t-q.2,_,⟨hq,c0T _⟩,St.fl hL (by lia) (by lia),by lia,rfl⟩
theorem St.perm{L M:List (Int×Int)}(h:L.Perm M):∀{t k:Int},St L t k->St M t k:=by
 induction h with
 | nil=>exact id
 | cons q _ ih=>rintro t k ⟨a,u,v,ha,h,e1,e2⟩;exact ⟨a,u,v,ha,ih h,e1,e2⟩
 | swap q p L =>
  rintro t k ⟨a,u,v,ha,⟨b,u',v',hb,h,rfl,rfl⟩,rfl,rfl⟩
  exact ⟨b,a+u',p.1*a+v',hb,⟨a,u',v',ha,h,rfl,rfl⟩,by lia,by lia⟩
 | trans _ _ i1 i2=>intro t k h;exact i2 (i1 h)
theorem St.least{L:List (Int×Int)}(hn:L≠[])(hw:Wd L)(hu:Up L){t k:Int}(h:St L t k):My.fl L t<=k:=by
 obtain ⟨d1,d2⟩:=h.dom
 obtain ⟨p,_,e⟩:=b9N hn hw hu d1 d2
 have:=h.ge p.1
 omega
noncomputable def wid(r:Row):Int:=r.2.1-r.1
noncomputable def pk(r:Row):Int×Int:=(r.2.2.2,wid r)
noncomputable def X0(R:List Row):Int:=(R.map λr=>r.1).sum
noncomputable def P0(R:List Row):Int:=(R.map λr=>r.2.2.1).sum
noncomputable def one(R:List Row):List (List Row):=R.map λr=>[r]
theorem sh_one:∀{R:List Row} {x c:Int},Sh (one R) x c↔St (R.map pk) (x-X0 R) (c-P0 R)
 | [],x,c=>by unfold one X0 P0;simp [Sh,St]
 | r::R,x,c=>by
  have ih:=@sh_one R
  constructor
  .rintro ⟨y,cy,z,cz,⟨q,hq,h1,h2,h3⟩,h,e1,e2⟩
   rw [c0Q.mp hq] at h1 h2 h3
   refine ⟨y-r.1,z-X0 R,cz-P0 R,⟨by lia,by show _<=wid r;unfold wid;lia⟩,ih.mp h,?_,?_⟩
   .unfold X0;rw [c1l,c1Q];lia
   .unfold P0;rw [c1l,c1Q]
    show r.2.2.2*(y-r.1)+_=_
    unfold Row.at at h3
    lia
  .rintro ⟨a,u,v,ha,h,e1,e2⟩
   have ha2:a<=wid r:=ha.2
   unfold wid at ha2
   unfold X0 at e1
   unfold P0 at e2
   rw [c1l,c1Q] at e1 e2
   refine ⟨r.1+a,r.2.2.1+r.2.2.2*a,X0 R+u,P0 R+v,⟨r,c0Q.mpr rfl,by lia,by lia,?_⟩,ih.mpr ?_,?_,?_⟩
   .unfold Row.at
    rw [show r.1+a-r.1=a by lia]
   .rw [show X0 R+u-X0 R=u by lia,show P0 R+v-P0 R=v by lia];exact h
   .unfold X0;lia
   .unfold P0
    have e2:r.2.2.2*a+v=c-(r.2.2.1+(R.map λr=>r.2.2.1).sum):=e2
    lia
noncomputable def prod:List (List Row)->List (List Row)
 | []=>[[]]
 | F::Fs=>F.flatMap λr=>(prod Fs).map λR=>r::R
theorem sh_prod:∀{Fs:List (List Row)} {x c:Int},Sh Fs x c↔∃R∈prod Fs,Sh (one R) x c
 | [],x,c=>by unfold prod;simp [one,Sh]
 | F::Fs,x,c=>by
  constructor
  .rintro ⟨y,cy,z,cz,⟨r,hr,h1,h2,h3⟩,h,e1,e2⟩
   obtain ⟨R,hR,k⟩:=sh_prod.mp h
   exact ⟨r::R,c2a.mpr ⟨r,hr,c1i.mpr ⟨R,hR,rfl⟩⟩,y,cy,z,cz,⟨r,c0Q.mpr rfl,h1,h2,h3⟩,k,e1,e2⟩
  .rintro ⟨S,hS,k⟩
   obtain ⟨r,hr,hS⟩:=c2a.mp hS
   obtain ⟨R,hR,rfl⟩:=c1i.mp hS
   obtain ⟨y,cy,z,cz,⟨q,hq,h1,h2,h3⟩,h,e1,e2⟩:=k
   rw [c0Q.mp hq] at h1 h2 h3
   exact ⟨y,cy,z,cz,⟨r,hr,h1,h2,h3⟩,sh_prod.mpr ⟨R,hR,h⟩,e1,e2⟩
theorem a3Y:∀{Fs:List (List Row)} {R:List Row},R∈prod Fs->R.length=Fs.length/\∀r∈R,∃F∈Fs,r∈F
 | [],R,h=>by
  rw [c0Q.mp h]
  exact ⟨rfl,λr z=>nomatch z⟩
 | F::Fs,S,h=>by
  obtain ⟨r,hr,hS⟩:=c2a.mp h
  obtain ⟨R,hR,rfl⟩:=c1i.mp hS
  obtain ⟨i1,i2⟩:=a3Y hR
  refine ⟨by simp [i1],λq hq=>?_⟩
  rcases c0R.mp hq with rfl | hq
  .exact ⟨F,c0N ..,hr⟩
  .obtain ⟨G,hG,k⟩:=i2 q hq
   exact ⟨G,c0O _ hG,k⟩
theorem b60{Fs:List (List Row)}{φ:List Row->List Row}{f:List Row}(hp:∀R∈prod Fs,∀x c,look (φ R) x=some c↔Jn (one R) x c)(hx:∀R∈prod Fs,∀x c,Sh (one R) x c->∃m,Jn (one R) x m)
  (hm:∀x v,look f x=some v↔(∃R∈prod Fs,look (φ R) x=some v)/\∀R∈prod Fs,∀w,look (φ R) x=some w->v<=w)(x c:Int):look f x=some c↔Jn Fs x c:=by
 rw [hm]
 constructor
 .rintro ⟨⟨R,hR,e⟩,m⟩
  refine ⟨sh_prod.mpr ⟨R,hR,((hp R hR x c).mp e).1⟩,λc' h'=>?_⟩
  obtain ⟨S,hS,k⟩:=sh_prod.mp h'
  obtain ⟨v,hv⟩:=hx S hS x c' k
  have:=m S hS v ((hp S hS x v).mpr hv)
  have:=hv.2 c' k
  exact c1e ‹_› ‹_›
 .rintro ⟨h,m⟩
  obtain ⟨R,hR,k⟩:=sh_prod.mp h
  refine ⟨⟨R,hR,(hp R hR x c).mpr ⟨k,λc' h'=>m c' (sh_prod.mpr ⟨R,hR,h'⟩)⟩⟩,λS hS w e=>m w (sh_prod.mpr ⟨S,hS,((hp S hS x w).mp e).1⟩)⟩
def SWq(q:Int×Int):Prop:=(-(2*10^130)<=q.1/\q.1<=2*10^130)/\(0<=q.2/\q.2<=2*10^60)/\(-(2*10^130)<=q.1*q.2/\q.1*q.2<=2*10^130)
def SW(L:List (Int×Int)):Prop:=∀q∈L,SWq q
theorem SW.wd{L:List (Int×Int)}(h:SW L):Wd L:=λq hq=>(h q hq).2.1.1
theorem SW.tl{p:Int×Int}{L:List (Int×Int)}(h:SW (p::L)):SWq p/\SW L:=⟨h p (c0N ..),λq hq=>h q (c0O _ hq)⟩
theorem b6g:∀{L:List (Int×Int)},SW L->0<=tw L/\tw L<=L.length*(2*10^60)
 | [],_=>by show 0<=(0:Int)/\(0:Int)<=_;simp
 | p::L,h=>by
  have:=b6g h.tl.2
  have hq:=h.tl.1
  unfold SWq at hq
  show 0<=p.2+tw L/\p.2+tw L<=((L.length+1:Nat):Int)*(2*10^60)
  omega
theorem a6Q:∀{L:List (Int×Int)},SW L->∀{x p:Int} {r:Row},r∈mk L x p->(x<r.1/\r.1<=r.2.1/\r.2.1<=x+tw L)/\(-(L.length*(2*10^130))<=r.2.2.1-p/\r.2.2.1-p<=L.length*(2*10^130))/\(-(2*10^130)<=r.2.2.2/\r.2.2.2<=2*10^130)
 | [],_,x,p,r,hr=>absurd hr c1m
 | q::L,h,x,p,r,hr=>by
  have hq:=h.tl.1
  unfold SWq at hq
  have hP:=(b6g h.tl.2).1
  have hm:=hq.2.2
  show _/\(-(((L.length+1:Nat):Int)*(2*10^130))<=_/\_<=((L.length+1:Nat):Int)*(2*10^130))/\_
  rw [show tw (q::L)=q.2+tw L from rfl]
  rcases c03.mp (show r∈mk1 q x p++mk L (x+q.2) (p+q.1*q.2) from hr) with hr | hr
  .unfold mk1 at hr
   split at hr
   .rw [c0Q.mp hr]
    dsimp only
    omega
   .exact absurd hr c1m
  .have:=a6Q h.tl.2 hr
   generalize q.1*q.2=z at *
   omega
theorem b5P:∀{L:List (Int×Int)},SW L->∀(x p:Int),Asc (mk L x p)
 | [],_,x,p=>⟨λ_ z=>absurd z c1m,.nil⟩
 | q::L,h,x,p=>by
  refine ⟨λr hr=>(a6Q h hr).1.2.1,?_⟩
  show (mk1 q x p++mk L (x+q.2) (p+q.1*q.2)).Pairwise _
  refine c1g.mpr ⟨?_,(b5P h.tl.2 _ _).2,λa ha b hb=>?_⟩
  .unfold mk1
   split
   .exact c1I _ _
   .exact .nil
  .have:=(a6Q h.tl.2 hb).1.1
   unfold mk1 at ha
   split at ha
   .rw [c0Q.mp ha]
    exact this
   .exact absurd ha c1m
noncomputable def mkF(L:List (Int×Int))(x p:Int):List Row:=(x,x,p,0)::mk L x p
theorem b6R{L:List (Int×Int)}(h:SW L)(x p:Int):Asc (mkF L x p):=by
 refine ⟨λr hr=>?_,c08.mpr ⟨λr hr=>(a6Q h hr).1.1,(b5P h x p).2⟩⟩
 rcases c0R.mp hr with rfl | hr
 .exact c0T _
 .exact (a6Q h hr).1.2.1
theorem b6Q{L:List (Int×Int)}(h:Wd L){x p y c:Int}:Val (mkF L x p) y c↔x<=y/\y<=x+tw L/\c=p+fl L (y-x):=by
 have hP:=b3G h
 rw [show mkF L x p=[(x,x,p,0)]++mk L x p from rfl,b1G,b5O h]
 have e:Val [(x,x,p,0)] y c↔y=x/\c=p:=by
  unfold Val
  constructor
  .rintro ⟨r,hr,h1,h2,h3⟩
   rw [c0Q.mp hr] at h1 h2 h3
   unfold Row.at at h3
   dsimp only at h1 h2 h3
   exact ⟨c2P ‹_› ‹_›,by lia⟩
  .rintro ⟨rfl,rfl⟩
   exact ⟨_,c0Q.mpr rfl,c0T _,c0T _,by unfold Row.at;simp⟩
 rw [e]
 constructor
 .rintro (⟨rfl,rfl⟩ | ⟨h1,h2,h3⟩)
  .refine ⟨c0T _,by lia,?_⟩
   rw [c3Q,a9P h]
   lia
  .exact ⟨c2C ‹_›,h2,h3⟩
 .rintro ⟨h1,h2,h3⟩
  by_cases hy:y=x
  .subst hy
   rw [c3Q,a9P h] at h3
   exact .inl ⟨rfl,by lia⟩
  .exact .inr ⟨by lia,h2,h3⟩
theorem b4T(r:Row):a1G [r.d]=some (.sh (.int r.2.2.2)):=by
 refine Wo.eq (W_step_of.mpr ?_)
 unfold a6l
 rw [a1l]
 walk_at "vc"
def PB(r:Row):Prop:=r.1<=r.2.1/\(-(10^60)<=r.1/\r.2.1<=10^60)/\(-(10^130)<=r.2.2.1/\r.2.2.1<=10^130)/\(-(10^130)<=r.at r.2.1/\r.at r.2.1<=10^130)/\(-(2*10^130)<=r.2.2.2/\r.2.2.2<=2*10^130)
theorem b0v:∀(R:List Row),kysD a1G (R.map Row.d)=some (R.map λr=>r.2.2.2)
 | []=>rfl
 | r::R=>by
  show (match a1G [r.d] with | some (.sh (.int k))=>(kysD a1G (R.map Row.d)).map λks=>k::ks | _=>none)=_
  rw [b4T,b0v R]
  rfl
noncomputable def srt(R:List Row):List Row:=ordK (R.map λr=>r.2.2.2) (0,0,0,0) R
theorem srt_d(R:List Row):ordK (R.map λr=>r.2.2.2) D.non (R.map Row.d)=(srt R).map Row.d:=by
 unfold srt ordK
 rw [c0P]
 by_cases h2:R.length<2
 .rw [if_pos h2,if_pos h2]
 rw [if_neg h2,if_neg h2,c1h]
 refine c2V λi hi=>?_
 have hi:i<R.length:=c1x.mp ((KS.ord_spec (λi=>(R.map λr=>r.2.2.2).getD i 0) R.length (by lia)).1.mem_iff.mp hi)
 simp [hi]
theorem a4u(R:List Row):(srt R).Perm R:=a5U _ _ R
theorem b8P(R:List Row):Up ((srt R).map pk):=by
 unfold srt ordK Up
 by_cases h2:R.length<2
 .rw [if_pos h2]
  cases R with
  | nil=>exact .nil
  | cons a t =>
   cases t with
   | nil=>exact c1I _ _
   | cons b t=>simp at h2;contradiction
 rw [if_neg h2,c1h,c2e]
 have S:=KS.ord_spec (λi=>(R.map λr=>r.2.2.2).getD i 0) R.length (by omega)
 refine List.Pairwise.imp_of_mem (λ{i j} hi hj h=>?_) S.2
 have hi:i<R.length:=c1x.mp (S.1.mem_iff.mp hi)
 have hj:j<R.length:=c1x.mp (S.1.mem_iff.mp hj)
 simp [hi,hj] at h
 simpa [pk,hi,hj] using h
theorem PB.sw{R:List Row}(h:∀r∈R,PB r):SW (R.map pk):=λq hq=>by
 obtain ⟨r,hr,rfl⟩:=c1i.mp hq
 have:=h r hr
 unfold PB at this
 unfold SWq pk wid
 dsimp only
 unfold Row.at at this
 omega
theorem b8D:∀{R:List Row},(∀r∈R,PB r)->(-(R.length*10^60)<=X0 R/\X0 R<=R.length*10^60)/\(-(R.length*10^130)<=P0 R/\P0 R<=R.length*10^130)
 | [],_=>by simp [X0,P0]
 | r::R,h=>by
  have ih:=b8D λq hq=>h q (c0O _ hq)
  have:=h r (c0N ..)
  unfold PB at this
  unfold X0 P0 at *
  simp only [c1l,c1Q,c1u]
  omega
theorem b9q{L:List (Int×Int)}(h:SW L)(hl:L.length<=6){x p:Int}(hx:-(10^62)<=x/\x<=10^62)(hp:-(10^132)<=p/\p<=10^132):∀r∈mkF L x p,BdRow (10^140) r:=λr hr=>by
 have ht:=b6g h
 unfold BdRow
 rcases c0R.mp hr with rfl | hr
 .dsimp only
  omega
 .have:=a6Q h hr
  omega
theorem b0s:∀(L:List (Int×Int)) (x p:Int),(mk L x p).length<=L.length
 | [],_,_=>c0S _
 | q::L,x,p=>by
  have:=b0s L (x+q.2) (p+q.1*q.2)
  show (mk1 q x p++mk L (x+q.2) (p+q.1*q.2)).length<=L.length+1
  rw [c1f]
  unfold mk1
  split<;>simp<;>lia
theorem b9V{R:List Row}(h:∀r∈R,PB r)(h6:R.length<=6){ro:Bool}:∃fs:List Row,a2z [.lst ro (R.map Row.d)]=some (.sh (.tup (fs.map Row.d)))/\Laid (mkF ((srt R).map pk) (X0 R) (P0 R)) fs:=by
 have hs:∀r∈srt R,PB r:=λr hr=>h r ((a4u R).mem_iff.mp hr)
 have hS:=PB.sw hs
 have hls:(srt R).length=R.length:=(a4u R).length_eq
 have hx:=b8D h
 obtain ⟨fs,ef,LD⟩:=b0O (b6R hS (X0 R) (P0 R)) (b9q hS (by rw [c0P];lia) (by lia) (by lia)) (by
  have:=b0s ((srt R).map pk) (X0 R) (P0 R)
  rw [c0P] at this
  show _+1<=_
  lia) (ro:=false)
 refine ⟨fs,?_,LD⟩
 refine Wo.eq (W_poured.mpr ?_)
 unfold a7X
 walk_at "v1"
 rw [a1q Row.d (λr=>.int r.1) (λe=>∃x0,e=[x0]) R (λr hr e he=>?_) ⟨_,rfl⟩]
 .rw [show R.map (λr=>D.int r.1)=(R.map λr=>r.1).map D.int by rw [c1h];rfl]
  walk_at "v1"
  refine ⟨by rw [c0P];exact c02 ‹_› (by decide),by rw [c0P];exact c02 ‹_› (by decide),?_⟩
  rw [a1q Row.d (λr=>.int r.2.2.1) (λe=>∃x0,e=[x0]) R (λr hr e he=>?_) ⟨_,rfl⟩]
  .rw [show R.map (λr=>D.int r.2.2.1)=(R.map λr=>r.2.2.1).map D.int by rw [c1h];rfl]
   walk_at "v1"
   rw [b3s (r:=ro) (ds:=R.map Row.d) (by rfl) (b0v R) (by rw [c0P];exact c2i ‹_› (by decide)),srt_d R]
   walk_at "v1"
   rw [show (R.map λr=>r.1).sum=X0 R from rfl,show (R.map λr=>r.2.2.1).sum=P0 R from rfl]
   refine a28 Row.d (λpre env=>∃x4 x5,env=[.sh (.lst ro (R.map Row.d)),.sh (.int (X0 R+tw (pre.map pk))),.sh (.int (P0 R+cs (pre.map pk))),.ow ((mkF (pre.map pk) (X0 R) (P0 R)).map Row.d),x4,x5]) (srt R) (λpre r post env e hI=>?_) (λenv hI=>?_) ⟨.no,.no,?_⟩
   .obtain ⟨x4,x5,rfl⟩:=hI
    have hr:=hs r (by rw [e];simp)
    have hpl:pre.length<=6:=by rw [<-hls,e,c1f] at h6;exact zqn ‹_›
    have hln:=b0s (pre.map pk) (X0 R) (P0 R)
    rw [c0P] at hln
    unfold PB at hr
    have hm:MulC r.2.2.2 (r.2.1-r.1):=a41 (by lia) (by lia) (by lia) (by lia)
    rw [a1l]
    walk_at "v1"
    rw [c1c,List.map_singleton,b8F,b93]
    unfold mkF
    rw [b5Q]
    generalize hM:mk (pre.map pk) (X0 R) (P0 R)=M at *
    generalize tw (pre.map pk)=T at *
    generalize cs (pre.map pk)=C at *
    rw [show tw [pk r]=r.2.1-r.1 by show (r.2.1-r.1)+0=_;exact c2R _,show cs [pk r]=r.2.2.2*(r.2.1-r.1) by show r.2.2.2*(r.2.1-r.1)+0=_;exact c2R _]
    unfold mk1 pk wid
    dsimp only
    generalize hW:r.2.1-r.1=W at *
    refine Wo.mono (P:=λq=>q=(.nx,[.sh (.lst ro (R.map Row.d)),.sh (.int (X0 R+T)),.sh (.int (P0 R+C)),.ow (((X0 R,X0 R,P0 R,0)::(M++if W>0 then [(X0 R+T+1,X0 R+T+W,P0 R+C+r.2.2.2,r.2.2.2)] else [])).map Row.d),.sh r.d,.sh (.int W)])) ?_ λq hq=>?_
    .rw [a10,a1l r]
     walk_at "vc"
     refine ⟨λh=>?_,λh=>?_⟩
     .rw [if_pos h]
      refine ⟨by rw [c0P,c1u];lia,?_⟩
      rw [<-c3V,c1c (l₂:=[(X0 R+T+1,X0 R+T+W,P0 R+C+r.2.2.2,r.2.2.2)])]
      rfl
     .rw [if_neg h,c1J]
    subst hq
    rw [a1l r]
    walk_at "vc"
    rw [show X0 R+(T+W)=X0 R+T+W by lia,show P0 R+(C+r.2.2.2*W)=P0 R+C+r.2.2.2*W by lia]
    exact ⟨hm,_,_,rfl⟩
   .obtain ⟨x4,x5,rfl⟩:=hI
    walk_at "v1"
    rw [b6a,b9M (by rfl)]
    walk_at "v1"
    rw [ef]
    walk_at "vc"
   .show _=[_,Sl.sh (D.int (X0 R+0)),Sl.sh (D.int (P0 R+0)),Sl.ow [Row.d (X0 R,X0 R,P0 R,0)],_,_]
    rw [c2R,c2R]
    rfl
  .obtain ⟨x0,rfl⟩:=he
   rw [a1l]
   walk_at "vc"
   exact ⟨_,rfl⟩
 .obtain ⟨x0,rfl⟩:=he
  rw [a1l]
  walk_at "vc"
  exact ⟨_,rfl⟩
theorem pb_at{r:Row}(h:PB r){y:Int}(h1:r.1<=y)(h2:y<=r.2.1):-(10^130)<=r.at y/\r.at y<=10^130:=by
 unfold PB at h
 unfold Row.at at *
 by_cases hs:0<=r.2.2.2
 .have:=c2X hs (show 0<=y-r.1 by omega)
  have:=c2X hs (show 0<=r.2.1-y by omega)
  simp only [c4O] at *
  omega
 .have:=c2X (show 0 <= -r.2.2.2 by omega) (show 0<=y-r.1 by omega)
  have:=c2X (show 0 <= -r.2.2.2 by omega) (show 0<=r.2.1-y by omega)
  simp only [Int.neg_mul,c4O] at *
  omega
theorem b8S:∀{R:List Row},(∀r∈R,PB r)->∀{x c:Int},Sh (one R) x c->(-(R.length*10^60)<=x/\x<=R.length*10^60)/\(-(R.length*10^130)<=c/\c<=R.length*10^130)
 | [],_,x,c,h=>by
  obtain ⟨rfl,rfl⟩:=h
  simp
 | r::R,hb,x,c,⟨y,cy,z,cz,⟨q,hq,k1,k2,k3⟩,h,e1,e2⟩=>by
  have i:=b8S (λq hq=>hb q (c0O _ hq)) h
  have hr:=hb r (c0N ..)
  rw [c0Q.mp hq] at k1 k2 k3
  have a:=pb_at hr k1 k2
  unfold PB at hr
  rw [c1u]
  omega
theorem b7r{R:List Row}(h:∀r∈R,PB r)(h6:R.length<=6){ro:Bool}:∃fs:List Row,a2z [.lst ro (R.map Row.d)]=some (.sh (.tup (fs.map Row.d)))/\Canon fs/\fs.length<=R.length+1/\(∀x c,look fs x=some c↔Jn (one R) x c)/\∀x c,Sh (one R) x c->∃m,Jn (one R) x m:=by
 obtain ⟨fs,ef,LD⟩:=b9V h h6 (ro:=ro)
 have hs:∀r∈srt R,PB r:=λr hr=>h r ((a4u R).mem_iff.mp hr)
 have hS:=PB.sw hs
 have hls:(srt R).length=R.length:=(a4u R).length_eq
 have lst:∀{t k:Int},St ((srt R).map pk) t k->fl ((srt R).map pk) t<=k:=λ{t k} hk=>by
  by_cases hne:(srt R).map pk=[]
  .rw [hne] at hk ⊢
   obtain ⟨_,rfl⟩:=hk
   exact c0T _
  .exact hk.least hne hS.wd (b8P R)
 have hp:((srt R).map pk).Perm (R.map pk):=(a4u R).map pk
 have j:∀x c,Jn (one R) x c↔X0 R<=x/\x<=X0 R+tw ((srt R).map pk)/\c=P0 R+fl ((srt R).map pk) (x-X0 R):=λx c=>by
  constructor
  .rintro ⟨k,m⟩
   have k':=(sh_one.mp k).perm hp.symm
   have d:=k'.dom
   have f:=St.fl hS.wd d.1 d.2
   have:=m (P0 R+fl ((srt R).map pk) (x-X0 R)) (sh_one.mpr (by rw [show P0 R+fl ((srt R).map pk) (x-X0 R)-P0 R=fl ((srt R).map pk) (x-X0 R) by lia];exact f.perm hp))
   have:=lst k'
   exact ⟨by lia,by lia,by lia⟩
  .rintro ⟨k1,k2,rfl⟩
   refine ⟨sh_one.mpr (by rw [show P0 R+fl ((srt R).map pk) (x-X0 R)-P0 R=fl ((srt R).map pk) (x-X0 R) by lia];exact (St.fl hS.wd (by lia) (by lia)).perm hp),λc' k=>?_⟩
   have:=lst ((sh_one.mp k).perm hp.symm)
   lia
 refine ⟨fs,ef,LD.canon,?_,λx c=>?_,λx c k=>?_⟩
 .have:=LD.len
  have l2:=b0s ((srt R).map pk) (X0 R) (P0 R)
  rw [c0P] at l2
  have l3:(mkF ((srt R).map pk) (X0 R) (P0 R)).length=(mk ((srt R).map pk) (X0 R) (P0 R)).length+1:=rfl
  lia
 .rw [a1D LD.canon.asc,LD.val,b6Q hS.wd,j]
 .have d:=((sh_one.mp k).perm hp.symm).dom
  exact ⟨_,(j x _).mpr ⟨by lia,by lia,rfl⟩⟩
theorem aug_m{i:Nat}{m n:Int}{f:En->Option Sl}{env:En}{Q:Fl×En->Prop}(e1:env[i]?=some (.sh (.int m)))(e2:f env=some (.sh (.int n)))(hc:CMul m n)(h:Q (.nx,env.set i (.sh (.int (m*n))))):Wo (b3X i f env) Q:=
 ⟨_,by unfold b3X b08;rw [e1];dsimp only;rw [e2];dsimp only;rw [if_pos hc],h⟩
noncomputable def enR(R:List Row):D:=.lst false (R.map Row.d)
noncomputable def enF(F:List Row):D:=.tup (F.map Row.d)
noncomputable def np(Fs:List (List Row)):Nat:=(Fs.map c3D).foldl (·*·) 1
theorem b2q(Fs:List (List Row))(F:List Row):np (Fs++[F])=np Fs*F.length:=by
 unfold np;rw [c1c,c3F];rfl
theorem a6e{Fs:List (List Row)}(h:∀F∈Fs,F.length<=900000){ro:Bool}:a0s [.lst ro (Fs.map enF)]=some (.sh (.int (np Fs))):=by
 refine Wo.eq (W_how_many_picks.mpr ?_)
 unfold a2M
 walk_at "v1"
 refine a28 enF (λpre env=>∃x2,env=[.sh (.lst ro (Fs.map enF)),.sh (.int (np pre)),x2]) Fs (λpre F post env e hI=>?_) (λenv hI=>?_) ⟨_,rfl⟩
 .obtain ⟨x2,rfl⟩:=hI
  have hF:=h F (by rw [e];simp)
  rw [show enF F=.tup (F.map Row.d) from rfl]
  walk_at "v1"
  refine aug_m (m:=np pre) (n:=F.length) rfl (by show some (Sl.sh (.int ((F.map Row.d).length:Int)))=_;rw [c0P]) (.inr ⟨c1L _,by lia⟩) ?_
  rw [b2q,Int.natCast_mul]
  exact ⟨_,rfl⟩
 .obtain ⟨x2,rfl⟩:=hI
  walk_at "vc"
noncomputable def pwF(W:List (List Row))(F:List Row):List (List Row):=W.flatMap λR=>F.map λr=>R++[r]
noncomputable def pwL(Fs:List (List Row)):List (List Row):=Fs.foldl pwF [[]]
theorem b3Z(Fs:List (List Row))(F:List Row):pwL (Fs++[F])=pwF (pwL Fs) F:=by
 unfold pwL;rw [c3F];rfl
theorem b30(W:List (List Row))(R F:List Row):pwF (W++[R]) F=pwF W F++F.map λr=>R++[r]:=by
 unfold pwF
 rw [c5A]
 simp
theorem a5R(F:List Row):∀W:List (List Row),(pwF W F).length=W.length*F.length
 | []=>by unfold pwF;simp
 | R::W=>by
  have:=a5R F W
  unfold pwF at *
  rw [c3I,c1f,this,c0P,c1u,Nat.add_mul]
  lia
theorem b5K:∀{Fs:List (List Row)} {W:List (List Row)} {R:List Row},R∈Fs.foldl pwF W↔∃A∈W,∃B∈prod Fs,R=A++B
 | [],W,R=>by
  unfold prod
  simp
 | F::Fs,W,R=>by
  rw [c2f,b5K]
  constructor
  .rintro ⟨A,hA,B,hB,rfl⟩
   obtain ⟨C,hC,hA⟩:=c2a.mp hA
   obtain ⟨r,hr,rfl⟩:=c1i.mp hA
   exact ⟨C,hC,r::B,c2a.mpr ⟨r,hr,c1i.mpr ⟨B,hB,rfl⟩⟩,by simp⟩
  .rintro ⟨A,hA,B,hB,rfl⟩
   obtain ⟨r,hr,hB⟩:=c2a.mp hB
   obtain ⟨C,hC,rfl⟩:=c1i.mp hB
   exact ⟨A++[r],c2a.mpr ⟨A,hA,c1i.mpr ⟨r,hr,rfl⟩⟩,C,hC,by simp⟩
theorem pwL_mem{Fs:List (List Row)}{R:List Row}:R∈pwL Fs↔R∈prod Fs:=by
 unfold pwL
 rw [b5K]
 constructor
 .rintro ⟨A,hA,B,hB,rfl⟩
  rw [c0Q.mp hA]
  exact hB
 .intro h
  exact ⟨[],c0Q.mpr rfl,R,h,rfl⟩
theorem a6c:∀(l:List Nat) (a:Nat),l.foldl (·*·) a=a*l.foldl (·*·) 1
 | [],a=>by simp
 | x::l,a=>by
  rw [c2f,c2f,a6c l (a*x),a6c l (1*x),Nat.one_mul,c4Q]
theorem a8v(A B:List (List Row)):np (A++B)=np A*np B:=by
 unfold np
 rw [c1c,c3F,a6c]
theorem b0N{Fs:List (List Row)}(hfl:Fs.length<=100)(hp:np Fs<=100)(h0:np Fs≠0){ro:Bool}:a1a [.lst ro (Fs.map enF)]=some (.sh (.lst false ((pwL Fs).map enR)))/\(pwL Fs).length=np Fs:=by
 have pre_le:∀{pre post:List (List Row)},Fs=pre++post->np pre<=100/\np pre≠0:=λ{pre post} e=>by
  rw [e,a8v] at hp h0
  have a:np pre≠0:=λz=>h0 (by rw [z,Nat.zero_mul])
  have b:np post≠0:=λz=>h0 (by rw [z,Nat.mul_zero])
  exact ⟨c02 (Nat.le_mul_of_pos_right _ (c4q ‹_›)) hp,a⟩
 have one_le:∀{pre post:List (List Row)} {F:List Row},Fs=pre++F::post->np pre*F.length<=100/\F.length<=100:=λ{pre post F} e=>by
  have e':Fs=(pre++[F])++post:=by rw [e];simp
  have k:=pre_le e'
  rw [b2q] at k
  refine ⟨k.1,c02 (Nat.le_mul_of_pos_left _ ?_) k.1⟩
  have:=(pre_le e).2
  exact c4q ‹_›
 have hlen:∀F∈Fs,F.length<=900000:=λF hF=>by
  obtain ⟨pre,post,e⟩:=c5K hF
  have:=(one_le e).2
  exact c02 ‹_› (by decide)
 have pl:∀{pre post:List (List Row)},Fs=pre++post->(pwL pre).length=np pre:=λ{pre}=>by
  intro post _
  have key:∀(l:List (List Row)) (W:List (List Row)),(l.foldl pwF W).length=W.length*np l:=λl=>by
   induction l with
   | nil=>intro W;unfold np;simp
   | cons F l ih =>
    intro W
    rw [c2f,ih,a5R,c4Q,show F::l=[F]++l from rfl,a8v,show np [F]=F.length by unfold np;simp]
  unfold pwL
  rw [key]
  simp
 have em:=a6e hlen (ro:=ro)
 refine ⟨?_,pl (pre:=Fs) (post:=[]) (by simp)⟩
 refine Wo.eq (W_picks.mpr ?_)
 unfold a5b
 walk_at "v1"
 refine a1Y ?_ ?_
 .walk_at "vc"
  rw [em]
  walk_at "vc"
  lia
 walk_at "v1"
 refine a1Y ?_ ?_
 .walk_at "vc"
  rw [em]
  walk_at "vc"
  lia
 walk_at "v1"
 refine a28 enF (λpre env=>∃x2 x3 x4,env=[.sh (.lst ro (Fs.map enF)),.sh (.lst false ((pwL pre).map enR)),x2,x3,x4]) Fs (λpre F post env e hI=>?_) (λenv hI=>?_) ⟨_,_,_,rfl⟩
 .obtain ⟨x2,x3,x4,rfl⟩:=hI
  have k1:=one_le e
  have k2:=pl e
  rw [show enF F=.tup (F.map Row.d) from rfl]
  walk_at "v1"
  refine a28 enR (λW env=>∃x4,env=[.sh (.lst ro (Fs.map enF)),.sh (.lst false ((pwL pre).map enR)),.sh (.tup (F.map Row.d)),.ow ((pwF W F).map enR),x4]) (pwL pre) (λW R post' env e' h=>?_) (λenv h=>?_) ⟨_,rfl⟩
  .obtain ⟨x4,rfl⟩:=h
   have hW:=a5R F W
   have hWl:W.length<=np pre:=by rw [<-k2,e',c1f];exact c19 _ _
   have hWm:W.length*F.length<=np pre*F.length:=Nat.mul_le_mul_right _ hWl
   rw [show enR R=.lst false (R.map Row.d) from rfl]
   walk_at "v1"
   rw [a1q Row.d (λr=>enR (R++[r])) (λe=>∃x0,e=[x0,.sh (.lst false (R.map Row.d))]) F (λr hr e he=>?_) ⟨_,rfl⟩]
   .rw [c0P,a0g]
    walk_at "v1"
    refine ⟨by lia,by rw [c0P,c0P,hW];lia,_,by rw [b30,c1c,c1h];rfl⟩
   .obtain ⟨x0,rfl⟩:=he
    walk_at "vc"
    have hR:R.length=pre.length:=(a3Y (pwL_mem.mp (by rw [e'];simp))).1
    have:=congrArg c3D e
    rw [c1f] at this
    refine ⟨⟨_,rfl⟩,by rw [c0P];lia,?_⟩
    unfold enR
    rw [c1c]
    rfl
  .obtain ⟨x4,rfl⟩:=h
   rw [a2e,b6a,b9M (by rfl)]
   walk_at "vc"
   rw [<-b3Z]
   exact ⟨_,_,_,rfl⟩
 .obtain ⟨x2,x3,x4,rfl⟩:=hI
  walk_at "vc"
theorem FV.pb{f:List Row}(h:FV (10^60) (10^130) f):∀r∈f,PB r:=λr hr=>by
 have k:=b0V h.canon (by decide) h.bd r hr
 have o:=h.canon.asc.1 r hr
 have v:=(h.bd r.2.1 _ (a2U h.canon.asc hr o (c0T _))).2
 unfold PB
 omega
theorem b5S:a0S [.lst false []]=some (.sh (.tup [])):=by
 refine Wo.eq (W_least_of__8.mpr ?_)
 unfold a3t
 walk_at "vc"
 exact λz=>nomatch z
theorem a8Y{Fs:List (List Row)}{n:Nat}(h6:Fs.length<=6)(hF:∀F∈Fs,FV (10^60) (10^130) F)(hlen:∀F∈Fs,F.length<=900000)(hp:np Fs<=n)(hn:n<=100)(LO:LOw a0S n){X s:Int}(hs:0<s)(hw:∀x c,Sh Fs x c->∃k:Nat,k<60/\x=X+s*k){ro:Bool}:
  ∃f:List Row,a0v [.lst ro (Fs.map enF)]=some (.sh (.tup (f.map Row.d)))/\Canon f/\(∀x c,look f x=some c↔Jn Fs x c)/\∀x c,Sh Fs x c->∃m,Jn Fs x m:=by
 have one_:∀R:List Row,∃f:List Row,(R.length<=6/\∀r∈R,PB r)->a2z [.lst false (R.map Row.d)]=some (.sh (.tup (f.map Row.d)))/\Canon f/\f.length<=R.length+1/\(∀x c,look f x=some c↔Jn (one R) x c)/\∀x c,Sh (one R) x c->∃m,Jn (one R) x m:=λR=>by
  by_cases h:R.length<=6/\∀r∈R,PB r
  .obtain ⟨f,e⟩:=b7r h.2 h.1 (ro:=false)
   exact ⟨f,λ_=>e⟩
  .exact ⟨[],λz=>absurd z h⟩
 obtain ⟨ff,hff⟩:=Classical.axiomOfChoice one_
 have hR:∀R∈prod Fs,(R.length<=6/\∀r∈R,PB r)/\R.length=Fs.length:=λR hR=>by
  obtain ⟨l,k⟩:=a3Y hR
  exact ⟨⟨by lia,λr hr=>by obtain ⟨F,hF',hr'⟩:=k r hr;exact (hF F hF').pb r hr'⟩,l⟩
 have wrap:∀{f:List Row},a0K [.lst ro (Fs.map enF)]=some (.sh (.tup (f.map Row.d)))->a0v [.lst ro (Fs.map enF)]=some (.sh (.tup (f.map Row.d))):=λ{f} e=>by
  refine Wo.eq (W_joined.mpr ?_)
  unfold a4P
  walk_at "v1"
  rw [e]
  walk_at "vc"
 have exm:∀x c,Sh Fs x c->∃R∈prod Fs,∃v,look (ff R) x=some v:=λx c h=>by
  obtain ⟨R,hR',k⟩:=sh_prod.mp h
  obtain ⟨_,_,_,e4,e5⟩:=hff R (hR R hR').1
  obtain ⟨v,hv⟩:=e5 x c k
  exact ⟨R,hR',v,(e4 x v).mpr hv⟩
 by_cases h0:np Fs=0
 .have em:=a6e hlen (ro:=ro)
  rw [h0] at em
  have none_:∀R,R∉prod Fs:=λR hR'=>by
   have key:∀(l:List (List Row)) (W:List (List Row)),(l.foldl pwF W).length=W.length*np l:=λl=>by
    induction l with
    | nil=>intro W;unfold np;simp
    | cons F l ih =>
     intro W
     rw [c2f,ih,a5R,c4Q,show F::l=[F]++l from rfl,a8v,show np [F]=F.length by unfold np;simp]
   have h1:=key Fs [[]]
   rw [h0,Nat.mul_zero] at h1
   have h2:=pwL_mem.mpr hR'
   unfold pwL at h2
   rw [c2m.mp h1] at h2
   cases h2
  have nosh:∀x c,¬Sh Fs x c:=λx c h=>by obtain ⟨R,hR',_⟩:=sh_prod.mp h;exact none_ R hR'
  refine ⟨[],wrap ?_,⟨λr z=>(nomatch z),trivial⟩,λx c=>⟨λz=>(nomatch z),λz=>absurd z.1 (nosh x c)⟩,λx c h=>absurd h (nosh x c)⟩
  refine Wo.eq (W_least_poured.mpr ?_)
  unfold a1A
  walk_at "v1"
  have ep:a1a [.lst ro (Fs.map enF)]=some (.ow []):=by
   refine Wo.eq (W_picks.mpr ?_)
   unfold a5b
   walk_at "v1"
   refine a1Y ?_ ?_
   .walk_at "vc"
    rw [em]
    walk_at "vc"
   walk_at "v1"
   rw [a10]
   walk_at "vc"
   rw [em]
   walk_at "vc"
  rw [ep]
  walk_at "vc"
  rw [b5S]
  walk_at "vc"
  rfl
 .obtain ⟨ep,hpl⟩:=b0N (ro:=ro) (c02 ‹_› (by decide)) (c02 ‹_› ‹_›) h0
  have hne:(pwL Fs).map ff≠[]:=c3h (by rw [c0P,hpl];exact c4q ‹_›)
  have hFF:∀f∈(pwL Fs).map ff,FV (6*10^60) (6*10^130) f/\Win X s f:=λf hf=>by
   obtain ⟨R,hR',rfl⟩:=c1i.mp hf
   have hR':=pwL_mem.mp hR'
   obtain ⟨k,l⟩:=hR R hR'
   obtain ⟨_,e2,e3,e4,_⟩:=hff R k
   refine ⟨⟨e2,λx c h=>?_⟩,λx c h=>hw x c (sh_prod.mpr ⟨R,hR',((e4 x c).mp ((a1D e2.asc).mpr h)).1⟩)⟩
   have b:=b8S k.2 ((e4 x c).mp h).1
   have hl4:R.length<=6:=by lia
   lia
  obtain ⟨fs,e,c,mf,lf⟩:=LO (V:=6*10^60) (C:=6*10^130) (r:=false) hs (by decide) (by decide) hFF hne (by rw [c0P,hpl];exact hp)
  have mf':∀x v,look fs x=some v↔(∃R∈prod Fs,look (ff R) x=some v)/\∀R∈prod Fs,∀w,look (ff R) x=some w->v<=w:=λx v=>by
   rw [mf x v]
   constructor
   .rintro ⟨⟨g,hg,e⟩,k⟩
    obtain ⟨R,hR',rfl⟩:=c1i.mp hg
    exact ⟨⟨R,pwL_mem.mp hR',e⟩,λS hS w hw=>k _ (c1i.mpr ⟨S,pwL_mem.mpr hS,rfl⟩) w hw⟩
   .rintro ⟨⟨R,hR',e⟩,k⟩
    refine ⟨⟨ff R,c1i.mpr ⟨R,pwL_mem.mpr hR',rfl⟩,e⟩,λg hg w hw=>?_⟩
    obtain ⟨S,hS,rfl⟩:=c1i.mp hg
    exact k S (pwL_mem.mp hS) w hw
  have jj:=b60 (φ:=ff) (f:=fs) (λR hR'=>(hff R (hR R hR').1).2.2.2.1) (λR hR'=>(hff R (hR R hR').1).2.2.2.2) mf'
  refine ⟨fs,wrap ?_,c,jj,λx v h=>?_⟩
  .refine Wo.eq (W_least_poured.mpr ?_)
   unfold a1A
   walk_at "v1"
   rw [ep]
   walk_at "v1"
   rw [a1q enR (λR=>.tup ((ff R).map Row.d)) (λe=>∃x0,e=[x0]) (pwL Fs) (λR hR' e he=>?_) ⟨_,rfl⟩]
   .walk_at "v1"
    rw [c1h] at e
    rw [c0P,hpl]
    refine ⟨by lia,?_⟩
    rw [show (λR=>D.tup ((ff R).map Row.d))=(λf:List Row=>D.tup (f.map Row.d))∘ff from rfl,e]
    walk_at "vc"
   .obtain ⟨x0,rfl⟩:=he
    rw [show enR R=.lst false (R.map Row.d) from rfl]
    walk_at "vc"
    rw [(hff R (hR R (pwL_mem.mp hR')).1).1]
    walk_at "vc"
    exact ⟨_,rfl⟩
  .-- the least over the picks is there
   have key:∀(l:List (List Row)),(∃R∈l,∃v,look (ff R) x=some v)->∃v,(∃R∈l,look (ff R) x=some v)/\∀R∈l,∀w,look (ff R) x=some w->v<=w:=λl=>by
    induction l with
    | nil=>rintro ⟨R,z,_⟩;cases z
    | cons S l ih =>
     rintro ⟨R,hR',v,e⟩
     by_cases hl:∃R∈l,∃v,look (ff R) x=some v
     .obtain ⟨v,⟨T,hT,eT⟩,k⟩:=ih hl
      cases hS:look (ff S) x with
      | none=>exact ⟨v,⟨T,c0O _ hT,eT⟩,λQ hQ w hw=>by
        rcases c0R.mp hQ with rfl | hQ
        .rw [hS] at hw;cases hw
        .exact k Q hQ w hw⟩
      | some u =>
       by_cases huv:u<=v
       .exact ⟨u,⟨S,c0N ..,hS⟩,λQ hQ w hw=>by
         rcases c0R.mp hQ with rfl | hQ
         .rw [hS] at hw;cases hw;exact c0T _
         .have:=k Q hQ w hw;exact c1e ‹_› ‹_›⟩
       .exact ⟨v,⟨T,c0O _ hT,eT⟩,λQ hQ w hw=>by
         rcases c0R.mp hQ with rfl | hQ
         .rw [hS] at hw;cases hw;lia
         .exact k Q hQ w hw⟩
     .rcases c0R.mp hR' with rfl | hR'
      .exact ⟨v,⟨R,c0N ..,e⟩,λQ hQ w hw=>by
        rcases c0R.mp hQ with rfl | hQ
        .rw [e] at hw;cases hw;exact c0T _
        .exact absurd ⟨Q,hQ,w,hw⟩ hl⟩
      .exact absurd ⟨R,hR',v,e⟩ hl
   obtain ⟨w,hw⟩:=key (prod Fs) (exm x v h)
   exact ⟨w,(jj x w).mp ((mf' x w).mpr hw)⟩
def InR(r:Row)(y:Int):Prop:=r.1<=y/\y<=r.2.1
def Conv(r s:Row)(x c:Int):Prop:=(∃y z,InR r y/\InR s z/\y+z=x/\c=r.at y+s.at z)/\∀y z,InR r y->InR s z->y+z=x->c<=r.at y+s.at z
theorem Conv.sym{r s:Row}{x c:Int}(h:Conv r s x c):Conv s r x c:=by
 obtain ⟨⟨y,z,hy,hz,e,k⟩,m⟩:=h
 exact ⟨⟨z,y,hz,hy,by lia,by lia⟩,λy z hy hz e=>by have:=m z y hz hy (by lia);lia⟩
theorem Conv.dom{r s:Row}{x c:Int}(h:Conv r s x c):r.1+s.1<=x/\x<=r.2.1+s.2.1:=by
 obtain ⟨⟨y,z,hy,hz,e,k⟩,m⟩:=h
 unfold InR at hy hz
 omega
theorem b26{u v:Row}(h:u.2.2.2<=v.2.2.2){x i j:Int}(hi:0<=i/\i<=u.2.1-u.1)(hj:0<=j/\j<=v.2.1-v.1)(e:x=u.1+v.1+i+j)(hl:i=u.2.1-u.1\/j=0):Conv u v x (u.2.2.1+v.2.2.1+u.2.2.2*i+v.2.2.2*j):=by
 refine ⟨⟨u.1+i,v.1+j,by unfold InR;lia,by unfold InR;lia,by lia,by unfold Row.at;rw [show u.1+i-u.1=i by lia,show v.1+j-v.1=j by lia];lia⟩,λy z hy hz k=>?_⟩
 unfold InR at hy hz
 unfold Row.at
 have:=c2X (show 0<=v.2.2.2-u.2.2.2 by lia) (show 0<=i-(y-u.1) by lia)
 have e2:z-v.1=j+(i-(y-u.1)):=by lia
 rw [e2]
 generalize y-u.1=q at *
 grind
theorem Conv.ex{u v:Row}(hu:u.1<=u.2.1)(hv:v.1<=v.2.1){x:Int}(h1:u.1+v.1<=x)(h2:x<=u.2.1+v.2.1):∃c,Conv u v x c:=by
 have key:∀{u v:Row},u.1<=u.2.1->v.1<=v.2.1->u.2.2.2<=v.2.2.2->u.1+v.1<=x->x<=u.2.1+v.2.1->∃c,Conv u v x c:=λ{u v} hu hv hs h1 h2=>by
  by_cases c:x-(u.1+v.1)<=u.2.1-u.1
  .exact ⟨_,b26 hs (i:=x-(u.1+v.1)) (j:=0) (by lia) (by lia) (by lia) (.inr rfl)⟩
  .exact ⟨_,b26 hs (i:=u.2.1-u.1) (j:=x-(u.1+v.1)-(u.2.1-u.1)) (by lia) (by lia) (by lia) (.inl rfl)⟩
 by_cases hs:u.2.2.2<=v.2.2.2
 .exact key hu hv hs h1 h2
 .obtain ⟨c,h⟩:=key hv hu (by lia) (by lia) (by lia)
  exact ⟨c,h.sym⟩
def Spl(A B:List Row)(x c:Int):Prop:=(∃y z cy cz,Val A y cy/\Val B z cz/\y+z=x/\c=cy+cz)/\∀y z cy cz,Val A y cy->Val B z cz->y+z=x->c<=cy+cz
theorem Spl.sym{A B:List Row}{x c:Int}(h:Spl A B x c):Spl B A x c:=by
 obtain ⟨⟨y,z,cy,cz,hy,hz,e,k⟩,m⟩:=h
 exact ⟨⟨z,y,cz,cy,hz,hy,by lia,by lia⟩,λy z cy cz hy hz e=>by have:=m z y cz cy hz hy (by lia);lia⟩
theorem b7H{i:Nat}{hit:Str->Bool}{Fb Fh:SF}{rb:RF}{env:En}{Q:Fl×En->Prop}(h:Wo (Fb env) Q):Wo (sTry i hit Fb rb Fh env) Q:=by
 obtain ⟨x,e,q⟩:=h
 exact ⟨x,by unfold sTry;rw [e],q⟩
theorem b7G{i:Nat}{hit:Str->Bool}{Fb Fh:SF}{rb:RF}{env env1:En}{nm:Str}{Q:Fl×En->Prop}(h:Fb env=none)(h1:rb env=some (nm,env1))(h2:hit nm=true)(h3:i<env1.length)
  (h4:Wo (Fh (env1.set i (.sh (.exc nm)))) λp=>Q (p.1,p.2.set i .no)):Wo (sTry i hit Fb rb Fh env) Q:=by
 obtain ⟨⟨fl,e2⟩,e,q⟩:=h4
 refine ⟨(fl,e2.set i .no),?_,q⟩
 unfold sTry
 rw [h,h1]
 dsimp only
 rw [if_pos ⟨h2,h3⟩,e]
theorem none_of{α:Type}{o:Option α}(h:¬Wo o λ_=>True):o=none:=by
 cases o with
 | none=>rfl
 | some a=>exact absurd ⟨a,rfl,trivial⟩ h
theorem a3l{r:RF}{F:SF}{r':RF}{env:En}{x:Str×En}(h:r env=some x):rSeq r F r' env=some x:=by
 unfold rSeq
 rw [h]
theorem b2e{c:En->Option Bool}{r r':RF}{env:En}(h:c env=some true):rIf c r r' env=r env:=by
 unfold rIf
 rw [h]
noncomputable def rw0(rs:List Row)(i:Nat):Row:=rs.getD i (0,0,0,0)
def Pt(l:Int)(r:Row)(y:Int):Prop:=InR r y/\(r.2.2.2<l->y=r.2.1)/\(l<r.2.2.2->y=r.1)
structure Gr(rs:List Row)(x:Int)(pre post:List Nat)(ys:List Int)(left:Int):Prop where
 len:ys.length=rs.length
 rest:∀i∈post,ys.getD i 0=(rw0 rs i).1
 box:∀i∈pre,InR (rw0 rs i) (ys.getD i 0)
 nn:0<=left
 sum:ys.sum+left=x
 full:0<left->∀i∈pre,ys.getD i 0=(rw0 rs i).2.1
 thr:left=0->∃l,(∀i∈pre,Pt l (rw0 rs i) (ys.getD i 0))/\∀i∈post,l<=(rw0 rs i).2.2.2
theorem sum_set:∀{ys:List Int} {k:Nat} {m:Int},k<ys.length->(ys.set k (ys.getD k 0+m)).sum=ys.sum+m
 | [],k,m,h=>absurd h (c39 _)
 | y::ys,0,m,_=>by
  show (y+m)+ys.sum=y+ys.sum+m
  lia
 | y::ys,k+1,m,h=>by
  have:=sum_set (ys:=ys) (k:=k) (m:=m) (by simpa using h)
  show y+(ys.set k (ys.getD k 0+m)).sum=y+ys.sum+m
  lia
theorem b0F{ys:List Int}{k i:Nat}{v:Int}(h:k<ys.length):(ys.set k v).getD i 0=if i=k then v else ys.getD i 0:=by
 rw [c1H,c3E]
 by_cases c:k=i
 .subst c;simp [h]
 .rw [if_neg c,if_neg (c2j c),<-c1H]
theorem Gr.next{rs:List Row}{x:Int}{pre post:List Nat}{k:Nat}{ys:List Int}{left:Int}(g:Gr rs x pre (k::post) ys left)(hk:k<rs.length)(hp:k∉pre)(hq:k∉post)(h1:∀i∈pre,(rw0 rs i).2.2.2<=(rw0 rs k).2.2.2)(h2:∀j∈post,(rw0 rs k).2.2.2<=(rw0 rs j).2.2.2)(hw:(rw0 rs k).1<=(rw0 rs k).2.1):
  Gr rs x (pre++[k]) post (ys.set k (ys.getD k 0+min left ((rw0 rs k).2.1-(rw0 rs k).1))) (left-min left ((rw0 rs k).2.1-(rw0 rs k).1)):=by
 have hl:k<ys.length:=by rw [g.len];exact hk
 have e0:=g.rest k (c0N ..)
 have nn:=g.nn
 have ek:∀i,i≠k->(ys.set k (ys.getD k 0+min left ((rw0 rs k).2.1-(rw0 rs k).1))).getD i 0=ys.getD i 0:=λi hi=>by rw [b0F hl,if_neg hi]
 have ekk:(ys.set k (ys.getD k 0+min left ((rw0 rs k).2.1-(rw0 rs k).1))).getD k 0=(rw0 rs k).1+min left ((rw0 rs k).2.1-(rw0 rs k).1):=by rw [b0F hl,if_pos rfl,e0]
 have np:∀i∈pre,i≠k:=λi hi z=>hp (z▸hi)
 have nq:∀i∈post,i≠k:=λi hi z=>hq (z▸hi)
 refine ⟨by rw [c42];exact g.len,λi hi=>by rw [ek i (nq i hi)];exact g.rest i (c0O _ hi),λi hi=>?_,by lia,by rw [sum_set hl];have:=g.sum;lia,λhpos i hi=>?_,λhz=>?_⟩
 .rcases c03.mp hi with hi | hi
  .rw [ek i (np i hi)];exact g.box i hi
  .rw [c0Q.mp hi,ekk]
   unfold InR
   lia
 .rcases c03.mp hi with hi | hi
  .rw [ek i (np i hi)];exact g.full (by lia) i hi
  .rw [c0Q.mp hi,ekk]
   lia
 .by_cases hL:left=0
  .obtain ⟨l,t1,t2⟩:=g.thr hL
   refine ⟨l,λi hi=>?_,λi hi=>t2 i (c0O _ hi)⟩
   rcases c03.mp hi with hi | hi
   .rw [ek i (np i hi)];exact t1 i hi
   .rw [c0Q.mp hi,ekk]
    have:=t2 k (c0N ..)
    unfold Pt InR
    lia
  .refine ⟨(rw0 rs k).2.2.2,λi hi=>?_,h2⟩
   rcases c03.mp hi with hi | hi
   .rw [ek i (np i hi)]
    have:=g.full (by lia) i hi
    have:=h1 i hi
    have:=g.box i hi
    unfold Pt
    exact ⟨g.box i hi,λ_=>g.full (by lia) i hi,λz=>by lia⟩
   .rw [c0Q.mp hi,ekk]
    unfold Pt InR
    lia
theorem a8A(f:Nat->Int):∀(os:List Nat),∃l,∀i∈os,l<=f i
 | []=>⟨0,λ_ h=>nomatch h⟩
 | i::os=>by
  obtain ⟨l,h⟩:=a8A f os
  refine ⟨min l (f i),λj hj=>?_⟩
  rcases c0R.mp hj with rfl | hj
  .exact Int.min_le_right _ _
  .have:=h j hj;lia
theorem Gr.start{rs:List Row}{x:Int}{os:List Nat}(h:∀i∈os,i<rs.length)(hx:(rs.map λr=>r.1).sum<=x):Gr rs x [] os (rs.map λr=>r.1) (x-(rs.map λr=>r.1).sum):=by
 refine ⟨by simp,λi hi=>?_,λi hi=>(nomatch hi),by lia,by lia,λ_ i hi=>(nomatch hi),λ_=>?_⟩
 .have:=h i hi
  unfold rw0
  simp [this]
 .obtain ⟨l,hl⟩:=a8A (λi=>(rw0 rs i).2.2.2) os
  exact ⟨l,λi hi=>(nomatch hi),hl⟩
theorem a8m{l:Int}:∀{rs:List Row} {ys:List Int},ys.length=rs.length->(∀i,i<rs.length->Pt l (rw0 rs i) (ys.getD i 0))->Paired (Pt l) rs ys
 | [],[],_,_=>.nil
 | r::rs,y::ys,hl,h=>.cons (h 0 (by simp)) (a8m (by simpa using hl) λi hi=>h (i+1) (by simpa using hi))
theorem Gr.done{rs:List Row}{x:Int}{os:List Nat}{ys:List Int}{left:Int}(g:Gr rs x os [] ys left)(ho:∀i,i<rs.length->i∈os)(hx:x<=(rs.map λr=>r.2.1).sum):∃l,Paired (Pt l) rs ys/\ys.sum=x:=by
 have hz:left=0:=by
  by_cases hp:0<left
  .have:ys=rs.map λr=>r.2.1:=by
    refine c3W (by rw [g.len];simp) λi h1 h2=>?_
    have hi:i<rs.length:=by rw [<-g.len];exact h1
    have:=g.full hp i (ho i hi)
    unfold rw0 at this
    simpa [h1,hi] using this
   have hs:=g.sum
   rw [this] at hs
   lia
  .have:=g.nn;lia
 obtain ⟨l,t1,_⟩:=g.thr hz
 exact ⟨l,a8m g.len λi hi=>t1 i (ho i hi),by have:=g.sum;lia⟩
noncomputable def a29:List Row->List Int->Int
 | r::rs,y::ys=>r.at y+a29 rs ys
 | _,_=>0
theorem b0k{l:Int}:∀{rs:List Row} {ys zs:List Int},Paired (Pt l) rs ys->Paired InR rs zs->a29 rs ys-l*ys.sum<=a29 rs zs-l*zs.sum
 | _,_,_,.nil,.nil=>c0T _
 | _,_,_,.cons (a:=r) (b:=y) p ps,.cons (b:=z) q qs=>by
  have ih:=b0k ps qs
  obtain ⟨⟨b1,b2⟩,p1,p2⟩:=p
  obtain ⟨q1,q2⟩:=q
  have key:r.at y-l*y<=r.at z-l*z:=by
   unfold Row.at
   have h0:0<=(r.2.2.2-l)*(z-y):=by
    by_cases c:r.2.2.2<l
    .have:=p1 c
     exact Int.mul_nonneg_of_nonpos_of_nonpos (by lia) (by lia)
    .by_cases d:l<r.2.2.2
     .have:=p2 d
      exact c2X (by lia) (by lia)
     .have:r.2.2.2-l=0:=by lia
      rw [this,Int.zero_mul]
      exact c0T _
   grind
  simp only [c1Q,a29,c3m]
  lia
theorem b2U{l x:Int}{rs:List Row}{ys zs:List Int}(h:Paired (Pt l) rs ys)(hs:ys.sum=x)(h':Paired InR rs zs)(hs':zs.sum=x):a29 rs ys<=a29 rs zs:=by
 have:=b0k h h'
 rw [hs,hs'] at this
 lia
theorem aug_s{i:Nat}{m n:Int}{f:En->Option Sl}{env:En}{Q:Fl×En->Prop}(e1:env[i]?=some (.sh (.int m)))(e2:f env=some (.sh (.int n)))(h:Q (.nx,env.set i (.sh (.int (m-n))))):Wo (b3W i f env) Q:=
 ⟨_,by unfold b3W b08;rw [e1];dsimp only;rw [e2];dsimp only;rw [if_pos trivial],h⟩
noncomputable def osL(kz:List Int)(n:Nat):List Nat:=if n<2 then c1n n else KS.ord (λi=>kz.getD i 0) n
theorem b4b(kz:List Int)(n:Nat):(osL kz n).Perm (c1n n):=by
 unfold osL
 split
 .exact c51 _
 .exact (KS.ord_spec _ n (by lia)).1
theorem b9i(kz:List Int)(n:Nat):(osL kz n).Pairwise λi j=>kz.getD i 0<=kz.getD j 0:=by
 unfold osL
 split
 .rename_i h
  match n,h with
  | 0,_=>exact .nil
  | 1,_=>exact c1I _ _
 .exact (KS.ord_spec _ n (by omega)).2
theorem osL_d(kz:List Int)(n:Nat):ordK kz D.non (rngD 0 n)=(osL kz n).map λ(i:Nat)=>D.int i:=by
 have hl:(rngD 0 n).length=n:=by unfold rngD;simp
 unfold ordK osL
 rw [hl]
 by_cases h:n<2
 .rw [if_pos h,if_pos h]
  unfold rngD
  simp
 .rw [if_neg h,if_neg h]
  refine c2V λi hi=>?_
  have hi:i<n:=c1x.mp ((KS.ord_spec (λi=>kz.getD i 0) n (by omega)).1.mem_iff.mp hi)
  unfold rngD
  simp [hi]
theorem b59{rs:List Row}{j:Nat}(hj:j<rs.length):atI (rs.map Row.d) (j:Int)=some (Row.d (rw0 rs j)):=by
 rw [a7M hj]
 unfold rw0
 simp [hj]
theorem b7w{rs:List Row}(hl:rs.length<64)(hw:∀r∈rs,r.1<=r.2.1){x:Int}(h1:(rs.map λr=>r.1).sum<=x)(h2:x<=(rs.map λr=>r.2.1).sum){ro:Bool}:∃ys:List Int,a3c [.lst ro (rs.map Row.d),.int x]=some (.ow (ys.map D.int))/\∃l,Paired (Pt l) rs ys/\ys.sum=x:=by
 have key:Wo (a3c [.lst ro (rs.map Row.d),.int x]) λs=>∃ys:List Int,s=.ow (ys.map D.int)/\∃l,Paired (Pt l) rs ys/\ys.sum=x:=by
  refine W_dealt.mpr ?_
  unfold a96
  walk_at "v1"
  rw [a1q Row.d (λr=>.int r.1) (λe=>∃x0,e=[x0]) rs (λr hr e he=>?_) ⟨_,rfl⟩]
  .rw [show rs.map (λr=>D.int r.1)=(rs.map λr=>r.1).map D.int by rw [c1h];rfl]
   walk_at "v1"
   refine ⟨by rw [c0P];lia,?_⟩
   have hk:∀j,j<rs.length->eIx (bOf (eIx (bV 1) (eV 0))) (eC (D.int 3)) [.sh (.int (j:Nat)),.sh (.lst ro (rs.map Row.d))]=some (.sh (.int (rw0 rs j).2.2.2)):=λj hj=>Wo.eq (by
    walk_at "vc"
    rw [b59 hj]
    walk_at "vc"
    rw [a1l]
    walk_at "vc")
   rw [b3t (n:=rs.length) (d:=.lst ro (rs.map Row.d)) (kf:=λj=>(rw0 rs j).2.2.2) (Wo.eq (by walk_at "vc";simp)) rfl hl hk,osL_d]
   have pm:=b4b ((c1n rs.length).map λj=>(rw0 rs j).2.2.2) rs.length
   have up:=b9i ((c1n rs.length).map λj=>(rw0 rs j).2.2.2) rs.length
   generalize osL ((c1n rs.length).map λj=>(rw0 rs j).2.2.2) rs.length=os at *
   have nd:os.Nodup:=pm.nodup_iff.mpr List.nodup_range
   have hm:∀i,i∈os↔i<rs.length:=λi=>by rw [pm.mem_iff,c1x]
   have up:os.Pairwise λi j=>(rw0 rs i).2.2.2<=(rw0 rs j).2.2.2:=up.imp_of_mem λ{i j} hi hj h=>by
    simpa [(hm i).mp hi,(hm j).mp hj] using h
   walk_at "v1"
   refine a28 (λi:Nat=>D.int i) (λpre env=>∃ys left post x4 x5,os=pre++post/\env=[.sh (.lst ro (rs.map Row.d)),.sh (.int x),.ow (ys.map D.int),.sh (.int left),x4,x5]/\Gr rs x pre post ys left) os (λpre k post env e hI=>?_) (λenv hI=>?_) ⟨_,_,os,_,_,rfl,rfl,Gr.start (λi hi=>(hm i).mp hi) h1⟩
   .obtain ⟨ys,left,post',x4,x5,e',rfl,g⟩:=hI
    obtain rfl:post'=k::post:=c3z (e'.symm.trans e)
    have hk':k<rs.length:=(hm k).mp (by rw [e];simp)
    rw [e] at nd up
    have n1:=List.nodup_append.mp nd
    have u1:=c1g.mp up
    have hwk:(rw0 rs k).1<=(rw0 rs k).2.1:=by
     unfold rw0
     rw [c1H,c07 hk']
     exact hw _ (c1X hk')
    have gn:=g.next hk' (λz=>n1.2.2 k z k (c0N ..) rfl) (c2I.mp n1.2.1).1 (λi hi=>u1.2.2 i hi k (c0N ..)) (c08.mp u1.2.1).1 hwk
    walk_at "v1"
    rw [b59 hk']
    walk_at "v1"
    rw [a1l]
    walk_at "v1"
    have hyd:(ys.map D.int)[k]?=some (D.int (ys.getD k 0)):=by
     have:k<ys.length:=by rw [g.len];exact hk'
     simp [this]
    rw [b5a (n:=k) (m:=ys.getD k 0) (v:=min left ((rw0 rs k).2.1-(rw0 rs k).1)) (by rfl) (by rfl) hyd (by rfl),a2e]
    refine aug_s (by rfl) (by rfl) ?_
    walk_at "v1"
    refine ⟨_,_,post,.sh (.int k),.sh (.int (min left ((rw0 rs k).2.1-(rw0 rs k).1))),by rw [e];simp,?_,gn⟩
    simp [List.map_set]
   .obtain ⟨ys,left,post',x4,x5,e',rfl,g⟩:=hI
    obtain rfl:post'=[]:=c3z (e'.symm.trans (c1J os).symm)
    walk_at "v1"
    obtain ⟨l,h3,h4⟩:=g.done (λi hi=>(hm i).mpr hi) h2
    exact ⟨ys,rfl,l,h3,h4⟩
  .obtain ⟨x0,rfl⟩:=he
   rw [a1l]
   walk_at "vc"
   exact ⟨_,rfl⟩
 obtain ⟨s,e,ys,rfl,h⟩:=key
 exact ⟨ys,e,h⟩
noncomputable def hd0(x:List Int):Int:=x.headD 0
theorem fold_min:∀(r:List (List Int)) (m:List Int),m≠[]->(∀x∈r,x≠[])->(r.foldl (λm y=>if HT.lexLt y m then y else m) m)∈m::r/\∀x∈m::r,hd0 (r.foldl (λm y=>if HT.lexLt y m then y else m) m)<=hd0 x
 | [],m,_,_=>⟨c0Q.mpr rfl,λx hx=>by rw [c0Q.mp hx];exact c0T _⟩
 | y::r,m,hm,hr=>by
  have hy:=hr y (c0N ..)
  have hd:hd0 (if HT.lexLt y m then y else m)<=hd0 y/\hd0 (if HT.lexLt y m then y else m)<=hd0 m:=by
   cases y with
   | nil=>exact absurd rfl hy
   | cons a ys =>
    cases m with
    | nil=>exact absurd rfl hm
    | cons b ms =>
     rw [HT.lexLt_cons]
     show hd0 (if _ then _ else _)<=a/\hd0 (if _ then _ else _)<=b
     by_cases c:a=b
     .subst c
      rw [if_pos rfl]
      split<;>exact ⟨c0T _,c0T _⟩
     .rw [if_neg c]
      by_cases d:a<b
      .rw [if_pos (decide_eq_true d)];show a<=a/\a<=b;lia
      .rw [if_neg (by simpa using d)];show b<=a/\b<=b;lia
  obtain ⟨h1,h2⟩:=fold_min r (if HT.lexLt y m then y else m) (by split<;>assumption) λx hx=>hr x (c0O _ hx)
  rw [c2f]
  refine ⟨?_,λx hx=>?_⟩
  .rcases c0R.mp h1 with h1 | h1
   .rw [h1]
    split
    .exact c0O _ (c0N ..)
    .exact c0N ..
   .exact c0O _ (c0O _ h1)
  .have h0:=h2 _ (c0N ..)
   rcases c0R.mp hx with rfl | hx
   .lia
   .rcases c0R.mp hx with rfl | hx
    .lia
    .exact h2 x (c0O _ hx)
theorem b6T{rs:List (List Int)}(hn:rs≠[])(h:∀x∈rs,x≠[]):minT rs∈rs/\∀x∈rs,hd0 (minT rs)<=hd0 x:=by
 cases rs with
 | nil=>exact absurd rfl hn
 | cons m r=>exact fold_min r m (h m (c0N ..)) λx hx=>h x (c0O _ hx)
def Reach(rs:List Row)(x:Int):Prop:=(rs.map λr=>r.1).sum<=x/\x<=(rs.map λr=>r.2.1).sum
noncomputable instance (rs:List Row) (x:Int):Decidable (Reach rs x):=by unfold Reach;infer_instance
theorem b21{rs:List Row}(hl:rs.length<64){x:Int}{ro:Bool}:a1I [.lst ro (rs.map Row.d),.int x]=some (.sh (.bl (decide (Reach rs x)))):=by
 have c1:∀(x0:Sl),a2K (gN 0) a2d (eIx (bV 0) (eC (D.int 0))) (rs.map Row.d) [x0]=some ((rs.map λr=>r.1).map D.int):=λx0=>by
  rw [a1q Row.d (λr=>.int r.1) (λe=>∃x0,e=[x0]) rs (λr hr e he=>?_) ⟨_,rfl⟩,c1h]
  .rfl
  .obtain ⟨x0,rfl⟩:=he
   rw [a1l]
   walk_at "vc"
   exact ⟨_,rfl⟩
 have c2:∀(x0:Sl),a2K (gN 0) a2d (eIx (bV 0) (eC (D.int 1))) (rs.map Row.d) [x0]=some ((rs.map λr=>r.2.1).map D.int):=λx0=>by
  rw [a1q Row.d (λr=>.int r.2.1) (λe=>∃x0,e=[x0]) rs (λr hr e he=>?_) ⟨_,rfl⟩,c1h]
  .rfl
  .obtain ⟨x0,rfl⟩:=he
   rw [a1l]
   walk_at "vc"
   exact ⟨_,rfl⟩
 refine Wo.eq (W_reaches.mpr ?_)
 unfold a6m
 walk_at "vc"
 rw [b8l]
 walk_at "vc"
 have hz:(rs.map Row.d).length<=16777216:=by rw [c0P];lia
 refine ⟨hz,?_⟩
 rw [c1,a0g,a2G,a0g]
 refine ⟨λh=>⟨hz,?_⟩,λh=>?_⟩
 .rw [c2,a0g,a2G,a0g]
  unfold Reach
  simp [h]
 .unfold Reach
  simp [h]
theorem a97:∀{rs:List Row} {ys:List Int},Paired InR rs ys->zipD (rs.map Row.d) (ys.map D.int)=(rs.zip ys).map λp=>.tup [p.1.d,.int p.2]
 | _,_,.nil=>rfl
 | _,_,.cons p ps=>by
  show D.tup [_,_]::zipD _ _=D.tup [_,_]::_
  rw [a97 ps]
  rfl
theorem b0S:∀{rs:List Row} {ys:List Int},Paired InR rs ys->((rs.zip ys).map λp=>p.1.at p.2).sum=a29 rs ys
 | _,_,.nil=>rfl
 | _,_,.cons p ps=>by
  rw [c4m,c1l,c1Q,b0S ps]
  rfl
theorem a4Z:∀{rs:List Row} {ys:List Int} {p:Row×Int},Paired InR rs ys->p∈rs.zip ys->p.1∈rs/\InR p.1 p.2
 | _,_,_,.nil,h=>absurd h (by simp)
 | _,_,p,.cons q qs,h=>by
  rw [c4m] at h
  rcases c0R.mp h with rfl | h
  .exact ⟨c0N ..,q⟩
  .exact ⟨c0O _ (a4Z qs h).1,(a4Z qs h).2⟩
theorem a3H{l:Int}:∀{rs:List Row} {ys:List Int},Paired (Pt l) rs ys->Paired InR rs ys
 | _,_,.nil=>.nil
 | _,_,.cons p ps=>.cons p.1 (a3H ps)
theorem b0Q{rs:List Row}(hl:rs.length<64)(hb:∀r∈rs,PB r){x:Int}(hx:Reach rs x){ro:Bool}:∃ys:List Int,a0t [.lst ro (rs.map Row.d),.int x]=some (.sh (.tup [.int (a29 rs ys),.lst false (ys.map D.int)]))/\∃l,Paired (Pt l) rs ys/\ys.sum=x:=by
 obtain ⟨ys,ed,l,hp,hs⟩:=b7w hl (λr hr=>(hb r hr).1) hx.1 hx.2 (ro:=ro)
 have hq:=a3H hp
 have hly:ys.length=rs.length:=hq.length.symm
 refine ⟨ys,?_,l,hp,hs⟩
 refine Wo.eq (W_cost_and_shares.mpr ?_)
 unfold a2C
 walk_at "v1"
 rw [ed]
 walk_at "v1"
 rw [a97 hq,a1q (λp:Row×Int=>.tup [p.1.d,.int p.2]) (λp=>.int (p.1.at p.2)) (λe=>∃x0 x1,e=[x0,x1]) (rs.zip ys) (λp hp' e he=>?_) ⟨_,_,rfl⟩]
 .rw [show (rs.zip ys).map (λp=>D.int (p.1.at p.2))=((rs.zip ys).map λp=>p.1.at p.2).map D.int by rw [c1h];rfl]
  walk_at "v1"
  rw [b0S hq]
  refine ⟨?_,?_⟩
  .rw [c0P,c5f];omega
  .trivial
 .obtain ⟨x0,x1,rfl⟩:=he
  obtain ⟨m1,m2⟩:=a4Z hq hp'
  have:=hb _ m1
  unfold PB at this
  unfold InR at m2
  walk_at "vc"
  refine ⟨⟨_,_,rfl⟩,?_⟩
  rw [a7E (by omega) (by omega) (by omega) (by omega)]
  walk_at "vc"
theorem b3m{r:RF}{F:SF}{r':RF}{env env1:En}(h0:r env=none)(h:F env=some (.nx,env1)):rSeq r F r' env=r' env1:=by
 unfold rSeq
 rw [h0,h]
theorem b58{c:En->Option Bool}{r:RF}{env:En}(h:c env=some false):rIf c r rNo env=none:=by
 unfold rIf
 rw [h]
 rfl
theorem a5u{r:RF}{F:SF}{r':RF}{env:En}(h0:r env=none)(h:∀e,r' e=none):rSeq r F r' env=none:=by
 unfold rSeq
 rw [h0]
 dsimp only
 split
 .exact h _
 .rfl
theorem b69{c:En->Option Bool}(env:En):rIf c rNo rNo env=none:=by
 unfold rIf
 split<;>rfl
theorem b2d{nm t:Str}{env:En}:a8h nm (a0b (eC (.str t)) aNil) env=some (nm,env):=by
 unfold a8h
 show (if (1:Nat)<=16777216 then some (nm,env) else none)=_
 rw [if_pos (by decide)]
theorem a2J{n:Nat}{ρ:List D->Option Str}{fs:En->Option (List D)}{env:En}{ds:List D}(hf:fs env=some ds)(hl:ds.length=n):a2v n ρ fs env=ρ ds:=by
 unfold a2v
 rw [hf,c1w,if_pos hl]
theorem sh_pair:∀{R:List Row} {x c:Int},Sh (one R) x c↔∃ys:List Int,Paired InR R ys/\ys.sum=x/\a29 R ys=c
 | [],x,c=>by
  constructor
  .rintro ⟨rfl,rfl⟩
   exact ⟨[],.nil,rfl,rfl⟩
  .rintro ⟨ys,h,rfl,rfl⟩
   cases h
   exact ⟨rfl,rfl⟩
 | r::R,x,c=>by
  show (∃y cy z cz,Val [r] y cy/\Sh (one R) z cz/\y+z=x/\cy+cz=c)↔_
  constructor
  .rintro ⟨y,cy,z,cz,⟨q,hq,h1,h2,rfl⟩,h,rfl,rfl⟩
   rw [c0Q.mp hq] at h1 h2 ⊢
   obtain ⟨ys,p,rfl,rfl⟩:=sh_pair.mp h
   exact ⟨y::ys,.cons ⟨h1,h2⟩ p,rfl,rfl⟩
  .rintro ⟨ys,h,rfl,rfl⟩
   cases h with
   | cons a b =>
    rename_i y ys
    exact ⟨y,r.at y,ys.sum,a29 R ys,⟨r,c0Q.mpr rfl,a.1,a.2,rfl⟩,sh_pair.mpr ⟨ys,b,rfl,rfl⟩,rfl,rfl⟩
theorem a3G:∀{R:List Row} {ys:List Int},Paired InR R ys->Reach R ys.sum
 | _,_,.nil=>⟨c0T _,c0T _⟩
 | _,_,.cons (a:=r) (b:=y) a b=>by
  have h:=a3G b
  unfold Reach at h ⊢
  unfold InR at a
  simp only [c1l,c1Q]
  omega
noncomputable def ysN(x:Int)(R:List Row):List Int:=Classical.epsilon λys:List Int=>a0t [.lst false (R.map Row.d),.int x]=some (.sh (.tup [.int (a29 R ys),.lst false (ys.map D.int)]))/\∃l,Paired (Pt l) R ys/\ys.sum=x
theorem a60{x:Int}{R:List Row}(hl:R.length<64)(h:∀r∈R,PB r)(hx:Reach R x):a0t [.lst false (R.map Row.d),.int x]=some (.sh (.tup [.int (a29 R (ysN x R)),.lst false ((ysN x R).map D.int)]))/\∃l,Paired (Pt l) R (ysN x R)/\(ysN x R).sum=x:=
 Classical.epsilon_spec (b0Q hl h hx (ro:=false))
theorem b1x{W:List (List Row)}(hW:∀R∈W,R.length<64/\∀r∈R,PB r)(x:Int):a2K (gN 0) (tTru (a0h 2 a1I (a0b (eV 0) (a0b (eV 1) aNil)))) (a0h 2 a0t (a0b (eV 0) (a0b (eV 1) aNil))) (W.map enR) [.no,.sh (.int x)] =
  some ((W.filter λR=>decide (Reach R x)).map λR=>.tup [.int (a29 R (ysN x R)),.lst false ((ysN x R).map D.int)]):=by
 refine a6i enR (λR=>decide (Reach R x)) _ (λe=>∃x0,e=[x0,.sh (.int x)]) W (λR hR e he=>?_) ⟨_,rfl⟩
 obtain ⟨x0,rfl⟩:=he
 obtain ⟨m1,m2⟩:=hW R hR
 rw [show enR R=.lst false (R.map Row.d) from rfl]
 walk_at "vc"
 refine ⟨⟨_,rfl⟩,?_⟩
 rw [b21 m1]
 walk_at "vc"
 intro h
 rw [(a60 m1 m2 h).1]
 walk_at "vc"
theorem a9Y{Fs:List (List Row)}(hW:∀R∈prod Fs,R.length<64/\∀r∈R,PB r){x:Int}(hne:(pwL Fs).filter (λR=>decide (Reach R x))≠[]):∃R∈prod Fs,∃ys:List Int,ilD (minT (((pwL Fs).filter λR=>decide (Reach R x)).map λR=>a29 R (ysN x R)::ysN x R))=.tup [.int (a29 R ys),.lst false (ys.map D.int)]/\Paired InR R ys/\ys.sum=x/\Jn Fs x (a29 R ys):=by
 have mem:∀R,R∈(pwL Fs).filter (λR=>decide (Reach R x))↔R∈prod Fs/\Reach R x:=λR=>by rw [c2Z,pwL_mem,decide_eq_true_iff]
 obtain ⟨h1,h2⟩:=b6T (rs:=((pwL Fs).filter λR=>decide (Reach R x)).map λR=>a29 R (ysN x R)::ysN x R) (by simpa using hne) λz hz=>by
  obtain ⟨p,_,rfl⟩:=c1i.mp hz
  exact λz=>nomatch z
 generalize minT (((pwL Fs).filter λR=>decide (Reach R x)).map λR=>a29 R (ysN x R)::ysN x R)=m at *
 obtain ⟨R,hR,rfl⟩:=c1i.mp h1
 obtain ⟨mR,rR⟩:=(mem R).mp hR
 obtain ⟨_,l,q1,q2⟩:=a60 (hW R mR).1 (hW R mR).2 rR
 refine ⟨R,mR,ysN x R,rfl,a3H q1,q2,sh_prod.mpr ⟨R,mR,sh_pair.mpr ⟨_,a3H q1,q2,rfl⟩⟩,λc' hc=>?_⟩
 obtain ⟨S,mS,hS⟩:=sh_prod.mp hc
 obtain ⟨zs,p,e1,rfl⟩:=sh_pair.mp hS
 have rS:Reach S x:=by rw [<-e1];exact a3G p
 obtain ⟨_,l',t1,t2⟩:=a60 (hW S mS).1 (hW S mS).2 rS
 have:=h2 _ (c1i.mpr ⟨S,(mem S).mpr ⟨mS,rS⟩,rfl⟩)
 exact c1e this (b2U t1 t2 p e1)
theorem b0M{Fs:List (List Row)}(h:∀F∈Fs,F.length<=900000)(h0:np Fs=0){ro:Bool}:a1a [.lst ro (Fs.map enF)]=some (.ow []):=by
 have em:=a6e h (ro:=ro)
 rw [h0] at em
 refine Wo.eq (W_picks.mpr ?_)
 unfold a5b
 walk_at "v1"
 refine a1Y ?_ ?_
 .walk_at "vc"
  rw [em]
  walk_at "vc"
 walk_at "v1"
 rw [a10]
 walk_at "vc"
 rw [em]
 walk_at "vc"
theorem b6t(Fs:List (List Row)):(pwL Fs).length=np Fs:=by
 have key:∀(l:List (List Row)) (W:List (List Row)),(l.foldl pwF W).length=W.length*np l:=λl=>by
  induction l with
  | nil=>intro W;unfold np;simp
  | cons F l ih =>
   intro W
   rw [c2f,ih,a5R,c4Q,show F::l=[F]++l from rfl,a8v,show np [F]=F.length by unfold np;simp]
 have:=key Fs [[]]
 unfold pwL
 simpa using this
theorem b1a{Fs:List (List Row)}(h:∀F∈Fs,F.length<=900000)(hp:np Fs<=100){ro:Bool}:a1F [.lst ro (Fs.map enF)]=none:=by
 have hm:=a6e h (ro:=ro)
 have hp':(np Fs:Int)<=100:=by exact Int.ofNat_le.mpr ‹_›
 unfold a1F runX a92
 have c1:∀env:En,env=a06 5 [.lst ro (Fs.map enF)]->tOf (eBin gGt (a0h 1 a0s (a0b (eV 0) aNil)) (eC (.int 100))) env=some false:=λenv he=>by
  subst he
  refine Wo.eq ?_
  show Wo (tOf _ [.sh (.lst ro (Fs.map enF)),.no,.no,.no,.no]) _
  walk_at "vc"
  rw [hm]
  walk_at "vc"
  simpa using hp'
 rw [c4Z]
 exact a5u (b58 (c1 _ rfl)) λe=>a5u (b69 e) λe=>a5u rfl λe=>a5u rfl λe=>rfl
theorem b0P{Fs:List (List Row)}(hfl:Fs.length<64)(hF:∀F∈Fs,∀r∈F,PB r)(hlen:∀F∈Fs,F.length<=900000)(hp:np Fs<=100){x:Int}{ro:Bool}:(a0x 2 (a1E (fSeq (a0h 1 a1a (a0b (eV 0) aNil))) [1] 1 (gN 0) (tTru (a0h 2 a1I (a0b (eV 0) (a0b (eV 1) aNil)))) (a0h 2 a0t (a0b (eV 0) (a0b (eV 1) aNil))))) [.sh (.lst ro (Fs.map enF)),.sh (.int x),.no] =
  some (.nx,[.sh (.lst ro (Fs.map enF)),.sh (.int x),.sh (.lst false (((pwL Fs).filter λR=>decide (Reach R x)).map λR=>.tup [.int (a29 R (ysN x R)),.lst false ((ysN x R).map D.int)]))]):=by
 refine Wo.eq ?_
 walk_at "v1"
 by_cases h0:np Fs=0
 .rw [b0M hlen h0]
  have:pwL Fs=[]:=c2m.mp (by rw [b6t,h0])
  walk_at "v1"
  rw [this]
  rfl
 .obtain ⟨ep,hpl⟩:=b0N (Fs:=Fs) (ro:=ro) (by lia) hp h0
  rw [ep]
  walk_at "v1"
  refine ⟨by rw [c0P,hpl];exact c02 ‹_› (by decide),?_⟩
  rw [b1x λR hR=>?_]
  .walk_at "v1"
  .obtain ⟨l,k⟩:=a3Y (pwL_mem.mp hR)
   exact ⟨by lia,λr hr=>by obtain ⟨F,hF',hr'⟩:=k r hr;exact hF F hF' r hr'⟩
theorem b7y{Fs:List (List Row)}(hfl:Fs.length<64)(hF:∀F∈Fs,∀r∈F,PB r)(hlen:∀F∈Fs,F.length<=900000)(hp:np Fs<=100){x c:Int}(h:Sh Fs x c){ro:Bool}:
  ∃R∈prod Fs,∃ys:List Int,a0I [.lst ro (Fs.map enF),.int x]=some (.sh (.lst false (ys.map D.int)))/\Paired InR R ys/\ys.sum=x/\Jn Fs x (a29 R ys):=by
 have hW:∀R∈prod Fs,R.length<64/\∀r∈R,PB r:=λR hR=>by
  obtain ⟨l,k⟩:=a3Y hR
  exact ⟨by omega,λr hr=>by obtain ⟨F,hF',hr'⟩:=k r hr;exact hF F hF' r hr'⟩
 have hne:(pwL Fs).filter (λR=>decide (Reach R x))≠[]:=λz=>by
  obtain ⟨S,mS,hS⟩:=sh_prod.mp h
  obtain ⟨zs,p,e1,_⟩:=sh_pair.mp hS
  have:S∈(pwL Fs).filter (λR=>decide (Reach R x)):=by
   rw [c2Z,pwL_mem,decide_eq_true_iff,<-e1]
   exact ⟨mS,a3G p⟩
  rw [z] at this
  cases this
 obtain ⟨R,mR,ys,e,q⟩:=a9Y hW hne
 refine ⟨R,mR,ys,?_,q⟩
 refine Wo.eq (W_best_dealt.mpr ?_)
 unfold a2H
 rw [Wo_seq,b0P hfl hF hlen hp,a0g,a2e]
 have hm:((pwL Fs).filter (λR=>decide (Reach R x))).map (λR=>a29 R (ysN x R)::ysN x R)≠[]:=by simpa using hne
 generalize (pwL Fs).filter (λR=>decide (Reach R x))=F at *
 walk_at "v1"
 refine a1Y ?_ ?_
 .walk_at "vc"
  cases F with
  | nil=>exact absurd rfl hne
  | cons a b=>simp
 rw [a2e]
 walk_at "v1"
 rw [b5s (k:=true) (by rfl) (b0D F) hm,e]
 walk_at "vc"
theorem a6W{Fs:List (List Row)}(hfl:Fs.length<64)(hF:∀F∈Fs,∀r∈F,PB r)(hlen:∀F∈Fs,F.length<=900000)(hp:np Fs<=100){x:Int}(h:∀c,¬Sh Fs x c){ro:Bool}:
  a0I [.lst ro (Fs.map enF),.int x]=none/\a0O [.lst ro (Fs.map enF),.int x]=some ("NotOffered":Str):=by
 have found:=b0P hfl hF hlen hp (x:=x) (ro:=ro)
 have hz:(pwL Fs).filter (λR=>decide (Reach R x))=[]:=List.filter_eq_nil_iff.mpr λR hR z=>by
  have mR:=pwL_mem.mp hR
  obtain ⟨l,k⟩:=a3Y mR
  obtain ⟨ys,_,l',q1,q2⟩:=b0Q (rs:=R) (by omega) (λr hr=>by obtain ⟨F,hF',hr'⟩:=k r hr;exact hF F hF' r hr') (of_decide_eq_true z) (ro:=false)
  exact h _ (sh_prod.mpr ⟨R,mR,sh_pair.mpr ⟨_,a3H q1,q2,rfl⟩⟩)
 rw [hz] at found
 constructor
 .refine none_of λh=>?_
  have h:=W_best_dealt.mp h
  unfold a2H at h
  rw [Wo_seq] at h
  obtain ⟨q,e,h⟩:=h
  rw [found] at e
  cases e
  rw [a2e,Wo_seq] at h
  obtain ⟨q,e,_⟩:=h
  cases e
 .unfold a0O runX a3P
  rw [show a06 3 [.lst ro (Fs.map enF),.int x]=[.sh (.lst ro (Fs.map enF)),.sh (.int x),.no] from rfl]
  have p0:rE (a2v 1 a1F (a0b (eV 0) aNil)) [.sh (.lst ro (Fs.map enF)),.sh (.int x),.no]=none:=by
   unfold rE
   rw [c4Z]
   refine Eq.trans (a2J (n:=1) (ds:=[.lst ro (Fs.map enF)]) ?_ rfl) (b1a hlen hp)
   rfl
  rw [b3m p0 found,a3l (x:=("NotOffered",[.sh (.lst ro (Fs.map enF)),.sh (.int x),.sh (.lst false [])])) (by rw [b2e (by rfl)];exact b2d)]
  rfl
theorem zip_rows{α β:Type}{f:α->D}{g:β->D}(xs:List α)(ys:List β):zipD (xs.map f) (ys.map g)=(xs.zip ys).map λp=>.tup [f p.1,g p.2]:=by
 unfold zipD
 rw [List.zipWith_map,List.zip,List.map_zipWith]
theorem b3p{rs:List Row}{n:Nat}(h:n<rs.length):atI (rs.map Row.d) (n:Int)=some (Row.d rs[n]):=by
 rw [DL.atI_nat];simp [h]
theorem b7s{rs:List Row}(ha:Asc rs)(hl:rs.length<=900000)(x:Int):∃n:Nat,a18 [.tup (rs.map Row.d),.int x]=some (.sh (.int n))/\n<=rs.length/\(∀i (h:i<rs.length),i<n->rs[i].2.1<x)/\(∀i (h:i<rs.length),n<=i->x<=rs[i].2.1):=by
 have mono:∀i j (hi:i<rs.length) (hj:j<rs.length),i<=j->rs[i].2.1<=rs[j].2.1:=λi j hi hj h=>by
  rcases Nat.lt_or_eq_of_le h with h | rfl
  .have:=(c3g.mp ha.2) i j hi hj h
   have:=ha.1 _ (c1X hj)
   lia
  .exact c0T _
 have key:Wo (a18 [.tup (rs.map Row.d),.int x]) λs=>∃n:Nat,s=.sh (.int n)/\n<=rs.length/\(∀i (h:i<rs.length),i<n->rs[i].2.1<x)/\(∀i (h:i<rs.length),n<=i->x<=rs[i].2.1):=by
  refine W_place_of.mpr ?_
  unfold a5a
  walk_at "vc"
  rw [c0P,a7N]
  refine a3A (λm env=>∃x4,∃f b:Nat,env=[.sh (.tup (rs.map Row.d)),.sh (.int x),.sh (.int f),.sh (.int b),x4]/\m=b-f/\f<=b/\b<=rs.length/\(∀i (h:i<rs.length),i<f->rs[i].2.1<x)/\(∀i (h:i<rs.length),b<=i->x<=rs[i].2.1)) (λm env h=>?_) _ rs.length
   (show rs.length<1000000 by exact c2i ‹_› (by decide)) ⟨_,0,rs.length,rfl,by simp,by simp,c0S _,λi h z=>absurd z (c39 _),λi h z=>absurd h (c5g.mpr ‹_›)⟩
  obtain ⟨x4,f,b,rfl,rfl,h1,h2,h3,h4⟩:=h
  walk_at "vc"
  refine ⟨λhlt=>?_,λhge=>⟨f,rfl,c02 ‹_› ‹_›,h3,λi h z=>h4 i h (by lia)⟩⟩
  have hm:((f:Int)+b)/2=(((f+b)/2:Nat):Int):=by lia
  have hmid:(f+b)/2<rs.length:=by lia
  rw [hm,b3p hmid,a1l]
  walk_at "vc"
  refine ⟨by walk_at "sc",λhc=>?_,λhc=>?_⟩
  .exact ⟨b-((f+b)/2+1),by lia,_,(f+b)/2+1,b,rfl,rfl,by lia,h2,λi h z=>c4p (mono i ((f+b)/2) h hmid (zqi ‹_›)) hc,h4⟩
  .exact ⟨(f+b)/2-f,by lia,_,f,(f+b)/2,rfl,rfl,by lia,c2A ‹_›,h3,λi h z=>c1e (c3H.mp ‹_›) (mono ((f+b)/2) i hmid h z)⟩
 obtain ⟨s,e,n,rfl,h⟩:=key
 exact ⟨n,e,h⟩
theorem b4W{rs:List Row}(ha:Asc rs)(hl:rs.length<=900000)(hb:∀r∈rs,BdRow (10^140) r){x:Int}(hx:-(10^140)<=x/\x<=10^140):a2T [.tup (rs.map Row.d),.int x]=some (.sh (encI (look rs x))):=by
 refine Wo.eq (W_cost_at.mpr ?_)
 unfold a6q
 walk_at "vc"
 obtain ⟨n,en,hn,h1,h2⟩:=b7s ha hl x
 rw [en]
 walk_at "vc"
 rw [c0P]
 have split:rs=rs.take n++rs.drop n:=(c5e n rs).symm
 have hpre:∀q∈rs.take n,q.2.1<x:=λq hq=>by
  obtain ⟨i,hi,rfl⟩:=c3b.mp hq
  rw [c2k] at hi
  rw [List.getElem_take]
  exact h1 i (by omega) (by omega)
 have lk:look rs x=look (rs.drop n) x:=by
  have:=a53 (x:=x) (post:=rs.drop n) hpre
  rwa [<-split] at this
 refine ⟨λhe=>?_,λhe=>?_⟩
 .have:rs.drop n=[]:=c1F (by omega)
  rw [lk,this];rfl
 .have hlt:n<rs.length:=by omega
  have hd:rs.drop n=rs[n]::rs.drop (n+1):=c1r hlt
  have hr:=hb rs[n] (c1X hlt)
  have hle:=h2 n hlt (c0S _)
  unfold BdRow at hr
  rw [b3p hlt,a1l]
  walk_at "vc"
  refine ⟨λhx1=>?_,λhx1=>?_⟩
  .rw [lk,a4B];rfl
   intro q hq
   rw [hd] at hq
   rcases c0R.mp hq with rfl | hq
   .exact .inl hx1
   .have hp:=ha.2
    rw [split,hd] at hp
    have:=(c08.mp (c1g.mp hp).2.1).1 q hq
    have:=ha.1 rs[n] (c1X hlt)
    exact .inl (c4p ‹_› ‹_›)
  .rw [<-a1l,a7E (by omega) (by omega) (by omega) (by omega)]
   walk_at "vc"
   rw [lk,hd,look,if_pos ⟨c3H.mp ‹_›,hle⟩]
   rfl
noncomputable def gR(a s:Int)(cs:List Int):List Row:=(c1n cs.length).map λ(k:Nat)=>(a+s*k,a+s*k,cs.getD k 0,0)
theorem b9K(a s:Int)(cs:List Int):(gR a s cs).length=cs.length:=by unfold gR;simp
theorem b9J{a s:Int}{cs:List Int}{x c:Int}:Val (gR a s cs) x c↔∃k:Nat,k<cs.length/\x=a+s*k/\c=cs.getD k 0:=by
 constructor
 .rintro ⟨r,hr,h1,h2,rfl⟩
  obtain ⟨k,hk,rfl⟩:=c1i.mp hr
  refine ⟨k,c1x.mp hk,by dsimp only at h1 h2;exact c2P ‹_› ‹_›,?_⟩
  unfold Row.at
  simp
 .rintro ⟨k,hk,rfl,rfl⟩
  refine ⟨_,c1i.mpr ⟨k,c1x.mpr hk,rfl⟩,c0T _,c0T _,?_⟩
  unfold Row.at
  simp
theorem a7B{a s:Int}(hs:2<=s)(cs:List Int):Canon (gR a s cs):=by
 refine ⟨λr hr=>?_,?_⟩
 .obtain ⟨k,_,rfl⟩:=c1i.mp hr
  exact ⟨c0T _,λ_=>rfl⟩
 .unfold gR
  have key:∀n:Nat,Links a6Z ((c1n n).map λ(k:Nat)=>((a+s*k,a+s*k,cs.getD k 0,0):Row)):=λn=>by
   induction n with
   | zero=>trivial
   | succ n ih =>
    rw [List.range_succ,c1c]
    refine ih.snoc λq hq=>?_
    cases n with
    | zero=>cases hq
    | succ m =>
     rw [List.range_succ,c1c] at hq
     simp at hq
     subst hq
     have:s*((m+1:Nat):Int)=s*m+s:=by rw [c3A,c3m];simp
     refine ⟨by dsimp only;lia,λz=>?_⟩
     dsimp only at z
     lia
  exact key _
theorem b7c{a s:Int}(hs:2<=s){cs:List Int}{fs:List Row}(L:Laid (gR a s cs) fs):fs=gR a s cs:=
 a47 L.canon (a7B hs cs) λx=>a9x L.canon.asc (a7B hs cs).asc λc=>L.val x c
theorem a7F(ns:List Int)(k:Int)(hk:0<=k){r:Bool}:a0T [.lst r (ns.map D.int),.int k]=some (.sh (.int (ns.getD k.toNat 0))):=by
 refine Wo.eq (W_law_cell_at.mpr ?_)
 unfold a3u
 walk_at "vc"
 rw [c0P]
 refine ⟨λh=>?_,λh=>?_⟩
 .rw [b0Y 0 hk h]
  walk_at "vc"
 .have:ns.length<=k.toNat:=by lia
  simp [this]
noncomputable def csF(p:Int)(n:Nat):List Int:=(c1n n).map λ(k:Nat)=>7+p*2*k
noncomputable def selF(a p:Int)(n:Nat):List Row:=gR a 2 (csF p n)
theorem a5P(a p:Int)(n:Nat):(selF a p n).length=n:=by unfold selF csF;rw [b9K];simp
theorem a9S{p:Int}{n k:Nat}(h:k<n):(csF p n).getD k 0=7+p*2*k:=by unfold csF;simp [h]
theorem sel_val{a p:Int}{n:Nat}{x c:Int}:Val (selF a p n) x c↔∃k:Nat,k<n/\x=a+2*k/\c=7+p*2*k:=by
 unfold selF
 rw [b9J,show (csF p n).length=n by unfold csF;simp]
 constructor
 .rintro ⟨k,h,e1,e2⟩
  exact ⟨k,h,e1,by rw [e2,a9S h]⟩
 .rintro ⟨k,h,e1,e2⟩
  exact ⟨k,h,e1,by rw [e2,a9S h]⟩
theorem a9o{p:Int}(hp:-(10^30)<=p/\p<=10^30){k:Nat}(hk:k<=1000):-(10^34)<=p*2*(k:Int)/\p*2*(k:Int)<=10^34:=by
 have m1:p*2*(k:Int)<=10^30*2*k:=c2h (by omega) (c1L _)
 have m2:-(10^30)*2*(k:Int)<=p*2*k:=c2h (by omega) (c1L _)
 omega
theorem a6N{a p:Int}{n:Nat}(ha:-(10^46)<=a/\a<=10^46)(hp:-(10^30)<=p/\p<=10^30)(hn:n<=101):FV (10^60) (10^130) (selF a p n):=by
 have c:Canon (selF a p n):=a7B (by decide) _
 refine ⟨c,λx v h=>?_⟩
 obtain ⟨k,hk,rfl,rfl⟩:=sel_val.mp ((a1D c.asc).mp h)
 have:=a9o hp (k:=k) (by omega)
 omega
theorem b4U{a p:Int}{n:Nat}(ha:-(10^46)<=a/\a<=10^46)(hp:-(10^30)<=p/\p<=10^30)(hn:n<=101):a1x [.int a,.int p,.int n]=some (.sh (enF (selF a p n))):=by
 have F:=a6N ha hp hn
 obtain ⟨fs,ef,L⟩:=b0O (rows:=selF a p n) F.canon.asc (F.row (by decide) (by decide)) (by rw [a5P];exact c02 ‹_› (by decide)) (ro:=false)
 have u:fs=selF a p n:=b7c (by decide) L
 subst u
 refine Wo.eq (W_law_seller.mpr ?_)
 unfold a3U
 walk_at "v1"
 rw [show (n:Int).toNat=n by exact c2q _]
 unfold rngD
 refine ⟨by rw [c0P,List.length_range];exact c02 ‹_› (by decide),?_⟩
 rw [a1q (λ(k:Nat)=>D.int (0+(k:Int))) (λ(k:Nat)=>Row.d (a+2*k,a+2*k,7+p*2*k,0)) (λe=>∃x,e=[x,.sh (.int a),.sh (.int p)]) (c1n n) (λk hk e he=>?_) ⟨_,rfl⟩]
 .rw [a0g,show (c1n n).map (λ(k:Nat)=>Row.d (a+2*k,a+2*k,7+p*2*k,0))=(selF a p n).map Row.d by
   unfold selF gR
   rw [c1h,show (csF p n).length=n by unfold csF;simp]
   refine c2V λk hk=>?_
   show _=Row.d (_,_,(csF p n).getD k 0,0)
   rw [a9S (c1x.mp hk)]]
  walk_at "v1"
  rw [ef]
  walk_at "vc"
  rfl
 .obtain ⟨x,rfl⟩:=he
  have:=c1x.mp hk
  rw [a1l]
  walk_at "vc"
  rw [c3S]
  exact ⟨⟨_,rfl⟩,a41 (by decide) (by decide) (c1L _) (by omega),a41 (by decide) (by decide) (c1L _) (by omega),a41 (by omega) (by omega) (by decide) (by decide),a41 (by omega) (by omega) (c1L _) (by omega),rfl⟩
theorem a9z:∀{zn:List Nat},(∀n∈zn,0<n)->zn.length<=zn.sum
 | [],_=>c0S _
 | n::zn,h=>by
  have:=a9z λm hm=>h m (c0O _ hm)
  have:=h n (c0N ..)
  rw [c1u,c1Q]
  omega
theorem b13{a p:Int}:∀{zn:List Nat},(∀n∈zn,0<n)->∀{x c:Int},Sh (zn.map (selF a p)) x c↔∃k:Nat,k+zn.length<=zn.sum/\x=a*zn.length+2*k/\c=7*zn.length+p*2*k
 | [],_,x,c=>by
  constructor
  .rintro ⟨rfl,rfl⟩
   exact ⟨0,by simp,by simp,by simp⟩
  .rintro ⟨k,h,rfl,rfl⟩
   obtain rfl:k=0:=by simpa using h
   exact ⟨by simp,by simp⟩
 | n::zn,hz,x,c=>by
  have hz':∀m∈zn,0<m:=λm hm=>hz m (c0O _ hm)
  have hn:=hz n (c0N ..)
  have hls:=a9z hz'
  have e1:a*((zn.length+1:Nat):Int)=a*zn.length+a:=by rw [c3A,c3m];simp
  have e2:∀i j:Nat,p*2*((i+j:Nat):Int)=p*2*i+p*2*j:=λi j=>by rw [c3A,c3m]
  show (∃y cy z cz,Val (selF a p n) y cy/\Sh (zn.map (selF a p)) z cz/\y+z=x/\cy+cz=c)↔_
  rw [c1u,c1Q,e1]
  constructor
  .rintro ⟨y,cy,z,cz,hv,hs,rfl,rfl⟩
   obtain ⟨k,hk,rfl,rfl⟩:=sel_val.mp hv
   obtain ⟨j,hj,rfl,rfl⟩:=(b13 hz').mp hs
   have:=e2 k j
   exact ⟨k+j,by omega,by omega,by omega⟩
  .rintro ⟨k,hk,rfl,rfl⟩
   obtain ⟨i,j,rfl,hi,hj⟩:∃i j:Nat,k=i+j/\i<n/\j+zn.length<=zn.sum:=⟨min k (n-1),k-min k (n-1),by omega,by omega,by omega⟩
   have:=e2 i j
   exact ⟨_,_,_,_,sel_val.mpr ⟨i,hi,rfl,rfl⟩,(b13 hz').mpr ⟨j,hj,rfl,rfl⟩,by omega,by omega⟩
noncomputable def mulL(zn:List Nat):Nat:=zn.foldl (·*·) 1
theorem a8u{a p:Int}(zn:List Nat):np (zn.map (selF a p))=mulL zn:=by
 unfold np mulL
 rw [c1h,show (c3D∘selF a p)=id from funext λn=>a5P a p n,List.map_id]
theorem b9r:LOw a0S 100:=λhs hV hC hF hne hl =>
 (a3m (n:=64) (by decide) (a3m (n:=32) (by decide) (a3m (n:=16) (by decide) (a3m (n:=8) (by decide) (a3m (n:=4) (by decide) (a3m (n:=2) (by decide) (a3m (n:=1) (by decide) (b2v (φ:=a1L) a7U) (φ:=a1h) a7T) (φ:=a1g) a7S) (φ:=a1f) a7R) (φ:=a1e) a7Q) (φ:=a1d) a7P) (φ:=a1c) a7O) (φ:=a1b) W_least_of__8) hs hV hC hF hne (c02 ‹_› (by decide))
theorem b1L{d0 d1 d2 d:D}(h:a0z [d0,d1,d2]=some (.sh d)):a0B [d0,d1,d2]=some (.sh (.tup [.str "told",d])):=by
 refine Wo.eq (W_law_told.mpr ?_)
 unfold a34
 walk_at "v1"
 refine b7H ?_
 walk_at "v1"
 rw [h]
 walk_at "v1"
 rw [a10]
 walk_at "v1"
 rw [show gEqD (.lst false []) (.lst false [])=some (.sh (.bl true)) from rfl]
 walk_at "vc"
theorem b1M{nm:Str}{d0 d1 d2:D}(h:a0z [d0,d1,d2]=none/\a0y [d0,d1,d2]=some nm)(hn:nm=("NotOffered":Str)\/nm=("TooMany":Str)):a0B [d0,d1,d2]=some (.sh (.tup [.str (if nm=("TooMany":Str) then "many" else "not"),.non])):=by
 refine Wo.eq (W_law_told.mpr ?_)
 unfold a34
 walk_at "v1"
 refine b7G (nm:=nm) (env1:=[.sh d0,.sh d1,.sh d2,.sh .non,.sh (.lst false []),.no]) (none_of ?_) ?_ (by rcases hn with rfl | rfl<;>decide) (by simp) ?_
 .walk_at "v1"
  rw [h.1]
  walk_at "v1"
 .unfold rE
  rw [show a2v 3 a0y (a0b (eV 0) (a0b (eV 1) (a0b (eV 2) aNil))) [.sh d0,.sh d1,.sh d2,.sh .non,.sh (.lst false []),.no]=some nm from Eq.trans (a2J (n:=3) (ds:=[d0,d1,d2]) rfl rfl) h.2]
  rfl
 .rcases hn with rfl | rfl
  .walk_at "v1"
   refine ⟨.sh (.bl true),rfl,.sh (.bl false),rfl,.sh (.bl true),rfl,?_⟩
   refine a1Y ?_ ?_
   .walk_at "vc"
    rw [show gEqD (.lst false [.bl true,.bl false,.bl true]) (.lst false [])=some (.sh (.bl false)) from rfl]
    walk_at "vc"
   rw [a2e]
   walk_at "v1"
   refine a1Y ?_ ?_
   .walk_at "vc"
    rw [show gEqD (.lst false [.bl true,.bl false,.bl true]) (.lst false [.bl true,.bl true,.bl false])=some (.sh (.bl false)) from rfl]
    walk_at "vc"
   rw [a2e]
   walk_at "v1"
   rw [a10]
   walk_at "v1"
   rw [show gEqD (.lst false [.bl true,.bl false,.bl true]) (.lst false [.bl true,.bl false,.bl true])=some (.sh (.bl true)) from rfl]
   walk_at "vc"
   rw [if_neg (by decide)]
  .walk_at "v1"
   refine ⟨.sh (.bl true),rfl,.sh (.bl true),rfl,.sh (.bl false),rfl,?_⟩
   refine a1Y ?_ ?_
   .walk_at "vc"
    rw [show gEqD (.lst false [.bl true,.bl true,.bl false]) (.lst false [])=some (.sh (.bl false)) from rfl]
    walk_at "vc"
   rw [a2e]
   walk_at "v1"
   rw [a10]
   walk_at "v1"
   rw [show gEqD (.lst false [.bl true,.bl true,.bl false]) (.lst false [.bl true,.bl true,.bl false])=some (.sh (.bl true)) from rfl]
   walk_at "vc"
   rw [if_pos trivial]
theorem rsk{c:En->Option Bool}{r:RF}{A:SF}{r':RF}{env:En}(h:c env=some false):rSeq (rIf c r rNo) (sIf c A sNx) r' env=r' env:=
 b3m (b58 h) (by unfold sIf;rw [h];rfl)
theorem ask0{d1 d2 d:D}(h:a0v [d1]=some (.sh d)):a0z [.int 0,d1,d2]=some (.sh d):=by
 refine Wo.eq (W_law_asked.mpr ?_)
 unfold a1t
 walk_at "v1"
 rw [a10]
 walk_at "v1"
 rw [h]
 walk_at "vc"
theorem ask0x{d1 d2:D}{nm:Str}(h:a0v [d1]=none/\a09 [d1]=some nm):a0z [.int 0,d1,d2]=none/\a0y [.int 0,d1,d2]=some nm:=by
 constructor
 .refine none_of λz=>?_
  rw [W_law_asked] at z
  revert z
  unfold a1t
  walk_at "v1"
  rw [a10]
  walk_at "v1"
  rw [h.1]
  walk_at "v1"
 .unfold a0y runX a2W
  rw [show a06 3 [.int 0,d1,d2]=[.sh (.int 0),.sh d1,.sh d2] from rfl]
  rw [a3l (x:=(nm,[.sh (.int 0),.sh d1,.sh d2])) (by
   rw [b2e (by rfl)]
   unfold rE
   rw [a2J (n:=1) (ds:=[d1]) rfl rfl,h.2]
   rfl)]
  rfl
theorem ask1{d1 d2 d:D}(h:a0N [d1,d2]=some (.sh d)):a0z [.int 1,d1,d2]=some (.sh d):=by
 refine Wo.eq (W_law_asked.mpr ?_)
 unfold a1t
 walk_at "v1"
 refine a1Y ?_ ?_
 .walk_at "vc"
 rw [a2e]
 walk_at "v1"
 rw [a10]
 walk_at "v1"
 rw [h]
 walk_at "vc"
theorem b7E{d1 d2:D}{nm:Str}(h:a0N [d1,d2]=none/\a1P [d1,d2]=some nm):a0z [.int 1,d1,d2]=none/\a0y [.int 1,d1,d2]=some nm:=by
 constructor
 .refine none_of λz=>?_
  rw [W_law_asked] at z
  revert z
  unfold a1t
  walk_at "vc"
  rw [h.1]
  walk_at "v1"
 .unfold a0y runX a2W
  rw [show a06 3 [.int 1,d1,d2]=[.sh (.int 1),.sh d1,.sh d2] from rfl,rsk (by rfl)]
  rw [a3l (x:=(nm,[.sh (.int 1),.sh d1,.sh d2])) (by
   rw [b2e (by rfl)]
   unfold rE
   rw [a2J (n:=2) (ds:=[d1,d2]) rfl rfl,h.2]
   rfl)]
  rfl
theorem ask2x{d1 d2:D}{nm:Str}(h:a1w [d1,.int 0]=none/\a2Q [d1,.int 0]=some nm):a0z [.int 2,d1,d2]=none/\a0y [.int 2,d1,d2]=some nm:=by
 constructor
 .refine none_of λz=>?_
  rw [W_law_asked] at z
  revert z
  unfold a1t
  walk_at "vc"
  rw [h.1]
  walk_at "v1"
 .unfold a0y runX a2W
  rw [show a06 3 [.int 2,d1,d2]=[.sh (.int 2),.sh d1,.sh d2] from rfl,rsk (by rfl),rsk (by rfl)]
  rw [a3l (x:=(nm,[.sh (.int 2),.sh d1,.sh d2])) (by
   rw [b2e (by rfl)]
   unfold rE
   rw [a2J (n:=2) (ds:=[d1,.int 0]) rfl rfl,h.2]
   rfl)]
  rfl
theorem a6g{Fs:List (List Row)}{x:Int}:a2K (gN 0) a2d (eV 1) (Fs.map enF) [.no,.sh (.int x)]=some ((Fs.map λ_=>x).map D.int):=by
 rw [a1q enF (λ_=>D.int x) (λe=>∃y,e=[y,.sh (.int x)]) Fs (λF hF e he=>?_) ⟨_,rfl⟩,c1h]
 .rfl
 .obtain ⟨y,rfl⟩:=he
  walk_at "vc"
  exact ⟨_,rfl⟩
theorem ask3{Fs:List (List Row)}(hl:Fs.length<=1000){x:Int}{d:D}{r:Bool}(h:a0Q [.lst r (Fs.map enF),.lst false ((Fs.map λ_=>x).map D.int)]=some (.sh d)):a0z [.int 3,.lst r (Fs.map enF),.int x]=some (.sh d):=by
 refine Wo.eq (W_law_asked.mpr ?_)
 unfold a1t
 walk_at "vc"
 rw [a6g]
 walk_at "vc"
 refine ⟨by rw [c0P];exact c02 ‹_› (by decide),?_⟩
 rw [h]
 walk_at "vc"
theorem ask3x{Fs:List (List Row)}(hl:Fs.length<=1000){x:Int}{nm:Str}{r:Bool}(h:a0Q [.lst r (Fs.map enF),.lst false ((Fs.map λ_=>x).map D.int)]=none/\a17 [.lst r (Fs.map enF),.lst false ((Fs.map λ_=>x).map D.int)]=some nm):a0z [.int 3,.lst r (Fs.map enF),.int x]=none/\a0y [.int 3,.lst r (Fs.map enF),.int x]=some nm:=by
 constructor
 .refine none_of λz=>?_
  rw [W_law_asked] at z
  revert z
  unfold a1t
  walk_at "vc"
  rw [a6g]
  walk_at "vc"
  rw [h.1]
  walk_at "v1"
  exact λz=>z.2
 .unfold a0y runX a2W
  rw [show a06 3 [.int 3,.lst r (Fs.map enF),.int x]=[.sh (.int 3),.sh (.lst r (Fs.map enF)),.sh (.int x)] from rfl,rsk (by rfl),rsk (by rfl),rsk (by rfl)]
  unfold rE
  rw [a2J (n:=2) (ds:=[.lst r (Fs.map enF),.lst false ((Fs.map λ_=>x).map D.int)]) (Wo.eq (by
   walk_at "vc"
   rw [a6g]
   walk_at "vc"
   rw [c0P]
   exact c02 ‹_› (by decide))) rfl,h.2]
  rfl
theorem b4v{Fs:List (List Row)}(h:∀F∈Fs,F.length<=900000)(h0:np Fs=0){ro:Bool}:a0v [.lst ro (Fs.map enF)]=some (.sh (.tup [])):=by
 refine Wo.eq (W_joined.mpr ?_)
 unfold a4P
 walk_at "v1"
 rw [show a0K [.lst ro (Fs.map enF)]=some (.sh (.tup [])) from Wo.eq (W_least_poured.mpr (by
  unfold a1A
  walk_at "v1"
  rw [b0M h h0]
  walk_at "vc"
  rw [b5S]
  walk_at "vc"))]
 walk_at "vc"
theorem b1m{Fs:List (List Row)}(h:∀F∈Fs,F.length<=900000)(hp:100<np Fs){ro:Bool}:a1a [.lst ro (Fs.map enF)]=none/\a1F [.lst ro (Fs.map enF)]=some ("TooMany":Str):=by
 have hm:=a6e h (ro:=ro)
 have hp':(100:Int)<(np Fs:Int):=by exact c4d.mpr ‹_›
 generalize hd:D.lst ro (Fs.map enF)=d at *
 constructor
 .refine none_of λz=>?_
  rw [W_picks] at z
  revert z
  unfold a5b
  walk_at "v1"
  rw [a10]
  walk_at "v1"
  rw [hm]
  walk_at "v1"
  exact λz=>by have:=z.1 hp';rw [a9b] at this;exact this
 .unfold a1F runX a92
  rw [show a06 5 [d]=[.sh d,.no,.no,.no,.no] from rfl]
  rw [a3l (x:=(_,_)) (by
   rw [b2e (Wo.eq (by
    walk_at "vc"
    rw [hm]
    walk_at "vc"
    simpa using hp'))]
   rfl)]
  rfl
theorem a7t{d:D}{nm:Str}(h:a1a [d]=none/\a1F [d]=some nm):a0v [d]=none/\a09 [d]=some nm:=by
 have q1:a0K [d]=none:=by
  refine none_of λz=>?_
  rw [W_least_poured] at z
  revert z
  unfold a1A
  walk_at "v1"
  rw [h.1]
  walk_at "v1"
 have q2:a1u [d]=some nm:=by
  unfold a1u runX a39 rE
  rw [show a06 1 [d]=[.sh d] from rfl,a2J (n:=1) (ds:=[d]) rfl rfl,h.2]
  rfl
 constructor
 .refine none_of λz=>?_
  rw [W_joined] at z
  revert z
  unfold a4P
  walk_at "v1"
  rw [q1]
  walk_at "v1"
 .unfold a09 runX b01 rE
  rw [show a06 1 [d]=[.sh d] from rfl,a2J (n:=1) (ds:=[d]) rfl rfl,q2]
  rfl
theorem b3U{d1 d2 d:D}(h:a0I [d1,d2]=some (.sh d)):a0N [d1,d2]=some (.sh d):=by
 refine Wo.eq (W_shares_at.mpr ?_)
 unfold a3r
 walk_at "v1"
 rw [h]
 walk_at "vc"
theorem a67{d1 d2:D}{nm:Str}(h:a0I [d1,d2]=none/\a0O [d1,d2]=some nm):a0N [d1,d2]=none/\a1P [d1,d2]=some nm:=by
 constructor
 .refine none_of λz=>?_
  rw [W_shares_at] at z
  revert z
  unfold a3r
  walk_at "v1"
  rw [h.1]
  walk_at "v1"
 .unfold a1P runX a6j rE
  rw [show a06 2 [d1,d2]=[.sh d1,.sh d2] from rfl,a2J (n:=2) (ds:=[d1,d2]) rfl rfl,h.2]
  rfl
theorem b97{d1 d2:D}{nm:Str}(h:a1a [d1]=none/\a1F [d1]=some nm):a0I [d1,d2]=none/\a0O [d1,d2]=some nm:=by
 constructor
 .refine none_of λz=>?_
  rw [W_best_dealt] at z
  revert z
  unfold a2H
  walk_at "v1"
  rw [h.1]
  walk_at "v1"
 .unfold a0O runX a3P
  rw [show a06 3 [d1,d2]=[.sh d1,.sh d2,.no] from rfl]
  rw [a3l (x:=(nm,[.sh d1,.sh d2,.no])) (by
   unfold rE
   rw [a2J (n:=1) (ds:=[d1]) rfl rfl,h.2]
   rfl)]
  rfl
theorem b3Q{d1 d2:D}(h:a0v [d1]=some (.sh (.tup []))):a1w [d1,d2]=some (.sh (.tup [])):=by
 refine Wo.eq (W_spared.mpr ?_)
 unfold a5y
 walk_at "v1"
 rw [h]
 walk_at "v1"
 rw [a10]
 walk_at "v1"
 rw [show gEqD (.tup []) (.tup [])=some (.sh (.bl true)) from rfl]
 walk_at "vc"
theorem b3R{d1 d2:D}{nm:Str}(h:a0v [d1]=none/\a09 [d1]=some nm):a1w [d1,d2]=none/\a2Q [d1,d2]=some nm:=by
 constructor
 .refine none_of λz=>?_
  rw [W_spared] at z
  revert z
  unfold a5y
  walk_at "v1"
  rw [h.1]
  walk_at "v1"
 .unfold a2Q runX b00
  rw [show a06 4 [d1,d2]=[.sh d1,.sh d2,.no,.no] from rfl]
  rw [a3l (x:=(nm,[.sh d1,.sh d2,.no,.no])) (by
   unfold rE
   rw [a2J (n:=1) (ds:=[d1]) rfl rfl,h.2]
   rfl)]
  rfl
section
variable {α:Type}{zn:List α}{fF fG:α->List Row}{fy:α->Int}(h:∀n∈zn,a05 [enF (fF n),.int (fy n)]=some (.sh (enF (fG n))))
include h
theorem a6h:a2K (gT 2 (a1U (gN 0) (a1U (gN 1) a6E))) a2d (a0h 2 a05 (a0b (eV 0) (a0b (eV 1) aNil))) (zipD ((zn.map fF).map enF) ((zn.map fy).map D.int)) [.no,.no]=some ((zn.map fG).map enF):=by
 rw [zip_rows,List.zip_map',c1h,a1q ((λp:List Row×Int=>D.tup [enF p.1,.int p.2])∘λn=>(fF n,fy n)) (λn=>enF (fG n)) (λe=>∃x y,e=[x,y]) zn (λn hn e he=>?_) ⟨_,_,rfl⟩,c1h]
 .rfl
 .obtain ⟨x,y,rfl⟩:=he
  show Wo (gT 2 _ (.tup [enF (fF n),.int (fy n)]) _) _
  walk_at "vc"
  rw [h n hn]
  walk_at "vc"
  exact ⟨_,_,rfl⟩
theorem b1V(hl:zn.length<=1000){d:D}(ej:a0v [.lst false ((zn.map fG).map enF)]=some (.sh d)){r r':Bool}:a0Q [.lst r ((zn.map fF).map enF),.lst r' ((zn.map fy).map D.int)]=some (.sh d):=by
 refine Wo.eq (W_standing.mpr ?_)
 unfold a33
 walk_at "v1"
 rw [a6h h]
 walk_at "v1"
 rw [ej]
 walk_at "vc"
 rw [zip_rows,c0P,c5f,c0P,c0P]
 omega
theorem b6o(hl:zn.length<=1000){nm:Str}(ej:a0v [.lst false ((zn.map fG).map enF)]=none/\a09 [.lst false ((zn.map fG).map enF)]=some nm){r r':Bool}:a0Q [.lst r ((zn.map fF).map enF),.lst r' ((zn.map fy).map D.int)]=none/\a17 [.lst r ((zn.map fF).map enF),.lst r' ((zn.map fy).map D.int)]=some nm:=by
 constructor
 .refine none_of λz=>?_
  rw [W_standing] at z
  revert z
  unfold a33
  walk_at "v1"
  rw [a6h h]
  walk_at "v1"
  rw [ej.1]
  walk_at "v1"
  exact λz=>z.2
 .unfold a17 runX a6Y rE
  rw [show a06 2 [.lst r ((zn.map fF).map enF),.lst r' ((zn.map fy).map D.int)]=[.sh (.lst r ((zn.map fF).map enF)),.sh (.lst r' ((zn.map fy).map D.int))] from rfl]
  rw [a2J (n:=1) (ds:=[.lst false ((zn.map fG).map enF)]) (Wo.eq (by
   walk_at "vc"
   rw [a6h h]
   walk_at "vc"
   rw [zip_rows,c0P,c5f,c0P,c0P]
   omega)) rfl,ej.2]
  rfl
end
theorem b23{F G:List Row}(FF:FV (10^60) (10^130) F)(hl:F.length<=1000)(cG:Canon G){y:Int}(hy:-(10^60)<=y/\y<=10^60)(hv:∀x c,Val G x c↔Val F x c/\y<=x):a05 [enF F,.int y]=some (.sh (enF G)):=by
 have aF:=FF.canon.asc
 obtain ⟨R,hR⟩:∃R:List Row,R=(F.filter λr=>decide (y<=r.2.1)).map λr=>cutR r (max y r.1) r.2.1:=⟨_,rfl⟩
 have mR:∀q∈R,∃r∈F,y<=r.2.1/\q=cutR r (max y r.1) r.2.1:=λq hq=>by
  rw [hR] at hq
  obtain ⟨r,hr,rfl⟩:=c1i.mp hq
  obtain ⟨h1,h2⟩:=c2Z.mp hr
  exact ⟨r,h1,of_decide_eq_true h2,rfl⟩
 have vR:∀x c,Val R x c↔Val F x c/\y<=x:=λx c=>by
  constructor
  .rintro ⟨q,hq,h1,h2,rfl⟩
   obtain ⟨r,hr,h3,rfl⟩:=mR q hq
   rw [cutR_at]
   unfold cutR at h1 h2
   dsimp only at h1 h2
   exact ⟨⟨r,hr,by omega,h2,rfl⟩,by omega⟩
  .rintro ⟨⟨r,hr,h1,h2,rfl⟩,h3⟩
   refine ⟨cutR r (max y r.1) r.2.1,?_,?_,h2,cutR_at.symm⟩
   .rw [hR]
    exact c1i.mpr ⟨r,c2Z.mpr ⟨hr,decide_eq_true (c1e ‹_› ‹_›)⟩,rfl⟩
   .unfold cutR
    dsimp only
    omega
 have aR:Asc R:=by
  refine ⟨λq hq=>?_,?_⟩
  .obtain ⟨r,hr,h3,rfl⟩:=mR q hq
   have:=aF.1 r hr
   unfold cutR
   dsimp only
   omega
  .rw [hR]
   refine c2e.mpr ((aF.2.filter _).imp λ{a b} z=>?_)
   unfold cutR
   dsimp only
   omega
 have bR:∀q∈R,BdRow (10^140) q:=λq hq=>by
  obtain ⟨r,hr,h3,rfl⟩:=mR q hq
  have h1:=aF.1 r hr
  have k:=FF.row (show (10:Int)^60<=10^140 by decide) (by decide) r hr
  have v:=FF.bd (max y r.1) (r.at (max y r.1)) ((a1D aF).mpr ⟨r,hr,Int.le_max_right _ _,by omega,rfl⟩)
  unfold BdRow at k ⊢
  unfold cutR
  dsimp only
  omega
 have lR:R.length<=1000:=by
  rw [hR,c0P]
  have:=List.length_filter_le (λr:Row=>decide (y<=r.2.1)) F
  exact c02 ‹_› ‹_›
 obtain ⟨fs,ef,L⟩:=b0O aR bR (c02 ‹_› (by decide)) (ro:=false)
 have u:fs=G:=a47 L.canon cG λx=>a9x L.canon.asc cG.asc λc=>by rw [L.val,vR,hv]
 subst u
 refine Wo.eq (W_from_on.mpr ?_)
 unfold a6p
 rw [show enF F=.tup (F.map Row.d) from rfl]
 walk_at "v1"
 rw [a6i Row.d (λr=>decide (y<=r.2.1)) (λr=>(cutR r (max y r.1) r.2.1).d) (λe=>∃x0,e=[x0,.sh (.int y)]) F (λr hr e he=>?_) ⟨_,rfl⟩]
 .walk_at "v1"
  rw [show (F.filter λr=>decide (y<=r.2.1)).map (λr=>(cutR r (max y r.1) r.2.1).d)=R.map Row.d by rw [hR,c1h];rfl,ef]
  walk_at "vc"
  exact ⟨by rw [c0P];exact c02 ‹_› (by decide),rfl⟩
 .obtain ⟨x0,rfl⟩:=he
  have h1:=aF.1 r hr
  have k:=FF.row (show (10:Int)^60<=10^140 by decide) (by decide) r hr
  unfold BdRow at k
  have ec:=b7x (r:=r) (lo:=max y r.1) (hi:=r.2.1) (by omega) (by omega) (by omega) (by omega)
  rw [a1l r] at ec ⊢
  walk_at "vc"
  rw [ec]
  walk_at "vc"
  exact ⟨_,rfl⟩
noncomputable def a3N(a p:Int)(n:Nat):List Row:=[(a+2*((n:Int)-1),a+2*((n:Int)-1),7+p*2*((n:Int)-1),0)]
theorem last_val{a p:Int}{n:Nat}{x c:Int}:Val (a3N a p n) x c↔x=a+2*((n:Int)-1)/\c=7+p*2*((n:Int)-1):=by
 unfold a3N
 constructor
 .rintro ⟨r,hr,h1,h2,rfl⟩
  rw [c0Q.mp hr] at h1 h2 ⊢
  dsimp only at h1 h2
  refine ⟨c2P ‹_› ‹_›,?_⟩
  unfold Row.at
  simp
 .rintro ⟨rfl,rfl⟩
  refine ⟨_,c0Q.mpr rfl,c0T _,c0T _,?_⟩
  unfold Row.at
  simp
theorem a42(a p:Int)(n:Nat):Canon (a3N a p n):=by
 refine ⟨λr hr=>?_,trivial⟩
 rw [c0Q.mp hr]
 exact ⟨c0T _,λ_=>rfl⟩
theorem b6X{a p:Int}{n:Nat}(ha:-(10^46)<=a/\a<=10^46)(hp:-(10^30)<=p/\p<=10^30)(hn:0<n/\n<=101):FV (10^60) (10^130) (a3N a p n):=by
 refine ⟨a42 a p n,λx v h=>?_⟩
 obtain ⟨rfl,rfl⟩:=last_val.mp ((a1D (a42 a p n).asc).mp h)
 have:=a9o hp (k:=n-1) (by omega)
 rw [show ((n-1:Nat):Int)=(n:Int)-1 by omega] at this
 omega
theorem b2S{a p:Int}{n:Nat}(ha:-(10^46)<=a/\a<=10^46)(hp:-(10^30)<=p/\p<=10^30)(hn:0<n/\n<=101):a05 [enF (selF a p n),.int (a+2*((n:Int)-1))]=some (.sh (enF (a3N a p n))):=by
 refine b23 (a6N ha hp hn.2) (by rw [a5P];omega) (a42 a p n) (by omega) λx c=>?_
 rw [last_val,sel_val]
 constructor
 .rintro ⟨rfl,rfl⟩
  exact ⟨⟨n-1,by omega,by omega,by rw [show ((n-1:Nat):Int)=(n:Int)-1 by omega]⟩,c0T _⟩
 .rintro ⟨⟨k,hk,rfl,rfl⟩,h⟩
  obtain rfl:k=n-1:=by omega
  rw [show ((n-1:Nat):Int)=(n:Int)-1 by omega]
  exact ⟨rfl,rfl⟩
theorem b0G{a p:Int}{n:Nat}(ha:-(10^46)<=a/\a<=10^46)(hp:-(10^30)<=p/\p<=10^30)(hn:n<=101){y:Int}(hy:-(10^60)<=y/\y<=a):a05 [enF (selF a p n),.int y]=some (.sh (enF (selF a p n))):=by
 have F:=a6N ha hp hn
 refine b23 F (by rw [a5P];exact c02 ‹_› (by decide)) F.canon (by omega) λx c=>?_
 constructor
 .intro h
  obtain ⟨k,hk,rfl,rfl⟩:=sel_val.mp h
  exact ⟨h,by omega⟩
 .exact λh=>h.1
theorem sh_last{a p:Int}:∀{zn:List Nat} {x c:Int},Sh (zn.map (a3N a p)) x c↔x=a*zn.length+2*((zn.sum:Int)-zn.length)/\c=7*zn.length+p*2*((zn.sum:Int)-zn.length)
 | [],x,c=>by
  show x=0/\c=0↔_
  simp
 | n::zn,x,c=>by
  have e1:a*((zn.length+1:Nat):Int)=a*zn.length+a:=by rw [c3A,c3m];simp
  have e2:p*2*(((n+zn.sum:Nat):Int)-((zn.length+1:Nat):Int))=p*2*((n:Int)-1)+p*2*((zn.sum:Int)-zn.length):=by
   rw [<-c3m]
   congr 1
   omega
  show (∃y cy z cz,Val (a3N a p n) y cy/\Sh (zn.map (a3N a p)) z cz/\y+z=x/\cy+cz=c)↔_
  rw [c1u,c1Q,e1,e2]
  constructor
  .rintro ⟨y,cy,z,cz,hv,hs,rfl,rfl⟩
   obtain ⟨rfl,rfl⟩:=last_val.mp hv
   obtain ⟨rfl,rfl⟩:=sh_last.mp hs
   omega
  .rintro ⟨rfl,rfl⟩
   exact ⟨_,_,_,_,last_val.mpr ⟨rfl,rfl⟩,sh_last.mpr ⟨rfl,rfl⟩,by omega,by omega⟩
theorem b8T{X C x c:Int}:Val [((X,X,C,0):Row)] x c↔x=X/\c=C:=by
 constructor
 .rintro ⟨r,hr,h1,h2,rfl⟩
  rw [c0Q.mp hr] at h1 h2 ⊢
  dsimp only at h1 h2
  refine ⟨c2P ‹_› ‹_›,?_⟩
  unfold Row.at
  simp
 .rintro ⟨rfl,rfl⟩
  refine ⟨_,c0Q.mpr rfl,c0T _,c0T _,?_⟩
  unfold Row.at
  simp
theorem b0h(X C:Int):Canon [((X,X,C,0):Row)]:=by
 refine ⟨λr hr=>?_,trivial⟩
 rw [c0Q.mp hr]
 exact ⟨c0T _,λ_=>rfl⟩
theorem b2r{a p:Int}:∀(zn:List Nat),np (zn.map (a3N a p))=1
 | []=>rfl
 | n::zn=>by rw [c1l,show a3N a p n::zn.map (a3N a p)=[a3N a p n]++zn.map (a3N a p) from rfl,a8v,b2r zn];rfl
theorem a9A{a p:Int}{zn:List Nat}(ha:-(10^46)<=a/\a<=10^46)(hp:-(10^30)<=p/\p<=10^30)(hz:∀n∈zn,0<n/\n<=101)(h6:zn.length<=6){ro:Bool}:a0v [.lst ro ((zn.map (a3N a p)).map enF)]=some (.sh (enF [(a*zn.length+2*((zn.sum:Int)-zn.length),a*zn.length+2*((zn.sum:Int)-zn.length),7*zn.length+p*2*((zn.sum:Int)-zn.length),0)])):=by
 have mem:∀F∈zn.map (a3N a p),∃n∈zn,a3N a p n=F:=λF h=>c1i.mp h
 obtain ⟨f,ef,cf,jf,_⟩:=a8Y (Fs:=zn.map (a3N a p)) (n:=100) (by rw [c0P];exact h6) (λF h=>by obtain ⟨n,hn,rfl⟩:=mem F h;exact b6X ha hp (hz n hn)) (λF h=>by obtain ⟨n,hn,rfl⟩:=mem F h;show 1<=900000;decide) (by rw [b2r];decide) (by decide) b9r (X:=a*zn.length+2*((zn.sum:Int)-zn.length)) (s:=1) (by decide) (λx c h=>⟨0,by decide,by rw [(sh_last.mp h).1];simp⟩) (ro:=ro)
 have u:f=[(a*zn.length+2*((zn.sum:Int)-zn.length),a*zn.length+2*((zn.sum:Int)-zn.length),7*zn.length+p*2*((zn.sum:Int)-zn.length),0)]:=a47 cf (b0h _ _) λx=>a9x cf.asc (b0h _ _).asc λc=>by
  rw [<-a1D cf.asc,jf,b8T]
  unfold Jn
  constructor
  .exact λh=>sh_last.mp h.1
  .intro h
   refine ⟨sh_last.mpr h,λc' h'=>?_⟩
   rw [h.2,(sh_last.mp h').2]
   exact c0T _
 rw [u] at ef
 exact ef
theorem a5v{a p:Int}{zn:List Nat}(hz:∀n∈zn,n<=101):∀F∈zn.map (selF a p),F.length<=900000:=λF h=>by
 obtain ⟨n,hn,rfl⟩:=c1i.mp h
 have:=hz n hn
 rw [a5P]
 exact c02 ‹_› (by decide)
theorem b28{a p y:Int}{zn:List Nat}(ha:-(10^46)<=a/\a<=10^46)(hp:-(10^30)<=p/\p<=10^30)(hz:∀n∈zn,n<=101)(h6:zn.length<=6)(hm:100<mulL zn)(hy:-(10^60)<=y/\y<=a){ro:Bool}{k:Nat}(hk:k<4):a0B [.int k,.lst ro ((zn.map (selF a p)).map enF),.int y]=some (.sh (.tup [.str "many",.non])):=by
 have hm':100<np (zn.map (selF a p)):=by rw [a8u];exact hm
 have P:=λro=>b1m (a5v (a:=a) (p:=p) hz) hm' (ro:=ro)
 have fin:∀{d0 d1 d2:D},a0z [d0,d1,d2]=none/\a0y [d0,d1,d2]=some ("TooMany":Str)->a0B [d0,d1,d2]=some (.sh (.tup [.str "many",.non])):=λh=>by
  have:=b1M h (.inr rfl)
  rw [if_pos rfl] at this
  exact this
 have:k=0\/k=1\/k=2\/k=3:=by omega
 rcases this with rfl | rfl | rfl | rfl
 .exact fin (ask0x (a7t (P ro)))
 .exact fin (b7E (a67 (b97 (P ro))))
 .exact fin (ask2x (b3R (a7t (P ro))))
 .refine fin (ask3x (by rw [c0P];exact c02 ‹_› (by decide)) ?_)
  have:=b6o (zn:=zn) (fF:=selF a p) (fG:=selF a p) (fy:=(λ_=>y)∘selF a p) (λn hn=>b0G ha hp (hz n hn) hy) (c02 ‹_› (by decide)) (a7t (P false)) (r:=ro) (r':=false)
  rw [<-c1h] at this
  exact this
theorem b29{a p:Int}{zn:List Nat}(ha:-(10^46)<=a/\a<=10^46)(hp:-(10^30)<=p/\p<=10^30)(hz:∀n∈zn,0<n/\n<=101)(h6:zn.length<=6){ro ro':Bool}:a0Q [.lst ro ((zn.map (selF a p)).map enF),.lst ro' ((zn.map λ(n:Nat)=>a+2*((n:Int)-1)).map D.int)]=some (.sh (enF [(a*zn.length+2*((zn.sum:Int)-zn.length),a*zn.length+2*((zn.sum:Int)-zn.length),7*zn.length+p*2*((zn.sum:Int)-zn.length),0)])):=
 b1V (λn hn=>b2S ha hp (hz n hn)) (c02 ‹_› (by decide)) (a9A ha hp hz h6)
theorem len_mul{a:Int}(ha:-(10^46)<=a/\a<=10^46){m:Nat}(hm:m<=6):-(10^47)<=a*m/\a*m<=10^47:=by
 have m1:a*(m:Int)<=10^46*m:=c2h (by omega) (c1L _)
 have m2:-(10^46)*(m:Int)<=a*m:=c2h (by omega) (c1L _)
 omega
abbrev Sml(i:Int):Prop:=-(10^61)<=i/\i<=10^61
theorem mcS{i j:Int}(hi:Sml i)(hj:Sml j):MulC i j:=a41 (c1e (by decide) hi.1) (c1e hi.2 (by decide)) (c1e (by decide) hj.1) (c1e hj.2 (by decide))
theorem b3S{n:Nat}(h:n<=1000):Sml n:=by omega
theorem sml_a{a:Int}(h:-(10^46)<=a/\a<=10^46):Sml a:=⟨c1e (by decide) h.1,c1e h.2 (by decide)⟩
theorem b8Q{a:Int}(h:-(10^30)<=a/\a<=10^30):Sml a:=⟨c1e (by decide) h.1,c1e h.2 (by decide)⟩
section
variable {a p:Int}{zn:List Nat}(ha:-(10^46)<=a/\a<=10^46)(hp:-(10^30)<=p/\p<=10^30)(hz:∀n∈zn,0<n/\n<=101)(h6:zn.length<=6)(hm:mulL zn<=100)
include ha hp hz h6 hm
theorem a5O{R:Nat}(hR:zn.sum=zn.length+R){x c:Int}:Sh (zn.map (selF a p)) x c↔∃k:Nat,k<=R/\x=a*zn.length+2*k/\c=7*zn.length+p*2*k:=by
 rw [b13 λn hn=>(hz n hn).1,hR]
 constructor
 .exact λ⟨k,h,q⟩=>⟨k,by omega,q⟩
 .exact λ⟨k,h,q⟩=>⟨k,by omega,q⟩
theorem b3V{x:Int}{ro:Bool}:(∀c,Sh (zn.map (selF a p)) x c->∃ys:List Int,a0B [.int 1,.lst ro ((zn.map (selF a p)).map enF),.int x]=some (.sh (.tup [.str "told",.lst false (ys.map D.int)]))/\ys.sum=x)/\((∀c,¬Sh (zn.map (selF a p)) x c)->a0B [.int 1,.lst ro ((zn.map (selF a p)).map enF),.int x]=some (.sh (.tup [.str "not",.non]))):=by
 have hpb:∀F∈zn.map (selF a p),∀r∈F,PB r:=λF h=>by
  obtain ⟨n,hn,rfl⟩:=c1i.mp h
  exact (a6N ha hp (hz n hn).2).pb
 have hlen:=a5v (a:=a) (p:=p) λn hn=>(hz n hn).2
 have hnp:np (zn.map (selF a p))<=100:=by rw [a8u];exact hm
 have hl:(zn.map (selF a p)).length<64:=by rw [c0P];exact c2i h6 (by decide)
 refine ⟨λc h=>?_,λh=>?_⟩
 .obtain ⟨R,_,ys,e,_,es,_⟩:=b7y hl hpb hlen hnp h (ro:=ro)
  exact ⟨ys,b1L (ask1 (b3U e)),es⟩
 .have:=b1M (b7E (a67 (a6W hl hpb hlen hnp h (ro:=ro)))) (.inl rfl)
  rw [if_neg (by decide)] at this
  exact this
theorem b17{R:Nat}(hR:zn.sum=zn.length+R)(hs:R<60){ro:Bool}:∃f:List Row,a0v [.lst ro ((zn.map (selF a p)).map enF)]=some (.sh (.tup (f.map Row.d)))/\FV (10^60) (10^130) f/\f.length<=60/\∀x c,look f x=some c↔Sh (zn.map (selF a p)) x c:=by
 have hw:∀x c,Sh (zn.map (selF a p)) x c->∃k:Nat,k<60/\x=a*zn.length+2*k:=λx c h=>by
  obtain ⟨k,hk,e,_⟩:=(a5O ha hp hz h6 hm hR).mp h
  exact ⟨k,c2i hk hs,e⟩
 obtain ⟨f,ef,cf,jf,_⟩:=a8Y (Fs:=zn.map (selF a p)) (by rw [c0P];exact h6) (λF h=>by
  obtain ⟨n,hn,rfl⟩:=c1i.mp h
  exact a6N ha hp (hz n hn).2) (a5v λn hn=>(hz n hn).2) (n:=100) (by rw [a8u];exact hm) (by decide) b9r (by decide) hw (ro:=ro)
 have lk:∀x c,look f x=some c↔Sh (zn.map (selF a p)) x c:=λx c=>by
  rw [jf]
  refine ⟨λh=>h.1,λh=>⟨h,λc' h'=>?_⟩⟩
  obtain ⟨k,_,e1,e2⟩:=(a5O ha hp hz h6 hm hR).mp h
  obtain ⟨j,_,e3,e4⟩:=(a5O ha hp hz h6 hm hR).mp h'
  obtain rfl:k=j:=by omega
  rw [e2,e4]
  exact c0T _
 refine ⟨f,ef,⟨cf,λx c h=>?_⟩,a90 (s:=2) (X:=a*zn.length) (by decide) cf.asc λx c h=>hw x c ((lk x c).mp ((a1D cf.asc).mpr h)),lk⟩
 obtain ⟨k,hk,rfl,rfl⟩:=(a5O ha hp hz h6 hm hR).mp ((lk x c).mp h)
 have h1:=a9o hp (k:=k) (by omega)
 have h2:=len_mul ha h6
 clear ha hp lk hw
 omega
theorem b7u{R:Nat}(hR:zn.sum=zn.length+R)(hs:R<60)(cells:List Int){ro ro':Bool}:a1j [.lst ro ((zn.map (selF a p)).map enF),.int a,.int p,.int R,.lst ro' (cells.map D.int)]=some (.sh (.bl true)):=by
 obtain ⟨f,ef,fv,lf,lk⟩:=b17 ha hp hz h6 hm hR hs (ro:=ro)
 have hsh:∀{x c:Int},Sh (zn.map (selF a p)) x c↔_:=a5O ha hp hz h6 hm hR
 have sl:=λx=>b3V ha hp hz h6 hm (x:=x) (ro:=ro)
 have hl0:((zn.map (selF a p)).map enF).length=zn.length:=by rw [c0P,c0P]
 have sN:Sml zn.length:=b3S (c02 h6 (by decide))
 have sR:Sml R:=b3S (by omega)
 have sA:=sml_a ha
 have sP:=b8Q hp
 have hA:=len_mul ha h6
 refine Wo.eq (W_law_line_good.mpr ?_)
 unfold a20
 walk_at "v1"
 rw [ef]
 walk_at "v1"
 rw [hl0]
 generalize hd:D.lst ro ((zn.map (selF a p)).map enF)=dF at *
 generalize hd2:D.lst ro' (cells.map D.int)=dC at *
 refine a28 D.int (λpre env=>∃x7 x8 x9 x10 x11,env=[.sh dF,.sh (.int a),.sh (.int p),.sh (.int R),.sh dC,.sh (.tup (f.map Row.d)),.sh (.int zn.length),x7,x8,x9,x10,x11]) cells (λpre c post env e hI=>?_) (λenv hI=>?_) ⟨_,_,_,_,_,rfl⟩
 .obtain ⟨x7,x8,x9,x10,x11,rfl⟩:=hI
  walk_at "v1"
  have hpos:(0:Int)<2*R+5:=by omega
  refine ⟨mcS (by decide) sR,hpos,mcS sA sN,?_⟩
  have g1:=c5b c (c4k hpos)
  have g2:=c4n c hpos
  generalize c%(2*(R:Int)+5)=mo at *
  obtain ⟨q,eq,g3,g4⟩:∃q:Int,mo-2=q /\ -2<=q/\q<2*R+3:=⟨_,rfl,by omega,by omega⟩
  rw [eq]
  clear eq g1 g2 hpos
  have ec:=b4W fv.canon.asc (c02 lf (by decide)) (fv.row (by decide) (by decide)) (x:=a*zn.length+q) (by clear ha hp sA sP sN sR;omega)
  rw [ec]
  walk_at "v1"
  have m2R:=mcS (i:=2) (by decide) sR
  by_cases hk:∃k:Nat,k<=R/\q=2*(k:Int)
  .obtain ⟨k,hk,rfl⟩:=hk
   have hS:Sh (zn.map (selF a p)) (a*zn.length+2*k) (7*zn.length+p*2*k):=hsh.mpr ⟨k,hk,rfl,rfl⟩
   obtain ⟨ys,et,es⟩:=(sl _).1 _ hS
   rw [et,(lk _ _).mpr hS]
   walk_at "v1"
   rw [a10]
   walk_at "v1"
   refine ⟨λh=>absurd h (by rw [Int.mul_emod_right];decide),λ_=>⟨λh=>absurd h (by contradiction),λ_=>⟨m2R,λh=>absurd h (by omega),λ_=>?_⟩⟩⟩
   refine a1Y ?_ ⟨_,_,_,_,_,rfl⟩
   dsimp only [encI]
   walk_at "vc"
   refine ⟨mcS (by decide) sN,mcS sP (by omega),?_⟩
   rw [show p*(2*(k:Int))=p*2*k by rw [Int.mul_assoc]]
   rw [show gNeD (.str "told") (.str "told")=some (.sh (.bl false)) from rfl]
   walk_at "vc"
   exact es
  .have hS:∀c,¬Sh (zn.map (selF a p)) (a*zn.length+q) c:=λc h=>by
    obtain ⟨k,h1,h2,_⟩:=hsh.mp h
    exact hk ⟨k,h1,Int.add_left_cancel h2⟩
   have hl:look f (a*zn.length+q)=none:=by
    cases e:look f (a*zn.length+q) with
    | none=>rfl
    | some c=>exact absurd ((lk _ _).mp e) (hS c)
   rw [(sl _).2 hS,hl]
   walk_at "v1"
   rw [a10]
   walk_at "v1"
   have pass:Wo (sIf (tOrF (tOf (eBin b4H (eV 10) (eC .non))) (tOf (eBin gNeD (eIx (bV 11) (eC (.int 0))) (eC (.str "not"))))) (sRet (eC (.bl false))) sNx [.sh dF,.sh (.int a),.sh (.int p),.sh (.int R),.sh dC,.sh (.tup (f.map Row.d)),.sh (.int zn.length),.sh (.int c),.sh (.int q),.sh (.int (a*zn.length+q)),.sh (encI none),.sh (.tup [.str "not",.non])]) (a63 (λenv=>∃x7 x8 x9 x10 x11,env=[.sh dF,.sh (.int a),.sh (.int p),.sh (.int R),.sh dC,.sh (.tup (f.map Row.d)),.sh (.int zn.length),x7,x8,x9,x10,x11]) (seqQ (sRet (eC (.bl true))) (endQ λx=>x=.sh (.bl true)))):=by
    refine a1Y ?_ ⟨_,_,_,_,_,rfl⟩
    dsimp only [encI]
    walk_at "vc"
    rw [show gNeD (.str "not") (.str "not")=some (.sh (.bl false)) from rfl]
    walk_at "vc"
   refine ⟨λ_=>pass,λh1=>⟨λ_=>pass,λh2=>⟨m2R,λ_=>pass,λh3=>absurd ⟨(q/2).toNat,by omega,by omega⟩ hk⟩⟩⟩
 .obtain ⟨x7,x8,x9,x10,x11,rfl⟩:=hI
  walk_at "vc"
end
noncomputable def tb:List (List Nat):=[[10,10],[5,5,4],[2,2,5,5],[101],[2,51],[5,5,5],[2,2,3,3,3],[40,40,40,40,40,40],[11,11,0]]
noncomputable def natD(zn:List Nat):List D:=zn.map λ(n:Nat)=>D.int n
theorem b9F(zn:List Nat):inD (.int 0) (natD zn)=some (zn.any λn=>n==0):=by
 have key:∀zn:List Nat,allS ((natD zn).map λd=>eqD 7 d (.int 0))=some (zn.map λn=>n==0):=λzn=>by
  induction zn with
  | nil=>rfl
  | cons n zn ih =>
   show (allS _).map _=_
   rw [show ((natD zn).map λd=>eqD 7 d (.int 0))=(zn.map λ(n:Nat)=>D.int n).map λd=>eqD 7 d (.int 0) from rfl] at ih
   rw [ih]
   show some (decide ((n:Int)=0)::_)=_
   congr 2
   by_cases h:n=0
   .subst h;rfl
   .rw [decide_eq_false (by omega)];simp [h]
 unfold inD
 rw [key]
 show some ((zn.map λn=>n==0).any id)=_
 rw [List.any_map]
 rfl
theorem b0r(zn:List Nat):natD zn=(zn.map λ(n:Nat)=>(n:Int)).map D.int:=by unfold natD;rw [c1h];rfl
theorem b0a(zn:List Nat):(zn.map λ(n:Nat)=>(n:Int)).sum=(zn.sum:Int):=by
 induction zn with
 | nil=>rfl
 | cons n zn ih=>rw [c1l,c1Q,c1Q,ih];omega
theorem b3P{a:Int}(zn:List Nat):(zn.map λ(n:Nat)=>a+2*((n:Int)-1)).sum=a*zn.length+2*((zn.sum:Int)-zn.length):=by
 induction zn with
 | nil=>simp
 | cons n zn ih =>
  have e1:a*((zn.length+1:Nat):Int)=a*zn.length+a:=by rw [c3A,c3m];simp
  rw [c1l,c1Q,c1Q,c1u,ih,e1]
  omega
theorem tb_ok:∀k:Nat,k<9->(∀n∈tb.getD k [],n<=101)/\(tb.getD k []).length<=6/\(k=8->tb.getD k []=[11,11,0])/\(k≠8->(∀n∈tb.getD k [],0<n)/\((tb.getD k []).any λn=>n==0)=false/\(tb.getD k []).sum<=1000)/\(k≠8->2<k->100<mulL (tb.getD k []))/\(k<=2->mulL (tb.getD k [])<=100/\(tb.getD k []).sum<60):=by decide
theorem b0q(zn:List Nat):(natD zn).length=zn.length:=by unfold natD;rw [c0P]
section
variable {a p:Int}{zn:List Nat}{dS dE:D}{hd:Int}(ha:-(10^46)<=a/\a<=10^46)(hp:-(10^30)<=p/\p<=10^30)(z1:∀n∈zn,n<=101)(z2:zn.length<=6)
include ha hp z1
theorem b2T:a2K (gN 0) a2d (a0h 3 a1x (a0b (eV 1) (a0b (eV 2) (a0b (eV 0) aNil)))) (natD zn) [.no,.sh (.int a),.sh (.int p)]=some ((zn.map (selF a p)).map enF):=by
 unfold natD
 rw [c1h]
 refine a1q (λ(n:Nat)=>D.int n) _ (λe=>∃x,e=[x,.sh (.int a),.sh (.int p)]) zn (λn hn e he=>?_) ⟨_,rfl⟩
 obtain ⟨x,rfl⟩:=he
 walk_at "vc"
 rw [b4U ha hp (z1 n hn)]
 walk_at "vc"
 exact ⟨⟨_,rfl⟩,rfl⟩
omit hp in
theorem b4K:a2K (gN 0) a2d (eBin gAdd (eV 1) (eBin gMul (eC (.int 2)) (eBin gSub (eV 0) (eC (.int 1))))) (natD zn) [.no,.sh (.int a)]=some ((zn.map λ(n:Nat)=>a+2*((n:Int)-1)).map D.int):=by
 unfold natD
 rw [c1h]
 refine a1q (λ(n:Nat)=>D.int n) _ (λe=>∃x,e=[x,.sh (.int a)]) zn (λn hn e he=>?_) ⟨_,rfl⟩
 obtain ⟨x,rfl⟩:=he
 have h1:=z1 n hn
 clear ha
 walk_at "vc"
 exact ⟨⟨_,rfl⟩,mcS (by decide) (by omega),rfl⟩
end
theorem fin(ns:List Int)(hns:ns.length<=63):a7c [.lst true (ns.map D.int)]=some (.sh (.bl true)):=by
 refine Wo.eq (W_law.mpr ?_)
 unfold b8A
 walk_at "v1"
 rw [a7F _ _ (by decide)]
 walk_at "v1"
 rw [a7F _ _ (by decide)]
 walk_at "v1"
 rw [a7F _ _ (by decide)]
 walk_at "v1"
 refine ⟨by decide,by decide,by decide,by decide,by decide,by decide,by decide,by decide,?_⟩
 rw [b5j]
 refine ⟨by decide,?_⟩
 obtain ⟨a,ea,ha⟩:∃a,ns.getD 1 0%10^46-5*10^45=a /\ -(10^46)<=a/\a<=10^46:=⟨_,rfl,by lia,by lia⟩
 obtain ⟨p,ep,hp⟩:∃p,ns.getD 2 0%10^30-5*10^29=p /\ -(10^30)<=p/\p<=10^30:=⟨_,rfl,by lia,by lia⟩
 rw [ea,ep]
 generalize ns.getD 0 0=hd
 clear ea ep
 obtain ⟨k0,hk0,hk9⟩:∃k:Nat,hd%9=k/\k<9:=⟨(hd%9).toNat,by lia,by lia⟩
 obtain ⟨z1,z2,z3,z4,z5,z6⟩:=tb_ok k0 hk9
 show Wo (atI (tb.map λzn=>D.lst false (natD zn)) (hd%9)) _
 rw [hk0,b0Y [] (c1L _) (c4d.mpr hk9)]
 show Wo (some (D.lst false (natD (tb.getD k0 [])))) _
 generalize tb.getD k0 []=zn at *
 walk_at "v1"
 rw [b0q]
 have hl0:zn.length<=16777216:=c02 z2 (by decide)
 refine ⟨hl0,?_⟩
 rw [b2T ha hp z1]
 walk_at "v1"
 show Wo (sIf _ _ _ [.sh (.lst true (ns.map D.int)),.sh (.int hd),.sh (.int a),.sh (.int p),.sh (.lst false (tb.map λzn=>D.lst false (natD zn))),.sh (.lst false (natD zn)),.sh (.lst false ((zn.map (selF a p)).map enF)),.no,.no,.no,.no]) _
 have lE:(tb.map λzn=>D.lst false (natD zn)).length=9:=rfl
 generalize (tb.map λzn=>D.lst false (natD zn))=dE at *
 have hln:=a5v (a:=a) (p:=p) z1
 have hany:tOf (eBin gIn (eC (.int 0)) (eV 5)) [.sh (.lst true (ns.map D.int)),.sh (.int hd),.sh (.int a),.sh (.int p),.sh (.lst false dE),.sh (.lst false (natD zn)),.sh (.lst false ((zn.map (selF a p)).map enF)),.no,.no,.no,.no]=some (zn.any λn=>n==0):=Wo.eq (by
  walk_at "v1"
  rw [b9F]
  walk_at "v1")
 by_cases h8:k0=8
 .obtain rfl:=z3 h8
  have j0:=b4v hln (by rw [a8u];rfl) (ro:=false)
  have t0:=b1L (ask0 j0 (d2:=.int 0))
  have sp:=λd=>b3Q (d2:=d) j0
  have t3:=b1L (ask3 (Fs:=[11,11,0].map (selF a p)) (x:=a) (by rw [c0P];decide) (b1V (zn:=[11,11,0]) (fF:=selF a p) (fG:=selF a p) (fy:=(λ_=>a)∘selF a p) (λn hn=>b0G ha hp (z1 n hn) ⟨c1e (by decide) ha.1,c0T _⟩) (by decide) j0 (r:=false) (r':=false)))
  have t1:=b1M (b7E (a67 (a6W (Fs:=[11,11,0].map (selF a p)) (x:=a) (by rw [c0P];decide) (λF h=>by
   obtain ⟨n,hn,rfl⟩:=c1i.mp h
   exact (a6N ha hp (z1 n hn)).pb) hln (by rw [a8u];decide) (λc h=>by
   obtain ⟨_,_,_,_,_,⟨_,_,_,_,_,⟨_,_,_,_,hv,_⟩,_⟩,_⟩:=h
   obtain ⟨k,hk,_⟩:=sel_val.mp hv
   lia) (ro:=false)))) (.inl rfl)
  rw [if_neg (by decide)] at t1
  generalize hF:D.lst false (([11,11,0].map (selF a p)).map enF)=dF at *
  rw [a10,hany]
  walk_at "v1"
  refine ⟨λ_=>?_,λh=>absurd h (by decide)⟩
  refine a1Y ?_ ?_
  .walk_at "v1"
   rw [t0]
   walk_at "v1"
   rw [show gNeD (.tup [.str "told",.tup []]) (.tup [.str "told",.tup []])=some (.sh (.bl false)) from rfl]
   walk_at "v1"
   rw [show a2K (gN 0) a2d (eBin gEqD (a0h 2 a1w (a0b (eV 1) (a0b (eV 0) aNil))) (eTup aNil)) (rngD 0 3) [.no,.sh dF]=some [.bl true,.bl true,.bl true] from
    a1q (λ(k:Nat)=>D.int (0+(k:Int))) (λ(k:Nat)=>D.bl true) (λe=>∃x,e=[x,.sh dF]) (c1n 3) (λk hk e he=>by
     obtain ⟨x,rfl⟩:=he
     walk_at "vc"
     rw [sp]
     walk_at "vc"
     rw [show gEqD (.tup []) (.tup [])=some (.sh (.bl true)) from rfl]
     walk_at "vc"
     exact ⟨_,rfl⟩) ⟨_,rfl⟩]
   walk_at "vc"
   exact ⟨by decide,by decide⟩
  rw [a2e]
  walk_at "v1"
  rw [t3]
  walk_at "v1"
  rw [t1]
  walk_at "v1"
  rw [show gEqD (.tup [.str "told",.tup []]) (.tup [.str "told",.tup []])=some (.sh (.bl true)) from rfl]
  walk_at "v1"
  exact ⟨_,rfl,rfl⟩
 .obtain ⟨z7,z8,z9⟩:=z4 h8
  have sN:Sml zn.length:=b3S (c02 z2 (by decide))
  have hls:=a9z z7
  obtain ⟨R,hR⟩:∃R:Nat,zn.sum=zn.length+R:=⟨zn.sum-zn.length,by lia⟩
  have hRi:(zn.sum:Int)-zn.length=R:=by lia
  rw [z8] at hany
  refine a1Y (by rw [hany,a0g]) ?_
  rw [a2e]
  by_cases h2:2<k0
  .rw [Wo_seq,a10]
   walk_at "v1"
   rw [lE]
   walk_at "v1"
   refine ⟨λ_=>⟨by decide,by decide,?_⟩,λh=>absurd (show (2:Int)<hd%9 by lia) h⟩
   have hmd:0<=hd%10^9/\hd%10^9<10^9:=⟨c5b _ (by decide),c4n _ (by decide)⟩
   generalize hd%10^9=md at *
   have tm:=λ(k:Nat) (hk:k<4)=>b28 ha hp z1 z2 (z5 h8 h2) (y:=a-1-md) (by lia) (ro:=false) hk
   have st:=b29 ha hp (λn hn=>⟨z7 n hn,z1 n hn⟩) z2 (ro:=false) (ro':=false)
   generalize hF:D.lst false ((zn.map (selF a p)).map enF)=dF at *
   refine a1Y ?_ ?_
   .walk_at "v1"
    rw [show a2K (gN 0) a2d (eBin gEqD (eIx (bOf (a0h 3 a0B (a0b (eV 0) (a0b (eV 1) (a0b (eV 2) aNil))))) (eC (.int 0))) (eC (.str "many"))) (rngD 0 4) [.no,.sh dF,.sh (.int (a-1-md))]=some [.bl true,.bl true,.bl true,.bl true] from
     a1q (λ(k:Nat)=>D.int (0+(k:Int))) (λ(k:Nat)=>D.bl true) (λe=>∃x,e=[x,.sh dF,.sh (.int (a-1-md))]) (c1n 4) (λk hk e he=>by
      obtain ⟨x,rfl⟩:=he
      walk_at "vc"
      rw [c3S,tm k (c1x.mp hk)]
      walk_at "vc"
      rw [show gEqD (.str "many") (.str "many")=some (.sh (.bl true)) from rfl]
      walk_at "vc"
      exact ⟨_,rfl⟩) ⟨_,rfl⟩]
    walk_at "vc"
    exact ⟨by decide,by decide⟩
   rw [a2e]
   walk_at "v1"
   rw [b0q]
   refine ⟨hl0,?_⟩
   rw [b4K ha z1,a0g,a2G,a0g,a0g,b0r,a2G,a0g,b0a,b3P,hRi]
   have sP:=b8Q hp
   refine ⟨mcS (by decide) sN,mcS sP (by decide),mcS (by clear z9 hRi hls hmd hk9;lia) (b3S (by lia)),?_⟩
   rw [hRi] at st
   rw [st,a0g]
   show Wo (gEqD (.tup ([((_,_,_,0):Row)].map Row.d)) (.tup ([((_,_,_,0):Row)].map Row.d))) _
   rw [b4Q,a0g]
   simp
  .walk_at "v1"
   refine a1Y ?_ ?_
   .walk_at "v1"
    rw [lE]
    walk_at "vc"
    lia
   rw [a2e]
   walk_at "v1"
   rw [b0r,a2G,a0g,b0a,c0P,c0P,a7H,hRi]
   rw [show [D.int 0]++(cutL ns (some 3) (some 12)).map D.int=(0::cutL ns (some 3) (some 12)).map D.int from rfl,b7u ha hp (λn hn=>⟨z7 n hn,z1 n hn⟩) z2 (z6 (c3j h2)).1 hR (by have:=(z6 (c3j h2)).2;lia),a0g]
   refine ⟨?_,rfl⟩
   rw [c0P]
   have:=b4Z ns (some 3) (some 12)
   lia
end My
namespace PySem.W.Fast
theorem tw18100875031411268696:True:=trivial
theorem tw16568504677021252719:True:=trivial
theorem tw14025833272844423765:True:=trivial
theorem tw18429055092969083370:True:=trivial
theorem tw1252697295881078345:True:=trivial
theorem tw4804869924061277356:True:=trivial
theorem tw15343265647068313169:True:=trivial
theorem tw18116313515548995513:True:=trivial
theorem tw5655518752117786368:True:=trivial
theorem tw10202166255759628521:True:=trivial
theorem tw14151213506945679802:True:=trivial
theorem tw11831494740666497516:True:=trivial
theorem tw5964082534825634491:True:=trivial
theorem tw3445850696158451910:True:=trivial
theorem tw2924933707097886631:True:=trivial
theorem tw171549307806977561:True:=trivial
theorem tw14013255025436133589:True:=trivial
theorem tw6047288155904351416:True:=trivial
theorem tw12619557211624747756:True:=trivial
theorem tw7577368759468349822:True:=trivial
theorem tw6079735651924704231:True:=trivial
theorem tw14433522258100697049:True:=trivial
theorem tw3642490272674051590:True:=trivial
theorem tw14266610159094047131:True:=trivial
theorem tw15056176988095673345:True:=trivial
theorem tw7278892642113850908:True:=trivial
theorem tw4517442773557558178:True:=trivial
theorem tw13296549026834585341:True:=trivial
theorem tw9794033997835992488:True:=trivial
theorem tw17199671593084379317:True:=trivial
theorem tw12032782075447079130:True:=trivial
theorem tw2980227824406735962:True:=trivial
theorem tw16039536560236170841:True:=trivial
theorem tw2002453277114358708:True:=trivial
theorem tw14628740291800189498:True:=trivial
theorem tw15371387244290450591:True:=trivial
theorem tw16363147328100291967:True:=trivial
theorem tw12240878240630863330:True:=trivial
theorem tw10851658406474425665:True:=trivial
theorem tw12991680934991062131:True:=trivial
theorem tw11190121430152703726:True:=trivial
theorem tw12519755477592377341:True:=trivial
theorem tw2759341110897208381:True:=trivial
theorem tw1215821762278540218:True:=trivial
theorem tw18352946782784083313:True:=trivial
theorem tw15169256993501595708:True:=trivial
theorem tw3336259134814567163:True:=trivial
theorem tw17316894945287221945:True:=trivial
theorem tw928904474679476784:True:=trivial
theorem tw11979274776203152213:True:=trivial
theorem tw2755484915146652020:True:=trivial
theorem tw4964466955930043273:True:=trivial
theorem tw11006247058450221625:True:=trivial
theorem tw4460114002799886544:True:=trivial
theorem tw6675788286132084154:True:=trivial
theorem tw5338559180202634633:True:=trivial
theorem tw588688611436399505:True:=trivial
theorem tw16919291648671065038:True:=trivial
theorem tw16351963620310700605:True:=trivial
theorem tw4317879680532057080:True:=trivial
theorem tw14898214365536085133:True:=trivial
theorem tw5016885796739468923:True:=trivial
theorem tw17331763940756215139:True:=trivial
theorem tw16140635973797772636:True:=trivial
theorem tw11893165131916362222:True:=trivial
theorem tw8707598489441436524:True:=trivial
theorem tw3137188559800286105:True:=trivial
theorem tw13616319139039561691:True:=trivial
theorem tw8055943180513549807:True:=trivial
theorem tw13042955437588737669:True:=trivial
theorem tw13916103811129460462:True:=trivial
theorem tw7738554344532881855:True:=trivial
theorem tw16710632116329653081:True:=trivial
theorem tw18149510223852245111:True:=trivial
theorem tw15570658986069084660:True:=trivial
theorem tw839437401688453294:True:=trivial
theorem tw10558922694407462096:True:=trivial
theorem tw16267584383823643235:True:=trivial
theorem tw12093636552566992533:True:=trivial
theorem tw16525011326375555059:True:=trivial
theorem tw12492974469167242536:True:=trivial
theorem tw1736962268185541361:True:=trivial
theorem tw12559410039577671032:True:=trivial
theorem tw11182375440002137218:True:=trivial
end PySem.W.Fast
open PySem PySem.W PyProof.Rows
set_option maxRecDepth 100000 in
set_option maxHeartbeats 0 in
theorem PySem.Challenge.cw_offerhouse_k60_too_many_choices_holds : PySem.Challenge.rw_offerhouse_k60_too_many_choices.Holds := by
  w_on; o_law; k_head; (case hw => w_witness2)
  k_fill
  refine DL.walkD (l := PySem.Challenge.rw_offerhouse_k60_too_many_choices) (k := 21) ⟨rfl, by decide, by decide⟩ rfl rfl (fun w h Y => ⟨PySem.W.km_in_of Y, PySem.W.km_tabs_of Y⟩) (fun w => by kernel_rfl) ?F
  case F =>
    intro w mg fa h KX G hmg
    refine' My.all_mk (cT := 263) (pT := 261) KX G hmg ?i1 ?i2 ?i3 ?i4 ?i5 ?i6 ?i7 ?i8 ?i9 ?i10 ?i11 ?i12 ?i13 ?i14 ?i15 ?i16 ?i17 ?i18 ?i19 ?i20 ?i21 ?i22 ?i23 ?i24 ?i25 ?i26 ?i27 ?i28 ?i29 ?i30 ?i31 ?i32 ?i33 ?i34 ?i35 ?i36 ?i37 ?i38 ?i39 ?i40 ?i41 ?i42 ?i43 ?i44 ?zmax ?zmin ?ztuple ?zlen ?zsorted ?zsum ?zMOST_PICKS ?zzip ?zrange ?zenumerate ?zisinstance ?zValueError ?zall ?n_NotOffered ?g1_NotOffered ?g2_NotOffered ?g3_NotOffered ?g6_NotOffered ?g8_NotOffered ?g7_NotOffered ?n_OfferError ?g1_OfferError ?g2_OfferError ?g3_OfferError ?g6_OfferError ?g8_OfferError ?g7_OfferError ?n_TooMany ?g1_TooMany ?g2_TooMany ?g3_TooMany ?g6_TooMany ?g8_TooMany ?g7_TooMany ?g4 ?g5 ?e_NotOffered_OfferError ?e_TooMany_OfferError ?s_NotOffered_NotOffered ?s_NotOffered_TooMany ?s_TooMany_NotOffered ?s_TooMany_TooMany ?v_NotOffered_ValueError ?v_TooMany_ValueError ?x1_NotOffered ?x2_NotOffered ?x3_NotOffered ?x4_NotOffered ?x1_TooMany ?x2_TooMany ?x3_TooMany ?x4_TooMany ?hT ?hC ?fin
    (case i1 => constructor <;> k_is)
    (case i2 => constructor <;> k_is)
    (case i3 => constructor <;> k_is)
    (case i4 => constructor <;> k_is)
    (case i5 => constructor <;> k_is)
    (case i6 => constructor <;> k_is)
    (case i7 => constructor <;> k_is)
    (case i8 => constructor <;> k_is)
    (case i9 => constructor <;> k_is)
    (case i10 => constructor <;> k_is)
    (case i11 => constructor <;> k_is)
    (case i12 => constructor <;> k_is)
    (case i13 => constructor <;> k_is)
    (case i14 => constructor <;> k_is)
    (case i15 => constructor <;> k_is)
    (case i16 => constructor <;> k_is)
    (case i17 => constructor <;> k_is)
    (case i18 => constructor <;> k_is)
    (case i19 => constructor <;> k_is)
    (case i20 => constructor <;> k_is)
    (case i21 => constructor <;> k_is)
    (case i22 => constructor <;> k_is)
    (case i23 => constructor <;> k_is)
    (case i24 => constructor <;> k_is)
    (case i25 => constructor <;> k_is)
    (case i26 => constructor <;> k_is)
    (case i27 => constructor <;> k_is)
    (case i28 => constructor <;> k_is)
    (case i29 => constructor <;> k_is)
    (case i30 => constructor <;> k_is)
    (case i31 => constructor <;> k_is)
    (case i32 => constructor <;> k_is)
    (case i33 => constructor <;> k_is)
    (case i34 => constructor <;> k_is)
    (case i35 => constructor <;> k_is)
    (case i36 => constructor <;> k_is)
    (case i37 => constructor <;> k_is)
    (case i38 => constructor <;> k_is)
    (case i39 => constructor <;> k_is)
    (case i40 => constructor <;> k_is)
    (case i41 => constructor <;> k_is)
    (case i42 => constructor <;> k_is)
    (case i43 => constructor <;> k_is)
    (case i44 => constructor <;> k_is)
    (case zmax => k_is)
    (case zmin => k_is)
    (case ztuple => k_is)
    (case zlen => k_is)
    (case zsorted => k_is)
    (case zsum => k_is)
    (case zMOST_PICKS => exact ⟨_, by k_is⟩)
    (case zzip => k_is)
    (case zrange => k_is)
    (case zenumerate => k_is)
    (case zisinstance => k_is)
    (case zValueError => k_is)
    (case zall => k_is)
    (case n_NotOffered => k_is)
    (case g1_NotOffered => k_is)
    (case g2_NotOffered => k_is)
    (case g3_NotOffered => k_is)
    (case g6_NotOffered => k_is)
    (case g8_NotOffered => k_is)
    (case g7_NotOffered => kernel_rfl)
    (case n_OfferError => k_is)
    (case g1_OfferError => k_is)
    (case g2_OfferError => k_is)
    (case g3_OfferError => k_is)
    (case g6_OfferError => k_is)
    (case g8_OfferError => k_is)
    (case g7_OfferError => kernel_rfl)
    (case n_TooMany => k_is)
    (case g1_TooMany => k_is)
    (case g2_TooMany => k_is)
    (case g3_TooMany => k_is)
    (case g6_TooMany => k_is)
    (case g8_TooMany => k_is)
    (case g7_TooMany => kernel_rfl)
    (case g4 => k_is)
    (case g5 => k_is)
    (case e_NotOffered_OfferError => kernel_rfl)
    (case e_TooMany_OfferError => kernel_rfl)
    (case s_NotOffered_NotOffered => kernel_rfl)
    (case s_NotOffered_TooMany => kernel_rfl)
    (case s_TooMany_NotOffered => kernel_rfl)
    (case s_TooMany_TooMany => kernel_rfl)
    (case v_NotOffered_ValueError => kernel_rfl)
    (case v_TooMany_ValueError => kernel_rfl)
    (case x1_NotOffered => k_is)
    (case x2_NotOffered => kernel_rfl)
    (case x3_NotOffered => k_is)
    (case x4_NotOffered => kernel_rfl)
    (case x1_TooMany => k_is)
    (case x2_TooMany => kernel_rfl)
    (case x3_TooMany => k_is)
    (case x4_TooMany => kernel_rfl)
    (case hT => kernel_rfl)
    (case hC => kernel_rfl)
    (case fin => exact My.fin)
