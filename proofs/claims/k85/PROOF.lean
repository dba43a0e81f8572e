import PyProof.Rows.All
import Wide.All
import OpenK.AllK
import Wide.FinOn
import Lean
import PyProof.EqAt
import PyProof.EqKinds
import PyProof.TupleCall
import PySem.Challenge.RW_offerhouse_k85_books_written
set_option Elab.async false
set_option linter.all false
set_option maxRecDepth 100000
open And renaming intro->c5r
open Array renaming length_toList->Cq,getElem?_eq_getElem->LH,perm_iff_toList_perm->RV,getElem?_toList->R8,getD->FA,append_assoc->RH,getElem_toList->Xp,getD_eq_getD_getElem?->c4Y,toList_inj->W4,toList_push->c6w
open Array.Perm renaming refl->Pm
open Bool renaming false_ne_true->DG,and_eq_true->FC,noConfusion->Ke,false_eq_true->Lv,eq_iff_iff->RK,not_eq_true->W3
open Classical renaming not_not->c6y
open False renaming elim->zp
open ForInStep renaming yield->J'
open Iff renaming rfl->mj
open Int renaming toNat_natCast->Lr,mul_nonneg->LC,mul_le_mul->LB,emod_lt_of_pos->RB,le_refl->J7,emod_nonneg->RQ
open List renaming length_map->c6,getElem?_eq_getElem->md,getElem?_set_ne->ml,mem_cons_of_mem->nT,size_toArray->jM,length_append->ma,map_cons->fH,length_cons->lI,mem_cons_self->pd,getElem?_set_self->wG,mem_cons->js,getElem?_eq_some_iff->z9,getElem?_map->zq,mem_singleton->AL,mem_append->zK,range->nR,getElem_mem->AH,replicate->zJ,mem_append_right->DH,map_append->Ak,set_cons_zero->Cp,lookup_cons->Be,length_singleton->E1,set_cons_succ->DF,not_mem_nil->DD,length_zip->Dd,mem_append_left->Hg,map_map->Bh,getElem?_eq_none->Ii,mem_map->BW,append_nil->E4,map_nil->Cr,mem_range->E3,getElem?_replicate->LG,zip_cons_cons->Ih,mem_iff_getElem->LI,append_assoc->Ly,getD_eq_getElem?_getD->RU,cons_append->Lw,pairwise_cons->Lu,lookup->EZ,drop_eq_getElem_cons->RS,find?_cons->Kb,length_range->Lq,length_eq_zero_iff->Sg,countP_cons_of_pos->Sf,length_replicate->Sb,getElem?_toArray->RZ,foldl_cons->Lz,eq_nil_or_concat->RY,concat_eq_append->RX,map->Co,getElem?_append_right->Xy,getElem?_append->Sj,getElem?_append_left->Xx,length_take->PK,filterMap_cons->RI,zipWith->J4,nodup_cons->Po,pairwise_singleton->Xf,countP_cons_of_neg->Xe,nil_append->RA,reverse_cons->RP,pairwise_map->RN,length_tail->RM,mem_of_getElem?->Xq,map_eq_cons_iff->Xo,length_eraseIdx_of_lt->c44,getElem?_eq_none_iff->c5a,pairwise_iff_getElem->c5c,getElem?_set->WX,filterMap_cons_some->c5o,length->Pj,any_cons->Rr,getElem?_cons_succ->c5H,getElem?_cons_zero->c5I,getElem_inj->W',length_drop->W8,all_eq_true->W6,any_eq_true->W5,drop_eq_nil_of_le->c5U,take_of_length_le->c5W,of_mem_zip->Xc,length_nil->Xa,dropLast_eq_take->c54,getElem?_zipWith->c56,mem_iff_getElem?->c57,take_append_drop->c6a,countP_le_length->c6c,pairwise_append->c6d,length_zipWith->c6h,getElem?_range->c6i,mem_filterMap->c6m,Pairwise->WB,toArray->WO
open List.Pairwise renaming nil->PB
open List.Perm renaming refl->Kg,swap->c6P
open Nat renaming le_refl->dF,ne_of_lt->g0,lt_of_lt_of_le->Am,le_trans->tu,lt_succ_self->AI,lt_succ_of_lt->DE,lt_irrefl->E6,zero_le->De,le_succ->He,lt_trans->Ic,ne_of_gt->J5,lt_of_le_of_lt->RD,le_of_lt->Lo,not_lt_zero->RJ,eq_zero_or_pos->Xv,succ_lt_succ->W2,lt_or_ge->Rz,le_of_eq->WS
open Ne renaming symm->wF
open Option renaming map_eq_some_iff->LJ,bind_some->LA,isSome_iff_exists->Xl,isSome_map->WY,getD_none->W7
open Option.some renaming injEq->lJ,inj->lH
open Or renaming inr->cO,inl->dY
open PyProof.Rows renaming slot_tuple_getitem->Sk,callWith_type1->RW,mirror_perm->HY,wpS_bind->Hd,wpS_pure->HX
open PyProof.Rows.F renaming plain_set_update_loop->Xg,entry_set_update_loop->c5D
open PyProof.Rows.SortSt renaming mk'->WI
open PySem renaming wpAny_bind->aY,wpAny_pure->cE,strLen_append->pC,sizeLine_eq->yJ,wpAny_newObj_type->FD,wpAny_mono->z8,wpAny_holding->DJ,wpAny_truthy_bool->Ik,wpAny_call_entry->Ij,mem_of_lookup->Lx,codeAny_builtin->H9,wpAny_setField_rec->Ls,wpAny_passesOwn->Kc,call_isinstance->Ka,fits_of_scanBound->Lp,KeyKind->Ig,wpAny_callSpecial?_slot->Si,wpAny_setEntries_of->PH,codeAny_mono->Ie,wpAny_setState_of->PL,plainId_quiet->Kj,wpAny_askSetting->Pp,wpAny_Call_Name_kw->RG,tupleKind_room_in1->RC,wpAny_ite_split->Pl,wpAny_pyIter_list->RO,wpAny_of_eq->J6,builtinLookup_eq_fast->Xs,strKind->Pt,wpAny_execs_nil->RL,wpAny_typeOf->Px,wpAny_fieldsOf->Rw,wpAny_assign_Name->WZ,call_meets->Lj,wpAny_pyIter_slot->WT,wpAny_standAt->Rv,intBits_le_64->Ru,Builtin->c5z,wpAny_attempt->Ry,noFill_tuple_add->W9,typeLookup_type->WH,boot_len->WG,entryFor_alias->WE,seq_tuple_add->WC,wpAny_load->Rp,typeIs_str->Ro,wpAny_rule->Rj,Within->WA,call->WK
open PySem.Around renaming under_plainId->Kk,under->WR
open PySem.Builtin.Dict renaming updateFrom->c5E
open PySem.Builtin.Int renaming intBits->c6g
open PySem.Builtin.List renaming listTooLong->Xj,listLengthHint->c4Z,listExtendWith->c40,listSameRef->c5p,listItems->c5V
open PySem.Builtin.Range renaming rangeSize->c5u
open PySem.Builtin.Slice renaming slicePlaces->RT,sliceAdjust->Xw,sliceApplied->c43
open PySem.Builtin.Str renaming occurrences->c5w
open PySem.Builtin.Tuple renaming tupleExact->RR
open PySem.Calls renaming callWith_builtin->Se,Name_function_global->c42
open PySem.Code renaming isFrame->WQ
open PySem.Data renaming fields->WM
open PySem.Env renaming kindOf->Rn
open PySem.F renaming plainAttrs_list->LF,called_set->Ib,args_tuple_add_2->Xk,slot_list_getattribute->Xi,entry_tuple_add->Xh,slot_tuple_add->Xd,slot_list_append->Xt,slot_dict_itemiterator_iter->c4M,slot_list_pop->Xm,type_list_append->c5k,slot_dict_values->c5q,plainAttrs_dict->c5F,slot_dict_items->c5G,slot_list_reverse->c5T,slot_list_extend->c51,type_list_pop->c55
open PySem.Heap renaming get?_push_of_some->ft,get?_push_size->nS,lt_size->eY,size_push->zo,SameBut->E5,get?_update_other->Pz,get?_update_self->R9,ExtBut->Rq
open PySem.Heap.DictOf renaming new->c6L
open PySem.Heap.SameBut renaming refl->WW,update->c6j
open PySem.IsRange renaming new->WL
open PySem.NameKind renaming free->Dc,cell->Kf
open PySem.Obj renaming mapSeq->BX,putSet->Rk
open PySem.PassesOwn renaming never->Pn
open PySem.SetTable renaming below->E2,grown->Kh,sizeAbove->Xu,Probe->c6O
open PySem.SetTable.below renaming go->c6t
open PySem.SetTable.probe renaming go->WU
open PySem.Str renaming empty->yK,ofString->Df,ofString_eq_byList->c5X
open PySem.Value renaming ref->e8,none->vX,bool->AK,isStrOf_shape->Py,isInt_shape->PF,type->Hc,int->HZ,str->Ll,isStrOf->WD,isInt->WN
open PySem.W renaming findIn->aA,Frag->aX,nsIn->lK,isFn->mm,keepIn->vY,hasDictIn->AJ,plainGet->Al,mg_of->yr,plainOver->Bf,makesIn->Bd,fnOf->zm,mg_none_of->FE,emptyDict->Hf,tabIn->DI,instObj->Ia,specialIn->PD,tabObj->LD,callWith_K->RE,kas_rev->Cm,codeIn->Pu,methodCall_KW->Xr,plainGet_of->Xn,kas_descPart->Pw,lookIn->Rx,methodObj->W0,kas_desc->HW,cellsFrom_some->c5S,takerIn->W1,OpenLaw->Xb,kas_place->Lm,handedIn->c6E,codeHdIn->c6F,kas_sort->Ph,takesIn->c6K,readsIn->c6M,findCls->c6N
open PySem.Walks renaming list->WJ
open String renaming splitOnAux->c6x
open Sum renaming inr->DC,inl->J2
open Sum.inr renaming inj->Pk
open True renaming intro->Lk
namespace L2
open PySem PySem.Spec PyProof.Rows
abbrev Key:=Sum Int Str
def Kq:Key->Value->Bool
 | .inl k,v=>WN k v
 | .inr x,v=>WD x v
def Vt(w:World):Key->Int
 | .inl k=>hashInt k
 | .inr x=>hashStr w x
theorem FT:∀{k:Key} {v:Value},Kq k v=true->(∃i t,k=J2 i/\v=HZ i t)\/(∃x t,k=DC x/\v=Ll x t)
 | .inl i,v,h=>by
  obtain ⟨t,e⟩:=PF (k:=i) (v:=v) h
  exact .inl ⟨i,t,rfl,e⟩
 | .inr x,v,h=>by
  obtain ⟨t,e⟩:=Py (x:=x) (v:=v) h
  exact .inr ⟨x,t,rfl,e⟩
theorem b2X(i:Int)(t:Tok):Kq (.inl i) (.int i t)=true:=by simp [Kq,WN]
theorem b2W(x:Str)(t:Tok):Kq (.inr x) (.str x t)=true:=by simp [Kq,WD]
theorem c0n(a b:Int):decide ((J2 a:Key)=J2 b)=(a==b):=by
 by_cases e:a=b
 .subst e;simp
 .have h:¬(J2 a:Key)=J2 b:=λq=>e (Sum.inl.inj q)
  rw [decide_eq_false h]
  exact (beq_eq_false_iff_ne.mpr e).symm
theorem c0k(a b:Str):decide ((DC a:Key)=DC b)=decide (a=b):=by
 by_cases e:a=b
 .subst e;simp
 .have h:¬(DC a:Key)=DC b:=λq=>e (Pk q)
  rw [decide_eq_false h,decide_eq_false e]
theorem c0m(a:Int)(b:Str):decide ((J2 a:Key)=DC b)=false:=decide_eq_false (λq=>nomatch q)
theorem c0l(a:Str)(b:Int):decide ((DC a:Key)=J2 b)=false:=decide_eq_false (λq=>nomatch q)
def yy(prog:Program)(w:World):Ig prog w Key where
 is:=Kq
 hash:=Vt w
 inj:=λv a b ha hb=>by
  rcases FT ha with ⟨i,t,rfl,rfl⟩ | ⟨x,t,rfl,rfl⟩
  .rcases FT hb with ⟨j,u,rfl,e⟩ | ⟨y,u,rfl,e⟩
   .injection e with e1 _;rw [e1]
   .exact nomatch e
  .rcases FT hb with ⟨j,u,rfl,e⟩ | ⟨y,u,rfl,e⟩
   .exact nomatch e
   .injection e with e1 _;rw [e1]
 byValue:=λk v h=>by
  rcases FT h with ⟨i,t,rfl,rfl⟩ | ⟨x,t,rfl,rfl⟩<;>rfl
 pyHash:=λhv h=>by
  rcases FT hv with ⟨i,t,rfl,rfl⟩ | ⟨x,t,rfl,rfl⟩
  .exact wpAny_pyHash_int h
  .exact wpAny_pyHash_str h
 eqBool:=λhu hv h=>by
  rcases FT hu with ⟨i,t,rfl,rfl⟩ | ⟨x,t,rfl,rfl⟩
  .rcases FT hv with ⟨j,u,rfl,rfl⟩ | ⟨y,u,rfl,rfl⟩
   .rw [c0n] at h;exact wpAny_eqBool_int h
   .rw [c0m] at h;exact SeqAt.EqAt.int_str i t y u _ _ _ _ h
  .rcases FT hv with ⟨j,u,rfl,rfl⟩ | ⟨y,u,rfl,rfl⟩
   .rw [c0l] at h;exact SeqAt.EqAt.str_int x t j u _ _ _ _ h
   .rw [c0k] at h;exact wpAny_eqBool_str h
 «strs»:=λk x t v h=>by
  rcases FT h with ⟨i,u,rfl,e⟩ | ⟨y,u,rfl,e⟩
  .exact nomatch e
  .injection e with e1 _
   subst e1
   cases v<;>rfl
theorem a9T(prog:Program)(w:World)(i:Int)(t:Tok):(yy prog w).is (.inl i) (.int i t)=true:=b2X i t
theorem a6T(prog:Program)(w:World)(x:Str)(t:Tok):(yy prog w).is (.inr x) (.str x t)=true:=b2W x t
end L2
namespace L2
open PySem PySem.Spec PyProof.Rows
inductive V where
 | cT | bl (b:Bool) | int (i:Int) | str (x:Str) | LK (b:Array UInt8) | Lf (b:UInt64) | ref (a:Addr) | ty (n:String)
 deriving DecidableEq
def RelV:V->Value->Prop
 | .cT,u=>u=vX
 | .bl b,u=>u=AK b
 | .int i,u=>∃t,u=HZ i t
 | .str x,u=>∃t,u=Ll x t
 | .LK b,u=>∃t,u=Value.bytes b t
 | .Lf b,u=>∃t,u=Value.float b t
 | .ref a,u=>u=e8 a
 | .ty n,u=>u=Hc n
abbrev aU:List V->List Value->Prop:=Paired RelV
theorem aU.length(r:aU xs us):xs.length=us.length:=Paired.length r
theorem aU.get:∀{xs:List V} {us:List Value} {i:Nat} {x:V},aU xs us->xs[i]?=some x->∃u,us[i]?=some u/\RelV x u
 | _,_,_,_,.nil,e=>by simp at e
 | _,_,0,_,.cons r _,e=>by simp at e;subst e;exact ⟨_,rfl,r⟩
 | _,_,i+1,x,.cons _ t,e=>by
  obtain ⟨u,h1,h2⟩:=aU.get (i:=i) (x:=x) t (by simpa using e)
  exact ⟨u,by simpa using h1,h2⟩
theorem aU.set(r:RelV x u):∀{xs:List V} {us:List Value} (i:Nat),aU xs us->aU (xs.set i x) (us.set i u)
 | _,_,_,.nil=>.nil
 | _,_,0,.cons _ t=>.cons r t
 | _,_,i+1,.cons q t=>.cons q (aU.set r i t)
theorem aU.append:∀{xs ys:List V} {us ws:List Value},aU xs us->aU ys ws->aU (xs++ys) (us++ws)
 | _,_,_,_,.nil,s=>s
 | _,_,_,_,.cons r t,s=>.cons r (aU.append t s)
theorem aU.take:∀{xs:List V} {us:List Value} (n:Nat),aU xs us->aU (xs.take n) (us.take n)
 | _,_,0,_=>.nil
 | _,_,_+1,.nil=>.nil
 | _,_,n+1,.cons r t=>.cons r (aU.take n t)
theorem aU.drop:∀{xs:List V} {us:List Value} (n:Nat),aU xs us->aU (xs.drop n) (us.drop n)
 | _,_,0,r=>r
 | _,_,_+1,.nil=>.nil
 | _,_,n+1,.cons _ t=>aU.drop n t
theorem aU.none_of:∀{xs:List V} {us:List Value} {i:Nat},aU xs us->xs[i]?=none->us[i]?=none:=λ{xs us i} r e=>by
 have h1:=r.length
 have h2:xs.length<=i:=c5a.mp e
 exact c5a.mpr (by omega)
def mi:Option V->Option Value->Prop
 | some v,some u=>RelV v u
 | none,none=>True
 | _,_=>False
def KV{κ:Type}:List (κ×V)->List (κ×Value)->Prop:=Paired λ(p:κ×V) (q:κ×Value)=>p.1=q.1/\RelV p.2 q.2
def kV:Key->V
 | .inl i=>.int i
 | .inr x=>.str x
inductive HO where
 /-- a list -/
 | lst (xs:List V)
 /-- a tuple (never changes) -/
 | tup (xs:List V)
 /-- a dict HD keys are ints and texts;one HD keys are tuples of ints and texts (the empty one is both) -/
 | dK (aI:List (Key×V)) | dT (aI:List (List Key×V))
 /-- a set of ints: aJ members,aJ size -/
 | set (S:Int->Bool) (n:Nat)
 /-- an instance of the class at C,aJ dict at dx,aJ attributes -/
 | ins (C dx:Addr) (fs:List (Str×V))
 /-- the dict of the instance at x -/
 | own (x:Addr)
 /-- the dict of an exception -/
 | xd (fs:List (Str×V))
 /-- a bound method,f of x -/
 | met (f x:Addr)
 /-- a range object lo,lo+1,.. below hi -/
 | U8 (lo hi:Int)
 /-- a MW that is known to the object (the script;a dict while a loop walks it): read,never written while it is so -/
 | nQ (o:Obj) (u:HO)
 /-- a code EI table -/
 | I0 (ps:Array Value)
 /-- a code EI table HD codes are all called q,and are aJ own -/
 | tab (q:Str)
 /-- any other MW,by what is true of aJ one object (a def of Z5 own: SetO a S n:=HO.ext λh=>..) -/
 | ext (φ:Heap->Prop)
def ownOf:HO->Option Addr
 | .own x=>some x
 | .nQ _ (.own x)=>some x
 | _=>none
def c0v(q:Str)(o:Obj):Prop:=∃vs t,o.data=.fields vs/\vs[1]?=some (.str q t)
abbrev Hp:=Addr->Option HO
def upd(H:Hp)(a:Addr)(o:HO):Hp:=λb=>if b=a then some o else H b
theorem yB:upd H a o a=some o:=by unfold upd;rw [if_pos rfl]
theorem jw(h:b≠a):upd H a o b=H b:=by unfold upd;rw [if_neg h]
theorem NW{H:Hp}{a b:Addr}{o u:HO}(h:H a=some o)(h':H b=some u)(d:o≠u):a≠b:=by
 intro e;subst e;rw [h] at h';exact d (lH h')
theorem Dr{H:Hp}{a b:Addr}{o:HO}(h:H a=some o)(h':H b=none):a≠b:=by
 intro e;subst e;rw [h] at h';cases h'
section
variable (P:Program)(w:World)
def dr(H:Hp)(h:Heap)(a:Addr):HO->Prop
 | .lst xs=>xs.length<=sizeLine/\∃(aJ:List Value) (n:Nat),aU xs aJ/\h.get? a=some { cls:=.type "list",data:=.seq aJ.toArray n }
 | .tup xs=>xs.length<=sizeLine/\∃aJ:List Value,aU xs aJ/\IsTup h a aJ.toArray
 | .dK aI=>aI.length<=sizeLine/\(a==sysModules)=false/\∃vs,KV aI vs/\h.DictOf (yy P w) a vs
 | .dT aI=>aI.length<=sizeLine/\(a==sysModules)=false/\∃xs:List (List Key×Addr×Value),
   Paired (λ(p:List Key×V) (q:List Key×Addr×Value)=>p.1=q.1/\H q.2.1=some (.tup (p.1.map kV))/\RelV p.2 q.2.2) aI xs /\
   ∃o es ep,h.get? a=some o/\o.ExactDict/\o.data=.dict es ep/\es.toList=xs.map (entryOfKey (tupleKind (yy P w)))/\(xs.map (·.1)).Nodup
 | .set S n=>h.SetOf (intKind P w) a S n
 | .ins C dx fs=>H dx=some (.own a)/\fs.length<=1000/\dx≠a/\h.get? a=some (Ia C dx) /\
   ∃mA,h.Ns1 dx mA/\(∀f,mi (fs.lookup f) (mA f))/\WA mA (fs.map (·.1))
 | .own _=>∃o,h.get? a=some o
 | .xd fs=>∃mA,h.Ns1 a mA/\∀f,mi (fs.lookup f) (mA f)
 | .U8 lo hi=>∃t u v,h.get? a=some { cls:=.type "range",data:=.fields #[.int lo t,.int hi u,.int 1 v] }
 | .nQ o u=>h.get? a=some o/\dr H h a u
 | .I0 ps=>h.get? a=some { cls:=.none,data:=.fields ps }
 | .tab q=>∃ps,h.get? a=some (LD ps)/\TriplesOk ps.toList/\∀pos cv,codeAmong pos ps.toList=some cv->∃c oc,cv=.ref c/\H c=some (.nQ oc (.own a))/\c0v q oc
 | .met f x=>h.get? a=some (W0 (.ref f) (.ref x))
 | .ext φ=>φ h/\(∃o,h.get? a=some o)/\∀h1 h2:Heap,φ h1->(∀o,h1.get? a=some o->h2.get? a=some o)->φ h2
def pE(H:Hp)(h:Heap):Prop:=∀a o,H a=some o->dr P w H h a o
end
section
variable {P:Program}{w:World}{H H':Hp}{h h':Heap}{a:Addr}{o:HO}
theorem dr.lt(x:dr P w H h a o):a<h.objs.size:=by
 cases o with
 | lst xs=>obtain ⟨_,_,_,_,e⟩:=x;exact eY e
 | tup xs=>obtain ⟨_,_,_,p⟩:=x;exact p.lt
 | dK aI=>obtain ⟨_,_,_,_,o,_,_,e,_⟩:=x;exact eY e
 | dT aI=>obtain ⟨_,_,_,_,o,_,_,e,_⟩:=x;exact eY e
 | set S n=>obtain ⟨o,_,_,_,e,_⟩:=x;exact eY e
 | ins C dx fs=>obtain ⟨_,_,_,e,_⟩:=x;exact eY e
 | own y=>obtain ⟨_,e⟩:=x;exact eY e
 | xd fs=>obtain ⟨_,⟨_,_,_,e,_⟩,_⟩:=x;exact eY e
 | U8 lo hi=>obtain ⟨_,_,_,e⟩:=x;exact eY e
 | nQ ob u=>obtain ⟨e,_⟩:=x;exact eY e
 | I0 ps=>exact eY (show h.get? a=some _ from x)
 | tab q=>obtain ⟨_,e,_⟩:=x;exact eY e
 | met f y=>exact eY (show h.get? a=some _ from x)
 | ext φ=>obtain ⟨_,⟨_,e⟩,_⟩:=x;exact eY e
theorem Paired.JD{α β:Type}{F G:α->β->Prop}:∀{l₁:List α} {l₂:List β},Paired F l₁ l₂->(∀a b,F a b->G a b)->Paired G l₁ l₂
 | _,_,.nil,_=>.nil
 | _,_,.cons r t,f=>.cons (f _ _ r) (Paired.JD t f)
theorem dr.CJ(x:dr P w H h a o)(k:∀b u,(b=a\/H b=some (.own a))->h.get? b=some u->h'.get? b=some u)
  (ho:∀b u,ownOf u=some a->H b=some u->H' b=some u)(ht:∀b xs,H b=some (.tup xs)->H' b=some (.tup xs)):dr P w H' h' a o:=by
 induction o with
 | lst xs=>obtain ⟨z,aJ,n,r,e⟩:=x;exact ⟨z,aJ,n,r,k _ _ (.inl rfl) e⟩
 | tup xs=>obtain ⟨z,aJ,r,ob,e,c⟩:=x;exact ⟨z,aJ,r,ob,k _ _ (.inl rfl) e,c⟩
 | dK aI=>obtain ⟨z,y,vs,r,ob,es,ep,e,c⟩:=x;exact ⟨z,y,vs,r,ob,es,ep,k _ _ (.inl rfl) e,c⟩
 | dT aI =>
  obtain ⟨z,y,xs,r,ob,es,ep,e,c⟩:=x
  exact ⟨z,y,xs,Paired.JD r λp q z=>⟨z.1,ht _ _ z.2.1,z.2.2⟩,ob,es,ep,k _ _ (.inl rfl) e,c⟩
 | set S n=>obtain ⟨ob,es,ep,t,e,c⟩:=x;exact ⟨ob,es,ep,t,k _ _ (.inl rfl) e,c⟩
 | ins C dx fs =>
  obtain ⟨d,z,ne,e,mA,⟨od,es,ep,e2,c⟩,r⟩:=x
  exact ⟨ho _ _ rfl d,z,ne,k _ _ (.inl rfl) e,mA,⟨od,es,ep,k _ _ (.inr d) e2,c⟩,r⟩
 | own y=>obtain ⟨ob,e⟩:=x;exact ⟨ob,k _ _ (.inl rfl) e⟩
 | xd fs=>obtain ⟨mA,⟨od,es,ep,e,c⟩,r⟩:=x;exact ⟨mA,⟨od,es,ep,k _ _ (.inl rfl) e,c⟩,r⟩
 | U8 lo hi=>obtain ⟨t,u,v,e⟩:=x;exact ⟨t,u,v,k _ _ (.inl rfl) e⟩
 | nQ ob u ih=>obtain ⟨e,q⟩:=x;exact ⟨k _ _ (.inl rfl) e,ih q⟩
 | I0 ps =>
  have e:h.get? a=some { cls:=.none,data:=.fields ps }:=x
  show h'.get? a=some { cls:=.none,data:=.fields ps }
  exact k a _ (.inl rfl) e
 | tab q =>
  obtain ⟨ps,e,ht,z⟩:=x
  exact ⟨ps,k _ _ (.inl rfl) e,ht,λpos cv hc=>let ⟨c,oc,e1,e2,e3⟩:=z pos cv hc;⟨c,oc,e1,ho _ _ rfl e2,e3⟩⟩
 | met f y =>
  have e:h.get? a=some (W0 (.ref f) (.ref y)):=x
  show h'.get? a=some (W0 (.ref f) (.ref y))
  exact k a _ (.inl rfl) e
 | ext φ=>obtain ⟨p,⟨o,e⟩,st⟩:=x;exact ⟨st _ _ p λo q=>k _ _ (.inl rfl) q,⟨o,k _ _ (.inl rfl) e⟩,st⟩
theorem pE.lt(x:pE P w H h)(e:H a=some o):a<h.objs.size:=(x a o e).lt
theorem pE.fresh(x:pE P w H h)(e:h.objs.size<=a):H a=none:=by
 cases q:H a with
 | none=>rfl
 | some u=>exact absurd (Am (x.lt q) e) (E6 _)
theorem pE.kept(x:pE P w H h)(k:∀b u,h.get? b=some u->h'.get? b=some u):pE P w H h':=λa o e =>
 (x a o e).CJ (λb u _ q=>k b u q) (λ_ _ _ q=>q) λ_ _ q=>q
theorem pE.laid(x:pE P w H h)(k:∀b u,h.get? b=some u->h'.get? b=some u)(hp:h.objs.size<=a)(new:dr P w (upd H a o) h' a o):pE P w (upd H a o) h':=λb u e=>by
 have hn:=x.fresh hp
 by_cases hb:b=a
 .subst hb;rw [yB] at e;cases e;exact new
 .rw [jw hb] at e
  exact (x b u e).CJ (λc v _ q=>k c v q) (λc _ _ q=>by rw [jw (Dr q hn)];exact q) λc xs q=>by rw [jw (Dr q hn)];exact q
end
def Rd(H:Hp)(a:Addr)(u:HO):Prop:=H a=some u\/∃o,H a=some (.nQ o u)
theorem Rd.of(h:H a=some u):Rd H a u:=.inl h
theorem Rd.ok(r:Rd H a u)(x:pE P w H h):dr P w H h a u:=by
 rcases r with r | ⟨o,r⟩
 .exact x a u r
 .obtain ⟨_,q⟩:=x a _ r
  exact q
def QE:Option HO->Prop
 | some (.lst _)=>True
 | some (.dK _)=>True
 | some (.dT _)=>True
 | some (.set _ _)=>True
 | some (.ins _ _ _)=>True
 | some (.ext _)=>True
 | some (.tab _)=>True
 | _=>False
section
variable {P:Program}{w:World}{H:Hp}{h h':Heap}{x e:Addr}{o':HO}
theorem pE.write(ok:pE P w H h)(mu:QE (H x))(he:e=x\/H e=some (.own x))(k:∀b u,b≠e->h.get? b=some u->h'.get? b=some u)(Ld:∃u,h'.get? e=some u)
  (new:dr P w (upd H x o') h' x o'):pE P w (upd H x o') h':=λb u q=>by
 have Vg:∀c y,H c=some (.own y)->c≠x:=λc y r z=>by subst z;rw [r] at mu;exact mu
 have Vf:∀c xs,H c=some (.tup xs)->c≠x:=λc xs r z=>by subst z;rw [r] at mu;exact mu
 have Vh:∀c y u,ownOf u=some y->H c=some u->c≠x:=λc y u hu r z=>by
  subst z;rw [r] at mu
  cases u with
  | own y=>exact mu
  | nQ o v=>exact mu
  | _=>cases hu
 by_cases hb:b=x
 .subst hb;rw [yB] at q;cases q;exact new
 .rw [jw hb] at q
  by_cases JR:b=e
  .have q':H b=some (.own x):=by
    rcases he with z | z
    .exact absurd (JR.trans z) hb
    .rw [JR];exact z
   rw [q] at q';cases q'
   obtain ⟨v,hv⟩:=Ld
   exact ⟨v,by rw [JR];exact hv⟩
  .refine (ok b u q).CJ (λc v hc r=>k c v ?_ r) (λc u hu r=>by rw [jw (Vh c b u hu r)];exact r) λc xs r=>by rw [jw (Vf c xs r)];exact r
   rcases hc with rfl | hc
   .exact JR
   .rintro rfl
    rcases he with z | z
    .exact Vg c b hc z
    .rw [hc] at z;cases z;exact hb rfl
end
structure Un(fs ex:List Addr)(H H':Hp)(h h':Heap):Prop where
 keep:∀b o,h.get? b=some o->H b=none->b∉fs->b∉ex->h'.get? b=some o
 slot:∀b o,h.get? b=some o->H b=none->b∈fs->b∉ex->∃sl,h'.get? b=some { o with slots:=sl }
 free:∀b o,h.get? b=some o->H b=none->b∉ex->H' b=none
 there:∀b o,h.get? b=some o->b∉ex->∃o',h'.get? b=some o'
 rg:∀b xs,H b=some (.tup xs)->H' b=some (.tup xs)
 qo:∀b o u,H b=some (.nQ o u)->H' b=some (.nQ o u)
 rh:∀b ps,H b=some (.I0 ps)->∃more,H' b=some (.I0 (ps++more))
section
variable {fs G4 ex ex':List Addr}{H H1 H2:Hp}{h h1 h2 h':Heap}{a x e:Addr}{o:HO}
theorem Un.any(u:Un fs ex H H1 h h1)(q:h.get? b=some ob)(n:H b=none)(hx:b∉ex):∃sl,h1.get? b=some { ob with slots:=sl }:=by
 by_cases hb:b∈fs
 .exact u.slot b ob q n hb hx
 .exact ⟨ob.slots,u.keep b ob q n hb hx⟩
theorem Un.trans(a:Un fs ex H H1 h h1)(b:Un fs ex H1 H2 h1 h2):Un fs ex H H2 h h2 where
 keep:=λc ob q n hc hx=>b.keep c ob (a.keep c ob q n hc hx) (a.free c ob q n hx) hc hx
 slot:=λc ob q n hc hx=>by
  obtain ⟨sl,e1⟩:=a.slot c ob q n hc hx
  obtain ⟨UZ,e2⟩:=b.slot c _ e1 (a.free c ob q n hx) hc hx
  exact ⟨UZ,e2⟩
 free:=λc ob q n hx=>by
  obtain ⟨o',e1⟩:=a.there c ob q hx
  exact b.free c o' e1 (a.free c ob q n hx) hx
 there:=λc ob q hx=>by
  obtain ⟨o',e1⟩:=a.there c ob q hx
  exact b.there c o' e1 hx
 rg:=λc xs q=>b.rg c xs (a.rg c xs q)
 qo:=λc ob xs q=>b.qo c ob xs (a.qo c ob xs q)
 rh:=λc ps q=>by
  obtain ⟨m1,e1⟩:=a.rh c ps q
  obtain ⟨m2,e2⟩:=b.rh c _ e1
  exact ⟨m1++m2,by rw [e2,RH]⟩
theorem Un.kept(k:∀b u,h.get? b=some u->h'.get? b=some u):Un fs ex H H h h':=
 ⟨λb ob q _ _ _=>k b ob q,λb ob q _ _ _=>⟨ob.slots,k b ob q⟩,λ_ _ _ n _=>n,λb ob q _=>⟨ob,k b ob q⟩,λ_ _ q=>q,λ_ _ _ q=>q,λ_ ps q=>⟨#[],by rw [q];simp⟩⟩
theorem Un.refl:Un fs ex H H h h:=Un.kept λ_ _ q=>q
theorem Un.laid(k:∀b u,h.get? b=some u->h'.get? b=some u)(hp:h.objs.size<=a)(hn:H a=none):Un fs ex H (upd H a o) h h' where
 keep:=λb u q _ _ _=>k b u q
 slot:=λb u q _ _ _=>⟨u.slots,k b u q⟩
 free:=λb u q n _=>by rw [jw (g0 (Am (eY q) hp))];exact n
 there:=λb u q _=>⟨u,k b u q⟩
 rg:=λb xs q=>by rw [jw (Dr q hn)];exact q
 qo:=λb u xs q=>by rw [jw (Dr q hn)];exact q
 rh:=λb ps q=>⟨#[],by rw [jw (Dr q hn),q];simp⟩
theorem Un.write(mu:QE (H x))(he:e=x\/H e=some (.own x))(k:∀b u,b≠e->h.get? b=some u->h'.get? b=some u)(Ld:∃u,h'.get? e=some u):Un fs ex H (upd H x o) h h':=by
 have hx:∀b,H b=none->b≠x:=λb n z=>by subst z;rw [n] at mu;exact mu
 have hb:∀b,H b=none->b≠e:=λb n z=>by
  subst z
  rcases he with r | r
  .exact hx b n r
  .rw [n] at r;cases r
 have hm:∀b u,H b=some u->¬QE (some u)->b≠x:=λb u q nm z=>by subst z;rw [q] at mu;exact nm mu
 refine ⟨λb u q n _ _=>k b u (hb b n) q,λb u q n _ _=>⟨u.slots,k b u (hb b n) q⟩,λb u q n _=>by rw [jw (hx b n)];exact n,λb u q _=>?_,
  λb xs q=>by rw [jw (hm b _ q λz=>z)];exact q,λb u xs q=>by rw [jw (hm b _ q λz=>z)];exact q,λb ps q=>⟨#[],by rw [jw (hm b _ q λz=>z),q];simp⟩⟩
 by_cases JR:b=e
 .subst JR;exact Ld
 .exact ⟨u,k b u JR q⟩
theorem Un.mono(u:Un fs ex H H1 h h1)(hs:∀b∈fs,b∈G4)(hx:∀b∈ex,b∈ex'):Un G4 ex' H H1 h h1:=
 ⟨λb ob q n hb he=>u.keep b ob q n (λz=>hb (hs b z)) λz=>he (hx b z),λ_ _ q n _ he=>u.any q n λz=>he (hx _ z),λb ob q n he=>u.free b ob q n λz=>he (hx b z),λb ob q he=>u.there b ob q λz=>he (hx b z),u.rg,u.qo,u.rh⟩
end
def QM(h:Heap)(H:Hp):List Addr:=(nR h.objs.size).filter λa=>(H a).isSome
def z0(h:Heap)(H:Hp):Heap:=PySem.W.hideAll h (QM h H)
theorem b3f(h:Heap)(H:Hp):(z0 h H).objs.size=h.objs.size:=PySem.W.hideAll_size _ _
theorem b4Q(e:h.get? b=some o)(n:H b=none):(z0 h H).get? b=some o:=
 PySem.W.hideAll_get _ e λhm=>by
  have q:(H b).isSome=true:=(List.mem_filter.mp hm).2
  rw [n] at q;simp at q
theorem b7k(e:(z0 h H).get? b=some o):h.get? b=some o/\H b=none:=by
 have e':h.get? b=some o:=PySem.W.of_hideAll (QM h H) e
 refine ⟨e',?_⟩
 cases q:H b with
 | none=>rfl
 | some x =>
  have hm:b∈QM h H:=List.mem_filter.mpr ⟨E3.mpr (eY e'),by simp [q]⟩
  have z:(z0 h H).get? b=none:=PySem.W.hideAll_none (QM h H) hm
  rw [z] at e;cases e
def b8n(g h:Heap)(L:Addr):List (Addr×Obj):=(nR h.objs.size).filterMap λa=>if a=L\/(g.get? a).isSome=true then none else (h.get? a).map λo=>(a,o)
def rest(g h:Heap)(L d:Addr):List (Addr×Obj):=(b8n g h L).filter λp=>decide (p.1≠d)
end L2
namespace L2
open PySem PySem.Spec PyProof.Rows
structure Mod(K:aX)(mg:Str->Option Value)(base:Heap):Prop where
 HI:K.In base
 glob:base.Ns mainGlobals mg
 blt:∃mb,base.Ns builtinsNs mb/\∀x:Str,x ≠ "__name__" -> mb x=bootBuiltins x
 nolimit:base.NoLimit
 bmod:∃bm ob,mg "__builtins__" = some (.ref bm)/\bm≠builtinsNs/\base.get? bm=some ob/\ob.cls=.type "module" /\ ob.dict=some builtinsNs/\ob.data=.plain
structure Cx where
 prog:Program
 w:World
 K:aX
 mg:Str->Option Value
 base:Heap
 A:Around
 N:List Str
 gu:Shared
 Fq:Hp
 env:Env
 outer:List Env
 stack:List Env
 ex:List Addr
 fn:Str->Bool
 calm:Bool
 pn:List (Addr×Obj)
 xe:Value->Shared->Prop
def DB(l:List Env):List Addr:=l.filterMap (·.frame)
abbrev Cx.fs(X:Cx):List Addr:=DB X.outer
def l4(sc:Scope)(x:Str):Prop:=sc.names.lookup x=some .local\/sc.names.lookup x=some .cell\/sc.names.lookup x=some .free
def Loc(sc:Scope)(x:Str):Prop:=sc.names.lookup x=some .local\/sc.names.lookup x=some .cell
def Look(env:Env)(h:Heap)(m:Str->Option Value)(x:Str)(u:Value):Prop:=
 (env.kindOf x=some .local/\m x=some u)\/((env.kindOf x=some .cell\/env.kindOf x=some .free)/\∃c,env.cells.lookup x=some c/\h.IsCell c (some u))
structure Cx.Ok(X:Cx):Prop where
 mod:Mod X.K X.mg X.base
 kind:X.env.scope.kind=.function
 glob:X.env.globals=mainGlobals
 blt:X.env.builtins=builtinsNs
 above:X.gu.heap.objs.size<=X.env.locals
 inj:∀x y c,X.env.cells.lookup x=some c->X.env.cells.lookup y=some c->x=y
 has:∀x,(X.env.kindOf x=some .cell\/X.env.kindOf x=some .free)->∃c,X.env.cells.lookup x=some c
 Pg:∀x c,X.fn x=true->X.env.cells.lookup x=some c->X.gu.heap.objs.size<=c
 hd:X.calm=true->X.A.handled=none
 frames:X.A.frames=some X.stack
 QR:X.stack=X.outer\/(X.stack=X.env::X.outer/\X.env.frame=some X.env.locals)
 exf:∀b∈X.ex,b≠X.env.locals/\∀x c,X.env.cells.lookup x=some c->c≠b
 bs:∀b o,X.base.get? b=some o->X.gu.heap.get? b=some o/\X.Fq b=none
 E7:X.base.objs.size<=X.gu.heap.objs.size
 EJ:∀b o,X.base.get? b=some o->b∉X.ex
 G6:∀b∈X.ex,b∉X.fs
 sv:X.gu.heap.FunFrames X.base X.outer
 HU:∀b∈X.fs,X.Fq b=none
structure Inv(X:Cx)(pins:List (Addr×Obj))(σ:List (Option V))(H:Hp)(s:Shared):Prop where
 ok:X.Ok
 os:s.os=X.gu.os
 bare:AllBare s.gens
 base:Un X.fs X.ex X.Fq H X.gu.heap s.heap
 loc:∃m,s.heap.Ns X.env.locals m/\∀(i:Nat) (x:Str) (v:V),X.N[i]?=some x->σ[i]?=some (some v)->l4 X.env.scope x->∃u,RelV v u/\Look X.env s.heap m x u
 cell:∀x c,X.env.cells.lookup x=some c->∃v,s.heap.IsCell c v
 free:H X.env.locals=none
 nC:∀x c,X.env.cells.lookup x=some c->H c=none
 pin:∀p∈X.pn++pins,s.heap.get? p.1=some p.2/\H p.1=none/\p.1≠X.env.locals/\p.1∉X.fs/\∀v,p.2.data≠.cell v
 cF:pE X.prog X.w H s.heap
 len:σ.length=X.N.length
section
variable {X:Cx}{pins:List (Addr×Obj)}{σ:List (Option V)}{H H':Hp}{s:Shared}{h':Heap}
theorem Cx.Ok.Vj(ok:X.Ok)(e:X.base.get? b=some o):b∉X.fs:=λhb=>by
 have:=(ok.sv.mem hb).1
 rw [e] at this;cases this
theorem Inv.bs(I:Inv X pins σ H s):∀b o,X.base.get? b=some o->s.heap.get? b=some o/\H b=none:=λb o e =>
 ⟨I.base.keep b o (I.ok.bs b o e).1 (I.ok.bs b o e).2 (I.ok.Vj e) (I.ok.EJ b o e),I.base.free b o (I.ok.bs b o e).1 (I.ok.bs b o e).2 (I.ok.EJ b o e)⟩
theorem Inv.bk(I:Inv X pins σ H s):∀b o,X.base.get? b=some o->s.heap.get? b=some o:=λb o e=>(I.bs b o e).1
theorem Inv.mod(I:Inv X pins σ H s):Mod X.K X.mg X.base:=I.ok.mod
theorem Inv.Ay(I:Inv X pins σ H s):X.K.In s.heap:=I.ok.mod.HI.keeps I.bk
theorem Inv.nolimit(I:Inv X pins σ H s):s.heap.NoLimit:=I.ok.mod.nolimit.keeps I.bk
theorem Inv.fr(I:Inv X pins σ H s):∃m,Fr X.base X.env.locals s.heap m:=
 let ⟨m,hn,_⟩:=I.loc
 ⟨m,hn,I.bk,tu I.ok.E7 I.ok.above⟩
theorem Inv.lt(I:Inv X pins σ H s):X.env.locals<s.heap.objs.size:=let ⟨_,hn,_⟩:=I.loc;hn.lt
theorem Inv.sz(I:Inv X pins σ H s):X.gu.heap.objs.size<=s.heap.objs.size:=tu I.ok.above (Lo I.lt)
theorem Inv.Vi(I:Inv X pins σ H s){a:Addr}(h:s.heap.objs.size<=a):a∉X.fs:=λhb=>by
 obtain ⟨_,o,ho,_⟩:=I.ok.sv.mem hb
 exact absurd (Am (eY ho) (tu I.sz h)) (E6 _)
theorem Inv.J1(I:Inv X pins σ H s):∀x c,X.env.cells.lookup x=some c->c≠X.env.locals:=λx c e z=>by
 obtain ⟨v,o,ho,hd⟩:=I.cell x c e
 obtain ⟨m,⟨o',es,ep,xR,Dz,_⟩,_⟩:=I.loc
 rw [z,xR] at ho;cases ho;rw [Dz] at hd;cases hd
theorem Inv.sv(I:Inv X pins σ H s):s.heap.FunFrames X.base X.outer:=by
 have all:∀(l:List Env),(∀b∈DB l,b∈X.fs)->X.gu.heap.FunFrames X.base l->s.heap.FunFrames X.base l:=by
  intro l
  induction l with
  | nil=>intro _ _;trivial
  | cons env r ih =>
   intro hs hl
   obtain ⟨hk,⟨L,o,hf,hn,ho,hd⟩,hr⟩:=hl
   have hL:L∈X.fs:=hs L (by unfold DB;rw [RI,hf];exact pd)
   obtain ⟨sl,e⟩:=I.base.slot L o ho (I.ok.HU L hL) hL λz=>I.ok.G6 L z hL
   exact ⟨hk,⟨L,_,hf,hn,e,hd⟩,ih (λb hb=>hs b (by unfold DB;rw [RI,hf];exact nT _ hb)) hr⟩
 exact all X.outer (λ_ hb=>hb) I.ok.sv
theorem Inv.stack(I:Inv X pins σ H s):s.heap.FunFrames X.base X.stack:=by
 rcases I.ok.QR with e | ⟨e,hf⟩
 .rw [e];exact I.sv
 .rw [e]
  obtain ⟨m,hn,_⟩:=I.loc
  refine .cons (by rw [I.ok.kind];decide) hf hn ?_ I.sv
  exact Heap.get?_none_of_le (tu I.ok.E7 I.ok.above)
theorem Inv.zU(I:Inv X pins σ H s):∀b∈DB X.stack,b∈X.env.locals::X.fs:=λb hb=>by
 rcases I.ok.QR with e | ⟨e,hf⟩
 .rw [e] at hb;exact nT _ hb
 .rw [e] at hb
  unfold DB at hb
  rw [RI,hf] at hb
  exact hb
theorem Inv.Ce(I:Inv X pins σ H s):∀b∈DB X.stack,H b=none:=λb hb=>by
 rcases js.mp (I.zU b hb) with e | hb
 .rw [e];exact I.free
 .obtain ⟨_,o,ho,_⟩:=I.ok.sv.mem hb
  exact I.base.free b o ho (I.ok.HU b hb) λz=>I.ok.G6 b z hb
theorem Inv.step{g':Array GenState}{t':Nat}{d':Drawn}{ch:List Addr}(I:Inv X pins σ H s)
  (Fy:∀b∈ch,(b∈X.ex\/X.gu.heap.objs.size<=b)/\b≠X.env.locals/\(∀x c,X.env.cells.lookup x=some c->c≠b)/\∀p∈X.pn++pins,p.1≠b)
  (keep:∀b o,b≠X.env.locals->b∉X.fs->b∉ch->s.heap.get? b=some o->H b=none->h'.get? b=some o)
  (slot:∀b o,b≠X.env.locals->b∈X.fs->b∉ch->s.heap.get? b=some o->H b=none->∃sl,h'.get? b=some { o with slots:=sl })(free:∀b o,b∉ch->s.heap.get? b=some o->H b=none->H' b=none)
  (there:∀b o,b∉ch->s.heap.get? b=some o->∃o',h'.get? b=some o')
  (rg:∀b xs,H b=some (.tup xs)->H' b=some (.tup xs))(qo:∀b o u,H b=some (.nQ o u)->H' b=some (.nQ o u))(rh:∀b ps,H b=some (.I0 ps)->∃more,H' b=some (.I0 (ps++more)))
  (ns:∀m,s.heap.Ns X.env.locals m->h'.Ns X.env.locals m)(cF:pE X.prog X.w H' h')(hg:AllBare g'):
  Inv X pins σ H' { s with heap:=h',gens:=g',drawn:=d',toks:=t' }:=by
 have Z9:∀b o,X.gu.heap.get? b=some o->b≠X.env.locals:=λb o e=>g0 (Am (eY e) I.ok.above)
 have QX:∀b o,X.gu.heap.get? b=some o->b∉X.ex->b∉ch:=λb o e hx hb=>by
  rcases (Fy b hb).1 with z | z
  .exact hx z
  .exact absurd (Am (eY e) z) (E6 _)
 have cellK:∀x c,X.env.cells.lookup x=some c->∀v,s.heap.IsCell c v->h'.IsCell c v:=λx c e v ⟨o,ho,hd⟩=>by
  have NX:c∉ch:=λz=>(Fy c z).2.2.1 x c e rfl
  by_cases hc:c∈X.fs
  .obtain ⟨sl,q⟩:=slot c o (I.J1 x c e) hc NX ho (I.nC x c e)
   exact ⟨_,q,hd⟩
  .exact ⟨o,keep c o (I.J1 x c e) hc NX ho (I.nC x c e),hd⟩
 refine ⟨I.ok,I.os,hg,⟨λb o e n hb hx=>?_,λb o e n hb hx=>?_,λb o e n hx=>?_,λb o e hx=>?_,λb xs e=>rg b xs (I.base.rg b xs e),λb o xs e=>qo b o xs (I.base.qo b o xs e),λb ps e=>?_⟩,?_,λx c e=>?_,?_,λx c e=>?_,λp hp=>?_,cF,I.len⟩
 .exact keep b o (Z9 b o e) hb (QX b o e hx) (I.base.keep b o e n hb hx) (I.base.free b o e n hx)
 .obtain ⟨sl,e1⟩:=I.base.slot b o e n hb hx
  obtain ⟨UZ,e2⟩:=slot b _ (Z9 b o e) hb (QX b o e hx) e1 (I.base.free b o e n hx)
  exact ⟨UZ,e2⟩
 .obtain ⟨o',e1⟩:=I.base.there b o e hx
  exact free b o' (QX b o e hx) e1 (I.base.free b o e n hx)
 .obtain ⟨o',e1⟩:=I.base.there b o e hx
  exact there b o' (QX b o e hx) e1
 .obtain ⟨m1,e1⟩:=I.base.rh b ps e
  obtain ⟨m2,e2⟩:=rh b _ e1
  exact ⟨m1++m2,by rw [e2,RH]⟩
 .obtain ⟨m,hn,hl⟩:=I.loc
  refine ⟨m,ns m hn,λi x v e1 e2 e3=>?_⟩
  obtain ⟨u,r,l⟩:=hl i x v e1 e2 e3
  refine ⟨u,r,?_⟩
  rcases l with l | ⟨k,c,e,z⟩
  .exact .inl l
  .exact .inr ⟨k,c,e,cellK x c e _ z⟩
 .obtain ⟨v,z⟩:=I.cell x c e
  exact ⟨v,cellK x c e v z⟩
 .obtain ⟨m,⟨o,_,_,ho,_⟩,_⟩:=I.loc
  exact free _ o (λz=>(Fy _ z).2.1 rfl) ho I.free
 .obtain ⟨v,o,ho,hd⟩:=I.cell x c e
  exact free c o (λz=>(Fy c z).2.2.1 x c e rfl) ho (I.nC x c e)
 .obtain ⟨e,n,ne,nf,d⟩:=I.pin p hp
  have NX:p.1∉ch:=λz=>(Fy p.1 z).2.2.2 p hp rfl
  exact ⟨keep p.1 p.2 ne nf NX e n,free p.1 p.2 NX e n,ne,nf,d⟩
theorem Inv.un(I:Inv X pins σ H s)(u:Un X.fs [] H H' s.heap h')(cF:pE X.prog X.w H' h'):Inv X pins σ H' { s with heap:=h',toks:=t' }:=by
 obtain ⟨m,⟨o,es,ep,ho,r⟩,_⟩:=id I.loc
 obtain ⟨sl,hL⟩:=u.any ho I.free (by simp)
 exact I.step (g':=s.gens) (d':=s.drawn) (ch:=[]) (λ_ z=>nomatch z) (λb o _ hb _ e n=>u.keep b o e n hb (by simp)) (λb o _ hb _ e n=>u.slot b o e n hb (by simp)) (λb o _ e n=>u.free b o e n (by simp)) (λb o _ e=>u.there b o e (by simp)) u.rg u.qo u.rh (λm' hm=>by
  obtain ⟨o',EY,Rg,xR,r'⟩:=hm
  rw [ho] at xR;cases xR
  exact ⟨_,EY,Rg,hL,r'⟩) cF I.bare
theorem Inv.call(I:Inv X pins σ H s)(u:Un (DB X.stack) ch H H' s.heap h')(cF:pE X.prog X.w H' h')(hg:AllBare g')
  (Fy:∀b∈ch,(b∈X.ex\/X.gu.heap.objs.size<=b)/\b≠X.env.locals/\(∀x c,X.env.cells.lookup x=some c->c≠b)/\∀p∈X.pn++pins,p.1≠b):
  Inv X pins σ H' { s with heap:=h',gens:=g',drawn:=d',toks:=t' }:=by
 obtain ⟨m,⟨o,es,ep,ho,r⟩,_⟩:=id I.loc
 obtain ⟨sl,hL⟩:=u.any ho I.free λz=>(Fy _ z).2.1 rfl
 exact I.step (ch:=ch) Fy (λb o hL hb hc e n=>u.keep b o e n (λz=>(js.mp (I.zU b z)).elim hL hb) hc) (λb o _ _ hc e n=>u.any e n hc) (λb o hc e n=>u.free b o e n hc) (λb o hc e=>u.there b o e hc) u.rg u.qo u.rh (λm' hm=>by
  obtain ⟨o',EY,Rg,xR,r'⟩:=hm
  rw [ho] at xR;cases xR
  exact ⟨_,EY,Rg,hL,r'⟩) cF hg
theorem Inv.turned(I:Inv X pins σ H s)(k:∀b o,b≠it->s.heap.get? b=some o->h'.get? b=some o)(hn:H it=none)(hL:it≠X.env.locals)
  (h1:it∈X.ex\/X.gu.heap.objs.size<=it)(h2:∀x c,X.env.cells.lookup x=some c->c≠it)(h3:∀p∈X.pn++pins,p.1≠it):Inv X pins σ H { s with heap:=h',toks:=t' }:=by
 have Z8:∀b u,H b=some u->b≠it:=λb u e z=>by rw [z,hn] at e;cases e
 refine I.step (g':=s.gens) (d':=s.drawn) (ch:=[it]) (λb hb=>?_) (λb o _ _ hc e _=>k b o (λz=>hc (by simp [z])) e) (λb o _ _ hc e _=>⟨o.slots,k b o (λz=>hc (by simp [z])) e⟩) (λ_ _ _ _ n=>n)
  (λb o hc e=>⟨o,k b o (λz=>hc (by simp [z])) e⟩) (λ_ _ e=>e) (λ_ _ _ e=>e) (λb ps e=>⟨#[],by rw [e];simp⟩) (λm hm=>?_) (λb u e=>?_) I.bare
 .have e:b=it:=by simpa using hb
  subst e
  exact ⟨h1,hL,h2,h3⟩
 .obtain ⟨o,es,ep,ho,r⟩:=hm
  exact ⟨o,es,ep,k _ o (wF hL) ho,r⟩
 .refine (I.cF b u e).CJ (λc v hc q=>k c v ?_ q) (λ_ _ _ q=>q) λ_ _ q=>q
  rcases hc with z | z
  .rw [z];exact Z8 b u e
  .exact Z8 c _ z
theorem Inv.tok(I:Inv X pins σ H s)(t:Nat):Inv X pins σ H { s with toks:=t }:=I.un (h':=s.heap) (t':=t) Un.refl I.cF
theorem Inv.kept(I:Inv X pins σ H s)(k:∀b u,s.heap.get? b=some u->h'.get? b=some u):Inv X pins σ H { s with heap:=h',toks:=t' }:=I.un (Un.kept k) (I.cF.kept k)
theorem Inv.laid{a:Addr}{o:HO}{t':Nat}(I:Inv X pins σ H s)(k:∀b u,s.heap.get? b=some u->h'.get? b=some u)(hp:s.heap.objs.size<=a)(new:dr X.prog X.w (upd H a o) h' a o):
  Inv X pins σ (upd H a o) { s with heap:=h',toks:=t' }:=I.un (Un.laid k hp (I.cF.fresh hp)) (I.cF.laid k hp new)
theorem Inv.write(I:Inv X pins σ H s)(mu:QE (H x))(he:e=x\/H e=some (.own x))(k:∀b u,b≠e->s.heap.get? b=some u->h'.get? b=some u)(Ld:∃u,h'.get? e=some u)
  (new:dr X.prog X.w (upd H x o) h' x o):Inv X pins σ (upd H x o) { s with heap:=h',toks:=t' }:=I.un (Un.write mu he k Ld) (I.cF.write mu he k Ld new)
theorem Inv.p5(I:Inv X pins σ H s)(h:∀p∈NB,s.heap.get? p.1=some p.2/\H p.1=none/\p.1≠X.env.locals/\p.1∉X.fs/\∀v,p.2.data≠.cell v):Inv X NB σ H s:=
 ⟨I.ok,I.os,I.bare,I.base,I.loc,I.cell,I.free,I.nC,λp hp=>(zK.mp hp).elim (λz=>I.pin p (Hg _ z)) (h p),I.cF,I.len⟩
theorem b0J{N:List Str}(hN:N.Nodup){i j:Nat}{x:Str}(a:N[i]?=some x)(b:N[j]?=some x):i=j:=by
 obtain ⟨h1,e1⟩:=z9.mp a
 obtain ⟨h2,e2⟩:=z9.mp b
 exact (W' hN).mp (e1.trans e2.symm)
theorem YJ(I:Inv X pins σ H s)(hN:X.N.Nodup)(hi:X.N[i]?=some x)(hx:Loc X.env.scope x)(r:RelV v u)
  (h:∀s',Inv X pins (σ.set i (some v)) H s'->(∃a,E5 a s.heap s'.heap/\(a=X.env.locals\/X.env.cells.lookup x=some a))->Q () s')(hf:X.fn x=true\/X.env.scope.names.lookup x=some .local:=by first | exact .inl rfl | exact .inr rfl | assumption):wpAny M A (storeName X.env x u) Q E s:=by
 obtain ⟨m,hn,hl⟩:=id I.loc
 have V1:(X.env.scope.kind==.class||(X.env.scope.kind==.module&&X.env.locals != X.env.globals))=false:=by rw [I.ok.kind];rfl
 have Ov:i<σ.length:=by rw [I.len];exact (z9.mp hi).1
 have J1:=I.J1
 have tracked:∀{a:Addr} {h':Heap},(∃o,s.heap.get? a=some o/\H a=none)->E5 a s.heap h'->pE X.prog X.w H h':=λ{a h'} ha hs b ob e=>by
  obtain ⟨_,_,HP⟩:=ha
  refine (I.cF b ob e).CJ (λc w' hc q=>(hs.2 c ?_).trans q) (λ_ _ _ q=>q) λ_ _ q=>q
  rintro rfl
  rcases hc with rfl | hc
  .rw [HP] at e;cases e
  .rw [HP] at hc;cases hc
 rcases hx with hk | hk
 .refine wpAny_storeName_local hk hn (λh' hn' hs=>?_) V1
  obtain ⟨oL,_,_,hoL,_⟩:=id hn
  refine h _ ⟨I.ok,I.os,I.bare,⟨λb o e n hb hx=>?_,λb o e n hb hx=>?_,I.base.free,λb o e hx=>?_,I.base.rg,I.base.qo,I.base.rh⟩,⟨_,hn',λj y v' e1 e2 e3=>?_⟩,λy c e=>?_,I.free,I.nC,λp hp=>?_,tracked ⟨oL,hoL,I.free⟩ hs,by simpa using I.len⟩ ⟨_,hs,.inl rfl⟩
  .exact (hs.2 b (g0 (Am (eY e) I.ok.above))).trans (I.base.keep b o e n hb hx)
  .obtain ⟨sl,e1⟩:=I.base.slot b o e n hb hx
   exact ⟨sl,(hs.2 b (g0 (Am (eY e) I.ok.above))).trans e1⟩
  .obtain ⟨o',e1⟩:=I.base.there b o e hx
   exact ⟨o',(hs.2 b (g0 (Am (eY e) I.ok.above))).trans e1⟩
  .by_cases hj:j=i
   .subst hj
    rw [hi] at e1;cases e1
    rw [wG Ov] at e2
    cases e2
    exact ⟨u,r,.inl ⟨hk,by simp⟩⟩
   .rw [ml (wF hj)] at e2
    obtain ⟨u',r',q⟩:=hl j y v' e1 e2 e3
    refine ⟨u',r',?_⟩
    rcases q with ⟨k,e⟩ | ⟨k,c,e,z⟩
    .refine .inl ⟨k,?_⟩
     have:y≠x:=λe=>hj (b0J hN e1 (e▸hi))
     simp [this,e]
    .exact .inr ⟨k,c,e,z.sameBut hs (J1 y c e)⟩
  .obtain ⟨w',z⟩:=I.cell y c e
   exact ⟨w',z.sameBut hs (J1 y c e)⟩
  .obtain ⟨e,n,ne,nf,d⟩:=I.pin p hp
   exact ⟨(hs.2 p.1 ne).trans e,n,ne,nf,d⟩
 .have VX:X.fn x=true:=by
   rcases hf with z | z
   .exact z
   .rw [z] at hk;cases hk
  obtain ⟨c,hc⟩:=I.ok.has x (.inl hk)
  obtain ⟨w',z⟩:=I.cell x c hc
  refine wpAny_storeName_cell I.ok.kind hk hc z (λh' Fz hs=>?_)
  obtain ⟨oc,hoc,VM⟩:=id z
  refine h { s with heap:=h' } ⟨I.ok,I.os,I.bare,⟨λb o e n hb hx=>?_,λb o e n hb hx=>?_,I.base.free,λb o e hx=>?_,I.base.rg,I.base.qo,I.base.rh⟩,⟨m,hn.sameBut hs (wF (J1 x c hc)),λj y v' e1 e2 e3=>?_⟩,λy c' e=>?_,I.free,I.nC,λp hp=>?_,tracked ⟨oc,hoc,I.nC x c hc⟩ hs,by simpa using I.len⟩ ⟨c,hs,.inr hc⟩
  .exact (hs.2 b (g0 (Am (eY e) (I.ok.Pg x c VX hc)))).trans (I.base.keep b o e n hb hx)
  .obtain ⟨sl,e1⟩:=I.base.slot b o e n hb hx
   exact ⟨sl,(hs.2 b (g0 (Am (eY e) (I.ok.Pg x c VX hc)))).trans e1⟩
  .obtain ⟨o',e1⟩:=I.base.there b o e hx
   exact ⟨o',(hs.2 b (g0 (Am (eY e) (I.ok.Pg x c VX hc)))).trans e1⟩
  .by_cases hj:j=i
   .subst hj
    rw [hi] at e1;cases e1
    rw [wG Ov] at e2
    cases e2
    exact ⟨u,r,.inr ⟨.inl hk,c,hc,Fz⟩⟩
   .rw [ml (wF hj)] at e2
    obtain ⟨u',r',q⟩:=hl j y v' e1 e2 e3
    refine ⟨u',r',?_⟩
    rcases q with q | ⟨k,c',e,z'⟩
    .exact .inl q
    .refine .inr ⟨k,c',e,z'.sameBut hs ?_⟩
     rintro rfl
     exact hj (b0J hN e1 (I.ok.inj _ _ _ e hc▸hi))
  .by_cases hcc:c'=c
   .subst hcc;exact ⟨_,Fz⟩
   .obtain ⟨w2,z2⟩:=I.cell y c' e
    exact ⟨w2,z2.sameBut hs hcc⟩
  .obtain ⟨e,n,ne,nf,d⟩:=I.pin p hp
   refine ⟨(hs.2 p.1 ?_).trans e,n,ne,nf,d⟩
   intro q
   rw [q,hoc] at e
   have q':oc=p.2:=lH e
   exact d w' (by rw [<-q'];exact VM)
theorem b0x(I:Inv X pins σ H s)(hN:X.N.Nodup)(hi:X.N[i]?=some x)(hx:Loc X.env.scope x)(r:RelV v u)
  (h:∀s',Inv X pins (σ.set i (some v)) H s'->Q () s')(hf:X.fn x=true\/X.env.scope.names.lookup x=some .local:=by first | exact .inl rfl | exact .inr rfl | assumption):wpAny M A (storeName X.env x u) Q E s:=
 YJ I hN hi hx r (λs' I' _=>h s' I') hf
theorem Inv.Pf(I:Inv X pins σ H s)(ho:s'.os=s.os)(u:Un (DB X.stack) ch H H' s.heap s'.heap)(cF:pE X.prog X.w H' s'.heap)(hg:AllBare s'.gens)
  (Fy:∀b∈ch,(b∈X.ex\/X.gu.heap.objs.size<=b)/\b≠X.env.locals/\(∀x c,X.env.cells.lookup x=some c->c≠b)/\∀p∈X.pn++pins,p.1≠b):Inv X pins σ H' s':=by
 obtain ⟨h',g',d',t',o'⟩:=s'
 have e:o'=s.os:=ho
 subst e
 exact I.call (g':=g') (t':=t') (d':=d') u cF hg Fy
end
abbrev XK:=Value->Option Addr->Hp->Prop
abbrev St:=List (Option V)
abbrev VK:=V->Hp->Prop
abbrev TE:=St->Hp->VK->Prop
abbrev TT:=St->Hp->(Bool->Hp->Prop)->Prop
abbrev TA:=St->Hp->(List V->Hp->Prop)->Prop
structure Ends where
 nx:St->Hp->Prop
 rt:VK
 bk:St->Hp->Prop:=λ_ _=>False
 ct:St->Hp->Prop:=λ_ _=>False
abbrev TS:=Ends->St->Hp->Prop
def EP(X:Cx)(pins:List (Addr×Obj))(σ:St)(Q:VK)(u:Value)(s':Shared):Prop:=∃v H',Inv X pins σ H' s'/\RelV v u/\Q v H'
def TP(X:Cx)(pins:List (Addr×Obj))(σ:St)(Q:Bool->Hp->Prop)(b:Bool)(s':Shared):Prop:=∃H',Inv X pins σ H' s'/\Q b H'
def AP(X:Cx)(pins:List (Addr×Obj))(σ:St)(Q:List V->Hp->Prop)(us:List Value)(s':Shared):Prop:=∃vs H',Inv X pins σ H' s'/\aU vs us/\Q vs H'
def SP(X:Cx)(pins:List (Addr×Obj))(D:Ends)(f:Flow)(s':Shared):Prop:=
 match f with
 | .next=>∃bB H',Inv X pins bB H' s'/\D.nx bB H'
 | .brk=>∃bB H',Inv X pins bB H' s'/\D.bk bB H'
 | .cont=>∃bB H',Inv X pins bB H' s'/\D.ct bB H'
 | .ret u=>∃v bB H',Inv X pins bB H' s'/\RelV v u/\D.rt v H'
def PE(X:Cx)(e:Expr)(t:TE):Prop:=
 ∀(pins:List (Addr×Obj)) (s:Shared) (σ:St) (H:Hp) (Q:VK),Inv X pins σ H s->t σ H Q->wpAny (model X.prog X.w) X.A (eval e X.env) (EP X pins σ Q) X.xe s
def PT(X:Cx)(e:Expr)(t:TT):Prop:=
 ∀(pins:List (Addr×Obj)) (s:Shared) (σ:St) (H:Hp) (Q:Bool->Hp->Prop),Inv X pins σ H s->t σ H Q->wpAny (model X.prog X.w) X.A (isTrue e X.env (eval e X.env)) (TP X pins σ Q) X.xe s
def PW(X:Cx)(e:Expr)(t:TT):Prop:=
 ∀(whole:Sem Value) (pins:List (Addr×Obj)) (s:Shared) (σ:St) (H:Hp) (Q:Bool->Hp->Prop),Inv X pins σ H s->t σ H Q->wpAny (model X.prog X.w) X.A (isTrue e X.env whole) (TP X pins σ Q) X.xe s
theorem PW.pt(h:PW X e t):PT X e t:=h _
def PA(X:Cx)(es:List Expr)(t:TA):Prop:=
 ∀(pos:Pos) (pins:List (Addr×Obj)) (s:Shared) (σ:St) (H:Hp) (Q:List V->Hp->Prop),Inv X pins σ H s->t σ H Q->wpAny (model X.prog X.w) X.A (spliced (backTo pos (starEach es X.env))) (AP X pins σ Q) X.xe s
def PS(X:Cx)(st:Stmt)(t:TS):Prop:=
 ∀(pins:List (Addr×Obj)) (s:Shared) (σ:St) (H:Hp) (D:Ends),Inv X pins σ H s->t D σ H->wpAny (model X.prog X.w) X.A (exec st X.env) (SP X pins D) X.xe s
def Bm(X:Cx)(st:List Stmt)(t:TS):Prop:=
 ∀(pins:List (Addr×Obj)) (s:Shared) (σ:St) (H:Hp) (D:Ends),Inv X pins σ H s->t D σ H->wpAny (model X.prog X.w) X.A (execs st X.env) (SP X pins D) X.xe s
theorem cM{α:Type}{t:Sem α}{Q Q':α->Shared->Prop}{M:Model}{A:Around}{E:Value->Shared->Prop}{s:Shared}(h:wpAny M A t Q E s)(hQ:∀a s,Q a s->Q' a s):wpAny M A t Q' E s:=z8 h hQ λ_ _ x=>x
end L2
namespace L2
open PySem PySem.Spec PyProof.Rows
section
variable {X:Cx}
theorem bin{a b:Expr}{ta tb:TE}(ha:PE X a ta)(hb:PE X b tb){pins:List (Addr×Obj)}{s:Shared}{σ:St}{H:Hp}{R:V->V->Hp->Prop}(I:Inv X pins σ H s)(h:ta σ H λx H1=>tb σ H1 λy H2=>R x y H2)
  {α:Type}{Q:α->Shared->Prop}{f:Value->Value->Sem α}
  (hf:∀v u s2 x y H2,Inv X pins σ H2 s2->RelV x v->RelV y u->R x y H2->wpAny (model X.prog X.w) X.A (f v u) Q X.xe s2):
  wpAny (model X.prog X.w) X.A (eval a X.env) (λv bA=>wpAny (model X.prog X.w) X.A (eval b X.env) (λu g7=>wpAny (model X.prog X.w) X.A (f v u) Q X.xe g7) X.xe bA) X.xe s:=by
 refine cM (ha pins s σ H _ I h) λv s1 ⟨x,H1,I1,r1,q1⟩=>?_
 refine cM (hb pins s1 σ H1 _ I1 q1) λu s2 ⟨y,H2,I2,r2,q2⟩=>?_
 exact hf v u s2 x y H2 I2 r1 r2 q2
def UJ(i:Nat):TE:=λσ H Q=>∃v,σ[i]?=some (some v)/\Q v H
def tC(v:V):TE:=λ_ H Q=>Q v H
theorem Bi{i:Nat}{x:Str}{pos:Pos}(hN:X.N[i]?=some x)(hv:l4 X.env.scope x)(hd:(x==("__debug__":Str))=false:=by decide)(de:(x==("__classdict__":Str))=false:=by decide):PE X (.Name x pos) (UJ i):=by
 intro pins s σ H Q I h
 obtain ⟨v,e,h⟩:=h
 obtain ⟨m,hn,hl⟩:=I.loc
 obtain ⟨u,r,l⟩:=hl i x v hN e hv
 have fin:EP X pins σ Q u s:=⟨v,H,I,r,h⟩
 rcases l with ⟨hk,hm⟩ | ⟨hk,c,hc,xU⟩
 .exact wpAny_Name (wpAny_loadName_local I.ok.kind hk hn hm fin) hd
 .rcases hk with hk | hk
  .exact wpAny_Name (wpAny_loadName_cell I.ok.kind hk hc xU fin) hd
  .exact wpAny_Name (wpAny_loadName_free I.ok.kind hk hc xU fin de) hd
theorem b9S{i j pos}:PE X (.Constant (.int i) j pos) (tC (.int i)):=λ_ _ _ H _ I h=>wpAny_Constant_int ⟨.int i,H,I.tok _,⟨_,rfl⟩,h⟩
theorem NI{b j pos}:PE X (.Constant (.bool b) j pos) (tC (.bl b)):=λ_ _ _ H _ I h=>Constant_bool ⟨.bl b,H,I,rfl,h⟩
theorem b9N{x j pos}:PE X (.Constant (.str x) j pos) (tC (.str x)):=λ_ _ _ H _ I h=>Calls.Constant_str ⟨.str x,H,I.tok _,⟨_,rfl⟩,h⟩
def Gl(X:Cx)(x:Str):Prop:=X.env.kindOf x=some .globalImplicit
theorem S3{E:Value->Shared->Prop}{pins:List (Addr×Obj)}{s:Shared}{σ:St}{H:Hp}{x:Str}{u:Value}{pos:Pos}{Q:Value->Shared->Prop}(I:Inv X pins σ H s)(hg:Gl X x)(hm:X.mg x=some u)(h:Q u s)
  (hd:(x==("__debug__":Str))=false:=by decide):wpAny (model X.prog X.w) X.A (eval (.Name x pos) X.env) Q E s:=
 c42 I.ok.kind hg (Calls.loadGlobal_global (by rw [I.ok.glob];exact I.mod.glob.keeps I.bk) hm h) hd
theorem L1{E:Value->Shared->Prop}{pins:List (Addr×Obj)}{s:Shared}{σ:St}{H:Hp}{x:Str}{u:Value}{pos:Pos}{Q:Value->Shared->Prop}(I:Inv X pins σ H s)(hg:Gl X x)(hm:X.mg x=none)(hv:bootBuiltins x=some u)(h:Q u s)
  (hn:x ≠ "__name__":=by decide)(hd:(x==("__debug__":Str))=false:=by decide):wpAny (model X.prog X.w) X.A (eval (.Name x pos) X.env) Q E s:=by
 obtain ⟨mb,h1,h2⟩:=I.mod.blt
 exact c42 I.ok.kind hg (Calls.loadGlobal_builtin (by rw [I.ok.glob];exact I.mod.glob.keeps I.bk) hm (by rw [I.ok.blt];exact h1.keeps I.bk) ((h2 x hn).trans hv) h) hd
theorem Ye(hg:Gl X x)(hm:X.mg x=some u)(r:RelV v u)(hd:(x==("__debug__":Str))=false:=by decide):PE X (.Name x pos) (tC v):=
 λ_ _ _ H _ I h=>S3 I hg hm ⟨v,H,I,r,h⟩ hd
theorem b7e{x:Str}{v:V}{u:Value}{pos:Pos}(hg:Gl X x)(hm:X.mg x=none)(hv:bootBuiltins x=some u)(r:RelV v u)(hn:x ≠ "__name__":=by decide)(hd:(x==("__debug__":Str))=false:=by decide):PE X (.Name x pos) (tC v):=
 λ_ _ _ H _ I h=>L1 I hg hm hv ⟨v,H,I,r,h⟩ hn hd
variable {a b:Expr}{ta tb:TE}{pos:Pos}
def PC(X:Cx)(op:CmpOp)(a b:Expr)(t:TE):Prop:=
 ∀(pins:List (Addr×Obj)) (s:Shared) (σ:St) (H:Hp) (Q:VK),Inv X pins σ H s->t σ H Q ->
  wpAny (model X.prog X.w) X.A (eval a X.env) (λv bA=>wpAny (model X.prog X.w) X.A (eval b X.env) (λu g7=>wpAny (model X.prog X.w) X.A (compareOp op v u) (EP X pins σ Q) X.xe g7) X.xe bA) X.xe s
theorem b4v(b:Expr)(h:op≠.In)(h2:op≠.NotIn):behindInMarks op b=false:=by
 have e1:(op==CmpOp.In)=false:=by cases op<;>first | rfl | exact absurd rfl h
 have e2:(op==CmpOp.NotIn)=false:=by cases op<;>first | rfl | exact absurd rfl h2
 cases b<;>simp [behindInMarks,e1,e2]
def tB(t:TE):TT:=λσ H Q=>t σ H λx H1=>∃c,x=.bl c/\Q c H1
theorem b5W(h:PC X op a b t)(h1:behindInMarks op b=false:=by first | exact b4v _ (by decide) (by decide) | rfl):PT X (.Compare a [op] [b] pos) (tB t):=by
 intro pins s σ H Q I hw
 refine wpAny_isTrue_Compare1 (cM (h pins s σ H _ I hw) λv s1 h1=>cM h1 λu s2 h2=>cM h2 λc s3 ⟨x,H1,I1,r1,q1⟩=>?_) h1
 obtain ⟨d,rfl,q⟩:=q1
 cases r1
 exact Ik ⟨H1,I1,q⟩
variable {tA QP:TT}{rest:List Expr}
def UW(t u:TT):TT:=λσ H Q=>t σ H λc H1=>if c=true then u σ H1 Q else Q false H1
def tOr(t u:TT):TT:=λσ H Q=>t σ H λc H1=>if c=true then Q true H1 else u σ H1 Q
def UO(t:TT):TT:=λσ H Q=>t σ H λc H1=>Q (!c) H1
theorem b61(ha:PT X a tA):PW X (.BoolOp .And [a] pos) tA:=by
 intro wh pins s σ H Q I h
 refine isTrue_and (cM (ha pins s σ H Q I h) λc s1 e=>?_)
 cases c with
 | true=>exact isTrue_and_nil e
 | false=>exact e
theorem b9D(ha:PT X a tA):PW X (.BoolOp .Or [a] pos) tA:=by
 intro wh pins s σ H Q I h
 refine isTrue_or (cM (ha pins s σ H Q I h) λc s1 e=>?_)
 cases c with
 | false=>exact isTrue_or_nil e
 | true=>exact e
theorem b9E(ha:PT X a tA)(hb:PW X (.BoolOp .And (b::rest) pos) QP):PW X (.BoolOp .And (a::b::rest) pos) (UW tA QP):=by
 intro wh pins s σ H Q I h
 refine isTrue_and (cM (ha pins s σ H _ I h) λc s1 ⟨H1,I1,q1⟩=>?_)
 cases c with
 | true=>exact hb wh pins s1 σ H1 Q I1 q1
 | false=>exact ⟨H1,I1,q1⟩
theorem pw_or(ha:PT X a tA)(hb:PW X (.BoolOp .Or (b::rest) pos) QP):PW X (.BoolOp .Or (a::b::rest) pos) (tOr tA QP):=by
 intro wh pins s σ H Q I h
 refine isTrue_or (cM (ha pins s σ H _ I h) λc s1 ⟨H1,I1,q1⟩=>?_)
 cases c with
 | true=>exact ⟨H1,I1,q1⟩
 | false=>exact hb wh pins s1 σ H1 Q I1 q1
theorem b9G(ha:PT X a tA):PT X (.UnaryOp .Not a pos) (UO tA):=by
 intro pins s σ H Q I h
 exact isTrue_not (ha pins s σ H (λc H1=>Q (!c) H1) I h)
def Na(ta tb:TE):TE:=λσ H Q=>ta σ H λx H1=>∃c,x=.bl c/\if c=true then tb σ H1 Q else Q (.bl false) H1
def UN(ta tb:TE):TE:=λσ H Q=>ta σ H λx H1=>∃c,x=.bl c/\if c=true then Q (.bl true) H1 else tb σ H1 Q
theorem b9P{op}(h:PE X a t):PE X (.BoolOp op [a] pos) t:=λpins s σ H Q I hw=>BoolOp_one (h pins s σ H Q I hw)
theorem b9U(ha:PE X a ta)(hb:PE X (.BoolOp .And (b::rest) pos) tb):PE X (.BoolOp .And (a::b::rest) pos) (Na ta tb):=by
 intro pins s σ H Q I h
 refine BoolOp_and (cM (ha pins s σ H _ I h) λv s1 ⟨x,H1,I1,r1,q1⟩=>?_)
 obtain ⟨c,rfl,q1⟩:=q1
 cases r1
 refine Ik ?_
 cases c with
 | true=>exact hb pins s1 σ H1 Q I1 q1
 | false=>exact ⟨.bl false,H1,I1,rfl,q1⟩
theorem b9O(ha:PE X a ta)(hb:PE X (.BoolOp .Or (b::rest) pos) tb):PE X (.BoolOp .Or (a::b::rest) pos) (UN ta tb):=by
 intro pins s σ H Q I h
 refine BoolOp_or (cM (ha pins s σ H _ I h) λv s1 ⟨x,H1,I1,r1,q1⟩=>?_)
 obtain ⟨c,rfl,q1⟩:=q1
 cases r1
 refine Ik ?_
 cases c with
 | false=>exact hb pins s1 σ H1 Q I1 q1
 | true=>exact ⟨.bl true,H1,I1,rfl,q1⟩
end
end L2
namespace L2
open PySem PySem.Spec PyProof.Rows
def lM(K:aX)(H:Hp)(a:Addr)(xs:List V):Prop:=
 Rd H a (.lst xs) \/
  ∃(o:Obj) (aJ:Array Value) (n:Nat),K.lookup a=some o/\o.cls=.type "list" /\ o.dict=none/\o.data=.seq aJ n/\aJ.size<=sizeLine/\aU xs aJ.toList
def oj(K:aX)(H:Hp)(a:Addr)(xs:List V):Prop:=
 Rd H a (.tup xs) \/
  ∃(o:Obj) (aJ:Array Value) (n:Nat),K.lookup a=some o/\o.cls=.type "tuple" /\ o.data=.seq aJ n/\aJ.size<=sizeLine/\aU xs aJ.toList
def Yc:Value->Option V
 | .none=>some .cT
 | .bool b=>some (.bl b)
 | .int i _=>some (.int i)
 | .str x _=>some (.str x)
 | .bytes b _=>some (.LK b)
 | .float b _=>some (.Lf b)
 | .ref a=>some (.ref a)
 | .type n=>some (.ty n)
 | _=>none
theorem RelV.abs(r:RelV x u):Yc u=some x:=by
 cases x with
 | cT=>cases r;rfl
 | bl _=>cases r;rfl
 | int _=>obtain ⟨t,rfl⟩:=r;rfl
 | str _=>obtain ⟨t,rfl⟩:=r;rfl
 | LK _=>obtain ⟨t,rfl⟩:=r;rfl
 | Lf _=>obtain ⟨t,rfl⟩:=r;rfl
 | ref _=>cases r;rfl
 | ty _=>cases r;rfl
theorem RelV.inj(r:RelV x u)(q:RelV y u):x=y:=lH (r.abs.symm.trans q.abs)
theorem aU.inj:∀{xs ys:List V} {us:List Value},aU xs us->aU ys us->xs=ys
 | _,_,_,.nil,.nil=>rfl
 | _,_,_,.cons r t,.cons r' t'=>by rw [r.inj r',aU.inj t t']
section
variable {X:Cx}{pins:List (Addr×Obj)}{σ:St}{H:Hp}{s:Shared}{a:Addr}{xs ys:List V}
theorem lM.of{K:aX}(h:H a=some (.lst xs)):lM K H a xs:=.inl (.inl h)
theorem oj.of{K:aX}(h:H a=some (.tup xs)):oj K H a xs:=.inl (.inl h)
theorem Inv.list(I:Inv X pins σ H s)(h:lM X.K H a xs):∃aJ:List Value,aU xs aJ/\PlainL s.heap a aJ.toArray/\xs.length<=sizeLine:=by
 rcases h with h | ⟨o,aJ,n,hk,hc,hd,hs,hz,r⟩
 .obtain ⟨z,aJ,n,r,e⟩:=h.ok I.cF
  exact ⟨aJ,r,⟨_,n,e,rfl,rfl,rfl⟩,z⟩
 .refine ⟨aJ.toList,r,⟨o,n,I.Ay a o hk,hc,hd,by simpa using hs⟩,?_⟩
  have e:=r.length
  simp only [Cq] at e
  omega
theorem Inv.tuple(I:Inv X pins σ H s)(h:oj X.K H a xs):∃aJ:List Value,aU xs aJ/\IsTup s.heap a aJ.toArray/\xs.length<=sizeLine:=by
 rcases h with h | ⟨o,aJ,n,hk,hc,hs,hz,r⟩
 .obtain ⟨z,aJ,r,p⟩:=h.ok I.cF
  exact ⟨aJ,r,p,z⟩
 .refine ⟨aJ.toList,r,⟨o,I.Ay a o hk,hc,n,by simpa using hs⟩,?_⟩
  have e:=r.length
  simp only [Cq] at e
  omega
theorem Inv.Ax(I:Inv X pins σ H s)(h:lM X.K H a xs)(h':lM X.K H a ys):xs=ys:=by
 obtain ⟨aJ,r,⟨o,n,e,_,_,d⟩,_⟩:=I.list h
 obtain ⟨its',r',⟨o',n',e',_,_,d'⟩,_⟩:=I.list h'
 rw [e] at e';cases e'
 rw [d] at d'
 injection d' with d1 _
 have:aJ=its':=by simpa using congrArg Array.toList d1
 subst this
 exact r.inj r'
theorem Inv.zG(I:Inv X pins σ H s)(h:oj X.K H a xs)(h':oj X.K H a ys):xs=ys:=by
 obtain ⟨aJ,r,⟨o,e,_,n,d⟩,_⟩:=I.tuple h
 obtain ⟨its',r',⟨o',e',_,n',d'⟩,_⟩:=I.tuple h'
 rw [e] at e';cases e'
 rw [d] at d'
 injection d' with d1 _
 have:aJ=its':=by simpa using congrArg Array.toList d1
 subst this
 exact r.inj r'
end
abbrev Cx.pF(X:Cx)(E:Value->Shared->Prop):Cx:={ X with xe:=E }
abbrev Cx.tX(X:Cx):Cx:=X.pF λ_ _=>False
theorem Cx.Ok.pF{X:Cx}(ok:X.Ok)(E:Value->Shared->Prop):(X.pF E).Ok:=
 ⟨ok.mod,ok.kind,ok.glob,ok.blt,ok.above,ok.inj,ok.has,ok.Pg,ok.hd,ok.frames,ok.QR,ok.exf,ok.bs,ok.E7,ok.EJ,ok.G6,ok.sv,ok.HU⟩
theorem Cx.Ok.fK{X:Cx}(ok:(X.pF E).Ok):X.Ok:=
 ⟨ok.mod,ok.kind,ok.glob,ok.blt,ok.above,ok.inj,ok.has,ok.Pg,ok.hd,ok.frames,ok.QR,ok.exf,ok.bs,ok.E7,ok.EJ,ok.G6,ok.sv,ok.HU⟩
section
variable {X:Cx}{pins:List (Addr×Obj)}{σ:St}{H:Hp}{s:Shared}{E:Value->Shared->Prop}
theorem Inv.pF(I:Inv X pins σ H s)(E:Value->Shared->Prop):Inv (X.pF E) pins σ H s:=⟨I.ok.pF E,I.os,I.bare,I.base,I.loc,I.cell,I.free,I.nC,I.pin,I.cF,I.len⟩
theorem Inv.fK(I:Inv (X.pF E) pins σ H s):Inv X pins σ H s:=⟨I.ok.fK,I.os,I.bare,I.base,I.loc,I.cell,I.free,I.nC,I.pin,I.cF,I.len⟩
theorem SP.fK(h:SP (X.pF E) pins D f s'):SP X pins D f s':=by
 cases f with
 | next=>obtain ⟨bB,H',I,q⟩:=h;exact ⟨bB,H',I.fK,q⟩
 | brk=>obtain ⟨bB,H',I,q⟩:=h;exact ⟨bB,H',I.fK,q⟩
 | cont=>obtain ⟨bB,H',I,q⟩:=h;exact ⟨bB,H',I.fK,q⟩
 | ret u=>obtain ⟨v,bB,H',I,r,q⟩:=h;exact ⟨v,bB,H',I.fK,r,q⟩
theorem PE.tX(h:PE X.tX e t):PE X e t:=λpins s σ H Q I hw =>
 z8 (h pins s σ H Q (I.pF _) hw) (λ_ _ ⟨v,H',I',r,q⟩=>⟨v,H',I'.fK,r,q⟩) λ_ _ z=>zp z
theorem PT.tX(h:PT X.tX e t):PT X e t:=λpins s σ H Q I hw =>
 z8 (h pins s σ H Q (I.pF _) hw) (λ_ _ ⟨H',I',q⟩=>⟨H',I'.fK,q⟩) λ_ _ z=>zp z
theorem Bm.tX{st:List Stmt}{t:TS}(h:Bm X.tX st t):Bm X st t:=λpins s σ H D I hw =>
 z8 (h pins s σ H D (I.pF _) hw) (λ_ _ q=>q.fK) λ_ _ z=>zp z
end
section
variable {X:Cx}{st:Stmt}{rest:List Stmt}{t u:TS}{e:Expr}{te:TE}{pos:Pos}
def M5:TS:=λD σ H=>D.nx σ H
def UL(t u:TS):TS:=λD σ H=>t { D with nx:=u D } σ H
theorem Yf:Bm X [] M5:=λ_ _ σ H _ I h=>RL ⟨σ,H,I,h⟩
theorem Mc(h1:PS X st t)(h2:Bm X rest u):Bm X (st::rest) (UL t u):=by
 intro pins s σ H D I h
 refine wpAny_execs_cons (cM (h1 pins s σ H { D with nx:=u D } I h) λf s1 q=>?_)
 cases f with
 | next =>
  obtain ⟨bB,H',I',q⟩:=q
  exact h2 pins s1 bB H' D I' q
 | ret v=>exact q
 | brk=>exact q
 | cont=>exact q
theorem b63(h1:PS X st t):Bm X [st] t:=by
 intro pins s σ H D I h
 refine wpAny_execs_cons (cM (h1 pins s σ H D I h) λf s1 q=>?_)
 cases f with
 | next=>exact RL q
 | ret v=>exact q
 | brk=>exact q
 | cont=>exact q
theorem Inv.quiet{pins:List (Addr×Obj)}{σ:St}{H:Hp}{s:Shared}(I:Inv X pins σ H s):interactive X.env=false:=by simp [interactive,I.ok.kind]
def M7(te:TE):TS:=λD σ H=>te σ H λ_ H1=>D.nx σ H1
theorem Kz(he:PE X e te)(hs:swapsWith e none pos.line X.env=pure false:=by rfl):PS X (.Expr e pos) (M7 te):=by
 intro pins s σ H D I h
 exact wpAny_Expr_any (cM (he pins s σ H _ I h) λv s1 ⟨x,H1,I1,r1,q1⟩=>⟨σ,H1,I1,q1⟩) I.quiet hs
def UM(te:TE):TS:=λD σ H=>te σ H D.rt
theorem b5X(he:PE X e te):PS X (.Return (some e) pos) (UM te):=by
 intro pins s σ H D I h
 exact wpAny_Return_some (cM (he pins s σ H _ I h) λv s1 ⟨x,H1,I1,r1,q1⟩=>⟨x,σ,H1,I1,r1,q1⟩)
def UQ(c:TT)(t u:TS):TS:=λD σ H=>c σ H λb H1=>if b=true then t D σ H1 else u D σ H1
theorem NA(hc:PT X c tc)(ha:Bm X a t)(hb:Bm X b u):PS X (.If c a b pos) (UQ tc t u):=by
 intro pins s σ H D I h
 refine wpAny_If (cM (hc pins s σ H _ I h) λd s1 ⟨H1,I1,q1⟩=>?_)
 cases d with
 | true=>exact ha pins s1 σ H1 D I1 q1
 | false=>exact hb pins s1 σ H1 D I1 q1
end
abbrev TG:=V->St->Hp->(St->Hp->Prop)->Prop
abbrev IK:=List V->St->Hp->(St->Hp->Prop)->Prop
def PG(X:Cx)(target:Expr)(t:TG):Prop:=
 ∀(pins:List (Addr×Obj)) (s:Shared) (σ:St) (H:Hp) (v:V) (u:Value) (Q:St->Hp->Prop),Inv X pins σ H s->RelV v u->t v σ H Q ->
  wpAny (model X.prog X.w) X.A (assign target X.env u) (λ_ s'=>∃bB H',Inv X pins bB H' s'/\Q bB H') X.xe s
def QC(X:Cx)(ts:List Expr)(t:IK):Prop:=
 ∀(pins:List (Addr×Obj)) (s:Shared) (σ:St) (H:Hp) (vs:List V) (us:List Value) (Q:St->Hp->Prop),Inv X pins σ H s->aU vs us->t vs σ H Q ->
  wpAny (model X.prog X.w) X.A (assignInOrder ((assignEach ts X.env).map (·.2)) us) (λ_ s'=>∃bB H',Inv X pins bB H' s'/\Q bB H') X.xe s
abbrev KO:=V->V->V->Hp->(Hp->Prop)->Prop
def QB(X:Cx)(t:KO):Prop:=
 ∀(pins:List (Addr×Obj)) (s:Shared) (σ:St) (H:Hp) (o i v:V) (ov iv u:Value) (Q:Hp->Prop),Inv X pins σ H s->RelV o ov->RelV i iv->RelV v u->t o i v H Q ->
  wpAny (model X.prog X.w) X.A (setItem ov iv u) (λ_ s'=>∃H',Inv X pins σ H' s'/\Q H') X.xe s
section
variable {X:Cx}{pos:Pos}
def c0B(i:Nat):TG:=λv σ H Q=>Q (σ.set i (some v)) H
theorem b7a(hN:X.N.Nodup)(hi:X.N[i]?=some x)(hx:Loc X.env.scope x)(hf:X.fn x=true\/X.env.scope.names.lookup x=some .local:=by first | exact .inl rfl | exact .inr rfl | assumption):PG X (.Name x pos) (c0B i):=by
 intro pins s σ H v u Q I r h
 exact WZ (b0x I hN hi hx r (λs' I'=>⟨_,H,I',h⟩) hf)
def Wg:IK:=λvs σ H Q=>vs=[]/\Q σ H
def OP(t:TG)(u:IK):IK:=λvs σ H Q=>∃v r,vs=v::r/\t v σ H λbB H'=>u r bB H' Q
theorem b69:QC X [] Wg:=by
 intro pins s σ H vs us Q I r h
 obtain ⟨e,h⟩:=h
 subst e
 cases r
 exact assignInOrder_nil ⟨σ,H,I,h⟩
theorem b4n{e:Expr}{es:List Expr}{t:TG}{u:IK}(h1:PG X e t)(h2:QC X es u)
  (hs:(assignEach (e::es) X.env).map (·.2)=assign e X.env::(assignEach es X.env).map (·.2):=by rfl):QC X (e::es) (OP t u):=by
 intro pins s σ H vs us Q I r h
 obtain ⟨v,vr,e1,h⟩:=h
 subst e1
 cases r with
 | cons r rr =>
  rw [hs]
  refine assignInOrder_cons (cM (h1 pins s σ H _ _ _ I r h) λ_ s1 ⟨yH,H1,I1,q1⟩=>?_)
  exact h2 pins s1 yH H1 _ _ Q I1 rr q1
def Wf(K:aX)(n:Nat)(t:IK):TG:=λv σ H Q=>∃a xs,v=.ref a/\oj K H a xs/\xs.length=n/\t xs σ H Q
theorem b9L{es:List Expr}{k:Nat}{t:IK}{n:Nat}(hc:X.calm=true)(h:QC X es t)
  (hn:(assignEach es X.env).length=n:=by rfl)(A9:(assignEach es X.env).findIdx? (·.1)=none:=by rfl):PG X (.Tuple es k pos) (Wf X.K n t):=by
 intro pins s σ H v u Q I r hw
 obtain ⟨a,xs,e1,hq,hl,hw⟩:=hw
 subst e1
 cases r
 obtain ⟨aJ,rv,ht,hz⟩:=I.tuple hq
 refine assign_Tuple_tuple (I.ok.hd hc) ht (by simp [hn,<-hl,rv.length]) A9 λh' hx=>?_
 have I1:Inv X pins σ H { s with heap:=h' }:=I.kept (t':=s.toks) λb o e=>hx b o (g0 (eY e)) e
 exact h pins _ σ H xs _ Q I1 (by simpa using rv) hw
def BQ(to ti:TE)(t:KO):TG:=λv σ H Q=>to σ H λo H1=>ti σ H1 λi H2=>t o i v H2 λH3=>Q σ H3
theorem b9M{o i:Expr}{to ti:TE}{t:KO}(ho:PE X o to)(hi:PE X i ti)(hs:QB X t)
  (ha:∀v,assign (.Subscript o i pos) X.env v=(do
   let ov <-holding [v] (eval o X.env)
   let iv <-holding [v,ov] (eval i X.env)
   standAt pos
   holding [v,ov,iv] (setItem ov iv v)
   release [v,ov,iv] []):=by intro _;rfl):PG X (.Subscript o i pos) (BQ to ti t):=by
 intro pins s σ H v u Q I r h
 rw [ha]
 refine aY (DJ (cM (ho pins s σ H _ I h) λov s1 ⟨x,H1,I1,r1,q1⟩=>?_))
 refine aY (DJ (cM (hi pins s1 σ H1 _ I1 q1) λiv s2 ⟨y,H2,I2,r2,q2⟩=>?_))
 refine aY (Rv (aY (DJ (cM (hs pins s2 σ H2 x y v ov iv u _ I2 r1 r2 r q2) λ_ s3 ⟨H3,I3,q3⟩=>?_))))
 exact wpAny_release ⟨σ,H3,I3,q3⟩
def M'(te:TE)(g:TG):TS:=λD σ H=>te σ H λx H1=>g x σ H1 D.nx
theorem b9H{tg e:Expr}{te:TE}{g:TG}(he:PE X e te)(hg:PG X tg g)(hs:swapsWithSole [tg] e pos.line X.env=pure false:=by rfl)(hw:swappedStores [tg] e X.env=pure none:=by rfl)
  (h1:(assignEach [tg] X.env).map (·.2)=[assign tg X.env]:=by rfl):PS X (.Assign [tg] e pos) (M' te g):=by
 intro pins s σ H D I h
 refine wpAny_Assign_stores (cM (he pins s σ H _ I h) λv s1 ⟨x,H1,I1,r1,q1⟩=>?_) hs hw
 rw [h1]
 exact cM (hg pins s1 σ H1 x v _ I1 r1 q1) λ_ s2 q=>q
theorem XX(hN:X.N.Nodup)(hi:X.N[i]?=some x)(hx:Loc X.env.scope x)(he:PE X e te)(hs:swapsWith e (some (.Name x pos')) pos.line X.env=pure false:=by rfl)(hf:X.fn x=true\/X.env.scope.names.lookup x=some .local:=by first | exact .inl rfl | exact .inr rfl | assumption):
  PS X (.Assign [.Name x pos'] e pos) (M' te (c0B i)):=by
 intro pins s σ H D I h
 refine wpAny_Assign_Name (cM (he pins s σ H _ I h) λv s1 ⟨y,H1,I1,r1,q1⟩=>?_) hs
 exact b0x I1 hN hi hx r1 (λs2 I2=>⟨_,H1,I2,q1⟩) hf
end
section
variable {X:Cx}{pos:Pos}
def b9n(c:TT)(tb:TS):TS:=λD σ H=>∃W:Nat->St->Hp->Prop,(∃m,W m σ H)/\∀m σ H,W m σ H ->
 c σ H λb H1=>if b=true then ∃N:St->Hp->Prop,(∀bB H',N bB H'->∃m',m'<m/\W m' bB H')/\tb { D with nx:=N,ct:=N,bk:=D.nx } σ H1 else D.nx σ H1
theorem b4l(hp:PassesOwn (model X.prog X.w) X.A X.env X.xe)(hc:PT X c tc)(hb:Bm X body tb):PS X (.While c body [] pos) (b9n tc tb):=by
 intro pins s σ H D I h
 obtain ⟨W,⟨m0,w0⟩,turn⟩:=h
 refine wpAny_While (codeAny_whileLoop (λn s'=>∃bB H',Inv X pins bB H' s'/\W n bB H') ?_ m0 ⟨σ,H,I,w0⟩)
 rintro n s1 ⟨yH,H1,I1,w1⟩
 refine Kc hp (cM (hc pins s1 yH H1 _ I1 (turn n yH H1 w1)) λb s2 ⟨H2,I2,q2⟩=>?_)
 cases b with
 | true =>
  obtain ⟨N,hN,q2⟩:=q2
  rw [if_pos rfl]
  refine Kc hp (cM (hb pins s2 yH H2 _ I2 q2) λf s3 q3=>?_)
  cases f with
  | next =>
   obtain ⟨yO,H3,I3,n3⟩:=q3
   obtain ⟨m',hm,w3⟩:=hN yO H3 n3
   exact ⟨m',hm,yO,H3,I3,w3⟩
  | cont =>
   obtain ⟨yO,H3,I3,n3⟩:=q3
   obtain ⟨m',hm,w3⟩:=hN yO H3 n3
   exact ⟨m',hm,yO,H3,I3,w3⟩
  | brk=>exact q3
  | ret v=>exact q3
 | false =>
  rw [if_neg DG]
  exact RL ⟨yH,H2,I2,q2⟩
end
structure It where
 go:Nat->Hp->Prop
 IT:Nat->Hp->V->Hp->Prop
 stop:Nat->Hp->Prop
def wz(X:Cx)(pins:List (Addr×Obj))(H:Hp)(b:Addr):Prop:=
 H b=none/\b≠X.env.locals/\b∉X.fs/\(b∈X.ex\/X.gu.heap.objs.size<=b)/\(∀x c,X.env.cells.lookup x=some c->c≠b)/\∀p∈X.pn++pins,p.1≠b
theorem Inv.z5{X:Cx}{pins:List (Addr×Obj)}{σ:St}{H H':Hp}{s:Shared}{b:Addr}(I:Inv X pins σ H s)(hb:s.heap.objs.size<=b)(hn:H' b=none):wz X pins H' b:=by
 refine ⟨hn,J5 (Am I.lt hb),I.Vi hb,.inr (tu I.sz hb),λx c e z=>?_,λp hp z=>?_⟩
 .obtain ⟨v,q⟩:=I.cell x c e
  exact absurd (Am q.lt (by rw [z];exact hb)) (E6 _)
 .exact absurd (Am (eY (I.pin p hp).1) (by rw [z];exact hb)) (E6 _)
structure Turn(P:Program)(w:World)(K:aX)(tg:Expr)(J:It)(fp:List Addr)(it:Addr)(tn:Nat->Heap->Prop):Prop where
 mem:it∈fp
 obj:∀i h,tn i h->∀b∈fp,∃o,h.get? b=some o/\∀v,o.data≠.cell v
 keep:∀i h h',tn i h->(∀b∈fp,∀o,h.get? b=some o->h'.get? b=some o)->tn i h'
 item:∀(X:Cx),X.prog=P->X.w=w->X.K=K->X.calm=true->∀(i:Nat) (pins:List (Addr×Obj)) (s:Shared) (σ:St) (H:Hp) (E:Value->Shared->Prop),Inv X pins σ H s->(∀b∈fp,wz X pins H b)->tn i s.heap->J.go i H ->
  wpAny (model P w) X.A (pyNext (.ref it)) (λr s1=>∃u,r=some u /\
   wpAny (model P w) X.A (letOwnedTupleGo tg (.ref it) u) (λ_ s2=>∃x H',Inv X pins σ H' s2/\RelV x u/\J.IT i H x H'/\tn (i+1) s2.heap/\∀b∈fp,H' b=none) E s1) E s
 done:∀(X:Cx),X.prog=P->X.w=w->X.K=K->X.calm=true->∀(i:Nat) (pins:List (Addr×Obj)) (s:Shared) (σ:St) (H:Hp) (E:Value->Shared->Prop),Inv X pins σ H s->(∀b∈fp,wz X pins H b)->tn i s.heap->J.stop i H ->
  wpAny (model P w) X.A (pyNext (.ref it)) (λr s1=>r=none/\Inv X pins σ H s1) E s
 self:∀(A:Around) (i:Nat) (s:Shared) (Q:Value->Shared->Prop) (E:Value->Shared->Prop),tn i s.heap->Q (.ref it) s->wpAny (model P w) A (pyIter (.ref it)) Q E s
abbrev TI:=St->Hp->(It->Hp->Prop)->Prop
def ZM(X:Cx)(pins:List (Addr×Obj))(σ:St)(tg:Expr)(R:It->Hp->Prop)(Vz:Value)(s2:Shared):Prop:=
 ∃(it:Addr) (fp:List Addr) (tn:Nat->Heap->Prop) (J:It) (H':Hp),Vz=.ref it/\Inv X pins σ H' s2/\Turn X.prog X.w X.K tg J fp it tn/\tn 0 s2.heap/\(∀b∈fp,wz X pins H' b)/\R J H'
def PI(X:Cx)(tg iter:Expr)(wi:TI):Prop:=
 ∀(pins:List (Addr×Obj)) (s:Shared) (σ:St) (H:Hp) (R:It->Hp->Prop),Inv X pins σ H s->wi σ H R ->
  wpAny (model X.prog X.w) X.A (eval iter X.env) (λv s1=>wpAny (model X.prog X.w) X.A (pyIter v) (ZM X pins σ tg R) X.xe s1) X.xe s
theorem Kl(ho:s.heap.get? it=some o)(hc:o.cls=.type n)(hd:o.data=.fields vs)
  (hn:["enumerate","zip","dict_itemiterator","dict_reverseitemiterator","odict_iterator","itertools.zip_longest","itertools.pairwise"].contains n=false)(hQ:Q () s):wpAny M A (letOwnedTupleGo tg (.ref it) u) Q E s:=by
 unfold letOwnedTupleGo
 cases tg<;>first
  | exact cE hQ
  | (cases u<;>first
    | exact cE hQ
    | (refine aY (Rp ho ?_)
       rw [hc,hd]
       show wpAny M A (if (["enumerate","zip","dict_itemiterator","dict_reverseitemiterator","odict_iterator","itertools.zip_longest","itertools.pairwise"].contains n&&vs[0]?==some (rawInt _))=true then _ else _) Q E s
       rw [if_neg (by intro h;rw [hn,Bool.false_and] at h;cases h)]
       exact cE hQ))
def QH(K:aX)(a:Addr):It:=
 ⟨λi H=>∃xs x,lM K H a xs/\xs[i]?=some x,λi H x H'=>H'=H/\∀xs,lM K H a xs->xs[i]?=some x,λi H=>∃xs,lM K H a xs/\xs.length<=i⟩
def QG(K:aX)(a:Addr):It:=
 ⟨λi H=>∃xs x,oj K H a xs/\xs[i]?=some x,λi H x H'=>H'=H/\∀xs,oj K H a xs->xs[i]?=some x,λi H=>∃xs,oj K H a xs/\xs.length<=i⟩
def CF(lo:Int)(n:Nat):It:=⟨λi _=>i<n,λi H x H'=>H'=H/\x=.int (lo+i),λi _=>n<=i⟩
theorem b11{P:Program}{w:World}{K:aX}{tg:Expr}(a it:Addr):Turn P w K tg (QH K a) [it] it (λi h=>h.IsListIter it a i) where
 mem:=by simp
 obj:=λi h st b hb=>by
  have e:b=it:=by simpa using hb
  subst e
  obtain ⟨o,e,c,d⟩:=st
  exact ⟨o,e,λv z=>by rw [d] at z;cases z⟩
 keep:=λi h h' st k=>st.at λo e=>k it (by simp) o e
 item:=by
  intro X hP hw hK hc i pins s σ H E I hf st hg
  subst hP hw hK
  obtain ⟨xs,x,hq,hx⟩:=hg
  obtain ⟨aJ,rv,p,hz⟩:=I.list hq
  obtain ⟨u,hu,ru⟩:=rv.get hx
  obtain ⟨f0,f1,f2,f3,f4,f5⟩:=hf it (by simp)
  refine wpAny_pyNext_list_item st p.isList (x:=u) (by simpa using hu) λh' fy sb=>?_
  have I1:Inv X pins σ H { s with heap:=h' }:=I.turned (t':=s.toks) (λb o hb e=>(sb.2 b hb).trans e) f0 f1 f3 f4 f5
  obtain ⟨o,e,c,d⟩:=id fy
  exact ⟨u,rfl,Kl (s:={ s with heap:=h' }) e c d (by decide) ⟨x,H,I1,ru,⟨rfl,λys hy=>by rw [I.Ax hy hq];exact hx⟩,fy,λb hb=>(hf b hb).1⟩⟩
 done:=by
  intro X hP hw hK hc i pins s σ H E I hf st hg
  subst hP hw hK
  obtain ⟨xs,hq,hx⟩:=hg
  obtain ⟨aJ,rv,p,hz⟩:=I.list hq
  obtain ⟨f0,f1,f2,f3,f4,f5⟩:=hf it (by simp)
  have hl:=rv.length
  exact wpAny_pyNext_list_end (I.ok.hd hc) st p.isList (by simp;omega) λh' eb=>⟨rfl,I.turned (t':=s.toks) (λb o hb e=>eb b o hb e) f0 f1 f3 f4 f5⟩
 self:=λ_ _ _ _ _ st h=>wpAny_pyIter_listiter st h
theorem b1e{P:Program}{w:World}{K:aX}{tg:Expr}(a it:Addr):Turn P w K tg (QG K a) [it] it (λi h=>h.IsTupleIter it a i) where
 mem:=by simp
 obj:=λi h st b hb=>by
  have e:b=it:=by simpa using hb
  subst e
  obtain ⟨o,e,c,d⟩:=st
  exact ⟨o,e,λv z=>by rw [d] at z;cases z⟩
 keep:=λi h h' st k=>st.at λo e=>k it (by simp) o e
 item:=by
  intro X hP hw hK hc i pins s σ H E I hf st hg
  subst hP hw hK
  obtain ⟨xs,x,hq,hx⟩:=hg
  obtain ⟨aJ,rv,p,hz⟩:=I.tuple hq
  obtain ⟨u,hu,ru⟩:=rv.get hx
  obtain ⟨f0,f1,f2,f3,f4,f5⟩:=hf it (by simp)
  refine wpAny_pyNext_tuple_item st (show s.heap.IsTuple a aJ.toArray from p) (x:=u) (by simpa using hu) λh' fy sb=>?_
  have I1:Inv X pins σ H { s with heap:=h' }:=I.turned (t':=s.toks) (λb o hb e=>(sb.2 b hb).trans e) f0 f1 f3 f4 f5
  obtain ⟨o,e,c,d⟩:=id fy
  exact ⟨u,rfl,Kl (s:={ s with heap:=h' }) e c d (by decide) ⟨x,H,I1,ru,⟨rfl,λys hy=>by rw [I.zG hy hq];exact hx⟩,fy,λb hb=>(hf b hb).1⟩⟩
 done:=by
  intro X hP hw hK hc i pins s σ H E I hf st hg
  subst hP hw hK
  obtain ⟨xs,hq,hx⟩:=hg
  obtain ⟨aJ,rv,p,hz⟩:=I.tuple hq
  obtain ⟨f0,f1,f2,f3,f4,f5⟩:=hf it (by simp)
  have hl:=rv.length
  exact wpAny_pyNext_tuple_end (I.ok.hd hc) st (show s.heap.IsTuple a aJ.toArray from p) (by simp;omega) λh' eb=>⟨rfl,I.turned (t':=s.toks) (λb o hb e=>eb b o hb e) f0 f1 f3 f4 f5⟩
 self:=λ_ _ _ _ _ st h=>wpAny_pyIter_tupleiter st h
theorem a7t{P:Program}{w:World}{K:aX}{tg:Expr}(it:Addr)(lo:Int)(n:Nat):Turn P w K tg (CF lo n) [it] it (λi h=>IsRangeIter h it (lo+(i:Nat)*1) ((n:Int)-(i:Nat)) 1) where
 mem:=by simp
 obj:=λi h st b hb=>by
  have e:b=it:=by simpa using hb
  subst e
  exact ⟨_,st,λv z=>by
   have z':WM _=Data.cell v:=z
   cases z'⟩
 keep:=λi h h' st k=>k it (by simp) _ st
 item:=by
  intro X hP hw hK hc i pins s σ H E I hf st hg
  subst hP hw hK
  obtain ⟨f0,f1,f2,f3,f4,f5⟩:=hf it (by simp)
  have W:=Walks.range (prog:=X.prog) (w:=X.w) (I.ok.hd hc) it lo 1 n
  refine W.item i s _ _ hg st λv h' tk hv fy kk=>?_
  obtain ⟨t,rfl⟩:=hv
  have I1:Inv X pins σ H { s with heap:=h',toks:=tk }:=I.turned (λb o hb e=>kk b o (by simpa using hb) e) f0 f1 f3 f4 f5
  refine ⟨_,rfl,Kl (s:={ s with heap:=h',toks:=tk }) (n:="range_iterator") fy rfl rfl (by decide) ⟨.int (lo+i),H,I1,⟨t,?_⟩,⟨rfl,rfl⟩,fy,λb hb=>(hf b hb).1⟩⟩
  rw [Int.mul_one]
 done:=by
  intro X hP hw hK hc i pins s σ H E I hf st hg
  subst hP hw hK
  obtain ⟨f0,f1,f2,f3,f4,f5⟩:=hf it (by simp)
  exact wpAny_pyNext_range_end (I.ok.hd hc) st (by have:n<=i:=hg;omega) λh' eb=>⟨rfl,I.turned (t':=s.toks) (λb o hb e=>eb b o hb e) f0 f1 f3 f4 f5⟩
 self:=λ_ _ _ _ _ st h=>wpAny_pyIter_rangeiter st h
end L2
namespace L2
open PySem PySem.Spec PyProof.Rows
section
variable {X:Cx}{tg:Expr}
theorem b4i{pins:List (Addr×Obj)}{σ:St}{H:Hp}{s:Shared}{R:It->Hp->Prop}{E:Value->Shared->Prop}{lo hi:Int}{t u v:Tok}{tk:Nat}(I:Inv X pins σ H s)(h1:-(2^62)<=lo)(h2:lo<2^62)(h3:-(2^62)<=hi)(h4:hi<2^62)
  (q:R (CF lo (hi-lo).toNat) H):wpAny (model X.prog X.w) X.A (pyIter (.ref s.heap.objs.size)) (ZM X pins σ tg R) E { s with heap:=s.heap.push { cls:=.type "range",data:=.fields #[.int lo t,.int hi u,.int 1 v] },toks:=tk }:=by
 refine wpAny_pyIter_range (WL ..) (small_one h1 h2 h3 h4) ?_
 have I1:Inv X pins σ H { s with heap:=s.heap.push { cls:=.type "range",data:=.fields #[.int lo t,.int hi u,.int 1 v] },toks:=tk }:=I.kept λb o e=>ft _ e
 refine ⟨(s.heap.push { cls:=.type "range",data:=.fields #[.int lo t,.int hi u,.int 1 v] }).objs.size,[(s.heap.push { cls:=.type "range",data:=.fields #[.int lo t,.int hi u,.int 1 v] }).objs.size],_,_,H,rfl,
  I1.kept (t':=tk) λb o e=>ft _ e,a7t _ lo (hi-lo).toNat,?_,λb hb=>?_,q⟩
 .have e1:lo+((0:Nat):Int)*1=lo:=by simp
  have e2:(((hi-lo).toNat:Nat):Int)-((0:Nat):Int)=c5u lo hi 1:=by rw [rangeSize_one];split<;>omega
  show IsRangeIter _ _ (lo+((0:Nat):Int)*1) ((((hi-lo).toNat:Nat):Int)-((0:Nat):Int)) 1
  rw [e1,e2]
  exact nS _ rfl
 .have e:b=(s.heap.push { cls:=.type "range",data:=.fields #[.int lo t,.int hi u,.int 1 v] }).objs.size:=by simpa using hb
  subst e
  exact I1.z5 (dF _) (I1.cF.fresh (dF _))
def Oc(ta:TA):TI:=λσ H R=>ta σ H λvs H1=>∃j:Int,vs=[.int j] /\ -(2^62)<=j/\j<2^62/\R (CF 0 j.toNat) H1
theorem b2r(hg:Gl X "range")(hm:X.mg "range" = none)(ha:PA X [a] ta)(hs:starEach [a] X.env=[(false,eval a X.env)]:=by rfl):PI X tg (.Call (.Name "range" p) [a] [] pos) (Oc ta):=by
 intro pins s σ H R I h
 refine Call_ (L1 I hg hm boot_range (RW (cM (ha pos pins s σ H _ I h) λus s1 ⟨vs,H1,I1,r1,q1⟩=>?_) hs rfl))
 obtain ⟨j,e,q1,q2,q⟩:=q1
 subst e
 cases r1 with
 | cons r rr =>
  cases rr
  obtain ⟨t,rfl⟩:=r
  exact call_range_1 (b4i I1 (by omega) (by omega) q1 q2 (by simpa using q))
def UR(wi:TI)(g:TG)(tb:TS):TS:=λD σ H=>wi σ H λJ H1=>∃W:Nat->Nat->St->Hp->Prop,(∃m,W 0 m σ H1)/\∀i m σ H,W i m σ H ->
 (J.stop i H/\D.nx σ H)\/(J.go i H/\∃N:St->Hp->Prop,(∀bB H',N bB H'->∃m',m'<m/\W (i+1) m' bB H')/\∀x H',J.IT i H x H'->g x σ H' λfJ H2=>tb { D with nx:=N,ct:=N,bk:=D.nx } fJ H2)
def Hk(fp:List Addr)(h:Heap):List (Addr×Obj):=fp.filterMap λb=>(h.get? b).map λo=>(b,o)
theorem Qq(hb:b∈fp)(e:h.get? b=some o):(b,o)∈Hk fp h:=c6m.mpr ⟨b,hb,by rw [e];rfl⟩
theorem YH(hp:p∈Hk fp h):p.1∈fp/\h.get? p.1=some p.2:=by
 obtain ⟨b,hb,e⟩:=c6m.mp hp
 cases q:h.get? b with
 | none=>rw [q] at e;cases e
 | some o =>
  rw [q] at e
  have e':(b,o)=p:=lH e
  subst e'
  exact ⟨hb,q⟩
theorem Inv.pinned{pins:List (Addr×Obj)}{σ:St}{H:Hp}{s:Shared}{fp:List Addr}(I:Inv X pins σ H s)(hf:∀b∈fp,wz X pins H b)(ho:∀b∈fp,∃o,s.heap.get? b=some o/\∀v,o.data≠.cell v):Inv X (pins++Hk fp s.heap) σ H s:=
 I.p5 λp hp=>(zK.mp hp).elim (λz=>I.pin p (DH _ z)) λz=>by
  obtain ⟨hb,e⟩:=YH z
  obtain ⟨f0,f1,f2,_⟩:=hf p.1 hb
  obtain ⟨o,e',d⟩:=ho p.1 hb
  rw [e] at e';cases e'
  exact ⟨e,f0,f1,f2,d⟩
theorem Inv.wV{pins pl:List (Addr×Obj)}{σ:St}{H:Hp}{s:Shared}(I:Inv X (pins++pl) σ H s):Inv X pins σ H s:=I.p5 λp hp=>I.pin p (DH _ (Hg _ hp))
theorem XW(hp:PassesOwn (model X.prog X.w) X.A X.env X.xe)(hc:X.calm=true)(hi:PI X tg iter wi)(hg:PG X tg g)(hb:Bm X body tb)
  (hs:∀x,foldedSetIterable iter X.env x=pure x:=by intro _;rfl):PS X (.For tg iter body [] pos) (UR wi g tb):=by
 intro pins s σ H D I h
 refine wpAny_For (cM (hi pins s σ H _ I h) λv s1 h1=>cM h1 λVz s2 h2=>?_) hs
 obtain ⟨it,fp,tn,J,H2,e,I2,T,wA,f2,W,⟨m0,w0⟩,turn⟩:=h2
 subst e
 have Jb:∀{H':Hp},(∀b∈fp,H' b=none)->∀b∈fp,wz X pins H' b:=λhn b hb=>⟨hn b hb,(f2 b hb).2⟩
 refine codeAny_forLoop_any (λn s'=>∃i bB H',Inv X pins bB H' s'/\tn i s'.heap/\(∀b∈fp,H' b=none)/\W i n bB H') ?_ m0 ⟨0,σ,H2,I2,wA,λb hb=>(f2 b hb).1,w0⟩
 rintro n s3 ⟨i,yO,H3,I3,Nd,OQ,w3⟩
 rcases turn i n yO H3 w3 with ⟨stop,qn⟩ | ⟨go,N,hN,step⟩
 .refine Kc hp (cM (T.done X rfl rfl rfl hc i pins s3 yO H3 X.xe I3 (Jb OQ) Nd stop) λr s4 ⟨hr,I4⟩=>?_)
  subst hr
  exact RL ⟨yO,H3,I4,qn⟩
 .refine Kc hp (cM (T.item X rfl rfl rfl hc i pins s3 yO H3 X.xe I3 (Jb OQ) Nd go) λr s4 ⟨u,hr,h4⟩=>?_)
  subst hr
  refine Kc hp (cM h4 λ_ s5 ⟨x,H5,I5,r5,y5,Jc,Wj⟩=>?_)
  have ZQ:=I5.pinned (Jb Wj) (T.obj _ _ Jc)
  refine Kc hp (cM (hg _ s5 yO H5 x u _ ZQ r5 (step x H5 y5)) λ_ s6 ⟨A5,H6,I6,q6⟩=>?_)
  refine Kc hp (cM (hb _ s6 A5 H6 _ I6 q6) λf s7 q7=>?_)
  have again:∀{DQ:St} {H7:Hp},Inv X (pins++Hk fp s5.heap) DQ H7 s7->N DQ H7->∃m,m<n/\∃i bB H',Inv X pins bB H' s7/\tn i s7.heap/\(∀b∈fp,H' b=none)/\W i m bB H':=λ{DQ H7} I7 n7=>by
   obtain ⟨m',hm,w7⟩:=hN DQ H7 n7
   refine ⟨m',hm,i+1,DQ,H7,I7.wV,T.keep _ _ _ Jc λb hb o e=>(I7.pin (b,o) (DH _ (DH _ (Qq hb e)))).1,λb hb=>?_,w7⟩
   obtain ⟨o,e,d⟩:=T.obj _ _ Jc b hb
   exact (I7.pin (b,o) (DH _ (DH _ (Qq hb e)))).2.1
  cases f with
  | next=>obtain ⟨DQ,H7,I7,n7⟩:=q7;exact again I7 n7
  | cont=>obtain ⟨DQ,H7,I7,n7⟩:=q7;exact again I7 n7
  | brk=>obtain ⟨DQ,H7,I7,q7⟩:=q7;exact ⟨DQ,H7,I7.wV,q7⟩
  | ret v=>obtain ⟨x7,DQ,H7,I7,r7,q7⟩:=q7;exact ⟨x7,DQ,H7,I7.wV,r7,q7⟩
end
theorem b4S{K:aX}{a:Addr}{xs:List V}{g:TG}{tb:TS}{D:Ends}{σ:St}{H:Hp}(Pv:Nat->St->Hp->Prop)(h0:Pv 0 σ H)(hl:∀i σ H,i<=xs.length->Pv i σ H->lM K H a xs)
  (hs:∀i x σ H,xs[i]?=some x->Pv i σ H->g x σ H λfJ H2=>tb { D with nx:=Pv (i+1),ct:=Pv (i+1),bk:=D.nx } fJ H2)(hd:∀σ H,Pv xs.length σ H->D.nx σ H):
  ∃W:Nat->Nat->St->Hp->Prop,(∃m,W 0 m σ H)/\∀i m σ H,W i m σ H ->
   ((QH K a).stop i H/\D.nx σ H)\/((QH K a).go i H/\∃N:St->Hp->Prop,(∀bB H',N bB H'->∃m',m'<m/\W (i+1) m' bB H')/\∀x H',(QH K a).IT i H x H'->g x σ H' λfJ H2=>tb { D with nx:=N,ct:=N,bk:=D.nx } fJ H2):=by
 refine ⟨λi m σ H=>m=xs.length-i/\i<=xs.length/\Pv i σ H,⟨xs.length,by simp,De _,h0⟩,?_⟩
 rintro i m σ H ⟨rfl,hi,p⟩
 have q:=hl i σ H hi p
 by_cases jG:i<xs.length
 .refine .inr ⟨⟨xs,xs[i],q,by simp [jG]⟩,Pv (i+1),λbB H' p'=>⟨xs.length-(i+1),by omega,rfl,jG,p'⟩,λx H' y=>?_⟩
  obtain ⟨e,y⟩:=y
  subst e
  exact hs i x σ _ (y xs q) p
 .have e:i=xs.length:=by omega
  subst e
  exact .inl ⟨⟨xs,q,dF _⟩,hd σ H p⟩
theorem b7K{K:aX}{a:Addr}{xs:List V}{g:TG}{tb:TS}{D:Ends}{σ:St}{H:Hp}(Pv:Nat->St->Hp->Prop)(h0:Pv 0 σ H)(hl:∀i σ H,i<=xs.length->Pv i σ H->oj K H a xs)
  (hs:∀i x σ H,xs[i]?=some x->Pv i σ H->g x σ H λfJ H2=>tb { D with nx:=Pv (i+1),ct:=Pv (i+1),bk:=D.nx } fJ H2)(hd:∀σ H,Pv xs.length σ H->D.nx σ H):
  ∃W:Nat->Nat->St->Hp->Prop,(∃m,W 0 m σ H)/\∀i m σ H,W i m σ H ->
   ((QG K a).stop i H/\D.nx σ H)\/((QG K a).go i H/\∃N:St->Hp->Prop,(∀bB H',N bB H'->∃m',m'<m/\W (i+1) m' bB H')/\∀x H',(QG K a).IT i H x H'->g x σ H' λfJ H2=>tb { D with nx:=N,ct:=N,bk:=D.nx } fJ H2):=by
 refine ⟨λi m σ H=>m=xs.length-i/\i<=xs.length/\Pv i σ H,⟨xs.length,by simp,De _,h0⟩,?_⟩
 rintro i m σ H ⟨rfl,hi,p⟩
 have q:=hl i σ H hi p
 by_cases jG:i<xs.length
 .refine .inr ⟨⟨xs,xs[i],q,by simp [jG]⟩,Pv (i+1),λbB H' p'=>⟨xs.length-(i+1),by omega,rfl,jG,p'⟩,λx H' y=>?_⟩
  obtain ⟨e,y⟩:=y
  subst e
  exact hs i x σ _ (y xs q) p
 .have e:i=xs.length:=by omega
  subst e
  exact .inl ⟨⟨xs,q,dF _⟩,hd σ H p⟩
theorem b3i{lo:Int}{n:Nat}{g:TG}{tb:TS}{D:Ends}{σ:St}{H:Hp}(Pv:Nat->St->Hp->Prop)(h0:Pv 0 σ H)
  (hs:∀i σ H,i<n->Pv i σ H->g (.int (lo+i)) σ H λfJ H2=>tb { D with nx:=Pv (i+1),ct:=Pv (i+1),bk:=D.nx } fJ H2)(hd:∀σ H,Pv n σ H->D.nx σ H):
  ∃W:Nat->Nat->St->Hp->Prop,(∃m,W 0 m σ H)/\∀i m σ H,W i m σ H ->
   ((CF lo n).stop i H/\D.nx σ H)\/((CF lo n).go i H/\∃N:St->Hp->Prop,(∀bB H',N bB H'->∃m',m'<m/\W (i+1) m' bB H')/\∀x H',(CF lo n).IT i H x H'->g x σ H' λfJ H2=>tb { D with nx:=N,ct:=N,bk:=D.nx } fJ H2):=by
 refine ⟨λi m σ H=>m=n-i/\i<=n/\Pv i σ H,⟨n,by simp,De _,h0⟩,?_⟩
 rintro i m σ H ⟨rfl,hi,p⟩
 by_cases jG:i<n
 .refine .inr ⟨jG,Pv (i+1),λbB H' p'=>⟨n-(i+1),by omega,rfl,jG,p'⟩,λx H' y=>?_⟩
  obtain ⟨e,y⟩:=y
  subst e y
  exact hs i σ _ jG p
 .have e:i=n:=by omega
  subst e
  exact .inl ⟨dF _,hd σ H p⟩
end L2
namespace L2
open PySem PySem.Spec PyProof.Rows
abbrev R2:=V->V->Hp->VK->Prop
def wI(X:Cx)(f:Value->Value->Sem Value)(r:R2):Prop:=
 ∀(pins:List (Addr×Obj)) (s:Shared) (σ:St) (H:Hp) (x y:V) (v u:Value) (Q:VK),Inv X pins σ H s->RelV x v->RelV y u->r x y H Q ->
  wpAny (model X.prog X.w) X.A (f v u) (EP X pins σ Q) X.xe s
def dO(X:Cx)(f:Value)(r:List V->Hp->VK->Prop):Prop:=
 ∀(pins:List (Addr×Obj)) (s:Shared) (σ:St) (H:Hp) (xs:List V) (us:List Value) (Q:VK),Inv X pins σ H s->aU xs us->r xs H Q ->
  wpAny (model X.prog X.w) X.A (call f us) (EP X pins σ Q) X.xe s
def ZK(X:Cx)(r:V->Hp->(Bool->Hp->Prop)->Prop):Prop:=
 ∀(pins:List (Addr×Obj)) (s:Shared) (σ:St) (H:Hp) (x:V) (v:Value) (Q:Bool->Hp->Prop),Inv X pins σ H s->RelV x v->r x H Q ->
  wpAny (model X.prog X.w) X.A (truthy v) (TP X pins σ Q) X.xe s
def M3(r:R2)(ta tb:TE):TE:=λσ H Q=>ta σ H λx H1=>tb σ H1 λy H2=>r x y H2 Q
def rI(C:Int->Int->Prop)(g:Int->Int->V):R2:=λx y H Q=>∃i j,x=.int i/\y=.int j/\C i j/\Q (g i j) H
def Jh(g:Int->Int->V):R2:=λx y H Q=>∃i j,x=.int i/\y=.int j/\Q (g i j) H
section
variable {X:Cx}{a b c:Expr}{ta tb tc:TE}{pos:Pos}
theorem Hh(ha:PE X a ta)(hb:PE X b tb){pins:List (Addr×Obj)}{s:Shared}{σ:St}{H:Hp}{R:V->V->Hp->Prop}(I:Inv X pins σ H s)
  (h:ta σ H λx H1=>tb σ H1 λy H2=>R x y H2){Q:Value->Shared->Prop}{f:Value->Value->Sem Value}
  (hf:∀v u s2 x y H2,Inv X pins σ H2 s2->RelV x v->RelV y u->R x y H2->wpAny (model X.prog X.w) X.A (f v u) Q X.xe s2):
  wpAny (model X.prog X.w) X.A (eval a X.env) (λv bA=>wpAny (model X.prog X.w) X.A (eval b X.env) (λu g7=>wpAny (model X.prog X.w) X.A (f v u) Q X.xe g7) X.xe bA) X.xe s:=by
 refine cM (ha pins s σ H _ I h) λv s1 ⟨x,H1,I1,r1,q1⟩=>?_
 refine cM (hb pins s1 σ H1 _ I1 q1) λu s2 ⟨y,H2,I2,r2,q2⟩=>?_
 exact hf v u s2 x y H2 I2 r1 r2 q2
theorem NH(ho:wI X (binaryOp op) r)(ha:PE X a ta)(hb:PE X b tb):PE X (.BinOp a op b pos) (M3 r ta tb):=by
 intro pins s σ H Q I h
 exact wpAny_BinOp (Hh ha hb I h λv u s2 x y H2 I2 rx ry q=>ho pins s2 σ H2 x y v u Q I2 rx ry q)
theorem NP{f:Value->Value->Sem Value}{C:Int->Int->Prop}{g:Int->Int->Int}
  (rule:∀(i j:Int) (t u:Tok) (s:Shared) (Q:Value->Shared->Prop) (E:Value->Shared->Prop),C i j->Q (.int (g i j) s.toks) { s with toks:=s.toks+1 }->wpAny (model X.prog X.w) X.A (f (.int i t) (.int j u)) Q E s):
  wI X f (rI C λi j=>.int (g i j)):=by
 intro pins s σ H x y v u Q I rx ry h
 obtain ⟨i,j,rfl,rfl,hc,q⟩:=h
 obtain ⟨t,rfl⟩:=rx
 obtain ⟨t',rfl⟩:=ry
 exact rule i j t t' s _ _ hc ⟨.int (g i j),H,I.tok _,⟨_,rfl⟩,q⟩
theorem Ve{f:Value->Value->Sem Value}{g:Int->Int->Int}
  (rule:∀(i j:Int) (t u:Tok) (s:Shared) (Q:Value->Shared->Prop) (E:Value->Shared->Prop),Q (.int (g i j) s.toks) { s with toks:=s.toks+1 }->wpAny (model X.prog X.w) X.A (f (.int i t) (.int j u)) Q E s):
  wI X f (Jh λi j=>.int (g i j)):=by
 intro pins s σ H x y v u Q I rx ry h
 obtain ⟨i,j,rfl,rfl,q⟩:=h
 obtain ⟨t,rfl⟩:=rx
 obtain ⟨t',rfl⟩:=ry
 exact rule i j t t' s _ _ ⟨.int (g i j),H,I.tok _,⟨_,rfl⟩,q⟩
theorem Jy{f:Value->Value->Sem Value}{g:Int->Int->Bool}
  (rule:∀(i j:Int) (t u:Tok) (s:Shared) (Q:Value->Shared->Prop) (E:Value->Shared->Prop),Q (.bool (g i j)) s->wpAny (model X.prog X.w) X.A (f (.int i t) (.int j u)) Q E s):
  wI X f (Jh λi j=>.bl (g i j)):=by
 intro pins s σ H x y v u Q I rx ry h
 obtain ⟨i,j,rfl,rfl,q⟩:=h
 obtain ⟨t,rfl⟩:=rx
 obtain ⟨t',rfl⟩:=ry
 exact rule i j t t' s _ _ ⟨.bl (g i j),H,I,rfl,q⟩
def HB(i j:Int):Prop:=(-(2^64)<i/\i<2^64)\/(-(2^64)<j/\j<2^64)
theorem HB.ok(h:HB i j):IntMulOk i j:=by
 rcases h with ⟨h1,h2⟩ | ⟨h1,h2⟩
 .exact .of_left (Ru h1 h2)
 .exact .of_right (Ru h1 h2)
theorem Jx:wI X (binaryOp .Add) (Jh λi j=>.int (i+j)):=Ve λ_ _ _ _ _ _ _ q=>add_int q
end
section
variable {X:Cx}{a b c:Expr}{ta tb tc:TE}{pos:Pos}
theorem c0D{pins:List (Addr×Obj)}{σ:St}{H:Hp}{s:Shared}{Q:VK}{k k':Bool}(I:Inv X pins σ H s)(q:Q (.bl k) H)(e:k=k'):EP X pins σ Q (.bool k') s:=by
 subst e
 exact ⟨.bl k,H,I,rfl,q⟩
theorem NM:wI X (compareOp .Lt) (Jh λi j=>.bl (decide (i<j))):=Jy λ_ _ _ _ _ _ _ q=>lt_int q
theorem NN:wI X (compareOp .LtE) (Jh λi j=>.bl (decide (i<=j))):=Jy λ_ _ _ _ _ _ _ q=>le_int q
theorem NO:wI X (compareOp .Gt) (Jh λi j=>.bl (decide (j<i))):=Jy λ_ _ _ _ _ _ _ q=>gt_int q
theorem b2w:wI X (compareOp .In) (λx y H Q=>∃i j,x=.str i/\y=.str j/\Q (.bl (!(c5w j i 0 j.length 1).isEmpty)) H):=by
 intro pins s σ H x y v u Q I rx ry h
 obtain ⟨i,j,rfl,rfl,q⟩:=h
 obtain ⟨t,rfl⟩:=rx
 obtain ⟨t',rfl⟩:=ry
 exact in_str (c0D I q rfl)
theorem wI.or(h:wI X f r)(h':wI X f r'):wI X f (λx y H Q=>r x y H Q\/r' x y H Q):=by
 intro pins s σ H x y v u Q I rx ry q
 rcases q with q | q
 .exact h pins s σ H x y v u Q I rx ry q
 .exact h' pins s σ H x y v u Q I rx ry q
theorem b56(b:Expr)(h:op≠.In:=by decide)(h2:op≠.NotIn:=by decide):behindInMarks op b=false:=by
 have e1:(op==CmpOp.In)=false:=by cases op<;>first | rfl | exact absurd rfl h
 have e2:(op==CmpOp.NotIn)=false:=by cases op<;>first | rfl | exact absurd rfl h2
 cases b<;>simp [behindInMarks,e1,e2]
theorem b7d(ho:wI X (compareOp op) r)(ha:PE X a ta)(hb:PE X b tb)(hm:behindInMarks op b=false):PE X (.Compare a [op] [b] pos) (M3 r ta tb):=by
 intro pins s σ H Q I h
 exact wpAny_Compare1 (Hh ha hb I h λv u s2 x y H2 I2 rx ry q=>ho pins s2 σ H2 x y v u Q I2 rx ry q) hm
def b9o(t:TE):TT:=λσ H Q=>t σ H λx H'=>∃k,x=.bl k/\Q k H'
theorem b62(ho:wI X (compareOp op) r)(ha:PE X a ta)(hb:PE X b tb)(hm:behindInMarks op b=false):PT X (.Compare a [op] [b] pos) (b9o (M3 r ta tb)):=by
 intro pins s σ H Q I h
 refine wpAny_isTrue_Compare1 (cM (ha pins s σ H _ I h) λv s1 ⟨x,H1,I1,r1,q1⟩=>cM (hb pins s1 σ H1 _ I1 q1) λu s2 ⟨y,H2,I2,r2,q2⟩ =>
  cM (ho pins s2 σ H2 x y v u _ I2 r1 r2 q2) λc s3 ⟨z,H3,I3,r3,k,e,q3⟩=>?_) hm
 subst e
 cases r3
 exact Ik ⟨H3,I3,q3⟩
def b9r(r r':R2)(ta tb tc:TE):TE:=λσ H Q=>ta σ H λx H1=>tb σ H1 λy H2=>r x y H2 λz H3=>∃k,z=.bl k /\
 (if k=true then tc σ H3 λw' H4=>r' y w' H4 Q else Q (.bl false) H3)
theorem b4k(ho:wI X (compareOp op) r)(xR:wI X (compareOp NQ) r')(ha:PE X a ta)(hb:PE X b tb)(hc:PE X c tc)
  (hm:lastMarks [op,NQ] [b,c]=false:=by with_unfolding_all rfl):PT X (.Compare a [op,NQ] [b,c] pos) (b9o (b9r r r' ta tb tc)):=by
 intro pins s σ H Q I h
 refine isTrue_chain (cM (ha pins s σ H _ I h) λv s1 ⟨x,H1,I1,r1,q1⟩=>test_link (cM (hb pins s1 σ H1 _ I1 q1) λu s2 ⟨y,H2,I2,r2,q2⟩ =>
  cM (ho pins s2 σ H2 x y v u _ I2 r1 r2 q2) λd s3 ⟨z,H3,I3,r3,k,e,q3⟩=>?_)) hm
 subst e
 cases r3
 refine Ik ?_
 cases k with
 | false =>
  obtain ⟨k',e',q'⟩:=q3
  cases e'
  exact ite_ff ⟨H3,I3,q'⟩
 | true =>
  refine ite_tt (test_last (cM (hc pins s3 σ H3 _ I3 q3) λw' s4 ⟨z',H4,I4,r4,q4⟩=>cM (xR pins s4 σ H4 y z' u w' _ I4 r2 r4 q4) λd' s5 ⟨z2,H5,I5,r5,k2,e2,q5⟩=>?_))
  subst e2
  cases r5
  exact Ik ⟨H5,I5,q5⟩
def KN(K:aX)(x:V)(H:Hp)(k:Bool):Prop:=
 match x with
 | .cT=>k=false
 | .bl b=>k=b
 | .int i=>k=(i != 0)
 | .str y=>y.length<=sizeLine/\k=((y.length:Int) != 0)
 | .LK y=>y.size<=sizeLine/\k=((y.size:Int) != 0)
 | .ref p=>(∃xs,lM K H p xs/\k=!xs.isEmpty)\/(∃xs,oj K H p xs/\k=!xs.isEmpty)\/∃aI,H p=some (.dK aI)/\k=!aI.isEmpty
 | _=>False
theorem b1H{κ:Type}{aI:List (κ×V)}{vs:List (κ×Value)}(r:KV aI vs):(!vs.isEmpty)=!aI.isEmpty:=by
 cases r<;>rfl
theorem a7B(r:aU xs aJ):(!aJ.toArray.isEmpty)=!xs.isEmpty:=by
 cases r<;>simp
theorem Kt:(sizeLine:Nat)<2^63:=by rw [yJ];decide
theorem b9m:ZK X (λx H Q=>∃k,KN X.K x H k/\Q k H):=by
 intro pins s σ H x v Q I rx h
 obtain ⟨k,e,q⟩:=h
 have hl:=Kt
 have hs:sizeLine=16777216:=yJ
 cases x with
 | cT =>
  cases rx
  have e':k=false:=e
  subst e'
  exact truthy_none ⟨H,I,q⟩
 | bl b =>
  cases rx
  have e':k=b:=e
  subst e'
  exact Ik ⟨H,I,q⟩
 | int i =>
  obtain ⟨t,rfl⟩:=rx
  have e':k=(i != 0):=e
  subst e'
  exact PySem.P.truthy_int ⟨H,I,q⟩
 | str y =>
  obtain ⟨t,rfl⟩:=rx
  obtain ⟨hy,e'⟩:y.length<=sizeLine/\k=((y.length:Int) != 0):=e
  subst e'
  exact PySem.P.truthy_str (by omega) ⟨H,I.tok _,q⟩
 | LK y =>
  obtain ⟨t,rfl⟩:=rx
  obtain ⟨hy,e'⟩:y.size<=sizeLine/\k=((y.size:Int) != 0):=e
  subst e'
  exact PySem.W.truthy_bytes (by omega) ⟨H,I.tok _,q⟩
 | ref p =>
  cases rx
  have e':(∃xs,lM X.K H p xs/\k=!xs.isEmpty)\/(∃xs,oj X.K H p xs/\k=!xs.isEmpty)\/∃aI,H p=some (.dK aI)/\k=!aI.isEmpty:=e
  rcases e' with ⟨xs,hx,e'⟩ | ⟨xs,hx,e'⟩ | ⟨aI,hx,e'⟩
  .subst e'
   obtain ⟨aJ,r,pl,hz⟩:=I.list hx
   have hlen:=r.length
   exact wpAny_truthy_list pl.isList (by simp only [jM];omega) ⟨H,I.tok _,by rw [a7B r];exact q⟩
  .subst e'
   obtain ⟨aJ,r,pl,hz⟩:=I.tuple hx
   have hlen:=r.length
   exact truthy_tuple pl (by simp only [jM];omega) ⟨H,I.tok _,by rw [a7B r];exact q⟩
  .subst e'
   obtain ⟨hz,hS,vs,r,m⟩:aI.length<=sizeLine/\(p==sysModules)=false/\∃vs,KV aI vs/\s.heap.DictOf (yy X.prog X.w) p vs:=I.cF p _ hx
   have hlen:aI.length=vs.length:=Paired.length r
   exact wpAny_truthy_dict hS m (by omega) ⟨H,I.tok _,by rw [b1H r];exact q⟩
 | _=>exact (show False from e).elim
theorem b0F(ha:PE X a ta)(he:∀whole,isTrue a X.env whole=(do let v <-whole;standAt a.pos;holding [v] (truthy v))):
  PT X a (λσ H Q=>ta σ H λx H'=>∃k,KN X.K x H' k/\Q k H'):=by
 intro pins s σ H Q I h
 exact isTrue_plain (cM (ha pins s σ H _ I h) λv s1 ⟨x,H1,I1,r1,q1⟩=>b9m pins s1 σ H1 x v Q I1 r1 q1) (he _)
theorem BF:wI X (binaryOp .Add) (λx y H Q=>∃i j,x=.str i/\y=.str j/\i.length+j.length<=sizeLine/\Q (.str (i++j)) H):=by
 intro pins s σ H x y v u Q I rx ry h
 obtain ⟨i,j,rfl,rfl,hz,q⟩:=h
 obtain ⟨t,rfl⟩:=rx
 obtain ⟨t',rfl⟩:=ry
 exact add_str (λt' tk=>⟨.str (i++j),H,I.tok _,⟨_,rfl⟩,q⟩) hz
theorem vals1(r:aU [x] us):∃u,us=[u]/\RelV x u:=by
 cases r with
 | cons r1 r2=>cases r2;exact ⟨_,rfl,r1⟩
theorem vals2(r:aU [x,y] us):∃u w',us=[u,w']/\RelV x u/\RelV y w':=by
 cases r with
 | cons r1 r2 =>
  cases r2 with
  | cons r3 r4=>cases r4;exact ⟨_,_,rfl,r1,r3⟩
theorem qI:dO X (.type "str") (λxs H Q=>∃i,xs=[.int i]/\i.natAbs.log2<1920/\Q (.str (toString i)) H):=by
 intro pins s σ H xs us Q I r h
 obtain ⟨i,rfl,hz,q⟩:=h
 obtain ⟨u,rfl,t,rfl⟩:=vals1 r
 exact PySem.P.str_of_int hz ⟨.str _,H,I.tok _,⟨_,rfl⟩,q⟩
end
end L2
namespace L2
open PySem PySem.Spec PyProof.Rows
structure Cb(h:Heap)(x dx C:Addr)(mA:Str->Option Value):Prop where
 obj:h.get? x=some (Ia C dx)
 ns:h.Ns1 dx mA
 ne:dx≠x
theorem b2P{h:Heap}(n:h.Ns1 dx mA):∃od,h.get? dx=some od/\∀name,Rx name od=some (mA name):=by
 obtain ⟨o,es,ep,ho,hd,hk,_,hm⟩:=n
 refine ⟨o,ho,λname=>?_⟩
 have e:=hm name
 unfold nsFind findBy at e
 rw [<-Array.find?_toList] at e
 unfold Rx
 rw [hd]
 dsimp only
 split
 .rename_i y q
  rw [q] at e
  exact congrArg some e
 .rename_i q
  rw [q] at e
  have a:es.toList.any (·.refKey)=false:=by
   rw [List.any_eq_false]
   intro y hy
   obtain ⟨z,t,BN⟩:=hk y (Array.mem_toList_iff.mp hy)
   simp [DictEntry.refKey,BN]
  have a':¬es.toList.any (·.refKey)=true:=by rw [a];exact DG
  rw [if_neg a']
  exact congrArg some e
theorem Cb.look(I:Cb h x dx C mA):∃od,PySem.W.InstAt h x (Ia C dx) C (some od)/\∀name,Rx name od=some (mA name):=
 let ⟨od,ho,hl⟩:=b2P I.ns
 ⟨od,⟨I.obj,rfl,rfl,ho⟩,hl⟩
section
variable {prog:Program}{w:World}{A:Around}{E:Value->Shared->Prop}{s:Shared}{K:aX}{x dx C f:Addr}{mA:Str->Option Value}{name:Str}{v:Value}
theorem b7I(X:K.In s.heap)(I:Cb s.heap x dx C mA)(hg:Al K C name=true)(hh:AJ K C=true)
  (ha:aA K (.ref C) name=some none)(hv:mA name=some v)(hv':c6E v=true)(h:Q v { s with toks:=s.toks+1 }):
  wpAny (model prog w) A (getAttr (.ref x) name expr) Q E s:=by
 obtain ⟨od,J,hl⟩:=I.look
 exact PySem.W.get_value X J (Xn hg).1 (PySem.W.findObj_own hh ha rfl (by rw [hl,hv])) hv' h
theorem b4R(X:K.In s.heap)(I:Cb s.heap x dx C mA)(hg:Al K C name=true)
  (hf:aA K (.ref C) name=some (some (.ref f)))(ht:mm K (.ref f)=true)(hv:mA name=none)(h:Q (.ref f,[.ref x]) s):
  wpAny (model prog w) A (getMethod (.ref x) name pl) Q E s:=by
 obtain ⟨od,J,hl⟩:=I.look
 exact PySem.W.method_fn X J (Xn hg).1 (Xn hg).2 hf (beq_iff_eq.mp ht) (by show (Rx name od).map (·.isSome)=some false;rw [hl,hv];rfl) h
theorem b6W(X:K.In s.heap)(I:Cb s.heap x dx C mA)
  (hs:aA K (.ref C) "__setattr__" = some (some (.builtin "object.__setattr__")))(hp:Bf K C=true)(ht:W1 K C name=some none)(hh:AJ K C=true)
  (hw:WA mA ns)(hsz:ns.length<=sizeLine)
  (h:∀h',Cb h' x dx C (λy=>if y=name then some v else mA y)->E5 dx s.heap h'->Q () { s with heap:=h',toks:=s.toks+2 }):
  wpAny (model prog w) A (setAttr (.ref x) name v) Q E s:=by
 obtain ⟨od,J,hl⟩:=I.look
 refine PySem.W.set_plain X J hs (PySem.W.osa_open (s:={ s with toks:=s.toks+1 }) (r:=none) X J hp ht λb=>?_)
 obtain ⟨cd,hc,Dz⟩:=PySem.W.any_some hh
 have hx:s.heap.get? x=some ⟨.ref C,some dx,.plain,#[]⟩:=I.obj
 refine aY (cE (aY (aY (wpAny_loadPart hx (aY (PySem.W.Looks.here (s:={ s with toks:=s.toks+1 }) (PySem.W.looks_clsIn X hc) ?_))))))
 rw [Dz]
 refine cE (a:=some dx) (aY (cE (aY ?_)))
 refine wpAny_nsSet1 (s:={ s with toks:=s.toks+1 }) I.ns λh' Q4 yI=>?_
 obtain ⟨oD,esD,epD,hoD,hdD,hcD⟩:=Q4.count (PySem.Within.cons name v hw)
 refine aY (wpAny_lookBehind hoD (by rw [hdD];exact pastItsLine_dict (tu hcD (by rw [lI];omega))) ?_)
 exact cE (h _ ⟨(yI.2 _ (wF I.ne)).trans I.obj,Q4,I.ne⟩ yI)
theorem b4B(X:K.In s.heap)(hm:Bd K C=true)
  (hi:aA K (.ref C) "__init__" = some (some (.ref f)))(hf:PySem.W.typeIn K (.ref f)=some (.type "function"))
  (h:codeAny (model prog w) (A.under (.builtin "type.__call__" ⟨.ref C::vs,kw⟩)) (.call (.ref f) ⟨.ref (s.heap.objs.size+1)::vs,kw⟩) (PySem.W.InitBack (s.heap.objs.size+1) R)
   { s with heap:=(s.heap.push Hf).push (Ia C s.heap.objs.size) }):
  codeAny (model prog w) A (.call (.ref C) ⟨vs,kw⟩) R s:=by
 obtain ⟨hh,g,d,t,os⟩:=s
 exact PySem.W.make_core (PySem.W.makes_of X hm) (PySem.W.looks_findIn X hi) (λself=>PySem.W.bind_fn X self hf) (.inl rfl) h
end
def l6(f:Str)(v:V):List (Str×V)->List (Str×V)
 | []=>[(f,v)]
 | (g,x)::r=>if g=f then (g,v)::r else (g,x)::l6 f v r
theorem a6W(f g:Str)(v:V):∀fs:List (Str×V),(l6 f v fs).lookup g=if g=f then some v else fs.lookup g
 | []=>by
  show EZ g [(f,v)]=_
  by_cases h:g=f
  .have hb:(g==f)=true:=beq_iff_eq.mpr h
   simp only [EZ,hb,if_pos h]
  .have hb:(g==f)=false:=beq_eq_false_iff_ne.mpr h
   simp only [EZ,hb,if_neg h]
 | (k,x)::r=>by
  have ih:=a6W f g v r
  rw [show l6 f v ((k,x)::r)=(if k=f then (k,v)::r else (k,x)::l6 f v r) from rfl]
  by_cases hk:k=f
  .rw [if_pos hk]
   by_cases h:g=k
   .have hb:(g==k)=true:=beq_iff_eq.mpr h
    simp only [EZ,hb,if_pos (h.trans hk)]
   .have hb:(g==k)=false:=beq_eq_false_iff_ne.mpr h
    simp only [EZ,hb,if_neg (λe:g=f=>h (e.trans hk.symm))]
  .rw [if_neg hk]
   by_cases h:g=k
   .have hb:(g==k)=true:=beq_iff_eq.mpr h
    simp only [EZ,hb,if_neg (λe:g=f=>hk (h.symm.trans e))]
   .have hb:(g==k)=false:=beq_eq_false_iff_ne.mpr h
    simp only [EZ,hb]
    exact ih
theorem YM(f:Str)(v:V):∀fs:List (Str×V),f∈(l6 f v fs).map (·.1)/\∀g,g∈fs.map (·.1)->g∈(l6 f v fs).map (·.1)
 | []=>⟨by simp [l6],λg h=>by simp at h⟩
 | (k,x)::r=>by
  obtain ⟨i1,i2⟩:=YM f v r
  rw [show l6 f v ((k,x)::r)=(if k=f then (k,v)::r else (k,x)::l6 f v r) from rfl]
  by_cases hk:k=f
  .rw [if_pos hk]
   subst hk
   exact ⟨by simp,λg h=>by simpa using h⟩
  .rw [if_neg hk]
   refine ⟨?_,λg h=>?_⟩
   .rw [fH]
    exact nT _ i1
   .rw [fH] at h ⊢
    rcases js.mp h with e | e
    .exact js.mpr (.inl e)
    .exact nT _ (i2 g e)
theorem a60(f:Str)(v:V):∀fs:List (Str×V),(l6 f v fs).length<=fs.length+1
 | []=>by simp [l6]
 | (k,x)::r=>by
  have ih:=a60 f v r
  rw [show l6 f v ((k,x)::r)=(if k=f then (k,v)::r else (k,x)::l6 f v r) from rfl]
  by_cases hk:k=f
  .rw [if_pos hk,lI,lI];omega
  .rw [if_neg hk,lI,lI];omega
theorem mi.some_of(r:mi (some v) o):∃u,o=some u/\RelV v u:=by
 cases o with
 | none=>exact (show False from r).elim
 | some u=>exact ⟨u,rfl,r⟩
theorem mi.none_of(r:mi none o):o=none:=by
 cases o with
 | none=>rfl
 | some u=>exact (show False from r).elim
theorem b3h(r:RelV v u):c6E u=true:=by
 cases v with
 | cT=>cases (show u=vX from r);rfl
 | bl b=>cases (show u=AK b from r);rfl
 | int i=>obtain ⟨t,e⟩:=(show ∃t,u=HZ i t from r);cases e;rfl
 | str x=>obtain ⟨t,e⟩:=(show ∃t,u=Ll x t from r);cases e;rfl
 | LK b=>obtain ⟨t,e⟩:=(show ∃t,u=Value.bytes b t from r);cases e;rfl
 | Lf b=>obtain ⟨t,e⟩:=(show ∃t,u=Value.float b t from r);cases e;rfl
 | ref a=>cases (show u=e8 a from r);rfl
 | ty n=>cases (show u=Hc n from r);rfl
section
variable {P:Program}{w:World}{H H':Hp}{h h':Heap}{a C dx:Addr}{fs G4:List (Str×V)}
theorem X9(cF:pE P w H h)(e:H a=some (.ins C dx fs)):∃mA,Cb h a dx C mA/\(∀f,mi (fs.lookup f) (mA f))/\WA mA (fs.map (·.1))/\fs.length<=1000/\H dx=some (.own a):=by
 obtain ⟨d,z,ne,ob,mA,n,r,q⟩:=(show dr P w H h a (.ins C dx fs) from cF a _ e)
 exact ⟨mA,⟨ob,n,ne⟩,r,q,z,d⟩
end
structure A3(K:aX)(C:Addr):Prop where
 pg:Al K C yK=true
 hd:AJ K C=true
 po:Bf K C=true
 sa:aA K (.ref C) "__setattr__" = some (some (.builtin "object.__setattr__"))
theorem A3.get{K:aX}{C:Addr}(c:A3 K C)(f:Str):Al K C f=true:=c.pg
def aa(K:aX)(C:Addr)(f:Str):Prop:=aA K (.ref C) f=some none
theorem aa.MY{K:aX}{C:Addr}{f:Str}(n:aa K C f):W1 K C f=some none:=by
 unfold W1
 rw [show aA K (.ref C) f=some none from n]
 rfl
structure Con(K:aX)(C:Addr)(f:Str)(v:V)(u:Value):Prop where
 at_:aA K (.ref C) f=some (some u)
 rel:RelV v u
 get:PD K u "__get__" = some none
 cp:PySem.W.copiedNames.contains f=false
structure bL(K:aX)(C:Addr)(m:Str)(f:Addr):Prop where
 at_:aA K (.ref C) m=some (some (.ref f))
 fn:mm K (.ref f)=true
 kp:vY K (.ref f)=true
section
variable {X:Cx}{pins:List (Addr×Obj)}{σ:St}{H:Hp}{s:Shared}{a C dx:Addr}{fs:List (Str×V)}{f:Str}{v:V}{A:Around}{E:Value->Shared->Prop}
theorem b1I(I:Inv X pins σ H s)(e:H a=some (.ins C dx fs))(c:A3 X.K C)(n:aa X.K C f)(l:fs.lookup f=some v)
  (h:∀u s',Inv X pins σ H s'->RelV v u->Q u s'):wpAny (model X.prog X.w) A (getAttr (.ref a) f b) Q E s:=by
 obtain ⟨mA,O,r,_,_,_⟩:=X9 I.cF e
 obtain ⟨u,hu,ru⟩:=mi.some_of (v:=v) (o:=mA f) (by rw [<-l];exact r f)
 exact b7I I.Ay O (c.get f) c.hd n hu (b3h ru) (h u _ (I.tok _) ru)
theorem a7D(I:Inv X pins σ H s)(e:H a=some (.ins C dx fs))(c:A3 X.K C)(k:bL X.K C m g)(l:fs.lookup m=none)
  (h:Q (.ref g,[.ref a]) s):wpAny (model X.prog X.w) A (getMethod (.ref a) m pl) Q E s:=by
 obtain ⟨mA,O,r,_,_,_⟩:=X9 I.cF e
 have hn:mA m=none:=mi.none_of (by rw [<-l];exact r m)
 exact b4R I.Ay O (c.get m) k.at_ k.fn hn h
theorem b1g(I:Inv X pins σ H s)(e:H a=some (.ins C dx fs))(c:A3 X.K C)(n:aa X.K C f)(hl:fs.length<1000)(ry:RelV y u)
  (h:∀s',Inv X pins σ (upd H a (.ins C dx (l6 f y fs))) s'->Q () s'):wpAny (model X.prog X.w) A (setAttr (.ref a) f u) Q E s:=by
 obtain ⟨mA,O,r,wi,_,ho⟩:=X9 I.cF e
 have hz:(fs.map (·.1)).length<=sizeLine:=by rw [c6,yJ];omega
 refine b6W I.Ay O c.sa c.po n.MY c.hd wi hz λh' O' sb=>h _ ?_
 have hd:∃o,h'.get? dx=some o:=let ⟨o,_,_,e',_⟩:=O'.ns;⟨o,e'⟩
 refine I.write (x:=a) (e:=dx) (by rw [e];exact Lk) (.inr ho) (λb q hb z=>(sb.2 b hb).trans z) hd ?_
 refine ⟨by rw [jw O.ne];exact ho,?_,O.ne,O'.obj,_,O'.ns,λg=>?_,λg hg=>?_⟩
 .have:=a60 f y fs;omega
 .show mi ((l6 f y fs).lookup g) (if g=f then some u else mA g)
  rw [a6W]
  by_cases q:g=f
  .rw [if_pos q,if_pos q];exact ry
  .rw [if_neg q,if_neg q];exact r g
 .by_cases q:g=f
  .rw [q];exact (YM f y fs).1
  .refine (YM f y fs).2 g (wi g λz=>hg ?_)
   show (if g=f then some u else mA g)=none
   rw [if_neg q];exact z
theorem Inv.made(I:Inv X pins σ H s):Inv X pins σ (upd (upd H s.heap.objs.size (.own (s.heap.objs.size+1))) (s.heap.objs.size+1) (.ins C s.heap.objs.size []))
  { s with heap:=(s.heap.push Hf).push (Ia C s.heap.objs.size) }:=by
 have e1:(s.heap.push Hf).get? s.heap.objs.size=some Hf:=nS s.heap rfl
 have e2:((s.heap.push Hf).push (Ia C s.heap.objs.size)).get? (s.heap.objs.size+1)=some (Ia C s.heap.objs.size):=by
  have:=nS (s.heap.push Hf) (o:=Ia C s.heap.objs.size) rfl
  rwa [zo] at this
 have e3:(s.heap.push Hf).Ns s.heap.objs.size (λ_=>none):=⟨Hf,#[],_,e1,rfl,(λe he=>absurd he (by simp)),λ_=>rfl⟩
 have I1:=I.laid (a:=s.heap.objs.size) (o:=.own (s.heap.objs.size+1)) (h':=s.heap.push Hf) (t':=s.toks) (λb u q=>ft _ q) (dF _) ⟨_,e1⟩
 refine I1.laid (a:=s.heap.objs.size+1) (o:=.ins C s.heap.objs.size []) (t':=s.toks) (λb u q=>ft _ q) (WS (zo _ _)) ?_
 have ne:s.heap.objs.size≠s.heap.objs.size+1:=g0 (AI _)
 refine ⟨by rw [jw ne,yB],De _,ne,e2,λ_=>none,(Heap.Ns1.of_empty e3).at λo q=>ft _ q,λ_=>Lk,λy hy=>absurd rfl hy⟩
theorem b8e(hb:attributeBase e f env (eval e env)=eval e env)
  (h:wpAny (model prog w) A (eval e env) (λo bA=>wpAny (model prog w) A (getAttr o f true) Q E bA) E s):wpAny (model prog w) A (eval (.Attribute e f pos) env) Q E s:=
 Attribute_any_ h (by rw [arm_eval_Attribute,hb])
end
def US(K:aX)(ta:TE)(f:Str):TE:=λσ H Q=>ta σ H λx H1=>∃a C dx fs v,x=.ref a/\H1 a=some (.ins C dx fs)/\A3 K C/\aa K C f/\fs.lookup f=some v/\Q v H1
def U2(K:aX)(ta tv:TE)(f:Str):TS:=λD σ H=>tv σ H λy H1=>ta σ H1 λx H2=>∃a C dx fs,x=.ref a/\H2 a=some (.ins C dx fs)/\A3 K C/\aa K C f/\fs.length<1000 /\
 D.nx σ (upd H2 a (.ins C dx (l6 f y fs)))
section
variable {X:Cx}{o e value:Expr}{f:Str}{pos pos' UI:Pos}{ta tv:TE}
theorem b52(he:PE X e ta)(hb:attributeBase e f X.env (eval e X.env)=eval e X.env):PE X (.Attribute e f pos) (US X.K ta f):=by
 intro pins s σ H Q I h
 refine b8e hb (cM (he pins s σ H _ I h) λu s1 ⟨x,H1,I1,rx,a,C,dx,fs,v,ex,ea,c,n,l,q⟩=>?_)
 subst ex
 obtain rfl:u=e8 a:=rx
 exact b1I I1 ea c n l λu' s2 I2 ru=>⟨v,H1,I2,ru,q⟩
theorem b5Y(ha:PE X o ta)(hv:PE X value tv)(hs:swapsWith value (some (.Attribute o f pos')) pos.line X.env=pure false):PS X (.Assign [.Attribute o f pos'] value pos) (U2 X.K ta tv f):=by
 intro pins s σ H D I h
 refine plainObj_wpAny_Assign_Attribute (cM (hv pins s σ H _ I h) λu s1 ⟨y,H1,I1,ry,q⟩=>cM (ha pins s1 σ H1 _ I1 q) λov s2 ⟨x,H2,I2,rx,a,C,dx,fs,ex,ea,c,n,l,q2⟩=>?_) hs
 subst ex
 obtain rfl:ov=e8 a:=rx
 exact b1g I2 ea c n l ry λs3 I3=>⟨σ,_,I3,q2⟩
end
section
variable {X:Cx}{pins:List (Addr×Obj)}{σ:St}{H:Hp}{s:Shared}{A:Around}{E:Value->Shared->Prop}{Q:Value->Shared->Prop}{c:Value}{b:Bool}
inductive yG (K:aX) (H:Hp):V->Value->Prop where
 | cT:yG K H .cT (.type "NoneType")
 | bl (x:Bool):yG K H (.bl x) (.type "bool")
 | int (i:Int):yG K H (.int i) (.type "int")
 | str (x:Str):yG K H (.str x) (.type "str")
 | Lf (x:UInt64):yG K H (.Lf x) (.type "float")
 | lst {a:Addr} {xs:List V} (e:H a=some (.lst xs)):yG K H (.ref a) (.type "list")
 | nQ {a:Addr} {o:Obj} {xs:List V} (e:H a=some (.nQ o (.lst xs))):yG K H (.ref a) (.type "list")
 | tup {a:Addr} {xs:List V} (e:H a=some (.tup xs)):yG K H (.ref a) (.type "tuple")
 | dK {a:Addr} {aI:List (Key×V)} (e:H a=some (.dK aI)):yG K H (.ref a) (.type "dict")
 | dT {a:Addr} {aI:List (List Key×V)} (e:H a=some (.dT aI)):yG K H (.ref a) (.type "dict")
 | ins {a C dx:Addr} {fs:List (Str×V)} (e:H a=some (.ins C dx fs)) (cl:A3 K C) (ha:aA K (.ref C) "__class__" = some (some (.builtin "object.__class__")))
   (hn:PD K (.builtin "object.__class__") "__get__" = some (some (.builtin "getset_descriptor.__get__"))) (htk:c6K K (.builtin "object.__class__")=some true)
   (hm:PySem.W.mroIn K C (.type "object")=some true):yG K H (.ref a) (.ref C)
end
end L2
namespace L2
open PySem PySem.Spec PyProof.Rows
structure c8(k:Nat)(A:Around):Prop where
 hd:A.handled=none
 dp:A.depth+3*k+5<recursionLimit
 un:A.units+16*k+200<cLine
theorem c8.mono(r:c8 k A)(h:j<=k):c8 j A:=⟨r.hd,by have:=r.dp;omega,by have:=r.un;omega⟩
theorem c8.deeper(r:c8 (k+1) A)(env:Env):c8 k (A.deeper env):=
 ⟨r.hd,by have:=r.dp;show A.depth+1+3*k+5<_;omega,by have:=r.un;show A.units+3+16*k+200<_;omega⟩
theorem c8.in1(r:c8 (k+1) A):c8 k A.in1:=
 ⟨r.hd,by have:=r.dp;show A.depth+3*k+5<_;omega,by have:=r.un;show A.units+1+16*k+200<_;omega⟩
theorem b1D{A:Around}{kw:List (Str×Value)}:(A.under (.builtin "type.__call__" ⟨.ref C::us,kw⟩)).depth=A.depth+1:=by
 first | rfl | simp [WR,Code.weight,Code.isCreation,Code.isGuard,Code.isCaller,Code.frames,WQ,guardIds]
theorem b1C{A:Around}{kw:List (Str×Value)}:(A.under (.builtin "type.__call__" ⟨.ref C::us,kw⟩)).units=A.units+1:=by
 first | rfl | simp [WR,Code.cUnits,Code.frames,WQ]
theorem c8.make(r:c8 (k+1) A)(C:Addr)(us:List Value)(kw:List (Str×Value)):c8 k (A.under (.builtin "type.__call__" ⟨.ref C::us,kw⟩)):=
 ⟨r.hd,by have:=r.dp;rw [b1D];omega,by have:=r.un;rw [b1C];omega⟩
theorem c8.depth(r:c8 k A):A.depth<recursionLimit:=by have:=r.dp;omega
theorem c8.units(r:c8 k A):A.units+64<cLine:=by have:=r.un;omega
def M4:TA:=λ_ H Q=>Q [] H
def M9(ta:TE)(tr:TA):TA:=λσ H Q=>ta σ H λx H1=>tr σ H1 λxs H2=>Q (x::xs) H2
section
variable {X:Cx}{e:Expr}{es:List Expr}{te:TE}{t:TA}{pos:Pos}
theorem zx:PA X [] M4:=λ_ _ _ _ H Q I h=>Calls.spliced_nil ⟨[],H,I,.nil,h⟩
theorem wm(ha:PE X e te)(hr:PA X es t)(hs:starEach (e::es) X.env=(false,eval e X.env)::starEach es X.env:=by rfl):PA X (e::es) (M9 te t):=by
 intro pos pins s σ H Q I h
 rw [hs]
 show wpAny _ _ (spliced ((false,eval e X.env)::backTo pos (starEach es X.env))) _ _ s
 refine Calls.spliced_cons (cM (ha pins s σ H _ I h) λu s1 ⟨x,H1,I1,r1,q1⟩=>?_)
 exact cM (hr pos pins s1 σ H1 _ I1 q1) λus s2 ⟨xs,H2,I2,r2,q2⟩=>⟨x::xs,H2,I2,.cons r1 r2,q2⟩
def UK(t:TA):TE:=λσ H Q=>t σ H λxs H1=>xs.length<=sizeLine/\∀p,H1 p=none->Q (.ref p) (upd H1 p (.tup xs))
def UP(t:TA):TE:=λσ H Q=>t σ H λxs H1=>xs.length<=sizeLine/\∀p,H1 p=none->Q (.ref p) (upd H1 p (.lst xs))
theorem b51{x1}(h:PA X es t):PE X (.Tuple es x1 pos) (UK t):=by
 intro pins s σ H Q I hq
 refine wpAny_Tuple_spliced (cM (h pos pins s σ H _ I hq) λus s1 ⟨xs,H1,I1,r,z,q⟩=>⟨by rw [<-r.length];exact z,?_⟩)
 have hf:H1 s1.heap.objs.size=none:=I1.cF.fresh (dF _)
 refine ⟨.ref s1.heap.objs.size,upd H1 s1.heap.objs.size (.tup xs),I1.laid (t':=s1.toks) (λb u e=>ft _ e) (dF _) ?_,rfl,q _ hf⟩
 exact ⟨z,us,r,⟨_,nS _ rfl,rfl,_,rfl⟩⟩
theorem b9Q(h:PA X es t):PE X (.List es pos) (UP t):=by
 intro pins s σ H Q I hq
 refine wpAny_List_spliced (cM (h pos pins s σ H _ I hq) λus s1 ⟨xs,H1,I1,r,z,q⟩=>⟨by rw [<-r.length];exact z,?_⟩)
 have hf:H1 s1.heap.objs.size=none:=I1.cF.fresh (dF _)
 refine ⟨.ref s1.heap.objs.size,upd H1 s1.heap.objs.size (.lst xs),I1.laid (t':=s1.toks) (λb u e=>ft _ e) (dF _) ?_,rfl,q _ hf⟩
 exact ⟨z,us,0,r,nS _ rfl⟩
end
abbrev Sp:=List V->Hp->VK->XK->Prop
abbrev Dw:=List Env->Hp->Shared->XK->Value->Shared->Prop
structure zE(P:Program)(w:World)(K:aX)(mg:Str->Option Value)(base:Heap)(A:Around)(outer:List Env)(s:Shared)(H:Hp):Prop where
 frames:A.frames=some outer
 mod:Mod K mg base
 bs:∀b o,base.get? b=some o->s.heap.get? b=some o/\H b=none
 E7:base.objs.size<=s.heap.objs.size
 sv:s.heap.FunFrames base outer
 HU:∀b∈DB outer,H b=none
 cF:pE P w H s.heap
 bare:AllBare s.gens
def CE(outer:List Env)(P:Program)(w:World)(H:Hp)(s:Shared)(Q:VK)(u:Value)(s':Shared):Prop:=
 ∃v H',s'.os=s.os/\AllBare s'.gens/\Un (DB outer) [] H H' s.heap s'.heap/\pE P w H' s'.heap/\RelV v u/\Q v H'
def CR(CX:Dw)(outer:List Env)(P:Program)(w:World)(H:Hp)(s:Shared)(Q:VK)(E:XK)(r:Result)(s':Shared):Prop:=
 match r with
 | .ok (.ret u)=>CE outer P w H s Q u s'
 | .ok _=>False
 | .error e=>CX outer H s E e s'
structure dh(P:Program)(w:World)(K:aX)(mg:Str->Option Value)(base:Heap)(CX:Dw)(k:Nat)(f:Addr)(fd:FuncData)(ps:List Str)(sp:Sp):Prop where
 len:∀vs H Q E,sp vs H Q E->vs.length=ps.length
 run:∀(A:Around) (outer:List Env) (s:Shared) (H:Hp) (args:Args) (us:List Value) (vs:List V) (Q:VK) (E:XK),c8 k A->zE P w K mg base A outer s H->BindsTo s fd args (ps.zip us)->aU vs us->sp vs H Q E ->
  codeAny (model P w) A (.call (.ref f) args) (CR CX outer P w H s Q E) s
theorem dh.mono{P:Program}{w:World}{K:aX}{mg:Str->Option Value}{base:Heap}{CX:Dw}{j k:Nat}{f:Addr}{fd:FuncData}{ps:List Str}{sp:Sp}(F:dh P w K mg base CX j f fd ps sp)(h:j<=k):
  dh P w K mg base CX k f fd ps sp:=⟨F.len,λA outer s H args us vs Q E hr=>F.run A outer s H args us vs Q E (hr.mono h)⟩
theorem dh.imp{P:Program}{w:World}{K:aX}{mg:Str->Option Value}{base:Heap}{CX:Dw}{k:Nat}{f:Addr}{fd:FuncData}{ps:List Str}{sp ZX:Sp}(F:dh P w K mg base CX k f fd ps sp)
  (h:∀vs H Q E,ZX vs H Q E->sp vs H Q E):dh P w K mg base CX k f fd ps ZX:=
 ⟨λvs H Q E q=>F.len vs H Q E (h _ _ _ _ q),λA outer s H args us vs Q E hr he hb hv hs=>F.run A outer s H args us vs Q E hr he hb hv (h _ _ _ _ hs)⟩
theorem zE.make{P:Program}{w:World}{K:aX}{mg:Str->Option Value}{base:Heap}{A:Around}{outer:List Env}{s:Shared}{H:Hp}(e:zE P w K mg base A outer s H)(C:Addr)(us:List Value)(kw:List (Str×Value)):
  zE P w K mg base (A.under (.builtin "type.__call__" ⟨.ref C::us,kw⟩)) outer s H:=⟨by first | exact e.frames | (simpa [WR,Code.envs,WQ,pushEnvs] using e.frames),e.mod,e.bs,e.E7,e.sv,e.HU,e.cF,e.bare⟩
theorem zE.in1{P:Program}{w:World}{K:aX}{mg:Str->Option Value}{base:Heap}{A:Around}{outer:List Env}{s:Shared}{H:Hp}(e:zE P w K mg base A outer s H):
  zE P w K mg base A.in1 outer s H:=⟨e.frames,e.mod,e.bs,e.E7,e.sv,e.HU,e.cF,e.bare⟩
section
variable {X:Cx}{pins:List (Addr×Obj)}{σ:St}{H:Hp}{s s':Shared}
theorem Inv.vm(I:Inv X pins σ H s):zE X.prog X.w X.K X.mg X.base X.A X.stack s H:=
 ⟨I.ok.frames,I.ok.mod,I.bs,tu I.ok.E7 I.sz,I.stack,I.Ce,I.cF,I.bare⟩
theorem Inv.after(I:Inv X pins σ H s)(h:CE X.stack X.prog X.w H s Q u s'):EP X pins σ Q u s':=by
 obtain ⟨v,H',os,bare,un,cF,r,q⟩:=h
 obtain ⟨hh,g,d,t,NL⟩:=s'
 obtain rfl:NL=s.os:=os
 exact ⟨v,H',I.call (h':=hh) (g':=g) (d':=d) (t':=t) (ch:=[]) un cF bare (λb z=>absurd z (by simp)),r,q⟩
end
def XN(sp:Sp)(dvs:List V)(E:XK)(t:TA):TE:=λσ H Q=>t σ H λvs H1=>sp (vs++dvs) H1 Q E
def M6(C:Addr)(sp:Sp)(dvs:List V)(E:XK)(t:TA):TE:=λσ H Q=>t σ H λvs H1=>∀x dx,H1 x=none->H1 dx=none->dx≠x ->
 sp (.ref x::(vs++dvs)) (upd (upd H1 dx (.own x)) x (.ins C dx [])) (λv H2=>v=.cT/\Q (.ref x) H2) E
def Binds(K:aX)(fd:FuncData)(ps:List Str)(ds:List Value):Prop:=
 ∀(s:Shared) (us:List Value),K.In s.heap->(us++ds).length=ps.length->BindsTo s fd ⟨us,[]⟩ (ps.zip (us++ds))
theorem Binds.all{K:aX}{fd:FuncData}{ps:List Str}(h:∀us:List Value,us.length=ps.length->bindArgs fd ⟨us,[]⟩=pure (ps.zip us)):Binds K fd ps []:=λs us _ hl=>by
 rw [E4] at hl ⊢
 exact .of_eq (h us hl)
def P'(CX:Dw)(X:Cx)(E:XK):Prop:=∀(pins:List (Addr×Obj)) (σ:St) (H:Hp) (s:Shared) (e:Value) (s':Shared),Inv X pins σ H s->CX X.stack H s E e s'->X.xe e s'
section
variable {X:Cx}{CX:Dw}{k:Nat}{f C:Addr}{fd:FuncData}{ps:List Str}{sp:Sp}{dvs:List V}{ds:List Value}{E:XK}{x m:Str}{p pos apos:Pos}{e o:Expr}{es:List Expr}{ta:TE}{t:TA}
theorem SO{pins:List (Addr×Obj)}{σ:St}{H:Hp}{s:Shared}{Q:VK}{us:List Value}{vs:List V}(F:dh X.prog X.w X.K X.mg X.base CX k f fd ps sp)(hr:c8 k X.A)(hb:Binds X.K fd ps ds)(hd:aU dvs ds)(hx:P' CX X E)
  (I:Inv X pins σ H s)(r:aU vs us)(h:sp (vs++dvs) H Q E):wpAny (model X.prog X.w) X.A (call (.ref f) us) (EP X pins σ Q) X.xe s:=by
 have r2:aU (vs++dvs) (us++ds):=r.append hd
 have hl:(us++ds).length=ps.length:=by rw [<-r2.length];exact F.len _ _ _ _ h
 refine wpAny_call (Ie (F.run X.A X.stack s H ⟨us,[]⟩ (us++ds) (vs++dvs) Q E hr I.vm (hb s us I.Ay hl) r2 h) λr s' hq=>?_)
 cases r with
 | error e=>exact hx pins σ H s e s' I hq
 | ok fl =>
  cases fl with
  | ret u=>exact I.after hq
  | next=>exact zp hq
  | brk=>exact zp hq
  | cont=>exact zp hq
theorem Yd(F:dh X.prog X.w X.K X.mg X.base CX k f fd ps sp)(hr:c8 k X.A)(hg:Gl X x)(hm:X.mg x=some (.ref f))(hk:vY X.K (.ref f)=true)(hb:Binds X.K fd ps ds)(hd:aU dvs ds)(hx:P' CX X E)
  (ha:PA X (e::es) t)(ql:(x==("__debug__":Str))=false:=by decide)(he:starEach (e::es) X.env=(false,eval e X.env)::starEach es X.env:=by rfl)(nP:(backTo pos (starEach es X.env)).any (·.1)=false:=by rfl):
  PE X (.Call (.Name x p) (e::es) [] pos) (XN sp dvs E t):=by
 intro pins s σ H Q I h
 refine RG (S3 I hg hm ?_ ql)
 refine RE (h₀:=X.base) I.ok.mod.HI hk (cM (ha pos pins s σ H _ I h) λus s1 ⟨vs,H1,I1,r,q⟩=>⟨I1.Ay,?_⟩) he nP
 exact SO F hr hb hd hx I1 r q
structure Mk(K:aX)(C f:Addr):Prop where
 makes:Bd K C=true
 init:aA K (.ref C) "__init__" = some (some (.ref f))
 fn:mm K (.ref f)=true
 kp:vY K (.ref C)=true
theorem b4e{pins:List (Addr×Obj)}{σ:St}{H:Hp}{s:Shared}{Q:VK}{us:List Value}{vs:List V}(M:Mk X.K C f)(F:dh X.prog X.w X.K X.mg X.base CX k f fd ps sp)(hr:c8 (k+1) X.A)(hb:Binds X.K fd ps ds)(hd:aU dvs ds)
  (hx:P' CX X E)(I:Inv X pins σ H s)(r:aU vs us)
  (h:∀x dx,H x=none->H dx=none->dx≠x->sp (.ref x::(vs++dvs)) (upd (upd H dx (.own x)) x (.ins C dx [])) (λv H2=>v=.cT/\Q (.ref x) H2) E):
  wpAny (model X.prog X.w) X.A (call (.ref C) us) (EP X pins σ Q) X.xe s:=by
 have hq:=h (s.heap.objs.size+1) s.heap.objs.size (I.cF.fresh (He _)) (I.cF.fresh (dF _)) (g0 (AI _))
 have I2:=Inv.made (C:=C) I
 have r2:aU (V.ref (s.heap.objs.size+1)::(vs++dvs)) (e8 (s.heap.objs.size+1)::(us++ds)):=.cons rfl (r.append hd)
 have hl:(e8 (s.heap.objs.size+1)::us++ds).length=ps.length:=by
  have e:=r2.length
  rw [F.len _ _ _ _ hq] at e
  exact e.symm
 refine wpAny_call (b4B (f:=f) I.Ay M.makes M.init (beq_iff_eq.mp M.fn) (Ie (F.run _ X.stack _ _ ⟨e8 (s.heap.objs.size+1)::us,[]⟩ (e8 (s.heap.objs.size+1)::(us++ds)) _ _ E (hr.make C us [])
  (I2.vm.make C us []) (hb _ (e8 (s.heap.objs.size+1)::us) I2.Ay hl) r2 hq) λr s' l8=>?_))
 cases r with
 | error e=>exact hx pins σ _ _ e s' I2 l8
 | ok fl =>
  cases fl with
  | ret u =>
   obtain ⟨v,H',I3,rv,ev,q3⟩:=I2.after l8
   subst ev
   exact ⟨rv,⟨V.ref (s.heap.objs.size+1),H',I3,rfl,q3⟩⟩
  | next=>exact zp l8
  | brk=>exact zp l8
  | cont=>exact zp l8
theorem b7b(M:Mk X.K C f)(F:dh X.prog X.w X.K X.mg X.base CX k f fd ps sp)(hr:c8 (k+1) X.A)(hg:Gl X x)(hm:X.mg x=some (.ref C))(hb:Binds X.K fd ps ds)(hd:aU dvs ds)(hx:P' CX X E)
  (ha:PA X (e::es) t)(ql:(x==("__debug__":Str))=false:=by decide)(he:starEach (e::es) X.env=(false,eval e X.env)::starEach es X.env:=by rfl)(nP:(backTo pos (starEach es X.env)).any (·.1)=false:=by rfl):
  PE X (.Call (.Name x p) (e::es) [] pos) (M6 C sp dvs E t):=by
 intro pins s σ H Q I h
 refine RG (S3 I hg hm ?_ ql)
 refine RE (h₀:=X.base) I.ok.mod.HI M.kp (cM (ha pos pins s σ H _ I h) λus s1 ⟨vs,H1,I1,r,q⟩=>⟨I1.Ay,?_⟩) he nP
 exact b4e M F hr hb hd hx I1 r q
end
section
variable {X:Cx}{CX:Dw}{k:Nat}{f C:Addr}{fd:FuncData}{ps ks:List Str}{sp:Sp}{E:XK}{x m:Str}{p pos apos kpos:Pos}{e o:Expr}{es:List Expr}{kws:List Keyword}{te ta:TE}{t tk:TA}{nm:Option Str}
structure ZO(K:aX)(fd:FuncData)(ps ks:List Str)(g:List Value->List Value->List Value)(gV:List V->List V->List V):Prop where
 to:∀(s:Shared) (us ws:List Value),K.In s.heap->(g us ws).length=ps.length->BindsTo s fd ⟨us,ks.zip ws⟩ (ps.zip (g us ws))
 rel:∀{vs:List V} {us:List Value} {zs:List V} {ws:List Value},aU vs us->aU zs ws->aU (gV vs zs) (g us ws)
variable {g:List Value->List Value->List Value}{gV:List V->List V->List V}
end
structure dN(N P:List Str)(sc:Scope):Prop where
 kind:sc.kind=.function
 co:sc.isCoroutine=false
 gen:sc.isGenerator=false
 nd:N.Nodup
 pre:N.take P.length=P
 par:∀x∈P,sc.names.lookup x=some .local\/sc.names.lookup x=some .cell
 JC:∀y∈sc.names,y.2≠.free
theorem a9d{kindOf:Str->Option NameKind}{x:Str}:∀{binds:List (Str×Value)} {m:Str->Option Value},(∀v,(x,v)∉binds)->bindL kindOf binds m x=m x
 | [],_,_=>rfl
 | (n,v)::r,m,h=>by
  unfold bindL
  rw [a9d λw hw=>h w (nT _ hw)]
  split
  .have:x≠n:=by rintro rfl;exact h v pd
   simp [this]
  .rfl
theorem a9f{kindOf:Str->Option NameKind}{x:Str}:∀{binds:List (Str×Value)} {m:Str->Option Value},(∀v,(x,v)∉binds)->bindC kindOf binds m x=m x
 | [],_,_=>rfl
 | (n,v)::r,m,h=>by
  unfold bindC
  rw [a9f λw hw=>h w (nT _ hw)]
  split
  .rfl
  .have:x≠n:=by rintro rfl;exact h v pd
   simp [this]
theorem a9e{kindOf:Str->Option NameKind}{x:Str}{v:Value}:∀{P:List Str} {vs:List Value} {i:Nat} {m:Str->Option Value},P.Nodup->P[i]?=some x->vs[i]?=some v->kindOf x=some .local ->
  bindL kindOf (P.zip vs) m x=some v
 | [],_,_,_,_,h,_,_=>by simp at h
 | _::_,[],_,_,_,_,h,_=>by simp at h
 | p::P,w::vs,0,m,nd,h1,h2,hk=>by
  simp at h1 h2;subst h1;subst h2
  show bindL kindOf ((p,w)::P.zip vs) m p=_
  unfold bindL
  rw [a9d λv hv=>(Po.mp nd).1 (Xc hv).1,if_pos hk]
  simp
 | p::P,w::vs,i+1,m,nd,h1,h2,hk=>by
  show bindL kindOf ((p,w)::P.zip vs) m x=_
  unfold bindL
  exact a9e (i:=i) (Po.mp nd).2 (by simpa using h1) (by simpa using h2) hk
theorem a9g{kindOf:Str->Option NameKind}{x:Str}{v:Value}:∀{P:List Str} {vs:List Value} {i:Nat} {m:Str->Option Value},P.Nodup->P[i]?=some x->vs[i]?=some v->kindOf x≠some .local ->
  bindC kindOf (P.zip vs) m x=some v
 | [],_,_,_,_,h,_,_=>by simp at h
 | _::_,[],_,_,_,_,h,_=>by simp at h
 | p::P,w::vs,0,m,nd,h1,h2,hk=>by
  simp at h1 h2;subst h1;subst h2
  show bindC kindOf ((p,w)::P.zip vs) m p=_
  unfold bindC
  rw [a9f λv hv=>(Po.mp nd).1 (Xc hv).1,if_neg hk]
  simp
 | p::P,w::vs,i+1,m,nd,h1,h2,hk=>by
  show bindC kindOf ((p,w)::P.zip vs) m x=_
  unfold bindC
  exact a9g (i:=i) (Po.mp nd).2 (by simpa using h1) (by simpa using h2) hk
def start(N:List Str)(vs:List V):St:=vs.map some++zJ (N.length-vs.length) none
def z7(CX:Dw)(P:Program)(w:World)(K:aX)(mg:Str->Option Value)(base:Heap)(N:List Str)(qual:Str)(scope:Scope)(f:Addr)(cd:Value)(A:Around)(outer:List Env)(s:Shared)(H:Hp)(E:XK):Cx where
 prog:=P
 w:=w
 K:=K
 mg:=mg
 base:=base
 A:=A.deeper (envOfC qual scope s.heap.objs.size f cd)
 N:=N
 gu:=s
 Fq:=H
 env:=envOfC qual scope s.heap.objs.size f cd
 outer:=outer
 stack:=envOfC qual scope s.heap.objs.size f cd::outer
 ex:=[]
 calm:=true
 fn:=λ_=>true
 pn:=[]
 xe:=λe s'=>wpAny (model P w) (A.deeper (envOfC qual scope s.heap.objs.size f cd)) (leaving (envOfC qual scope s.heap.objs.size f cd) e) (λ_ Jf=>CX outer H s E e Jf) (λe' Jf=>CX outer H s E e' Jf) s'
theorem b05{sc:Scope}{n:Nat}{x:Str}(h:sc.names.lookup x=some .cell):∃c,(cellsFrom n sc.names []).lookup x=some c:=by
 have q:=c5S sc.names n [] (.inl h)
 exact Xl.mp q
theorem b28{CX:Dw}{P:Program}{w:World}{K:aX}{mg:Str->Option Value}{base:Heap}{N ps:List Str}{qual:Str}{scope:Scope}{f:Addr}{cd:Value}{A:Around}{outer:List Env}{s s1:Shared}{H:Hp}{E:XK}{us:List Value}{vs:List V}
  (S:dN N ps scope)(hd:A.handled=none)(e0:zE P w K mg base A outer s H)(hl:vs.length=ps.length)(r:aU vs us)
  (x:InCallC s s.heap.objs.size (bindL (envOfC qual scope s.heap.objs.size f cd).kindOf (ps.zip us) λ_=>none) (cellsFrom (s.heap.objs.size+1) scope.names []) (bindC (envOfC qual scope s.heap.objs.size f cd).kindOf (ps.zip us) λ_=>none) s1):
  Inv (z7 CX P w K mg base N qual scope f cd A outer s H E) [] (start N vs) H s1:=by
 have nP:ps.length<=N.length:=by have:=congrArg Pj S.pre;rw [PK] at this;omega
 obtain ⟨h1,tk,rfl,hk⟩:=x.done
 have Vk:∀b:Addr,b∉(z7 CX P w K mg base N qual scope f cd A outer s H E).ex:=λb z=>absurd (show b∈([]:List Addr) from z) (by simp)
 refine ⟨⟨e0.mod,S.kind,rfl,rfl,dF _,λy z c h1 h2=>?_,λy hy=>?_,λy c _ h=>?_,λ_=>hd,Around.frames_deeper e0.frames,.inr ⟨rfl,rfl⟩,λb z=>absurd z (Vk b),e0.bs,e0.E7,λb _ _=>Vk b,λb z=>absurd z (Vk b),e0.sv,e0.HU⟩,
  rfl,e0.bare,Un.kept hk,⟨_,x.toInCall.ns,λi y v h1 h2 h3=>?_⟩,λy c h=>⟨_,x.cell y c h⟩,e0.cF.fresh (dF _),λy c h=>?_,λp hp=>absurd (show p∈([]:List (Addr×Obj)) from hp) (by simp),e0.cF.kept hk,?_⟩
 .exact name_of_addr x.apart (Lx h1) (Lx h2)
 .have hy:scope.names.lookup y=some .cell\/scope.names.lookup y=some .free:=hy
  rcases hy with hy | hy
  .exact b05 hy
  .exact absurd rfl (S.JC _ (Lx hy))
 .exact Lo (x.above y c (Lx h))
 .have hi:i<vs.length:=by
   unfold start at h2
   by_cases hi:i<vs.length
   .exact hi
   .rw [Xy (by simpa using hi)] at h2
    rw [LG] at h2
    split at h2<;>cases h2
  have ha:vs[i]?=some v:=by
   unfold start at h2
   rw [Xx (by simpa using hi),zq] at h2
   cases e:vs[i]? with
   | none=>rw [e] at h2;cases h2
   | some a=>rw [e] at h2;cases h2;rfl
  obtain ⟨u,hu,rv⟩:=r.get ha
  have hp:ps[i]?=some y:=by
   rw [<-S.pre,List.getElem?_take_of_lt (by omega)];exact h1
  have ndP:ps.Nodup:=by rw [<-S.pre];exact S.nd.sublist (List.take_sublist _ _)
  refine ⟨u,rv,?_⟩
  rcases S.par y (Xq hp) with k | k
  .exact .inl ⟨k,a9e ndP hp hu k⟩
  .obtain ⟨c,e⟩:=b05 (n:=s.heap.objs.size+1) k
   refine .inr ⟨.inl k,c,e,?_⟩
   have q:=x.cell y c e
   rw [a9g ndP hp hu (by show scope.names.lookup y≠_;rw [k];decide)] at q
   exact q
 .exact e0.cF.fresh (Lo (x.above y c (Lx h)))
 .unfold start
  show _=N.length
  rw [ma,c6,Sb]
  omega
theorem OT{CX:Dw}{P:Program}{w:World}{K:aX}{mg:Str->Option Value}{base:Heap}{k:Nat}{f:Addr}{name qual:Str}{params:Arguments}{body:List Stmt}{scope:Scope}{dV kV doc pm gZ ct oc:Value}{an od:Option Addr}
  {HG:Array (Option Value)}{N ps:List Str}{sp:Sp}(lk:K.lookup f=some ⟨oc,od,.func (zm name qual params body scope dV kV doc pm an gZ ct),HG⟩)(de:Pu K gZ qual=true)(S:dN N ps scope)
  (len:∀vs H Q E,sp vs H Q E->vs.length=ps.length)
  (dz:∀(A:Around) (outer:List Env) (s:Shared) (H:Hp) (vs:List V) (Q:VK) (E:XK),c8 k (A.deeper (envOfC qual scope s.heap.objs.size f gZ))->sp vs H Q E ->
   ∃t,Bm (z7 CX P w K mg base N qual scope f gZ A outer s H E) body t/\t { nx:=λ_ H'=>Q .cT H',rt:=Q } (start N vs) H):
  dh P w K mg base CX (k+1) f (zm name qual params body scope dV kV doc pm an gZ ct) ps sp:=by
 refine ⟨len,λA outer s H args us vs Q E hr e0 hb r HM=>?_⟩
 have hl:=len _ _ _ _ HM
 have KX:K.In s.heap:=e0.mod.HI.keeps λb o e=>(e0.bs b o e).1
 have lim:s.heap.NoLimit:=e0.mod.nolimit.keeps λb o e=>(e0.bs b o e).1
 have Oq:∀y∈ps.zip us,scope.names.lookup y.1=some .local\/(scope.names.lookup y.1=some .cell/\((cellsFrom (s.heap.objs.size+1) scope.names []).lookup y.1).isSome=true):=λ⟨n,v⟩ hy=>by
  rcases S.par n (Xc hy).1 with q | q
  .exact .inl q
  .exact .inr ⟨q,c5S _ _ _ (.inl q)⟩
 refine codeAny_call_function hr.depth (KX _ _ lk) rfl S.co S.gen rfl (PySem.W.codeRec_of KX de) (hb _ _ _ _ ?_)
 refine wpAny_newFunctionEnv_cells S.kind Oq λenv he s1 x=>?_
 subst he
 refine ⟨lim.keeps x.toInCall.keep,codeAny_func ?_⟩
 obtain ⟨t,ht,hq⟩:=dz A outer s H vs Q E (hr.deeper _) HM
 have I:Inv (z7 CX P w K mg base N qual scope f gZ A outer s H E) [] (start N vs) H s1:=b28 S hr.hd e0 hl r x
 refine z8 (ht [] s1 (start N vs) H _ I hq) (λfl s' hs=>?_) λe s' hs=>hs
 have fin:∀{bB:St} {H':Hp} {v:V} {u:Value},Inv (z7 CX P w K mg base N qual scope f gZ A outer s H E) [] bB H' s'->RelV v u->Q v H'->CE outer P w H s Q u s':=
  λ{bB H' v u} J rv q=>⟨v,H',J.os,J.bare,J.base,J.cF,rv,q⟩
 cases fl with
 | ret u =>
  obtain ⟨v,bB,H',J,rv,q⟩:=hs
  exact fin J rv q
 | next =>
  obtain ⟨bB,H',J,q⟩:=hs
  exact fin (v:=V.cT) (u:=vX) J rfl q
 | brk =>
  obtain ⟨_,_,_,q⟩:=hs
  exact zp q
 | cont =>
  obtain ⟨_,_,_,q⟩:=hs
  exact zp q
end L2
namespace L2
open PySem PySem.Spec PyProof.Rows
section
variable {X:Cx}{x:Str}{p pos:Pos}{e:Expr}{es:List Expr}{t:TA}{id T:String}{r:List V->Hp->VK->Prop}
def ZV(r:List V->Hp->VK->Prop)(t:TA):TE:=λσ H Q=>t σ H λvs H1=>r vs H1 Q
theorem KD(hc:dO X (.builtin id) r)(hg:Gl X x)(hm:X.mg x=none)(hv:bootBuiltins x=some (.builtin id))(ha:PA X (e::es) t)(hn:x ≠ "__name__":=by decide)(ql:(x==("__debug__":Str))=false:=by decide)
  (he:starEach (e::es) X.env=(false,eval e X.env)::starEach es X.env:=by rfl)(nP:(backTo pos (starEach es X.env)).any (·.1)=false:=by rfl):PE X (.Call (.Name x p) (e::es) [] pos) (ZV r t):=by
 intro pins s σ H Q I h
 refine RG (L1 I hg hm hv ?_ hn ql)
 exact PyProof.Rows.callWith_builtin1 (cM (ha pos pins s σ H _ I h) λus s1 ⟨vs,H1,I1,r1,q1⟩=>hc pins s1 σ H1 vs us Q I1 r1 q1) he nP
theorem ID(hc:dO X (.type T) r)(hg:Gl X x)(hm:X.mg x=none)(hv:bootBuiltins x=some (.type T))(ha:PA X (e::es) t)(hn:x ≠ "__name__":=by decide)(ql:(x==("__debug__":Str))=false:=by decide)
  (he:starEach (e::es) X.env=(false,eval e X.env)::starEach es X.env:=by rfl)(nP:(backTo pos (starEach es X.env)).any (·.1)=false:=by rfl):PE X (.Call (.Name x p) (e::es) [] pos) (ZV r t):=by
 intro pins s σ H Q I h
 refine RG (L1 I hg hm hv ?_ hn ql)
 exact RW (cM (ha pos pins s σ H _ I h) λus s1 ⟨vs,H1,I1,r1,q1⟩=>hc pins s1 σ H1 vs us Q I1 r1 q1) he nP
end
end L2
namespace HT
open PySem PyProof.Rows
section
open PySem.SeqAt
open PySem.AutoSeq1 (wpAny_loadPart')
open PySem.MeetsSeq PySem.MeetsSeq2 PySem.MeetsSeq3
end
section
variable {prog:Program}{w:World}{A:Around}{E:Value->Shared->Prop}{s:Shared}
theorem Hb(ht:IsTup s.heap t vs.toArray)(hb:IsTup s.heap b ws.toArray)(hv:vs≠[])
  (h1:ws=[]->Q (.ref t) s)(h2:ws≠[]->Q (.ref s.heap.objs.size) { s with heap:=s.heap.push { cls:=.type "tuple",data:=.seq (vs++ws).toArray } })
  (hsz:vs.length+ws.length<=sizeLine):wpAny (model prog w) A (binaryOp .Add (.ref t) (.ref b)) Q E s:=by
 obtain ⟨⟨cls,dd,data,sl⟩,ho,hc,n,hd⟩:=id ht
 obtain ⟨⟨Wy,Rh,data2,Ng⟩,JO,GX,n2,hd2⟩:=id hb
 simp only at hc hd GX hd2
 subst hc hd GX hd2
 have e:vs.toArray++ws.toArray=(vs++ws).toArray:=by simp
 by_cases hw:ws=[]
 .exact concat_meets ⟨_,ho,rfl⟩ ⟨_,JO,rfl⟩ W9 WC Xd Xh (Xk _ _)
   (tuple_addW1 t b vs.toArray ws.toArray n n2 dd Rh sl Ng (by simpa using hv) (by simp [hw])) ⟨ho,JO,h1 hw⟩
 .refine concat_meets ⟨_,ho,rfl⟩ ⟨_,JO,rfl⟩ W9 WC Xd Xh (Xk _ _)
   (tuple_addW2 t b vs.toArray ws.toArray n n2 dd Rh sl Ng (by simpa using hv) (by simpa using hw) (by rw [jM,jM];exact hsz)) ⟨ho,JO,?_⟩
  rw [e]
  exact h2 hw
def dP(n d:Nat):Option Int->Nat
 | none=>d
 | some v=>if v<0 then (v+(n:Int)).toNat else min v.toNat n
theorem DY(n d:Nat):dP n d none=d:=rfl
theorem F7(n d k:Nat):dP n d (some (k:Int))=min k n:=by
 show (if (k:Int)<0 then ((k:Int)+(n:Int)).toNat else min (k:Int).toNat n)=min k n
 rw [if_neg (by omega),Lr]
theorem b9x(n d:Nat)(hd:d<=n)(o:Option Int):dP n d o<=n:=by
 cases o with
 | none=>exact hd
 | some v =>
  show (if v<0 then (v+(n:Int)).toNat else min v.toNat n)<=n
  by_cases hv:v<0
  .rw [if_pos hv];omega
  .rw [if_neg hv];exact Nat.min_le_right _ _
theorem b3I(v:Int)(n d:Nat):(if v<0 then max (v+(n:Int)) 0 else min v (n:Int))=((dP n d (some v):Nat):Int):=by
 show (if v<0 then max (v+(n:Int)) 0 else min v (n:Int))=(((if v<0 then (v+(n:Int)).toNat else min v.toNat n):Nat):Int)
 by_cases hv:v<0
 .simp only [if_pos hv];omega
 .simp only [if_neg hv];omega
theorem b1R(lo hi:Option Int)(n:Nat):Xw lo hi 1 (n:Int)=(((dP n 0 lo:Nat):Int),((dP n n hi:Nat):Int)):=by
 have h1:¬((1:Int)<0):=by omega
 unfold Xw
 simp only [h1,if_false]
 refine Prod.ext ?_ ?_
 .cases lo with
  | none=>rfl
  | some v=>exact b3I v n 0
 .cases hi with
  | none=>rfl
  | some v=>exact b3I v n n
theorem b1j(i j:Nat):RT (i:Int) (j:Int) 1=j-i:=by
 unfold RT
 have h1:(1:Int)>0:=by omega
 simp only [h1,if_true,Int.ediv_one]
 split<;>omega
theorem a7w(p:IsPart v o)(h:Q o s):wpAny (model prog w) A (Builtin.Slice.slicePartIndex v) Q E s:=by
 cases p with
 | none=>exact slicePart_none h
 | int i t=>exact slicePart_int h
theorem a6i{lo hi:Option Int}{n:Nat}(hs:s.heap.IsSliceOf sl vl vu .none)(pl:IsPart vl lo)(pu:IsPart vu hi)
  (h:Q (((dP n 0 lo:Nat):Int),1,dP n n hi-dP n 0 lo) s):wpAny (model prog w) A (c43 (.ref sl) (pure (n:Int))) Q E s:=by
 obtain ⟨os,JM,Q8,Q7⟩:=id hs
 unfold c43 Builtin.Slice.sliceFields
 refine aY (aY (wpAny_field JM Q7 (x:=vl) rfl (aY (wpAny_field JM Q7 (x:=vu) rfl (aY (wpAny_field JM Q7 (x:=.none) rfl (cE ?_)))))))
 refine aY (slicePart_none ?_)
 show wpAny _ _ (if ((1:Int)==0)=true then _ else _) _ _ s
 rw [if_neg (by decide)]
 refine aY (a7w pl (aY (a7w pu (aY (cE ?_)))))
 show wpAny _ _ (match Xw lo hi 1 (n:Int) with | (lo,hi)=>pure (lo,(1:Int),RT lo hi 1)) _ _ s
 rw [b1R lo hi n]
 show wpAny _ _ (pure (((dP n 0 lo:Nat):Int),(1:Int),RT ((dP n 0 lo:Nat):Int) ((dP n n hi:Nat):Int) 1)) _ _ s
 rw [b1j]
 exact cE h
theorem b4m(xs:Array Value)(i k:Nat):((nR k).filterMap λ(m:Nat)=>xs[((i:Int)+(m:Int)*1).toNat]?).toArray=((xs.toList.drop i).take k).toArray:=by
 have e:(λ(m:Nat)=>xs[((i:Int)+(m:Int)*1).toNat]?)=λm=>xs[i+m]?:=by
  funext m
  have:((i:Int)+(m:Int)*1).toNat=i+m:=by omega
  rw [this]
 rw [e]
 have:=pick_run xs i k
 rw [List.filterMap_map] at this
 have e2:((λx=>xs[x]?)∘λx=>i+x)=λm=>xs[i+m]?:=rfl
 rw [e2] at this
 rw [this]
theorem qm{items:Array Value}{lo hi:Option Int}(ht:IsTup s.heap t items)(hs:s.heap.IsSliceOf sl vl vu .none)(pl:IsPart vl lo)(pu:IsPart vu hi)
  (hw:¬(dP items.size 0 lo=0/\dP items.size items.size hi=items.size))
  (h:Q (.ref s.heap.objs.size) { s with heap:=s.heap.push { cls:=.type "tuple",data:=.seq ((items.toList.drop (dP items.size 0 lo)).take (dP items.size items.size hi-dP items.size 0 lo)).toArray } })
  (hsz:items.size<=sizeLine):wpAny (model prog w) A (getItem (.ref t) (.ref sl)) Q E s:=by
 have Ci:sizeOk (.seq ((items.toList.drop (dP items.size 0 lo)).take (dP items.size items.size hi-dP items.size 0 lo)).toArray):=by
  show ((items.toList.drop (dP items.size 0 lo)).take (dP items.size items.size hi-dP items.size 0 lo)).toArray.size<=sizeLine
  rw [jM,PK,W8,Cq]
  omega
 have hj:dP items.size items.size hi<=items.size:=b9x _ _ (dF _) hi
 obtain ⟨os,JM,Q8,Q7⟩:=id hs
 have OI:s.TypeIs (.ref sl) "slice":=⟨os,JM,Q8⟩
 unfold getItem
 try with_reducible refine DJ ?_
 first | refine aY (cE ?_) | skip
 refine aY (wpAny_sequenceKey ht.typeIs (by decide) ?_)
 refine aY (Si (name:=Df "__getitem__") ht.typeIs Sk
  (Ij Sk ht.typeIs entry_tuple_getitem ?_ (args_tuple_getitem _ _)))
 show wpAny _ _ (Builtin.Tuple.tupleItemsOf (.ref t) >>= _) _ _ s
 refine aY (tupleItemsOf_ ht ?_)
 refine aY (Px OI ?_)
 rw [if_pos (by decide)]
 refine aY (a6i hs pl pu ?_)
 have Cj:¬((((dP items.size 0 lo:Nat):Int)==0&&(1:Int)==1&&(dP items.size items.size hi-dP items.size 0 lo)==items.size)=true):=by
  intro q
  rw [FC,FC] at q
  have q1:((dP items.size 0 lo:Nat):Int)=0:=eq_of_beq q.1.1
  have q2:dP items.size items.size hi-dP items.size 0 lo=items.size:=eq_of_beq q.2
  exact hw ⟨by omega,by omega⟩
 show wpAny _ _ (if (((dP items.size 0 lo:Nat):Int)==0&&(1:Int)==1&&(dP items.size items.size hi-dP items.size 0 lo)==items.size)=true then _ else _) _ _ s
 rw [if_neg Cj,b4m]
 first
  | exact aY (m:=RR _) (FD (cE ⟨_,rfl,cE h⟩) Ci)
  | exact aY (m:=RR _) (FD (aY (cE (cE ⟨_,rfl,cE h⟩))) Ci)
  | exact aY (aY (m:=RR _) (FD (cE (cE ⟨_,rfl,cE h⟩)) Ci))
  | exact aY (aY (m:=RR _) (FD (cE ⟨_,rfl,cE h⟩) Ci))
end
end HT
namespace L2
open PySem PySem.Spec PyProof.Rows
abbrev TO:=St->Hp->(Option Int->Hp->Prop)->Prop
def PO(X:Cx)(e:Option Expr)(t:TO):Prop:=
 ∀(pins:List (Addr×Obj)) (s:Shared) (σ:St) (H:Hp) (Q:Option Int->Hp->Prop),Inv X pins σ H s->t σ H Q ->
  wpAny (model X.prog X.w) X.A (evalPart e X.env) (λu s'=>∃o H',Inv X pins σ H' s'/\IsPart u o/\Q o H') X.xe s
def b6L:TO:=λ_ H Q=>Q none H
def M0(t:TE):TO:=λσ H Q=>t σ H λx H1=>∃i,x=.int i/\Q (some i) H1
section
variable {X:Cx}{e:Expr}{te:TE}{lo hi:Option Expr}{tl th:TO}{pos p2:Pos}
theorem b66:PO X none b6L:=by
 intro pins s σ H Q I h
 rw [evalPart_none]
 exact cE ⟨none,H,I,.none,h⟩
theorem b65(h:PE X e te):PO X (some e) (M0 te):=by
 intro pins s σ H Q I hw
 rw [evalPart_some]
 refine cM (h pins s σ H _ I hw) λu s1 ⟨x,H1,I1,r1,q1⟩=>?_
 obtain ⟨i,rfl,q⟩:=q1
 obtain ⟨t,rfl⟩:=r1
 exact ⟨some i,H1,I1,.int i t,q⟩
def KP(X:Cx)(r:V->Option Int->Option Int->Hp->VK->Prop):Prop:=
 ∀(pins:List (Addr×Obj)) (s:Shared) (σ:St) (H:Hp) (x:V) (v vl vu:Value) (lo hi:Option Int) (sl:Addr) (Q:VK),Inv X pins σ H s->RelV x v->s.heap.IsSliceOf sl vl vu .none->IsPart vl lo->IsPart vu hi->r x lo hi H Q ->
  ∃T id,typeLookup (.type T) "__getitem__" = pure (some (.builtin id))/\s.TypeIs v T/\wpAny (model X.prog X.w) X.A (getItem v (.ref sl)) (EP X pins σ Q) X.xe s
theorem KP.or(h:KP X r)(h':KP X r'):KP X (λx lo hi H Q=>r x lo hi H Q\/r' x lo hi H Q):=by
 intro pins s σ H x v vl vu lo hi sl Q I rx hs pl pu q
 rcases q with q | q
 .exact h pins s σ H x v vl vu lo hi sl Q I rx hs pl pu q
 .exact h' pins s σ H x v vl vu lo hi sl Q I rx hs pl pu q
def tSl(r:V->Option Int->Option Int->Hp->VK->Prop)(te:TE)(tl th:TO):TE:=λσ H Q=>te σ H λx H1=>tl σ H1 λl H2=>th σ H2 λu H3=>r x l u H3 Q
theorem b4o(hr:KP X r)(he:PE X e te)(hl:PO X lo tl)(hu:PO X hi th):PE X (.Subscript e (.Slice lo hi none p2) pos) (tSl r te tl th):=by
 intro pins s σ H Q I h
 refine Subscript_ (cM (he pins s σ H _ I h) λv s1 ⟨x,H1,I1,r1,q1⟩=>?_)
 refine wpAny_Slice (cM (hl pins s1 σ H1 _ I1 q1) λvl s2 ⟨l,H2,I2,pl,q2⟩=>cM (hu pins s2 σ H2 _ I2 q2) λvu s3 ⟨u,H3,I3,pu,q3⟩=>?_)
 rw [evalPart_none]
 refine cE ?_
 have I4:Inv X pins σ H3 { s3 with heap:=s3.heap.push { cls:=.type "slice",data:=.fields #[vl,vu,.none] } }:=I3.kept (t':=s3.toks) λb ob q=>ft _ q
 obtain ⟨T,id,hT,ht,hg⟩:=hr pins { s3 with heap:=s3.heap.push { cls:=.type "slice",data:=.fields #[vl,vu,.none] } } σ H3 x v vl vu l u s3.heap.objs.size Q I4 r1 (Heap.IsSliceOf.new ..) pl pu q3
 show wpAny (model X.prog X.w) X.A (subscriptTail e (.Slice lo hi none p2) v (.ref s3.heap.objs.size)) (EP X pins σ Q) X.xe { s3 with heap:=s3.heap.push { cls:=.type "slice",data:=.fields #[vl,vu,.none] } }
 exact tail_any (ops:=[.ref s3.heap.objs.size,v]) ht hT hg (by with_unfolding_all rfl)
def AG(xs:List V)(lo hi:Option Int):List V:=(xs.drop (HT.dP xs.length 0 lo)).take (HT.dP xs.length xs.length hi-HT.dP xs.length 0 lo)
theorem a7a(xs:List V)(lo hi:Option Int):(AG xs lo hi).length<=xs.length:=by
 unfold AG
 rw [PK,W8]
 omega
def U9(K:aX):V->Option Int->Option Int->Hp->VK->Prop:=λx lo hi H Q=>∃a xs,x=.ref a/\oj K H a xs /\
 ¬(HT.dP xs.length 0 lo=0/\HT.dP xs.length xs.length hi=xs.length)/\∀p,H p=none->Q (.ref p) (upd H p (.tup (AG xs lo hi)))
theorem b9w:KP X (U9 X.K):=by
 intro pins s σ H x v vl vu lo hi sl Q I rx hs pl pu h
 obtain ⟨a,xs,rfl,hx,hw,q⟩:=h
 cases rx
 obtain ⟨aJ,r,ht,hz⟩:=I.tuple hx
 have hlen:aJ.toArray.size=xs.length:=by rw [jM];exact r.length.symm
 refine ⟨"tuple",_,Sk.lookup,ht.typeIs,?_⟩
 refine HT.qm ht hs pl pu (by rw [hlen];exact hw) ?_ (by rw [hlen];exact hz)
 rw [hlen]
 refine ⟨.ref s.heap.objs.size,_,I.laid (t':=s.toks) (o:=.tup (AG xs lo hi)) (λb ob q=>ft _ q) (dF _) ?_,rfl,q _ (I.cF.fresh (dF _))⟩
 exact ⟨tu (a7a xs lo hi) hz,_,(r.drop (HT.dP xs.length 0 lo)).take (HT.dP xs.length xs.length hi-HT.dP xs.length 0 lo),IsTup.new _ _⟩
def Ny(K:aX):R2:=λx y H Q=>∃a b xs ys,x=.ref a/\y=.ref b/\oj K H a xs/\oj K H b ys/\xs≠[]/\xs.length+ys.length<=sizeLine /\
 (ys=[]->Q (.ref a) H)/\(ys≠[]->∀p,H p=none->Q (.ref p) (upd H p (.tup (xs++ys))))
theorem aU.nL(r:aU xs us):us=[]↔xs=[]:=by
 cases r with
 | nil=>simp
 | cons _ _=>simp
theorem GH:wI X (binaryOp .Add) (Ny X.K):=by
 intro pins s σ H x y v u Q I rx ry h
 obtain ⟨a,b,xs,ys,rfl,rfl,ha,hb,hx,hz,q1,q2⟩:=h
 cases rx
 cases ry
 obtain ⟨aJ,r1,p1,_⟩:=I.tuple ha
 obtain ⟨g8,r2,p2,_⟩:=I.tuple hb
 refine HT.Hb p1 p2 (λz=>hx (r1.nL.mp z)) (λz=>⟨.ref a,H,I,rfl,q1 (r2.nL.mp z)⟩) (λz=>?_) (by rw [<-r1.length,<-r2.length];exact hz)
 refine ⟨.ref s.heap.objs.size,_,I.laid (t':=s.toks) (o:=.tup (xs++ys)) (λb ob q=>ft _ q) (dF _) ?_,rfl,q2 (λw=>z (r2.nL.mpr w)) _ (I.cF.fresh (dF _))⟩
 exact ⟨by rw [ma];exact hz,_,r1.append r2,IsTup.new _ _⟩
end
end L2
namespace L2
open PySem PySem.Spec PyProof.Rows
def xM(n:Nat)(i:Int):Option Nat:=if 0<=i then (if i<n then some i.toNat else none) else if -(n:Int)<=i then some (i+n).toNat else none
def f'{α:Type}(xs:List α)(i:Int):Option α:=(xM xs.length i).bind λj=>xs[j]?
theorem b20(h:xM n i=some j):seqIndex? i n=some j/\j<n /\ -(n:Int)<=i/\i<n:=by
 unfold xM at h
 by_cases h0:0<=i
 .rw [if_pos h0] at h
  by_cases h1:i<n
  .rw [if_pos h1] at h
   have e:i.toNat=j:=lH h
   exact ⟨by rw [seqIndex_of h0 h1,e],by omega,by omega,h1⟩
  .rw [if_neg h1] at h;cases h
 .rw [if_neg h0] at h
  by_cases h1:-(n:Int)<=i
  .rw [if_pos h1] at h
   have e:(i+n).toNat=j:=lH h
   exact ⟨by rw [seqIndex_neg (by omega) h1,e],by omega,h1,by omega⟩
  .rw [if_neg h1] at h;cases h
theorem X6{α:Type}{xs:List α}{i:Int}{v:α}(h:f' xs i=some v):∃j,seqIndex? i xs.length=some j/\xs[j]?=some v/\j<xs.length /\ -(xs.length:Int)<=i/\i<xs.length:=by
 unfold f' at h
 cases e:xM xs.length i with
 | none=>rw [e] at h;cases h
 | some j =>
  rw [e] at h
  obtain ⟨h1,h2,h3,h4⟩:=b20 e
  exact ⟨j,h1,h,h2,h3,h4⟩
theorem nU{α:Type}{xs:List α}{j:Nat}{v:α}(h:xs[j]?=some v):f' xs (j:Int)=some v:=by
 have hj:j<xs.length:=(z9.mp h).1
 have e:xM xs.length (j:Int)=some j:=by
  unfold xM
  rw [if_pos (by omega),if_pos (by omega)];simp
 unfold f';rw [e];exact h
theorem b5f{α:Type}(xs:List α)(v:α):f' (xs++[v]) (-1)=some v:=by
 have hl:(xs++[v]).length=xs.length+1:=by simp
 have e:xM (xs++[v]).length (-1)=some xs.length:=by
  unfold xM
  rw [hl,if_neg (by decide),if_pos (by omega)]
  congr 1
  omega
 unfold f'
 rw [e]
 show (xs++[v])[xs.length]?=some v
 simp
def X4(b:Expr):Prop:=∀o i,subscripted b false o i=operate [o,i] (getItem o i)
def Hz(X:Cx)(r:R2):Prop:=
 ∀(value slice:Expr) (pins:List (Addr×Obj)) (s:Shared) (σ:St) (H:Hp) (x y:V) (v u:Value) (Q:VK),Inv X pins σ H s->RelV x v->RelV y u->r x y H Q ->
  subscripted slice false v u=operate [v,u] (getItem v u)->wpAny (model X.prog X.w) X.A (subscriptTail value slice v u) (EP X pins σ Q) X.xe s
def KQ(X:Cx)(id:String)(r:V->List V->Hp->VK->Prop):Prop:=
 ∀(pins:List (Addr×Obj)) (s:Shared) (σ:St) (H:Hp) (x:V) (xs:List V) (v:Value) (us:List Value) (Q:VK),Inv X pins σ H s->RelV x v->aU xs us->r x xs H Q ->
  wpAny (model X.prog X.w) X.A (call (.builtin id) (v::us)) (EP X pins σ Q) X.xe s
section
variable {X:Cx}{a b:Expr}{ta tb:TE}{pos:Pos}
theorem Hz.or(h:Hz X r)(h':Hz X r'):Hz X (λx y H Q=>r x y H Q\/r' x y H Q):=by
 intro value slice pins s σ H x y v u Q I rx ry q hs
 rcases q with q | q
 .exact h value slice pins s σ H x y v u Q I rx ry q hs
 .exact h' value slice pins s σ H x y v u Q I rx ry q hs
theorem KQ.or{id:String}{r r':V->List V->Hp->VK->Prop}(h:KQ X id r)(h':KQ X id r'):KQ X id (λx xs H Q=>r x xs H Q\/r' x xs H Q):=by
 intro pins s σ H x xs v us Q I rx rs q
 rcases q with q | q
 .exact h pins s σ H x xs v us Q I rx rs q
 .exact h' pins s σ H x xs v us Q I rx rs q
theorem b9R(hr:Hz X r)(ha:PE X a ta)(hb:PE X b tb)(hs:X4 b):PE X (.Subscript a b pos) (M3 r ta tb):=by
 intro pins s σ H Q I h
 exact Subscript_ (Hh ha hb I h λv u s2 x y H2 I2 rx ry q=>hr a b pins s2 σ H2 x y v u Q I2 rx ry q (hs _ _))
def Nx(K:aX):R2:=λx y H Q=>∃p xs i v,x=.ref p/\y=.int i/\lM K H p xs/\f' xs i=some v/\Q v H
def Nv(K:aX):R2:=λx y H Q=>∃p xs i v,x=.ref p/\y=.int i/\oj K H p xs/\f' xs i=some v/\Q v H
def Nw:R2:=λx y H Q=>∃z i c,x=.str z/\y=.int i/\z.length<=sizeLine/\f' z.cps.toList i=some c/\Q (.str ⟨#[c]⟩) H
theorem GO:Hz X (Nx X.K):=by
 intro value slice pins s σ H x y v u Q I rx ry h hs
 obtain ⟨p,xs,i,z,rfl,rfl,hq,he,q⟩:=h
 cases rx
 obtain ⟨t,rfl⟩:=ry
 obtain ⟨aJ,r,pl,hz⟩:=I.list hq
 obtain ⟨j,h1,h2,h3,h4,h5⟩:=X6 he
 obtain ⟨w,ew,F9⟩:=r.get h2
 have hl:=r.length
 have hn:=Kt
 have fin:EP X pins σ Q w s:=⟨z,H,I,F9,q⟩
 by_cases h0:0<=i
 .have hj:i.toNat=j:=by
   rw [seqIndex_of h0 h5] at h1
   exact lH h1
  exact item_listR pl.isList h0 (by omega) (by rw [hj];simpa using ew) fin hs
 .have hj:(i+(aJ.toArray.size:Int)).toNat=j:=by
   rw [seqIndex_neg (by omega) h4] at h1
   rw [jM,<-hl]
   exact lH h1
  exact subscriptTail_builtinR (x:=w) pl.isList.typeIs slot_list_getitem.lookup
   (wpAny_getItem_list_neg (Q:=λr s'=>r=w/\EP X pins σ Q r s') pl.isList (by omega) (by rw [jM]<;>omega) (by omega) (by rw [hj];simpa using ew) ⟨rfl,fin⟩) hs
theorem JF:Hz X (Nv X.K):=by
 intro value slice pins s σ H x y v u Q I rx ry h hs
 obtain ⟨p,xs,i,z,rfl,rfl,hq,he,q⟩:=h
 cases rx
 obtain ⟨t,rfl⟩:=ry
 obtain ⟨aJ,r,pl,hz⟩:=I.tuple hq
 obtain ⟨j,h1,h2,h3,h4,h5⟩:=X6 he
 obtain ⟨w,ew,F9⟩:=r.get h2
 have hl:=r.length
 have hn:=Kt
 have fin:EP X pins σ Q w s:=⟨z,H,I,F9,q⟩
 exact subscriptTail_builtinR (x:=w) pl.typeIs Sk.lookup
  (getItem_tuple (j:=j) (Q:=λr s'=>r=w/\EP X pins σ Q r s') pl (by omega) (by omega) (by rw [jM,<-hl];exact h1) (by simpa using ew) ⟨rfl,fin⟩) hs
theorem b6b:Hz X Nw:=by
 intro value slice pins s σ H x y v u Q I rx ry h hs
 obtain ⟨z,i,c,rfl,rfl,hz,he,q⟩:=h
 obtain ⟨t,rfl⟩:=rx
 obtain ⟨t',rfl⟩:=ry
 obtain ⟨j,h1,h2,h3,h4,h5⟩:=X6 he
 have hl:z.cps.toList.length=z.length:=by simp [Str.length]
 rw [hl] at h1 h4 h5
 have hn:=Kt
 exact tail_any (Ro s z t) slot_str_getitem.lookup (getItem_str (c:=c) (by
  have e1:decide (i < -(2^63:Int))=false:=decide_eq_false (by omega)
  have e2:decide (i≥2^63)=false:=decide_eq_false (by omega)
  rw [e1,e2,Bool.or_false]) (by rw [h1];simpa using h2) ⟨.str ⟨#[c]⟩,H,I.tok _,⟨_,rfl⟩,q⟩) hs
def rIx(K:aX):R2:=λx y H Q=>Nx K x y H Q\/Nv K x y H Q\/Nw x y H Q
theorem c0q:Hz X (rIx X.K):=GO.or (JF.or b6b)
theorem b1B(aJ:List Value)(n j:Nat)(u:Value):BX (·.setIfInBounds j u) { cls:=.type "list",data:=.seq aJ.toArray n }={ cls:=.type "list",data:=.seq (aJ.set j u).toArray n }:=by
 simp [BX]
theorem Inv.lst{pins:List (Addr×Obj)}{σ:St}{H:Hp}{s:Shared}{p:Addr}{xs:List V}(I:Inv X pins σ H s)(h:H p=some (.lst xs)):
  ∃(aJ:List Value) (n:Nat),aU xs aJ/\s.heap.get? p=some { cls:=.type "list",data:=.seq aJ.toArray n }/\xs.length<=sizeLine:=by
 obtain ⟨z,aJ,n,r,e⟩:=I.cF p _ h
 exact ⟨aJ,n,r,e,z⟩
theorem Inv.JE{pins:List (Addr×Obj)}{σ:St}{H:Hp}{s:Shared}{p:Addr}{xs ys:List V}{aJ its':List Value}{n n':Nat}{f:Obj->Obj}(I:Inv X pins σ H s)(h:H p=some (.lst xs))
  (ho:s.heap.get? p=some { cls:=.type "list",data:=.seq aJ.toArray n })(hf:f { cls:=.type "list",data:=.seq aJ.toArray n }={ cls:=.type "list",data:=.seq its'.toArray n' })(r:aU ys its')(hz:ys.length<=sizeLine)(t:Nat):
  Inv X pins σ (upd H p (.lst ys)) { s with heap:=s.heap.update p f,toks:=t }:=by
 have e:(s.heap.update p f).get? p=some { cls:=.type "list",data:=.seq its'.toArray n' }:=by
  rw [R9 f ho (by rw [hf]<;>rfl),hf]
 refine I.write (x:=p) (e:=p) (by rw [h];trivial) (.inl rfl) (λb u hb q=>(Pz _ _ (wF hb)).trans q) ⟨_,e⟩ ?_
 exact ⟨hz,its',n',r,e⟩
def Nu:V->V->V->Hp->(Hp->Prop)->Prop:=λo i v H Q=>∃p xs k j,o=.ref p/\i=.int k/\H p=some (.lst xs)/\xM xs.length k=some j/\Q (upd H p (.lst (xs.set j v)))
theorem b4c:QB X Nu:=by
 intro pins s σ H o i v ov iv u Q I ro ri rv h
 obtain ⟨p,xs,k,j,rfl,rfl,hp,hj,q⟩:=h
 cases ro
 obtain ⟨t,rfl⟩:=ri
 obtain ⟨aJ,n,r,ho,hz⟩:=I.lst hp
 obtain ⟨h1,h2,h3,h4⟩:=b20 hj
 have hl:=r.length
 have hn:=Kt
 have I':Inv X pins σ (upd H p (.lst (xs.set j v))) { s with heap:=s.heap.update p (BX (·.setIfInBounds j u)) }:=
  I.JE hp ho (b1B aJ n j u) (r.set rv j) (by rw [List.length_set];exact hz) s.toks
 by_cases h0:0<=k
 .have hk:k.toNat=j:=by
   rw [seqIndex_of h0 h4] at h1
   exact lH h1
  exact PySem.W.ki_setAt ho h0 (by omega) (by rw [jM,<-hl];exact h4) (by rw [hk];exact ⟨_,I',q⟩)
 .have hk:(k+(aJ.toArray.size:Int)).toNat=j:=by
   rw [seqIndex_neg (by omega) h3] at h1
   rw [jM,<-hl]
   exact lH h1
  exact PySem.W.ki_setBack ho (by omega) (by rw [jM,<-hl];exact h3) (by omega) (by rw [hk];exact ⟨_,I',q⟩)
theorem a8w(lo hi:Option Int)(n:Nat):(sliceBounds lo hi none n).1=((HT.dP n 0 lo:Nat):Int)/\(sliceBounds lo hi none n).2.1=((HT.dP n n hi:Nat):Int)/\(sliceBounds lo hi none n).2.2=1:=by
 refine ⟨?_,?_,rfl⟩
 .cases lo with
  | none=>simp [sliceBounds,HT.dP]
  | some i =>
   simp only [sliceBounds,HT.dP,W7,show (1:Int)>0 by decide,if_true]
   by_cases h:i<0
   .simp only [h,if_true]<;>omega
   .simp only [h,if_false]<;>omega
 .cases hi with
  | none=>simp [sliceBounds,HT.dP]
  | some i =>
   simp only [sliceBounds,HT.dP,W7,show (1:Int)>0 by decide,if_true]
   by_cases h:i<0
   .simp only [h,if_true]<;>omega
   .simp only [h,if_false]<;>omega
theorem a7R(aJ:List Value)(lo hi:Option Int):slicePick aJ.toArray lo hi none=((aJ.drop (HT.dP aJ.length 0 lo)).take (HT.dP aJ.length aJ.length hi-HT.dP aJ.length 0 lo)).toArray:=by
 obtain ⟨h1,h2,h3⟩:=a8w lo hi aJ.toArray.size
 unfold slicePick
 rw [h1,h2,h3]
 simp only [sliceRange_one,pick_run,jM]<;>rfl
def U'(K:aX):V->Option Int->Option Int->Hp->VK->Prop:=λx lo hi H Q=>∃a xs,x=.ref a/\lM K H a xs/\∀p,H p=none->Q (.ref p) (upd H p (.lst (AG xs lo hi)))
theorem F6:KP X (U' X.K):=by
 intro pins s σ H x v vl vu lo hi sl Q I rx hs pl pu h
 obtain ⟨a,xs,rfl,hx,q⟩:=h
 cases rx
 obtain ⟨aJ,r,ht,hz⟩:=I.list hx
 have hlen:=r.length
 refine ⟨"list",_,slot_list_getitem.lookup,ht.isList.typeIs,?_⟩
 refine wpAny_getItem_list_slice ht.isList hs pl pu .none (by simp) ?_ (by rw [jM]<;>omega)
 rw [a7R,<-hlen]
 refine ⟨.ref s.heap.objs.size,_,I.laid (t':=s.toks) (o:=.lst (AG xs lo hi)) (λb ob q=>ft _ q) (dF _) ?_,rfl,q _ (I.cF.fresh (dF _))⟩
 exact ⟨tu (a7a xs lo hi) hz,_,0,(r.drop (HT.dP xs.length 0 lo)).take (HT.dP xs.length xs.length hi-HT.dP xs.length 0 lo),nS _ rfl⟩
theorem a9b:dO X (.builtin "len") (λxs H Q=>∃p ys,xs=[.ref p]/\(lM X.K H p ys\/oj X.K H p ys)/\Q (.int ys.length) H):=by
 intro pins s σ H xs us Q I r h
 obtain ⟨p,ys,rfl,hq,q⟩:=h
 obtain ⟨u,rfl,rx⟩:=vals1 r
 cases rx
 have hn:=Kt
 rcases hq with hq | hq
 .obtain ⟨aJ,r',pl,hz⟩:=I.list hq
  have hlen:=r'.length
  exact Calls.call_len_list pl.isList (by simp only [jM]<;>omega) ⟨.int ys.length,H,I.tok _,⟨s.toks+1,by rw [jM,hlen]⟩,q⟩
 .obtain ⟨aJ,r',pl,hz⟩:=I.tuple hq
  have hlen:=r'.length
  exact len_tuple pl (by simp only [jM]<;>omega) ⟨.int ys.length,H,I.tok _,⟨s.toks+1,by rw [jM,hlen]⟩,q⟩
theorem a9a:dO X (.builtin "len") (λxs H Q=>∃z,xs=[.str z]/\z.length<=sizeLine/\Q (.int z.length) H):=by
 intro pins s σ H xs us Q I r h
 obtain ⟨z,rfl,hz,q⟩:=h
 obtain ⟨u,rfl,t,rfl⟩:=vals1 r
 have hn:=Kt
 exact len_str (by omega) ⟨.int z.length,H,I.tok _,⟨_,rfl⟩,q⟩
theorem dO.or{f:Value}{r r':List V->Hp->VK->Prop}(h:dO X f r)(h':dO X f r'):dO X f (λxs H Q=>r xs H Q\/r' xs H Q):=by
 intro pins s σ H xs us Q I rs q
 rcases q with q | q
 .exact h pins s σ H xs us Q I rs q
 .exact h' pins s σ H xs us Q I rs q
theorem a89:dO X (.type "list") (λxs H Q=>∃p ys,xs=[.ref p]/\(lM X.K H p ys\/oj X.K H p ys)/\∀l,H l=none->Q (.ref l) (upd H l (.lst ys))):=by
 intro pins s σ H xs us Q I r h
 obtain ⟨p,ys,rfl,hq,q⟩:=h
 obtain ⟨u,rfl,rx⟩:=vals1 r
 cases rx
 have fin:∀(aJ:List Value),aU ys aJ->ys.length<=sizeLine->∀(h':Heap) (c':Nat),(∀b o',s.heap.get? b=some o'->h'.get? b=some o') ->
   h'.get? s.heap.objs.size=some { cls:=.type "list",dict:=none,data:=.seq aJ.toArray c',slots:=#[] }->EP X pins σ Q (.ref s.heap.objs.size) { s with heap:=h' }:=λaJ r' hz h' c' kp e =>
  ⟨.ref s.heap.objs.size,_,I.laid (t':=s.toks) kp (dF _) (show dr X.prog X.w _ h' _ (.lst ys) from ⟨hz,aJ,c',r',e⟩),rfl,q _ (I.cF.fresh (dF _))⟩
 rcases hq with hq | hq
 .obtain ⟨aJ,r',pl,hz⟩:=I.list hq
  have hlen:=r'.length
  obtain ⟨o,ho,hc,n,hd⟩:=pl.isList
  exact call_list_seq p (.inl rfl) ho hc hd (λh' c' kp e=>fin aJ r' hz h' c' kp e) (by simp only [jM]<;>omega)
 .obtain ⟨aJ,r',pl,hz⟩:=I.tuple hq
  have hlen:=r'.length
  obtain ⟨o,ho,hc,n,hd⟩:=pl
  exact call_list_seq p (.inr rfl) ho hc hd (λh' c' kp e=>fin aJ r' hz h' c' kp e) (by simp only [jM]<;>omega)
def UD(K:aX)(T:String)(x:V)(H:Hp):Prop:=match x with
 | .str _=>T = "str"
 | .int _=>T = "int"
 | .ref p=>(T = "list" /\ ∃xs,lM K H p xs)\/(T = "tuple" /\ ∃o,K.lookup p=some o/\o.cls=.type "tuple" /\ o.dict=none) \/
   (T = "dict" /\ ((∃aI,H p=some (.dK aI))\/∃aI,H p=some (.dT aI)))\/(T = "set" /\ ∃S n,H p=some (.set S n))
 | _=>False
theorem b5N{pins:List (Addr×Obj)}{σ:St}{H:Hp}{s:Shared}{T:String}{x:V}{v:Value}(I:Inv X pins σ H s)(r:RelV x v)(ty:UD X.K T x H):
  s.TypeIs v T/\∀a,v=.ref a->∃ob,s.heap.get? a=some ob/\ob.dict=none:=by
 cases x with
 | str z =>
  obtain ⟨t,rfl⟩:=r
  cases (show T = "str" from ty)
  exact ⟨Ro s z t,λ_ e=>nomatch e⟩
 | int i =>
  obtain ⟨t,rfl⟩:=r
  cases (show T = "int" from ty)
  exact ⟨typeIs_int s i t,λ_ e=>nomatch e⟩
 | ref p =>
  cases r
  rcases ty with ⟨rfl,xs,hq⟩ | ⟨rfl,o,hk,hc,hd⟩ | ⟨rfl,hk⟩ | ⟨rfl,S,n,hk⟩
  .obtain ⟨aJ,_,pl,_⟩:=I.list hq
   refine ⟨pl.isList.typeIs,λa e=>?_⟩
   cases e
   obtain ⟨o,n,e,c,hd,_⟩:=pl
   exact ⟨o,e,hd⟩
  .refine ⟨⟨o,I.Ay p o hk,hc⟩,λa e=>?_⟩
   cases e
   exact ⟨o,I.Ay _ o hk,hd⟩
  .have z:∃o,s.heap.get? p=some o/\o.ExactDict:=by
    rcases hk with ⟨aI,hk⟩ | ⟨aI,hk⟩
    .obtain ⟨_,_,_,_,o,_,_,e,ex,_⟩:=I.cF p _ hk
     exact ⟨o,e,ex⟩
    .obtain ⟨_,_,_,_,o,_,_,e,ex,_⟩:=I.cF p _ hk
     exact ⟨o,e,ex⟩
   obtain ⟨o,e,ex⟩:=z
   refine ⟨⟨o,e,ex.1⟩,λa e2=>?_⟩
   cases e2
   exact ⟨o,e,ex.2.1⟩
  .obtain ⟨o,_,_,_,e,ex,_⟩:=I.cF p _ hk
   refine ⟨⟨o,e,ex.1⟩,λa e2=>?_⟩
   cases e2
   exact ⟨o,e,ex.2.1⟩
 | _=>exact zp ty
def UU(K:aX)(T:String)(r:V->List V->Hp->VK->Prop)(to:TE):TE:=λσ H Q=>to σ H λx H1=>UD K T x H1/\r x [] H1 Q
def tBM(K:aX)(T:String)(r:V->List V->Hp->VK->Prop)(to:TE)(t:TA):TE:=λσ H Q=>to σ H λx H1=>UD K T x H1/\t σ H1 λxs H2=>r x xs H2 Q
variable {o e:Expr}{es:List Expr}{to:TE}{t:TA}{name:Str}{apos aB:Pos}{T id:String}{r:V->List V->Hp->VK->Prop}
theorem XU(pa:PlainAttrs T)(slot:Slot T name id)(JJ:typeOf (.builtin id)=pure (.type "method_descriptor"))(hm:KQ X id r)(ho:PE X o to)
  (b9:attributeBase o name X.env (eval o X.env)=eval o X.env:=by rfl)(b8:(apos.endLine==aB.line)=true:=by rfl):PE X (.Call (.Attribute o name apos) [] [] aB) (UU X.K T r to):=by
 intro pins s σ H Q I h
 refine wpAny_Call_method0_late b9 b8 (cM (ho pins s σ H _ I h) λv s1 ⟨x,H1,I1,r1,ty,q1⟩=>?_)
 obtain ⟨h1,h2⟩:=b5N I1 r1 ty
 exact ⟨T,id,pa,slot,JJ,h1,h2,Se rfl (PySem.evalArgs_none (hm pins s1 σ H1 x [] v [] Q I1 r1 .nil q1))⟩
theorem Sn(pa:PlainAttrs T)(slot:Slot T name id)(JJ:typeOf (.builtin id)=pure (.type "method_descriptor"))(hm:KQ X id r)(ho:PE X o to)(ha:PA X (e::es) t)
  (b9:attributeBase o name X.env (eval o X.env)=eval o X.env:=by rfl)
  (fQ:((backTo aB (starEach (e::es) X.env)).all (λx=>!x.1)&&(backToKw aB (keywordEach [] X.env)).all (λx=>x.1.isSome)
   && decide ((e::es).length+([]:List Keyword).length+(if ([]:List Keyword).isEmpty then 0 else 1)<30))=true:=by rfl)
  (b8:(apos.endLine==aB.line)=true:=by rfl)(hs:starEach (e::es) X.env=(false,eval e X.env)::starEach es X.env:=by rfl)(JL:(backTo aB (starEach es X.env)).any (·.1)=false:=by rfl):
  PE X (.Call (.Attribute o name apos) (e::es) [] aB) (tBM X.K T r to t):=by
 intro pins s σ H Q I h
 refine wpAny_Call_method_late b9 fQ b8 rfl (cM (ho pins s σ H _ I h) λv s1 ⟨x,H1,I1,r1,ty,q1⟩=>?_)
 obtain ⟨h1,h2⟩:=b5N I1 r1 ty
 refine ⟨T,id,pa,slot,JJ,h1,h2,?_⟩
 have hA:=ha aB pins s1 σ H1 _ I1 q1
 rw [hs] at hA ⊢
 refine Se (by show (false||(backTo aB (starEach es X.env)).any (·.1))=false;rw [JL]<;>rfl) (Calls.evalArgs_plain ?_)
 exact cM hA λus s2 ⟨vs,H2,I2,r2,q2⟩=>hm pins s2 σ H2 x vs v us Q I2 r1 r2 q2
end
end L2
namespace L2
open PySem PySem.Spec PyProof.Rows
def Us(X:Cx)(id:String)(r:V->List V->Hp->VK->Prop):Prop:=
 ∀(pins:List (Addr×Obj)) (s:Shared) (σ:St) (H:Hp) (x:V) (xs:List V) (v:Value) (us:List Value) (Q:VK),Inv X pins σ H s->RelV x v->aU xs us->r x xs H Q ->
  wpAny (model X.prog X.w) X.A (call (.builtin id) (v::us)) (EP X pins σ Q) X.xe s
theorem aU.one:∀{x:V} {us:List Value},aU [x] us->∃u,us=[u]/\RelV x u
 | _,_,.cons r .nil=>⟨_,rfl,r⟩
theorem aU.two:∀{x y:V} {us:List Value},aU [x,y] us->∃u v,us=[u,v]/\RelV x u/\RelV y v
 | _,_,_,.cons r (.cons q .nil)=>⟨_,_,rfl,r,q⟩
theorem aU.zero:∀{us:List Value},aU [] us->us=[]
 | _,.nil=>rfl
theorem aU.dropLast(h:aU xs us):aU xs.dropLast us.dropLast:=by
 induction h with
 | nil=>exact .nil
 | cons r t ih =>
  cases t with
  | nil=>exact .nil
  | cons q t'=>exact .cons r ih
theorem aU.eraseIdx:∀{xs:List V} {us:List Value} (i:Nat),aU xs us->aU (xs.eraseIdx i) (us.eraseIdx i)
 | _,_,_,.nil=>.nil
 | _,_,0,.cons _ t=>t
 | _,_,i+1,.cons r t=>.cons r (aU.eraseIdx i t)
theorem aU.reverse(h:aU xs us):aU xs.reverse us.reverse:=by
 induction h with
 | nil=>exact .nil
 | cons r t ih=>rw [RP,RP];exact aU.append ih (.cons r .nil)
theorem b1K{α:Type}(l:List α):l.eraseIdx (l.length-1)=l.dropLast:=by
 induction l with
 | nil=>rfl
 | cons a r ih =>
  cases r with
  | nil=>rfl
  | cons b r =>
   have e:(a::b::r).length-1=((b::r).length-1)+1:=by
    have h1:(a::b::r).length=r.length+2:=rfl
    have h2:(b::r).length=r.length+1:=rfl
    omega
   rw [e,List.eraseIdx_cons_succ,ih]
   all_goals rfl
section
variable {X:Cx}{pins:List (Addr×Obj)}{σ:St}{H:Hp}{s:Shared}{l b:Addr}{xs ys zs:List V}
theorem Inv.GK{aJ its':List Value}{n:Nat}{t':Nat}(I:Inv X pins σ H s)(hH:H l=some (.lst xs))
  (e:s.heap.get? l=some { cls:=.type "list",data:=.seq aJ.toArray n })(hf:f aJ.toArray=its'.toArray)(hv:aU ys its')(hz:ys.length<=sizeLine):
  Inv X pins σ (upd H l (.lst ys)) { s with heap:=s.heap.update l (BX f),toks:=t' }:=by
 have q:=PySem.IsL.update e f
 rw [hf] at q
 refine I.write (x:=l) (e:=l) (by rw [hH];exact trivial) (.inl rfl) (λb' u hb hu=>(Pz s.heap (BX f) (wF hb)).trans hu) ⟨_,q⟩ ?_
 exact ⟨hz,its',_,hv,q⟩
theorem Inv.Vq(I:Inv X pins σ H s)(hv:aU ys aJ)(hz:ys.length<=sizeLine):
  Inv X pins σ (upd H s.heap.objs.size (.lst ys)) { s with heap:=s.heap.push { cls:=.type "list",data:=.seq aJ.toArray },toks:=t' }:=
 I.laid (λ_ _ q=>ft _ q) (dF _) ⟨hz,aJ,0,hv,nS _ rfl⟩
theorem Inv.fresh(I:Inv X pins σ H s):H s.heap.objs.size=none:=I.cF.fresh (dF _)
theorem Inv.BI(I:Inv X pins σ H s)(hH:H l=some (.lst xs)):xs.length<=sizeLine/\∃(aJ:List Value) (n:Nat),aU xs aJ/\xs.length=aJ.length/\s.heap.get? l=some { cls:=.type "list",data:=.seq aJ.toArray n }:=by
 obtain ⟨z,aJ,n,r,e⟩:=I.cF l _ hH
 exact ⟨z,aJ,n,r,r.length,e⟩
theorem b4u(h:n<=sizeLine):Xj n=false:=by
 unfold Xj
 exact decide_eq_false (by omega)
end
section
variable {X:Cx}
def b60:V->List V->Hp->VK->Prop:=λx vs H Q=>∃l xs y,x=.ref l/\vs=[y]/\H l=some (.lst xs)/\xs.length<sizeLine/\Q .cT (upd H l (.lst (xs++[y])))
theorem a8H:Us X "list.append" b60:=by
 intro pins s σ H x vs v us Q I rx rv h
 obtain ⟨l,xs,y,rfl,rfl,hH,hz,q⟩:=h
 cases rx
 obtain ⟨u,rfl,ru⟩:=rv.one
 obtain ⟨z,aJ,n,r,hl,e⟩:=I.BI hH
 refine Lj Xt ⟨_,e,rfl⟩ F.entry_list_append (F.args_list_append_2 _ _) (PySem.list_append l aJ.toArray n u (by rw [jM];omega)) ⟨e,?_⟩
 refine ⟨.cT,_,I.GK (its':=aJ++[u]) hH e (by simp) (r.append (.cons ru .nil)) ?_,rfl,q⟩
 rw [ma,E1]
 omega
def b6Z:V->List V->Hp->VK->Prop:=λx vs H Q=>∃l b xs zs,x=.ref l/\vs=[.ref b]/\H l=some (.lst xs)/\H b=some (.lst zs)/\xs.length+zs.length<=sizeLine/\Q .cT (upd H l (.lst (xs++zs)))
theorem b2K:Us X "list.extend" b6Z:=by
 intro pins s σ H x vs v us Q I rx rv h
 obtain ⟨l,b,xs,zs,rfl,rfl,hH,hB,hz,q⟩:=h
 cases rx
 obtain ⟨u,rfl,ru⟩:=rv.one
 cases ru
 obtain ⟨z,aJ,n,r,hl,e⟩:=I.BI hH
 obtain ⟨z2,g8,n2,r2,La,e2⟩:=I.BI hB
 have hsz:aJ.toArray.size+g8.toArray.size<=sizeLine:=by rw [jM,jM];omega
 have Oo:¬(!aJ.toArray.isEmpty&&Xj (aJ.toArray.size+g8.toArray.size))=true:=by
  rw [b4u hsz,Bool.and_false]
  exact DG
 refine Lj c51 ⟨_,e,rfl⟩ F.entry_list_extend (F.args_list_extend_2 _ _)
  (AutoSeq1.list_extend_list_list_0 l aJ.toArray n b g8.toArray n2 Oo (by rw [jM];omega) (by omega)) ⟨e,e2,?_⟩
 refine ⟨.cT,_,I.GK (its':=aJ++g8) hH e (by simp) (r.append r2) ?_,rfl,q⟩
 rw [ma]
 omega
def Va:V->List V->Hp->VK->Prop:=λx vs H Q=>∃l xs y,x=.ref l/\vs=[]/\H l=some (.lst xs)/\xs[xs.length-1]?=some y/\Q y (upd H l (.lst xs.dropLast))
theorem b59:Us X "list.pop" Va:=by
 intro pins s σ H x vs v us Q I rx rv h
 obtain ⟨l,xs,y,rfl,rfl,hH,hy,q⟩:=h
 cases rx
 have VH:=rv.zero
 subst VH
 obtain ⟨z,aJ,n,r,hl,e⟩:=I.BI hH
 obtain ⟨u,hu,ru⟩:=r.get hy
 have HK:aJ.toArray[aJ.toArray.size-1]?=some u:=by
  show aJ.toArray[aJ.length-1]?=some u
  rw [<-R8,<-hl]
  exact hu
 refine Lj Xm ⟨_,e,rfl⟩ F.entry_list_pop (F.args_list_pop_1 _) (MeetsSeq.list_pop_last l aJ.toArray n u HK (by rw [jM];omega)) ⟨e,?_⟩
 refine ⟨y,_,I.GK (its':=aJ.dropLast) hH e ?_ r.dropLast ?_,ru,q⟩
 .show aJ.toArray.eraseIdxIfInBounds (aJ.toArray.size-1)=aJ.dropLast.toArray
  rw [jM,List.eraseIdxIfInBounds_toArray,b1K]
 .rw [List.length_dropLast]
  omega
def b4j:V->List V->Hp->VK->Prop:=λx vs H Q=>∃l xs,x=.ref l/\vs=[]/\H l=some (.lst xs)/\Q .cT (upd H l (.lst xs.reverse))
theorem b1z:Us X "list.reverse" b4j:=by
 intro pins s σ H x vs v us Q I rx rv h
 obtain ⟨l,xs,rfl,rfl,hH,q⟩:=h
 cases rx
 have VH:=rv.zero
 subst VH
 obtain ⟨z,aJ,n,r,hl,e⟩:=I.BI hH
 refine Lj c5T ⟨_,e,rfl⟩ F.entry_list_reverse (F.args_list_reverse_1 _) (AutoSeq1.list_reverse_list_0 l aJ.toArray n (by rw [jM];omega)) ⟨e,?_⟩
 refine ⟨.cT,_,I.GK (its':=aJ.reverse) hH e (by simp) r.reverse ?_,rfl,q⟩
 rw [List.length_reverse]
 omega
def Vb:R2:=λx y H Q=>∃l b xs zs,x=.ref l/\y=.ref b/\H l=some (.lst xs)/\H b=some (.lst zs)/\xs.length+zs.length<=sizeLine/\∀p,H p=none->Q (.ref p) (upd H p (.lst (xs++zs)))
theorem Jw:wI X (binaryOp .Add) Vb:=by
 intro pins s σ H x y v u Q I rx ry h
 obtain ⟨l,b,xs,zs,rfl,rfl,hH,hB,hz,q⟩:=h
 cases rx
 cases ry
 obtain ⟨z,aJ,n,r,hl,e⟩:=I.BI hH
 obtain ⟨z2,g8,n2,r2,La,e2⟩:=I.BI hB
 refine PySem.P.add_list e e2 ?_ (by rw [jM,jM];omega)
 have ea:aJ.toArray++g8.toArray=(aJ++g8).toArray:=by simp
 rw [ea]
 exact ⟨.ref _,_,I.Vq (t':=s.toks) (r.append r2) (by rw [ma];omega),rfl,q _ I.fresh⟩
end
section
variable {prog:Program}{w:World}{A:Around}{E:Value->Shared->Prop}{s:Shared}
end
section
variable {X:Cx}
end
end L2
namespace Att
open PySem PySem.W PySem.Calls PyProof.Rows
theorem a68:∀(ns:List Int) (vs:List Value),WellAll P h vs (ns.map WData.int)->IntsAre vs ns:=by
 intro ns
 induction ns with
 | nil =>
  intro vs w
  rw [Cr] at w
  cases w
  exact .nil
 | cons n ns ih =>
  intro vs w
  rw [fH] at w
  cases w with
  | cons a b =>
   cases a
   exact .cons _ _ (ih _ b)
theorem b2e{l:OpenLaw}{n:Nat}(hn:l.most=some n){h:Heap}
  (GS:l.row.toRowW.claim.pre args=true)(HL:WellAll P h vals args):
  ∃a vs ns,vals=[e8 a]/\args=[WData.list (ns.map WData.int)]/\h.get? a=some { cls:=.type "list",data:=.seq vs.toArray }/\IntsAre vs ns/\ns.length<=n:=by
 have VI:WShape.hasAll [] args [.list .int]=true:=(pre_splitW GS).1
 have hc:l.pre.holds [] { args:=args }=true:=(pre_splitW GS).2
 obtain ⟨d,r,rfl,h1,h2⟩:=hasAllW_cons VI
 obtain rfl:=hasAllW_nil h2
 obtain ⟨xs,rfl,h3⟩:=hasW_list h1
 obtain ⟨ns,rfl⟩:=items_int h3
 have hlen:ns.length<=n:=by
  unfold OpenLaw.pre at hc
  have h4:(WTm.not (.lt (.lit (.int (n:Int))) (.len (.arg 0)))).holds [] { args:=[.list (ns.map .int)] }=true:=by
   have h4:=(holds_andW hc).1
   rw [hn] at h4
   exact h4
  have h5:=condW_of h4 (w_not (w_lt w_lit (w_len_list (w_arg rfl))))
  rw [c6] at h5
  refine Nat.le_of_not_lt λq=>?_
  have q':(n:Int)<((ns.length:Nat):Int):=by omega
  first
   | (rw [decide_eq_true q'] at h5;exact absurd h5 (by decide))
   | (simp at h5;omega)
 cases HL with
 | cons w1 w2 =>
  cases w2
  cases w1 with
  | list ho BP=>exact ⟨_,_,ns,rfl,rfl,ho,a68 ns _ BP,hlen⟩
theorem b2q(l:OpenLaw)(args:List WData):l.row.toRowW.claim.post args (.bool true) args=true:=
 postW_of (r:=l.row.toRowW) (X:=(true==true))
  (show WShape.has [] (.bool true) .bool=true by first | rfl | decide | simp [WShape.has,WShape.arms,WShape.armsAll])
  (show (WTm.eq .res (.lit (.bool true))).value [] { args:=args,res:=some (.bool true),after:=args }=some (.bool (true==true)) from w_eq_bool (w_res rfl) w_lit) rfl
theorem AM{l:OpenLaw}{n:Nat}{loose:List Str}{d:DefRec}
  (hn:l.most=some n)(OD:d.params.defaults=[])
  (call:∀(w:World) (gu bA:Shared) (mg mb:Str->Option Value) (fa:Addr) (o:Obj) (pm cd doc:Value) (a:Addr) (vs:List Value) (ns:List Int),
   Ground q loose [] XP w gu mg mb bA.heap->YP w bA.heap ->
   bA.heap.get? fa=some o->o.data=.func (docDef d.name d.params d.body d.scope pm cd doc)->bA.heap.CodeRec cd d.name->mg d.name=some (.ref fa) ->
   bA.heap.get? a=some { cls:=.type "list",data:=.seq vs.toArray }->IntsAre vs ns->ns.length<=n->bA.gens=#[] ->
   codeAny (model l.prog w) callerA (.call (.ref fa) ⟨[.ref a],[]⟩) (λr s'=>r=.ok (.ret (.bool true))/\OldK bA.heap s'.heap/\s'.os=bA.os/\AllBare s'.gens) bA):
  WalkO q loose XP YP l.row.toRowW d [] (λf vs=>WK f vs):=by
 intro w gu bA mg mb G Y fa o pm cd doc dV kV ho hd de hD Oj hg args vals as GS hlay hrd HL hlo
 obtain rfl:dV=.none:=Dflts.none hD OD
 obtain rfl:kV=.none:=Dflts.noKw hD
 obtain ⟨a,vs,ns,rfl,rfl,JN,hints,hlen⟩:=b2e hn GS HL
 refine enter_call (Ie (call w gu bA mg mb fa o pm cd doc a vs ns G Y ho (fd_plain hd) de Oj JN hints hlen hg) λr s' hq=>?_)
 obtain ⟨rfl,h2,h3,h4⟩:=hq
 exact ⟨.inl ⟨.bool true,.bool true,[],rfl,λ_=>rfl,.bool true,b2q l _,λ_=>⟨PB,λ_ hm=>(nomatch hm)⟩⟩,h2,h3,h4⟩
section
variable {prog:Program}{w:World}{A:Around}{E:Value->Shared->Prop}{s:Shared}{K:Frag}
def ledger(h:Heap)(L d:Addr):List (Addr×Obj):=(nR h.objs.size).filterMap λa=>if a=L\/a=d then none else (h.get? a).map λo=>(a,o)
end
end Att
namespace L2
open PySem PySem.Spec PyProof.Rows
theorem a8q:∀{vs:List Value} {ns:List Int},IntsAre vs ns->aU (ns.map V.int) vs
 | _,_,.nil=>.nil
 | _,_,.cons n t h=>.cons ⟨t,rfl⟩ (a8q h)
theorem Tj{α:Type}{c:Prop}[Decidable c]{a b:α}(h:(if c then some a else none)=some b):c/\a=b:=by
 by_cases hc:c
 .rw [if_pos hc] at h;exact ⟨hc,lH h⟩
 .rw [if_neg hc] at h;cases h
def GL:Str:="dealt.<locals>.<lambda>"
def Tb(K:aX)(H:Hp):Prop:=∀c P,DI K "dealt" = some (c,P)->H P=some (.tab GL)
def Sv(K:aX)(ts:List Addr):Bool:=match DI K "dealt" with
 | some (c,P)=>c6F K c P&&(K.lookup P).isNone&&ts.contains P
 | none=>true
theorem b4D{P:Program}{w:World}{K:aX}{mg mb:Str->Option Value}{CX:Dw}{k:Nat}{fa a:Addr}{fd:FuncData}{x:Str}{sp:Sp}{bA:Shared}{vs:List Value}{ns:List Int}{ts:List Addr}
  (KX:K.In bA.heap)(K9:bA.heap.Ns mainGlobals mg)(hb:bA.heap.Ns builtinsNs mb)(hbb:∀x:Str,x ≠ "__name__" -> mb x=bootBuiltins x)(VP:bA.heap.NoLimit)(hg:bA.gens=#[])
  (hbm:∃bm ob,mg "__builtins__" = some (.ref bm)/\bm≠builtinsNs/\bA.heap.get? bm=some ob/\ob.cls=.type "module" /\ ob.dict=some builtinsNs/\ob.data=.plain)
  (hL:Sv K ts=true)(OI:∀P∈ts,bA.heap.get? P=some (LD #[]))
  (ha:bA.heap.get? a=some { cls:=.type "list",data:=.seq vs.toArray })(hi:IntsAre vs ns)(hl:ns.length<=sizeLine)(hr:c8 k callerA)
  (F:∀base:Heap,K.In base->base.Ns mainGlobals mg->dh P w K mg base CX k fa fd [x] sp)(OH:∀(s:Shared) (u:Value),BindsTo s fd ⟨[u],[]⟩ [(x,u)])
  (HM:∀H:Hp,Tb K H->lM K H a (ns.map V.int)->sp [.ref a] H (λv H'=>v=.bl true/\Tb K H') λ_ _ _=>False)
  (Wc:∀H e s',CX [] H bA (λ_ _ _=>False) e s'->False):
  codeAny (model P w) callerA (.call (.ref fa) ⟨[.ref a],[]⟩) (λr s'=>r=.ok (.ret (.bool true))/\OldK bA.heap s'.heap/\s'.os=bA.os/\AllBare s'.gens) bA:=by
 have rv:=a8q hi
 have Vr:=hi.length
 have tabs:∀c P,DI K "dealt" = some (c,P)->c6F K c P=true/\K.lookup P=none/\bA.heap.get? P=some (LD #[]):=λc P e=>by
  unfold Sv at hL
  rw [e] at hL
  simp only [FC,Option.isNone_iff_eq_none,List.contains_iff_mem] at hL
  exact ⟨hL.1.1,hL.1.2,OI P hL.2⟩
 have core:∀H:Hp,Tb K H->lM K H a (ns.map V.int)->pE P w H bA.heap->(∀b,H b≠none->(b=a/\∃o xs,H b=some (.nQ o (.lst xs)))\/∃c,DI K "dealt" = some (c,b))->(H a≠none->K.lookup a=none) ->
   codeAny (model P w) callerA (.call (.ref fa) ⟨[.ref a],[]⟩) (λr s'=>r=.ok (.ret (.bool true))/\OldK bA.heap s'.heap/\s'.os=bA.os/\AllBare s'.gens) bA:=by
  intro H hO hS cF hA hK
  have Aa:∀{b:Addr} {o:Obj},bA.heap.get? b=some o->H b=none->(z0 bA.heap H).get? b=some o:=λe n=>b4Q e n
  have Z7:∀{b:Addr} {o:Obj},bA.heap.get? b=some o->(∀xs n,o.data≠.seq xs n)->(∀xs,o.data=.fields xs->o.cls≠.none)->H b=none:=λ{b o} e d d2=>by
   cases q:H b with
   | none=>rfl
   | some u =>
    rcases hA b (by rw [q];simp) with ⟨e',_⟩ | ⟨c,e'⟩
    .subst e'
     rw [ha] at e;cases e
     exact absurd rfl (d _ _)
    .rw [(tabs c b e').2.2] at e;cases e
     exact absurd rfl (d2 _ rfl)
  have QW:∀{b:Addr} {m:Str->Option Value},bA.heap.Ns b m->(z0 bA.heap H).Ns b m:=λ{b m} ⟨o,es,ep,e,d,r⟩=>⟨o,es,ep,Aa e (Z7 e (λ_ _ z=>by rw [d] at z;cases z) λ_ z=>by rw [d] at z;cases z),d,r⟩
  have hKb:K.In (z0 bA.heap H):=λb o e=>Aa (KX b o e) (by
   cases q:H b with
   | none=>rfl
   | some u =>
    rcases hA b (by rw [q];simp) with ⟨e',_⟩ | ⟨c,e'⟩
    .subst e'
     rw [hK (by rw [q];simp)] at e;cases e
    .rw [(tabs c b e').2.1] at e;cases e)
  have hM:Mod K mg (z0 bA.heap H):=⟨hKb,QW K9,⟨mb,QW hb,hbb⟩,let ⟨mc,h1,h2⟩:=VP;⟨mc,QW h1,h2⟩,let ⟨bm,ob,b1,b2,b3,b4,b5,b6⟩:=hbm;⟨bm,ob,b1,b2,Aa b3 (Z7 b3 (λ_ _ z=>by rw [b6] at z;cases z) λ_ z=>by rw [b6] at z;cases z),b4,b5,b6⟩⟩
  have e0:zE P w K mg (z0 bA.heap H) callerA [] bA H:=⟨rfl,hM,λb o e=>b7k e,WS (b3f _ _),trivial,λb hb=>absurd (show b∈([]:List Addr) from hb) (by simp),cF,.of_eq hg⟩
  refine Ie ((F _ hKb (QW K9)).run callerA [] bA H ⟨[.ref a],[]⟩ [.ref a] [.ref a] _ _ hr e0 (OH bA (.ref a)) (.cons rfl .nil) (HM H hO hS)) λr s' h=>?_
  cases r with
  | error e=>exact (Wc H e s' h).elim
  | ok fl =>
   cases fl with
   | next=>exact zp h
   | brk=>exact zp h
   | cont=>exact zp h
   | ret u =>
    obtain ⟨v,H',os,bare,un,Oh,r',q,qT⟩:=h
    subst q
    obtain rfl:u=AK true:=r'
    have old:∀b o,bA.heap.get? b=some o->s'.heap.get? b=some o\/∃c ps,DI K "dealt" = some (c,b)/\s'.heap.get? b=some (LD ps):=λb o e=>by
     cases q:H b with
     | none=>exact .inl (un.keep b o e q (by intro z;exact absurd (show b∈([]:List Addr) from z) (by simp)) (by simp))
     | some u =>
      rcases hA b (by rw [q];simp) with ⟨_,ob,xs,z⟩ | ⟨c,e'⟩
      .have z2:=un.qo b ob _ z
       obtain ⟨e1,_⟩:=cF b _ z
       obtain ⟨e2,_⟩:=Oh b _ z2
       rw [e] at e1;cases e1
       exact .inl e2
      .obtain ⟨ps,e2,_⟩:=Oh b _ (qT c b e')
       exact .inr ⟨c,ps,e',e2⟩
    refine ⟨rfl,⟨λb o e=>?_,λb o e=>?_⟩,os,bare⟩
    .rcases old b o e with z | ⟨c,ps,e',z⟩
     .exact .inl z
     .obtain ⟨t1,_,t3⟩:=tabs c b e'
      rw [t3] at e;cases e
      exact .inr (.inl ⟨((PySem.W.codeHd_of_K KX t1).tab t3).isCodeTable,rfl,#[],ps,rfl,by rw [Array.empty_append];exact z⟩)
    .rcases old b o e with z | ⟨c,ps,e',z⟩
     .exact ⟨o,z⟩
     .exact ⟨_,z⟩
 have Z6:∀(H:Hp) (b:Addr),(∃c,DI K "dealt" = some (c,b))->dr P w H bA.heap b (.tab GL):=λH b ⟨c,e⟩=>⟨#[],(tabs c b e).2.2,trivial,λpos cv h=>by simp [codeAmong] at h⟩
 have neA:∀c b,DI K "dealt" = some (c,b)->b≠a:=λc b e z=>by
  have:=(tabs c b e).2.2
  rw [z,ha] at this
  cases this
 cases hk:K.lookup a with
 | some o =>
  have e:=KX a o hk
  rw [ha] at e
  cases e
  refine core (λb=>if (DI K "dealt").map (·.2)=some b then some (.tab GL) else none) (λc b e=>if_pos (by rw [e];rfl)) (.inr ⟨_,vs.toArray,_,hk,rfl,rfl,rfl,by rw [jM,Vr];exact hl,by simpa using rv⟩) (λb u z=>?_) (λb z=>?_) λz=>?_
  .obtain ⟨hc,rfl⟩:=(Tj z)
   obtain ⟨⟨c,b'⟩,e,rfl⟩:=LJ.mp hc
   exact Z6 _ _ ⟨c,e⟩
  .by_cases hc:(DI K "dealt").map (·.2)=some b
   .obtain ⟨⟨c,b'⟩,e,rfl⟩:=LJ.mp hc
    exact .inr ⟨c,e⟩
   .exact absurd (if_neg hc) z
  .by_cases hc:(DI K "dealt").map (·.2)=some a
   .obtain ⟨⟨c,b'⟩,e,e2⟩:=LJ.mp hc
    exact absurd e2 (neA c b' e)
   .exact absurd (if_neg hc) z
 | none =>
  refine core (λb=>if b=a then some (.nQ { cls:=.type "list",data:=.seq vs.toArray } (.lst (ns.map V.int))) else if (DI K "dealt").map (·.2)=some b then some (.tab GL) else none) (λc b e=>by show (if b=a then _ else _)=_;rw [if_neg (neA c b e),if_pos (by rw [e];rfl)]) (.inl (.inr ⟨{ cls:=.type "list",data:=.seq vs.toArray },if_pos rfl⟩)) (λb u z=>?_) (λb z=>?_) λ_=>hk
  .by_cases hb:b=a
   .have z':=(if_pos hb).symm.trans z
    cases z'
    subst hb
    exact ⟨ha,by rw [c6];exact hl,vs,_,rv,ha⟩
   .obtain ⟨hc,rfl⟩:=Tj ((if_neg hb).symm.trans z)
    obtain ⟨⟨c,b'⟩,e,rfl⟩:=LJ.mp hc
    exact Z6 _ _ ⟨c,e⟩
  .by_cases hb:b=a
   .exact .inl ⟨hb,_,_,if_pos hb⟩
   .by_cases hc:(DI K "dealt").map (·.2)=some b
    .obtain ⟨⟨c,b'⟩,e,rfl⟩:=LJ.mp hc
     exact .inr ⟨c,e⟩
    .exact absurd ((if_neg hb).trans (if_neg hc)) z
end L2
namespace L2
open PySem PySem.Spec PyProof.Rows
abbrev KOf{K:aX}{h:Heap}(_:K.In h):aX:=K
theorem FZ{l:Xb}{n k:Nat}{q:Program}{loose:List Str}{XP:(Str->Option Value)->Heap->Prop}{YP:World->Heap->Prop}{d:DefRec}{K:Params->aX}{CX:World->Dw}{sp:World->Sp}{x:Str}{ts:List Addr}
  (hn:l.most=some n)(Q4:n<=sizeLine)(OD:d.params.defaults=[])(hr:c8 k callerA)
  (hY:∀(w:World) (h:Heap),YP w h->(K w.params).In h/\∀P∈ts,h.get? P=some (LD #[]))(hL:∀w:World,Sv (K w.params) ts=true)
  (F:∀(w:World) (mg:Str->Option Value) (fa:Addr) (h:Heap),(K w.params).In h->h.Ns mainGlobals mg->mg d.name=some (.ref fa) ->
   ∃fd:FuncData,(∀(s:Shared) (u:Value),BindsTo s fd ⟨[u],[]⟩ [(x,u)]) /\
    ∀base:Heap,(K w.params).In base->base.Ns mainGlobals mg->dh l.prog w (K w.params) mg base (CX w) k fa fd [x] (sp w))
  (HM:∀(w:World) (H:Hp) (a:Addr) (ns:List Int),ns.length<=n->Tb (K w.params) H->lM (K w.params) H a (ns.map V.int)->sp w [.ref a] H (λv H'=>v=.bl true/\Tb (K w.params) H') λ_ _ _=>False)
  (Wc:∀(w:World) (H:Hp) (s:Shared) (e:Value) (s':Shared),CX w [] H s (λ_ _ _=>False) e s'->False):
  PySem.W.WalkO q loose XP YP l.row.toRowW d [] (λf vs=>WK f vs):=by
 refine Att.AM hn OD λw gu bA mg mb fa o pm cd doc a vs ns G Y ho hd de Oj JN hints hlen hg=>?_
 obtain ⟨KX,OI⟩:=hY w _ Y
 obtain ⟨fd,hb,hF⟩:=F w mg fa _ KX G.T.g Oj
 exact b4D KX G.T.g G.T.b G.T.builtins G.T.nolimit hg G.T.bmain (hL w) OI JN hints (tu hlen Q4) hr hF hb (λH hO hS=>HM w H a ns hlen hO hS) λH e s'=>Wc w H bA e s'
end L2
namespace L2
open PySem PySem.Spec PyProof.Rows
def n8(s:Stmt)(j:Nat):Stmt:=match s with
 | .ClassDef _ _ _ body _ _ _ _ _ _ _=>body.getD j (.Pass ⟨0,0,0,0⟩)
 | _=>.Pass ⟨0,0,0,0⟩
def Ab(s:Stmt):Arguments:=match s with
 | .FunctionDef _ a _ _ _ _ _ _ _ _=>a
 | _=>{ posonlyargs:=[],args:=[],vararg:=none,kwonlyargs:=[],kw_defaults:=[],kwarg:=none,defaults:=[] }
def pD(s:Stmt):List Stmt:=match s with
 | .FunctionDef _ _ b _ _ _ _ _ _ _=>b
 | _=>[]
def hX(s:Stmt):Scope:=match s with
 | .FunctionDef _ _ _ _ _ _ sc _ _ _=>sc
 | _=>{ kind:=.function,names:=[],isGenerator:=false,isCoroutine:=false }
abbrev pB:Dw:=λ_ _ _ _ _ _=>False
abbrev E0:XK:=λ_ _ _=>False
theorem Km:P' pB X E0:=λ_ _ _ _ _ _ _ h=>h.elim
structure Fs(K:aX)(x qual:Str)(st:Stmt)(f:Addr)(fd:FuncData):Prop where
 ex:∃(oc:Value) (od:Option Addr) (kV doc pm:Value) (an:Option Addr) (gZ ct:Value) (HG:Array (Option Value)),
  fd=zm x qual (Ab st) (pD st) (hX st) .none kV doc pm an gZ ct/\K.lookup f=some ⟨oc,od,.func fd,HG⟩/\Pu K gZ qual=true
 kp:vY K (.ref f)=true
section
variable {P:Program}{w:World}{K:aX}{mg:Str->Option Value}{base:Heap}
theorem Fs.ok{x qual:Str}{st:Stmt}{f:Addr}{fd:FuncData}{N ps:List Str}{k:Nat}{sp:Sp}(F:Fs K x qual st f fd)(S:dN N ps (hX st))(len:∀vs H Q E,sp vs H Q E->vs.length=ps.length)
  (dz:∀(gZ:Value) (A:Around) (outer:List Env) (s:Shared) (H:Hp) (vs:List V) (Q:VK) (E:XK),c8 k (A.deeper (envOfC qual (hX st) s.heap.objs.size f gZ))->sp vs H Q E ->
   ∃t,Bm (z7 pB P w K mg base N qual (hX st) f gZ A outer s H E).tX (pD st) t/\t { nx:=λ_ H'=>Q .cT H',rt:=Q } (start N vs) H):dh P w K mg base pB (k+1) f fd ps sp:=by
 obtain ⟨oc,od,kV,doc,pm,an,gZ,ct,HG,rfl,lk,de⟩:=F.ex
 refine OT lk de S len λA outer s H vs Q E hr HM=>?_
 obtain ⟨t,h,q⟩:=dz gZ A outer s H vs Q E hr HM
 exact ⟨t,h.tX,q⟩
theorem Fs.binds{x qual:Str}{st:Stmt}{f:Addr}{fd:FuncData}{ps:List Str}(F:Fs K x qual st f fd)
  (h:∀(kV doc pm:Value) (an:Option Addr) (gZ ct:Value) (us:List Value),us.length=ps.length->bindArgs (zm x qual (Ab st) (pD st) (hX st) .none kV doc pm an gZ ct) ⟨us,[]⟩=pure (ps.zip us)):Binds K fd ps []:=by
 obtain ⟨oc,od,kV,doc,pm,an,gZ,ct,HG,rfl,lk,de⟩:=F.ex
 exact .all (h kV doc pm an gZ ct)
theorem SK{x qual:Str}{st:Stmt}{f:Addr}{oc:Value}{od an:Option Addr}{HG:Array (Option Value)}{kV doc pm gZ ct:Value}(l:K.lookup f=some ⟨oc,od,.func (zm x qual (Ab st) (pD st) (hX st) .none kV doc pm an gZ ct),HG⟩)
  (c:Pu K gZ qual=true)(k:vY K (.ref f)=true):Fs K x qual st f (zm x qual (Ab st) (pD st) (hX st) .none kV doc pm an gZ ct):=⟨⟨oc,od,kV,doc,pm,an,gZ,ct,HG,rfl,l,c⟩,k⟩
end
theorem PR(hr:c8 k A):A.units+1<cLine:=RD (Nat.add_le_add_left (by decide:1<=64) _) hr.units
section
variable {X:Cx}
end
def aO(H H':Hp):Prop:=∀b o,H b=some o->H' b=some o
theorem aO.refl(H:Hp):aO H H:=λ_ _ h=>h
theorem aO.trans(a:aO H H1)(b:aO H1 H2):aO H H2:=λc o h=>b c o (a c o h)
theorem aO.free(e:aO H H')(h:H' l=Option.none):H l=Option.none:=by
 cases q:H l with
 | none=>rfl
 | some o =>
  rw [e l o q] at h
  cases h
theorem aO.seq{K:aX}{H H':Hp}{a:Addr}{xs:List V}(e:aO H H')(h:lM K H a xs):lM K H' a xs:=by
 rcases h with (h | ⟨o,h⟩) | h
 .exact .inl (.inl (e _ _ h))
 .exact .inl (.inr ⟨o,e _ _ h⟩)
 .exact .inr h
end L2
set_option maxHeartbeats 4000000
namespace L2
open PySem PySem.Spec PyProof.Rows
section
variable {κ:Type}[DecidableEq κ]
noncomputable def pG(aI:List (κ×V))(k:κ):Option V:=(aI.find? λkv=>decide (kv.1=k)).map (·.2)
noncomputable def putK(aI:List (κ×V))(k:κ)(v:V):List (κ×V):=
 if (aI.any λkv=>decide (kv.1=k))=true then aI.map (λkv=>if kv.1=k then (kv.1,v) else kv) else aI++[(k,v)]
noncomputable def c0T(aI:List (κ×V))(k:κ):List (κ×V):=aI.filter λkv=>decide (kv.1≠k)
theorem YC{p:κ×V}{r:List (κ×V)}{k:κ}(e:p.1=k):pG (p::r) k=some p.2:=by simp [pG,Kb,e]
theorem YB{p:κ×V}{r:List (κ×V)}{k:κ}(e:¬p.1=k):pG (p::r) k=pG r k:=by simp [pG,Kb,e]
theorem b0s(k:κ):∀aI:List (κ×V),(aI.any λkv=>decide (kv.1=k))=(pG aI k).isSome
 | []=>rfl
 | p::r=>by
  rw [Rr]
  by_cases e:p.1=k
  .simp only [YC e,decide_eq_true e,Bool.true_or,Option.isSome_some]
  .rw [YB e,decide_eq_false e,Bool.false_or];exact b0s k r
theorem a6Z(aI:List (κ×V))(k:κ)(v:V):(putK aI k v).length<=aI.length+1:=by
 unfold putK
 split
 .rw [c6];omega
 .rw [ma,lI,Xa];omega
theorem mi.jD{o:Option V}{u:Option Value}(r:mi o u):o.isSome=u.isSome:=by
 cases o with
 | none=>cases u with
  | none=>rfl
  | some _=>exact (show False from r).elim
 | some _=>cases u with
  | none=>exact (show False from r).elim
  | some _=>rfl
theorem mi.getD{o:Option V}{u:Option Value}{d:V}{d':Value}(r:mi o u)(rd:RelV d d'):RelV (o.getD d) (u.getD d'):=by
 cases o with
 | none=>cases u with
  | none=>exact rd
  | some _=>exact (show False from r).elim
 | some _=>cases u with
  | none=>exact (show False from r).elim
  | some _=>exact r
theorem KV.val{aI:List (κ×V)}{vs:List (κ×Value)}(r:KV aI vs)(k:κ):mi (pG aI k) (valueAt vs k):=by
 unfold KV at r
 induction r with
 | nil=>exact Lk
 | @cons p q ps qs h t ih =>
  obtain ⟨h1,h2⟩:=h
  by_cases e:p.1=k
  .have e':q.1=k:=h1.symm.trans e
   have b:valueAt (q::qs) k=some q.2:=by simp [valueAt,Kb,e']
   rw [YC e,b];exact h2
  .have e':¬q.1=k:=λz=>e (h1.trans z)
   have b:valueAt (q::qs) k=valueAt qs k:=by simp [valueAt,Kb,e']
   rw [YB e,b];exact ih
theorem KV.any{aI:List (κ×V)}{vs:List (κ×Value)}(r:KV aI vs)(k:κ):(aI.any λkv=>decide (kv.1=k))=vs.any λkv=>decide (kv.1=k):=by
 unfold KV at r
 induction r with
 | nil=>rfl
 | cons h t ih=>rw [Rr,Rr,ih,h.1]
theorem KV.Jg{aI:List (κ×V)}{vs:List (κ×Value)}(r:KV aI vs)(k:κ){y:V}{u:Value}(ry:RelV y u):
  KV (aI.map λkv=>if kv.1=k then (kv.1,y) else kv) (vs.map λkv=>if kv.1=k then (kv.1,u) else kv):=by
 unfold KV at r ⊢
 induction r with
 | nil=>exact .nil
 | @cons p q ps qs h t ih =>
  rw [fH,fH]
  refine .cons ?_ ih
  obtain ⟨h1,h2⟩:=h
  by_cases e:p.1=k
  .rw [if_pos e,if_pos (h1.symm.trans e)];exact ⟨h1,ry⟩
  .rw [if_neg e,if_neg (λz=>e (h1.trans z))];exact ⟨h1,h2⟩
theorem KV.put{aI:List (κ×V)}{vs:List (κ×Value)}(r:KV aI vs)(k:κ){y:V}{u:Value}(ry:RelV y u):KV (putK aI k y) (stored vs k u):=by
 unfold putK stored
 rw [r.any k]
 by_cases e:(vs.any λkv=>decide (kv.1=k))=true
 .rw [if_pos e,if_pos e];exact r.Jg k ry
 .rw [if_neg e,if_neg e];exact Paired.snoc r ⟨rfl,ry⟩
theorem KV.drop{aI:List (κ×V)}{vs:List (κ×Value)}(r:KV aI vs)(k:κ):KV (c0T aI k) (without vs k):=by
 unfold KV at r ⊢
 unfold c0T without
 induction r with
 | nil=>exact .nil
 | @cons p q ps qs h t ih =>
  obtain ⟨h1,h2⟩:=h
  rw [List.filter_cons,List.filter_cons]
  by_cases e:p.1=k
  .have a:¬decide (p.1≠k)=true:=by simp [e]
   have b:¬decide (q.1≠k)=true:=by simp [h1.symm.trans e]
   rw [if_neg a,if_neg b];exact ih
  .have e':¬q.1=k:=λz=>e (h1.trans z)
   have a:decide (p.1≠k)=true:=by simp [e]
   have b:decide (q.1≠k)=true:=by simp [e']
   rw [if_pos a,if_pos b];exact .cons ⟨h1,h2⟩ ih
theorem KV.length{aI:List (κ×V)}{vs:List (κ×Value)}(r:KV aI vs):aI.length=vs.length:=Paired.length r
end
theorem P0{P:Program}{w:World}{k:Key}{u:Value}(r:RelV (kV k) u):(yy P w).is k u=true:=by
 cases k with
 | inl i=>obtain ⟨t,e⟩:=(show ∃t,u=HZ i t from r);subst e;exact a9T P w i t
 | inr x=>obtain ⟨t,e⟩:=(show ∃t,u=Ll x t from r);subst e;exact a6T P w x t
theorem a8K{P:Program}{w:World}:∀{ks:List Key} {us:List Value},aU (ks.map kV) us->ItemsAre (yy P w) ks us
 | [],_,r=>by rw [Cr] at r;cases r;exact .nil
 | k::ks,_,r=>by
  rw [fH] at r
  cases r with
  | cons h t=>exact .cons (P0 h) (a8K t)
abbrev KT(H:Hp):List (List Key×V)->List (List Key×Addr×Value)->Prop:=Paired λp q=>p.1=q.1/\H q.2.1=some (.tup (p.1.map kV))/\RelV p.2 q.2.2
theorem KT.val{H:Hp}{aI:List (List Key×V)}{xs:List (List Key×Addr×Value)}(r:KT H aI xs)(k:List Key):mi (pG aI k) ((atKey xs k).map (·.2)):=by
 induction r with
 | nil=>exact Lk
 | @cons p q ps qs h t ih =>
  obtain ⟨h1,_,h2⟩:=h
  by_cases e:p.1=k
  .have e':q.1=k:=h1.symm.trans e
   have b:atKey (q::qs) k=some q.2:=by simp [atKey,Kb,e']
   rw [YC e,b];exact h2
  .have e':¬q.1=k:=λz=>e (h1.trans z)
   have b:atKey (q::qs) k=atKey qs k:=by simp [atKey,Kb,e']
   rw [YB e,b];exact ih
theorem KT.Jg{H:Hp}{aI:List (List Key×V)}{xs:List (List Key×Addr×Value)}(r:KT H aI xs)(k:List Key){y:V}{u:Value}(ry:RelV y u):
  KT H (aI.map λkv=>if kv.1=k then (kv.1,y) else kv) (xs.map (putAt k u)):=by
 induction r with
 | nil=>exact .nil
 | @cons p q ps qs h t ih =>
  rw [fH,fH]
  refine .cons ?_ ih
  obtain ⟨h1,h2,h3⟩:=h
  unfold putAt
  by_cases e:p.1=k
  .rw [if_pos e,if_pos (h1.symm.trans e)];exact ⟨h1,h2,ry⟩
  .rw [if_neg e,if_neg (λz=>e (h1.trans z))];exact ⟨h1,h2,h3⟩
theorem KT.put{H:Hp}{aI:List (List Key×V)}{xs:List (List Key×Addr×Value)}(r:KT H aI xs)(k:List Key){b:Addr}{y:V}{u:Value}(hb:H b=some (.tup (k.map kV)))(ry:RelV y u):
  KT H (putK aI k y) (storedH xs k b u):=by
 have e:(aI.any λkv=>decide (kv.1=k))=(atKey xs k).isSome:=by
  rw [b0s,(r.val k).jD,WY]
 unfold putK storedH
 rw [e]
 by_cases q:(atKey xs k).isSome=true
 .rw [if_pos q,if_pos q];exact r.Jg k ry
 .rw [if_neg q,if_neg q];exact Paired.snoc r ⟨rfl,hb,ry⟩
theorem KT.keeps{H H':Hp}{aI:List (List Key×V)}{xs:List (List Key×Addr×Value)}(r:KT H aI xs)(ht:∀b ys,H b=some (.tup ys)->H' b=some (.tup ys)):KT H' aI xs:=
 Paired.JD r λ_ _ z=>⟨z.1,ht _ _ z.2.1,z.2.2⟩
section
variable {P:Program}{w:World}{H:Hp}{h:Heap}{a:Addr}
theorem b9B{u:HO}(ok:pE P w H h)(e:Rd H a u):dr P w H h a u:=e.ok ok
theorem LQ{aI:List (Key×V)}(ok:pE P w H h)(e:Rd H a (.dK aI)):aI.length<=sizeLine/\(a==sysModules)=false/\∃vs,KV aI vs/\h.DictOf (yy P w) a vs:=
 show dr P w H h a (.dK aI) from b9B ok e
theorem Pc{aI:List (Key×V)}(ok:pE P w H h)(e:H a=some (.dK aI)):aI.length<=sizeLine/\(a==sysModules)=false/\∃vs,KV aI vs/\h.DictOf (yy P w) a vs:=LQ ok (.inl e)
theorem Qc{ks:List Key}(ok:pE P w H h)(e:H a=some (.tup (ks.map kV))):(tupleKind (yy P w)).is h ks a:=by
 obtain ⟨_,aJ,r,o,h1,h2,n,h3⟩:=(show dr P w H h a (.tup (ks.map kV)) from ok a _ e)
 exact ⟨o,aJ.toArray,n,h1,h2,h3,by simpa using a8K r⟩
theorem LR{aI:List (List Key×V)}(ok:pE P w H h)(e:Rd H a (.dT aI)):aI.length<=sizeLine/\(a==sysModules)=false /\
  ∃xs,KT H aI xs/\h.DictOfH (tupleKind (yy P w)) a xs:=by
 obtain ⟨z,y,xs,r,o,es,ep,h1,h2,h3,h4,h5⟩:=(show dr P w H h a (.dT aI) from b9B ok e)
 refine ⟨z,y,xs,r,o,es,ep,h1,h2,h3,h4,λx hx=>?_,h5⟩
 have all:∀{l:List (List Key×V)} {m:List (List Key×Addr×Value)},KT H l m->∀x∈m,(tupleKind (yy P w)).is h x.1 x.2.1:=by
  intro l m q
  induction q with
  | nil=>intro x hx;exact nomatch hx
  | @cons p q ps qs hq t ih =>
   intro x hx
   rcases js.mp hx with e | hx
   .subst e
    exact Qc ok (by rw [<-hq.1];exact hq.2.1)
   .exact ih x hx
 exact all r x hx
theorem Pb{aI:List (List Key×V)}(ok:pE P w H h)(e:H a=some (.dT aI)):aI.length<=sizeLine/\(a==sysModules)=false /\
  ∃xs,KT H aI xs/\h.DictOfH (tupleKind (yy P w)) a xs:=LR ok (.inl e)
end
def pA(H:Hp)(a:Addr)(y:V)(r:Option V):Prop:=
 (∃aI k,Rd H a (.dK aI)/\y=kV k/\r=pG aI k)\/∃aI k b,Rd H a (.dT aI)/\y=.ref b/\H b=some (.tup (k.map kV))/\r=pG aI k
def Cd(H:Hp)(a:Addr)(y v:V)(H':Hp):Prop:=
 (∃aI k,H a=some (.dK aI)/\y=kV k/\aI.length<sizeLine/\H'=upd H a (.dK (putK aI k v))) \/
 ∃aI k b,H a=some (.dT aI)/\y=.ref b/\H b=some (.tup (k.map kV))/\aI.length<sizeLine/\H'=upd H a (.dT (putK aI k v))
theorem pA.k{H:Hp}{a:Addr}{aI:List (Key×V)}{k:Key}(e:H a=some (.dK aI)):pA H a (kV k) (pG aI k):=.inl ⟨aI,k,.inl e,rfl,rfl⟩
theorem pA.t{H:Hp}{a b:Addr}{aI:List (List Key×V)}{k:List Key}(e:H a=some (.dT aI))(eb:H b=some (.tup (k.map kV))):pA H a (.ref b) (pG aI k):=.inr ⟨aI,k,b,.inl e,rfl,eb,rfl⟩
theorem Cd.k{H:Hp}{a:Addr}{aI:List (Key×V)}{k:Key}{v:V}(e:H a=some (.dK aI))(hl:aI.length<sizeLine):Cd H a (kV k) v (upd H a (.dK (putK aI k v))):=.inl ⟨aI,k,e,rfl,hl,rfl⟩
theorem Cd.t{H:Hp}{a b:Addr}{aI:List (List Key×V)}{k:List Key}{v:V}(e:H a=some (.dT aI))(eb:H b=some (.tup (k.map kV)))(hl:aI.length<sizeLine):
  Cd H a (.ref b) v (upd H a (.dT (putK aI k v))):=.inr ⟨aI,k,b,e,rfl,eb,hl,rfl⟩
section
variable {X:Cx}{pins:List (Addr×Obj)}{σ:St}{H:Hp}{s:Shared}{a:Addr}{y v:V}{u r:Value}{o:Option V}{A:Around}{E:Value->Shared->Prop}
theorem Inv.big(I:Inv X pins σ H s):sysModules<s.heap.objs.size:=by
 have h:mainGlobals<s.heap.objs.size:=(I.mod.glob.keeps I.bk).lt
 exact Ic (by decide) h
theorem b3E{Q:Value->Shared->Prop}(hu:A.units+1<cLine)(I:Inv X pins σ H s)(g:pA H a y (some v))(ry:RelV y u)(h:∀w' s',Inv X pins σ H s'->RelV v w'->Q w' s'):
  wpAny (model X.prog X.w) A (getItem (.ref a) u) Q E s:=by
 rcases g with ⟨aI,k,e,ey,l⟩ | ⟨aI,k,b,e,ey,eb,l⟩
 .subst ey
  obtain ⟨z,hd,vs,rel,dd⟩:=LQ I.cF e
  obtain ⟨w',hw,F9⟩:=mi.some_of (v:=v) (o:=valueAt vs k) (by rw [l];exact rel.val k)
  exact wpAny_getItem_of (P0 ry) dd.mapOf hw (h w' _ (I.tok _) F9)
 .subst ey
  cases (show u=e8 b from ry)
  obtain ⟨z,hd,xs,rel,dd⟩:=LR I.cF e
  obtain ⟨w',hw,F9⟩:=mi.some_of (v:=v) (o:=(atKey xs k).map (·.2)) (by rw [l];exact rel.val k)
  obtain ⟨p,hp,Q2⟩:=LJ.mp hw
  refine wpAny_getItem_heap (RC hu) (Qc I.cF eb) dd hp ?_
  rw [Q2]
  exact h w' _ (I.tok _) F9
theorem Wv{Q:Value->Shared->Prop}(hu:A.units+1<cLine)(I:Inv X pins σ H s)(g:pA H a y o)(ry:RelV y u)(h:∀s',Inv X pins σ H s'->Q (.bool o.isSome) s'):
  wpAny (model X.prog X.w) A (compareOp .In u (.ref a)) Q E s:=by
 rcases g with ⟨aI,k,e,ey,l⟩ | ⟨aI,k,b,e,ey,eb,l⟩
 .subst ey
  obtain ⟨z,hd,vs,rel,dd⟩:=LQ I.cF e
  refine wpAny_in_of (P0 ry) hd dd.mapOf ?_
  rw [<-(rel.val k).jD,<-l]
  exact h _ (I.tok _)
 .subst ey
  cases (show u=e8 b from ry)
  obtain ⟨z,hd,xs,rel,dd⟩:=LR I.cF e
  refine wpAny_in_heap (RC hu) (Qc I.cF eb) hd dd ?_
  have q:=(rel.val k).jD
  rw [WY] at q
  rw [<-q,<-l]
  exact h _ (I.tok _)
theorem b8d{Q:Value->Shared->Prop}(hu:A.units+1<cLine)(I:Inv X pins σ H s)(g:pA H a y o)(ry:RelV y u)(h:∀s',Inv X pins σ H s'->Q (.bool (!o.isSome)) s'):
  wpAny (model X.prog X.w) A (compareOp .NotIn u (.ref a)) Q E s:=by
 rcases g with ⟨aI,k,e,ey,l⟩ | ⟨aI,k,b,e,ey,eb,l⟩
 .subst ey
  obtain ⟨z,hd,vs,rel,dd⟩:=LQ I.cF e
  refine wpAny_notIn_of (P0 ry) hd dd.mapOf ?_
  rw [<-(rel.val k).jD,<-l]
  exact h _ (I.tok _)
 .subst ey
  cases (show u=e8 b from ry)
  obtain ⟨z,hd,xs,rel,dd⟩:=LR I.cF e
  refine wpAny_notIn_heap (RC hu) (Qc I.cF eb) hd dd ?_
  have q:=(rel.val k).jD
  rw [WY] at q
  rw [<-q,<-l]
  exact h _ (I.tok _)
theorem b3C{h':Heap}{t':Nat}{ob:HO}(I:Inv X pins σ H s)(mu:QE (H a))(hs:E5 a s.heap h')(he:∃q,h'.get? a=some q)(new:dr X.prog X.w (upd H a ob) h' a ob):
  Inv X pins σ (upd H a ob) { s with heap:=h',toks:=t' }:=
 I.write (x:=a) (e:=a) mu (.inl rfl) (λb q hb z=>(hs.2 b hb).trans z) he new
theorem c0V{P:Program}{w:World}{H':Hp}{h':Heap}{aI:List (Key×V)}{vs:List (Key×Value)}(z:aI.length<=sizeLine)(hd:(a==sysModules)=false)(rel:KV aI vs)(dd:h'.DictOf (yy P w) a vs):
  dr P w H' h' a (.dK aI):=⟨z,hd,vs,rel,dd⟩
theorem b3D{H':Hp}{Q:Unit->Shared->Prop}(hu:A.units+1<cLine)(I:Inv X pins σ H s)(g:Cd H a y v H')(ry:RelV y u)(rv:RelV v r)(h:∀s',Inv X pins σ H' s'->Q () s'):
  wpAny (model X.prog X.w) A (setItem (.ref a) u r) Q E s:=by
 rcases g with ⟨aI,k,e,ey,l,eH⟩ | ⟨aI,k,b,e,ey,eb,l,eH⟩
 .subst ey eH
  obtain ⟨z,hd,vs,rel,dd⟩:=Pc I.cF e
  have hz:vs.length<=sizeLine:=by rw [<-rel.length];exact z
  have hl:(putK aI k v).length<=sizeLine:=by have:=a6Z aI k v;omega
  refine wpAny_setItem_pairs (hsz:=hz) (P0 ry) dd λh' Ri hs=>h _ ?_
  have he:∃q,h'.get? a=some q:=let ⟨q,_,_,hq,_⟩:=Ri;⟨q,hq⟩
  exact b3C I (by rw [e];exact Lk) hs he (c0V hl hd (rel.put k rv) Ri)
 .subst ey eH
  cases (show u=e8 b from ry)
  obtain ⟨z,hd,xs,rel,dd⟩:=Pb I.cF e
  have hz:xs.length<=sizeLine:=by rw [<-Paired.length rel];exact z
  have hl:(putK aI k v).length<=sizeLine:=by have:=a6Z aI k v;omega
  refine wpAny_setItem_heap (hsz:=hz) (RC hu) (Qc I.cF eb) dd λh' Ri hs=>h _ ?_
  obtain ⟨q,es,ep,hq,h2,h3,h4,_,h5⟩:=Ri
  refine b3C I (by rw [e];exact Lk) hs ⟨q,hq⟩ ⟨hl,hd,_,(rel.put k eb rv).keeps λc ys ec=>?_,q,es,ep,hq,h2,h3,h4,h5⟩
  rw [jw (NW ec e (λz=>nomatch z))]
  exact ec
end
section
variable {X:Cx}{pins:List (Addr×Obj)}{σ:St}{H:Hp}{s:Shared}{a:Addr}{aI:List (Key×V)}{k:Key}{u:Value}{A:Around}{E:Value->Shared->Prop}
end
def Hw(i:Expr):Prop:=∀ov iv,subscripted i false ov iv=operate [ov,iv] (getItem ov iv)
theorem b6S{prog:Program}{w:World}{A:Around}{E:Value->Shared->Prop}{s:Shared}{env:Env}{value slice:Expr}{pos:Pos}{T id:String}{Q:Value->Shared->Prop}
  (hl:typeLookup (.type T) "__getitem__" = pure (some (.builtin id)))(hs:Hw slice)
  (h:wpAny (model prog w) A (eval value env) (λo bA=>wpAny (model prog w) A (eval slice env) (λi g7=>g7.TypeIs o T/\wpAny (model prog w) A (getItem o i) Q E g7) E bA) E s):
  wpAny (model prog w) A (eval (.Subscript value slice pos) env) Q E s:=by
 refine Subscript_ (z8 h (λo bA h₁=>z8 h₁ (λi g7 EO=>?_) λ_ _ x=>x) λ_ _ x=>x)
 obtain ⟨hT,EO⟩:=EO
 unfold subscriptTail
 refine aY ?_
 rw [getitemInPython_of_ne hT.not_modules]
 refine aY (wpAny_specialOf hT hl ?_)
 have fin:wpAny (model prog w) A (subscripted slice false o i) (λr CI=>wpAny (model prog w) A (letTemporaryGo value o r >>= λ_=>pure r) Q E CI) E g7:=by
  rw [hs o i]
  exact wpAny_operating (z8 EO (λr CI GP=>aY (wpAny_letTemporaryGo (cE GP))) λ_ _ x=>x)
 first
  | exact cE (aY fin)
  | exact aY (cE (aY fin))
  | exact aY fin
theorem b0h{X:Cx}{pins:List (Addr×Obj)}{σ:St}{H:Hp}{s:Shared}{a:Addr}{y:V}{o:Option V}(I:Inv X pins σ H s)(g:pA H a y o):s.TypeIs (.ref a) "dict":=by
 rcases g with ⟨aI,k,e,_,_⟩ | ⟨aI,k,b,e,_,_,_⟩
 .obtain ⟨_,_,vs,_,dd⟩:=LQ I.cF e
  exact dd.typeIs
 .obtain ⟨_,_,xs,_,dd⟩:=LR I.cF e
  exact dd.typeIs
noncomputable def M8(td ty:TE):TE:=λσ H Q=>td σ H λx H1=>ty σ H1 λy H2=>∃a v,x=.ref a/\pA H2 a y (some v)/\Q v H2
noncomputable def Ja(ty td:TE):TE:=λσ H Q=>ty σ H λy H1=>td σ H1 λx H2=>∃a o,x=.ref a/\pA H2 a y o/\Q (.bl o.isSome) H2
noncomputable def Qf(ty td:TE):TE:=λσ H Q=>ty σ H λy H1=>td σ H1 λx H2=>∃a o,x=.ref a/\pA H2 a y o/\Q (.bl (!o.isSome)) H2
noncomputable def Np(td ty tv:TE):TS:=λD σ H=>tv σ H λv H1=>td σ H1 λx H2=>ty σ H2 λy H3=>∃a H4,x=.ref a/\Cd H3 a y v H4/\D.nx σ H4
section
variable {X:Cx}{o i e value:Expr}{pos pos' UI:Pos}{td ty tv:TE}
theorem b7c(hu:X.A.units+1<cLine)(ho:PE X o td)(hi:PE X i ty)(hs:Hw i):PE X (.Subscript o i pos) (M8 td ty):=by
 intro pins s σ H Q I h
 refine b6S PySem.F.slot_dict_getitem.lookup hs (cM (ho pins s σ H _ I h) λu s1 ⟨x,H1,I1,rx,q1⟩=>cM (hi pins s1 σ H1 _ I1 q1) λiv s2 ⟨y,H2,I2,ry,a,v,ex,g,q2⟩=>?_)
 subst ex
 obtain rfl:u=e8 a:=rx
 exact ⟨b0h I2 g,b3E hu I2 g ry λw' s3 I3 F9=>⟨v,H2,I3,F9,q2⟩⟩
theorem b9V(hu:X.A.units+1<cLine)(hi:PE X i ty)(ho:PE X o td):PC X .In i o (Ja ty td):=by
 intro pins s σ H Q I h
 refine cM (hi pins s σ H _ I h) λiv s1 ⟨y,H1,I1,ry,q1⟩=>cM (ho pins s1 σ H1 _ I1 q1) λu s2 ⟨x,H2,I2,rx,a,ov,ex,g,q2⟩=>?_
 subst ex
 obtain rfl:u=e8 a:=rx
 exact Wv hu I2 g ry λs3 I3=>⟨.bl ov.isSome,H2,I3,rfl,q2⟩
theorem a8A(hu:X.A.units+1<cLine)(hi:PE X i ty)(ho:PE X o td):PC X .NotIn i o (Qf ty td):=by
 intro pins s σ H Q I h
 refine cM (hi pins s σ H _ I h) λiv s1 ⟨y,H1,I1,ry,q1⟩=>cM (ho pins s1 σ H1 _ I1 q1) λu s2 ⟨x,H2,I2,rx,a,ov,ex,g,q2⟩=>?_
 subst ex
 obtain rfl:u=e8 a:=rx
 exact b8d hu I2 g ry λs3 I3=>⟨.bl (!ov.isSome),H2,I3,rfl,q2⟩
theorem b64(hu:X.A.units+1<cLine)(ho:PE X o td)(hi:PE X i ty)(hv:PE X value tv)(hs:swapsWith value (some (.Subscript o i pos')) pos.line X.env=pure false):
  PS X (.Assign [.Subscript o i pos'] value pos) (Np td ty tv):=by
 intro pins s σ H D I h
 refine wpAny_Assign_Subscript (cM (hv pins s σ H _ I h) λr s1 ⟨v,H1,I1,rv,q1⟩=>cM (ho pins s1 σ H1 _ I1 q1) λu s2 ⟨x,H2,I2,rx,q2⟩=>cM (hi pins s2 σ H2 _ I2 q2) λiv s3 ⟨y,H3,I3,ry,a,H4,ex,g,q3⟩=>?_) hs
 subst ex
 obtain rfl:u=e8 a:=rx
 exact b3D hu I3 g ry rv λs4 I4=>⟨σ,H4,I4,q3⟩
end
theorem b5a{P:Program}{w:World}{H:Hp}(h:Heap)(hb:sysModules<h.objs.size):dr P w H (h.push { cls:=.type "dict",data:=.dict #[] }) h.objs.size (.dK []):=
 ⟨De _,beq_eq_false_iff_ne.mpr (wF (g0 hb)),[],.nil,c6L h⟩
noncomputable def b9q:TE:=λ_ H Q=>∀p,H p=none->Q (.ref p) (upd H p (.dK []))
section
variable {X:Cx}{pos:Pos}
theorem b4q:PE X (.Dict [] [] pos) b9q:=λpins s σ H Q I h =>
 wpAny_Dict_empty ⟨.ref s.heap.objs.size,_,I.laid (a:=s.heap.objs.size) (o:=.dK []) (t':=s.toks) (λ_ _ q=>ft _ q) (dF _) (b5a s.heap I.big),rfl,h _ (I.cF.fresh (dF _))⟩
end
structure M1(X:Cx)(o:Expr)(m:Str)(apos:Pos)(e:Expr)(aB:Pos):Prop where
 base:attributeBase o m X.env (eval o X.env)=eval o X.env
 G5:((backTo aB (starEach [e] X.env)).all (λx=>!x.1)&&(backToKw aB (keywordEach [] X.env)).all (λx=>x.1.isSome)
  && decide (([e]:List Expr).length+([]:List Keyword).length+(if ([]:List Keyword).isEmpty then 0 else 1)<30))=true
 line:(apos.endLine==aB.line)=true
 trees:backTo aB (starEach [e] X.env)=[(false,eval e X.env)]
structure M2(X:Cx)(o:Expr)(m:Str)(apos:Pos)(e f:Expr)(aB:Pos):Prop where
 base:attributeBase o m X.env (eval o X.env)=eval o X.env
 G5:((backTo aB (starEach [e,f] X.env)).all (λx=>!x.1)&&(backToKw aB (keywordEach [] X.env)).all (λx=>x.1.isSome)
  && decide (([e,f]:List Expr).length+([]:List Keyword).length+(if ([]:List Keyword).isEmpty then 0 else 1)<30))=true
 line:(apos.endLine==aB.line)=true
 trees:backTo aB (starEach [e,f] X.env)=[(false,eval e X.env),(false,eval f X.env)]
def IsD(H:Hp)(a:Addr):Prop:=(∃aI,Rd H a (.dK aI))\/∃aI,Rd H a (.dT aI)
theorem b6f{X:Cx}{pins:List (Addr×Obj)}{σ:St}{H:Hp}{s:Shared}{a:Addr}(I:Inv X pins σ H s)(d:IsD H a):
  s.TypeIs (.ref a) "dict" /\ (∀b,e8 a=.ref b->∃ob,s.heap.get? b=some ob/\ob.dict=none)/\(a==sysModules)=false:=by
 rcases d with ⟨aI,e⟩ | ⟨aI,e⟩
 .obtain ⟨_,hd,vs,_,dd⟩:=LQ I.cF e
  refine ⟨dd.typeIs,λb q=>?_,hd⟩
  cases q
  obtain ⟨ob,_,_,h1,h2,_⟩:=dd
  exact ⟨ob,h1,h2.2.1⟩
 .obtain ⟨_,hd,xs,_,dd⟩:=LR I.cF e
  refine ⟨dd.typeIs,λb q=>?_,hd⟩
  cases q
  obtain ⟨ob,_,_,h1,h2,_⟩:=dd
  exact ⟨ob,h1,h2.2.1⟩
section
variable {X:Cx}{pins:List (Addr×Obj)}{σ:St}{H:Hp}{s:Shared}{a:Addr}{y d:V}{u r:Value}{o:Option V}{A:Around}{E:Value->Shared->Prop}
end
section
variable {X:Cx}{o e f:Expr}{apos aB:Pos}{td ty tx:TE}
end
section
variable {X:Cx}{pins:List (Addr×Obj)}{σ:St}{H:Hp}{s:Shared}{a:Addr}{aI:List (Key×V)}{A:Around}{E:Value->Shared->Prop}
end
section
variable {X:Cx}{pins:List (Addr×Obj)}{σ:St}{H:Hp}{s:Shared}{a:Addr}{y:V}{u:Value}{A:Around}{E:Value->Shared->Prop}
end
end L2
namespace DL
open PySem PySem.Spec PyProof.Rows L2
section
variable {prog:Program}{w:World}{A:Around}{E:Value->Shared->Prop}{s:Shared}
theorem b5c{ws:List Value}(ht:IsTup s.heap t #[])(hb:IsTup s.heap b ws.toArray)(h1:Q (.ref b) s):wpAny (model prog w) A (binaryOp .Add (.ref t) (.ref b)) Q E s:=by
 obtain ⟨⟨cls,dd,data,sl⟩,ho,hc,n,hd⟩:=id ht
 obtain ⟨⟨Wy,Rh,data2,Ng⟩,JO,GX,n2,hd2⟩:=id hb
 simp only at hc hd GX hd2
 subst hc hd GX hd2
 exact concat_meets ⟨_,ho,rfl⟩ ⟨_,JO,rfl⟩ W9 WC Xd Xh (Xk _ _)
   (tuple_addW0 t b #[] ws.toArray n n2 dd Rh sl Ng rfl) ⟨ho,JO,h1⟩
end
section
variable {X:Cx}
noncomputable def Nz(K:aX):R2:=λx y H Q=>∃a b ys,x=.ref a/\y=.ref b/\oj K H a []/\oj K H b ys/\Q (.ref b) H
theorem b7j:wI X (binaryOp .Add) (Nz X.K):=by
 intro pins s σ H x y v u Q I rx ry h
 obtain ⟨a,b,ys,rfl,rfl,ha,hb,q1⟩:=h
 cases rx
 cases ry
 obtain ⟨aJ,r1,p1,_⟩:=I.tuple ha
 obtain ⟨g8,r2,p2,_⟩:=I.tuple hb
 cases r1
 exact b5c p1 p2 ⟨.ref b,H,I,rfl,q1⟩
end
end DL
namespace DL
open PySem PySem.Spec PyProof.Rows L2
inductive D where
 | cT | bl (b:Bool) | int (i:Int) | str (x:Str) | tup (ds:List D) | lst (ro:Bool) (ds:List D) | exc (n:Str) | rf (fz:Bool) (aI:List (Int×Int))
 | obj (c:Str) (ns:List Str) (ds:List D) | lX (ks:List Str) (ds:List D) | dI (ks:List Str) (ds:List D)
 deriving Inhabited
inductive Sl where
 | no | sh (d:D) | ow (ds:List D) | dw (aI:List (Int×Int)) | tw (ks:List Str) (ds:List D)
 deriving Inhabited
noncomputable abbrev En:=List Sl
noncomputable def Sl.d:Sl->D
 | .no=>.cT
 | .sh d=>d
 | .ow ds=>.lst false ds
 | .dw aI=>.rf false aI
 | .tw ks ds=>.lX ks ds
def Wx(p C:Addr)(h:Heap):Prop:=∃o,h.get? p=some o/\o.cls=.ref C
noncomputable abbrev wD(ks:List Str)(vs:List V):HO:=.dK ((ks.zip vs).map λq=>(.inr q.1,q.2))
mutual
inductive Is (K:aX) (O:Addr->Prop) (H:Hp):V->D->Prop
 | cT:Is K O H .cT .cT
 | bl (b:Bool):Is K O H (.bl b) (.bl b)
 | int (i:Int):Is K O H (.int i) (.int i)
 | str (x:Str):Is K O H (.str x) (.str x)
 | tup {p:Addr} {xs:List V} {ds:List D} (ho:¬O p) (hp:Rd H p (.tup xs)) (hs:bp K O H xs ds):Is K O H (.ref p) (.tup ds)
 | xF {p:Addr} {xs:List V} {ds:List D} (hp:oj K (λ_=>none) p xs) (hs:bp K O H xs ds):Is K O H (.ref p) (.tup ds)
 | lst {p:Addr} {xs:List V} {ds:List D} (ho:¬O p) (hp:H p=some (.lst xs)) (hs:bp K O H xs ds):Is K O H (.ref p) (.lst false ds)
 | zV {p:Addr} {xs:List V} {ds:List D} (ho:¬O p) (hp:Rd H p (.lst xs)) (hs:bp K O H xs ds):Is K O H (.ref p) (.lst true ds)
 | zY {p:Addr} {xs:List V} {ds:List D} (hp:lM K (λ_=>none) p xs) (hs:bp K O H xs ds):Is K O H (.ref p) (.lst true ds)
 | exc {p C:Addr} {n:Str} (ho:¬O p) (hn:lK K mainGlobals n=some (some (.ref C))) (hp:H p=some (.ext (Wx p C))):Is K O H (.ref p) (.exc n)
 | rf {p:Addr} {aI:List (Int×Int)} (ho:¬O p) (hp:H p=some (.dK (aI.map λq=>(.inl q.1,.int q.2)))):Is K O H (.ref p) (.rf false aI)
 | C8 {p:Addr} {aI:List (Int×Int)} {o:Obj} (ho:¬O p) (hp:H p=some (.nQ o (.dK (aI.map λq=>(.inl q.1,.int q.2))))):Is K O H (.ref p) (.rf true aI)
 | obj {p C dx:Addr} {c:Str} {ns:List Str} {vs:List V} {ds:List D} (ho:¬O p) (hn:lK K mainGlobals c=some (some (.ref C))) (hp:H p=some (.ins C dx (ns.zip vs))) (hl:ns.length=vs.length) (hs:bp K O H vs ds):Is K O H (.ref p) (.obj c ns ds)
 | lX {p:Addr} {ks:List Str} {vs:List V} {ds:List D} (ho:¬O p) (hp:H p=some (wD ks vs)) (hl:ks.length=vs.length) (hs:bp K O H vs ds):Is K O H (.ref p) (.lX ks ds)
 | dI {p:Addr} {ks:List Str} {vs:List V} {ds:List D} {o:Obj} (ho:¬O p) (hp:H p=some (.nQ o (wD ks vs))) (hl:ks.length=vs.length) (hs:bp K O H vs ds):Is K O H (.ref p) (.dI ks ds)
inductive bp (K:aX) (O:Addr->Prop) (H:Hp):List V->List D->Prop
 | nil:bp K O H [] []
 | cons {x:V} {d:D} {xs:List V} {ds:List D} (h:Is K O H x d) (t:bp K O H xs ds):bp K O H (x::xs) (d::ds)
end
theorem b5U{O:Addr->Prop}{H H':Hp}(hH:∀q u,H q=some u->¬O q->H' q=some u){p:Addr}{u:HO}(ho:¬O p)(h:Rd H p u):Rd H' p u:=by
 rcases h with h | ⟨o,h⟩
 .exact .inl (hH p u h ho)
 .exact .inr ⟨o,hH p _ h ho⟩
theorem b2k(h:Rd H p u):H p≠none:=by
 rcases h with h | ⟨o,h⟩<;>rw [h]<;>exact λz=>nomatch z
theorem Qh{K:aX}{H:Hp}{p:Addr}{xs:List V}(h:lM K (λ_=>none) p xs):lM K H p xs:=by
 rcases h with (h | ⟨o,h⟩) | h
 .cases h
 .cases h
 .exact .inr h
theorem Qi{K:aX}{H:Hp}{p:Addr}{xs:List V}(h:oj K (λ_=>none) p xs):oj K H p xs:=by
 rcases h with (h | ⟨o,h⟩) | h
 .cases h
 .cases h
 .exact .inr h
section
variable {K:aX}{O O':Addr->Prop}{H H':Hp}
mutual
theorem Is.map(hO:∀q,H q≠none->¬O q->¬O' q)(hH:∀q u,H q=some u->¬O q->H' q=some u):∀{v:V} {d:D},Is K O H v d->Is K O' H' v d
 | _,_,.cT=>.cT
 | _,_,.bl b=>.bl b
 | _,_,.int i=>.int i
 | _,_,.str x=>.str x
 | _,_,.tup ho hp hs=>.tup (hO _ (b2k hp) ho) (b5U hH ho hp) (bp.map hO hH hs)
 | _,_,.xF hp hs=>.xF hp (bp.map hO hH hs)
 | _,_,.lst ho hp hs=>.lst (hO _ (by rw [hp];exact λz=>nomatch z) ho) (hH _ _ hp ho) (bp.map hO hH hs)
 | _,_,.zV ho hp hs=>.zV (hO _ (b2k hp) ho) (b5U hH ho hp) (bp.map hO hH hs)
 | _,_,.zY hp hs=>.zY hp (bp.map hO hH hs)
 | _,_,.exc ho hn hp=>.exc (hO _ (by rw [hp];exact λz=>nomatch z) ho) hn (hH _ _ hp ho)
 | _,_,.rf ho hp=>.rf (hO _ (by rw [hp];exact λz=>nomatch z) ho) (hH _ _ hp ho)
 | _,_,.C8 ho hp=>.C8 (hO _ (by rw [hp];exact λz=>nomatch z) ho) (hH _ _ hp ho)
 | _,_,.obj ho hn hp hl hs=>.obj (hO _ (by rw [hp];exact λz=>nomatch z) ho) hn (hH _ _ hp ho) hl (bp.map hO hH hs)
 | _,_,.lX ho hp hl hs=>.lX (hO _ (by rw [hp];exact λz=>nomatch z) ho) (hH _ _ hp ho) hl (bp.map hO hH hs)
 | _,_,.dI ho hp hl hs=>.dI (hO _ (by rw [hp];exact λz=>nomatch z) ho) (hH _ _ hp ho) hl (bp.map hO hH hs)
theorem bp.map(hO:∀q,H q≠none->¬O q->¬O' q)(hH:∀q u,H q=some u->¬O q->H' q=some u):∀{v:List V} {d:List D},bp K O H v d->bp K O' H' v d
 | _,_,.nil=>.nil
 | _,_,.cons h t=>.cons (Is.map hO hH h) (bp.map hO hH t)
end
theorem Is.grow(s:aO H H')(h:Is K O H v d):Is K O H' v d:=h.map (λ_ _ z=>z) λq u e _=>s q u e
theorem bp.grow(s:aO H H')(h:bp K O H v d):bp K O H' v d:=h.map (λ_ _ z=>z) λq u e _=>s q u e
theorem Is.less(hO:∀q,O' q->O q)(h:Is K O H v d):Is K O' H v d:=h.map (λ_ _ z w=>z (hO _ w)) λ_ _ e _=>e
theorem bp.less(hO:∀q,O' q->O q)(h:bp K O H v d):bp K O' H v d:=h.map (λ_ _ z w=>z (hO _ w)) λ_ _ e _=>e
theorem bp.length:∀{v:List V} {d:List D},bp K O H v d->v.length=d.length
 | _,_,.nil=>rfl
 | _,_,.cons _ t=>by rw [lI,lI,bp.length t]
theorem bp.append:∀{v w:List V} {d e:List D},bp K O H v d->bp K O H w e->bp K O H (v++w) (d++e)
 | _,_,_,_,.nil,s=>s
 | _,_,_,_,.cons h t,s=>.cons h (bp.append t s)
theorem bp.get:∀{v:List V} {ds:List D} {i:Nat} {d:D},bp K O H v ds->ds[i]?=some d->∃x,v[i]?=some x/\Is K O H x d
 | _,_,_,_,.nil,e=>by simp at e
 | _,_,0,_,.cons h _,e=>by simp at e;subst e;exact ⟨_,rfl,h⟩
 | _,_,i+1,d,.cons _ t,e=>by
  obtain ⟨u,h1,h2⟩:=bp.get (i:=i) (d:=d) t (by simpa using e)
  exact ⟨u,by simpa using h1,h2⟩
theorem bp.JS:∀{v:List V} {ds:List D} {i:Nat} {x:V},bp K O H v ds->v[i]?=some x->∃d,ds[i]?=some d/\Is K O H x d
 | _,_,_,_,.nil,e=>by simp at e
 | _,_,0,_,.cons h _,e=>by simp at e;subst e;exact ⟨_,rfl,h⟩
 | _,_,i+1,d,.cons _ t,e=>by
  obtain ⟨u,h1,h2⟩:=bp.JS (i:=i) (x:=d) t (by simpa using e)
  exact ⟨u,by simpa using h1,h2⟩
theorem bp.take:∀{v:List V} {d:List D} (n:Nat),bp K O H v d->bp K O H (v.take n) (d.take n)
 | _,_,0,_=>.nil
 | _,_,_+1,.nil=>.nil
 | _,_,n+1,.cons h t=>.cons h (bp.take n t)
theorem bp.drop:∀{v:List V} {d:List D} (n:Nat),bp K O H v d->bp K O H (v.drop n) (d.drop n)
 | _,_,0,h=>h
 | _,_,_+1,.nil=>.nil
 | _,_,n+1,.cons _ t=>bp.drop n t
theorem bp.set(h:Is K O H x d):∀{v:List V} {ds:List D} (n:Nat),bp K O H v ds->bp K O H (v.set n x) (ds.set n d)
 | _,_,_,.nil=>.nil
 | _,_,0,.cons _ t=>.cons h t
 | _,_,n+1,.cons h' t=>.cons h' (bp.set h n t)
theorem bp.f'(h:bp K O H v ds)(e:L2.f' ds i=some d):∃x,L2.f' v i=some x/\Is K O H x d:=by
 unfold L2.f' at e ⊢
 rw [h.length]
 cases q:xM ds.length i with
 | none=>rw [q] at e;cases e
 | some j =>
  rw [q] at e
  exact h.get e
theorem bp.dropLast(h:bp K O H v d):bp K O H v.dropLast d.dropLast:=by
 rw [c54,c54,h.length]
 exact h.take _
theorem bp.ints:∀(ns:List Int),bp K O H (ns.map V.int) (ns.map D.int)
 | []=>.nil
 | n::r=>.cons (.int n) (bp.ints r)
def Sq(K:aX)(H:Hp)(k:Bool)(p:Addr)(xs:List V):Prop:=if k=true then lM K H p xs else oj K H p xs
noncomputable def l5:D->Option (Bool×List D)
 | .tup ds=>some (false,ds)
 | .lst _ ds=>some (true,ds)
 | _=>none
theorem Is.seq(h:Is K O H v d)(e:l5 d=some (k,ds)):∃p xs,v=.ref p/\Sq K H k p xs/\bp K O H xs ds:=by
 cases h with
 | tup ho hp hs=>cases e;exact ⟨_,_,rfl,.inl hp,hs⟩
 | xF hp hs=>cases e;exact ⟨_,_,rfl,Qi hp,hs⟩
 | lst ho hp hs=>cases e;exact ⟨_,_,rfl,.inl (.inl hp),hs⟩
 | zV ho hp hs=>cases e;exact ⟨_,_,rfl,.inl hp,hs⟩
 | zY hp hs=>cases e;exact ⟨_,_,rfl,Qh hp,hs⟩
 | _=>cases e
end
theorem Sq.grow{K:aX}{H H':Hp}{k:Bool}{p:Addr}{xs:List V}(s:aO H H')(h:Sq K H k p xs):Sq K H' k p xs:=by
 cases k with
 | true =>
  rcases h with (h | ⟨o,h⟩) | h
  .exact .inl (.inl (s _ _ h))
  .exact .inl (.inr ⟨o,s _ _ h⟩)
  .exact .inr h
 | false =>
  rcases h with (h | ⟨o,h⟩) | h
  .exact .inl (.inl (s _ _ h))
  .exact .inl (.inr ⟨o,s _ _ h⟩)
  .exact .inr h
noncomputable def Sl.own:Sl->Prop
 | .ow _=>True
 | .dw _=>True
 | .tw _ _=>True
 | _=>False
noncomputable abbrev Wt(aI:List (Int×Int)):HO:=.dK (aI.map λq=>(.inl q.1,.int q.2))
def zP(σ:L2.St)(env:En)(p:Addr):Prop:=∃(i:Nat) (s:Sl),env[i]?=some s/\s.own/\σ[i]?=some (some (V.ref p))
abbrev OO(O:Addr->Prop)(σ:L2.St)(env:En)(q:Addr):Prop:=O q\/zP σ env q
theorem _root_.L2.Tb.grow{K:aX}{H H':Hp}(s:aO H H')(h:Tb K H):Tb K H':=λc P e=>s _ _ (h c P e)
def IP(K:aX)(O:Addr->Prop)(H:Hp):Prop:=(∀q,O q->H q≠none)/\Tb K H
theorem IP.grow{K:aX}{O:Addr->Prop}{H H':Hp}(s:aO H H')(h:IP K O H):IP K O H':=⟨λq hq hn=>h.1 q hq (s.free hn),h.2.grow s⟩
structure Rel(K:aX)(O:Addr->Prop)(B:Hp)(σ:L2.St)(H:Hp)(env:En):Prop where
 same:aO B H
 AF:IP K O B
 len:σ.length=env.length
 sh:∀(i:Nat) (d:D),env[i]?=some (Sl.sh d)->∃v,σ[i]?=some (some v)/\Is K (OO O σ env) H v d
 ow:∀(i:Nat) (ds:List D),env[i]?=some (Sl.ow ds)->∃p xs,σ[i]?=some (some (V.ref p))/\B p=none/\H p=some (.lst xs)/\bp K (OO O σ env) H xs ds
 dw:∀(i:Nat) (aI:List (Int×Int)),env[i]?=some (Sl.dw aI)->∃p,σ[i]?=some (some (V.ref p))/\B p=none/\H p=some (Wt aI)
 tw:∀(i:Nat) (ks:List Str) (ds:List D),env[i]?=some (Sl.tw ks ds)->∃p vs,σ[i]?=some (some (V.ref p))/\B p=none/\H p=some (wD ks vs)/\ks.length=vs.length/\bp K (OO O σ env) H vs ds
 sep:∀(i j:Nat) (ds es:Sl) (p:Addr),env[i]?=some ds->env[j]?=some es->σ[i]?=some (some (V.ref p))->σ[j]?=some (some (V.ref p))->ds.own->es.own->i=j
noncomputable def Res(K:aX)(O:Addr->Prop)(B H:Hp)(v:V):Sl->Prop
 | .no=>False
 | .sh d=>Is K O H v d
 | .ow ds=>∃p xs,v=.ref p/\B p=none/\H p=some (.lst xs)/\bp K (λq=>O q\/q=p) H xs ds
 | .dw aI=>∃p,v=.ref p/\B p=none/\H p=some (Wt aI)
 | .tw ks ds=>∃p vs,v=.ref p/\B p=none/\H p=some (wD ks vs)/\ks.length=vs.length/\bp K (λq=>O q\/q=p) H vs ds
section
variable {K:aX}{O:Addr->Prop}{B H H' H1:Hp}{σ:L2.St}{env:En}{v:V}{r:Sl}
theorem Rel.ad(R:Rel K O B σ H env){i:Nat}{s:Sl}(h:env[i]?=some s)(ho:s.own):∃p u,σ[i]?=some (some (V.ref p))/\B p=none/\H p=some u:=by
 cases s with
 | ow ds=>obtain ⟨p,xs,e1,e2,e3,_⟩:=R.ow i ds h;exact ⟨p,_,e1,e2,e3⟩
 | dw aI=>obtain ⟨p,e1,e2,e3⟩:=R.dw i aI h;exact ⟨p,_,e1,e2,e3⟩
 | tw ks ds=>obtain ⟨p,vs,e1,e2,e3,_⟩:=R.tw i ks ds h;exact ⟨p,_,e1,e2,e3⟩
 | no=>exact ho.elim
 | sh d=>exact ho.elim
theorem Rel.oo(R:Rel K O B σ H env)(h:OO O σ env q):H q≠none:=by
 rcases h with h | ⟨i,s,h1,ho,h2⟩
 .intro z
  exact R.AF.1 q h (R.same.free z)
 .obtain ⟨p,u,e1,_,e3⟩:=R.ad h1 ho
  rw [h2] at e1
  cases e1
  rw [e3];exact λz=>nomatch z
theorem Rel.dm(R:Rel K O B σ H env):IP K (OO O σ env) H:=⟨λ_=>R.oo,R.AF.2.grow R.same⟩
theorem Rel.grow(R:Rel K O B σ H env)(s:aO H H'):Rel K O B σ H' env where
 same:=R.same.trans s
 AF:=R.AF
 len:=R.len
 sh:=λi d e=>let ⟨v,e1,h⟩:=R.sh i d e;⟨v,e1,h.grow s⟩
 ow:=λi ds e=>let ⟨p,xs,e1,e2,e3,h⟩:=R.ow i ds e;⟨p,xs,e1,e2,s _ _ e3,h.grow s⟩
 dw:=λi aI e=>let ⟨p,e1,e2,e3⟩:=R.dw i aI e;⟨p,e1,e2,s _ _ e3⟩
 tw:=λi ks ds e=>let ⟨p,vs,e1,e2,e3,e4,h⟩:=R.tw i ks ds e;⟨p,vs,e1,e2,s _ _ e3,e4,h.grow s⟩
 sep:=R.sep
theorem Res.grow(s:aO H H')(h:Res K O B H v r):Res K O B H' v r:=by
 cases r with
 | no=>exact h
 | sh d=>exact Is.grow s h
 | ow ds=>obtain ⟨p,xs,e1,e2,e3,h⟩:=h;exact ⟨p,xs,e1,e2,s _ _ e3,h.grow s⟩
 | dw aI=>obtain ⟨p,e1,e2,e3⟩:=h;exact ⟨p,e1,e2,s _ _ e3⟩
 | tw ks ds=>obtain ⟨p,vs,e1,e2,e3,e4,h⟩:=h;exact ⟨p,vs,e1,e2,s _ _ e3,e4,h.grow s⟩
theorem Res.from(s:aO H1 B)(h:Res K O B H v r):Res K O H1 H v r:=by
 cases r with
 | no=>exact h
 | sh d=>exact h
 | ow ds=>obtain ⟨p,xs,e1,e2,e3,h⟩:=h;exact ⟨p,xs,e1,s.free e2,e3,h⟩
 | dw aI=>obtain ⟨p,e1,e2,e3⟩:=h;exact ⟨p,e1,s.free e2,e3⟩
 | tw ks ds=>obtain ⟨p,vs,e1,e2,e3,e4,h⟩:=h;exact ⟨p,vs,e1,s.free e2,e3,e4,h⟩
theorem Res.less(hO:∀q,O' q->O q)(h:Res K O B H v r):Res K O' B H v r:=by
 cases r with
 | no=>exact h
 | sh d=>exact Is.less hO h
 | ow ds=>obtain ⟨p,xs,e1,e2,e3,h⟩:=h;exact ⟨p,xs,e1,e2,e3,h.less λq z=>z.elim (λw=>.inl (hO _ w)) .inr⟩
 | dw aI=>exact h
 | tw ks ds=>obtain ⟨p,vs,e1,e2,e3,e4,h⟩:=h;exact ⟨p,vs,e1,e2,e3,e4,h.less λq z=>z.elim (λw=>.inl (hO _ w)) .inr⟩
theorem Res.is(hd:∀q,O q->B q≠none)(h:Res K O B H v r):Is K O H v r.d:=by
 cases r with
 | no=>exact h.elim
 | sh d=>exact h
 | ow ds =>
  obtain ⟨p,xs,rfl,e2,e3,h⟩:=h
  exact .lst (λz=>hd p z e2) e3 (h.less λ_=>.inl)
 | dw aI =>
  obtain ⟨p,rfl,e2,e3⟩:=h
  exact .rf (λz=>hd p z e2) e3
 | tw ks ds =>
  obtain ⟨p,vs,rfl,e2,e3,e4,h⟩:=h
  exact .lX (λz=>hd p z e2) e3 e4 (h.less λ_=>.inl)
end
def EV(X:Cx)(e:Expr)(f:En->Option Sl):Prop:=
 ∃t:TE,PE X e t/\∀(O:Addr->Prop) (B:Hp) (σ:L2.St) (H:Hp) (env:En) (r:Sl) (Q:VK),Rel X.K O B σ H env->f env=some r ->
  (∀v H',aO H H'->Res X.K (OO O σ env) H H' v r->Q v H')->t σ H Q
def BV(X:Cx)(e:Expr)(f:En->Option (Bool×List D)):Prop:=
 ∃t:TE,PE X e t/\∀(O:Addr->Prop) (B:Hp) (σ:L2.St) (H:Hp) (env:En) (k:Bool) (ds:List D) (Q:VK),Rel X.K O B σ H env->f env=some (k,ds) ->
  (∀p xs H',aO H H'->Sq X.K H' k p xs->bp X.K (OO O σ env) H' xs ds->Q (.ref p) H')->t σ H Q
def AV(X:Cx)(es:List Expr)(f:En->Option (List D)):Prop:=
 ∃t:TA,PA X es t/\∀(O:Addr->Prop) (B:Hp) (σ:L2.St) (H:Hp) (env:En) (ds:List D) (Q:List V->Hp->Prop),Rel X.K O B σ H env->f env=some ds ->
  (∀vs H',aO H H'->bp X.K (OO O σ env) H' vs ds->Q vs H')->t σ H Q
def TV(X:Cx)(e:Expr)(f:En->Option Bool):Prop:=
 ∃t:TT,PT X e t/\∀(O:Addr->Prop) (B:Hp) (σ:L2.St) (H:Hp) (env:En) (b:Bool) (Q:Bool->Hp->Prop),Rel X.K O B σ H env->f env=some b ->
  (∀H',aO H H'->Q b H')->t σ H Q
def WV(X:Cx)(e:Expr)(f:En->Option Bool):Prop:=
 ∃t:TT,PW X e t/\∀(O:Addr->Prop) (B:Hp) (σ:L2.St) (H:Hp) (env:En) (b:Bool) (Q:Bool->Hp->Prop),Rel X.K O B σ H env->f env=some b ->
  (∀H',aO H H'->Q b H')->t σ H Q
inductive Fl where
 | nx | bk | ct | rt (r:Sl)
def Gd(σ:L2.St)(env:En)(H:Hp)(bB:L2.St)(ao:En)(H':Hp):Prop:=∀q u,H q=some u->¬zP σ env q->H' q=some u/\¬zP bB ao q
theorem Gd.trans(a:Gd σ env H yH df H1)(b:Gd yH df H1 fJ dt H2):Gd σ env H fJ dt H2:=λq u e n =>
 let ⟨e1,n1⟩:=a q u e n
 b q u e1 n1
theorem Gd.from(s:aO H H1)(b:Gd σ env H1 bB ao H'):Gd σ env H bB ao H':=λq u e n=>b q u (s _ _ e) n
theorem Gd.refl(s:aO H H'):Gd σ env H σ env H':=λq u e n=>⟨s _ _ e,n⟩
noncomputable def jP(K:aX)(O:Addr->Prop)(B:Hp)(σ:L2.St)(H:Hp)(env:En)(D:Ends):Fl->En->Prop
 | .nx,ao=>∀bB H',Rel K O B bB H' ao->Gd σ env H bB ao H'->D.nx bB H'
 | .bk,ao=>∀bB H',Rel K O B bB H' ao->Gd σ env H bB ao H'->D.bk bB H'
 | .ct,ao=>∀bB H',Rel K O B bB H' ao->Gd σ env H bB ao H'->D.ct bB H'
 | .rt r,_=>∀v H',aO B H'->Res K O B H' v r->D.rt v H'
theorem jP.from{K:aX}{O:Addr->Prop}{B:Hp}{σ yH:L2.St}{H H1:Hp}{env df:En}{D:Ends}{fl:Fl}{ao:En}(g:Gd σ env H yH df H1)(h:jP K O B σ H env D fl ao):jP K O B yH H1 df D fl ao:=by
 cases fl with
 | nx=>exact λbB H' R g'=>h bB H' R (g.trans g')
 | bk=>exact λbB H' R g'=>h bB H' R (g.trans g')
 | ct=>exact λbB H' R g'=>h bB H' R (g.trans g')
 | rt r=>exact h
noncomputable abbrev SF:=En->Option (Fl×En)
def SV(X:Cx)(st:Stmt)(F:SF):Prop:=
 ∃t:TS,PS X st t/\∀(O:Addr->Prop) (B:Hp) (σ:L2.St) (H:Hp) (env:En) (fl:Fl) (ao:En) (D:Ends),Rel X.K O B σ H env->F env=some (fl,ao)->jP X.K O B σ H env D fl ao->t D σ H
def Ap(X:Cx)(st:List Stmt)(F:SF):Prop:=
 ∃t:TS,Bm X st t/\∀(O:Addr->Prop) (B:Hp) (σ:L2.St) (H:Hp) (env:En) (fl:Fl) (ao:En) (D:Ends),Rel X.K O B σ H env->F env=some (fl,ao)->jP X.K O B σ H env D fl ao->t D σ H
section
variable {X:Cx}{a b c:Expr}{pos:Pos}{fa fb fc:En->Option Sl}
noncomputable def eC(d:D):En->Option Sl:=λ_=>some (.sh d)
theorem bg{i j pos}:EV X (.Constant (.int i) j pos) (eC (.int i)):=⟨_,b9S,λ_ _ _ _ _ _ _ _ e k=>by
 obtain rfl:=lH e
 exact k _ _ (aO.refl _) (Is.int i)⟩
theorem c0I{i j pos}:EV X (.Constant (.bool i) j pos) (eC (.bl i)):=⟨_,NI,λ_ _ _ _ _ _ _ _ e k=>by
 obtain rfl:=lH e
 exact k _ _ (aO.refl _) (Is.bl i)⟩
theorem cu{x j pos}:EV X (.Constant (.str x) j pos) (eC (.str x)):=⟨_,b9N,λ_ _ _ _ _ _ _ _ e k=>by
 obtain rfl:=lH e
 exact k _ _ (aO.refl _) (Is.str x)⟩
noncomputable def QS:Option Sl->Option Sl
 | some (.sh d)=>some (.sh d)
 | _=>none
theorem b4b(h:QS o=some r):∃d,o=some (Sl.sh d)/\r=.sh d:=by
 cases o with
 | none=>cases h
 | some s=>cases s with
  | sh d=>cases h;exact ⟨d,rfl,rfl⟩
  | no=>cases h
  | ow ds=>cases h
  | dw ds=>cases h
  | tw _ _=>cases h
noncomputable def eV(i:Nat):En->Option Sl:=λenv=>QS env[i]?
theorem b6n(i:Nat)(hN:X.N[i]?=some x:=by rfl)(hv:l4 X.env.scope x:=by first | exact dY rfl | exact cO (dY rfl) | exact cO (cO rfl))(hd:(x==("__debug__":Str))=false:=by decide)
  (de:(x==("__classdict__":Str))=false:=by decide):EV X (.Name x pos) (eV i):=⟨_,Bi hN hv hd de,λO B σ H env r Q R e k=>by
 obtain ⟨d,e1,rfl⟩:=b4b e
 obtain ⟨v,e2,h⟩:=R.sh i d e1
 exact ⟨v,e2,k v H (aO.refl _) h⟩⟩
noncomputable def Jd:Option Sl->Option (Bool×List D)
 | some (.sh d)=>l5 d
 | some (.ow ds)=>some (true,ds)
 | _=>none
noncomputable def bV(i:Nat):En->Option (Bool×List D):=λenv=>Jd env[i]?
theorem c0Y(i:Nat)(hN:X.N[i]?=some x:=by rfl)(hv:l4 X.env.scope x:=by first | exact dY rfl | exact cO (dY rfl) | exact cO (cO rfl))(hd:(x==("__debug__":Str))=false:=by decide)
  (de:(x==("__classdict__":Str))=false:=by decide):BV X (.Name x pos) (bV i):=⟨_,Bi hN hv hd de,λO B σ H env k ds Q R e q=>by
 unfold bV at e
 cases h:env[i]? with
 | none=>rw [h] at e;cases e
 | some s =>
  rw [h] at e
  cases s with
  | no=>cases e
  | sh d =>
   obtain ⟨v,e2,hv⟩:=R.sh i d h
   obtain ⟨p,xs,rfl,h1,h2⟩:=hv.seq (show l5 d=some (k,ds) from e)
   exact ⟨_,e2,q p xs H (aO.refl _) h1 h2⟩
  | dw es=>cases e
  | tw _ _=>cases e
  | ow es =>
   obtain ⟨rfl,rfl⟩:true=k/\es=ds:=Prod.mk.inj (lH e)
   obtain ⟨p,xs,e2,_,e3,h2⟩:=R.ow i es h
   exact ⟨_,e2,q p xs H (aO.refl _) (.inl (.inl e3)) h2⟩⟩
noncomputable def t4(f:En->Option Sl):En->Option (Bool×List D):=λenv=>(f env).bind λr=>l5 r.d
theorem bind_some{α β:Type}{o:Option α}{f:α->Option β}{b:β}(h:o.bind f=some b):∃a,o=some a/\f a=some b:=by
 cases o with
 | none=>cases h
 | some a=>exact ⟨a,rfl,h⟩
theorem BZ(h:EV X a fa):BV X a (t4 fa):=by
 obtain ⟨t,ht,p⟩:=h
 refine ⟨t,ht,λO B σ H env k ds Q R e q=>?_⟩
 obtain ⟨r,e1,e2⟩:=bind_some e
 refine p O B σ H env r _ R e1 λv H' s h=>?_
 obtain ⟨p,xs,rfl,h1,h2⟩:=(h.is (λz=>R.oo)).seq e2
 exact q p xs H' s h1 h2
def zQ(X:Cx)(f:Value->Value->Sem Value)(g:D->D->Option Sl):Prop:=
 ∃r:R2,wI X f r/\∀(O:Addr->Prop) (H:Hp) (x y:V) (a b:D) (s:Sl) (Q:VK),(∀q,O q->H q≠none)->Is X.K O H x a->Is X.K O H y b->g a b=some s ->
  (∀v H',aO H H'->Res X.K O H H' v s->Q v H')->r x y H Q
noncomputable def af(g:D->D->Option Sl)(fa fb:En->Option Sl):En->Option Sl:=λenv=>(fa env).bind λx=>(fb env).bind λy=>g x.d y.d
theorem Yp(hg:∀(O:Addr->Prop) (H:Hp) (x y:V) (a b:D) (s:Sl) (Q:VK),(∀q,O q->H q≠none)->Is X.K O H x a->Is X.K O H y b->g a b=some s->(∀v H',aO H H'->Res X.K O H H' v s->Q v H')->r x y H Q)(pa:∀(O:Addr->Prop) (B:Hp) (σ:L2.St) (H:Hp) (env:En) (r:Sl) (Q:VK),Rel X.K O B σ H env->fa env=some r->(∀v H',aO H H'->Res X.K (OO O σ env) H H' v r->Q v H')->ta σ H Q)
  (pb:∀(O:Addr->Prop) (B:Hp) (σ:L2.St) (H:Hp) (env:En) (r:Sl) (Q:VK),Rel X.K O B σ H env->fb env=some r->(∀v H',aO H H'->Res X.K (OO O σ env) H H' v r->Q v H')->tb σ H Q)
  (O:Addr->Prop)(B:Hp)(σ:L2.St)(H:Hp)(env:En)(s:Sl)(Q:VK)(R:Rel X.K O B σ H env)(e:af g fa fb env=some s)
  (k:∀v H',aO H H'->Res X.K (OO O σ env) H H' v s->Q v H'):M3 r ta tb σ H Q:=by
 obtain ⟨x,e1,e⟩:=bind_some e
 obtain ⟨y,e2,e⟩:=bind_some e
 refine pa O B σ H env x _ R e1 λv H1 s1 h1=>?_
 refine pb O B σ H1 env y _ (R.grow s1) e2 λu H2 s2 h2=>?_
 have R2:=(R.grow s1).grow s2
 refine hg (OO O σ env) H2 v u x.d y.d s Q (λq=>R2.oo) ((h1.is λq=>R.oo).grow s2) (h2.is λq=>(R.grow s1).oo) e λw H3 s3 h3=>?_
 exact k w H3 ((s1.trans s2).trans s3) (h3.from (s1.trans s2))
theorem cf(ho:zQ X (binaryOp op) g)(ha:EV X a fa)(hb:EV X b fb):EV X (.BinOp a op b pos) (af g fa fb):=by
 obtain ⟨r,hr,hg⟩:=ho
 obtain ⟨ta,pa,ka⟩:=ha
 obtain ⟨tb,pb,kb⟩:=hb
 exact ⟨_,NH hr pa pb,Yp hg ka kb⟩
theorem SI(ho:zQ X (compareOp op) g)(ha:EV X a fa)(hb:EV X b fb)(hm:behindInMarks op b=false:=by exact b56 _):EV X (.Compare a [op] [b] pos) (af g fa fb):=by
 obtain ⟨r,hr,hg⟩:=ho
 obtain ⟨ta,pa,ka⟩:=ha
 obtain ⟨tb,pb,kb⟩:=hb
 exact ⟨_,b7d hr pa pb hm,Yp hg ka kb⟩
noncomputable def zL:Option Sl->Option Bool
 | some (.sh (.bl b))=>some b
 | _=>none
theorem KC{b:Bool}(h:zL o=some b):o=some (Sl.sh (.bl b)):=by
 cases o with
 | none=>cases h
 | some s=>cases s with
  | no=>cases h
  | ow ds=>cases h
  | dw ds=>cases h
  | tw _ _=>cases h
  | sh d=>cases d<;>cases h;rfl
noncomputable def eF(f:En->Option Sl):En->Option Bool:=λenv=>zL (f env)
theorem Iq{K:aX}{O:Addr->Prop}{H:Hp}{v:V}{b:Bool}(h:Is K O H v (.bl b)):v=.bl b:=by cases h;rfl
theorem Ao{K:aX}{O:Addr->Prop}{H:Hp}{v:V}{b:Int}(h:Is K O H v (.int b)):v=.int b:=by cases h;rfl
theorem c0u{K:aX}{O:Addr->Prop}{H:Hp}{v:V}(h:Is K O H v .cT):v=.cT:=by cases h;rfl
theorem AR{K:aX}{O:Addr->Prop}{H:Hp}{v:V}{b:Str}(h:Is K O H v (.str b)):v=.str b:=by cases h;rfl
theorem jv(ho:zQ X (compareOp op) g)(ha:EV X a fa)(hb:EV X b fb)(hm:behindInMarks op b=false:=by exact b56 _):TV X (.Compare a [op] [b] pos) (eF (af g fa fb)):=by
 obtain ⟨r,hr,hg⟩:=ho
 obtain ⟨ta,pa,ka⟩:=ha
 obtain ⟨tb,pb,kb⟩:=hb
 refine ⟨_,b62 hr pa pb hm,λO B σ H env k Q R e q=>?_⟩
 exact Yp hg ka kb O B σ H env _ _ R (KC e) λv H' s h=>⟨k,Iq h,q H' s⟩
noncomputable def zT:D->Option Bool
 | .cT=>some false
 | .bl b=>some b
 | .int i=>some (i != 0)
 | .str y=>if y.length<=16777216 then some ((y.length:Int) != 0) else none
 | .tup ds=>some (!ds.isEmpty)
 | .lst _ ds=>some (!ds.isEmpty)
 | .exc _=>none
 | .rf _ _=>none
 | .obj _ _ _=>none
 | .lX _ _=>none
 | .dI _ _=>none
theorem bp.isEmpty{K:aX}{O:Addr->Prop}{H:Hp}{xs:List V}{ds:List D}(h:bp K O H xs ds):xs.isEmpty=ds.isEmpty:=by cases h<;>rfl
theorem b6J{K:aX}{O:Addr->Prop}{H:Hp}{v:V}{d:D}{b:Bool}(h:Is K O H v d)(e:zT d=some b):KN K v H b:=by
 cases h with
 | cT=>cases e;rfl
 | bl b=>cases e;rfl
 | int i=>cases e;rfl
 | str x =>
  unfold zT at e
  dsimp only at e
  by_cases hl:x.length<=16777216
  .rw [if_pos hl] at e;cases e;exact ⟨by rw [yJ];exact hl,rfl⟩
  .rw [if_neg hl] at e;cases e
 | tup ho hp hs=>cases e;exact .inr (.inl ⟨_,.inl hp,by rw [hs.isEmpty]⟩)
 | xF hp hs=>cases e;exact .inr (.inl ⟨_,Qi hp,by rw [hs.isEmpty]⟩)
 | lst ho hp hs=>cases e;exact .inl ⟨_,.inl (.inl hp),by rw [hs.isEmpty]⟩
 | zV ho hp hs=>cases e;exact .inl ⟨_,.inl hp,by rw [hs.isEmpty]⟩
 | zY hp hs=>cases e;exact .inl ⟨_,Qh hp,by rw [hs.isEmpty]⟩
 | exc ho hn hp=>cases e
 | rf ho hp=>cases e
 | obj=>cases e
 | lX=>cases e
 | dI=>cases e
 | C8 ho hp=>cases e
noncomputable def I9(f:En->Option Sl):En->Option Bool:=λenv=>(f env).bind λr=>zT r.d
theorem b9l(ha:EV X a fa)(he:∀whole,isTrue a X.env whole=(do let v <-whole;standAt a.pos;holding [v] (truthy v)):=by intro _;rfl):TV X a (I9 fa):=by
 obtain ⟨ta,pa,ka⟩:=ha
 refine ⟨_,b0F pa he,λO B σ H env k Q R e q=>?_⟩
 obtain ⟨r,e1,e2⟩:=bind_some e
 exact ka O B σ H env r _ R e1 λv H' s h=>⟨k,b6J (h.is λq=>R.oo) e2,q H' s⟩
noncomputable def Ss(f:En->Option (Bool×List D)):En->Option Bool:=λenv=>(f env).bind λr=>some (!r.2.isEmpty)
theorem b6E{fa:En->Option (Bool×List D)}(ha:BV X a fa)(he:∀whole,isTrue a X.env whole=(do let v <-whole;standAt a.pos;holding [v] (truthy v)):=by intro _;rfl):TV X a (Ss fa):=by
 obtain ⟨ta,pa,ka⟩:=ha
 refine ⟨_,b0F pa he,λO B σ H env k Q R e q=>?_⟩
 obtain ⟨⟨kk,ds⟩,e1,e2⟩:=bind_some e
 cases e2
 refine ka O B σ H env kk ds _ R e1 λp xs H' s h hs=>⟨_,?_,q H' s⟩
 cases kk with
 | true=>exact .inl ⟨xs,h,by rw [hs.isEmpty]⟩
 | false=>exact .inr (.inl ⟨xs,h,by rw [hs.isEmpty]⟩)
noncomputable def Hi(f g:En->Option Bool):En->Option Bool:=λenv=>match f env with
 | some true=>g env
 | some false=>some false
 | none=>none
noncomputable def wW(f g:En->Option Bool):En->Option Bool:=λenv=>match f env with
 | some false=>g env
 | some true=>some true
 | none=>none
noncomputable def P7(f:En->Option Bool):En->Option Bool:=λenv=>(f env).map (!·)
variable {ga gb:En->Option Bool}{rest:List Expr}
theorem b1V(ha:TV X a ga):WV X (.BoolOp .And [a] pos) ga:=let ⟨t,p,k⟩:=ha;⟨t,b61 p,k⟩
theorem LY(ha:TV X a ga):WV X (.BoolOp .Or [a] pos) ga:=let ⟨t,p,k⟩:=ha;⟨t,b9D p,k⟩
theorem b5M(ha:TV X a ga)(hb:WV X (.BoolOp .And (b::rest) pos) gb):WV X (.BoolOp .And (a::b::rest) pos) (Hi ga gb):=by
 obtain ⟨t,p,k⟩:=ha
 obtain ⟨u,p',k'⟩:=hb
 refine ⟨_,b9E p p',λO B σ H env d Q R e q=>?_⟩
 unfold Hi at e
 cases h:ga env with
 | none=>rw [h] at e;cases e
 | some x =>
  rw [h] at e
  refine k O B σ H env x _ R h λH1 s1=>?_
  cases x with
  | true =>
   rw [if_pos rfl]
   exact k' O B σ H1 env d Q (R.grow s1) e λH2 s2=>q H2 (s1.trans s2)
  | false =>
   cases e
   rw [if_neg DG]
   exact q H1 s1
theorem Ko(ha:TV X a ga)(hb:WV X (.BoolOp .Or (b::rest) pos) gb):WV X (.BoolOp .Or (a::b::rest) pos) (wW ga gb):=by
 obtain ⟨t,p,k⟩:=ha
 obtain ⟨u,p',k'⟩:=hb
 refine ⟨_,pw_or p p',λO B σ H env d Q R e q=>?_⟩
 unfold wW at e
 cases h:ga env with
 | none=>rw [h] at e;cases e
 | some x =>
  rw [h] at e
  refine k O B σ H env x _ R h λH1 s1=>?_
  cases x with
  | false =>
   rw [if_neg DG]
   exact k' O B σ H1 env d Q (R.grow s1) e λH2 s2=>q H2 (s1.trans s2)
  | true =>
   cases e
   rw [if_pos rfl]
   exact q H1 s1
theorem Ar(h:WV X a ga):TV X a ga:=let ⟨t,p,k⟩:=h;⟨t,p.pt,k⟩
theorem b5O(ha:TV X a ga):TV X (.UnaryOp .Not a pos) (P7 ga):=by
 obtain ⟨t,p,k⟩:=ha
 refine ⟨_,b9G p,λO B σ H env d Q R e q=>?_⟩
 unfold P7 at e
 cases h:ga env with
 | none=>rw [h] at e;cases e
 | some x =>
  rw [h] at e
  cases e
  exact k O B σ H env x _ R h λH1 s1=>q H1 s1
noncomputable def C7(f g:En->Option Sl):En->Option Sl:=λenv=>match zL (f env) with
 | some true=>g env
 | some false=>some (.sh (.bl false))
 | none=>none
noncomputable def eOr(f g:En->Option Sl):En->Option Sl:=λenv=>match zL (f env) with
 | some false=>g env
 | some true=>some (.sh (.bl true))
 | none=>none
noncomputable def O6(f:En->Option Sl):En->Option Sl:=λenv=>(zL (f env)).map λb=>.sh (.bl !b)
theorem c0G(h:EV X a fa):EV X (.BoolOp op [a] pos) fa:=let ⟨t,p,k⟩:=h;⟨t,b9P p,k⟩
theorem c0J(ha:EV X a fa)(hb:EV X (.BoolOp .And (b::rest) pos) fb):EV X (.BoolOp .And (a::b::rest) pos) (C7 fa fb):=by
 obtain ⟨t,p,k⟩:=ha
 obtain ⟨u,p',k'⟩:=hb
 refine ⟨_,b9U p p',λO B σ H env r Q R e q=>?_⟩
 unfold C7 at e
 cases h:zL (fa env) with
 | none=>rw [h] at e;cases e
 | some x =>
  rw [h] at e
  refine k O B σ H env _ _ R (KC h) λv H1 s1 r1=>⟨x,Iq r1,?_⟩
  cases x with
  | true =>
   rw [if_pos rfl]
   exact k' O B σ H1 env r Q (R.grow s1) e λv2 H2 s2 r2=>q v2 H2 (s1.trans s2) (r2.from s1)
  | false =>
   obtain rfl:=lH e
   rw [if_neg DG]
   exact q _ H1 s1 (Is.bl false)
noncomputable def eIf(c:En->Option Bool)(f g:En->Option Sl):En->Option Sl:=λenv=>match c env with
 | some true=>f env
 | some false=>g env
 | none=>none
noncomputable def JY:D->Option Sl
 | .int i=>some (.sh (.int (-i)))
 | _=>none
noncomputable def Wp(f:En->Option Sl):En->Option Sl:=λenv=>(f env).bind λr=>JY r.d
variable {e:Expr}{es:List Expr}
noncomputable def ag:En->Option (List D):=λ_=>some []
noncomputable def ai(f:En->Option Sl)(g:En->Option (List D)):En->Option (List D):=λenv=>(f env).bind λr=>(g env).bind λds=>some (r.d::ds)
theorem bu:AV X [] ag:=⟨_,zx,λO B σ H env ds Q R e q=>by
 obtain rfl:=lH e
 exact q [] H (aO.refl _) .nil⟩
theorem au(ha:EV X e fe)(hb:AV X es fs)(hs:starEach (e::es) X.env=(false,eval e X.env)::starEach es X.env:=by rfl):AV X (e::es) (ai fe fs):=by
 obtain ⟨t,p,k⟩:=ha
 obtain ⟨u,p',k'⟩:=hb
 refine ⟨_,wm p p' hs,λO B σ H env ds Q R e q=>?_⟩
 obtain ⟨r,e1,e2⟩:=bind_some e
 obtain ⟨ds',e4,e3⟩:=bind_some e2
 obtain rfl:=lH e3
 refine k O B σ H env r _ R e1 λv H1 s1 r1=>?_
 refine k' O B σ H1 env ds' _ (R.grow s1) e4 λvs H2 s2 r2=>?_
 exact q _ H2 (s1.trans s2) (.cons ((r1.is λq=>R.oo).grow s2) r2)
theorem zz(h:H p=none)(o:HO):aO H (upd H p o):=λb u q=>by rw [jw (Dr q h)];exact q
noncomputable def hU(f:En->Option (List D)):En->Option Sl:=λenv=>(f env).bind λds=>if ds.length<=16777216 then some (.sh (.tup ds)) else none
noncomputable def dW(f:En->Option (List D)):En->Option Sl:=λenv=>(f env).bind λds=>if ds.length<=16777216 then some (.ow ds) else none
theorem oi{α:Type}{c:Prop}[Decidable c]{x y:α}(h:(if c then some x else none)=some y):c/\x=y:=by
 by_cases hc:c
 .rw [if_pos hc] at h;exact ⟨hc,lH h⟩
 .rw [if_neg hc] at h;cases h
theorem S5{K:aX}{O:Addr->Prop}{H:Hp}{p:Addr}{xs:List V}{ds:List D}(hO:∀q,O q->H q≠none)(hp:H p=none)(h:bp K O H xs ds):Res K O H (upd H p (.tup xs)) (.ref p) (.sh (.tup ds)):=
 Is.tup (λz=>hO p z hp) (.inl yB) (h.grow (zz hp _))
theorem L3{K:aX}{O:Addr->Prop}{H:Hp}{p:Addr}{xs:List V}{ds:List D}(hp:H p=none)(h:bp K O H xs ds):Res K O H (upd H p (.lst xs)) (.ref p) (.ow ds):=
 ⟨p,xs,rfl,hp,yB,h.map (λq hq hn z=>z.elim hn λw=>hq (by rw [w];exact hp)) λq u e _=>zz hp _ q u e⟩
theorem B0{x1}(h:AV X es fs):EV X (.Tuple es x1 pos) (hU fs):=by
 obtain ⟨t,p,k⟩:=h
 refine ⟨_,b51 p,λO B σ H env r Q R e q=>?_⟩
 obtain ⟨ds,e1,e2⟩:=bind_some e
 obtain ⟨hl,rfl⟩:=oi e2
 refine k O B σ H env ds _ R e1 λvs H1 s1 r1=>⟨by rw [r1.length,yJ];exact hl,λp hp=>?_⟩
 exact q _ _ (s1.trans (zz hp _)) ((S5 (O:=OO O σ env) (H:=H1) (λ_ z=>(R.grow s1).oo z) hp r1).from s1)
theorem qP(h:AV X es fs):EV X (.List es pos) (dW fs):=by
 obtain ⟨t,p,k⟩:=h
 refine ⟨_,b9Q p,λO B σ H env r Q R e q=>?_⟩
 obtain ⟨ds,e1,e2⟩:=bind_some e
 obtain ⟨hl,rfl⟩:=oi e2
 refine k O B σ H env ds _ R e1 λvs H1 s1 r1=>⟨by rw [r1.length,yJ];exact hl,λp hp=>?_⟩
 exact q _ _ (s1.trans (zz hp _)) ((L3 hp r1).from s1)
noncomputable def cX(f:En->Option (Bool×List D))(g:En->Option Sl):En->Option Sl:=λenv=>(f env).bind λx=>(g env).bind λy=>match y.d with
 | .int i=>(f' x.2 i).map .sh
 | _=>none
theorem ei{fa:En->Option (Bool×List D)}(ha:BV X a fa)(hb:EV X b fb)(hs:X4 b:=by exact λ_ _=>rfl):EV X (.Subscript a b pos) (cX fa fb):=by
 obtain ⟨t,p,k⟩:=ha
 obtain ⟨u,p',k'⟩:=hb
 refine ⟨_,b9R c0q p p' hs,λO B σ H env r Q R e q=>?_⟩
 obtain ⟨⟨kk,ds⟩,e1,e2⟩:=bind_some e
 obtain ⟨y,e2,e3⟩:=bind_some e2
 refine k O B σ H env kk ds _ R e1 λl xs H1 s1 hq hx=>?_
 refine k' O B σ H1 env y _ (R.grow s1) e2 λw H2 s2 r2=>?_
 have hi:=r2.is λq=>(R.grow s1).oo
 cases hd:y.d with
 | int i =>
  rw [hd] at hi e3
  obtain rfl:=Ao hi
  dsimp only at e3
  cases h:f' ds i with
  | none=>rw [h] at e3;cases e3
  | some d =>
   rw [h] at e3
   obtain rfl:=lH e3
   obtain ⟨v,h1,h2⟩:=(hx.grow s2).f' h
   have l8:=hq.grow s2
   have fin:=q v H2 (s1.trans s2) h2
   cases kk with
   | true=>exact .inl ⟨l,xs,i,v,rfl,rfl,l8,h1,fin⟩
   | false=>exact .inr (.inl ⟨l,xs,i,v,rfl,rfl,l8,h1,fin⟩)
 | _=>rw [hd] at e3;cases e3
end
noncomputable def LIM:Int:=10^250
theorem b7t(h1:-LIM<=j)(h2:j<=LIM):j.natAbs<2^900:=by
 have e:LIM<(2:Int)^900:=by unfold LIM;decide +kernel
 have e2:((2:Int)^900)=((2^900:Nat):Int):=by simp
 generalize (2^900:Nat)=m at *
 generalize LIM=l at *
 omega
theorem b2Q(h1:-LIM<=j)(h2:j<=LIM):j.natAbs.log2<900:=by
 rcases Xv j.natAbs with h0 | hp
 .rw [h0];decide
 .exact (Nat.log2_lt (J5 hp)).mpr (b7t h1 h2)
theorem b0L(h1:-LIM<=j)(h2:j<=LIM):c6g j<=900:=by
 have:=b2Q h1 h2
 unfold c6g
 split<;>omega
def MulC(i j:Int):Prop:=(-(2^64)<i/\i<2^64)\/(-(2^64)<j/\j<2^64)\/((-LIM<=i/\i<=LIM)/\(-LIM<=j/\j<=LIM))
noncomputable instance (i j:Int):Decidable (MulC i j):=by unfold MulC;infer_instance
theorem MulC.ok(h:MulC i j):IntMulOk i j:=by
 rcases h with ⟨h1,h2⟩ | ⟨h1,h2⟩ | ⟨⟨h1,h2⟩,h3,h4⟩
 .exact .of_left (Ru h1 h2)
 .exact .of_right (Ru h1 h2)
 .exact mulOk_of_bits (b0L h1 h2) (b0L h3 h4) (by decide)
def DivC(_ j:Int):Prop:=0<j/\j<=LIM
noncomputable instance (i j:Int):Decidable (DivC i j):=by unfold DivC;infer_instance
def Hy(_ j:Int):Prop:=0<j
noncomputable instance (i j:Int):Decidable (Hy i j):=by unfold Hy;infer_instance
def PowC(i j:Int):Prop:=0<=j/\j<=1000000/\i.natAbs<2^64
noncomputable instance (i j:Int):Decidable (PowC i j):=by unfold PowC;infer_instance
noncomputable def gI(C:Int->Int->Prop)[∀i j,Decidable (C i j)](h:Int->Int->Int):D->D->Option Sl
 | .int i,.int j=>if C i j then some (.sh (.int (h i j))) else none
 | _,_=>none
noncomputable def gB(h:Int->Int->Bool):D->D->Option Sl
 | .int i,.int j=>some (.sh (.bl (h i j)))
 | _,_=>none
section
variable {X:Cx}
theorem PX{f:Value->Value->Sem Value}{C:Int->Int->Prop}[∀i j,Decidable (C i j)]{h:Int->Int->Int}(ho:wI X f (rI C λi j=>.int (h i j))):zQ X f (gI C h):=by
 refine ⟨_,ho,λO H x y a b s Q hO hx hy e q=>?_⟩
 cases a with
 | int i=>cases b with
  | int j =>
   obtain ⟨hc,rfl⟩:=oi (show (if C i j then some (Sl.sh (.int (h i j))) else none)=some s from e)
   exact ⟨i,j,Ao hx,Ao hy,hc,q _ H (aO.refl _) (Is.int _)⟩
  | _=>cases e
 | _=>cases e
theorem XF(ho:wI X f (Jh λi j=>.bl (h i j))):zQ X f (gB h):=by
 refine ⟨_,ho,λO H x y a b s Q hO hx hy e q=>?_⟩
 cases a with
 | int i=>cases b with
  | int j =>
   obtain rfl:=lH (show some (Sl.sh (.bl (h i j)))=some s from e)
   exact ⟨i,j,Ao hx,Ao hy,q _ H (aO.refl _) (Is.bl _)⟩
  | _=>cases e
 | _=>cases e
noncomputable def nB:D->D->Option Sl:=gI MulC λi j=>i*j
noncomputable def AD:D->D->Option Sl:=gI DivC λi j=>i/j
noncomputable def jH:D->D->Option Sl:=gI Hy λi j=>i%j
noncomputable def xW:D->D->Option Sl:=gI PowC λi j=>i^j.toNat
noncomputable def BQ:D->D->Option Sl:=gI (λ_ _=>True) λi j=>i-j
noncomputable def ON:D->D->Option Sl:=gB λi j=>decide (i<j)
noncomputable def Ra:D->D->Option Sl:=gB λi j=>decide (i<=j)
noncomputable def JZ:D->D->Option Sl:=gB λi j=>decide (j<i)
noncomputable def gGe:D->D->Option Sl:=gB λi j=>decide (j<=i)
theorem CA:zQ X (binaryOp .Mult) nB:=PX (NP λ_ _ _ _ _ _ _ (hc:MulC _ _) q=>mul_int q hc.ok)
theorem LW:zQ X (binaryOp .FloorDiv) AD:=PX (NP λi j _ _ _ _ _ (hc:DivC i j) q=>by
 have h1:(0:Int)<j:=hc.1
 have h2:=b2Q (j:=j) (by have:(0:Int)<=LIM:=(by decide +kernel);omega) hc.2
 exact floordiv_int (by omega) (by rw [Int.fdiv_eq_ediv_of_nonneg i (by omega)];exact q) (.inl (PyProof.noPylong_of_log2 (by omega))))
theorem B2:zQ X (binaryOp .Mod) jH:=PX (NP λi j _ _ _ _ _ (hc:Hy i j) q=>by
 have h1:(0:Int)<j:=hc
 exact mod_int' (by omega) (by rw [Int.fmod_eq_emod_of_nonneg i (by omega)];exact q))
theorem Hn:zQ X (binaryOp .Pow) xW:=PX (NP λ_ _ _ _ _ _ _ (hc:PowC _ _) q=>pow_int_small hc.1 hc.2.1 hc.2.2 q)
theorem b55:zQ X (binaryOp .Sub) BQ:=PX (NP λ_ _ _ _ _ _ _ _ q=>sub_int q)
theorem XE:zQ X (compareOp .Lt) ON:=XF NM
theorem b9Z:zQ X (compareOp .LtE) Ra:=XF NN
theorem P6:zQ X (compareOp .Gt) JZ:=XF NO
noncomputable def aK:D->D->Option Sl
 | .int i,.int j=>some (.sh (.int (i+j)))
 | .lst false a,.lst false b=>if a.length+b.length<=16777216 then some (.ow (a++b)) else none
 | .tup a,.tup b=>if a.length+b.length<=16777216 then some (.sh (.tup (a++b))) else none
 | .str a,.str b=>if a.length+b.length<=16777216 then some (.sh (.str (a++b))) else none
 | _,_=>none
theorem Qb{K:aX}{O:Addr->Prop}{H:Hp}{v:V}{ds:List D}(h:Is K O H v (.tup ds)):∃p xs,v=.ref p/\oj K H p xs/\bp K O H xs ds:=by
 obtain ⟨p,xs,e,h1,h2⟩:=h.seq (k:=false) rfl
 exact ⟨p,xs,e,h1,h2⟩
theorem X2{K:aX}{O:Addr->Prop}{H:Hp}{v:V}{ds:List D}(h:Is K O H v (.lst false ds)):∃p xs,v=.ref p/\¬O p/\H p=some (.lst xs)/\bp K O H xs ds:=by
 cases h with
 | lst ho hp hs=>exact ⟨_,_,rfl,ho,hp,hs⟩
theorem bp.nL{K:aX}{O:Addr->Prop}{H:Hp}{xs:List V}{ds:List D}(h:bp K O H xs ds):xs=[]↔ds=[]:=by cases h<;>simp
theorem a8L{α:Type}{c:Prop}{d:Decidable c}{x y:α}(h:(@ite _ c d (some x) none)=some y):c/\x=y:=oi h
theorem eD:zQ X (binaryOp .Add) aK:=by
 refine ⟨_,Jx.or (Jw.or (GH.or (BF.or b7j))),λO H x y a b s Q hO hx hy e q=>?_⟩
 cases a with
 | int i=>cases b with
  | int j =>
   obtain rfl:=lH (show some (Sl.sh (.int (i+j)))=some s from e)
   exact .inl ⟨i,j,Ao hx,Ao hy,q _ H (aO.refl _) (Is.int _)⟩
  | _=>cases e
 | lst r a=>cases r with
  | true=>cases b<;>cases e
  | false=>cases b with
   | lst r b=>cases r with
    | true=>cases e
    | false =>
     obtain ⟨hl,rfl⟩:=oi (show (if a.length+b.length<=16777216 then some (Sl.ow (a++b)) else none)=some s from e)
     obtain ⟨p1,xs,rfl,_,h1,i1⟩:=X2 hx
     obtain ⟨p2,ys,rfl,_,h2,i2⟩:=X2 hy
     exact .inr (.inl ⟨p1,p2,xs,ys,rfl,rfl,h1,h2,by rw [i1.length,i2.length,yJ];exact hl,λp hp=>q _ _ (zz hp _) (L3 hp (i1.append i2))⟩)
   | _=>cases e
 | tup a=>cases b with
  | tup b =>
   obtain ⟨hl,rfl⟩:=a8L (show (if a.length+b.length<=16777216 then some (Sl.sh (.tup (a++b))) else none)=some s from e)
   obtain ⟨p1,xs,rfl,h1,i1⟩:=Qb hx
   obtain ⟨p2,ys,rfl,h2,i2⟩:=Qb hy
   by_cases h0:a=[]
   .subst h0
    cases i1
    exact .inr (.inr (.inr (.inr ⟨p1,p2,ys,rfl,rfl,h1,h2,q _ H (aO.refl _) hy⟩)))
   refine .inr (.inr (.inl ⟨p1,p2,xs,ys,rfl,rfl,h1,h2,λz=>h0 (i1.nL.mp z),by rw [i1.length,i2.length,yJ];exact hl,λz=>?_,λz p hp=>q _ _ (zz hp _) (S5 hO hp (i1.append i2))⟩))
   have z':=i2.nL.mp z
   subst z'
   rw [E4] at q
   exact q _ H (aO.refl _) hx
  | _=>cases e
 | str a=>cases b with
  | str b =>
   obtain ⟨hl,rfl⟩:=oi (show (if a.length+b.length<=16777216 then some (Sl.sh (.str (a++b))) else none)=some s from e)
   exact .inr (.inr (.inr (.inl ⟨a,b,AR hx,AR hy,by rw [yJ];exact hl,q _ H (aO.refl _) (Is.str _)⟩)))
  | _=>cases e
 | _=>cases e
theorem map_some{α β:Type}{o:Option α}{f:α->β}{b:β}(h:o.map f=some b):∃a,o=some a/\f a=b:=by
 cases o with
 | none=>cases h
 | some a=>exact ⟨a,rfl,lH h⟩
noncomputable def D.lR:D->Bool
 | .cT=>true
 | _=>false
noncomputable def Wh:D->D->Option Sl:=λa b=>if b.lR=true then some (.sh (.bl a.lR)) else none
noncomputable def OM:D->D->Option Sl:=λa b=>if b.lR=true then some (.sh (.bl !a.lR)) else none
end
section
variable {X:Cx}{a b c:Expr}{pos p:Pos}{fa fb:En->Option Sl}{es:List Expr}{e:Expr}
noncomputable def c0S(g:List D->Option Sl)(fs:En->Option (List D)):En->Option Sl:=λenv=>(fs env).bind g
noncomputable def c0W:List D->Option Sl
 | [.int i,.int j]=>some (.sh (.int (if j<i then j else i)))
 | _=>none
noncomputable def c0X:List D->Option Sl
 | [.int i,.int j]=>some (.sh (.int (if j>i then j else i)))
 | _=>none
theorem b21{K:aX}{O:Addr->Prop}{H:Hp}{xs:List V}{i j:Int}(h:bp K O H xs [.int i,.int j]):xs=[.int i,.int j]:=by
 cases h with
 | cons h t=>cases t with
  | cons h' t=>cases t;rw [Ao h,Ao h']
noncomputable def qr(f:En->Option (Bool×List D)):En->Option Sl:=λenv=>(f env).map λx=>.sh (.int x.2.length)
noncomputable def Sz(f:En->Option (Bool×List D)):En->Option Sl:=λenv=>(f env).map λx=>.ow x.2
noncomputable def b6r(f:En->Option (Bool×List D)):En->Option Sl:=λenv=>(f env).bind λx=>if x.1=true then some (.sh (.tup x.2)) else none
variable {ba:En->Option (Bool×List D)}
theorem FK(hg:Gl X "len")(hm:X.mg "len" = none)(ha:BV X a ba)(hs:starEach [a] X.env=[(false,eval a X.env)]:=by rfl):EV X (.Call (.Name "len" p) [a] [] pos) (qr ba):=by
 obtain ⟨t,pt,k⟩:=ha
 refine ⟨_,KD a9b hg hm WG (wm pt zx hs) (by decide) (by decide) hs rfl,λO B σ H env s Q R e q=>?_⟩
 obtain ⟨⟨kk,ds⟩,e1,rfl⟩:=map_some e
 refine k O B σ H env kk ds _ R e1 λl xs H1 s1 hq hx=>⟨l,xs,rfl,?_,?_⟩
 .cases kk with
  | true=>exact .inl hq
  | false=>exact .inr hq
 .rw [hx.length]
  exact q _ H1 s1 (Is.int _)
theorem b3r(hg:Gl X "list")(hm:X.mg "list" = none)(ha:BV X a ba)(hs:starEach [a] X.env=[(false,eval a X.env)]:=by rfl):EV X (.Call (.Name "list" p) [a] [] pos) (Sz ba):=by
 obtain ⟨t,pt,k⟩:=ha
 refine ⟨_,ID a89 hg hm (by decide +kernel) (wm pt zx hs) (by decide) (by decide) hs rfl,λO B σ H env s Q R e q=>?_⟩
 obtain ⟨⟨kk,ds⟩,e1,rfl⟩:=map_some e
 refine k O B σ H env kk ds _ R e1 λl xs H1 s1 hq hx=>⟨l,xs,rfl,?_,λp hp=>?_⟩
 .cases kk with
  | true=>exact .inl hq
  | false=>exact .inr hq
 .exact q _ _ (s1.trans (zz hp _)) ((L3 hp hx).from s1)
end
section
variable {K:aX}{O:Addr->Prop}{B H H1:Hp}{σ:L2.St}{env:En}{v:V}{r:Sl}{i:Nat}
theorem b7g(h:zP (σ.set i (some v)) (env.set i r) q):zP σ env q\/(r.own/\v=.ref q):=by
 obtain ⟨j,t,h1,ho,h2⟩:=h
 by_cases hj:i=j
 .subst hj
  rw [WX] at h1 h2
  rw [if_pos rfl] at h1 h2
  split at h1
  .cases h1
   split at h2
   .cases h2;exact .inr ⟨ho,rfl⟩
   .cases h2
  .cases h1
 .rw [ml hj] at h1 h2
  exact .inl ⟨j,t,h1,ho,h2⟩
theorem Res.fresh(h:Res K O B H v r)(ho:r.own):∃p,v=.ref p/\B p=none/\H p≠none:=by
 cases r with
 | no=>exact ho.elim
 | sh d=>exact ho.elim
 | ow ds=>obtain ⟨p,xs,e1,e2,e3,_⟩:=h;exact ⟨p,e1,e2,by rw [e3];exact λz=>nomatch z⟩
 | dw aI=>obtain ⟨p,e1,e2,e3⟩:=h;exact ⟨p,e1,e2,by rw [e3];exact λz=>nomatch z⟩
 | tw ks ds=>obtain ⟨p,vs,e1,e2,e3,_⟩:=h;exact ⟨p,e1,e2,by rw [e3];exact λz=>nomatch z⟩
theorem Rel.set(R:Rel K O B σ H env)(s:aO H H1)(h:Res K (OO O σ env) H H1 v r)(hi:i<env.length):
  Rel K O B (σ.set i (some v)) H1 (env.set i r)/\Gd σ env H (σ.set i (some v)) (env.set i r) H1:=by
 have new:∀q,zP (σ.set i (some v)) (env.set i r) q->zP σ env q\/(H q=none/\r.own/\v=.ref q):=λq z=>by
  rcases b7g z with z | ⟨ho,rfl⟩
  .exact .inl z
  .obtain ⟨p,e1,e2,_⟩:=h.fresh ho
   cases e1
   exact .inr ⟨e2,ho,rfl⟩
 have hO:∀q,H q≠none->¬OO O σ env q->¬OO O (σ.set i (some v)) (env.set i r) q:=λq hq hn z=>by
  rcases z with z | z
  .exact hn (.inl z)
  .rcases new q z with z | ⟨z,_⟩
   .exact hn (.inr z)
   .exact hq z
 have hH:∀q u,H q=some u->¬OO O σ env q->H1 q=some u:=λq u e _=>s q u e
 have ET:i<σ.length:=by rw [R.len];exact hi
 refine ⟨⟨R.same.trans s,R.AF,by simp [R.len],λj d e=>?_,λj ds e=>?_,λj aI e=>?_,λj ks ds e=>?_,λj k ds es p e1 e2 e3 e4 o1 o2=>?_⟩,λq u e n=>⟨s q u e,λz=>?_⟩⟩
 .by_cases hj:i=j
  .subst hj
   rw [wG hi] at e
   cases e
   refine ⟨v,by rw [wG ET],Is.less (O:=OO O σ env) (λq z=>z.elim .inl λz=>?_) h⟩
   rcases new q z with z | ⟨_,z,_⟩
   .exact .inr z
   .exact z.elim
  .rw [ml hj] at e
   obtain ⟨w,e1,h1⟩:=R.sh j d e
   exact ⟨w,by rw [ml hj];exact e1,h1.map hO hH⟩
 .by_cases hj:i=j
  .subst hj
   rw [wG hi] at e
   cases e
   obtain ⟨p,xs,rfl,e2,e3,h1⟩:=h
   refine ⟨p,xs,by rw [wG ET],R.same.free e2,e3,h1.less λq z=>?_⟩
   rcases z with z | z
   .exact .inl (.inl z)
   .rcases new q z with z | ⟨_,_,z⟩
    .exact .inl (.inr z)
    .cases z;exact .inr rfl
  .rw [ml hj] at e
   obtain ⟨p,xs,e1,e2,e3,h1⟩:=R.ow j ds e
   exact ⟨p,xs,by rw [ml hj];exact e1,e2,s _ _ e3,h1.map hO hH⟩
 .by_cases hj:i=j
  .subst hj
   rw [wG hi] at e
   cases e
   obtain ⟨p,rfl,e2,e3⟩:=h
   exact ⟨p,by rw [wG ET],R.same.free e2,e3⟩
  .rw [ml hj] at e
   obtain ⟨p,e1,e2,e3⟩:=R.dw j aI e
   exact ⟨p,by rw [ml hj];exact e1,e2,s _ _ e3⟩
 .by_cases hj:i=j
  .subst hj
   rw [wG hi] at e
   cases e
   obtain ⟨p,vs,rfl,e2,e3,e4,h1⟩:=h
   refine ⟨p,vs,by rw [wG ET],R.same.free e2,e3,e4,h1.less λq z=>?_⟩
   rcases z with z | z
   .exact .inl (.inl z)
   .rcases new q z with z | ⟨_,_,z⟩
    .exact .inl (.inr z)
    .cases z;exact .inr rfl
  .rw [ml hj] at e
   obtain ⟨p,vs,e1,e2,e3,e4,h1⟩:=R.tw j ks ds e
   exact ⟨p,vs,by rw [ml hj];exact e1,e2,s _ _ e3,e4,h1.map hO hH⟩
 .have other:∀j t,j≠i->env[j]?=some t->t.own->σ[j]?=some (some (V.ref p))->r.own->v≠.ref p:=λj t hj e ho e' hr z=>by
   obtain ⟨p',rfl,e2,_⟩:=h.fresh hr
   cases z
   obtain ⟨p2,u,e5,_,e6⟩:=R.ad e ho
   rw [e'] at e5
   cases e5
   rw [e2] at e6
   cases e6
  by_cases hj:i=j
  .by_cases hk:i=k
   .rw [<-hj,<-hk]
   .subst hj
    rw [wG hi] at e1
    rw [wG ET] at e3
    rw [ml hk] at e2 e4
    cases e1
    cases e3
    exact absurd rfl (other k es (wF hk) e2 o2 e4 o1)
  .by_cases hk:i=k
   .subst hk
    rw [wG hi] at e2
    rw [wG ET] at e4
    rw [ml hj] at e1 e3
    cases e2
    cases e4
    exact absurd rfl (other j ds (wF hj) e1 o1 e3 o2)
   .rw [ml hj] at e1 e3
    rw [ml hk] at e2 e4
    exact R.sep j k ds es p e1 e2 e3 e4 o1 o2
 .rcases new q z with z | ⟨z,_⟩
  .exact n z
  .rw [e] at z;cases z
theorem Rel.ZS{p:Addr}{u':HO}{t t':Sl}(R:Rel K O B σ H env)(he:env[i]?=some t)(ho:t.own)(xR:t'.own)(hs:σ[i]?=some (some (V.ref p)))
  (hx:(∀ds',t'=.ow ds'->∃zF,u'=.lst zF/\bp K (OO O σ env) H zF ds')/\(∀N1,t'=.dw N1->u'=Wt N1)/\∀ks' ds',t'=.tw ks' ds'->∃vs',u'=wD ks' vs'/\ks'.length=vs'.length/\bp K (OO O σ env) H vs' ds'):
  Rel K O B σ (upd H p u') (env.set i t')/\Gd σ env H σ (env.set i t') (upd H p u'):=by
 have hi:i<env.length:=(z9.mp he).1
 have own:∀q,zP σ (env.set i t') q->zP σ env q:=λq ⟨j,es,e1,e3,e2⟩=>by
  by_cases hj:i=j
  .subst hj;exact ⟨i,t,he,ho,e2⟩
  .rw [ml hj] at e1;exact ⟨j,es,e1,e3,e2⟩
 have NK:zP σ env p:=⟨i,t,he,ho,hs⟩
 obtain ⟨p0,u0,f1,f2,f3⟩:=R.ad he ho
 rw [hs] at f1
 cases f1
 have hO:∀q,H q≠none->¬OO O σ env q->¬OO O σ (env.set i t') q:=λq _ hn z=>hn (z.elim .inl λz=>.inr (own q z))
 have hH:∀q u,H q=some u->¬OO O σ env q->upd H p u' q=some u:=λq u e n=>by
  rw [jw (λz=>n (.inr (by rw [z];exact NK)))]
  exact e
 refine ⟨⟨λq u e=>?_,R.AF,by simp [R.len],λj d e=>?_,λj es e=>?_,λj aI e=>?_,λj ks es e=>?_,λj k es fs q e1 e2 e3 e4 o1 o2=>?_⟩,λq u e n=>⟨?_,λz=>n (own q z)⟩⟩
 .rw [jw (Dr e f2)];exact R.same q u e
 .by_cases hj:i=j
  .subst hj;rw [wG hi] at e;cases e;exact xR.elim
  .rw [ml hj] at e
   obtain ⟨w,e1,h1⟩:=R.sh j d e
   exact ⟨w,e1,h1.map hO hH⟩
 .by_cases hj:i=j
  .subst hj
   rw [wG hi] at e
   cases e
   obtain ⟨zF,hu,Az⟩:=hx.1 _ rfl
   exact ⟨p,zF,hs,f2,by rw [yB,hu],Az.map hO hH⟩
  .rw [ml hj] at e
   obtain ⟨p2,IU,e1,e2,e3,h1⟩:=R.ow j es e
   refine ⟨p2,IU,e1,e2,?_,h1.map hO hH⟩
   rw [jw (λz=>hj (R.sep i j t _ p he e hs (by rw [e1,z]) ho trivial))]
   exact e3
 .by_cases hj:i=j
  .subst hj
   rw [wG hi] at e
   cases e
   exact ⟨p,hs,f2,by rw [yB,hx.2.1 _ rfl]⟩
  .rw [ml hj] at e
   obtain ⟨p2,e1,e2,e3⟩:=R.dw j aI e
   refine ⟨p2,e1,e2,?_⟩
   rw [jw (λz=>hj (R.sep i j t _ p he e hs (by rw [e1,z]) ho trivial))]
   exact e3
 .by_cases hj:i=j
  .subst hj
   rw [wG hi] at e
   cases e
   obtain ⟨vs',hu,hl,Az⟩:=hx.2.2 _ _ rfl
   exact ⟨p,vs',hs,f2,by rw [yB,hu],hl,Az.map hO hH⟩
  .rw [ml hj] at e
   obtain ⟨p2,IU,e1,e2,e3,e4,h1⟩:=R.tw j ks es e
   refine ⟨p2,IU,e1,e2,?_,e4,h1.map hO hH⟩
   rw [jw (λz=>hj (R.sep i j t _ p he e hs (by rw [e1,z]) ho trivial))]
   exact e3
 .have fix:∀(j:Nat) (es:Sl),(env.set i t')[j]?=some es->es.own->∃gs:Sl,env[j]?=some gs/\gs.own:=λj es e o=>by
   by_cases hj:i=j
   .subst hj;exact ⟨t,he,ho⟩
   .rw [ml hj] at e;exact ⟨es,e,o⟩
  obtain ⟨g1,h1,q1⟩:=fix j es e1 o1
  obtain ⟨g2,h2,q2⟩:=fix k fs e2 o2
  exact R.sep j k g1 g2 q h1 h2 e3 e4 q1 q2
 .rw [jw (λz=>n (by rw [z];exact NK))];exact e
theorem Rel.wr(R:Rel K O B σ H env)(he:env[i]?=some (Sl.ow ds))(hs:σ[i]?=some (some (V.ref p)))(hx:bp K (OO O σ env) H zF ds'):
  Rel K O B σ (upd H p (.lst zF)) (env.set i (.ow ds'))/\Gd σ env H σ (env.set i (.ow ds')) (upd H p (.lst zF)):=
 R.ZS (t':=.ow ds') he trivial trivial hs ⟨λ_ e=>by cases e;exact ⟨zF,rfl,hx⟩,λ_ e=>(nomatch e),λ_ _ e=>(nomatch e)⟩
theorem Rel.wrT{p:Addr}{ks ks':List Str}{ds ds':List D}{vs':List V}(R:Rel K O B σ H env)(he:env[i]?=some (Sl.tw ks ds))(hs:σ[i]?=some (some (V.ref p)))(hl:ks'.length=vs'.length)(hx:bp K (OO O σ env) H vs' ds'):
  Rel K O B σ (upd H p (wD ks' vs')) (env.set i (.tw ks' ds'))/\Gd σ env H σ (env.set i (.tw ks' ds')) (upd H p (wD ks' vs')):=
 R.ZS (t':=.tw ks' ds') he trivial trivial hs ⟨λ_ e=>(nomatch e),λ_ e=>(nomatch e),λ_ _ e=>by cases e;exact ⟨vs',rfl,hl,hx⟩⟩
theorem Rel.Wi{t:Sl}(R:Rel K O B σ H env)(he:env[i]?=some t)(ho:t.own):Rel K O B σ H (env.set i (.sh t.d))/\Gd σ env H σ (env.set i (.sh t.d)) H:=by
 have hi:i<env.length:=(z9.mp he).1
 obtain ⟨p,u0,f1,f2,f3⟩:=R.ad he ho
 have own:∀q,zP σ (env.set i (.sh t.d)) q->zP σ env q/\q≠p:=λq ⟨j,es,e1,o,e2⟩=>by
  by_cases hj:i=j
  .subst hj;rw [wG hi] at e1;cases e1;exact o.elim
  .rw [ml hj] at e1
   exact ⟨⟨j,es,e1,o,e2⟩,λz=>hj (R.sep i j t es p he e1 f1 (by rw [e2,z]) ho o)⟩
 have less:∀q,OO O σ (env.set i (.sh t.d)) q->OO O σ env q:=λq z=>z.elim .inl λz=>.inr (own q z).1
 have np:¬OO O σ (env.set i (.sh t.d)) p:=λz=>z.elim (λz=>R.AF.1 p z f2) λz=>(own p z).2 rfl
 refine ⟨⟨R.same,R.AF,by simp [R.len],λj d e=>?_,λj es e=>?_,λj aI e=>?_,λj ks es e=>?_,λj k es fs q e1 e2 e3 e4 o1 o2=>?_⟩,λq u e n=>⟨e,λz=>n (own q z).1⟩⟩
 .by_cases hj:i=j
  .subst hj
   rw [wG hi] at e
   cases e
   refine ⟨.ref p,f1,?_⟩
   cases t with
   | no=>exact ho.elim
   | sh d=>exact ho.elim
   | ow ds =>
    obtain ⟨p',xs,g1,g2,g3,g4⟩:=R.ow i ds he
    rw [f1] at g1;cases g1
    exact .lst np g3 (g4.less less)
   | dw aI =>
    obtain ⟨p',g1,g2,g3⟩:=R.dw i aI he
    rw [f1] at g1;cases g1
    exact .rf np g3
   | tw ks ds =>
    obtain ⟨p',vs,g1,g2,g3,g4,g5⟩:=R.tw i ks ds he
    rw [f1] at g1;cases g1
    exact .lX np g3 g4 (g5.less less)
  .rw [ml hj] at e
   obtain ⟨w,e1,h1⟩:=R.sh j d e
   exact ⟨w,e1,h1.less less⟩
 .by_cases hj:i=j
  .subst hj;rw [wG hi] at e;cases e
  .rw [ml hj] at e
   obtain ⟨p2,IU,e1,e2,e3,h1⟩:=R.ow j es e
   exact ⟨p2,IU,e1,e2,e3,h1.less less⟩
 .by_cases hj:i=j
  .subst hj;rw [wG hi] at e;cases e
  .rw [ml hj] at e
   exact R.dw j aI e
 .by_cases hj:i=j
  .subst hj;rw [wG hi] at e;cases e
  .rw [ml hj] at e
   obtain ⟨p2,IU,e1,e2,e3,e4,h1⟩:=R.tw j ks es e
   exact ⟨p2,IU,e1,e2,e3,e4,h1.less less⟩
 .have fix:∀(j:Nat) (es:Sl),(env.set i (.sh t.d))[j]?=some es->es.own->env[j]?=some es:=λj es e o=>by
   by_cases hj:i=j
   .subst hj;rw [wG hi] at e;cases e;exact o.elim
   .rw [ml hj] at e;exact e
  exact R.sep j k es fs q (fix j es e1 o1) (fix k fs e2 o2) e3 e4 o1 o2
theorem Rel.nQ{ds:List D}(R:Rel K O B σ H env)(he:env[i]?=some (Sl.ow ds)):Rel K O B σ H (env.set i (.sh (.lst false ds)))/\Gd σ env H σ (env.set i (.sh (.lst false ds))) H:=R.Wi he trivial
end
section
variable {X:Cx}{st:Stmt}{rest:List Stmt}{F G:SF}{a b c e:Expr}{fa:En->Option Sl}{ga:En->Option Bool}{pos:Pos}
noncomputable def iq:SF:=λenv=>some (.nx,env)
noncomputable def sBk:SF:=λenv=>some (.bk,env)
noncomputable def sCt:SF:=λenv=>some (.ct,env)
noncomputable def a9(F G:SF):SF:=λenv=>match F env with
 | some (.nx,df)=>G df
 | r=>r
theorem nK:Ap X [] iq:=⟨_,Yf,λO B σ H env fl ao D R e q=>by
 cases (show some (Fl.nx,env)=some (fl,ao) from e)
 exact q σ H R (Gd.refl (aO.refl _))⟩
theorem cL(h:SV X st F):Ap X [st] F:=let ⟨t,p,k⟩:=h;⟨t,b63 p,k⟩
theorem dq(h:SV X st F)(h2:Ap X rest G):Ap X (st::rest) (a9 F G):=by
 obtain ⟨t,p,k⟩:=h
 obtain ⟨u,p',k'⟩:=h2
 refine ⟨_,Mc p p',λO B σ H env fl ao D R e q=>?_⟩
 unfold a9 at e
 cases hF:F env with
 | none=>rw [hF] at e;cases e
 | some x =>
  obtain ⟨f1,df⟩:=x
  rw [hF] at e
  refine k O B σ H env f1 df _ R hF ?_
  cases f1 with
  | nx=>exact λbB H' R' g'=>k' O B bB H' df fl ao D R' e (q.from g')
  | bk=>cases e;exact q
  | ct=>cases e;exact q
  | rt r=>cases e;exact q
noncomputable def gf(c:En->Option Bool)(F G:SF):SF:=λenv=>match c env with
 | some true=>F env
 | some false=>G env
 | none=>none
theorem me(hc:TV X c ga)(ha:Ap X sa F)(hb:Ap X sb G):SV X (.If c sa sb pos) (gf ga F G):=by
 obtain ⟨tc,pc,kc⟩:=hc
 obtain ⟨t,p,k⟩:=ha
 obtain ⟨u,p',k'⟩:=hb
 refine ⟨_,NA pc p p',λO B σ H env fl ao D R e q=>?_⟩
 unfold gf at e
 cases h:ga env with
 | none=>rw [h] at e;cases e
 | some x =>
  rw [h] at e
  refine kc O B σ H env x _ R h λH1 s1=>?_
  cases x with
  | true =>
   rw [if_pos rfl]
   exact k O B σ H1 env fl ao D (R.grow s1) e (q.from (Gd.refl s1))
  | false =>
   rw [if_neg DG]
   exact k' O B σ H1 env fl ao D (R.grow s1) e (q.from (Gd.refl s1))
noncomputable def bK(f:En->Option Sl):SF:=λenv=>(f env).map λr=>(.rt r,env)
theorem eK(h:EV X e fa):SV X (.Return (some e) pos) (bK fa):=by
 obtain ⟨t,p,k⟩:=h
 refine ⟨_,b5X p,λO B σ H env fl ao D R e q=>?_⟩
 obtain ⟨r,e1,e2⟩:=map_some e
 cases e2
 exact k O B σ H env r _ R e1 λv H1 s1 r1=>q v H1 (R.same.trans s1) ((r1.from R.same).less λq z=>.inl z)
noncomputable def Nl:SF:=λenv=>some (.rt (.sh .cT),env)
noncomputable def FJ(i:Nat):SF:=λenv=>match env[i]? with
 | some (.ow ds)=>some (.rt (.ow ds),env)
 | some (.dw ds)=>some (.rt (.dw ds),env)
 | some (.tw ks ds)=>some (.rt (.tw ks ds),env)
 | some (.sh d)=>some (.rt (.sh d),env)
 | _=>none
theorem b6P(i:Nat){x:Str}{p2:Pos}(hN:X.N[i]?=some x:=by rfl)(hv:l4 X.env.scope x:=by first | exact dY rfl | exact cO (dY rfl) | exact cO (cO rfl))(hd:(x==("__debug__":Str))=false:=by decide)
  (de:(x==("__classdict__":Str))=false:=by decide):SV X (.Return (some (.Name x p2)) pos) (FJ i):=by
 refine ⟨_,b5X (Bi hN hv hd de),λO B σ H env fl ao D R e q=>?_⟩
 unfold FJ at e
 cases h:env[i]? with
 | none=>rw [h] at e;cases e
 | some s =>
  rw [h] at e
  cases s with
  | no=>cases e
  | sh d =>
   cases e
   obtain ⟨v,e2,hv⟩:=R.sh i d h
   exact ⟨v,e2,q v H R.same (Is.less (λq z=>.inl z) hv)⟩
  | ow ds =>
   cases e
   obtain ⟨p,xs,e1,e2,e3,h1⟩:=R.ow i ds h
   exact ⟨_,e1,q _ H R.same ⟨p,xs,rfl,e2,e3,h1.less λq z=>z.elim .inl λz=>.inr ⟨i,.ow ds,h,trivial,by rw [z];exact e1⟩⟩⟩
  | dw aI =>
   cases e
   obtain ⟨p,e1,e2,e3⟩:=R.dw i aI h
   exact ⟨_,e1,q _ H R.same ⟨p,rfl,e2,e3⟩⟩
  | tw ks ds =>
   cases e
   obtain ⟨p,vs,e1,e2,e3,e4,h1⟩:=R.tw i ks ds h
   exact ⟨_,e1,q _ H R.same ⟨p,vs,rfl,e2,e3,e4,h1.less λq z=>z.elim .inl λz=>.inr ⟨i,.tw ks ds,h,trivial,by rw [z];exact e1⟩⟩⟩
noncomputable def pN(i:Nat)(f:En->Option Sl):SF:=λenv=>(f env).bind λr=>if i<env.length then some (.nx,env.set i r) else none
theorem b5Q(hN:X.N.Nodup)(hi:X.N[i]?=some x)(hx:Loc X.env.scope x)(he:EV X e fa)(hs:swapsWith e (some (.Name x pos')) pos.line X.env=pure false:=by rfl)(hf:X.fn x=true\/X.env.scope.names.lookup x=some .local:=by first | exact .inl rfl | exact .inr rfl | assumption):
  SV X (.Assign [.Name x pos'] e pos) (pN i fa):=by
 obtain ⟨t,p,k⟩:=he
 refine ⟨_,XX hN hi hx p hs hf,λO B σ H env fl ao D R e q=>?_⟩
 obtain ⟨r,e1,e2⟩:=bind_some e
 obtain ⟨hl,e3⟩:=oi e2
 cases e3
 refine k O B σ H env r _ R e1 λv H1 s1 r1=>?_
 obtain ⟨R',g'⟩:=R.set s1 r1 hl
 exact q _ H1 R' g'
noncomputable def hV(i:Nat)(f:En->Option Sl):SF:=λenv=>(f env).bind λr=>if i<env.length then some (.nx,env.set i (.sh r.d)) else none
theorem b17(hN:X.N.Nodup)(hi:X.N[i]?=some x)(hx:Loc X.env.scope x)(he:EV X e fa)(hs:swapsWith e (some (.Name x pos')) pos.line X.env=pure false:=by rfl)(hf:X.fn x=true\/X.env.scope.names.lookup x=some .local:=by first | exact .inl rfl | exact .inr rfl | assumption):
  SV X (.Assign [.Name x pos'] e pos) (hV i fa):=by
 obtain ⟨t,p,k⟩:=he
 refine ⟨_,XX hN hi hx p hs hf,λO B σ H env fl ao D R e q=>?_⟩
 obtain ⟨r,e1,e2⟩:=bind_some e
 obtain ⟨hl,e3⟩:=oi e2
 cases e3
 refine k O B σ H env r _ R e1 λv H1 s1 r1=>?_
 obtain ⟨R',g'⟩:=R.set (r:=.sh r.d) s1 (r1.is λq=>R.oo) hl
 exact q _ H1 R' g'
noncomputable def LM(f:En->Option Sl):SF:=λenv=>(f env).map λ_=>(.nx,env)
noncomputable def yT(i:Nat)(f:En->Option Sl):SF:=λenv=>match env[i]? with
 | some (.ow ds)=>(f env).bind λr=>if ds.length<16777216 then some (.nx,env.set i (.ow (ds++[r.d]))) else none
 | _=>none
theorem a8r{i:Nat}{x:Str}{p1 p2 aB:Pos}(ha:EV X e fa)(hN:X.N[i]?=some x:=by rfl)(hv:l4 X.env.scope x:=by first | exact dY rfl | exact cO (dY rfl) | exact cO (cO rfl))(hd:(x==("__debug__":Str))=false:=by decide)
  (de:(x==("__classdict__":Str))=false:=by decide)(hs:starEach [e] X.env=[(false,eval e X.env)]:=by rfl)
  (b9:attributeBase (.Name x p1) "append" X.env (eval (.Name x p1) X.env)=eval (.Name x p1) X.env:=by rfl)
  (fQ:((backTo aB (starEach [e] X.env)).all (λx=>!x.1)&&(backToKw aB (keywordEach [] X.env)).all (λx=>x.1.isSome)
   && decide ([e].length+([]:List Keyword).length+(if ([]:List Keyword).isEmpty then 0 else 1)<30))=true:=by rfl)
  (b8:(p2.endLine==aB.line)=true:=by rfl)
  (AA:swapsWith (.Call (.Attribute (.Name x p1) "append" p2) [e] [] aB) none pos.line X.env=pure false:=by rfl):
  SV X (.Expr (.Call (.Attribute (.Name x p1) "append" p2) [e] [] aB) pos) (yT i fa):=by
 obtain ⟨t,p,k⟩:=ha
 refine ⟨_,Kz (Sn LF Xt c5k a8H (Bi hN hv hd de) (wm p zx hs) b9 fQ b8 hs rfl) AA,λO B σ H env fl ao D R e q=>?_⟩
 unfold yT at e
 cases h:env[i]? with
 | none=>rw [h] at e;cases e
 | some s =>
  rw [h] at e
  cases s with
  | no=>cases e
  | sh d=>cases e
  | dw aI=>cases e
  | tw _ _=>cases e
  | ow ds =>
   obtain ⟨r,e1,e2⟩:=bind_some e
   obtain ⟨hl,e3⟩:=oi e2
   cases e3
   obtain ⟨l,xs,f1,f2,f3,f4⟩:=R.ow i ds h
   refine ⟨_,f1,.inl ⟨rfl,_,lM.of f3⟩,?_⟩
   refine k O B σ H env r _ R e1 λv H1 s1 r1=>⟨l,xs,v,rfl,rfl,s1 _ _ f3,by rw [f4.length,yJ];exact hl,?_⟩
   obtain ⟨R',g'⟩:=(R.grow s1).wr h f1 ((f4.grow s1).append (.cons (r1.is λq=>R.oo) .nil))
   exact q _ _ R' (g'.from s1)
end
section
variable {X:Cx}{st:Stmt}{F:SF}{a b c e tg it:Expr}{fa:En->Option Sl}{ba:En->Option (Bool×List D)}{ga:En->Option Bool}{pos:Pos}
noncomputable abbrev GF:=D->En->Option En
def GV(X:Cx)(tg:Expr)(g:GF):Prop:=
 ∃t:TG,PG X tg t/\∀(O:Addr->Prop) (B:Hp) (σ:L2.St) (H:Hp) (env ao:En) (v:V) (d:D) (Q:L2.St->Hp->Prop),Rel X.K O B σ H env->Is X.K (OO O σ env) H v d->g d env=some ao ->
  (∀bB H',Rel X.K O B bB H' ao->Gd σ env H bB ao H'->Q bB H')->t v σ H Q
noncomputable def gN(i:Nat):GF:=λd env=>if i<env.length then some (env.set i (.sh d)) else none
theorem b7G(hN:X.N.Nodup)(hi:X.N[i]?=some x)(hx:Loc X.env.scope x)(hf:X.fn x=true\/X.env.scope.names.lookup x=some .local:=by first | exact .inl rfl | exact .inr rfl | assumption):GV X (.Name x pos) (gN i):=by
 refine ⟨_,b7a hN hi hx hf,λO B σ H env ao v d Q R h e q=>?_⟩
 obtain ⟨hl,rfl⟩:=oi e
 obtain ⟨R',g'⟩:=R.set (r:=.sh d) (aO.refl _) h hl
 exact q _ H R' g'
noncomputable abbrev KZ:=List D->En->Option En
def Uw(X:Cx)(tg:List Expr)(g:KZ):Prop:=
 ∃t:IK,QC X tg t/\∀(O:Addr->Prop) (B:Hp) (σ:L2.St) (H:Hp) (env ao:En) (v:List V) (d:List D) (Q:L2.St->Hp->Prop),Rel X.K O B σ H env->bp X.K (OO O σ env) H v d->g d env=some ao ->
  (∀bB H',Rel X.K O B bB H' ao->Gd σ env H bB ao H'->Q bB H')->t v σ H Q
noncomputable def zN:KZ:=λds env=>match ds with
 | []=>some env
 | _::_=>none
noncomputable def lZ(g:GF)(u:KZ):KZ:=λds env=>match ds with
 | d::r=>(g d env).bind (u r)
 | []=>none
theorem Ky:Uw X [] zN:=by
 refine ⟨_,b69,λO B σ H env ao v d Q R h e q=>?_⟩
 cases h with
 | nil=>cases e;exact ⟨rfl,q σ H R (Gd.refl (aO.refl _))⟩
 | cons _ _=>cases e
theorem Gd.N7{K:aX}{O:Addr->Prop}{σ bB:L2.St}{env ao:En}{H H':Hp}(g:Gd σ env H bB ao H'){v:List V}{d:List D}(h:bp K (OO O σ env) H v d):bp K (OO O bB ao) H' v d:=
 h.map (λq hq hn z=>by
  cases e:H q with
  | none=>exact hq e
  | some u =>
   obtain ⟨_,n'⟩:=g q u e λw=>hn (.inr w)
   exact z.elim (λw=>hn (.inl w)) n') λq u e n=>(g q u e λw=>n (.inr w)).1
theorem CC{es:List Expr}{g:GF}{u:KZ}(h1:GV X e g)(h2:Uw X es u)
  (hs:(assignEach (e::es) X.env).map (·.2)=assign e X.env::(assignEach es X.env).map (·.2):=by rfl):Uw X (e::es) (lZ g u):=by
 obtain ⟨t,p,k⟩:=h1
 obtain ⟨t',p',k'⟩:=h2
 refine ⟨_,b4n p p' hs,λO B σ H env ao v d Q R h e q=>?_⟩
 cases h with
 | nil=>cases e
 | cons h ht =>
  obtain ⟨df,e1,e2⟩:=bind_some (show (g _ env).bind (u _)=some ao from e)
  refine ⟨_,_,rfl,k O B σ H env df _ _ _ R h e1 λyH H1 R1 g1=>?_⟩
  exact k' O B yH H1 df ao _ _ Q R1 (g1.N7 ht) e2 λfJ H2 R2 g2=>q fJ H2 R2 (g1.trans g2)
noncomputable def gT(n:Nat)(u:KZ):GF:=λd env=>match d with
 | .tup ds=>if ds.length=n then u ds env else none
 | _=>none
theorem Kx{es:List Expr}{k n:Nat}{u:KZ}(hc:X.calm=true)(h:Uw X es u)(hn:(assignEach es X.env).length=n:=by rfl)(A9:(assignEach es X.env).findIdx? (·.1)=none:=by rfl):GV X (.Tuple es k pos) (gT n u):=by
 obtain ⟨t,p,k'⟩:=h
 refine ⟨_,b9L hc p hn A9,λO B σ H env ao v d Q R h e q=>?_⟩
 cases d with
 | tup ds =>
  have e':(if ds.length=n then u ds env else none)=some ao:=e
  by_cases hl:ds.length=n
  .rw [if_pos hl] at e'
   obtain ⟨a,xs,rfl,h1,h2⟩:=Qb h
   exact ⟨a,xs,rfl,h1,by rw [h2.length];exact hl,k' O B σ H env ao xs ds Q R h2 e' q⟩
  .rw [if_neg hl] at e';cases e'
 | _=>cases e
noncomputable def Nq(f:En->Option Sl)(g:GF):SF:=λenv=>(f env).bind λr=>(g r.d env).map λao=>(.nx,ao)
noncomputable def forL(g:GF)(F:SF):List D->SF
 | [],env=>some (.nx,env)
 | d::ds,env=>match g d env with
  | none=>none
  | some df=>match F df with
   | some (.nx,dt)=>forL g F ds dt
   | some (.ct,dt)=>forL g F ds dt
   | some (.bk,dt)=>some (.nx,dt)
   | some (.rt r,dt)=>some (.rt r,dt)
   | none=>none
structure Left(K:aX)(O:Addr->Prop)(B:Hp)(FV:L2.St)(H0:Hp)(vm:En)(g:GF)(F:SF)(ds:List D)(fl:Fl)(ao:En)(i:Nat)(σ:L2.St)(H:Hp):Prop where
 ex:∃env,Rel K O B σ H env/\Gd FV vm H0 σ env H/\forL g F (ds.drop i) env=some (fl,ao)
theorem Yr{g:GF}{F5:TG}{tb:TS}{O:Addr->Prop}{B:Hp}{FV:L2.St}{H0:Hp}{vm ao:En}{fl:Fl}{D:Ends}{ds:List DL.D}{xs:List V}{i:Nat}{x:V}{σ:L2.St}{H:Hp}
  (kg:∀(O:Addr->Prop) (B:Hp) (σ:L2.St) (H:Hp) (env ao:En) (v:V) (d:DL.D) (Q:L2.St->Hp->Prop),Rel X.K O B σ H env->Is X.K (OO O σ env) H v d->g d env=some ao ->
   (∀bB H',Rel X.K O B bB H' ao->Gd σ env H bB ao H'->Q bB H')->F5 v σ H Q)
  (kb:∀(O:Addr->Prop) (B:Hp) (σ:L2.St) (H:Hp) (env:En) (fl:Fl) (ao:En) (D:Ends),Rel X.K O B σ H env->F env=some (fl,ao)->jP X.K O B σ H env D fl ao->tb D σ H)
  (hx:bp X.K (OO O FV vm) H0 xs ds)(hi:xs[i]?=some x)(q:jP X.K O B FV H0 vm D fl ao)(h:Left X.K O B FV H0 vm g F ds fl ao i σ H):
  F5 x σ H λfJ H2=>tb { D with nx:=Left X.K O B FV H0 vm g F ds fl ao (i+1),ct:=Left X.K O B FV H0 vm g F ds fl ao (i+1),bk:=D.nx } fJ H2:=by
 obtain ⟨env,R,gd,e⟩:=h
 obtain ⟨d,hd,_⟩:=hx.JS hi
 have VT:i<ds.length:=(z9.mp hd).1
 have BO:ds.drop i=d::ds.drop (i+1):=by
  rw [RS VT]
  rw [md VT] at hd
  rw [lH hd]
 obtain ⟨x',Az,hxd⟩:=(gd.N7 hx).get hd
 rw [hi] at Az
 cases Az
 rw [BO,forL] at e
 cases hg:g d env with
 | none=>rw [hg] at e;cases e
 | some df =>
  rw [hg] at e
  refine kg O B σ H env df x d _ R hxd hg λyH H1 R1 g1=>?_
  dsimp only at e
  cases hF:F df with
  | none=>rw [hF] at e;cases e
  | some y =>
   obtain ⟨f2,dt⟩:=y
   rw [hF] at e
   have go:=gd.trans g1
   refine kb O B yH H1 df f2 dt _ R1 hF ?_
   cases f2 with
   | nx=>exact λfJ H2 R2 g2=>⟨dt,R2,go.trans g2,e⟩
   | ct=>exact λfJ H2 R2 g2=>⟨dt,R2,go.trans g2,e⟩
   | bk=>cases e;exact λfJ H2 R2 g2=>q fJ H2 R2 (go.trans g2)
   | rt r=>cases e;exact q
theorem S6{D:Ends}{ds:List DL.D}{n:Nat}(hn:ds.length<=n)
  (q:jP X.K O B FV H0 vm D fl ao)(h:Left X.K O B FV H0 vm g F ds fl ao n σ H):D.nx σ H:=by
 obtain ⟨env,R,gd,e⟩:=h
 rw [c5U hn,forL] at e
 cases e
 exact q σ H R gd
noncomputable def Bw(f:En->Option Sl)(g:GF)(F:SF):SF:=λenv=>(f env).bind λr=>(l5 r.d).bind λx=>forL g F x.2 env
theorem Gd.sq{K:aX}{σ bB:L2.St}{env ao:En}{H H':Hp}(gd:Gd σ env H bB ao H'){k:Bool}{p:Addr}{xs:List V}(h:Sq K H k p xs)(hp:¬zP σ env p\/H p=none):Sq K H' k p xs:=by
 have rd:∀u,Rd H p u->Rd H' p u:=λu z=>by
  rcases z with z | ⟨o,z⟩
  .rcases hp with hp | hp
   .exact .inl (gd p _ z hp).1
   .rw [hp] at z;cases z
  .rcases hp with hp | hp
   .exact .inr ⟨o,(gd p _ z hp).1⟩
   .rw [hp] at z;cases z
 cases k with
 | true =>
  rcases h with h | h
  .exact .inl (rd _ h)
  .exact .inr h
 | false =>
  rcases h with h | h
  .exact .inl (rd _ h)
  .exact .inr h
theorem Is.Nj{K:aX}{O:Addr->Prop}{H:Hp}{v:V}{d:D}{k:Bool}{ds:List D}(h:Is K O H v d)(e:l5 d=some (k,ds)):∃p xs,v=.ref p/\Sq K H k p xs/\bp K O H xs ds/\(¬O p\/∀H',Sq K H' k p xs):=by
 cases h with
 | tup ho hp hs=>cases e;exact ⟨_,_,rfl,.inl hp,hs,.inl ho⟩
 | xF hp hs=>cases e;exact ⟨_,_,rfl,Qi hp,hs,.inr λ_=>Qi hp⟩
 | lst ho hp hs=>cases e;exact ⟨_,_,rfl,.inl (.inl hp),hs,.inl ho⟩
 | zV ho hp hs=>cases e;exact ⟨_,_,rfl,.inl hp,hs,.inl ho⟩
 | zY hp hs=>cases e;exact ⟨_,_,rfl,Qh hp,hs,.inr λ_=>Qh hp⟩
 | _=>cases e
noncomputable def VA(K:aX)(tl:TE):TI:=λσ H R=>tl σ H λx H1=>∃a,x=.ref a/\(((∃xs,lM K H1 a xs)/\R (QH K a) H1)\/((∃xs,oj K H1 a xs)/\R (QG K a) H1))
theorem b50(hl:PE X l tl):PI X tg l (VA X.K tl):=by
 intro pins s σ H R I h
 refine cM (hl pins s σ H _ I h) λv s1 ⟨x,H1,I1,r1,q1⟩=>?_
 obtain ⟨a,e,q1⟩:=q1
 subst e
 cases r1
 rcases q1 with ⟨⟨xs,hq⟩,q⟩ | ⟨⟨xs,hq⟩,q⟩
 .obtain ⟨aJ,rv,p,hz⟩:=I1.list hq
  refine RO p.isList ?_
  refine ⟨s1.heap.objs.size,[s1.heap.objs.size],_,_,H1,rfl,I1.kept (t':=s1.toks) λb o e=>ft _ e,b11 a _,⟨_,nS _ rfl,rfl,rfl⟩,λb hb=>?_,q⟩
  have e:b=s1.heap.objs.size:=by simpa using hb
  subst e
  exact I1.z5 (dF _) (I1.cF.fresh (dF _))
 .obtain ⟨aJ,rv,p,hz⟩:=I1.tuple hq
  refine wpAny_pyIter_tuple (show s1.heap.IsTuple a aJ.toArray from p) ?_
  refine ⟨s1.heap.objs.size,[s1.heap.objs.size],_,_,H1,rfl,I1.kept (t':=s1.toks) λb o e=>ft _ e,b1e a _,⟨_,nS _ rfl,rfl,rfl⟩,λb hb=>?_,q⟩
  have e:b=s1.heap.objs.size:=by simpa using hb
  subst e
  exact I1.z5 (dF _) (I1.cF.fresh (dF _))
theorem SH(hp:PassesOwn (model X.prog X.w) X.A X.env X.xe)(hc:X.calm=true)(hi:EV X it fa)(hg:GV X tg g)(hb:Ap X body F)
  (hs:∀x,foldedSetIterable it X.env x=pure x:=by intro _;rfl):SV X (.For tg it body [] pos) (Bw fa g F):=by
 obtain ⟨ti,pi,ki⟩:=hi
 obtain ⟨F5,pg,kg⟩:=hg
 obtain ⟨tb,pb,kb⟩:=hb
 refine ⟨_,XW hp hc (b50 pi) pg pb hs,λO B σ H env fl ao D R e q=>?_⟩
 obtain ⟨r,e1,e2⟩:=bind_some e
 obtain ⟨⟨k,ds⟩,e4,e5⟩:=bind_some e2
 refine ki O B σ H env r _ R e1 λv H1 s1 r1=>?_
 obtain ⟨p,xs,rfl,h1,h2,h3⟩:=(r1.is λq=>R.oo).Nj e4
 refine ⟨p,rfl,?_⟩
 have q':jP X.K O B σ H1 env D fl ao:=q.from (Gd.refl s1)
 have keep:∀i fJ H2,Left X.K O B σ H1 env g F ds fl ao i fJ H2->Sq X.K H2 k p xs:=λi fJ H2 L=>by
  rcases h3 with h3 | h3
  .obtain ⟨dt,_,gd,_⟩:=L
   exact gd.sq h1 (.inl λz=>h3 (.inr z))
  .exact h3 H2
 cases k with
 | true =>
  refine .inl ⟨⟨xs,h1⟩,?_⟩
  exact b4S (xs:=xs) (Left X.K O B σ H1 env g F ds fl ao) ⟨env,R.grow s1,Gd.refl (aO.refl _),e5⟩ (λi fJ H2 _ L=>keep i fJ H2 L) (λi x fJ H2 hx L=>Yr kg kb h2 hx q' L) (λfJ H2 L=>S6 (by rw [h2.length];exact dF _) q' L)
 | false =>
  refine .inr ⟨⟨xs,h1⟩,?_⟩
  exact b7K (xs:=xs) (Left X.K O B σ H1 env g F ds fl ao) ⟨env,R.grow s1,Gd.refl (aO.refl _),e5⟩ (λi fJ H2 _ L=>keep i fJ H2 L) (λi x fJ H2 hx L=>Yr kg kb h2 hx q' L) (λfJ H2 L=>S6 (by rw [h2.length];exact dF _) q' L)
noncomputable def fM(lo:Int)(n:Nat):List D:=(nR n).map λ(k:Nat)=>D.int (lo+(k:Int))
def R62(i:Int):Prop:=-(2^62)<=i/\i<2^62
noncomputable instance (i:Int):Decidable (R62 i):=by unfold R62;infer_instance
noncomputable def D0:List D->Option (List D)
 | [.int j]=>if R62 j then some (fM 0 j.toNat) else none
 | _=>none
noncomputable def U7:List D->Option (List D)
 | [.int i,.int j]=>if R62 i/\R62 j then some (fM i (j-i).toNat) else none
 | _=>none
noncomputable def PZ(h:List D->Option (List D))(f:En->Option (List D))(g:GF)(F:SF):SF:=λenv=>(f env).bind λds=>(h ds).bind λis=>forL g F is env
theorem b6Y{K:aX}{O:Addr->Prop}{H:Hp}(lo:Int)(n:Nat):bp K O H ((nR n).map λ(k:Nat)=>V.int (lo+(k:Int))) (fM lo n):=by
 have h:=bp.ints (K:=K) (O:=O) (H:=H) ((nR n).map λ(k:Nat)=>lo+(k:Int))
 rw [Bh,Bh] at h
 exact h
theorem b0R{K:aX}{O:Addr->Prop}{H:Hp}{xs:List V}{i:Int}(h:bp K O H xs [.int i]):xs=[.int i]:=by
 cases h with
 | cons h t=>cases t;rw [Ao h]
theorem b7L{tb:TS}{F5:TG}{g:GF}{lo:Int}{n:Nat}{O:Addr->Prop}{B:Hp}{σ:L2.St}{H:Hp}{env ao:En}{fl:Fl}{D:Ends}
  (kg:∀(O:Addr->Prop) (B:Hp) (σ:L2.St) (H:Hp) (env ao:En) (v:V) (d:DL.D) (Q:L2.St->Hp->Prop),Rel X.K O B σ H env->Is X.K (OO O σ env) H v d->g d env=some ao ->
   (∀bB H',Rel X.K O B bB H' ao->Gd σ env H bB ao H'->Q bB H')->F5 v σ H Q)
  (kb:∀(O:Addr->Prop) (B:Hp) (σ:L2.St) (H:Hp) (env:En) (fl:Fl) (ao:En) (D:Ends),Rel X.K O B σ H env->F env=some (fl,ao)->jP X.K O B σ H env D fl ao->tb D σ H)
  (R:Rel X.K O B σ H env)(e:forL g F (fM lo n) env=some (fl,ao))(q:jP X.K O B σ H env D fl ao):
  ∃W:Nat->Nat->L2.St->Hp->Prop,(∃m,W 0 m σ H)/\∀i m σ H,W i m σ H ->
   ((CF lo n).stop i H/\D.nx σ H)\/((CF lo n).go i H/\∃N:L2.St->Hp->Prop,(∀bB H',N bB H'->∃m',m'<m/\W (i+1) m' bB H')/\∀x H',(CF lo n).IT i H x H'->F5 x σ H' λfJ H2=>tb { D with nx:=N,ct:=N,bk:=D.nx } fJ H2):=by
 refine b3i (Left X.K O B σ H env g F (fM lo n) fl ao) ⟨env,R,Gd.refl (aO.refl _),e⟩ (λi fJ H2 hi L=>?_) (λfJ H2 L=>S6 (by simp [fM]) q L)
 exact Yr kg kb (b6Y lo n) (by simp [hi]) q L
theorem b0v{body:List Stmt}{g:GF}{fs:En->Option (List D)}{p:Pos}(hp:PassesOwn (model X.prog X.w) X.A X.env X.xe)(hc:X.calm=true)(Ox:Gl X "range")(hm:X.mg "range" = none)(ha:AV X [a] fs)(hg:GV X tg g)(hb:Ap X body F)
  (h1:starEach [a] X.env=[(false,eval a X.env)]:=by rfl)(hs:∀x,foldedSetIterable (.Call (.Name "range" p) [a] [] pos) X.env x=pure x:=by intro _;rfl){ui:Pos}:
  SV X (.For tg (.Call (.Name "range" p) [a] [] pos) body [] ui) (PZ D0 fs g F):=by
 obtain ⟨ti,pi,ki⟩:=ha
 obtain ⟨F5,pg,kg⟩:=hg
 obtain ⟨tb,pb,kb⟩:=hb
 refine ⟨_,XW hp hc (b2r Ox hm pi h1) pg pb hs,λO B σ H env fl ao D R e q=>?_⟩
 obtain ⟨ds,e1,e2⟩:=bind_some e
 obtain ⟨is,e2,e3⟩:=bind_some e2
 refine ki O B σ H env ds _ R e1 λvs H1 s1 r1=>?_
 unfold D0 at e2
 split at e2
 .obtain ⟨⟨h1,h2⟩,rfl⟩:=oi e2
  exact ⟨_,b0R r1,h1,h2,b7L kg kb (R.grow s1) e3 (q.from (Gd.refl s1))⟩
 .cases e2
noncomputable def FY(c:En->Option Bool)(F:SF):Nat->SF
 | 0,_=>none
 | n+1,env=>match c env with
  | none=>none
  | some false=>some (.nx,env)
  | some true=>match F env with
   | some (.nx,dt)=>FY c F n dt
   | some (.ct,dt)=>FY c F n dt
   | some (.bk,dt)=>some (.nx,dt)
   | some (.rt r,dt)=>some (.rt r,dt)
   | none=>none
noncomputable def SG(m:En->Nat)(c:En->Option Bool)(F:SF):SF:=λenv=>FY c F (m env) env
theorem b0u(m:En->Nat)(hp:PassesOwn (model X.prog X.w) X.A X.env X.xe)(hc:TV X c ga)(hb:Ap X body F):SV X (.While c body [] pos) (SG m ga F):=by
 obtain ⟨tc,pc,kc⟩:=hc
 obtain ⟨tb,pb,kb⟩:=hb
 refine ⟨_,b4l hp pc pb,λO B σ H env fl ao D R e q=>?_⟩
 refine ⟨λn yH H1=>∃df,Rel X.K O B yH H1 df/\Gd σ env H yH df H1/\FY ga F n df=some (fl,ao),⟨m env,env,R,Gd.refl (aO.refl _),e⟩,?_⟩
 rintro n yH H1 ⟨df,R1,g1,e1⟩
 cases n with
 | zero=>cases e1
 | succ n =>
  rw [FY] at e1
  cases h:ga df with
  | none=>rw [h] at e1;cases e1
  | some x =>
   rw [h] at e1
   refine kc O B yH H1 df x _ R1 h λH2 s2=>?_
   cases x with
   | false =>
    rw [if_neg DG]
    cases e1
    exact q yH H2 (R1.grow s2) (g1.trans (Gd.refl s2))
   | true =>
    rw [if_pos rfl]
    refine ⟨λbB H'=>∃dt,Rel X.K O B bB H' dt/\Gd σ env H bB dt H'/\FY ga F n dt=some (fl,ao),λbB H' ⟨dt,a1,a2,a3⟩=>⟨n,AI n,dt,a1,a2,a3⟩,?_⟩
    dsimp only at e1
    cases hF:F df with
    | none=>rw [hF] at e1;cases e1
    | some y =>
     obtain ⟨f2,dt⟩:=y
     rw [hF] at e1
     have go:=g1.trans (Gd.refl s2)
     refine kb O B yH H2 df f2 dt _ (R1.grow s2) hF ?_
     cases f2 with
     | nx=>exact λfJ H3 R2 g2=>⟨dt,R2,go.trans g2,e1⟩
     | ct=>exact λfJ H3 R2 g2=>⟨dt,R2,go.trans g2,e1⟩
     | bk=>cases e1;exact λfJ H3 R2 g2=>q fJ H3 R2 (go.trans g2)
     | rt r=>cases e1;exact q
end
noncomputable def Bs(K:aX)(n:Nat)(φ:List D->Option Sl):Sp:=λvs H Q _=>∃(O:Addr->Prop) (ds:List D) (r:Sl),IP K O H/\bp K O H vs ds/\vs.length=n/\φ ds=some r /\
 ∀v H',aO H H'->Res K O H H' v r->Q v H'
noncomputable def zy(N:Nat)(ds:List D):En:=ds.map Sl.sh++zJ (N-ds.length) Sl.no
noncomputable def cn(F:SF)(N:Nat)(ds:List D):Option Sl:=match F (zy N ds) with
 | some (.rt r,_)=>some r
 | some (.nx,_)=>some (.sh .cT)
 | _=>none
theorem YI{K:aX}{O:Addr->Prop}{H:Hp}{N:List Str}{vs:List V}{ds:List D}(hO:IP K O H)(h:bp K O H vs ds):Rel K O H (start N vs) H (zy N.length ds):=by
 have hl:=h.length
 have NT:∀(i:Nat) (s:Sl),(zy N.length ds)[i]?=some s->s.own->False:=λi s e1 o=>by
  unfold zy at e1
  rw [Sj] at e1
  split at e1
  .rw [zq] at e1
   obtain ⟨d,_,e⟩:=map_some e1
   cases e
   exact o
  .rw [LG] at e1
   split at e1
   .cases e1;exact o
   .cases e1
 have no:∀p,¬zP (start N vs) (zy N.length ds) p:=λp ⟨i,es,e1,o,_⟩=>NT i es e1 o
 refine ⟨aO.refl _,hO,?_,λi d e=>?_,λi es e=>(NT i _ e trivial).elim,λi es e=>(NT i _ e trivial).elim,λi ks es e=>(NT i _ e trivial).elim,λi j es fs p e _ _ _ o _=>(NT i _ e o).elim⟩
 .simp [L2.start,zy,hl]
 .unfold zy at e
  rw [Sj] at e
  split at e
  .rename_i hi
   rw [c6] at hi
   rw [zq] at e
   obtain ⟨d',e1,e2⟩:=map_some e
   cases e2
   obtain ⟨x,hx,hd⟩:=h.get e1
   refine ⟨x,?_,hd.less λq z=>z.elim id λz=>(no q z).elim⟩
   unfold L2.start
   rw [Xx (by rw [c6,hl];exact hi),zq,hx]
   rfl
  .rw [LG] at e
   split at e
   .cases e
   .cases e
section
variable {P:Program}{w:World}{K:aX}{mg:Str->Option Value}{base:Heap}
theorem Wl{x qual:Str}{st:Stmt}{f:Addr}{fd:FuncData}{N ps:List Str}{k:Nat}{F:SF}(Fn:Fs K x qual st f fd)(S:dN N ps (hX st))
  (dz:∀(gZ:Value) (A:Around) (outer:List Env) (s:Shared) (H:Hp) (E:XK),c8 k (A.deeper (envOfC qual (hX st) s.heap.objs.size f gZ)) ->
   Ap (z7 pB P w K mg base N qual (hX st) f gZ A outer s H E).tX (pD st) F):dh P w K mg base pB (k+1) f fd ps (Bs K ps.length (cn F N.length)):=by
 refine Fn.ok S (λvs H Q E h=>?_) (λgZ A outer s H vs Q E hr h=>?_)
 .obtain ⟨O,ds,r,_,_,hl,_⟩:=h
  exact hl
 obtain ⟨O,ds,r,hO,hi,hl,e,q⟩:=h
 obtain ⟨t,p,kk⟩:=dz gZ A outer s H E hr
 refine ⟨t,p,?_⟩
 unfold cn at e
 cases hF:F (zy N.length ds) with
 | none=>rw [hF] at e;cases e
 | some y =>
  obtain ⟨fl,ao⟩:=y
  rw [hF] at e
  refine kk O H (start N vs) H (zy N.length ds) fl ao _ (YI hO hi) hF ?_
  cases fl with
  | nx=>cases e;exact λbB H' R' _=>q .cT H' R'.same Is.cT
  | bk=>cases e
  | ct=>cases e
  | rt r=>cases e;exact λv H' s h=>q v H' s h
end
section
variable {X:Cx}{k:Nat}{f:Addr}{fd:FuncData}{ps:List Str}{φ:List D->Option Sl}{x:Str}{p pos:Pos}{e:Expr}{es:List Expr}{fs:En->Option (List D)}
noncomputable def cG(n:Nat)(φ:List D->Option Sl)(fs:En->Option (List D)):En->Option Sl:=λenv=>(fs env).bind λds=>if ds.length=n then φ ds else none
theorem b3K(ka:∀(O:Addr->Prop) (B:Hp) (σ:L2.St) (H:Hp) (env:En) (ds:List D) (Q:List V->Hp->Prop),Rel X.K O B σ H env->fs env=some ds->(∀vs H',aO H H'->bp X.K (OO O σ env) H' vs ds->Q vs H')->t σ H Q)
  (O:Addr->Prop)(B:Hp)(σ:L2.St)(H:Hp)(env:En)(r:Sl)(Q:VK)(R:Rel X.K O B σ H env)(e:cG n φ fs env=some r)(q:∀v H',aO H H'->Res X.K (OO O σ env) H H' v r->Q v H'):XN (Bs X.K n φ) [] E t σ H Q:=by
 obtain ⟨ds,e1,e2⟩:=bind_some e
 refine ka O B σ H env ds _ R e1 λvs H1 s1 r1=>?_
 by_cases hn:ds.length=n
 .rw [if_pos hn] at e2
  rw [E4]
  refine ⟨OO O σ env,ds,r,(R.grow s1).dm,r1,by rw [r1.length,hn],e2,λv H2 s2 r2=>q v H2 (s1.trans s2) (r2.from s1)⟩
 .rw [if_neg hn] at e2;cases e2
theorem b75(F:dh X.prog X.w X.K X.mg X.base pB k f fd ps (Bs X.K ps.length φ))(hr:c8 k X.A)(hg:Gl X x)(hm:X.mg x=some (.ref f))(hk:vY X.K (.ref f)=true)(hb:Binds X.K fd ps [])
  (ha:AV X (e::es) fs)(ql:(x==("__debug__":Str))=false:=by decide)(he:starEach (e::es) X.env=(false,eval e X.env)::starEach es X.env:=by rfl)(nP:(backTo pos (starEach es X.env)).any (·.1)=false:=by rfl):
  EV X (.Call (.Name x p) (e::es) [] pos) (cG ps.length φ fs):=by
 obtain ⟨t,pt,ka⟩:=ha
 exact ⟨_,Yd F hr hg hm hk hb .nil Km pt ql he nP,λO B σ H env r Q R e q=>b3K ka O B σ H env r Q R e q⟩
end
noncomputable def spT(K:aX):Sp:=λvs H Q _=>∃(a:Addr) (ns:List Int),vs=[.ref a]/\lM K H a (ns.map V.int)/\ns.length<=63/\Tb K H/\∀H',aO H H'->Q (.bl true) H'
theorem c0i{P:Program}{w:World}{K:aX}{mg:Str->Option Value}{base:Heap}{k:Nat}{f:Addr}{fd:FuncData}{φ:List D->Option Sl}(F:dh P w K mg base pB k f fd ["script"] (Bs K 1 φ))
  (h:∀ns:List Int,ns.length<=63->φ [.lst true (ns.map D.int)]=some (Sl.sh (.bl true))):dh P w K mg base pB k f fd ["script"] (spT K):=by
 refine F.imp λvs H Q E q=>?_
 obtain ⟨a,ns,rfl,hs,hl,tb,q⟩:=q
 refine ⟨λ_=>False,[.lst true (ns.map D.int)],_,⟨λ_ z=>z.elim,tb⟩,.cons ?_ .nil,rfl,h ns hl,λv H' sm r=>?_⟩
 .rcases hs with hs | hs
  .exact .zV id hs (bp.ints ns)
  .exact .zY (.inr hs) (bp.ints ns)
 .have r':Is K (λ_=>False) H' v (.bl true):=r
  rw [Iq r']
  exact q H' sm
theorem DT{l:Xb}{q:Program}{loose:List Str}{XP:(Str->Option Value)->Heap->Prop}{YP:World->Heap->Prop}{d:DefRec}{K:Params->aX}{k:Nat}(hk:c8 k callerA)(hn:l.most=some 63)(OD:d.params.defaults=[])
  {ts:List Addr}(hY:∀(w:World) (h:Heap),YP w h->(K w.params).In h/\∀P∈ts,h.get? P=some (LD #[]))(hL:∀w:World,Sv (K w.params) ts=true)
  (F:∀(w:World) (mg:Str->Option Value) (fa:Addr) (h:Heap),(K w.params).In h->h.Ns mainGlobals mg->mg d.name=some (.ref fa) ->
   ∃fd:FuncData,(∀(s:Shared) (u:Value),BindsTo s fd ⟨[u],[]⟩ [("script",u)])/\∀base:Heap,(K w.params).In base->base.Ns mainGlobals mg->dh l.prog w (K w.params) mg base pB k fa fd ["script"] (spT (K w.params))):
  PySem.W.WalkO q loose XP YP l.row.toRowW d [] (λf vs=>WK f vs):=
 L2.FZ (n:=63) (k:=k) (x:="script") (CX:=λ_=>pB) (sp:=λw=>spT (K w.params)) hn (by decide) OD hk hY hL F (λw _ a ns hl tb hS=>⟨a,ns,rfl,hS,hl,tb,λ_ sm=>⟨rfl,tb.grow sm⟩⟩) λ_ _ _ _ _ z=>z
section
variable {X:Cx}{a:Expr}{pos p p2:Pos}{fa:En->Option Sl}
def N9(K:aX)(T:String)(x:V)(H:Hp)(b:Bool):Prop:=match x with
 | .cT=>b=false
 | .bl _=>b=(T == "bool" || T == "int")
 | .int _=>b=(T == "int")
 | .str _=>b=(T == "str")
 | .ref p=>(b=(T == "list")/\∃xs,lM K H p xs)\/(b=(T == "tuple")/\∃xs,oj K H p xs)
 | _=>False
theorem b5d(hT:T = "int" \/ T = "bool" \/ T = "str" \/ T = "list" \/ T = "tuple"):
  dO X (.builtin "isinstance") (λxs H Q=>∃x b,xs=[x,.ty T]/\N9 X.K T x H b/\Q (.bl b) H):=by
 intro pins s σ H xs us Q I r h
 obtain ⟨x,b,rfl,hx,q⟩:=h
 obtain ⟨u,w',rfl,r1,r2⟩:=vals2 r
 obtain rfl:w'=Hc T:=r2
 have yes:∀{Tx:String},s.TypeIs u Tx->isSubtype (.type Tx) (.type T)=pure true->typeOf (.type T)=pure (.type "type")->Q (.bl true) H->wpAny (model X.prog X.w) X.A (call (.builtin "isinstance") [u,.type T]) (EP X pins σ Q) X.xe s:=λh1 h2 h3 hq =>
  Ka (isinstance_true h3 h2) ⟨h1,⟨.bl true,H,I,rfl,hq⟩⟩
 have fin:Q (.bl false) H->EP X pins σ Q (.bool false) { s with toks:=s.toks+1 }:=λhq=>⟨.bl false,H,I.tok _,rfl,hq⟩
 have ty:typeOf (.type T)=pure (.type "type"):=by rcases hT with rfl | rfl | rfl | rfl | rfl<;>rfl
 cases x with
 | cT =>
  obtain rfl:u=vX:=r1
  obtain rfl:b=false:=hx
  refine Ka (isinstance_false_none ?_ ty ?_) (fin q)
  .rcases hT with rfl | rfl | rfl | rfl | rfl<;>decide +kernel
  .rcases hT with rfl | rfl | rfl | rfl | rfl<;>rfl
 | bl k =>
  obtain rfl:u=AK k:=r1
  rcases hT with rfl | rfl | rfl | rfl | rfl
  .obtain rfl:b=true:=hx
   exact yes (Tx:="bool") rfl rfl ty q
  .obtain rfl:b=true:=hx
   exact yes (Tx:="bool") rfl rfl ty q
  all_goals
   obtain rfl:b=false:=hx
   exact Ka (isinstance_false_bool (by decide +kernel) ty (by rfl)) (fin q)
 | int i =>
  obtain ⟨t,rfl⟩:=r1
  rcases hT with rfl | rfl | rfl | rfl | rfl
  .obtain rfl:b=true:=hx
   exact yes (Tx:="int") (typeIs_int s i t) rfl ty q
  all_goals
   obtain rfl:b=false:=hx
   exact Ka (isinstance_false_int (by decide +kernel) ty (by rfl)) (fin q)
 | str z =>
  obtain ⟨t,rfl⟩:=r1
  rcases hT with rfl | rfl | rfl | rfl | rfl
  rotate_left 2
  .obtain rfl:b=true:=hx
   exact yes (Tx:="str") (Ro s z t) rfl ty q
  all_goals
   obtain rfl:b=false:=hx
   exact Ka (isinstance_false_str (by decide +kernel) ty (by rfl)) (fin q)
 | ref l =>
  cases r1
  rcases hx with ⟨rfl,xs,hq⟩ | ⟨rfl,xs,hq⟩
  .obtain ⟨aJ,_,pl,_⟩:=I.list hq
   have JJ:=pl.isList.typeIs
   obtain ⟨o,n,e,c,_,_⟩:=pl
   rcases hT with rfl | rfl | rfl | rfl | rfl
   rotate_left 3
   .exact yes (Tx:="list") JJ rfl ty q
   all_goals exact Ka (isinstance_false_list (by decide +kernel) ty (by rfl)) ⟨⟨o,e,c⟩,fin q⟩
  .obtain ⟨aJ,_,pl,_⟩:=I.tuple hq
   have JJ:=pl.typeIs
   obtain ⟨o,e,c,_⟩:=pl
   rcases hT with rfl | rfl | rfl | rfl | rfl
   rotate_left 4
   .exact yes (Tx:="tuple") JJ rfl ty q
   all_goals exact Ka (isinstance_false_tuple (by decide +kernel) ty (by rfl)) ⟨⟨o,e,c⟩,fin q⟩
 | _=>exact zp hx
noncomputable def c9(T:String):D->Bool
 | .cT=>false
 | .bl _=>(T == "bool" || T == "int")
 | .int _=>(T == "int")
 | .str _=>(T == "str")
 | .tup _=>(T == "tuple")
 | .lst _ _=>(T == "list")
 | .exc _=>false
 | .rf _ _=>false
 | .obj _ _ _=>false
 | .lX _ _=>false
 | .dI _ _=>false
noncomputable def D.isExc:D->Bool
 | .exc _=>true
 | .rf _ _=>true
 | .obj _ _ _=>true
 | .lX _ _=>true
 | .dI _ _=>true
 | _=>false
noncomputable def zZ(T:String)(d:D):Option Sl:=if d.isExc=true then none else some (.sh (.bl (c9 T d)))
theorem c0t{K:aX}{O:Addr->Prop}{H:Hp}{T:String}{v:V}{d:D}(h:Is K O H v d)(ne:d.isExc=false):N9 K T v H (c9 T d):=by
 cases h with
 | cT=>rfl
 | bl b=>rfl
 | int i=>rfl
 | str x=>rfl
 | tup ho hp hs=>exact .inr ⟨rfl,_,.inl hp⟩
 | xF hp hs=>exact .inr ⟨rfl,_,Qi hp⟩
 | lst ho hp hs=>exact .inl ⟨rfl,_,.inl (.inl hp)⟩
 | zV ho hp hs=>exact .inl ⟨rfl,_,.inl hp⟩
 | zY hp hs=>exact .inl ⟨rfl,_,Qh hp⟩
 | exc ho hn hp=>cases ne
 | rf ho hp=>cases ne
 | obj=>cases ne
 | lX=>cases ne
 | dI=>cases ne
 | C8 ho hp=>cases ne
noncomputable def G9(T:String)(f:En->Option Sl):En->Option Sl:=λenv=>(f env).bind λr=>zZ T r.d
theorem c0H(hT:T = "int" \/ T = "bool" \/ T = "str" \/ T = "list" \/ T = "tuple")(hg:Gl X "isinstance")(hm:X.mg "isinstance" = none)(Lc:Gl X x)(K':X.mg x=none)(hv:bootBuiltins x=some (.type T))(ha:EV X a fa)
  (hn:x ≠ "__name__":=by decide)(hd:(x==("__debug__":Str))=false:=by decide)
  (hs:starEach [a,.Name x p2] X.env=[(false,eval a X.env),(false,eval (.Name x p2) X.env)]:=by rfl)(yI:starEach [.Name x p2] X.env=[(false,eval (.Name x p2) X.env)]:=by rfl):
  EV X (.Call (.Name "isinstance" p) [a,.Name x p2] [] pos) (G9 T fa):=by
 obtain ⟨t,pt,k⟩:=ha
 refine ⟨_,KD (b5d hT) hg hm (by decide +kernel) (wm pt (wm (b7e (v:=.ty T) Lc K' hv rfl hn hd) zx yI) (by rw [hs,yI])) (by decide) (by decide) (by rw [hs,yI]) (by rw [yI];rfl),λO B σ H env s Q R e q=>?_⟩
 obtain ⟨r,e1,e2⟩:=bind_some e
 unfold zZ at e2
 split at e2
 .cases e2
 .rename_i ne
  cases e2
  exact k O B σ H env r _ R e1 λv H1 s1 r1=>⟨v,_,rfl,c0t (r1.is λq=>R.oo) (by simpa using ne),q _ H1 s1 (Is.bl _)⟩
end
section
variable {X:Cx}{a b c e:Expr}{fa fb:En->Option Sl}{pos:Pos}
noncomputable def Bx(i:Nat)(f:En->Option Sl):SF:=λenv=>match env[i]? with
 | some (.ow ds)=>(f env).bind λr=>match r.d with
  | .lst false es=>if ds.length+es.length<=16777216 then some (.nx,env.set i (.ow (ds++es))) else none
  | _=>none
 | _=>none
theorem b18{i:Nat}{x:Str}{p1 p2 aB:Pos}(ha:EV X e fa)(hN:X.N[i]?=some x:=by rfl)(hv:l4 X.env.scope x:=by first | exact dY rfl | exact cO (dY rfl) | exact cO (cO rfl))(hd:(x==("__debug__":Str))=false:=by decide)
  (de:(x==("__classdict__":Str))=false:=by decide)(hs:starEach [e] X.env=[(false,eval e X.env)]:=by rfl)
  (b9:attributeBase (.Name x p1) "extend" X.env (eval (.Name x p1) X.env)=eval (.Name x p1) X.env:=by rfl)
  (fQ:((backTo aB (starEach [e] X.env)).all (λx=>!x.1)&&(backToKw aB (keywordEach [] X.env)).all (λx=>x.1.isSome)
   && decide ([e].length+([]:List Keyword).length+(if ([]:List Keyword).isEmpty then 0 else 1)<30))=true:=by rfl)
  (b8:(p2.endLine==aB.line)=true:=by rfl)
  (AA:swapsWith (.Call (.Attribute (.Name x p1) "extend" p2) [e] [] aB) none pos.line X.env=pure false:=by rfl):
  SV X (.Expr (.Call (.Attribute (.Name x p1) "extend" p2) [e] [] aB) pos) (Bx i fa):=by
 obtain ⟨t,p,k⟩:=ha
 refine ⟨_,Kz (Sn LF c51 PySem.F.type_list_extend b2K (Bi hN hv hd de) (wm p zx hs) b9 fQ b8 hs rfl) AA,λO B σ H env fl ao D R e q=>?_⟩
 unfold Bx at e
 cases h:env[i]? with
 | none=>rw [h] at e;cases e
 | some s =>
  rw [h] at e
  cases s with
  | no=>cases e
  | sh d=>cases e
  | dw ds=>cases e
  | tw _ _=>cases e
  | ow ds =>
   obtain ⟨r,e1,e2⟩:=bind_some e
   obtain ⟨l,xs,f1,f2,f3,f4⟩:=R.ow i ds h
   refine ⟨_,f1,.inl ⟨rfl,_,lM.of f3⟩,?_⟩
   refine k O B σ H env r _ R e1 λv H1 s1 r1=>?_
   have hi:=r1.is λq=>R.oo
   cases hd:r.d with
   | lst ro es =>
    rw [hd] at hi e2
    cases ro with
    | true=>cases e2
    | false =>
     obtain ⟨hl,e3⟩:=oi (show (if ds.length+es.length<=16777216 then some (Fl.nx,env.set i (.ow (ds++es))) else none)=some (fl,ao) from e2)
     cases e3
     obtain ⟨b,zs,rfl,hb,g1,g2⟩:=X2 hi
     refine ⟨l,b,xs,zs,rfl,rfl,s1 _ _ f3,g1,by rw [f4.length,g2.length,yJ];exact hl,?_⟩
     obtain ⟨R',g'⟩:=(R.grow s1).wr h f1 ((f4.grow s1).append g2)
     exact q _ _ R' (g'.from s1)
   | _=>rw [hd] at e2;cases e2
noncomputable def Bv(i j:Nat):SF:=λenv=>match env[j]? with
 | some (.ow ds)=>(ds[ds.length-1]?).bind λd=>if i<env.length/\i≠j then some (.nx,(env.set j (.ow ds.dropLast)).set i (.sh d)) else none
 | _=>none
theorem b16{i j:Nat}{x y:Str}{pos' p1 p2 aB:Pos}(hN:X.N.Nodup)(hi:X.N[i]?=some x)(hx:Loc X.env.scope x)
  (V':X.N[j]?=some y:=by rfl)(hv:l4 X.env.scope y:=by first | exact dY rfl | exact cO (dY rfl) | exact cO (cO rfl))(hd:(y==("__debug__":Str))=false:=by decide)
  (de:(y==("__classdict__":Str))=false:=by decide)
  (b9:attributeBase (.Name y p1) "pop" X.env (eval (.Name y p1) X.env)=eval (.Name y p1) X.env:=by rfl)
  (b8:(p2.endLine==aB.line)=true:=by rfl)
  (hs:swapsWith (.Call (.Attribute (.Name y p1) "pop" p2) [] [] aB) (some (.Name x pos')) pos.line X.env=pure false:=by rfl)(hf:X.fn x=true\/X.env.scope.names.lookup x=some .local:=by first | exact .inl rfl | exact .inr rfl | assumption):
  SV X (.Assign [.Name x pos'] (.Call (.Attribute (.Name y p1) "pop" p2) [] [] aB) pos) (Bv i j):=by
 refine ⟨_,XX hN hi hx (XU LF Xm c55 b59 (Bi V' hv hd de) b9 b8) hs hf,λO B σ H env fl ao D R e q=>?_⟩
 unfold Bv at e
 cases h:env[j]? with
 | none=>rw [h] at e;cases e
 | some s =>
  rw [h] at e
  cases s with
  | no=>cases e
  | sh d=>cases e
  | dw ds=>cases e
  | tw _ _=>cases e
  | ow ds =>
   obtain ⟨d,e1,e2⟩:=bind_some e
   obtain ⟨⟨hl,AB⟩,e3⟩:=a8L e2
   cases e3
   obtain ⟨l,xs,f1,f2,f3,f4⟩:=R.ow j ds h
   obtain ⟨v,VG,VF⟩:=f4.get e1
   obtain ⟨R',g'⟩:=R.wr h f1 f4.dropLast
   refine ⟨_,f1,.inl ⟨rfl,_,lM.of f3⟩,l,xs,v,rfl,rfl,f3,by rw [f4.length];exact VG,?_⟩
   have VE:bp X.K (OO O σ (env.set j (.ow ds.dropLast))) (upd H l (.lst xs.dropLast)) [v] [d]:=g'.N7 (.cons VF .nil)
   cases VE with
   | cons VE _ =>
    obtain ⟨R2,g2⟩:=R'.set (r:=.sh d) (i:=i) (aO.refl _) VE (by simp;exact hl)
    exact q _ _ R2 (g'.trans g2)
noncomputable def LN(i:Nat)(f g:En->Option Sl):SF:=λenv=>match env[i]? with
 | some (.ow ds)=>(f env).bind λr=>(g env).bind λk=>match k.d with
  | .int n=>(xM ds.length n).bind λj=>some (.nx,env.set i (.ow (ds.set j r.d)))
  | _=>none
 | _=>none
theorem b6Q{i:Nat}{x:Str}{p1 p2:Pos}(ha:EV X e fa)(hb:EV X b fb)(hN:X.N[i]?=some x:=by rfl)(hv:l4 X.env.scope x:=by first | exact dY rfl | exact cO (dY rfl) | exact cO (cO rfl))(hd:(x==("__debug__":Str))=false:=by decide)
  (de:(x==("__classdict__":Str))=false:=by decide)
  (C3:∀v,assign (.Subscript (.Name x p1) b p2) X.env v=(do
   let ov <-holding [v] (eval (.Name x p1) X.env)
   let iv <-holding [v,ov] (eval b X.env)
   standAt p2
   holding [v,ov,iv] (setItem ov iv v)
   release [v,ov,iv] []):=by intro _;rfl)
  (hs:swapsWithSole [.Subscript (.Name x p1) b p2] e pos.line X.env=pure false:=by rfl)(hw:swappedStores [.Subscript (.Name x p1) b p2] e X.env=pure none:=by rfl)
  (h1:(assignEach [.Subscript (.Name x p1) b p2] X.env).map (·.2)=[assign (.Subscript (.Name x p1) b p2) X.env]:=by rfl):
  SV X (.Assign [.Subscript (.Name x p1) b p2] e pos) (LN i fa fb):=by
 obtain ⟨t,p,k⟩:=ha
 obtain ⟨t',p',k'⟩:=hb
 refine ⟨_,b9H p (b9M (Bi hN hv hd de) p' b4c C3) hs hw h1,λO B σ H env fl ao D R e q=>?_⟩
 unfold LN at e
 cases h:env[i]? with
 | none=>rw [h] at e;cases e
 | some s =>
  rw [h] at e
  cases s with
  | no=>cases e
  | sh d=>cases e
  | dw ds=>cases e
  | tw _ _=>cases e
  | ow ds =>
   obtain ⟨r,e1,e2⟩:=bind_some e
   obtain ⟨kk,e2,e3⟩:=bind_some e2
   obtain ⟨l,xs,f1,f2,f3,f4⟩:=R.ow i ds h
   refine k O B σ H env r _ R e1 λv H1 s1 r1=>⟨_,f1,?_⟩
   refine k' O B σ H1 env kk _ (R.grow s1) e2 λw H2 s2 r2=>?_
   have hi:=r2.is λq=>(R.grow s1).oo
   cases hd:kk.d with
   | int n =>
    rw [hd] at hi e3
    obtain rfl:=Ao hi
    obtain ⟨j,e4,e5⟩:=bind_some (show (xM ds.length n).bind (λj=>some (Fl.nx,env.set i (.ow (ds.set j r.d))))=some (fl,ao) from e3)
    cases e5
    have Cg:=s1.trans s2
    refine ⟨l,xs,n,j,rfl,rfl,Cg _ _ f3,by rw [f4.length];exact e4,?_⟩
    obtain ⟨R',g'⟩:=(R.grow Cg).wr h f1 ((f4.grow Cg).set ((r1.is λq=>R.oo).grow s2) j)
    exact q _ _ R' (g'.from Cg)
   | _=>rw [hd] at e3;cases e3
def PP(X:Cx)(e:Option Expr)(f:En->Option (Option Int)):Prop:=
 ∃t:TO,PO X e t/\∀(O:Addr->Prop) (B:Hp) (σ:L2.St) (H:Hp) (env:En) (o:Option Int) (Q:Option Int->Hp->Prop),Rel X.K O B σ H env->f env=some o->(∀H',aO H H'->Q o H')->t σ H Q
noncomputable def QV:En->Option (Option Int):=λ_=>some none
noncomputable def NJ(f:En->Option Sl):En->Option (Option Int):=λenv=>(f env).bind λr=>match r.d with
 | .int i=>some (some i)
 | _=>none
theorem b2p:PP X none QV:=⟨_,b66,λO B σ H env o Q R e q=>by
 obtain rfl:=lH e
 exact q H (aO.refl _)⟩
theorem b2o(h:EV X e fa):PP X (some e) (NJ fa):=by
 obtain ⟨t,p,k⟩:=h
 refine ⟨_,b65 p,λO B σ H env o Q R e q=>?_⟩
 obtain ⟨r,e1,e2⟩:=bind_some e
 refine k O B σ H env r _ R e1 λv H1 s1 r1=>?_
 have hi:=r1.is λq=>R.oo
 cases hd:r.d with
 | int i =>
  rw [hd] at hi e2
  obtain rfl:=lH e2
  exact ⟨i,Ao hi,q H1 s1⟩
 | _=>rw [hd] at e2;cases e2
noncomputable def cutD(xs:List D)(lo hi:Option Int):List D:=(xs.drop (HT.dP xs.length 0 lo)).take (HT.dP xs.length xs.length hi-HT.dP xs.length 0 lo)
theorem bp.cut{K:aX}{O:Addr->Prop}{H:Hp}{xs:List V}{ds:List D}(h:bp K O H xs ds)(lo hi:Option Int):bp K O H (AG xs lo hi) (cutD ds lo hi):=by
 unfold AG cutD
 rw [h.length]
 exact (h.drop _).take _
noncomputable def O5(f:En->Option (Bool×List D))(lo hi:En->Option (Option Int)):En->Option Sl:=λenv=>(f env).bind λx=>(lo env).bind λl=>(hi env).bind λh =>
 if x.1=true then some (.ow (cutD x.2 l h)) else if ¬(HT.dP x.2.length 0 l=0/\HT.dP x.2.length x.2.length h=x.2.length) then some (.sh (.tup (cutD x.2 l h))) else none
theorem b0W{ba:En->Option (Bool×List D)}{lo hi:Option Expr}{fl fh:En->Option (Option Int)}{p2:Pos}(ha:BV X a ba)(hl:PP X lo fl)(hh:PP X hi fh):EV X (.Subscript a (.Slice lo hi none p2) pos) (O5 ba fl fh):=by
 obtain ⟨t,p,k⟩:=ha
 obtain ⟨tl,pl,kl⟩:=hl
 obtain ⟨th,ph,kh⟩:=hh
 refine ⟨_,b4o (F6.or b9w) p pl ph,λO B σ H env r Q R e q=>?_⟩
 obtain ⟨⟨kk,ds⟩,e1,e2⟩:=bind_some e
 obtain ⟨l,e2,e3⟩:=bind_some e2
 obtain ⟨h,e3,e4⟩:=bind_some e3
 refine k O B σ H env kk ds _ R e1 λpp xs H1 s1 hq hx=>?_
 refine kl O B σ H1 env l _ (R.grow s1) e2 λH2 s2=>?_
 refine kh O B σ H2 env h _ ((R.grow s1).grow s2) e3 λH3 s3=>?_
 have Cg:=s1.trans (s2.trans s3)
 have l8:=hq.grow (s2.trans s3)
 have Az:=hx.grow (s2.trans s3)
 dsimp only at e4
 cases kk with
 | true =>
  rw [if_pos rfl] at e4
  obtain rfl:=lH e4
  exact .inl ⟨pp,xs,rfl,l8,λp hp=>q _ _ (Cg.trans (zz hp _)) ((L3 hp (Az.cut l h)).from Cg)⟩
 | false =>
  rw [if_neg DG] at e4
  obtain ⟨hw,rfl⟩:=oi e4
  exact .inr ⟨pp,xs,rfl,l8,by rw [Az.length];exact hw,λp hp=>q _ _ (Cg.trans (zz hp _)) ((S5 (O:=OO O σ env) (H:=H3) (λ_ z=>(R.grow Cg).oo z) hp (Az.cut l h)).from Cg)⟩
noncomputable def O4(f:En->Option Sl)(lo hi:En->Option (Option Int)):En->Option Sl:=λenv=>(f env).bind λx=>(lo env).bind λl=>(hi env).bind λh=>match x.d with
 | .tup ds=>some (.sh (.tup (cutD ds l h)))
 | _=>none
end
structure Def(K:aX)(mg:Str->Option Value)(x:Str)(st:Stmt)(ps:List Str)(f:Addr)(fd:FuncData):Prop where
 fn:Fs K x x st f fd
 bd:Binds K fd ps []
 m:mg x=some (.ref f)
end DL
namespace DL
open PySem PySem.Spec PyProof.Rows L2
structure Fx(X:Cx)(N:List Str)(sc:Scope)(k:Nat)(full:Bool:=true):Prop where
 n:X.N=N
 sc:X.env.scope=sc
 calm:X.calm=true
 fn:full=true->∀x,X.fn x=true
 own:PassesOwn (model X.prog X.w) X.A X.env X.xe
 room:c8 k X.A
 nd:N.Nodup
 top:full=true->X.stack=X.env::X.outer/\X.env.frame=some X.env.locals/\X.ex=[]
section
variable {X:Cx}{N:List Str}{sc:Scope}{k:Nat}{full:Bool}{pos p p1 p2 pos' aB:Pos}{e a b:Expr}{fa fb:En->Option Sl}
theorem Fx.A6(h:Fx X N sc k full)(hv:l4 sc x):l4 X.env.scope x:=by rw [h.sc];exact hv
theorem Fx.loc(h:Fx X N sc k full)(hv:Loc sc x):Loc X.env.scope x:=by rw [h.sc];exact hv
theorem Fx.ix(h:Fx X N sc k full){i:Nat}{x:Str}(hN:N[i]?=some x):X.N[i]?=some x:=by rw [h.n];exact hN
theorem Fx.K2(h:Fx X N sc k full)(hf:full=true\/sc.names.lookup x=some .local):X.fn x=true\/X.env.scope.names.lookup x=some .local:=hf.elim (λe=>.inl (h.fn e x)) λe=>.inr (by rw [h.sc];exact e)
theorem Fx.K5(h:Fx X N sc k full):X.N.Nodup:=by rw [h.n];exact h.nd
theorem Fx.g(h:Fx X N sc k full)(hg:sc.names.lookup x=some .globalImplicit:=by rfl):Gl X x:=by
 show X.env.kindOf x=some .globalImplicit
 unfold Rn
 rw [h.sc]
 exact hg
theorem Fx.v(h:Fx X N sc k full)(i:Nat)(hN:N[i]?=some x:=by rfl)(hv:l4 sc x:=by first | exact dY rfl | exact cO (dY rfl) | exact cO (cO rfl))(hd:(x==("__debug__":Str))=false:=by rfl)
  (de:(x==("__classdict__":Str))=false:=by rfl):EV X (.Name x pos) (eV i):=b6n i (h.ix hN) (h.A6 hv) hd de
theorem Fx.bv(h:Fx X N sc k full)(i:Nat)(hN:N[i]?=some x:=by rfl)(hv:l4 sc x:=by first | exact dY rfl | exact cO (dY rfl) | exact cO (cO rfl))(hd:(x==("__debug__":Str))=false:=by rfl)
  (de:(x==("__classdict__":Str))=false:=by rfl):BV X (.Name x pos) (bV i):=c0Y i (h.ix hN) (h.A6 hv) hd de
theorem Fx.tg(h:Fx X N sc k full)(i:Nat)(hN:N[i]?=some x:=by rfl)(hv:Loc sc x:=by first | exact dY rfl | exact cO rfl)(hf:full=true\/sc.names.lookup x=some .local:=by first | exact dY rfl | exact cO rfl):GV X (.Name x pos) (gN i):=b7G h.K5 (h.ix hN) (h.loc hv) (h.K2 hf)
theorem Fx.set(h:Fx X N sc k full)(i:Nat)(he:EV X e fa)(hN:N[i]?=some x:=by rfl)(hv:Loc sc x:=by first | exact dY rfl | exact cO rfl)
  (hs:swapsWith e (some (.Name x pos')) pos.line X.env=pure false:=by rfl)(hf:full=true\/sc.names.lookup x=some .local:=by first | exact dY rfl | exact cO rfl):SV X (.Assign [.Name x pos'] e pos) (pN i fa):=b5Q h.K5 (h.ix hN) (h.loc hv) he hs (h.K2 hf)
theorem Fx.eL(h:Fx X N sc k full)(i:Nat)(he:EV X e fa)(hN:N[i]?=some x:=by rfl)(hv:Loc sc x:=by first | exact dY rfl | exact cO rfl)
  (hs:swapsWith e (some (.Name x pos')) pos.line X.env=pure false:=by rfl)(hf:full=true\/sc.names.lookup x=some .local:=by first | exact dY rfl | exact cO rfl):SV X (.Assign [.Name x pos'] e pos) (hV i fa):=b17 h.K5 (h.ix hN) (h.loc hv) he hs (h.K2 hf)
theorem Fx.D1(h:Fx X N sc k full)(i:Nat)(hN:N[i]?=some x:=by rfl)(hv:l4 sc x:=by first | exact dY rfl | exact cO (dY rfl) | exact cO (cO rfl))(hd:(x==("__debug__":Str))=false:=by rfl)
  (de:(x==("__classdict__":Str))=false:=by rfl):SV X (.Return (some (.Name x p2)) pos) (FJ i):=b6P i (h.ix hN) (h.A6 hv) hd de
theorem Fx.app(h:Fx X N sc k full)(i:Nat)(ha:EV X e fa)(hN:N[i]?=some x:=by rfl)(hv:l4 sc x:=by first | exact dY rfl | exact cO (dY rfl) | exact cO (cO rfl))(hd:(x==("__debug__":Str))=false:=by rfl)
  (de:(x==("__classdict__":Str))=false:=by rfl)(hs:starEach [e] X.env=[(false,eval e X.env)]:=by rfl)
  (b9:attributeBase (.Name x p1) "append" X.env (eval (.Name x p1) X.env)=eval (.Name x p1) X.env:=by rfl)
  (fQ:((backTo aB (starEach [e] X.env)).all (λx=>!x.1)&&(backToKw aB (keywordEach [] X.env)).all (λx=>x.1.isSome)
   && decide ([e].length+([]:List Keyword).length+(if ([]:List Keyword).isEmpty then 0 else 1)<30))=true:=by rfl)
  (b8:(p2.endLine==aB.line)=true:=by rfl)
  (AA:swapsWith (.Call (.Attribute (.Name x p1) "append" p2) [e] [] aB) none pos.line X.env=pure false:=by rfl):
  SV X (.Expr (.Call (.Attribute (.Name x p1) "append" p2) [e] [] aB) pos) (yT i fa):=a8r ha (h.ix hN) (h.A6 hv) hd de hs b9 fQ b8 AA
theorem Fx.ext(h:Fx X N sc k full)(i:Nat)(ha:EV X e fa)(hN:N[i]?=some x:=by rfl)(hv:l4 sc x:=by first | exact dY rfl | exact cO (dY rfl) | exact cO (cO rfl))(hd:(x==("__debug__":Str))=false:=by rfl)
  (de:(x==("__classdict__":Str))=false:=by rfl)(hs:starEach [e] X.env=[(false,eval e X.env)]:=by rfl)
  (b9:attributeBase (.Name x p1) "extend" X.env (eval (.Name x p1) X.env)=eval (.Name x p1) X.env:=by rfl)
  (fQ:((backTo aB (starEach [e] X.env)).all (λx=>!x.1)&&(backToKw aB (keywordEach [] X.env)).all (λx=>x.1.isSome)
   && decide ([e].length+([]:List Keyword).length+(if ([]:List Keyword).isEmpty then 0 else 1)<30))=true:=by rfl)
  (b8:(p2.endLine==aB.line)=true:=by rfl)
  (AA:swapsWith (.Call (.Attribute (.Name x p1) "extend" p2) [e] [] aB) none pos.line X.env=pure false:=by rfl):
  SV X (.Expr (.Call (.Attribute (.Name x p1) "extend" p2) [e] [] aB) pos) (Bx i fa):=b18 ha (h.ix hN) (h.A6 hv) hd de hs b9 fQ b8 AA
theorem Fx.pop(h:Fx X N sc k full)(i j:Nat){x y:Str}(hN:N[i]?=some x:=by rfl)(hx:Loc sc x:=by first | exact dY rfl | exact cO rfl)(V':N[j]?=some y:=by rfl)(hv:l4 sc y:=by first | exact dY rfl | exact cO (dY rfl) | exact cO (cO rfl))
  (hd:(y==("__debug__":Str))=false:=by rfl)(de:(y==("__classdict__":Str))=false:=by rfl)
  (b9:attributeBase (.Name y p1) "pop" X.env (eval (.Name y p1) X.env)=eval (.Name y p1) X.env:=by rfl)
  (b8:(p2.endLine==aB.line)=true:=by rfl)
  (hs:swapsWith (.Call (.Attribute (.Name y p1) "pop" p2) [] [] aB) (some (.Name x pos')) pos.line X.env=pure false:=by rfl)(hf:full=true\/sc.names.lookup x=some .local:=by first | exact dY rfl | exact cO rfl):
  SV X (.Assign [.Name x pos'] (.Call (.Attribute (.Name y p1) "pop" p2) [] [] aB) pos) (Bv i j):=b16 h.K5 (h.ix hN) (h.loc hx) (h.ix V') (h.A6 hv) hd de b9 b8 hs (h.K2 hf)
theorem Fx.item(h:Fx X N sc k full)(i:Nat){x:Str}(ha:EV X e fa)(hb:EV X b fb)(hN:N[i]?=some x:=by rfl)(hv:l4 sc x:=by first | exact dY rfl | exact cO (dY rfl) | exact cO (cO rfl))(hd:(x==("__debug__":Str))=false:=by rfl)
  (de:(x==("__classdict__":Str))=false:=by rfl)
  (C3:∀v,assign (.Subscript (.Name x p1) b p2) X.env v=(do
   let ov <-holding [v] (eval (.Name x p1) X.env)
   let iv <-holding [v,ov] (eval b X.env)
   standAt p2
   holding [v,ov,iv] (setItem ov iv v)
   release [v,ov,iv] []):=by intro _;rfl)
  (hs:swapsWithSole [.Subscript (.Name x p1) b p2] e pos.line X.env=pure false:=by rfl)(hw:swappedStores [.Subscript (.Name x p1) b p2] e X.env=pure none:=by rfl)
  (h1:(assignEach [.Subscript (.Name x p1) b p2] X.env).map (·.2)=[assign (.Subscript (.Name x p1) b p2) X.env]:=by rfl):
  SV X (.Assign [.Subscript (.Name x p1) b p2] e pos) (LN i fa fb):=b6Q ha hb (h.ix hN) (h.A6 hv) hd de C3 hs hw h1
end
theorem N0{us:List Value}(h:us.length=0):us=[]:=by
 exact Sg.mp h
theorem yN{us:List Value}(h:us.length=1):∃a0,us=[a0]:=by
 cases us with
 | nil=>cases h
 | cons a r =>
  have:=N0 (us:=r) (by simpa using h)
  exact ⟨a,by rw [this]⟩
theorem DK{us:List Value}(h:us.length=2):∃a0 a1,us=[a0,a1]:=by
 cases us with
 | nil=>cases h
 | cons a r =>
  have:=yN (us:=r) (by simpa using h)
  obtain ⟨b0,e⟩:=this
  exact ⟨a,b0,by rw [e]⟩
theorem Kr{us:List Value}(h:us.length=3):∃a0 a1 a2,us=[a0,a1,a2]:=by
 cases us with
 | nil=>cases h
 | cons a r =>
  have:=DK (us:=r) (by simpa using h)
  obtain ⟨b0,b1,e⟩:=this
  exact ⟨a,b0,b1,by rw [e]⟩
theorem P4{us:List Value}(h:us.length=4):∃a0 a1 a2 a3,us=[a0,a1,a2,a3]:=by
 cases us with
 | nil=>cases h
 | cons a r =>
  have:=Kr (us:=r) (by simpa using h)
  obtain ⟨b0,b1,b2,e⟩:=this
  exact ⟨a,b0,b1,b2,by rw [e]⟩
section
variable {P:Program}{w:World}{K:aX}{mg:Str->Option Value}{base:Heap}
theorem OS{x qual:Str}{st:Stmt}{f:Addr}{fd:FuncData}{N ps:List Str}{k:Nat}{F:SF}(Fn:Fs K x qual st f fd)(S:dN N ps (hX st))
  (dz:∀X:Cx,X.prog=P->X.w=w->X.K=K->X.mg=mg->X.base=base->Fx X N (hX st) k->Ap X (pD st) F):dh P w K mg base pB (k+1) f fd ps (Bs K ps.length (cn F N.length)):=
 Wl Fn S λgZ A outer s H E hr=>dz _ rfl rfl rfl rfl rfl ⟨rfl,rfl,rfl,λ_ _=>rfl,Pn,hr,S.nd,λ_=>⟨rfl,rfl,rfl⟩⟩
end
def Oz(P:Program)(w:World)(K:aX)(mg:Str->Option Value)(base:Heap)(x:Str)(st:Stmt)(ps:List Str)(j:Nat)(φ:List D->Option Sl):Prop:=∃f fd,Def K mg x st ps f fd/\dh P w K mg base pB j f fd ps (Bs K ps.length φ)
inductive Sx:Cx->Program->World->aX->(Str->Option Value)->Heap->Prop
 | mk (X:Cx):Sx X X.prog X.w X.K X.mg X.base
theorem OR{P:Program}{w:World}{K:aX}{mg:Str->Option Value}{base:Heap}{x:Str}{st:Stmt}{f:Addr}{fd:FuncData}{N ps:List Str}{k:Nat}{F:SF}(D':Def K mg x st ps f fd)
  (dz:∀X:Cx,Sx X P w K mg base->Fx X N (hX st) k->Ap X (pD st) F)(S:dN N ps (hX st):=by exact ⟨rfl,rfl,rfl,by decide +kernel,rfl,by decide +kernel,by decide +kernel⟩):dh P w K mg base pB (k+1) f fd ps (Bs K ps.length (cn F N.length)):=
 OS D'.fn S λX e1 e2 e3 e4 e5=>by subst e1 e2 e3 e4 e5;exact dz X (.mk X)
theorem jI{P:Program}{w:World}{K:aX}{mg:Str->Option Value}{base:Heap}{x:Str}{st:Stmt}{f:Addr}{fd:FuncData}{N ps:List Str}{k:Nat}{F:SF}(D':Def K mg x st ps f fd)
  (dz:∀X:Cx,Sx X P w K mg base->Fx X N (hX st) k->Ap X (pD st) F)(S:dN N ps (hX st):=by exact ⟨rfl,rfl,rfl,by decide +kernel,rfl,by decide +kernel,by decide +kernel⟩):Oz P w K mg base x st ps (k+1) (cn F N.length):=
 ⟨f,fd,D',OR D' dz S⟩
theorem EH{X X':Cx}{x:Str}{st:Stmt}{ps:List Str}{j:Nat}{φ:List D->Option Sl}(e1:X'.prog=X.prog)(e2:X'.w=X.w)(e3:X'.K=X.K)(e4:X'.mg=X.mg)(e5:X'.base=X.base)(O:Oz X.prog X.w X.K X.mg X.base x st ps j φ):Oz X'.prog X'.w X'.K X'.mg X'.base x st ps j φ:=by
 rw [e1,e2,e3,e4,e5];exact O
theorem Fx.cl{X:Cx}{N:List Str}{sc:Scope}{k j:Nat}{full:Bool}{x:Str}{st:Stmt}{ps:List Str}{φ:List D->Option Sl}{e:Expr}{es:List Expr}{fs:En->Option (List D)}{p pos:Pos}(h:Fx X N sc k full)(O:Oz X.prog X.w X.K X.mg X.base x st ps j φ)(ha:AV X (e::es) fs)(hj:j<=k:=by decide)(hg:sc.names.lookup x=some .globalImplicit:=by rfl)(ql:(x==("__debug__":Str))=false:=by decide)(he:starEach (e::es) X.env=(false,eval e X.env)::starEach es X.env:=by rfl)(nP:(backTo pos (starEach es X.env)).any (·.1)=false:=by rfl):
  EV X (.Call (.Name x p) (e::es) [] pos) (cG ps.length φ fs):=by
 obtain ⟨f,fd,D',F⟩:=O
 exact b75 F (h.room.mono hj) (h.g hg) D'.m D'.fn.kp D'.bd ha ql he nP
structure FI(K:aX)(n:Str)(t:Stmt)(f:Addr)(od an:Option Addr)(sl:Array (Option Value))(oc kV dc pm cd ct:Value):Prop where
 a:lK K mainGlobals n=some (some (.ref f))
 l:K.lookup f=some ⟨oc,od,.func (zm n n (Ab t) (pD t) (hX t) .none kV dc pm an cd ct),sl⟩
 c:Pu K cd n=true
 k:vY K (.ref f)=true
section
variable {K:aX}{mg:Str->Option Value}{h:Heap}{n:Str}{t:Stmt}{f:Addr}{od an:Option Addr}{sl:Array (Option Value)}{oc kV dc pm cd ct:Value}{ps:List Str}
theorem QY(X:K.In h)(G:h.Ns mainGlobals mg)(i:FI K n t f od an sl oc kV dc pm cd ct)(hb:∀(kV doc pm:Value) (an:Option Addr) (gZ ct:Value) (us:List Value),us.length=ps.length->bindArgs (zm n n (Ab t) (pD t) (hX t) .none kV doc pm an gZ ct) ⟨us,[]⟩=pure (ps.zip us)):Def K mg n t ps f (zm n n (Ab t) (pD t) (hX t) .none kV dc pm an cd ct):=
 ⟨SK i.l i.c i.k,(SK i.l i.c i.k).binds hb,yr X G i.a⟩
theorem r6(X:K.In h)(G:h.Ns mainGlobals mg)(i:FI K n t f od an sl oc kV dc pm cd ct)(hb:∀(kV doc pm:Value) (an:Option Addr) (gZ ct a0:Value),bindArgs (zm n n (Ab t) (pD t) (hX t) .none kV doc pm an gZ ct) ⟨[a0],[]⟩=pure (ps.zip [a0]):=by intros;rfl)(hl:ps.length=1:=by rfl):Def K mg n t ps f (zm n n (Ab t) (pD t) (hX t) .none kV dc pm an cd ct):=
 QY X G i λ_ _ _ _ _ _ us hu=>by obtain ⟨_,rfl⟩:=yN (hu.trans hl);exact hb ..
theorem EM(X:K.In h)(G:h.Ns mainGlobals mg)(i:FI K n t f od an sl oc kV dc pm cd ct)(hb:∀(kV doc pm:Value) (an:Option Addr) (gZ ct a0 a1:Value),bindArgs (zm n n (Ab t) (pD t) (hX t) .none kV doc pm an gZ ct) ⟨[a0,a1],[]⟩=pure (ps.zip [a0,a1]):=by intros;rfl)(hl:ps.length=2:=by rfl):Def K mg n t ps f (zm n n (Ab t) (pD t) (hX t) .none kV dc pm an cd ct):=
 QY X G i λ_ _ _ _ _ _ us hu=>by obtain ⟨_,_,rfl⟩:=DK (hu.trans hl);exact hb ..
theorem GJ(X:K.In h)(G:h.Ns mainGlobals mg)(i:FI K n t f od an sl oc kV dc pm cd ct)(hb:∀(kV doc pm:Value) (an:Option Addr) (gZ ct a0 a1 a2:Value),bindArgs (zm n n (Ab t) (pD t) (hX t) .none kV doc pm an gZ ct) ⟨[a0,a1,a2],[]⟩=pure (ps.zip [a0,a1,a2]):=by intros;rfl)(hl:ps.length=3:=by rfl):Def K mg n t ps f (zm n n (Ab t) (pD t) (hX t) .none kV dc pm an cd ct):=
 QY X G i λ_ _ _ _ _ _ us hu=>by obtain ⟨_,_,_,rfl⟩:=Kr (hu.trans hl);exact hb ..
theorem Vn(X:K.In h)(G:h.Ns mainGlobals mg)(i:FI K n t f od an sl oc kV dc pm cd ct)(hb:∀(kV doc pm:Value) (an:Option Addr) (gZ ct a0 a1 a2 a3:Value),bindArgs (zm n n (Ab t) (pD t) (hX t) .none kV doc pm an gZ ct) ⟨[a0,a1,a2,a3],[]⟩=pure (ps.zip [a0,a1,a2,a3]):=by intros;rfl)(hl:ps.length=4:=by rfl):Def K mg n t ps f (zm n n (Ab t) (pD t) (hX t) .none kV dc pm an cd ct):=
 QY X G i λ_ _ _ _ _ _ us hu=>by obtain ⟨_,_,_,_,rfl⟩:=P4 (hu.trans hl);exact hb ..
end
end DL
namespace DL
open PySem L2
theorem c0A(i j:Int):BQ (.int i) (.int j)=some (.sh (.int (i-j))):=rfl
end DL
namespace DL
open PySem PySem.Spec PyProof.Rows L2
def Iu(K:aX)(O:Addr->Prop)(J:It)(H:Hp)(ds:List D):Prop:=
 ∀(O':Addr->Prop) (H2:Hp),(∀q u,H q=some u->¬O q->H2 q=some u/\¬O' q)->(∀q,O' q->H2 q≠none) ->
  ∀i:Nat,(∀d,ds[i]?=some d->J.go i H2/\∀x H3,J.IT i H2 x H3->aO H2 H3/\Is K O' H3 x d)/\(ds.length<=i->J.stop i H2)
def IV(X:Cx)(tg it:Expr)(f:En->Option (List D)):Prop:=
 ∃wi:TI,PI X tg it wi/\∀(O:Addr->Prop) (B:Hp) (σ:L2.St) (H:Hp) (env:En) (ds:List D) (R:It->Hp->Prop),Rel X.K O B σ H env->f env=some ds ->
  (∀J H',aO H H'->Iu X.K (OO O σ env) J H' ds->R J H')->wi σ H R
theorem b6T{K:aX}{O:Addr->Prop}{H H2:Hp}{k:Bool}{p:Addr}{xs:List V}(kp:∀q u,H q=some u->¬O q->H2 q=some u)(h:Sq K H k p xs)(hp:¬O p):Sq K H2 k p xs:=by
 cases k with
 | true =>
  rcases h with (h | ⟨o,h⟩) | h
  .exact .inl (.inl (kp _ _ h hp))
  .exact .inl (.inr ⟨o,kp _ _ h hp⟩)
  .exact .inr h
 | false =>
  rcases h with (h | ⟨o,h⟩) | h
  .exact .inl (.inl (kp _ _ h hp))
  .exact .inl (.inr ⟨o,kp _ _ h hp⟩)
  .exact .inr h
noncomputable def gW(f:En->Option Sl):En->Option (List D):=λenv=>(f env).bind λr=>(l5 r.d).map (·.2)
section
variable {X:Cx}{tg it:Expr}{fa:En->Option Sl}
theorem FN(hi:EV X it fa):IV X tg it (gW fa):=by
 obtain ⟨ti,pi,ki⟩:=hi
 refine ⟨_,b50 pi,λO B σ H env ds R Rl e q=>?_⟩
 obtain ⟨r,e1,e2⟩:=bind_some e
 obtain ⟨⟨k,ds'⟩,e4,e5⟩:=map_some e2
 cases e5
 refine ki O B σ H env r _ Rl e1 λv H1 s1 r1=>?_
 obtain ⟨p,xs,rfl,h1,h2,h3⟩:=(r1.is λq=>Rl.oo).Nj e4
 refine ⟨p,rfl,?_⟩
 have key:∀(O':Addr->Prop) (H2:Hp),(∀q u,H1 q=some u->¬OO O σ env q->H2 q=some u/\¬O' q)->Sq X.K H2 k p xs/\bp X.K O' H2 xs ds':=λO' H2 kp=>by
  refine ⟨?_,h2.map (λq hq hn=>?_) λq u e n=>(kp q u e n).1⟩
  .rcases h3 with h3 | h3
   .exact b6T (λq u e n=>(kp q u e n).1) h1 h3
   .exact h3 H2
  .cases e:H1 q with
   | none=>exact (hq e).elim
   | some u=>exact (kp q u e hn).2
 cases k with
 | true =>
  refine .inl ⟨⟨xs,h1⟩,q _ H1 s1 λO' H2 kp hO i=>⟨λd hd=>?_,λhl=>?_⟩⟩
  .obtain ⟨hq,hs⟩:=key O' H2 kp
   obtain ⟨x,hx,Dz⟩:=hs.get hd
   refine ⟨⟨xs,x,hq,hx⟩,λy H3 hy=>?_⟩
   obtain ⟨rfl,hy⟩:=hy
   have:=hy xs hq
   rw [hx] at this
   cases this
   exact ⟨aO.refl _,Dz⟩
  .obtain ⟨hq,hs⟩:=key O' H2 kp
   exact ⟨xs,hq,by rw [hs.length];exact hl⟩
 | false =>
  refine .inr ⟨⟨xs,h1⟩,q _ H1 s1 λO' H2 kp hO i=>⟨λd hd=>?_,λhl=>?_⟩⟩
  .obtain ⟨hq,hs⟩:=key O' H2 kp
   obtain ⟨x,hx,Dz⟩:=hs.get hd
   refine ⟨⟨xs,x,hq,hx⟩,λy H3 hy=>?_⟩
   obtain ⟨rfl,hy⟩:=hy
   have:=hy xs hq
   rw [hx] at this
   cases this
   exact ⟨aO.refl _,Dz⟩
  .obtain ⟨hq,hs⟩:=key O' H2 kp
   exact ⟨xs,hq,by rw [hs.length];exact hl⟩
theorem b0C{K:aX}{O:Addr->Prop}{H:Hp}(lo:Int)(n:Nat):Iu K O (CF lo n) H (fM lo n):=λO' H2 _ _ i=>by
 refine ⟨λd hd=>?_,λhl=>show n<=i by simpa [fM] using hl⟩
 unfold fM at hd
 rw [zq] at hd
 obtain ⟨k,hk,rfl⟩:=map_some hd
 obtain ⟨hi,rfl⟩:=z9.mp hk
 rw [Lq] at hi
 refine ⟨hi,λx H3 hy=>?_⟩
 obtain ⟨rfl,rfl⟩:=hy
 rw [List.getElem_range]
 exact ⟨aO.refl _,Is.int _⟩
noncomputable def yf(h:List D->Option (List D))(f:En->Option (List D)):En->Option (List D):=λenv=>(f env).bind h
noncomputable def PY(f:En->Option (List D))(g:GF)(F:SF):SF:=λenv=>(f env).bind λds=>forL g F ds env
theorem Yj(hp:PassesOwn (model X.prog X.w) X.A X.env X.xe)(hc:X.calm=true)(hi:IV X tg it fi)(hg:GV X tg g)(hb:Ap X body F)
  (hs:∀x,foldedSetIterable it X.env x=pure x:=by intro _;rfl):SV X (.For tg it body [] pos) (PY fi g F):=by
 obtain ⟨wi,pi,ki⟩:=hi
 obtain ⟨F5,pg,kg⟩:=hg
 obtain ⟨tb,pb,kb⟩:=hb
 refine ⟨_,XW hp hc pi pg pb hs,λO B σ H env fl ao D R e q=>?_⟩
 obtain ⟨ds,e1,e2⟩:=bind_some e
 refine ki O B σ H env ds _ R e1 λJ H1 s1 wk=>?_
 have q':jP X.K O B σ H1 env D fl ao:=q.from (Gd.refl s1)
 refine ⟨λi m fJ H2=>m=ds.length-i/\i<=ds.length/\Left X.K O B σ H1 env g F ds fl ao i fJ H2,⟨ds.length,by simp,De _,⟨env,R.grow s1,Gd.refl (aO.refl _),e2⟩⟩,?_⟩
 rintro i m fJ H2 ⟨rfl,hi,L⟩
 obtain ⟨dt,R2,gd,ee⟩:=id L
 have w:=wk (OO O fJ dt) H2 (λa u ea na=>by
  obtain ⟨h1,h2⟩:=gd a u ea λz=>na (.inr z)
  exact ⟨h1,λz=>z.elim (λz=>na (.inl z)) h2⟩) (λa=>R2.oo) i
 by_cases jG:i<ds.length
 .obtain ⟨go,yl⟩:=w.1 ds[i] (by simp [jG])
  refine .inr ⟨go,Left X.K O B σ H1 env g F ds fl ao (i+1),λbB H' p'=>⟨ds.length-(i+1),by omega,rfl,jG,p'⟩,λx H3 hy=>?_⟩
  obtain ⟨s3,hx⟩:=yl x H3 hy
  have BO:ds.drop i=ds[i]::ds.drop (i+1):=RS jG
  rw [BO,forL] at ee
  cases VU:g ds[i] dt with
  | none=>rw [VU] at ee;cases ee
  | some BR =>
   rw [VU] at ee
   refine kg O B fJ H3 dt BR x ds[i] _ (R2.grow s3) hx VU λσ4 H4 R4 g4=>?_
   dsimp only at ee
   cases hF:F BR with
   | none=>rw [hF] at ee;cases ee
   | some y =>
    obtain ⟨f2,sF⟩:=y
    rw [hF] at ee
    have We:=gd.trans ((Gd.refl s3).trans g4)
    refine kb O B σ4 H4 BR f2 sF _ R4 hF ?_
    cases f2 with
    | nx=>exact λUx H5 R5 g5=>⟨sF,R5,We.trans g5,ee⟩
    | ct=>exact λUx H5 R5 g5=>⟨sF,R5,We.trans g5,ee⟩
    | bk=>cases ee;exact λUx H5 R5 g5=>q' Ux H5 R5 (We.trans g5)
    | rt r=>cases ee;exact q'
 .exact .inl ⟨w.2 (by omega),S6 (by omega) q' L⟩
end
noncomputable def rl(eJ sc:Scope):Scope:=
 { eJ with names:=eJ.names.map λ(n,k)=>if (k==.free&&sc.kind==.function&&sc.names.lookup n==some .cell) then (n,.cell) else (n,k) }
theorem YG{sc:Scope}:∀{names:List (Str×NameKind)} {x:Str} {k:NameKind},names.lookup x=some k ->
  (names.map λ(n,k)=>if (k==Dc&&sc.kind==.function&&sc.names.lookup n==some .cell) then (n,Kf) else (n,k)).lookup x=some (if (k==Dc&&sc.kind==.function&&sc.names.lookup x==some .cell) then Kf else k)
 | [],_,_,h=>by simp at h
 | (n,k')::r,x,k,h=>by
  have ih:=@YG sc r x k
  show EZ x ((if (k'==Dc&&sc.kind==.function&&sc.names.lookup n==some .cell)=true then (n,Kf) else (n,k'))::_)=_
  cases hx:x==n with
  | true =>
   simp only [Be,hx] at h
   cases h
   have e:x=n:=by simpa using hx
   subst e
   split<;>simp [Be]
  | false =>
   simp only [Be,hx] at h
   split
   .simp only [Be,hx];exact ih h
   .simp only [Be,hx];exact ih h
theorem b1E{sc:Scope}:∀{names:List (Str×NameKind)} {x:Str} {k:NameKind},
  (names.map λ(n,k)=>if (k==Dc&&sc.kind==.function&&sc.names.lookup n==some .cell) then (n,Kf) else (n,k)).lookup x=some k->∃k',names.lookup x=some k'/\k=if (k'==Dc&&sc.kind==.function&&sc.names.lookup x==some .cell) then Kf else k'
 | names,x,k,h=>by
  cases e:names.lookup x with
  | some k'=>have:=YG (sc:=sc) e;rw [h] at this;exact ⟨k',rfl,lH this⟩
  | none =>
   exfalso
   induction names with
   | nil=>simp at h
   | cons y r ih =>
    obtain ⟨n,k'⟩:=y
    have h':EZ x ((if (k'==Dc&&sc.kind==.function&&sc.names.lookup n==some .cell)=true then (n,Kf) else (n,k'))::(r.map λ(n,k)=>if (k==Dc&&sc.kind==.function&&sc.names.lookup n==some .cell) then (n,Kf) else (n,k)))=some k:=h
    cases hx:x==n with
    | true=>simp [Be,hx] at e
    | false =>
     simp only [Be,hx] at e
     apply ih _ e
     split at h'
     .simpa only [Be,hx] using h'
     .simpa only [Be,hx] using h'
noncomputable def o7(cells:List (Str×Addr)):List (Str×NameKind)->List (Str×Addr)->List (Str×Addr)
 | [],acc=>acc
 | (n,k)::r,acc=>o7 cells r (if k==.free then (n,(cells.lookup n).getD 0)::acc else acc)
theorem Y6:∀(names:List (Str×NameKind)) (acc:List (Str×Addr)),(∀y∈names,y.2=.free->∃c,env.cells.lookup y.1=some c) ->
  (forIn names acc λ(x:Str×NameKind) r=>(if (x.2==.free)=true then do let a <-cellOf env x.1;pure (J' ((x.1,a)::r)) else pure (J' r):Sem (ForInStep (List (Str×Addr)))))=pure (o7 env.cells names acc)
 | [],acc,_=>rfl
 | (n,k)::r,acc,h=>by
  rw [List.forIn_cons]
  have hr:∀y∈r,y.2=.free->∃c,env.cells.lookup y.1=some c:=λy hy=>h y (nT _ hy)
  cases hk:k==Dc with
  | true =>
   have ek:k=.free:=by simpa using hk
   obtain ⟨c,hc⟩:=h (n,k) pd ek
   replace hc:env.cells.lookup n=some c:=hc
   have V3:cellOf env n=pure c:=by unfold cellOf;rw [hc]
   simp only [if_true]
   rw [V3]
   simp only [pure_bind]
   rw [Y6 r _ hr]
   conv=>rhs;unfold o7
   rw [hk,hc]
   rfl
  | false =>
   simp only [Lv,if_false,pure_bind]
   rw [Y6 r _ hr]
   conv=>rhs;unfold o7
   rw [hk]
   rfl
theorem a8k(h:∀y∈sc.names,y.2=.free->∃c,env.cells.lookup y.1=some c):closureFor sc env=pure (o7 env.cells sc.names []):=by
 unfold closureFor
 rw [<-Y6 sc.names [] h]
 show (forIn sc.names [] _ >>= λcs=>pure cs)=_
 rw [bind_pure]
theorem b03:∀(names:List (Str×NameKind)) (acc:List (Str×Addr)) {c:Addr},(o7 cells names acc).lookup x=some c->acc.lookup x=some c\/((x,Dc)∈names/\c=(cells.lookup x).getD 0)
 | [],acc,c,h=>.inl h
 | (n,k)::r,acc,c,h=>by
  unfold o7 at h
  rcases b03 r _ h with h1 | ⟨h,e⟩
  .clear h
   have h:=h1
   clear h1
   cases hk:k==Dc with
   | false=>rw [hk] at h;exact .inl (by simpa using h)
   | true =>
    rw [hk] at h
    simp only [if_true] at h
    have ek:k=.free:=by simpa using hk
    cases hx:x==n with
    | true =>
     simp only [Be,hx] at h
     have e:x=n:=by simpa using hx
     subst e ek
     exact .inr ⟨pd,(lH h).symm⟩
    | false =>
     simp only [Be,hx] at h
     exact .inl h
  .exact .inr ⟨nT _ h,e⟩
theorem a87:∀(names:List (Str×NameKind)) (acc:List (Str×Addr)),((∃c,acc.lookup x=some c)\/(x,Dc)∈names)->∃c,(o7 cells names acc).lookup x=some c
 | [],acc,h=>h.elim id λz=>nomatch z
 | (n,k)::r,acc,h=>by
  unfold o7
  refine a87 r _ ?_
  cases hk:k==Dc with
  | false =>
   rcases h with h | h
   .exact .inl (by simpa using h)
   .rcases js.mp h with e | h
    .cases e;simp at hk
    .exact .inr h
  | true =>
   simp only [if_true]
   cases hx:x==n with
   | true=>exact .inl ⟨_,by simp only [Be,hx];rfl⟩
   | false =>
    rcases h with ⟨c,h⟩ | h
    .exact .inl ⟨c,by simp only [Be,hx];exact h⟩
    .rcases js.mp h with e | h
     .cases e;simp at hx
     .exact .inr h
structure fx(N:List Str)(sc:Scope)(N':List Str)(caps:List Nat)(nt:Nat)(eJ:Scope):Prop where
 kind:eJ.kind=.function
 loc:∀y∈eJ.names,y.2=.local->eJ.names.lookup y.1=some .local
 EK:∀y∈eJ.names,y.2≠.cell
 free:∀y∈eJ.names,y.2=.free->sc.names.lookup y.1=some .cell\/sc.names.lookup y.1=some .free
 nd:N'.Nodup
 len:N'.length=nt+caps.length
 cap:caps.map (λi=>N[i]?)=(N'.drop nt).map some
 fr:∀x∈N'.drop nt,eJ.names.lookup x=some .free
theorem YR{names:List (Str×NameKind)}{x:Str}(h:names.lookup x=some k):(x,k)∈names:=Lx h
noncomputable def vW:List Nat->En->Option En
 | [],_=>some []
 | i::is,env=>match env[i]? with
  | some (.sh d)=>(vW is env).map (Sl.sh d::·)
  | _=>none
noncomputable def tJ(g:GF)(fc:En->Option Bool)(fe:En->Option Sl):List D->En->Option (List D)
 | [],_=>some []
 | d::ds,e=>(g d e).bind λe1=>(fc e1).bind λb=>if b=true then (fe e1).bind λr=>(tJ g fc fe ds e1).bind λrs=>some (r.d::rs) else tJ g fc fe ds e1
noncomputable def jt(fi:En->Option (List D))(caps:List Nat)(nt:Nat)(g:GF)(fc:En->Option Bool)(fe:En->Option Sl):En->Option Sl:=λenv =>
 (fi env).bind λds=>(vW caps env).bind λcs=>if ds.length<=16777216 then (tJ g fc fe ds (zJ nt Sl.no++cs)).map Sl.ow else none
noncomputable def l9:List Nat->L2.St->L2.St
 | [],_=>[]
 | i::is,σ=>(σ[i]?).getD none::l9 is σ
theorem b3J{K:aX}{O:Addr->Prop}{B:Hp}{σ:L2.St}{H:Hp}{env:En}(R:Rel K O B σ H env):∀{caps:List Nat} {cs:En},vW caps env=some cs->cs.length=caps.length/\(l9 caps σ).length=caps.length /\
  ∀(j:Nat) (s:Sl),cs[j]?=some s->∃(d:D) (v:V) (i:Nat),s=Sl.sh d/\(l9 caps σ)[j]?=some (some v)/\Is K (OO O σ env) H v d/\caps[j]?=some i/\σ[i]?=some (some v)
 | [],cs,e=>by cases e;exact ⟨rfl,rfl,λj s h=>by simp at h⟩
 | i::is,cs,e=>by
  unfold vW at e
  cases h:env[i]? with
  | none=>rw [h] at e;cases e
  | some s =>
   rw [h] at e
   cases s with
   | no=>cases e
   | ow ds=>cases e
   | dw ds=>cases e
   | tw _ _=>cases e
   | sh d =>
    obtain ⟨cs',e1,rfl⟩:=map_some (show (vW is env).map (Sl.sh d::·)=some cs from e)
    obtain ⟨l1,l2,ih⟩:=b3J R e1
    obtain ⟨v,hv,hi⟩:=R.sh i d h
    refine ⟨by simp [l1],by simp [l9,l2],λj s hj=>?_⟩
    cases j with
    | zero=>simp at hj;subst hj;exact ⟨d,v,i,rfl,by simp [l9,hv],hi,rfl,hv⟩
    | succ j =>
     obtain ⟨d',v',i',a1,a2,a3,a4,a5⟩:=ih j s (by simpa using hj)
     exact ⟨d',v',i',a1,by simpa [l9] using a2,a3,by simpa using a4,a5⟩
def MI(X:Cx)(ifs:List Expr)(f:En->Option Bool):Prop:=
 ∃t:TT,(∀(pins:List (Addr×Obj)) (s:Shared) (σ:L2.St) (H:Hp) (Q:Bool->Hp->Prop),Inv X pins σ H s->t σ H Q ->
   wpAny (model X.prog X.w) X.A (forIn ifs true λc r=>if r=true then do let ok <-isTrue c X.env (eval c X.env);pure (J' ok) else pure (J' r)) (TP X pins σ Q) X.xe s) /\
  ∀(O:Addr->Prop) (B:Hp) (σ:L2.St) (H:Hp) (env:En) (b:Bool) (Q:Bool->Hp->Prop),Rel X.K O B σ H env->f env=some b->(∀H',aO H H'->Q b H')->t σ H Q
noncomputable def jO:En->Option Bool:=λ_=>some true
theorem B1:MI X [] jO:=⟨λ_ H Q=>Q true H,λpins s σ H Q I h=>wpAny_tests_nil ⟨H,I,h⟩,λO B σ H env b Q R e q=>by cases e;exact q H (aO.refl _)⟩
theorem c0w(h:TV X c f):MI X [c] f:=by
 obtain ⟨t,p,k⟩:=h
 exact ⟨t,λpins s σ H Q I h=>wpAny_tests_one (p pins s σ H Q I h),k⟩
section
variable {prog:Program}{w:World}{A:Around}{R:Result->Shared->Prop}{s:Shared}
theorem b0i{elt target iter:Expr}{ifs:List Expr}{scope:Scope}{pos:Pos}{it acc:Value}{env:Env}(I:Nat->Shared->Prop){N:Value->Shared->Prop}(hN:∀x s',N x s'->False)
  (turn:∀n s,I n s->wpAny (model prog w) A (pyNext it) (λr bA=>match r with
   | none=>R (.ok .next) bA
   | some v=>wpAny (model prog w) A (letOwnedTupleGo target it v) (λ_ HE=>wpAny (model prog w) A (assign target env v) (λ_ g7 =>
     wpAny (model prog w) A (forIn ifs true λc r=>if r=true then do let ok <-isTrue c env (eval c env);pure (J' ok) else pure (J' r)) (λok CI =>
      if ok=true then wpAny (model prog w) A (eval elt env) (λx Nc =>
       wpAny (model prog w) A (call (.builtin "list.append") [acc,x]) (λ_ Nb=>∃m,m<n/\I m Nb) N Nc) N CI
      else ∃m,m<n/\I m CI) N g7) N HE) N bA) N s)
  (n:Nat)(h:I n s):
  codeAny (model prog w) A (.compLoop (.ListComp elt [⟨target,iter,ifs,0⟩] scope pos) 0 it acc env) R s:=by
 refine codeAny_loop rfl I (λn s hI=>?_) n h
 show wpAny _ A ((compTurn (.ListComp elt [⟨target,iter,ifs,0⟩] scope pos) 0 it acc env).onRaise (λx=>do noteFrame x env;theTreesLotGoes x)) _ _ s
 refine wpAny_noted ?_
 rw [compTurn_list]
 have no:∀{P:Value->Shared->Prop} (x:Value) (s':Shared),N x s'->P x s':=λx s' z=>(hN x s' z).elim
 refine aY (Rv (aY (z8 (turn n s hI) (λr bA h₁=>?_) no)))
 cases r with
 | none=>exact cE h₁
 | some v =>
  refine aY (z8 h₁ (λ_ HE Oe=>?_) no)
  refine aY (z8 Oe (λ_ g7 EO=>aY (z8 EO (λok CI GP=>?_) no)) no)
  cases ok with
  | false=>exact cE ⟨rfl,GP⟩
  | true =>
   exact aY (aY (z8 GP (λx Nc VD=>aY (z8 VD (λ_ Nb VC=>cE (cE ⟨rfl,VC⟩)) no)) no))
end
section
variable {X:Cx}{N N':List Str}{sc eJ:Scope}{k:Nat}{full:Bool}{elt iter tg:Expr}{ifs:List Expr}{pos:Pos}{fi:En->Option (List D)}{caps:List Nat}{nt:Nat}{g:GF}{fc:En->Option Bool}{fe:En->Option Sl}
noncomputable def HV(X:Cx)(N':List Str)(eJ:Scope)(ex:List Addr)(s:Shared)(H:Hp):Cx where
 prog:=X.prog
 w:=X.w
 K:=X.K
 mg:=X.mg
 base:=X.base
 A:=X.A
 N:=N'
 gu:=s
 Fq:=H
 env:=compEnvC eJ (o7 X.env.cells eJ.names []) s.heap.objs.size X.env
 outer:=X.stack
 stack:=X.stack
 ex:=ex
 fn:=λ_=>false
 calm:=true
 pn:=[]
 xe:=λ_ _=>False
theorem Iv(C:fx N sc N' caps nt eJ)(BJ:X.env.scope=sc){pins:List (Addr×Obj)}{σ:L2.St}{H:Hp}{s:Shared}(I:Inv X pins σ H s){x:Str}{c:Addr}(h:(o7 X.env.cells eJ.names []).lookup x=some c):X.env.cells.lookup x=some c:=by
 rcases b03 _ _ h with h | ⟨h,e⟩
 .simp at h
 .obtain ⟨c',Fz⟩:=I.ok.has x (by
   show X.env.scope.names.lookup x=_\/X.env.scope.names.lookup x=_
   rw [BJ]
   exact C.free _ h rfl)
  rw [Fz] at e
  rw [e];exact Fz
theorem b6t(h:eJ.names.lookup x=some .free):∃c,(o7 X.env.cells eJ.names []).lookup x=some c:=a87 _ _ (.inr (YR h))
theorem b5e(C:fx N sc N' caps nt eJ)(BJ:X.env.scope=sc)(hc:X.calm=true){pins:List (Addr×Obj)}{σ:L2.St}{H:Hp}{s s3:Shared}{fp:List Addr}(I:Inv X pins σ H s)(I3:Inv X pins σ H s3)
  (hf:∀b∈fp,wz X pins H b)(OA:∀b∈fp,∃o,s3.heap.get? b=some o)(hs:s3.heap.objs.size=s.heap.objs.size+1):(HV X N' eJ (s.heap.objs.size::fp) s3 H).Ok:=by
 have small:∀x c,X.env.cells.lookup x=some c->c<s.heap.objs.size:=λx c e=>by
  obtain ⟨v,z⟩:=I.cell x c e
  exact z.lt
 have kd:∀x,((HV X N' eJ (s.heap.objs.size::fp) s3 H).env.kindOf x=some .cell\/(HV X N' eJ (s.heap.objs.size::fp) s3 H).env.kindOf x=some .free)->eJ.names.lookup x=some .free:=λx h=>by
  have h':∃k,(rl eJ X.env.scope).names.lookup x=some k/\(k=.cell\/k=.free):=h.elim (λz=>⟨_,z,.inl rfl⟩) λz=>⟨_,z,.inr rfl⟩
  obtain ⟨k,e,hk⟩:=h'
  obtain ⟨k',e1,e2⟩:=b1E e
  have nc:k'≠.cell:=C.EK _ (YR e1)
  by_cases HR:(k'==Dc&&X.env.scope.kind==.function&&X.env.scope.names.lookup x==some .cell)=true
  .have:k'=.free:=by
    have:=(FC _ _▸(FC _ _▸HR).1).1
    simpa using this
   rw [e1,this]
  .rw [if_neg HR] at e2
   subst e2
   rcases hk with rfl | rfl
   .exact (nc rfl).elim
   .exact e1
 refine ⟨I.ok.mod,C.kind,I.ok.glob,I.ok.blt,dF _,λx y c h1 h2=>I.ok.inj x y c (Iv C BJ I h1) (Iv C BJ I h2),λx h=>b6t (kd x h),λ_ _ (z:false=true) _=>(nomatch z),λ_=>I.ok.hd hc,I.ok.frames,.inl rfl,λb hb=>⟨?_,λx c e=>?_⟩,λb o e=>?_,?_,λb o e hb=>?_,λb hb Fu=>?_,I3.stack,λb hb=>I.Ce b hb⟩
 .show b≠s3.heap.objs.size
  rcases js.mp hb with rfl | hb
  .rw [hs];exact g0 (AI _)
  .obtain ⟨o,e⟩:=OA b hb
   exact g0 (eY e)
 .have e':=Iv C BJ I e
  rcases js.mp hb with rfl | hb
  .exact g0 (small x c e')
  .exact (hf b hb).2.2.2.2.1 x c e'
 .exact I3.bs b o e
 .exact tu I.ok.E7 I3.sz
 .have lt:b<X.base.objs.size:=eY e
  have h0:=I.ok.E7
  have h1:=I.sz
  rcases js.mp hb with rfl | hb
  .exact absurd (Am lt (tu h0 h1)) (E6 _)
  .rcases (hf b hb).2.2.2.1 with z | z
   .exact I.ok.EJ b o e z
   .exact absurd (Am lt (tu h0 z)) (E6 _)
 .rcases js.mp hb with rfl | hb
  .obtain ⟨_,o,ho,_⟩:=I.stack.mem Fu
   exact absurd (eY ho) (E6 _)
  .rcases js.mp (I.zU b Fu) with z | z
   .exact (hf b hb).2.1 z
   .exact (hf b hb).2.2.1 z
theorem S0{α:Type}{n j:Nat}{x y:α}{l:List α}(h:(zJ n x++l)[j]?=some y):y=x\/(n<=j/\l[j-n]?=some y):=by
 by_cases hj:j<n
 .rw [Xx (by simpa using hj),LG,if_pos hj] at h
  exact .inl (lH h).symm
 .rw [Xy (by simpa using hj),Sb] at h
  exact .inr ⟨by omega,h⟩
theorem b3O(C:fx N sc N' caps nt eJ)(BJ:X.env.scope=sc)(hN:X.N=N)(hc:X.calm=true){pins:List (Addr×Obj)}{σ:L2.St}{H:Hp}{s s3 s4:Shared}{fp:List Addr}(I:Inv X pins σ H s)(I3:Inv X pins σ H s3)
  (hf:∀b∈fp,wz X pins H b)(OA:∀b∈fp,∃o,s3.heap.get? b=some o)(hs:s3.heap.objs.size=s.heap.objs.size+1)
  (JM:s4.os=s3.os)(hg:s4.gens=s3.gens)(hk:∀b o,s3.heap.get? b=some o->s4.heap.get? b=some o)(K9:s4.heap.Ns s3.heap.objs.size λ_=>none):
  Inv (HV X N' eJ (s.heap.objs.size::fp) s3 H) [] (zJ nt none++l9 caps σ) H s4:=by
 have sl:∀(caps:List Nat) (σ:L2.St),(l9 caps σ).length=caps.length:=λcaps σ=>by
  induction caps with
  | nil=>rfl
  | cons i r ih=>simp [l9,ih]
 have sg:∀(caps:List Nat) (σ:L2.St) (j:Nat) (v:V),(l9 caps σ)[j]?=some (some v)->∃i,caps[j]?=some i/\σ[i]?=some (some v):=λcaps σ=>by
  induction caps with
  | nil=>intro j v h;simp [l9] at h
  | cons i r ih =>
   intro j v h
   cases j with
   | zero =>
    have h':(σ[i]?).getD none=some v:=by simpa [l9] using h
    refine ⟨i,rfl,?_⟩
    cases e:σ[i]? with
    | none=>rw [e] at h';cases h'
    | some o=>rw [e] at h';exact congrArg some h'
   | succ j =>
    obtain ⟨i',e1,e2⟩:=ih j v (by simpa [l9] using h)
    exact ⟨i',by simpa using e1,e2⟩
 refine ⟨b5e C BJ hc I I3 hf OA hs,JM,by rw [hg];exact I3.bare,Un.kept hk,⟨_,K9,λi x v h1 h2 h3=>?_⟩,λx c e=>?_,I3.cF.fresh (dF _),λx c e=>I3.nC x c (Iv C BJ I e),λp hp=>absurd (show p∈([]:List (Addr×Obj)) from hp) (by simp),I3.cF.kept hk,?_⟩
 .have h1:N'[i]?=some x:=h1
  rcases S0 h2 with z | ⟨hi,h2⟩
  .cases z
  .obtain ⟨i',e1,e2⟩:=sg caps σ _ v h2
   have hd:(N'.drop nt)[i-nt]?=some x:=by rw [List.getElem?_drop,Nat.add_sub_cancel' hi];exact h1
   have hm:=congrArg (λl=>l[i-nt]?) C.cap
   simp only [zq,e1,hd,Option.map_some] at hm
   have hN':X.N[i']?=some x:=by rw [hN];exact lH hm
   have VW:=C.fr x (Xq hd)
   have xU:=C.free _ (YR VW) rfl
   obtain ⟨m,hn,hl⟩:=I3.loc
   obtain ⟨u,r,l⟩:=hl i' x v hN' e2 (by rw [BJ];exact .inr xU)
   refine ⟨u,r,.inr ⟨?_,?_⟩⟩
   .have e:=YG (sc:=X.env.scope) VW
    show (rl eJ X.env.scope).names.lookup x=_\/(rl eJ X.env.scope).names.lookup x=_
    have e':(rl eJ X.env.scope).names.lookup x=_:=e
    rw [e']
    split
    .exact .inl rfl
    .exact .inr rfl
   .rcases l with ⟨k,_⟩ | ⟨k,c,e,z⟩
    .exfalso
     have k:X.env.scope.names.lookup x=some .local:=k
     rw [BJ] at k
     dsimp only at xU
     rw [k] at xU
     rcases xU with z | z<;>cases z
    .obtain ⟨c',Fz⟩:=b6t (X:=X) VW
     have:=Iv C BJ I Fz
     rw [e] at this
     cases this
     exact ⟨c,Fz,z.keeps hk⟩
 .obtain ⟨v,z⟩:=I3.cell x c (Iv C BJ I e)
  exact ⟨v,z.keeps hk⟩
 .show (zJ nt none++l9 caps σ).length=N'.length
  rw [ma,Sb,sl,C.len]
theorem b31(r:aU xs us):xs.length=us.length:=r.length
theorem b3N{pins pl:List (Addr×Obj)}{σ bB:L2.St}{H2 H':Hp}{s2 s3 s1:Shared}{fp:List Addr}{h':Heap}{xs:List V}{ys:List Value}(I2:Inv X pins σ H2 s2)(hs3:s3.os=s2.os)(OJ:∀b o,s2.heap.get? b=some o->s3.heap.get? b=some o)
  (hsz:s3.heap.objs.size=s2.heap.objs.size+1)(f2:∀b∈fp,wz X pins H2 b)(I':Inv (HV X N' eJ (s2.heap.objs.size::fp) s3 H2) pl bB H' s1)(sb:E5 s3.heap.objs.size s1.heap h')
  (hn:H' s2.heap.objs.size=none)(hl:∃n,s1.heap.get? s2.heap.objs.size=some { cls:=.type "list",data:=.seq ys.toArray n })(hv:aU xs ys)(hz:xs.length<=sizeLine):
  Inv X pins σ (upd H' s2.heap.objs.size (.lst xs)) { s1 with heap:=h' }:=by
 have ltC:∀b,b<s3.heap.objs.size->b≠s3.heap.objs.size:=λb h=>g0 h
 have lt2:∀b,b<s2.heap.objs.size->b≠s2.heap.objs.size:=λb h=>g0 h
 have out:∀b o,s2.heap.get? b=some o->b∉fp->b∉s2.heap.objs.size::fp:=λb o e n z=>(js.mp z).elim (lt2 b (eY e)) n
 have hC:H' s3.heap.objs.size=none:=I'.free
 have up:∀b o,s2.heap.get? b=some o->∀o',s1.heap.get? b=some o'->h'.get? b=some o':=λb o e o' e'=>(sb.2 b (ltC b (eY (OJ b o e)))).trans e'
 have HH:∀b u,H' b=some u->b≠s2.heap.objs.size:=λb u e z=>by rw [z,hn] at e;cases e
 have u:=I'.base
 refine I2.Pf (s':={ s1 with heap:=h' }) (ch:=fp) (I'.os.trans hs3) ⟨λb o e n hb hx=>?_,λb o e n hb hx=>?_,λb o e n hx=>?_,λb o e hx=>?_,λb zs e=>?_,λb o v e=>?_,λb ps e=>?_⟩ (λb v e=>?_) I'.bare (λb hb=>?_)
 .exact up b o e o (u.keep b o (OJ b o e) n hb (out b o e hx))
 .obtain ⟨sl,e1⟩:=u.slot b o (OJ b o e) n hb (out b o e hx)
  exact ⟨sl,up b o e _ e1⟩
 .rw [jw (lt2 b (eY e))]
  exact u.free b o (OJ b o e) n (out b o e hx)
 .obtain ⟨o',e1⟩:=u.there b o (OJ b o e) (out b o e hx)
  exact ⟨o',up b o e _ e1⟩
 .have:=u.rg b zs e
  rw [jw (HH b _ this)];exact this
 .have:=u.qo b o v e
  rw [jw (HH b _ this)];exact this
 .obtain ⟨more,this⟩:=u.rh b ps e
  exact ⟨more,by rw [jw (HH b _ this)];exact this⟩
 .by_cases hb:b=s2.heap.objs.size
  .subst hb
   rw [yB] at e
   cases e
   obtain ⟨n,e1⟩:=hl
   exact ⟨hz,ys,n,hv,(sb.2 _ (by rw [hsz];exact g0 (AI _))).trans e1⟩
  .rw [jw hb] at e
   refine (I'.cF b v e).CJ (λc w hc q=>(sb.2 c ?_).trans q) (λc _ _ q=>by rw [jw (HH c _ q)];exact q) λc zs q=>by rw [jw (HH c _ q)];exact q
   rintro rfl
   rcases hc with z | z
   .rw [<-z,hC] at e;cases e
   .rw [hC] at z;cases z
 .obtain ⟨_,g1,_,g3,g4,g5⟩:=f2 b hb
  exact ⟨g3,g1,g4,g5⟩
theorem Yx(h:Fx X N sc k full)(C:fx N sc N' caps nt eJ){wi:TI}(pi:PI X tg iter wi)(ki:∀(O:Addr->Prop) (B:Hp) (σ:L2.St) (H:Hp) (env:En) (ds:List D) (R:It->Hp->Prop),Rel X.K O B σ H env->fi env=some ds->(∀J H',aO H H'->Iu X.K (OO O σ env) J H' ds->R J H')->wi σ H R)
  (hb:∀X':Cx,X'.prog=X.prog->X'.w=X.w->X'.K=X.K->X'.mg=X.mg->X'.base=X.base->Fx X' N' (rl eJ sc) k false->GV X' tg g/\MI X' ifs fc/\EV X' elt fe)
  (Fu:∀x,foldedSetIterable iter X.env x=pure x){pins:List (Addr×Obj)}{s:Shared}{σ:L2.St}{H:Hp}(I:Inv X pins σ H s){O:Addr->Prop}{B:Hp}{env:En}{r:Sl}(R:Rel X.K O B σ H env)(e:jt fi caps nt g fc fe env=some r)
  {use:Option (Value->Sem Unit)}{QQ:Value->Shared->Prop}
  (fin:∀(C0 p:Addr) (H':Hp) (s':Shared),(∃m,s'.heap.Ns C0 m)->wz X pins H' C0->(∀h',E5 C0 s'.heap h'->Inv X pins σ H' { s' with heap:=h' })->aO H H'->Res X.K (OO O σ env) H H' (.ref p) r ->
   compPost (model X.prog X.w) X.A X.xe use QQ (.ref p) C0 (.ok .next) s'):
  wpAny (model X.prog X.w) X.A (comprehension (.ListComp elt [⟨tg,iter,ifs,0⟩] eJ pos) eJ X.env (firstIterPos [⟨tg,iter,ifs,0⟩] pos) (newList []) (firstAsync [⟨tg,iter,ifs,0⟩]) (firstIter [⟨tg,iter,ifs,0⟩] X.env) use) QQ X.xe s:=by
 obtain ⟨ds,e1,e2⟩:=bind_some e
 obtain ⟨cs,e3,e4⟩:=bind_some e2
 by_cases hlen:ds.length<=16777216
 case neg=>rw [if_neg hlen] at e4;cases e4
 rw [if_pos hlen] at e4
 obtain ⟨rs,e5,rfl⟩:=map_some e4
 have OF:closureFor eJ X.env=pure (o7 X.env.cells eJ.names []):=a8k λy hy hf=>I.ok.has y.1 (by
  show X.env.scope.names.lookup y.1=_\/X.env.scope.names.lookup y.1=_
  rw [h.sc]
  exact C.free y hy hf)
 have hpi:=pi pins s σ H (λJ H'=>aO H H'/\Iu X.K (OO O σ env) J H' ds) I (ki O B σ H env ds _ R e1 λJ H' s' wk=>⟨s',wk⟩)
 refine wpAny_comprehension_free (use:=use) rfl Fu OF C.kind C.loc (cM hpi λxv s1 h1=>cM h1 λVz s2 h2=>?_)
 obtain ⟨it,fp,tn,J,H2,rfl,I2,T,wA,f2,Cg,wk⟩:=h2
 refine FD (wpAny_newFunctionEnv C.EK (by intro y hy;simp at hy) (λh₁ BL BK=>?_) C.kind)
 dsimp only at BL BK ⊢
 generalize Wb:s2.heap.push { cls:=.type "list",dict:=none,data:=.seq ([]:List Value).toArray }=H3 at BL BK ⊢
 have hsz:H3.objs.size=s2.heap.objs.size+1:=by rw [<-Wb,zo]
 have N2:∀b o,s2.heap.get? b=some o->H3.get? b=some o:=λb o e=>by rw [<-Wb];exact ft _ e
 have QZ:∀b o,H3.get? b=some o->h₁.get? b=some o:=λb o e=>BK.extBut b o (g0 (eY e)) (ft _ e)
 have I3:Inv X pins σ H2 { s2 with heap:=H3 }:=I2.kept (t':=s2.toks) N2
 have NU:∀b∈fp,b<s2.heap.objs.size:=λb hb=>by obtain ⟨o,eo,_⟩:=T.obj 0 _ wA b hb;exact eY eo
 have HH:∀b∈fp,b≠s2.heap.objs.size:=λb hb=>g0 (NU b hb)
 have OA:∀b∈fp,∃o,H3.get? b=some o:=λb hb=>by obtain ⟨o,eo,_⟩:=T.obj 0 _ wA b hb;exact ⟨o,N2 b o eo⟩
 have R2:=R.grow Cg
 obtain ⟨lc,ls,cg⟩:=b3J R2 e3
 generalize Bb:HV X N' eJ (s2.heap.objs.size::fp) { s2 with heap:=H3 } H2=X'
 have I4:∀t,Inv X' [] (zJ nt none++l9 caps σ) H2 { s2 with heap:=h₁,toks:=t }:=λt=>by
  rw [<-Bb]
  exact b3O (s3:={ s2 with heap:=H3 }) (s4:={ s2 with heap:=h₁,toks:=t }) C h.sc h.n h.calm I2 I3 f2 OA hsz rfl rfl QZ (by simpa using BL)
 have hP:X'.prog=X.prog:=by rw [<-Bb];rfl
 have hW:X'.w=X.w:=by rw [<-Bb];rfl
 have hK:X'.K=X.K:=by rw [<-Bb];rfl
 have hE:X'.env=compEnvC eJ (o7 X.env.cells eJ.names []) H3.objs.size X.env:=by rw [<-Bb];rfl
 have hA:X'.A=X.A:=by rw [<-Bb];rfl
 have hx:X'.xe=λ_ _=>False:=by rw [<-Bb];rfl
 have V0:X'.calm=true:=by rw [<-Bb];rfl
 have hbd:=hb X' hP hW hK (by rw [<-Bb];rfl) (by rw [<-Bb];rfl) ⟨by rw [<-Bb];rfl,by rw [hE];show rl eJ X.env.scope=_;rw [h.sc],V0,λz=>(nomatch z),by rw [hx];exact Pn,by rw [hA];exact h.room,C.nd,λz=>(nomatch z)⟩
 obtain ⟨⟨F5,pg,kg⟩,⟨tc,pc,kc⟩,te,pe,ke⟩:=hbd
 have Wk:∀{H':Hp} {pl:List (Addr×Obj)},(∀b∈fp,H' b=none)->(∀p∈pl,∀b∈fp,p.1≠b)->∀b∈fp,wz X' pl H' b:=λ{H' pl} hn nP b hb=>by
  obtain ⟨_,g1,g2,g3,g4,g5⟩:=f2 b hb
  rw [<-Bb]
  refine ⟨hn b hb,g0 (Am (NU b hb) (by show s2.heap.objs.size<=H3.objs.size;rw [hsz];exact He _)),λz=>?_,.inl (nT _ hb),λx c e=>g4 x c (Iv C h.sc I2 e),λp hp=>nP p (by simpa [HV] using hp) b hb⟩
  rcases js.mp (I2.zU b z) with z | z
  .exact g1 z
  .exact g2 z
 have R0:Rel X'.K (OO O σ env) H2 (zJ nt none++l9 caps σ) H2 (zJ nt Sl.no++cs):=by
  have BG:∀(i:Nat) (es:Sl),(zJ nt Sl.no++cs)[i]?=some es->es.own->False:=λi es e o=>by
   rcases S0 e with z | ⟨_,z⟩
   .cases z;exact o
   .obtain ⟨d,_,_,z,_⟩:=cg _ _ z
    cases z;exact o
  have Ks:∀p,¬zP (zJ nt none++l9 caps σ) (zJ nt Sl.no++cs) p:=λp ⟨i,es,e,o,_⟩=>BG i es e o
  rw [hK]
  refine ⟨aO.refl _,R2.dm,by simp [lc,ls],λi d e=>?_,λi es e=>(BG i _ e trivial).elim,λi es e=>(BG i _ e trivial).elim,λi ks es e=>(BG i _ e trivial).elim,λi j es fs p e _ _ _ o=>(BG i es e o).elim⟩
  rcases S0 e with z | ⟨hi,z⟩
  .cases z
  .obtain ⟨d',v,i',z1,z2,z3,_⟩:=cg _ _ z
   cases z1
   refine ⟨v,?_,z3.less λp hp=>hp.elim id λz=>(Ks p z).elim⟩
   rw [Xy (by simpa using hi),Sb]
   exact z2
 have loop:∀t,codeAny (model X.prog X.w) X.A (.compLoop (.ListComp elt [⟨tg,iter,ifs,0⟩] eJ pos) 0 (.ref it) (.ref s2.heap.objs.size) (compEnvC eJ (o7 X.env.cells eJ.names []) H3.objs.size X.env))
   (compPost (model X.prog X.w) X.A X.xe use QQ (.ref s2.heap.objs.size) H3.objs.size) { s2 with heap:=h₁,toks:=t }:=λt=>by
  refine b0i (N:=λ_ _=>False) (λn s'=>∃(i:Nat) (bB:L2.St) (H':Hp) (ao:En) (ys:List Value) (xs:List V) (HF QU:List D),n=ds.length-i/\i<=ds.length/\Inv X' [] bB H' s'/\tn i s'.heap/\(∀b∈fp,H' b=none)/\H' s2.heap.objs.size=none /\
    s'.heap.PlainList s2.heap.objs.size ys.toArray/\aU xs ys/\Rel X'.K (OO O σ env) H2 bB H' ao/\Gd (zJ nt none++l9 caps σ) (zJ nt Sl.no++cs) H2 bB ao H' /\
    bp X'.K (OO (OO O σ env) bB ao) H' xs HF/\tJ g fc fe (ds.drop i) ao=some QU/\HF++QU=rs/\HF.length<=i) (λ_ _ z=>z) ?_ ds.length
   ⟨0,_,H2,_,[],[],[],rs,by simp,De _,I4 t,T.keep _ _ _ wA (λb _ o e=>QZ b o (N2 b o e)),λb hb=>(f2 b hb).1,I2.cF.fresh (dF _),⟨_,QZ _ _ (by rw [<-Wb];exact nS _ rfl)⟩,.nil,R0,Gd.refl (aO.refl _),.nil,by simpa using e5,rfl,dF _⟩
  rintro n s3 ⟨i,yO,MJ,BR,ys,xs,HF,QU,rfl,hi,J3,Nd,OQ,ha3,Z0,vx,R3,gd3,Oa,Pe,Q1,hr1⟩
  have NC:Inv X' (Hk [s2.heap.objs.size] s3.heap) yO MJ s3:=by
   refine J3.p5 λp hp=>?_
   obtain ⟨hb,e⟩:=YH hp
   have hb:p.1=s2.heap.objs.size:=by simpa using hb
   obtain ⟨n,en⟩:=Z0
   rw [hb,en] at e
   refine ⟨by rw [hb,en];exact e,by rw [hb];exact ha3,?_,λz=>?_,λv z=>?_⟩
   .rw [hb,hE]
    show s2.heap.objs.size≠H3.objs.size
    rw [hsz]
    exact g0 (AI _)
   .rw [hb,<-Bb] at z
    obtain ⟨_,o,ho,_⟩:=I2.stack.mem z
    exact absurd (eY ho) (E6 _)
   .rw [<-lH e] at z;cases z
  have apart:∀p∈Hk [s2.heap.objs.size] s3.heap,∀b∈fp,p.1≠b:=λp hp b hb z=>by
   have e:p.1=s2.heap.objs.size:=by simpa using (YH hp).1
   exact HH b hb (z.symm.trans e)
  have E9:∀{pl:List (Addr×Obj)} {bB:L2.St} {H':Hp} {s':Shared},Inv X' pl bB H' s'->(∀p∈Hk [s2.heap.objs.size] s3.heap,p∈pl)->s'.heap.PlainList s2.heap.objs.size ys.toArray/\H' s2.heap.objs.size=none:=λ{pl bB H' s'} J C3=>by
   obtain ⟨n,en⟩:=Z0
   obtain ⟨q1,q2,_⟩:=J.pin _ (DH _ (C3 _ (Qq (fp:=[s2.heap.objs.size]) (by simp) en)))
   exact ⟨⟨n,q1⟩,q2⟩
  have w:=wk (OO (OO O σ env) yO BR) MJ (λa u ea na=>by
   obtain ⟨h1,h2⟩:=gd3 a u ea λ⟨i,es,e,o,_⟩=>by
    rcases S0 e with z | ⟨_,z⟩
    .cases z;exact o
    .obtain ⟨d,_,_,z,_⟩:=cg _ _ z
     cases z;exact o
   exact ⟨h1,λz=>z.elim na h2⟩) (λa=>R3.oo) i
  by_cases jG:i<ds.length
  .obtain ⟨go,yl⟩:=w.1 ds[i] (by simp [jG])
   have BO:ds.drop i=ds[i]::ds.drop (i+1):=RS jG
   rw [BO,tJ] at Pe
   obtain ⟨sF,c1,c2⟩:=bind_some Pe
   obtain ⟨b,c2,c3⟩:=bind_some c2
   have ti:=T.item X' hP hW hK V0 i _ s3 yO MJ (λ_ _=>False) NC (Wk OQ apart) Nd go
   rw [hA] at ti
   refine cM ti λr s4 ⟨u,hr,h4⟩=>?_
   subst hr
   refine cM h4 λ_ s5 ⟨x,H5,I5,r5,y5,Jc,Wj⟩=>?_
   obtain ⟨U5,hx5⟩:=yl x H5 y5
   have ZQ:=I5.pinned (Wk Wj apart) (T.obj _ _ Jc)
   have HJ:∀{bB:L2.St} {H':Hp} {s':Shared},Inv X' (Hk [s2.heap.objs.size] s3.heap++Hk fp s5.heap) bB H' s'->tn (i+1) s'.heap/\∀b∈fp,H' b=none:=λ{bB H' s'} J=>by
    refine ⟨T.keep _ _ _ Jc λb hb o e=>(J.pin (b,o) (DH _ (DH _ (Qq hb e)))).1,λb hb=>?_⟩
    obtain ⟨o,e,_⟩:=T.obj _ _ Jc b hb
    exact (J.pin (b,o) (DH _ (DH _ (Qq hb e)))).2.1
   have Z1:=pg _ s5 yO H5 x u _ ZQ r5 (kg (OO O σ env) H2 yO H5 BR sF x ds[i] (λA5 H6=>Rel X'.K (OO O σ env) H2 A5 H6 sF/\Gd yO BR H5 A5 sF H6) (R3.grow U5) (hK▸hx5) c1 λA5 H6 R6 g6=>⟨R6,g6⟩)
   rw [hP,hW,hA,hE,hx] at Z1
   refine cM Z1 λ_ s6 ⟨A5,H6,I6,R6,g6⟩=>?_
   have Z3:=pc _ s6 A5 H6 (λb' H'=>b'=b/\aO H6 H') I6 (kc (OO O σ env) H2 A5 H6 sF b _ R6 c2 λH' s'=>⟨rfl,s'⟩)
   rw [hP,hW,hA,hE,hx] at Z3
   refine cM Z3 λok s7 ⟨H7,I7,cF,U4⟩=>?_
   subst cF
   have R7:=R6.grow U4
   have gd7:=gd3.trans ((Gd.refl U5).trans (g6.trans (Gd.refl U4)))
   have is7:bp X'.K (OO (OO O σ env) A5 sF) H7 xs HF:=((Gd.refl U5).trans (g6.trans (Gd.refl U4))).N7 Oa
   cases ok with
   | false =>
    rw [if_neg DG] at c3 ⊢
    obtain ⟨st7,fr7⟩:=HJ I7
    obtain ⟨pl7,ha7⟩:=E9 I7 λp hp=>Hg _ hp
    exact ⟨ds.length-(i+1),by omega,i+1,A5,H7,sF,ys,xs,HF,QU,rfl,jG,I7.p5 (λ_ z=>nomatch z),st7,fr7,ha7,pl7,vx,R7,gd7,is7,c3,Q1,by omega⟩
   | true =>
    rw [if_pos rfl] at c3 ⊢
    obtain ⟨r,d3,d4⟩:=bind_some c3
    obtain ⟨rs3,d5,d6⟩:=bind_some d4
    clear c3 d4 Pe
    obtain rfl:=lH d6
    have Z2:=pe _ s7 A5 H7 (λv H'=>aO H7 H'/\Is X'.K (OO (OO O σ env) A5 sF) H' v r.d) I7 (ke (OO O σ env) H2 A5 H7 sF r _ R7 d3 λv H' s' rr=>⟨s',rr.is λp=>R7.oo⟩)
    rw [hP,hW,hA,hE,hx] at Z2
    refine cM Z2 λy s8 ⟨v,H8,I8,ry,U3,hv⟩=>?_
    obtain ⟨st8,fr8⟩:=HJ I8
    obtain ⟨pl8,ha8⟩:=E9 I8 λp hp=>Hg _ hp
    have hyl:ys.length=HF.length:=by rw [<-b31 vx,Oa.length]
    refine wpAny_list_append_plain (hsz:=by rw [jM,hyl,yJ];omega) pl8 λh' pl9 ZZ=>?_
    have J8:Inv X' [] A5 H8 s8:=I8.p5 λ_ z=>nomatch z
    have J9:Inv X' [] A5 H8 { s8 with heap:=h' }:=J8.turned (t':=s8.toks) (it:=s2.heap.objs.size) (λb o hb e=>(ZZ.2 b hb).trans e) ha8
     (by rw [hE];show s2.heap.objs.size≠H3.objs.size;rw [hsz];exact g0 (AI _)) (.inl (by rw [<-Bb];exact pd))
     (λx c e=>by
      rw [hE] at e
      obtain ⟨_,z⟩:=I2.cell x c (Iv C h.sc I2 e)
      exact g0 z.lt) (λp hp=>by rw [<-Bb] at hp;exact absurd hp (by simp [HV]))
    refine ⟨ds.length-(i+1),by omega,i+1,A5,H8,sF,ys++[y],xs++[v],HF++[r.d],rs3,rfl,jG,J9,T.keep _ _ _ st8 λb hb o e=>(ZZ.2 b (HH b hb)).trans e,fr8,ha8,by simpa using pl9,vx.append (.cons ry .nil),R7.grow U3,gd7.trans (Gd.refl U3),(is7.grow U3).append (.cons hv .nil),d5,by rw [<-Q1];simp,by simp;omega⟩
  .have VT:i=ds.length:=by omega
   have td:=T.done X' hP hW hK V0 i _ s3 yO MJ (λ_ _=>False) NC (Wk OQ apart) Nd (w.2 (by omega))
   rw [hA] at td
   refine cM td λr s4 ⟨hr,QJ⟩=>?_
   subst hr
   obtain ⟨pl4,V7⟩:=E9 QJ λp hp=>hp
   rw [c5U (by omega),tJ] at Pe
   obtain rfl:=lH Pe
   rw [E4] at Q1
   subst Q1
   obtain ⟨m4,hn4,_⟩:=QJ.loc
   rw [hE] at hn4
   obtain ⟨n4,en4⟩:=pl4
   rw [<-Bb] at QJ
   have hb0:H2 s2.heap.objs.size=none:=I2.cF.fresh (dF _)
   have Oy:s2.heap.objs.size<=H3.objs.size:=by rw [hsz];exact He _
   have hC0:MJ H3.objs.size=none:=QJ.free
   have su:H3.objs.size≠s2.heap.objs.size:=by rw [hsz];exact Nat.succ_ne_self _
   refine fin H3.objs.size s2.heap.objs.size (upd MJ s2.heap.objs.size (.lst xs)) s4 ⟨m4,hn4⟩ (I2.z5 Oy (by rw [jw su];exact hC0)) (λh' sb=>b3N (s3:={ s2 with heap:=H3 }) (ys:=ys) I2 rfl N2 hsz f2 QJ sb V7 ⟨n4,en4⟩ vx (by rw [Oa.length,yJ];omega)) ?_ ⟨_,xs,rfl,Cg.free hb0,yB,?_⟩
   .intro b o e
    have e2:=Cg b o e
    rw [jw (Dr e2 hb0)]
    exact R3.same b o e2
   .rw [hK] at Oa
    refine Oa.map (λp hp hn z=>hn (.inl (z.elim id λz=>?_))) λp u e _=>by rw [jw (Dr e V7)];exact e
    rw [z,V7] at hp
    exact (hp rfl).elim
 exact codeAny_compStart_list (loop _) (T.self _ 0 _ _ _ (T.keep _ _ _ wA (λb _ o e=>QZ b o (N2 b o e))) (loop _))
theorem CB(h:Fx X N sc k full)(C:fx N sc N' caps nt eJ)(hi:IV X tg iter fi)
  (hb:∀X':Cx,X'.prog=X.prog->X'.w=X.w->X'.K=X.K->X'.mg=X.mg->X'.base=X.base->Fx X' N' (rl eJ sc) k false->GV X' tg g/\MI X' ifs fc/\EV X' elt fe)
  (Fu:∀x,foldedSetIterable iter X.env x=pure x:=by intro _;rfl):EV X (.ListComp elt [⟨tg,iter,ifs,0⟩] eJ pos) (jt fi caps nt g fc fe):=by
 obtain ⟨wi,pi,ki⟩:=hi
 refine ⟨λσ H Q=>∃O B env r,Rel X.K O B σ H env/\jt fi caps nt g fc fe env=some r/\∀v H',aO H H'->Res X.K (OO O σ env) H H' v r->Q v H',?_,λO B σ H env r Q R e q=>⟨O,B,env,r,R,e,q⟩⟩
 rintro pins s σ H Q I ⟨O,B,env,r,R,e,q⟩
 rw [eval_ListComp]
 exact Yx h C pi ki hb Fu I R e (use:=none) λC0 p H' s' ⟨m,hn⟩ _ hI sm rr=>⟨m,hn,λh' sb=>⟨.ref p,H',hI h' sb,rfl,q _ H' sm rr⟩⟩
theorem b6O{i:Nat}{x:Str}{pos' DX:Pos}(b:Bool)(h:Fx X N sc k full)(C:fx N sc N' caps nt eJ)(hi:IV X tg iter fi)
  (hb:∀X':Cx,X'.prog=X.prog->X'.w=X.w->X'.K=X.K->X'.mg=X.mg->X'.base=X.base->Fx X' N' (rl eJ sc) k false->GV X' tg g/\MI X' ifs fc/\EV X' elt fe)
  (hN:N[i]?=some x:=by rfl)(hv:Loc sc x:=by first | exact dY rfl | exact cO rfl)(hf:full=true\/sc.names.lookup x=some .local:=by first | exact dY rfl | exact cO rfl)(h1:(sc.names.lookup x==some .local)=true:=by rfl)(h2:(pos'.line==pos.line)=true:=by rfl)(h3:(eJ.names.any λ(n,k)=>n==x&&(k==.local||k==.cell))=false:=by rfl)
  (Fu:∀x,foldedSetIterable iter X.env x=pure x:=by intro _;rfl):SV X (.Assign [.Name x pos'] (.ListComp elt [⟨tg,iter,ifs,0⟩] eJ pos) DX) (bif b then pN i (jt fi caps nt g fc fe) else hV i (jt fi caps nt g fc fe)):=by
 obtain ⟨wi,pi,ki⟩:=hi
 refine ⟨λD σ H=>∃O B env fl ao,Rel X.K O B σ H env/\(bif b then pN i (jt fi caps nt g fc fe) else hV i (jt fi caps nt g fc fe)) env=some (fl,ao)/\jP X.K O B σ H env D fl ao,?_,λO B σ H env fl ao D R e q=>⟨O,B,env,fl,ao,R,e,q⟩⟩
 rintro pins s σ H D I ⟨O,B,env,fl,ao,R,e,q⟩
 obtain ⟨r,e1,hl,hfl,t,rfl,ht⟩:∃r,jt fi caps nt g fc fe env=some r/\i<env.length/\fl=.nx/\∃t,ao=env.set i t/\(t=r\/t=.sh r.d):=by
  cases b with
  | true =>
   dsimp only [cond] at e
   obtain ⟨r,e1,e2⟩:=bind_some e
   obtain ⟨hl,e3⟩:=oi e2
   cases e3
   exact ⟨r,e1,hl,rfl,_,rfl,.inl rfl⟩
  | false =>
   dsimp only [cond] at e
   obtain ⟨r,e1,e2⟩:=bind_some e
   obtain ⟨hl,e3⟩:=oi e2
   cases e3
   exact ⟨r,e1,hl,rfl,_,rfl,.inr rfl⟩
 subst hfl
 have hs:swapsWith (.ListComp elt [⟨tg,iter,ifs,0⟩] eJ pos) (some (.Name x pos')) DX.line X.env=pure true:=by
  have hk:X.env.blockKind=.function:=by unfold Env.blockKind;rw [I.ok.kind];rfl
  have VR:X.env.kindOf x=sc.names.lookup x:=by unfold Rn;rw [h.sc]
  unfold swapsWith
  dsimp only
  rw [hk,VR,h1,show (pos'.line==(Expr.ListComp elt [⟨tg,iter,ifs,0⟩] eJ pos).pos.line)=true from h2,h3]
  rfl
 rw [exec_Assign_Name_used _ _ _ _ hs]
 refine aY (Rv (aY ?_))
 show wpAny _ _ (comprehension _ eJ X.env _ (newList []) _ _ (some (assign (.Name x pos') X.env)) >>= λ_=>pure ()) _ _ _
 refine aY (Yx h C pi ki hb Fu I R e1 (use:=some (assign (.Name x pos') X.env)) λC0 p H' s' ⟨m,hn⟩ Ba hI sm rr=>?_)
 have I':Inv X pins σ H' s':=hI s'.heap (WW _ _)
 refine WZ (YJ (v:=.ref p) I' h.K5 (h.ix hN) (h.loc hv) rfl (λs2 I2 ⟨a,sb,ha⟩=>?_) (h.K2 hf))
 have V5:C0≠a:=λz=>by
  rcases ha with ha | ha
  .exact Ba.2.1 (z.trans ha)
  .exact Ba.2.2.2.2.1 x a ha z.symm
 obtain ⟨o,es,ep,ho,rest⟩:=hn
 refine ⟨m,⟨o,es,ep,(sb.2 C0 V5).trans ho,rest⟩,λh' U1=>?_⟩
 refine cE (cE ?_)
 have I3:Inv X pins (σ.set i (some (.ref p))) H' { s2 with heap:=h' }:=I2.turned (t':=s2.toks) (it:=C0) (λb o hb e=>(U1.2 b hb).trans e) Ba.1 Ba.2.1 Ba.2.2.2.1 Ba.2.2.2.2.1 Ba.2.2.2.2.2
 have hr:Res X.K (OO O σ env) H H' (.ref p) t:=by
  rcases ht with rfl | rfl
  .exact rr
  .exact rr.is λq=>R.oo
 obtain ⟨R',g'⟩:=R.set sm hr hl
 exact ⟨_,H',I3,q _ H' R' g'⟩
end
end DL
namespace DL
open PySem PySem.Spec PyProof.Rows L2
section
variable {X:Cx}{pins:List (Addr×Obj)}{σ:L2.St}{H:Hp}{s:Shared}
theorem b4d(I:Inv X pins σ H s)(hA:A'.handled=none)(hq:Sq X.K H k p xs)
  (h:∀(aJ:List Value) (h2:Heap) (St:Nat->Heap->Prop),aU xs aJ->Walks X.prog X.w A' s.heap.objs.size [s.heap.objs.size,p] [s.heap.objs.size] aJ.length (λi v=>aJ[i]?=some v) St->St 0 h2 ->
   (∀b o,s.heap.get? b=some o->h2.get? b=some o)->(∀b∈[s.heap.objs.size,p],b<h2.objs.size)->Q (.ref s.heap.objs.size) { s with heap:=h2 }):wpAny (model X.prog X.w) A' (pyIter (.ref p)) Q E s:=by
 cases k with
 | true =>
  obtain ⟨aJ,rv,pl,hz⟩:=I.list (show lM X.K H p xs from hq)
  have jG:p<s.heap.objs.size:=by obtain ⟨o,n,e,_⟩:=pl;exact eY e
  refine RO pl.isList ?_
  have W:=WJ (prog:=X.prog) (w:=X.w) hA s.heap.objs.size p (g0 jG) aJ.toArray
  refine h aJ _ (λi h=>h.IsListIter s.heap.objs.size p i/\h.IsList p aJ.toArray) rv (by simpa using W) ⟨⟨_,nS _ rfl,rfl,rfl⟩,pl.isList.push _⟩ (λb o e=>ft _ e) λb hb=>?_
  rw [zo]
  rcases js.mp hb with rfl | hb
  .exact AI _
  .rw [AL.mp hb];exact DE jG
 | false =>
  obtain ⟨aJ,rv,pl,hz⟩:=I.tuple (show oj X.K H p xs from hq)
  have du:s.heap.IsTuple p aJ.toArray:=pl
  have jG:p<s.heap.objs.size:=by obtain ⟨o,e,_⟩:=pl;exact eY e
  refine wpAny_pyIter_tuple du ?_
  have W:=Walks.tuple (prog:=X.prog) (w:=X.w) hA s.heap.objs.size p (g0 jG) aJ.toArray
  refine h aJ _ (λi h=>h.IsTupleIter s.heap.objs.size p i/\h.IsTuple p aJ.toArray) rv (by simpa using W) ⟨⟨_,nS _ rfl,rfl,rfl⟩,?_⟩ (λb o e=>ft _ e) λb hb=>?_
  .obtain ⟨o,e,r⟩:=du
   exact ⟨o,ft _ e,r⟩
  .rw [zo]
   rcases js.mp hb with rfl | hb
   .exact AI _
   .rw [AL.mp hb];exact DE jG
theorem b1Q(I:Inv X pins σ H s){h2 h':Heap}{tk:Nat}(k1:∀b o,s.heap.get? b=some o->h2.get? b=some o)(k2:∀b o,b∉[s.heap.objs.size]->h2.get? b=some o->h'.get? b=some o):Inv X pins σ H { s with heap:=h',toks:=tk }:=
 I.kept λb o e=>k2 b o (λz=>absurd (eY e) (by rw [AL.mp z];exact E6 _)) (k1 b o e)
end
noncomputable def An:List D->Option (List Int)
 | []=>some []
 | .int i::ds=>(An ds).map (i::·)
 | _::_=>none
noncomputable def n6:List D->Option (List Bool)
 | []=>some []
 | .bl i::ds=>(n6 ds).map (i::·)
 | _::_=>none
theorem a80:∀(ns:List Int),An (ns.map D.int)=some ns
 | []=>rfl
 | n::r=>by rw [fH,An,a80 r];rfl
theorem b06:∀(ns:List Bool),n6 (ns.map D.bl)=some ns
 | []=>rfl
 | n::r=>by rw [fH,n6,b06 r];rfl
theorem a7C:∀{ds:List D} {ns:List Int},An ds=some ns->ds=ns.map D.int
 | [],ns,e=>by cases e;rfl
 | .int i::ds,ns,e=>by
  obtain ⟨r,e1,rfl⟩:=map_some (show (An ds).map (i::·)=some ns from e)
  rw [a7C e1];rfl
 | .cT::_,_,e=>by cases e
 | .bl _::_,_,e=>by cases e
 | .str _::_,_,e=>by cases e
 | .tup _::_,_,e=>by cases e
 | .lst _ _::_,_,e=>by cases e
theorem a9c:∀{ds:List D} {ns:List Bool},n6 ds=some ns->ds=ns.map D.bl
 | [],ns,e=>by cases e;rfl
 | .bl i::ds,ns,e=>by
  obtain ⟨r,e1,rfl⟩:=map_some (show (n6 ds).map (i::·)=some ns from e)
  rw [a9c e1];rfl
 | .cT::_,_,e=>by cases e
 | .int _::_,_,e=>by cases e
 | .str _::_,_,e=>by cases e
 | .tup _::_,_,e=>by cases e
 | .lst _ _::_,_,e=>by cases e
theorem a8M{K:aX}{O:Addr->Prop}{H:Hp}:∀{xs:List V} {ns:List Int},bp K O H xs (ns.map D.int)->xs=ns.map V.int
 | _,[],.nil=>rfl
 | _,n::r,.cons h t=>by rw [Ao h,a8M t];rfl
theorem b0S{K:aX}{O:Addr->Prop}{H:Hp}:∀{xs:List V} {ns:List Bool},bp K O H xs (ns.map D.bl)->xs=ns.map V.bl
 | _,[],.nil=>rfl
 | _,n::r,.cons h t=>by rw [Iq h,b0S t];rfl
theorem b6D{ns:List Bool}(r:aU (ns.map V.bl) aJ){i:Nat}(h:aJ[i]?=some v):v=.bool (ns.getD i false):=by
 have hl:=r.length
 have hi:=(z9.mp h).1
 have xT:i<ns.length:=by rw [c6] at hl;omega
 obtain ⟨u,hu,ru⟩:=r.get (show (ns.map V.bl)[i]?=some (.bl ns[i]) by simp [xT])
 rw [h] at hu
 cases hu
 obtain rfl:v=AK ns[i]:=ru
 simp [xT]
section
variable {X:Cx}{a:Expr}{p pos:Pos}{ba:En->Option (Bool×List D)}
theorem a8y(ns:List Bool):(nR ns.length).all (λi=>ns.getD i false)=ns.all id:=by
 rw [RK,W6,W6]
 constructor
 .intro h x hx
  obtain ⟨i,hi,rfl⟩:=LI.mp hx
  have:=h i (E3.mpr hi)
  simpa [hi] using this
 .intro h i hi
  have hi:=E3.mp hi
  have:=h ns[i] (AH hi)
  simpa [hi] using this
theorem b3M(hc:X.calm=true):dO X (.builtin "all") (λxs H Q=>∃p k ns,xs=[.ref p]/\Sq X.K H k p (Co V.bl ns)/\Q (.bl (ns.all id)) H):=by
 intro pins s σ H xs us Q I r h
 obtain ⟨p,k,ns,rfl,hq,q⟩:=h
 obtain ⟨u,rfl,ru⟩:=r.one
 cases ru
 refine call_all_walk (b4d (A':=X.A.in1) I (I.ok.hd hc) hq λaJ h2 St rv W st0 k1 Ba=>?_)
 refine ⟨_,_,_,_,_,_,λi=>ns.getD i false,rfl,W,st0,λi v s Q E hP hQ=>?_,λh' tk hk=>?_⟩
 .rw [b6D rv hP]
  exact Ik hQ
 .have hl:aJ.length=ns.length:=by rw [<-rv.length];simp
  rw [hl,a8y]
  exact ⟨.bl _,H,b1Q I k1 hk,rfl,q⟩
noncomputable def NY:List Int->Int
 | []=>0
 | n::r=>r.foldl (λa b=>if b<a then b else a) n
noncomputable def NZ:List Int->Int
 | []=>0
 | n::r=>r.foldl (λa b=>if b>a then b else a) n
noncomputable def O3(f:En->Option (Bool×List D)):En->Option Sl:=λenv=>(f env).bind λx=>(An x.2).map λns=>.sh (.int ns.sum)
noncomputable def G'(f:En->Option (Bool×List D)):En->Option Sl:=λenv=>(f env).bind λx=>(n6 x.2).map λns=>.sh (.bl (ns.all id))
noncomputable def O9(f:En->Option (Bool×List D)):En->Option Sl:=λenv=>(f env).bind λx=>(n6 x.2).map λns=>.sh (.bl (ns.any id))
noncomputable def O7(f:En->Option (Bool×List D)):En->Option Sl:=λenv=>(f env).bind λx=>(An x.2).bind λns=>if ns≠[] then some (.sh (.int (NY ns))) else none
noncomputable def O8(f:En->Option (Bool×List D)):En->Option Sl:=λenv=>(f env).bind λx=>(An x.2).bind λns=>if ns≠[] then some (.sh (.int (NZ ns))) else none
theorem c0K(hg:Gl X "all")(hm:X.mg "all" = none)(hc:X.calm=true)(ha:BV X a ba)(hs:starEach [a] X.env=[(false,eval a X.env)]:=by rfl):EV X (.Call (.Name "all" p) [a] [] pos) (G' ba):=by
 obtain ⟨t,pt,k⟩:=ha
 refine ⟨_,KD (b3M hc) hg hm (by decide +kernel) (wm pt zx hs) (by decide) (by decide) hs rfl,λO B σ H env s Q R e q=>?_⟩
 obtain ⟨⟨kk,ds⟩,e1,e2⟩:=bind_some e
 obtain ⟨ns,e3,rfl⟩:=map_some e2
 have e3':=a9c e3
 dsimp only at e3'
 subst e3'
 refine k O B σ H env kk _ _ R e1 λl xs H1 s1 hq hx=>⟨l,kk,ns,rfl,?_,q _ H1 s1 (Is.bl _)⟩
 rw [<-b0S hx];exact hq
end
end DL
namespace DL
open PySem PySem.Spec PyProof.Rows L2
noncomputable def yx:List (Option Bool)->Option (List Bool)
 | []=>some []
 | some b::r=>(yx r).map (b::·)
 | none::_=>none
noncomputable def cz:Nat->D->D->Option Bool
 | _,.int i,.int j=>some (decide (i=j))
 | _,.bl i,.bl j=>some (decide (i=j))
 | _,.str i,.str j=>some (decide (i=j))
 | _,.cT,.cT=>some true
 | _,.bl i,.int j=>some (decide ((if i then 1 else 0)=j))
 | _,.int i,.bl j=>some (decide (i=(if j then 1 else 0)))
 | n+1,.tup a,.tup b=>(yx (J4 (cz n) a b)).map λbs=>bs.all id&&decide (a.length=b.length)
 | n+1,.lst _ a,.lst _ b=>if a.length=b.length then (yx (J4 (cz n) a b)).map λbs=>bs.all id else some false
 | 0,.tup _,.tup _=>none
 | 0,.lst _ _,.lst _ _=>none
 | _,.exc _,_=>none
 | _,_,.exc _=>none
 | _,.rf _ _,_=>none
 | _,.obj _ _ _,_=>none
 | _,.lX _ _,_=>none
 | _,.dI _ _,_=>none
 | _,_,.rf _ _=>none
 | _,_,.obj _ _ _=>none
 | _,_,.lX _ _=>none
 | _,_,.dI _ _=>none
 | _,_,_=>some false
theorem L7:∀{os:List (Option Bool)} {bs:List Bool},yx os=some bs->os.length=bs.length/\∀(i:Nat) (b:Bool),bs[i]?=some b->os[i]?=some (some b)
 | [],bs,e=>by cases e;exact ⟨rfl,λi b h=>by simp at h⟩
 | some b::r,bs,e=>by
  obtain ⟨bs',e1,rfl⟩:=map_some (show (yx r).map (b::·)=some bs from e)
  obtain ⟨l,ih⟩:=L7 e1
  refine ⟨by simp [l],λi c h=>?_⟩
  cases i with
  | zero=>simpa using h
  | succ i=>simpa using ih i c (by simpa using h)
 | none::_,bs,e=>by cases e
theorem all_range{bs:List Bool}{n:Nat}(h:bs.length=n):(nR n).all (λi=>bs.getD i false)=bs.all id:=by rw [<-h];exact a8y bs
section
variable {X:Cx}{pins:List (Addr×Obj)}{σ:L2.St}{H:Hp}{s:Shared}{O O':Addr->Prop}
noncomputable def QI(K:aX)(O:Addr->Prop)(H:Hp)(v:V):D->Prop
 | .cT=>v=.cT
 | .bl b=>v=.bl b
 | .int i=>v=.int i
 | .str x=>v=.str x
 | .tup ds=>∃p xs,v=.ref p/\oj K H p xs/\bp K O H xs ds
 | .lst _ ds=>∃p xs,v=.ref p/\lM K H p xs/\bp K O H xs ds
 | .exc _=>True
 | .rf _ _=>True
 | .obj _ _ _=>True
 | .lX _ _=>True
 | .dI _ _=>True
theorem Is.Dy{K:aX}{v:V}{d:D}(h:Is K O H v d):QI K O H v d:=by
 cases d with
 | cT=>exact c0u h
 | bl b=>exact Iq h
 | int i=>exact Ao h
 | str x=>exact AR h
 | tup ds=>exact Qb h
 | lst r ds =>
  obtain ⟨p,xs,e,h1,h2⟩:=h.seq (k:=true) (ds:=ds) rfl
  exact ⟨p,xs,e,h1,h2⟩
 | exc n=>trivial
 | rf n m=>trivial
 | obj n1 m1 o1=>trivial
 | lX n1 m1=>trivial
 | dI n1 m1=>trivial
theorem Tc(I:Inv X pins σ H s)(h:oj X.K H p xs)(h':lM X.K H p ys):False:=by
 obtain ⟨_,_,⟨o,e1,c1,_⟩,_⟩:=I.tuple h
 obtain ⟨_,_,⟨o',_,e2,c2,_⟩,_⟩:=I.list h'
 rw [e1] at e2
 cases e2
 rw [c1] at c2
 injection c2 with c3
 exact absurd c3 (by decide)
theorem zip_get{n:Nat}{i:Nat}{o:Option Bool}(h:(J4 (cz n) a b)[i]?=some o):∃x y,a[i]?=some x/\b[i]?=some y/\cz n x y=o:=by
 rw [c56] at h
 cases ha:a[i]? with
 | none=>rw [ha] at h;simp at h
 | some x =>
  cases hb:b[i]? with
  | none=>rw [ha,hb] at h;simp at h
  | some y=>rw [ha,hb] at h;exact ⟨x,y,rfl,rfl,by simpa using h⟩
theorem b0Z(I:Inv X pins σ H s):∀(n:Nat) {v:V} {d d':D} {b:Bool},Is X.K O H v d->Is X.K O' H v d'->cz n d d'=some b->b=true:=by
 intro n
 induction n with
 | zero =>
  intro v d d' b h h' e
  have h:=h.Dy
  have h':=h'.Dy
  cases d<;>cases d'<;>simp only [QI] at h h'<;>simp only [cz,lJ,reduceCtorEq] at e<;>first
   | (subst h;cases h';exact e.symm)
   | (subst h;cases h';rw [<-e];simp;done)
   | (subst h;cases h';done)
   | (subst h;obtain ⟨_,_,h',_⟩:=h';cases h';done)
   | (subst h';obtain ⟨_,_,h,_⟩:=h;cases h;done)
   | (obtain ⟨_,_,rfl,h,_⟩:=h;obtain ⟨_,_,hr,h',_⟩:=h';cases hr;first | exact (Tc I h h').elim | exact (Tc I h' h).elim)
 | succ n ih =>
  intro v d d' b h h' e
  have key:∀{xs:List V} {ds ds':List D} {bs:List Bool},bp X.K O H xs ds->bp X.K O' H xs ds'->yx (J4 (cz n) ds ds')=some bs->bs.all id=true:=λ{xs ds ds' bs} a1 a2 ea=>by
   obtain ⟨_,g⟩:=L7 ea
   rw [W6]
   intro c hc
   obtain ⟨i,hi,rfl⟩:=LI.mp hc
   obtain ⟨x,y,ex,ey,exy⟩:=zip_get (g i _ (md hi))
   obtain ⟨z,ez,iz⟩:=a1.get ex
   obtain ⟨z',ez',iz'⟩:=a2.get ey
   rw [ez] at ez'
   cases ez'
   exact ih iz iz' exy
  have h:=h.Dy
  have h':=h'.Dy
  cases d<;>cases d'<;>simp only [QI] at h h'<;>simp only [cz,lJ,reduceCtorEq] at e<;>first
   | (subst h;cases h';exact e.symm)
   | (subst h;cases h';rw [<-e];simp;done)
   | (subst h;cases h';done)
   | (subst h;obtain ⟨_,_,h',_⟩:=h';cases h';done)
   | (subst h';obtain ⟨_,_,h,_⟩:=h;cases h;done)
   | (obtain ⟨_,_,rfl,h,_⟩:=h;obtain ⟨_,_,hr,h',_⟩:=h';cases hr;first | exact (Tc I h h').elim | exact (Tc I h' h).elim)
   | skip
  .obtain ⟨_,xs,rfl,h,a1⟩:=h
   obtain ⟨_,ys,hr,h',a2⟩:=h'
   cases hr
   cases I.zG h h'
   obtain ⟨bs,e1,rfl⟩:=map_some e
   rw [key a1 a2 e1,<-a1.length,<-a2.length]
   simp
  .obtain ⟨_,xs,rfl,h,a1⟩:=h
   obtain ⟨_,ys,hr,h',a2⟩:=h'
   cases hr
   cases I.Ax h h'
   rw [if_pos (by rw [<-a1.length,<-a2.length])] at e
   obtain ⟨bs,e1,rfl⟩:=map_some e
   exact key a1 a2 e1
theorem b1X{xs:List V}{aJ:List Value}{O:Addr->Prop}{K:aX}{ds:List D}(r:aU xs aJ)(a:bp K O H xs ds){j:Nat}(h:j<aJ.toArray.size):∃d v,ds[j]?=some d/\Is K O H v d/\RelV v aJ.toArray[j]:=by
 have hj:j<aJ.length:=by simpa using h
 have hl:=r.length
 obtain ⟨d,hd,hv⟩:=a.JS (i:=j) (x:=xs[j]'(by omega)) (md (by omega))
 obtain ⟨u,hu,ru⟩:=r.get (i:=j) (x:=xs[j]'(by omega)) (md (by omega))
 rw [md hj] at hu
 refine ⟨d,_,hd,hv,?_⟩
 rw [List.getElem_toArray,lH hu]
 exact ru
open PySem.SeqAt in
theorem b6i(I:Inv X pins σ H s)(hu:A.units<cLine)(h:QI X.K O H v d)(h':QI X.K O' H v' d')(r:RelV v u)(r':RelV v' u')(e:cz n d d'=some b)
  (hn:(∀a c,d=.tup a->d'=.tup c->False)/\∀a c r r',d=.lst r a->d'=.lst r' c->False):EqAt A s u u' b/\RcAt A s u u' b/\RcNeAt A s u u' (!b):=by
 cases d with
 | cT =>
  cases d' with
  | cT =>
   subst h;obtain rfl:u=vX:=r
   subst h';obtain rfl:u'=vX:=r'
   simp only [cz,lJ] at e
   subst e
   exact ⟨EqAt.same _,RcAt.none_none,RcNeAt.none_none⟩
  | bl k' =>
   subst h;obtain rfl:u=vX:=r
   subst h';obtain rfl:u'=AK k':=r'
   simp only [cz,lJ] at e
   subst e
   exact ⟨EqAt.none_bool k',RcAt.none_bool k',RcNeAt.none_bool k'⟩
  | int k' =>
   subst h;obtain rfl:u=vX:=r
   subst h';obtain ⟨t',rfl⟩:=r'
   simp only [cz,lJ] at e
   subst e
   exact ⟨EqAt.none_int k' t',RcAt.none_int k' t',RcNeAt.none_int k' t'⟩
  | str k' =>
   subst h;obtain rfl:u=vX:=r
   subst h';obtain ⟨t',rfl⟩:=r'
   simp only [cz,lJ] at e
   subst e
   exact ⟨EqAt.none_str k' t',RcAt.none_str k' t',RcNeAt.none_str k' t'⟩
  | tup ds' =>
   subst h;obtain rfl:u=vX:=r
   obtain ⟨p',zF,rfl,l8,_⟩:=h';obtain ⟨its',_,du,_⟩:=I.tuple l8;obtain rfl:u'=e8 p':=r';replace du:s.heap.IsTuple p' its'.toArray:=du
   simp only [cz,lJ] at e
   subst e
   exact ⟨EqAt.none_tuple du hu,RcAt.none_tuple du hu,RcNeAt.none_tuple du hu⟩
  | lst DZ ds' =>
   subst h;obtain rfl:u=vX:=r
   obtain ⟨p',zF,rfl,l8,_⟩:=h';obtain ⟨its',_,du,_⟩:=I.list l8;obtain rfl:u'=e8 p':=r';replace du:=du.isList
   simp only [cz,lJ] at e
   subst e
   exact ⟨EqAt.none_list du hu,RcAt.none_list du hu,RcNeAt.none_list du hu⟩
  | exc n'=>simp [cz] at e
  | rf n' m'=>simp [cz] at e
  | obj n1 m1 o1=>simp [cz] at e
  | lX n1 m1=>simp [cz] at e
  | dI n1 m1=>simp [cz] at e
 | bl k =>
  cases d' with
  | cT =>
   subst h;obtain rfl:u=AK k:=r
   subst h';obtain rfl:u'=vX:=r'
   simp only [cz,lJ] at e
   subst e
   exact ⟨EqAt.bool_none k,RcAt.bool_none k,RcNeAt.bool_none k⟩
  | bl k' =>
   subst h;obtain rfl:u=AK k:=r
   subst h';obtain rfl:u'=AK k':=r'
   simp only [cz,lJ] at e
   subst e
   exact ⟨EqAt.bool_bool k k',RcAt.bool_bool k k',RcNeAt.bool_bool k k'⟩
  | int k' =>
   subst h;obtain rfl:u=AK k:=r
   subst h';obtain ⟨t',rfl⟩:=r'
   simp only [cz,lJ] at e
   subst e
   exact ⟨EqAt.bool_int k k' t',RcAt.bool_int k k' t',RcNeAt.bool_int k k' t'⟩
  | str k' =>
   subst h;obtain rfl:u=AK k:=r
   subst h';obtain ⟨t',rfl⟩:=r'
   simp only [cz,lJ] at e
   subst e
   exact ⟨EqAt.bool_str k k' t',RcAt.bool_str k k' t',RcNeAt.bool_str k k' t'⟩
  | tup ds' =>
   subst h;obtain rfl:u=AK k:=r
   obtain ⟨p',zF,rfl,l8,_⟩:=h';obtain ⟨its',_,du,_⟩:=I.tuple l8;obtain rfl:u'=e8 p':=r';replace du:s.heap.IsTuple p' its'.toArray:=du
   simp only [cz,lJ] at e
   subst e
   exact ⟨EqAt.bool_tuple k du hu,RcAt.bool_tuple k du hu,RcNeAt.bool_tuple k du hu⟩
  | lst DZ ds' =>
   subst h;obtain rfl:u=AK k:=r
   obtain ⟨p',zF,rfl,l8,_⟩:=h';obtain ⟨its',_,du,_⟩:=I.list l8;obtain rfl:u'=e8 p':=r';replace du:=du.isList
   simp only [cz,lJ] at e
   subst e
   exact ⟨EqAt.bool_list k du hu,RcAt.bool_list k du hu,RcNeAt.bool_list k du hu⟩
  | exc n'=>simp [cz] at e
  | rf n' m'=>simp [cz] at e
  | obj n1 m1 o1=>simp [cz] at e
  | lX n1 m1=>simp [cz] at e
  | dI n1 m1=>simp [cz] at e
 | int k =>
  cases d' with
  | cT =>
   subst h;obtain ⟨t,rfl⟩:=r
   subst h';obtain rfl:u'=vX:=r'
   simp only [cz,lJ] at e
   subst e
   exact ⟨EqAt.int_none k t,RcAt.int_none k t,RcNeAt.int_none k t⟩
  | bl k' =>
   subst h;obtain ⟨t,rfl⟩:=r
   subst h';obtain rfl:u'=AK k':=r'
   simp only [cz,lJ] at e
   subst e
   exact ⟨EqAt.int_bool k t k',RcAt.int_bool k t k',RcNeAt.int_bool k t k'⟩
  | int k' =>
   subst h;obtain ⟨t,rfl⟩:=r
   subst h';obtain ⟨t',rfl⟩:=r'
   simp only [cz,lJ] at e
   subst e
   exact ⟨EqAt.int_int k t k' t',RcAt.int_int k t k' t',RcNeAt.int_int k t k' t'⟩
  | str k' =>
   subst h;obtain ⟨t,rfl⟩:=r
   subst h';obtain ⟨t',rfl⟩:=r'
   simp only [cz,lJ] at e
   subst e
   exact ⟨EqAt.int_str k t k' t',RcAt.int_str k t k' t',RcNeAt.int_str k t k' t'⟩
  | tup ds' =>
   subst h;obtain ⟨t,rfl⟩:=r
   obtain ⟨p',zF,rfl,l8,_⟩:=h';obtain ⟨its',_,du,_⟩:=I.tuple l8;obtain rfl:u'=e8 p':=r';replace du:s.heap.IsTuple p' its'.toArray:=du
   simp only [cz,lJ] at e
   subst e
   exact ⟨EqAt.int_tuple k t du hu,RcAt.int_tuple k t du hu,RcNeAt.int_tuple k t du hu⟩
  | lst DZ ds' =>
   subst h;obtain ⟨t,rfl⟩:=r
   obtain ⟨p',zF,rfl,l8,_⟩:=h';obtain ⟨its',_,du,_⟩:=I.list l8;obtain rfl:u'=e8 p':=r';replace du:=du.isList
   simp only [cz,lJ] at e
   subst e
   exact ⟨EqAt.int_list k t du hu,RcAt.int_list k t du hu,RcNeAt.int_list k t du hu⟩
  | exc n'=>simp [cz] at e
  | rf n' m'=>simp [cz] at e
  | obj n1 m1 o1=>simp [cz] at e
  | lX n1 m1=>simp [cz] at e
  | dI n1 m1=>simp [cz] at e
 | str k =>
  cases d' with
  | cT =>
   subst h;obtain ⟨t,rfl⟩:=r
   subst h';obtain rfl:u'=vX:=r'
   simp only [cz,lJ] at e
   subst e
   exact ⟨EqAt.str_none k t,RcAt.str_none k t,RcNeAt.str_none k t⟩
  | bl k' =>
   subst h;obtain ⟨t,rfl⟩:=r
   subst h';obtain rfl:u'=AK k':=r'
   simp only [cz,lJ] at e
   subst e
   exact ⟨EqAt.str_bool k t k',RcAt.str_bool k t k',RcNeAt.str_bool k t k'⟩
  | int k' =>
   subst h;obtain ⟨t,rfl⟩:=r
   subst h';obtain ⟨t',rfl⟩:=r'
   simp only [cz,lJ] at e
   subst e
   exact ⟨EqAt.str_int k t k' t',RcAt.str_int k t k' t',RcNeAt.str_int k t k' t'⟩
  | str k' =>
   subst h;obtain ⟨t,rfl⟩:=r
   subst h';obtain ⟨t',rfl⟩:=r'
   simp only [cz,lJ] at e
   subst e
   exact ⟨EqAt.str_str k t k' t',RcAt.str_str k t k' t',RcNeAt.str_str k t k' t'⟩
  | tup ds' =>
   subst h;obtain ⟨t,rfl⟩:=r
   obtain ⟨p',zF,rfl,l8,_⟩:=h';obtain ⟨its',_,du,_⟩:=I.tuple l8;obtain rfl:u'=e8 p':=r';replace du:s.heap.IsTuple p' its'.toArray:=du
   simp only [cz,lJ] at e
   subst e
   exact ⟨EqAt.str_tuple k t du hu,RcAt.str_tuple k t du hu,RcNeAt.str_tuple k t du hu⟩
  | lst DZ ds' =>
   subst h;obtain ⟨t,rfl⟩:=r
   obtain ⟨p',zF,rfl,l8,_⟩:=h';obtain ⟨its',_,du,_⟩:=I.list l8;obtain rfl:u'=e8 p':=r';replace du:=du.isList
   simp only [cz,lJ] at e
   subst e
   exact ⟨EqAt.str_list k t du hu,RcAt.str_list k t du hu,RcNeAt.str_list k t du hu⟩
  | exc n'=>simp [cz] at e
  | rf n' m'=>simp [cz] at e
  | obj n1 m1 o1=>simp [cz] at e
  | lX n1 m1=>simp [cz] at e
  | dI n1 m1=>simp [cz] at e
 | tup ds =>
  cases d' with
  | cT =>
   obtain ⟨p,xs,rfl,hq,_⟩:=h;obtain ⟨aJ,_,pl,_⟩:=I.tuple hq;obtain rfl:u=e8 p:=r;replace pl:s.heap.IsTuple p aJ.toArray:=pl
   subst h';obtain rfl:u'=vX:=r'
   simp only [cz,lJ] at e
   subst e
   exact ⟨EqAt.tuple_none pl hu,RcAt.tuple_none pl hu,RcNeAt.tuple_none pl hu⟩
  | bl k' =>
   obtain ⟨p,xs,rfl,hq,_⟩:=h;obtain ⟨aJ,_,pl,_⟩:=I.tuple hq;obtain rfl:u=e8 p:=r;replace pl:s.heap.IsTuple p aJ.toArray:=pl
   subst h';obtain rfl:u'=AK k':=r'
   simp only [cz,lJ] at e
   subst e
   exact ⟨EqAt.tuple_bool k' pl hu,RcAt.tuple_bool k' pl hu,RcNeAt.tuple_bool k' pl hu⟩
  | int k' =>
   obtain ⟨p,xs,rfl,hq,_⟩:=h;obtain ⟨aJ,_,pl,_⟩:=I.tuple hq;obtain rfl:u=e8 p:=r;replace pl:s.heap.IsTuple p aJ.toArray:=pl
   subst h';obtain ⟨t',rfl⟩:=r'
   simp only [cz,lJ] at e
   subst e
   exact ⟨EqAt.tuple_int k' t' pl hu,RcAt.tuple_int k' t' pl hu,RcNeAt.tuple_int k' t' pl hu⟩
  | str k' =>
   obtain ⟨p,xs,rfl,hq,_⟩:=h;obtain ⟨aJ,_,pl,_⟩:=I.tuple hq;obtain rfl:u=e8 p:=r;replace pl:s.heap.IsTuple p aJ.toArray:=pl
   subst h';obtain ⟨t',rfl⟩:=r'
   simp only [cz,lJ] at e
   subst e
   exact ⟨EqAt.tuple_str k' t' pl hu,RcAt.tuple_str k' t' pl hu,RcNeAt.tuple_str k' t' pl hu⟩
  | tup ds'=>exact (hn.1 _ _ rfl rfl).elim
  | lst DZ ds' =>
   obtain ⟨p,xs,rfl,hq,_⟩:=h;obtain ⟨aJ,_,pl,_⟩:=I.tuple hq;obtain rfl:u=e8 p:=r;replace pl:s.heap.IsTuple p aJ.toArray:=pl
   obtain ⟨p',zF,rfl,l8,_⟩:=h';obtain ⟨its',_,du,_⟩:=I.list l8;obtain rfl:u'=e8 p':=r';replace du:=du.isList
   simp only [cz,lJ] at e
   subst e
   exact ⟨EqAt.tuple_list pl du hu,RcAt.tuple_list pl du hu,RcNeAt.tuple_list pl du hu⟩
  | exc n'=>simp [cz] at e
  | rf n' m'=>simp [cz] at e
  | obj n1 m1 o1=>simp [cz] at e
  | lX n1 m1=>simp [cz] at e
  | dI n1 m1=>simp [cz] at e
 | lst ro ds =>
  cases d' with
  | cT =>
   obtain ⟨p,xs,rfl,hq,_⟩:=h;obtain ⟨aJ,_,pl,_⟩:=I.list hq;obtain rfl:u=e8 p:=r;replace pl:=pl.isList
   subst h';obtain rfl:u'=vX:=r'
   simp only [cz,lJ] at e
   subst e
   exact ⟨EqAt.list_none pl hu,RcAt.list_none pl hu,RcNeAt.list_none pl hu⟩
  | bl k' =>
   obtain ⟨p,xs,rfl,hq,_⟩:=h;obtain ⟨aJ,_,pl,_⟩:=I.list hq;obtain rfl:u=e8 p:=r;replace pl:=pl.isList
   subst h';obtain rfl:u'=AK k':=r'
   simp only [cz,lJ] at e
   subst e
   exact ⟨EqAt.list_bool k' pl hu,RcAt.list_bool k' pl hu,RcNeAt.list_bool k' pl hu⟩
  | int k' =>
   obtain ⟨p,xs,rfl,hq,_⟩:=h;obtain ⟨aJ,_,pl,_⟩:=I.list hq;obtain rfl:u=e8 p:=r;replace pl:=pl.isList
   subst h';obtain ⟨t',rfl⟩:=r'
   simp only [cz,lJ] at e
   subst e
   exact ⟨EqAt.list_int k' t' pl hu,RcAt.list_int k' t' pl hu,RcNeAt.list_int k' t' pl hu⟩
  | str k' =>
   obtain ⟨p,xs,rfl,hq,_⟩:=h;obtain ⟨aJ,_,pl,_⟩:=I.list hq;obtain rfl:u=e8 p:=r;replace pl:=pl.isList
   subst h';obtain ⟨t',rfl⟩:=r'
   simp only [cz,lJ] at e
   subst e
   exact ⟨EqAt.list_str k' t' pl hu,RcAt.list_str k' t' pl hu,RcNeAt.list_str k' t' pl hu⟩
  | tup ds' =>
   obtain ⟨p,xs,rfl,hq,_⟩:=h;obtain ⟨aJ,_,pl,_⟩:=I.list hq;obtain rfl:u=e8 p:=r;replace pl:=pl.isList
   obtain ⟨p',zF,rfl,l8,_⟩:=h';obtain ⟨its',_,du,_⟩:=I.tuple l8;obtain rfl:u'=e8 p':=r';replace du:s.heap.IsTuple p' its'.toArray:=du
   simp only [cz,lJ] at e
   subst e
   exact ⟨EqAt.list_tuple pl du hu,RcAt.list_tuple pl du hu,RcNeAt.list_tuple pl du hu⟩
  | lst DZ ds'=>exact (hn.2 _ _ _ _ rfl rfl).elim
  | exc n'=>simp [cz] at e
  | rf n' m'=>simp [cz] at e
  | obj n1 m1 o1=>simp [cz] at e
  | lX n1 m1=>simp [cz] at e
  | dI n1 m1=>simp [cz] at e
 | exc n=>cases d'<;>simp [cz] at e
 | rf n m=>cases d'<;>simp [cz] at e
 | obj n1 m1 o1=>cases d'<;>simp [cz] at e
 | lX n1 m1=>cases d'<;>simp [cz] at e
 | dI n1 m1=>cases d'<;>simp [cz] at e
open PySem.SeqAt in
theorem XO(I:Inv X pins σ H s):∀(n:Nat) {A:Around} {u u':Value} {v v':V} {d d':D} {b:Bool},A.units+n<cLine->Is X.K O H v d->Is X.K O' H v' d'->RelV v u->RelV v' u'->cz n d d'=some b ->
  EqAt A s u u' b/\RcAt A s u u' b/\RcNeAt A s u u' (!b):=by
 intro n
 induction n with
 | zero =>
  intro A u u' v v' d d' b hu h h' r r' e
  refine b6i I (by omega) h.Dy h'.Dy r r' e ⟨?_,?_⟩
  .rintro a c rfl rfl;simp [cz] at e
  .rintro a c ro DZ rfl rfl;simp [cz] at e
 | succ n ih =>
  intro A u u' v v' d d' b hu h h' r r' e
  have elems:∀{xs ys:List V} {aJ g8:List Value} {ds es:List D} {bs:List Bool},aU xs aJ->aU ys g8->bp X.K O H xs ds->bp X.K O' H ys es->yx (J4 (cz n) ds es)=some bs ->
    ∀j (h1:j<aJ.toArray.size) (h2:j<g8.toArray.size),EqAt A.in1 s aJ.toArray[j] g8.toArray[j] (bs.getD j false):=λ{xs ys aJ g8 ds es bs} rx ry ax ay ea j h1 h2=>by
   obtain ⟨d1,v1,e1,i1,r1⟩:=b1X rx ax h1
   obtain ⟨d2,v2,e2,i2,r2⟩:=b1X ry ay h2
   obtain ⟨hl,g⟩:=L7 ea
   have hz:(J4 (cz n) ds es)[j]?=some (cz n d1 d2):=by rw [c56,e1,e2]
   have hj:j<bs.length:=by rw [<-hl];exact (z9.mp hz).1
   have:=g j bs[j] (md hj)
   rw [hz] at this
   have e3:bs.getD j false=bs[j]:=by simp [hj]
   rw [e3]
   exact (ih (A:=A.in1) (by show A.units+1+n<_;omega) i1 i2 r1 r2 (lH this)).1
  by_cases ht:∃a c,d=.tup a/\d'=.tup c
  .obtain ⟨ds,es,rfl,rfl⟩:=ht
   simp only [cz] at e
   obtain ⟨bs,e1,rfl⟩:=map_some e
   obtain ⟨p,xs,rfl,hq,ax⟩:=h.Dy
   obtain ⟨p',ys,rfl,l8,ay⟩:=h'.Dy
   obtain ⟨aJ,rx,pl,_⟩:=I.tuple hq
   obtain ⟨g8,ry,du,_⟩:=I.tuple l8
   obtain rfl:u=e8 p:=r
   obtain rfl:u'=e8 p':=r'
   have pl:s.heap.IsTuple p aJ.toArray:=pl
   have du:s.heap.IsTuple p' g8.toArray:=du
   have hlen:bs.length=min ds.length es.length:=by rw [<-(L7 e1).1,c6h]
   have l1:aJ.toArray.size=ds.length:=by rw [jM,<-rx.length,ax.length]
   have l2:g8.toArray.size=es.length:=by rw [jM,<-ry.length,ay.length]
   have val:((nR (min aJ.toArray.size g8.toArray.size)).all (λj=>bs.getD j false)&&aJ.toArray.size==g8.toArray.size)=(bs.all id&&decide (ds.length=es.length)):=by
    rw [l1,l2,all_range hlen]
    rfl
   have rc:=RcAt.tuples pl du (by omega) (elems rx ry ax ay e1)
   have rn:=RcNeAt.tuples pl du (by omega) (elems rx ry ax ay e1)
   rw [val] at rc rn
   refine ⟨?_,rc,rn⟩
   by_cases hp:p=p'
   .subst hp
    have:=b0Z I (n+1) h h' (show cz (n+1) (.tup ds) (.tup es)=some (bs.all id&&decide (ds.length=es.length)) by simp only [cz];rw [e1];rfl)
    rw [this]
    exact EqAt.same _
   .exact .of_refs hp rc
  by_cases hl:∃a c ro DZ,d=.lst ro a/\d'=.lst DZ c
  .obtain ⟨ds,es,ro,DZ,rfl,rfl⟩:=hl
   have e0:=e
   simp only [cz] at e
   obtain ⟨p,xs,rfl,hq,ax⟩:=h.Dy
   obtain ⟨p',ys,rfl,l8,ay⟩:=h'.Dy
   obtain ⟨aJ,rx,pl,_⟩:=I.list hq
   obtain ⟨g8,ry,du,_⟩:=I.list l8
   obtain rfl:u=e8 p:=r
   obtain rfl:u'=e8 p':=r'
   have l1:aJ.toArray.size=ds.length:=by rw [jM,<-rx.length,ax.length]
   have l2:g8.toArray.size=es.length:=by rw [jM,<-ry.length,ay.length]
   have fin:RcAt A s (.ref p) (.ref p') b->RcNeAt A s (.ref p) (.ref p') (!b)->EqAt A s (.ref p) (.ref p') b/\RcAt A s (.ref p) (.ref p') b/\RcNeAt A s (.ref p) (.ref p') (!b):=λrc rn=>by
    refine ⟨?_,rc,rn⟩
    by_cases hp:p=p'
    .subst hp
     rw [b0Z I (n+1) h h' e0]
     exact EqAt.same _
    .exact .of_refs hp rc
   by_cases hlen:ds.length=es.length
   .rw [if_pos hlen] at e
    obtain ⟨bs,e1,rfl⟩:=map_some e
    have OG:bs.length=ds.length:=by rw [<-(L7 e1).1,c6h];omega
    have rc:=RcAt.lists pl.isList du.isList (by omega) (by omega) (elems rx ry ax ay e1)
    have rn:=RcNeAt.lists pl.isList du.isList (by omega) (by omega) (elems rx ry ax ay e1)
    rw [l1,all_range OG] at rc rn
    exact fin rc rn
   .rw [if_neg hlen] at e
    cases e
    have su:(aJ.toArray.size != g8.toArray.size)=true:=by rw [l1,l2];simpa using hlen
    exact fin (RcAt.lists_lengths pl.isList du.isList su (by omega)) (RcNeAt.lists_lengths pl.isList du.isList su (by omega))
  refine b6i I (by omega) h.Dy h'.Dy r r' e ⟨λa c e1 e2=>ht ⟨a,c,e1,e2⟩,λa c ro DZ e1 e2=>hl ⟨a,c,ro,DZ,e1,e2⟩⟩
noncomputable def cx:D->D->Option Sl:=λa b=>(cz 8 a b).map λk=>.sh (.bl k)
noncomputable def xX:D->D->Option Sl:=λa b=>(cz 8 a b).map λk=>.sh (.bl !k)
theorem mn(hu:X.A.units+8<cLine):zQ X (compareOp .Eq) cx:=by
 refine ⟨λx y H Q=>∃O O' a b k,Is X.K O H x a/\Is X.K O' H y b/\cz 8 a b=some k/\Q (.bl k) H,?_,λO H x y a b s Q hO hx hy e q=>?_⟩
 .intro pins s σ H x y v u Q I rx ry h
  obtain ⟨O,O',a,b,k,hx,hy,e,q⟩:=h
  exact (XO I 8 hu hx hy rx ry e).2.1 _ _ _ _ ⟨.bl k,H,I,rfl,q⟩
 .obtain ⟨k,e1,rfl⟩:=map_some e
  exact ⟨O,O,a,b,k,hx,hy,e1,q _ H (aO.refl _) (Is.bl _)⟩
theorem b9Y(hu:X.A.units+8<cLine):zQ X (compareOp .NotEq) xX:=by
 refine ⟨λx y H Q=>∃O O' a b k,Is X.K O H x a/\Is X.K O' H y b/\cz 8 a b=some k/\Q (.bl !k) H,?_,λO H x y a b s Q hO hx hy e q=>?_⟩
 .intro pins s σ H x y v u Q I rx ry h
  obtain ⟨O,O',a,b,k,hx,hy,e,q⟩:=h
  exact (XO I 8 hu hx hy rx ry e).2.2 _ _ _ _ ⟨.bl _,H,I,rfl,q⟩
 .obtain ⟨k,e1,rfl⟩:=map_some e
  exact ⟨O,O,a,b,k,hx,hy,e1,q _ H (aO.refl _) (Is.bl _)⟩
end
theorem Fx.u8{X:Cx}{N:List Str}{sc:Scope}{k:Nat}{full:Bool}(h:Fx X N sc k full):X.A.units+8<cLine:=by have:=h.room.un;omega
theorem IS{X X':Cx}{x:Str}(e4:X'.mg=X.mg)(h:X.mg x=none):X'.mg x=none:=by rw [e4];exact h
end DL
namespace DL
open PySem PySem.Spec PyProof.Rows L2
theorem b10{P:Program}{w:World}{K:aX}{tg:Expr}(it:Addr)(lo:Int)(n:Nat):Turn P w K tg (CF lo n) [it] it (λi h=>IsLongIter h it (lo+(i:Nat)*1) ((n:Int)-(i:Nat)) 1) where
 mem:=by simp
 obj:=λi h st b hb=>by
  have e:b=it:=by simpa using hb
  subst e
  exact ⟨_,st,λv z=>by
   have z':WM _=Data.cell v:=z
   cases z'⟩
 keep:=λi h h' st k=>k it (by simp) _ st
 item:=by
  intro X hP hw hK hc i pins s σ H E I hf st hg
  subst hP hw hK
  obtain ⟨f0,f1,f2,f3,f4,f5⟩:=hf it (by simp)
  have W:=Walks.longrange (prog:=X.prog) (w:=X.w) (I.ok.hd hc) it lo 1 n
  refine W.item i s _ _ hg st λv h' tk hv fy kk=>?_
  obtain ⟨t,rfl⟩:=hv
  have I1:Inv X pins σ H { s with heap:=h',toks:=tk }:=I.turned (λb o hb e=>kk b o (by simpa using hb) e) f0 f1 f3 f4 f5
  refine ⟨_,rfl,Kl (s:={ s with heap:=h',toks:=tk }) (n:="longrange_iterator") fy rfl rfl (by decide) ⟨.int (lo+i),H,I1,⟨t,?_⟩,⟨rfl,rfl⟩,fy,λb hb=>(hf b hb).1⟩⟩
  rw [Int.mul_one]
 done:=by
  intro X hP hw hK hc i pins s σ H E I hf st hg
  subst hP hw hK
  obtain ⟨f0,f1,f2,f3,f4,f5⟩:=hf it (by simp)
  exact wpAny_pyNext_long_end (I.ok.hd hc) st (by have:n<=i:=hg;omega) λh' eb=>⟨rfl,I.turned (t':=s.toks) (λb o hb e=>eb b o hb e) f0 f1 f3 f4 f5⟩
 self:=λ_ _ _ _ _ st h=>wpAny_pyIter_longiter st h
section
variable {X:Cx}{tg:Expr}
theorem a8x{pins:List (Addr×Obj)}{σ:L2.St}{H:Hp}{s:Shared}{R:It->Hp->Prop}{E:Value->Shared->Prop}{lo hi:Int}{t u v:Tok}{tk:Nat}(I:Inv X pins σ H s)
  (q:R (CF lo (hi-lo).toNat) H):wpAny (model X.prog X.w) X.A (pyIter (.ref s.heap.objs.size)) (ZM X pins σ tg R) E { s with heap:=s.heap.push { cls:=.type "range",data:=.fields #[.int lo t,.int hi u,.int 1 v] },toks:=tk }:=by
 have I1:Inv X pins σ H { s with heap:=s.heap.push { cls:=.type "range",data:=.fields #[.int lo t,.int hi u,.int 1 v] },toks:=tk }:=I.kept λb o e=>ft _ e
 have e1:lo+((0:Nat):Int)*1=lo:=by simp
 have e2:(((hi-lo).toNat:Nat):Int)-((0:Nat):Int)=c5u lo hi 1:=by rw [rangeSize_one];split<;>omega
 have fin:∀b∈[(s.heap.push { cls:=.type "range",data:=.fields #[.int lo t,.int hi u,.int 1 v] }).objs.size],wz X pins H b:=λb hb=>by
  have e:b=(s.heap.push { cls:=.type "range",data:=.fields #[.int lo t,.int hi u,.int 1 v] }).objs.size:=by simpa using hb
  subst e
  exact I1.z5 (dF _) (I1.cF.fresh (dF _))
 by_cases K8:Builtin.Range.small lo hi 1=true
 .refine wpAny_pyIter_range (WL ..) K8 ?_
  refine ⟨_,[(s.heap.push { cls:=.type "range",data:=.fields #[.int lo t,.int hi u,.int 1 v] }).objs.size],_,_,H,rfl,I1.kept (t':=tk) λb o e=>ft _ e,a7t _ lo (hi-lo).toNat,?_,fin,q⟩
  show IsRangeIter _ _ (lo+((0:Nat):Int)*1) ((((hi-lo).toNat:Nat):Int)-((0:Nat):Int)) 1
  rw [e1,e2]
  exact nS _ rfl
 .refine wpAny_pyIter_longrange (WL ..) (by simpa using K8) ?_
  refine ⟨_,[(s.heap.push { cls:=.type "range",data:=.fields #[.int lo t,.int hi u,.int 1 v] }).objs.size],_,_,H,rfl,I1.kept (t':=tk) λb o e=>ft _ e,b10 _ lo (hi-lo).toNat,?_,fin,q⟩
  show IsLongIter _ _ (lo+((0:Nat):Int)*1) ((((hi-lo).toNat:Nat):Int)-((0:Nat):Int)) 1
  rw [e1,e2]
  exact nS _ rfl
noncomputable def c0y(ta:TA):TI:=λσ H R=>ta σ H λvs H1=>∃j:Int,vs=[.int j]/\R (CF 0 j.toNat) H1
noncomputable def c0x(ta:TA):TI:=λσ H R=>ta σ H λvs H1=>∃i j:Int,vs=[.int i,.int j]/\R (CF i (j-i).toNat) H1
theorem b1l(hg:Gl X "range")(hm:X.mg "range" = none)(ha:PA X [a] ta)(hs:starEach [a] X.env=[(false,eval a X.env)]:=by rfl):PI X tg (.Call (.Name "range" p) [a] [] pos) (c0y ta):=by
 intro pins s σ H R I h
 refine Call_ (L1 I hg hm boot_range (RW (cM (ha pos pins s σ H _ I h) λus s1 ⟨vs,H1,I1,r1,q1⟩=>?_) hs rfl))
 obtain ⟨j,e,q⟩:=q1
 subst e
 cases r1 with
 | cons r rr =>
  cases rr
  obtain ⟨t,rfl⟩:=r
  exact call_range_1 (a8x I1 (by simpa using q))
theorem b1k{a b:Expr}{ta:TA}{p pos:Pos}(hg:Gl X "range")(hm:X.mg "range" = none)(ha:PA X [a,b] ta)(hs:starEach [a,b] X.env=[(false,eval a X.env),(false,eval b X.env)]:=by rfl)(yI:starEach [b] X.env=[(false,eval b X.env)]:=by rfl):
  PI X tg (.Call (.Name "range" p) [a,b] [] pos) (c0x ta):=by
 intro pins s σ H R I h
 refine Call_ (L1 I hg hm boot_range (RW (cM (ha pos pins s σ H _ I h) λus s1 ⟨vs,H1,I1,r1,q1⟩=>?_) (by rw [hs,yI]) (by rw [yI];rfl)))
 obtain ⟨i,j,e,q⟩:=q1
 subst e
 cases r1 with
 | cons r rr =>
  cases rr with
  | cons r' rr =>
   cases rr
   obtain ⟨t,rfl⟩:=r
   obtain ⟨t',rfl⟩:=r'
   exact call_range_2 (a8x I1 q)
noncomputable def FH:List D->Option (List D)
 | [.int j]=>some (fM 0 j.toNat)
 | _=>none
noncomputable def Sr:List D->Option (List D)
 | [.int i,.int j]=>some (fM i (j-i).toNat)
 | _=>none
theorem S7(Ox:Gl X "range")(hm:X.mg "range" = none)(ha:AV X [a] fs)(h1:starEach [a] X.env=[(false,eval a X.env)]:=by rfl):IV X tg (.Call (.Name "range" p) [a] [] pos) (yf FH fs):=by
 obtain ⟨ti,pi,ki⟩:=ha
 refine ⟨_,b1l Ox hm pi h1,λO B σ H env ds R Rl e q=>?_⟩
 obtain ⟨as,e1,e2⟩:=bind_some e
 refine ki O B σ H env as _ Rl e1 λvs H1 s1 r1=>?_
 unfold FH at e2
 split at e2
 .cases e2
  exact ⟨_,b0R r1,q _ H1 s1 (b0C _ _)⟩
 .cases e2
theorem b4F{a b:Expr}{fs:En->Option (List D)}{p pos:Pos}(Ox:Gl X "range")(hm:X.mg "range" = none)(ha:AV X [a,b] fs)(h1:starEach [a,b] X.env=[(false,eval a X.env),(false,eval b X.env)]:=by rfl)
  (h2:starEach [b] X.env=[(false,eval b X.env)]:=by rfl):IV X tg (.Call (.Name "range" p) [a,b] [] pos) (yf Sr fs):=by
 obtain ⟨ti,pi,ki⟩:=ha
 refine ⟨_,b1k Ox hm pi h1 h2,λO B σ H env ds R Rl e q=>?_⟩
 obtain ⟨as,e1,e2⟩:=bind_some e
 refine ki O B σ H env as _ Rl e1 λvs H1 s1 r1=>?_
 unfold Sr at e2
 split at e2
 .cases e2
  exact ⟨_,_,b21 r1,q _ H1 s1 (b0C _ _)⟩
 .cases e2
end
end DL
namespace DL
open PySem PySem.Spec PyProof.Rows L2
def Nn(b:Bool)(h:Heap)(it l:Addr)(k:Nat):Prop:=match b with
 | true=>h.IsListIter it l k
 | false=>h.IsTupleIter it l k
def Je(b:Bool)(h:Heap)(l:Addr)(items:Array Value):Prop:=match b with
 | true=>h.IsList l items
 | false=>h.IsTuple l items
theorem Nn.keep(x:Nn b h it l k)(e:∀o,h.get? it=some o->h'.get? it=some o):Nn b h' it l k:=by
 cases b with
 | true=>obtain ⟨o,ho,r⟩:=x;exact ⟨o,e _ ho,r⟩
 | false=>obtain ⟨o,ho,r⟩:=x;exact ⟨o,e _ ho,r⟩
theorem Je.keep(x:Je b h l items)(e:∀o,h.get? l=some o->h'.get? l=some o):Je b h' l items:=by
 cases b with
 | true=>obtain ⟨o,ho,r⟩:=x;exact ⟨o,e _ ho,r⟩
 | false=>obtain ⟨o,ho,r⟩:=x;exact ⟨o,e _ ho,r⟩
theorem Nn.lt(x:Nn b h it l k):it<h.objs.size:=by
 cases b with
 | true=>obtain ⟨o,ho,r⟩:=x;exact eY ho
 | false=>obtain ⟨o,ho,r⟩:=x;exact eY ho
theorem Je.lt(x:Je b h l items):l<h.objs.size:=by
 cases b with
 | true=>obtain ⟨o,ho,r⟩:=x;exact eY ho
 | false=>obtain ⟨o,ho,r⟩:=x;exact eY ho
section
variable {prog:Program}{w:World}{A:Around}{E:Value->Shared->Prop}{s:Shared}
structure ZAp(z TI TO i1 i2 l1 l2:Addr):Prop where
 a1:TI≠z
 a2:TO≠z
 a3:i1≠z
 a4:i2≠z
 a6:TO≠i1
 a7:TO≠i2
 a8:i1≠i2
 b1:l1≠z
 b2:l1≠TO
 b3:l1≠i1
 b4:l1≠i2
 c1:l2≠z
 c2:l2≠TO
 c3:l2≠i1
 c4:l2≠i2
end
end DL
namespace DL
open PySem PySem.Spec PyProof.Rows L2
section
variable {X:Cx}{pins:List (Addr×Obj)}{σ:L2.St}{H:Hp}{s:Shared}
theorem b9v(I:Inv X pins σ H s)(h:Sq X.K H b l xs):∃aJ:List Value,aU xs aJ/\Je b s.heap l aJ.toArray:=by
 cases b with
 | true=>obtain ⟨aJ,r,p,_⟩:=I.list h;exact ⟨aJ,r,p.isList⟩
 | false=>obtain ⟨aJ,r,p,_⟩:=I.tuple h;exact ⟨aJ,r,p⟩
end
theorem b0e{h:Heap}{c:Addr}{o p:Obj}(hc:c<h.objs.size)(e:(h.push p).get? c=some o):h.get? c=some o:=by
 have q:(h.objs.push p)[c]?=h.objs[c]?:=by rw [Array.getElem?_push,if_neg (g0 hc)]
 unfold Heap.get? Heap.push at e
 unfold Heap.get?
 rw [<-q];exact e
section
variable {prog:Program}{w:World}{A:Around}{E:Value->Shared->Prop}{s:Shared}
end
section
variable {X:Cx}{elts:List Expr}{kk:Nat}{tp:Pos}
noncomputable def DR(a b:List D):List D:=J4 (λd e=>D.tup [d,e]) a b
noncomputable def FX:List D->Option (List D)
 | [a,b]=>(l5 a).bind λp=>(l5 b).map λq=>DR p.2 q.2
 | _=>none
end
end DL
noncomputable def QA:Nat:=64
namespace TS
open PySem PyProof.Rows
noncomputable abbrev kTup:Bool → SortKind:=sortPriv% PySem.Builtin.KeyKind.tuples
theorem b7w(x y:Value):keyLt' (kTup true) x y=(do
  let us <-c5V x
  let vs <-c5V y
  for ((p,q),i) in (us.toList.zip vs.toList).zipIdx do
   if !(<-eqBool p q) then return <-oneLt' (true&&i==0) p q
  return decide (us.size<vs.size)):=rfl
section
variable {prog:Program}{w:World}{A:Around}{E:Value->Shared->Prop}{s:Shared}
theorem b4C(hx:s.heap.get? x=some ox)(dx:ox.data=.seq (HZ a t::us).toArray n)
  (hy:s.heap.get? y=some oy)(dy:oy.data=.seq (HZ b u::vs).toArray m)(su:a≠b)(h:Q (decide (a<b)) s):wpAny (model prog w) A (keyLt' (kTup true) (.ref x) (.ref y)) Q E s:=by
 rw [b7w]
 refine aY (listItems_at hx dx (aY (listItems_at hy dy ?_)))
 dsimp only
 rw [Ih,List.zipIdx_cons,List.forIn_cons]
 refine aY (aY ?_)
 dsimp only
 refine aY (wpAny_eqBool_int ?_)
 rw [if_pos (by simp [su])]
 exact aY (oneLt_int (cE (cE (cE h))))
noncomputable def kI(ky:Value->Int)(xs:Array Keyed)(i:Nat):Int:=match xs[i]? with
 | some p=>ky p.1
 | none=>0
structure TB(dM:Array Keyed)(st:SortSt):Prop where
 perm:(arrOf st).Perm dM
 kind:kindOf st=kTup true
 failed:failedOf st=none
 pend:pendingOf st=#[]
theorem TB.size{dM:Array Keyed}{st:SortSt}(h:TB dM st):(arrOf st).size=dM.size:=h.perm.size_eq
theorem TB.put{dM:Array Keyed}{st:SortSt}(h:TB dM st){xs:Array Keyed}(hp:xs.Perm (arrOf st)):TB dM (setArr st xs):=⟨hp.trans h.perm,h.kind,h.failed,h.pend⟩
def KR(s:Shared)(ky:Value->Int)(dM:Array Keyed):Prop:=∀p∈dM.toList,∃x o t us n,p.1=.ref x/\s.heap.get? x=some o/\o.data=.seq (HZ (ky p.1) t::us).toArray n
def K0(ky:Value->Int)(dM:Array Keyed):Prop:=(dM.toList.map λp=>ky p.1).Nodup
variable {ky:Value->Int}{dM:Array Keyed}
theorem TB.at{st:SortSt}(h:TB dM st)(hk:KR s ky dM){i:Nat}(hi:i<dM.size):∃x v o t us n,(arrOf st)[i]?=some (.ref x,v)/\s.heap.get? x=some o/\o.data=.seq (HZ (kI ky (arrOf st) i) t::us).toArray n:=by
 have xT:i<(arrOf st).size:=by rw [h.size];exact hi
 have hm:(arrOf st)[i]∈dM.toList:=(RV.mp h.perm).mem_iff.mp (by simp)
 obtain ⟨x,o,t,us,n,e1,e2,e3⟩:=hk _ hm
 have e:(arrOf st)[i]?=some (arrOf st)[i]:=getElem?_pos _ i xT
 refine ⟨x,(arrOf st)[i].2,o,t,us,n,by rw [e,<-e1],e2,?_⟩
 unfold kI
 rw [e]
 exact e3
theorem TB.inj{st:SortSt}(h:TB dM st)(hd:K0 ky dM){i j:Nat}(hi:i<dM.size)(hj:j<dM.size)(e:kI ky (arrOf st) i=kI ky (arrOf st) j):i=j:=by
 have Dz:((arrOf st).toList.map λp=>ky p.1).Nodup:=((RV.mp h.perm).map _).nodup_iff.mpr hd
 have hsz:=h.size
 have gi:∀k,k<dM.size->∃hk:k<((arrOf st).toList.map λp=>ky p.1).length,((arrOf st).toList.map λp=>ky p.1)[k]=kI ky (arrOf st) k:=λk hk=>by
  have GW:k<(arrOf st).size:=by omega
  refine ⟨by simpa using GW,?_⟩
  unfold kI
  rw [getElem?_pos _ k GW]
  simp
 obtain ⟨h1,e1⟩:=gi i hi
 obtain ⟨h2,e2⟩:=gi j hj
 exact (W' Dz).mp (by rw [e1,e2,e])
theorem ltT{st:SortSt}{i j:Nat}{Q:Option Bool->SortSt->Prop}(hB:TB dM st)(hk:KR s ky dM)(hd:K0 ky dM)(hi:i<dM.size)(hj:j<dM.size)(AB:i≠j)
  (h:Q (some (decide (kI ky (arrOf st) i<kI ky (arrOf st) j))) st):wpS (model prog w) A E s (ltAt' i j) Q st:=by
 obtain ⟨x,v,o,t,us,n,e1,e2,e3⟩:=hB.at hk hi
 obtain ⟨y,v',o',t',A7,n',f1,f2,f3⟩:=hB.at hk hj
 have su:kI ky (arrOf st) i≠kI ky (arrOf st) j:=λz=>AB (hB.inj hd hi hj z)
 rw [ltAt'_eq]
 refine Hd (wpS_get ?_)
 show wpS _ _ _ _ (do let p <-elem' (arrOf st) i;let q <-elem' (arrOf st) j;lt' p q) Q st
 rw [elem'_eq,elem'_eq,e1,f1]
 refine Hd (HX (Hd (HX ?_)))
 rw [lt'_eq]
 refine Hd (wpS_get ?_)
 rw [hB.kind]
 refine Hd (wpS_lift (Ry (b4C e2 e3 f2 f3 su ⟨rfl,?_⟩)))
 exact HX h
theorem Fj{xs ys:Array Keyed}{i j:Nat}(h:xs[i]?=ys[j]?):kI ky xs i=kI ky ys j:=by unfold kI;rw [h]
def Uu(ky:Value->Int)(xs:Array Keyed)(k:Nat):Prop:=∀i j,i<j->j<k->kI ky xs i<kI ky xs j
theorem SN{xs:Array Keyed}{n:Nat}(hn:n<=xs.size)(k:Nat):kI ky (mirror xs 0 n ((n-0)/2)) k=if k<n then kI ky xs (n-1-k) else kI ky xs k:=by
 have e:=getElem?_mirror_all (i:=0) hn k
 by_cases h:k<n
 .rw [if_pos ⟨De _,h⟩,Nat.zero_add] at e
  rw [if_pos h];exact Fj e
 .rw [if_neg (by omega)] at e
  rw [if_neg h];exact Fj e
theorem Hh{st:SortSt}{n ok:Nat}{Q:Bool->SortSt->Prop}(hk:KR s ky dM)(hd:K0 ky dM)(hn:n<=dM.size)(cF:1<=ok)(hon:ok<=n)(hB:TB dM st)(hs:Uu ky (arrOf st) ok)
  (h:∀fy,TB dM fy->Uu ky (arrOf fy) n->Q true fy):wpS (model prog w) A E s (binarySort' 0 n ok) Q st:=by
 rw [binarySort'_eq]
 simp only [Nat.zero_add]
 refine Hd (wpS_mono (wpS_forRange (λk c fy=>c=(none,())/\TB dM fy/\Uu ky (arrOf fy) k) (Q:=λc fy=>c=(none,())/\TB dM fy/\Uu ky (arrOf fy) n) (λk c fy g1 g2 hI=>?_) (λc fy hI=>?_) ⟨rfl,hB,?_⟩) λc fy hI=>?_)
 .obtain ⟨rfl,HS,GR⟩:=hI
  have VQ:k<dM.size:=by omega
  refine Hd (wpS_mono (wpS_forRange (λx c wA=>wA=fy/\∃l r,c=(none,l,r)/\l<=r/\r<=k/\r-l<=k-x/\(∀i,i<l->kI ky (arrOf fy) i<kI ky (arrOf fy) k)/\∀i,r<=i->i<k->kI ky (arrOf fy) k<kI ky (arrOf fy) i)
   (Q:=λc wA=>wA=fy/\∃l r,c=(none,l,r)/\l<=k/\(∀i,i<l->kI ky (arrOf fy) i<kI ky (arrOf fy) k)/\∀i,l<=i->i<k->kI ky (arrOf fy) k<kI ky (arrOf fy) i) (λx c wA f1 f2 hJ=>?_) (λc wA hJ=>?_) ⟨rfl,0,k,rfl,by omega,by omega,by omega,λi z=>by omega,λi z1 z2=>by omega⟩) λc wA hJ=>?_)
  .obtain ⟨rfl,l,r,rfl,j1,j2,j3,j4,j5⟩:=hJ
   dsimp only
   by_cases Oy:l≥r
   .rw [if_pos Oy]
    have:l=r:=by omega
    subst this
    exact HX ⟨rfl,l,l,rfl,j2,j4,j5⟩
   .rw [if_neg Oy]
    refine Hd (ltT HS hk hd VQ (by omega) (by omega) ?_)
    dsimp only
    have su:kI ky (arrOf wA) k≠kI ky (arrOf wA) ((l+r)/2):=λz=>by have:=HS.inj hd VQ (by omega) z;omega
    by_cases hl:kI ky (arrOf wA) k<kI ky (arrOf wA) ((l+r)/2)
    .rw [if_pos (decide_eq_true hl)]
     refine HX ⟨rfl,l,(l+r)/2,rfl,by omega,by omega,by omega,j4,λi z1 z2=>?_⟩
     by_cases hi:i=(l+r)/2
     .subst hi;exact hl
     .have:=GR ((l+r)/2) i (by omega) z2;omega
    .rw [if_neg (by simpa using hl)]
     refine HX ⟨rfl,(l+r)/2+1,r,rfl,by omega,by omega,by omega,λi z1=>?_,j5⟩
     by_cases hi:i=(l+r)/2
     .subst hi;omega
     .have:=GR i ((l+r)/2) (by omega) (by omega);omega
  .obtain ⟨rfl,l,r,rfl,j1,j2,j3,j4,j5⟩:=hJ
   have:l=r:=by omega
   subst this
   exact ⟨rfl,l,l,rfl,j2,j4,j5⟩
  .obtain ⟨rfl,l,r,rfl,j2,j4,j5⟩:=hJ
   show wpS _ _ _ _ (do moveDown' k l;pure (J' (none,()))) _ _
   rw [moveDown'_eq]
   refine Hd (wpS_modify (HX ⟨rfl,HS.put (bubble_perm _ _ _),λi j AB hj=>?_⟩))
   have JQ:k<(arrOf wA).size:=by rw [HS.size];exact VQ
   have kb:∀m,kI ky (bubble (arrOf wA) k (k-l)) m=if m=l then kI ky (arrOf wA) k else if l<m/\m<=k then kI ky (arrOf wA) (m-1) else kI ky (arrOf wA) m:=λm=>by
    have e:=getElem?_bubble JQ (k-l) (by omega) m
    rw [show k-(k-l)=l by omega] at e
    by_cases c1:m=l
    .rw [if_pos c1] at e ⊢;exact Fj e
    .rw [if_neg c1] at e ⊢
     by_cases c2:l<m/\m<=k
     .rw [if_pos c2] at e ⊢;exact Fj e
     .rw [if_neg c2] at e ⊢;exact Fj e
   show kI ky (bubble (arrOf wA) k (k-l)) i<kI ky (bubble (arrOf wA) k (k-l)) j
   rw [kb,kb]
   repeat' split
   all_goals first
    | (exfalso;omega)
    | exact j4 _ (by omega)
    | exact j5 _ (by omega) (by omega)
    | exact GR _ _ (by omega) (by omega)
 .obtain ⟨hc,HS,GR⟩:=hI
  rw [show max (max ok 1) n=n by omega] at GR
  exact ⟨hc,HS,GR⟩
 .rw [show max ok 1=ok by omega];exact hs
 .obtain ⟨rfl,HS,GR⟩:=hI
  exact HX (h fy HS GR)
end
end TS
namespace DL
open PySem PySem.Spec PyProof.Rows L2
section
variable {X:Cx}
noncomputable def Vu:D->Option (Int×D)
 | .tup (.int k::ds)=>some (k,.tup (.int k::ds))
 | _=>none
noncomputable def c0j:List D->Option (List (Int×D))
 | []=>some []
 | d::ds=>(Vu d).bind λk=>(c0j ds).map λks=>k::ks
noncomputable def XM(ds:List D):Option (List D):=(c0j ds).bind λks=>if (ks.map (·.1)).Nodup/\ks.length<QA then some ((ks.mergeSort λa b=>decide (a.1<=b.1)).map (·.2)) else none
noncomputable def b3A(f:En->Option Sl):En->Option Sl:=λenv=>(f env).bind λr=>match r.d with
 | .lst _ ds=>(XM ds).map Sl.ow
 | _=>none
theorem b3L:dO X (.type "int") (λxs H Q=>∃b:Bool,xs=[.bl b]/\Q (.int (if b then 1 else 0)) H):=by
 intro pins s σ H xs vs Q I r h
 obtain ⟨b,rfl,q⟩:=h
 obtain ⟨u,rfl,ru⟩:=r.one
 cases ru
 exact call_int_bool ⟨.int _,H,I.tok _,⟨_,rfl⟩,q⟩
noncomputable def Sw(f:En->Option Sl):En->Option Sl:=λenv=>(zL (f env)).map λb=>.sh (.int (if b then 1 else 0))
theorem b74(hg:Gl X "int")(hm:X.mg "int" = none)(he:EV X e fa)(hs:starEach [e] X.env=[(false,eval e X.env)]:=by rfl):EV X (.Call (.Name "int" p) [e] [] pos) (Sw fa):=by
 obtain ⟨t,pt,k⟩:=he
 refine ⟨_,ID b3L hg hm (by decide +kernel) (wm pt zx hs) (by decide) (by decide) hs rfl,λO B σ H env s Q R e q=>?_⟩
 obtain ⟨b,e1,rfl⟩:=map_some e
 refine k O B σ H env _ _ R (KC e1) λv H1 s1 r1=>?_
 obtain rfl:=Iq r1
 exact ⟨b,rfl,q _ H1 s1 (Is.int _)⟩
end
end DL
namespace DL
open PySem PySem.Spec PyProof.Rows L2 PySem.SeqAt
section
variable {X:Cx}{pins:List (Addr×Obj)}{s:Shared}{σ:L2.St}{H:Hp}
theorem Ob(e:Value->Bool)(hl:Je b s.heap l items)(he:∀y,y∈items->EqAt A.in1 s y x (e y))
  (h:Q (.bool (items.any e)) s):wpAny (model prog w) A (compareOp .In x (.ref l)) Q E s:=by
 cases b with
 | true=>exact in_listAt e hl he h
 | false=>exact in_tupleAt e hl he h
noncomputable def inD(a:D)(ds:List D):Option Bool:=(yx (ds.map λd=>cz 7 d a)).map λbs=>bs.any id
noncomputable def Rb:D->D->Option Sl:=λa d=>(l5 d).bind λx=>(inD a x.2).map λk=>.sh (.bl k)
theorem NS(hu:X.A.units+8<cLine):zQ X (compareOp .In) Rb:=by
 refine ⟨λx y H Q=>∃O p k xs a ds bs,y=.ref p/\Sq X.K H k p xs/\bp X.K O H xs ds/\Is X.K O H x a/\yx (ds.map λd=>cz 7 d a)=some bs/\Q (.bl (bs.any id)) H,?_,λO H x y a b s Q hO hx hy e q=>?_⟩
 .intro pins s σ H x y v u Q I rx ry h
  obtain ⟨O,p,k,xs,a,ds,bs,rfl,hq,hs,ha,hb,q⟩:=h
  cases ry
  obtain ⟨aJ,rv,hl⟩:=b9v I hq
  obtain ⟨l1,g1⟩:=L7 hb
  have hlen:aJ.length=bs.length:=by rw [<-rv.length,hs.length,<-l1,c6]
  have at_:∀(j:Nat) (y:Value) (b:Bool),aJ[j]?=some y->bs[j]?=some b->EqAt X.A.in1 s y v b:=λj y b h1 h2=>by
   have h3:=g1 j b h2
   rw [zq] at h3
   cases hd:ds[j]? with
   | none=>rw [hd] at h3;cases h3
   | some d =>
    rw [hd] at h3
    have h4:cz 7 d a=some b:=lH h3
    obtain ⟨z,hz,iz⟩:=hs.get hd
    obtain ⟨y',HK,rz⟩:=rv.get hz
    rw [h1] at HK;cases HK
    exact (XO I 7 (A:=X.A.in1) (by show X.A.units+1+7<cLine;omega) iz ha rz rx h4).1
  classical
  have e1:aJ.toArray.any (λy=>decide (∃j:Nat,aJ[j]?=some y/\bs[j]?=some true))=bs.any id:=by
   rw [RK]
   simp only [List.any_toArray,W5,decide_eq_true_eq,id]
   constructor
   .rintro ⟨y,hy,j,h1,h2⟩
    exact ⟨true,Xq h2,rfl⟩
   .rintro ⟨b,hb,rfl⟩
    obtain ⟨j,hj⟩:=c57.mp hb
    have Ot:j<aJ.length:=by rw [hlen];exact (z9.mp hj).1
    exact ⟨aJ[j],AH Ot,j,md Ot,hj⟩
  refine Ob (λy=>decide (∃j:Nat,aJ[j]?=some y/\bs[j]?=some true)) hl (λy hy=>?_) ?_
  .by_cases ht:∃j:Nat,aJ[j]?=some y/\bs[j]?=some true
   .rw [decide_eq_true ht]
    obtain ⟨j,h1,h2⟩:=ht
    exact at_ j y true h1 h2
   .rw [decide_eq_false ht]
    obtain ⟨j,hj⟩:=c57.mp (List.mem_toArray.mp hy)
    have Ot:j<bs.length:=by rw [<-hlen];exact (z9.mp hj).1
    refine at_ j y false hj ?_
    rw [md Ot]
    cases hb2:bs[j] with
    | false=>rfl
    | true=>exact absurd ⟨j,hj,by rw [md Ot,hb2]⟩ ht
  .rw [e1]
   exact ⟨.bl (bs.any id),H,I,rfl,q⟩
 .obtain ⟨⟨k,ds⟩,e1,e2⟩:=bind_some e
  obtain ⟨b1,e3,rfl⟩:=map_some e2
  obtain ⟨bs,e4,rfl⟩:=map_some e3
  obtain ⟨p,xs,rfl,hq,hs⟩:=hy.seq e1
  exact ⟨O,p,k,xs,a,ds,bs,rfl,hq,hs,hx,e4,q _ H (aO.refl _) (Is.bl _)⟩
end
end DL
namespace DL
open PySem PySem.Spec PyProof.Rows L2
section
variable {X:Cx}{N:List Str}{sc:Scope}{k:Nat}{full:Bool}{pos pos' p1 p2 p3 p4:Pos}{e c:Expr}{fa:En->Option Sl}{ga:En->Option Bool}
noncomputable def F8(i:Nat)(f:En->Option Sl):SF:=λenv=>match env[i]? with
 | some (.sh (.int m))=>match f env with
  | some (.sh (.int n))=>some (.nx,env.set i (.sh (.int (m+n))))
  | _=>none
 | _=>none
theorem b2h(h:F8 i f env=some y):∃m n,env[i]?=some (.sh (.int m))/\f env=some (.sh (.int n))/\y=(.nx,env.set i (.sh (.int (m+n)))):=by
 unfold F8 at h
 split at h
 .rename_i m e1
  split at h
  .rename_i n e2
   cases h
   exact ⟨m,n,e1,e2,rfl⟩
  .cases h
 .cases h
noncomputable def b9y(i j:Nat)(c:En->Option Bool)(f:En->Option Sl):SF:=λenv=>match env[i]? with
 | some (.ow ds)=>forL (gN j) (gf c (bK f) iq) ds env
 | _=>none
end
end DL
namespace DL
open PySem L2
def Wo{α:Type}(o:Option α)(Q:α->Prop):Prop:=∃a,o=some a/\Q a
section
variable {α β:Type}
theorem a0d{a:α}{Q:α->Prop}:Wo (some a) Q↔Q a:=⟨λ⟨_,e,h⟩=>by cases e;exact h,λh=>⟨a,rfl,h⟩⟩
theorem Wo_none:Wo (none:Option α) Q↔False:=⟨λ⟨_,e,_⟩=>(nomatch e),zp⟩
theorem a0m{o:Option α}{f:α->Option β}{Q:β->Prop}:Wo (o.bind f) Q↔Wo o λa=>Wo (f a) Q:=by
 cases o with
 | none=>simp [Wo]
 | some a=>simp [Wo]
theorem a1y{o:Option α}{f:α->β}{Q:β->Prop}:Wo (o.map f) Q↔Wo o λa=>Q (f a):=by
 cases o with
 | none=>simp [Wo]
 | some a=>simp [Wo]
theorem zw{c:Prop}[Decidable c]{a:α}{Q:α->Prop}:Wo (if c then some a else none) Q↔c/\Q a:=by
 by_cases h:c
 .rw [if_pos h,a0d];exact ⟨λz=>⟨h,z⟩,λz=>z.2⟩
 .rw [if_neg h,Wo_none];exact ⟨zp,λz=>h z.1⟩
theorem Wo.mono{o:Option α}{P Q:α->Prop}(h:Wo o P)(k:∀a,P a->Q a):Wo o Q:=let ⟨a,e,p⟩:=h;⟨a,e,k a p⟩
theorem Wo.eq{o:Option α}{a:α}(h:Wo o λx=>x=a):o=some a:=let ⟨_,e,p⟩:=h;by rw [e,p]
theorem mf{o:Option α}{P Q:α->Prop}(k:∀a,P a↔Q a):Wo o P↔Wo o Q:=⟨λh=>h.mono λa=>(k a).mp,λh=>h.mono λa=>(k a).mpr⟩
end
noncomputable def Bu(G:SF)(Q:Fl×En->Prop):Fl×En->Prop
 | (.nx,e)=>Wo (G e) Q
 | p=>Q p
theorem a27:Bu G Q (.nx,e)↔Wo (G e) Q:=mj
theorem b2d:Bu G Q (.bk,e)↔Q (.bk,e):=mj
theorem b2c:Bu G Q (.ct,e)↔Q (.ct,e):=mj
theorem b2b:Bu G Q (.rt r,e)↔Q (.rt r,e):=mj
theorem a2W:Wo (a9 F G env) Q↔Wo (F env) (Bu G Q):=by
 unfold a9
 cases h:F env with
 | none=>simp [Wo]
 | some p =>
  obtain ⟨fl,e⟩:=p
  rw [a0d]
  cases fl with
  | nx=>exact mj
  | bk=>rw [b2d];exact a0d
  | ct=>rw [b2c];exact a0d
  | rt r=>rw [b2b];exact a0d
theorem a3s:Wo (gf c F G env) Q↔Wo (c env) λb=>(b=true->Wo (F env) Q)/\(b=false->Wo (G env) Q):=by
 unfold gf
 cases h:c env with
 | none=>simp [Wo]
 | some b=>cases b<;>simp [a0d]
theorem b8C:Wo (iq env) Q↔Q (.nx,env):=a0d
theorem Wo_bk:Wo (sBk env) Q↔Q (.bk,env):=a0d
theorem Wo_ct:Wo (sCt env) Q↔Q (.ct,env):=a0d
theorem a06:Wo (bK f env) Q↔Wo (f env) λr=>Q (.rt r,env):=a1y
theorem b8A:Wo (Nl env) Q↔Q (.rt (.sh .cT),env):=a0d
theorem c08:Wo (pN i f env) Q↔Wo (f env) λr=>i<env.length/\Q (.nx,env.set i r):=by
 unfold pN;rw [a0m];simp only [zw]
theorem a2R:Wo (hV i f env) Q↔Wo (f env) λr=>i<env.length/\Q (.nx,env.set i (.sh r.d)):=by
 unfold hV;rw [a0m];simp only [zw]
theorem b9a{f:En->Option Sl}{env:En}{Q:Fl×En->Prop}:Wo (LM f env) Q↔Wo (f env) λ_=>Q (.nx,env):=a1y
noncomputable def AN:Option Sl->(Sl->Prop)->Prop
 | some (.sh d),Q=>Q (.sh d)
 | _,_=>False
theorem b8f:AN (some (.sh d)) Q↔Q (.sh d):=mj
theorem Wo_eV:Wo (eV i env) Q↔AN env[i]? Q:=by
 unfold eV
 cases env[i]? with
 | none=>simp [QS,AN,Wo]
 | some s=>cases s<;>simp [QS,AN,Wo]
theorem Wo_eC:Wo (eC d env) Q↔Q (.sh d):=a0d
theorem a7I:Wo (af g fa fb env) Q↔Wo (fa env) λx=>Wo (fb env) λy=>Wo (g x.d y.d) Q:=by
 unfold af;rw [a0m];simp only [a0m]
theorem c1d:Wo (Wp f env) Q↔Wo (f env) λx=>Wo (JY x.d) Q:=a0m
theorem b8J:Wo (JY (.int i)) Q↔Q (.sh (.int (-i))):=a0d
theorem b8Q:Wo (aK (.int i) (.int j)) Q↔Q (.sh (.int (i+j))):=a0d
theorem b8H:Wo (BQ (.int i) (.int j)) Q↔Q (.sh (.int (i-j))):=by rw [c0A,a0d]
theorem b8L:Wo (nB (.int i) (.int j)) Q↔MulC i j/\Q (.sh (.int (i*j))):=zw
theorem b8P:Wo (AD (.int i) (.int j)) Q↔DivC i j/\Q (.sh (.int (i/j))):=zw
theorem c1i:Wo (Rb a d) Q↔Wo (l5 d) λx=>Wo (inD a x.2) λk=>Q (.sh (.bl k)):=by
 unfold Rb
 rw [a0m]
 simp only [a1y]
theorem b8M:Wo (jH (.int i) (.int j)) Q↔0<j/\Q (.sh (.int (i%j))):=zw
theorem b8I:Wo (xW (.int i) (.int j)) Q↔PowC i j/\Q (.sh (.int (i^j.toNat))):=zw
theorem c1g:Wo (ON (.int i) (.int j)) Q↔Q (.sh (.bl (decide (i<j)))):=a0d
theorem c1h:Wo (Ra (.int i) (.int j)) Q↔Q (.sh (.bl (decide (i<=j)))):=a0d
theorem c1j:Wo (JZ (.int i) (.int j)) Q↔Q (.sh (.bl (decide (j<i)))):=a0d
theorem c1k:Wo (gGe (.int i) (.int j)) Q↔Q (.sh (.bl (decide (j<=i)))):=a0d
theorem c1l:Wo (cx (.int i) (.int j)) Q↔Q (.sh (.bl (decide (i=j)))):=a0d
theorem c1f:Wo (xX (.int i) (.int j)) Q↔Q (.sh (.bl (!decide (i=j)))):=a0d
theorem b8O:Wo (cx (.bl i) (.bl j)) Q↔Q (.sh (.bl (decide (i=j)))):=a0d
theorem b8K:Wo (xX (.bl i) (.bl j)) Q↔Q (.sh (.bl (!decide (i=j)))):=a0d
theorem b5w:Wo (cx (.int i) .cT) Q↔Q (.sh (.bl false)):=a0d
theorem b5t:Wo (xX (.int i) .cT) Q↔Q (.sh (.bl true)):=a0d
theorem b5v:Wo (cx .cT (.int i)) Q↔Q (.sh (.bl false)):=a0d
theorem b5s:Wo (xX .cT (.int i)) Q↔Q (.sh (.bl true)):=a0d
theorem b5u:Wo (cx .cT .cT) Q↔Q (.sh (.bl true)):=a0d
theorem b5r:Wo (xX .cT .cT) Q↔Q (.sh (.bl false)):=a0d
theorem c1e:Wo (Wh a .cT) Q↔Q (.sh (.bl a.lR)):=a0d
theorem b8D:Wo (OM a .cT) Q↔Q (.sh (.bl (!a.lR))):=a0d
theorem b1b:Wo (eF f env) Q↔Wo (f env) λr=>Wo (zL (some r)) Q:=by
 unfold eF
 cases f env with
 | none=>simp [zL,Wo]
 | some r=>rw [a0d]
theorem c1z:Wo (zL (some (.sh (.bl b)))) Q↔Q b:=a0d
theorem b8t:Wo (I9 f env) Q↔Wo (f env) λr=>Wo (zT r.d) Q:=a0m
theorem b8s:Wo (zT (.bl b)) Q↔Q b:=a0d
theorem b8r:Wo (zT (.int b)) Q↔Q (b != 0):=a0d
theorem b8o:Wo (zT (.tup ds)) Q↔Q (!ds.isEmpty):=a0d
theorem b8q:Wo (zT (.lst r ds)) Q↔Q (!ds.isEmpty):=a0d
theorem b8p:Wo (zT .cT) Q↔Q false:=a0d
theorem b5l:Wo (Ss f env) Q↔Wo (f env) λr=>Q (!r.2.isEmpty):=by
 unfold Ss;rw [a0m];simp only [a0d]
theorem b8v:Wo (Hi f g env) Q↔Wo (f env) λb=>(b=true->Wo (g env) Q)/\(b=false->Q false):=by
 unfold Hi
 cases f env with
 | none=>simp [Wo]
 | some b=>cases b<;>simp [a0d]
theorem c05:Wo (wW f g env) Q↔Wo (f env) λb=>(b=true->Q true)/\(b=false->Wo (g env) Q):=by
 unfold wW
 cases f env with
 | none=>simp [Wo]
 | some b=>cases b<;>simp [a0d]
theorem b8u:Wo (P7 f env) Q↔Wo (f env) λb=>Q (!b):=a1y
theorem b88:Wo (C7 f g env) Q↔Wo (f env) λr=>Wo (zL (some r)) λb=>(b=true->Wo (g env) Q)/\(b=false->Q (.sh (.bl false))):=by
 unfold C7
 cases f env with
 | none=>simp [Wo,zL]
 | some r =>
  rw [a0d]
  cases zL (some r) with
  | none=>simp [Wo]
  | some b=>cases b<;>simp [a0d]
theorem c1q:Wo (eOr f g env) Q↔Wo (f env) λr=>Wo (zL (some r)) λb=>(b=true->Q (.sh (.bl true)))/\(b=false->Wo (g env) Q):=by
 unfold eOr
 cases f env with
 | none=>simp [Wo,zL]
 | some r =>
  rw [a0d]
  cases zL (some r) with
  | none=>simp [Wo]
  | some b=>cases b<;>simp [a0d]
theorem b8Z:Wo (O6 f env) Q↔Wo (f env) λr=>Wo (zL (some r)) λb=>Q (.sh (.bl !b)):=by
 unfold O6
 cases f env with
 | none=>simp [Wo,zL]
 | some r=>rw [a0d,a1y]
theorem c1t:Wo (eIf c f g env) Q↔Wo (c env) λb=>(b=true->Wo (f env) Q)/\(b=false->Wo (g env) Q):=by
 unfold eIf
 cases c env with
 | none=>simp [Wo]
 | some b=>cases b<;>simp [a0d]
theorem b9g:Wo (ag env) Q↔Q []:=a0d
theorem b5K:Wo (ai f g env) Q↔Wo (f env) λr=>Wo (g env) λds=>Q (r.d::ds):=by
 unfold ai;rw [a0m];simp only [a0m,a0d]
theorem b8W:Wo (hU f env) Q↔Wo (f env) λds=>ds.length<=16777216/\Q (.sh (.tup ds)):=by
 unfold hU;rw [a0m];simp only [zw]
theorem b82:Wo (dW f env) Q↔Wo (f env) λds=>ds.length<=16777216/\Q (.ow ds):=by
 unfold dW;rw [a0m];simp only [zw]
noncomputable def zr:Option Sl->(Bool×List D->Prop)->Prop
 | some (.sh (.tup ds)),Q=>Q (false,ds)
 | some (.sh (.lst _ ds)),Q=>Q (true,ds)
 | some (.ow ds),Q=>Q (true,ds)
 | _,_=>False
theorem c00:zr (some (.sh (.tup ds))) Q↔Q (false,ds):=mj
theorem c02:zr (some (.sh (.lst r ds))) Q↔Q (true,ds):=mj
theorem c01:zr (some (.ow ds)) Q↔Q (true,ds):=mj
theorem Wo_bV:Wo (bV i env) Q↔zr env[i]? Q:=by
 unfold bV
 cases env[i]? with
 | none=>simp [Jd,zr,Wo]
 | some s=>cases s with
  | no=>simp [Jd,zr,Wo]
  | dw ds=>simp [Jd,zr,Wo]
  | tw _ _=>simp [Jd,zr,Wo]
  | ow ds=>simp [Jd,zr,Wo]
  | sh d=>cases d<;>simp [Jd,zr,Wo,l5]
theorem c1v:Wo (t4 f env) Q↔Wo (f env) λr=>Wo (l5 r.d) Q:=a0m
theorem c06:Wo (l5 (.tup ds)) Q↔Q (false,ds):=a0d
theorem c07:Wo (l5 (.lst r ds)) Q↔Q (true,ds):=a0d
theorem b83:Wo (qr f env) Q↔Wo (f env) λx=>Q (.sh (.int x.2.length)):=a1y
theorem b5E:Wo (Sz f env) Q↔Wo (f env) λx=>Q (.ow x.2):=a1y
theorem b3W:Wo (b6r f env) Q↔Wo (f env) λx=>x.1=true/\Q (.sh (.tup x.2)):=by
 unfold b6r;rw [a0m];simp only [zw]
def Vx(xs:List D)(d:D)(Q:Sl->Prop):Prop:=match d with
 | .int i=>Wo (f' xs i) λd=>Q (.sh d)
 | _=>False
theorem ixQ_i:Vx xs (.int i) Q↔Wo (f' xs i) λd=>Q (.sh d):=mj
theorem b6w:Wo (cX f g env) Q↔Wo (f env) λx=>Wo (g env) λy=>Vx x.2 y.d Q:=by
 unfold cX
 rw [a0m]
 refine mf λx=>?_
 rw [a0m]
 refine mf λy=>?_
 unfold Vx
 cases y.d<;>simp [a1y,Wo_none]
theorem nU{α:Type}{xs:List α}{n:Nat}:f' xs (n:Int)=xs[n]?:=by
 unfold f' xM
 rw [if_pos (by omega)]
 by_cases h:n<xs.length
 .rw [if_pos (by omega)];simp
 .rw [if_neg (by omega),Ii (by omega)];rfl
theorem b8j{α:Type}{x:α}{xs:List α}:f' (x::xs) 0=some x:=nU (n:=0)
theorem atI_1{α:Type}{x y:α}{xs:List α}:f' (x::y::xs) 1=some y:=nU (n:=1)
theorem atI_2{α:Type}{x y z:α}{xs:List α}:f' (x::y::z::xs) 2=some z:=nU (n:=2)
theorem atI_3{α:Type}{x y z u:α}{xs:List α}:f' (x::y::z::u::xs) 3=some u:=nU (n:=3)
theorem b5G:Wo (cG n φ fs env) Q↔Wo (fs env) λds=>ds.length=n/\Wo (φ ds) Q:=by
 unfold cG
 rw [a0m]
 have h:∀ds:List D,Wo (if ds.length=n then φ ds else none) Q↔ds.length=n/\Wo (φ ds) Q:=λds=>by
  by_cases h:ds.length=n<;>simp [h,Wo_none]
 simp only [h]
theorem b3Z:Wo (c0S g fs env) Q↔Wo (fs env) λds=>Wo (g ds) Q:=a0m
theorem b5I:Wo (c0W [.int i,.int j]) Q↔Q (.sh (.int (min i j))):=by
 have:(if j<i then j else i)=min i j:=by simp only [Int.min_def];split<;>split<;>omega
 unfold c0W;rw [a0d,this]
theorem b5J:Wo (c0X [.int i,.int j]) Q↔Q (.sh (.int (max i j))):=by
 have:(if j>i then j else i)=max i j:=by simp only [Int.max_def];split<;>split<;>omega
 unfold c0X;rw [a0d,this]
theorem b84:Wo (G9 T f env) Q↔Wo (f env) λr=>Wo (zZ T r.d) Q:=a0m
theorem b4K:Wo (zZ T (.cT)) Q↔Q (.sh (.bl (c9 T (.cT)))):=a0d
theorem b7D:Wo (zZ T (.bl b)) Q↔Q (.sh (.bl (c9 T (.bl b)))):=a0d
theorem b4M:Wo (zZ T (.int i)) Q↔Q (.sh (.bl (c9 T (.int i)))):=a0d
theorem b4J:Wo (zZ T (.str x)) Q↔Q (.sh (.bl (c9 T (.str x)))):=a0d
theorem b4I:Wo (zZ T (.tup ds)) Q↔Q (.sh (.bl (c9 T (.tup ds)))):=a0d
theorem b4L:Wo (zZ T (.lst r ds)) Q↔Q (.sh (.bl (c9 T (.lst r ds)))):=a0d
noncomputable def cK(Q:Sl->Prop):Fl×En->Prop
 | (.rt r,_)=>Q r
 | (.nx,_)=>Q (.sh .cT)
 | _=>False
theorem b3v:cK Q (.rt r,e)↔Q r:=mj
theorem b77:cK Q (.nx,e)↔Q (.sh .cT):=mj
theorem jR:Wo (cn F N ds) Q↔Wo (F (zy N ds)) (cK Q):=by
 unfold cn
 cases F (zy N ds) with
 | none=>simp [Wo]
 | some p =>
  obtain ⟨fl,e⟩:=p
  rw [a0d]
  cases fl<;>simp [a0d,Wo_none,cK]
theorem c1m:Wo (Bw f g F env) Q↔Wo (f env) λr=>Wo (l5 r.d) λx=>Wo (forL g F x.2 env) Q:=by
 unfold Bw;rw [a0m];simp only [a0m]
theorem b8R:Wo (PZ h f g F env) Q↔Wo (f env) λds=>Wo (h ds) λis=>Wo (forL g F is env) Q:=by
 unfold PZ;rw [a0m];simp only [a0m]
theorem b8y:Wo (D0 [.int j]) Q↔R62 j/\Q (fM 0 j.toNat):=zw
theorem b8x:Wo (U7 [.int i,.int j]) Q↔(R62 i/\R62 j)/\Q (fM i (j-i).toNat):=zw
noncomputable def Hj(I:En->Prop)(Q:Fl×En->Prop):Fl×En->Prop
 | (.nx,e)=>I e
 | (.ct,e)=>I e
 | (.bk,e)=>Q (.nx,e)
 | (.rt r,e)=>Q (.rt r,e)
theorem b35:Hj I Q (.nx,e)↔I e:=mj
theorem b36:Hj I Q (.ct,e)↔I e:=mj
theorem b37:Hj I Q (.bk,e)↔Q (.nx,e):=mj
theorem b34:Hj I Q (.rt r,e)↔Q (.rt r,e):=mj
theorem L5{α:Type}(enc:α->D)(I:List α->En->Prop)(xs:List α)(turn:∀pre a post env,xs=pre++a::post->I pre env->Wo (g (enc a) env) λe=>Wo (F e) (Hj (I (pre++[a])) Q))
  (done:∀env,I xs env->Q (.nx,env)):∀{env:En},I [] env->Wo (forL g F (xs.map enc) env) Q:=by
 have key:∀(post pre:List α) (env:En),xs=pre++post->I pre env->Wo (forL g F (post.map enc) env) Q:=by
  intro post
  induction post with
  | nil =>
   intro pre env e h
   rw [E4] at e
   subst e
   exact ⟨_,rfl,done env h⟩
  | cons a post ih =>
   intro pre env e h
   obtain ⟨e1,h1,p,h2,h3⟩:=turn pre a post env e h
   rw [fH]
   unfold forL
   rw [h1]
   dsimp only
   rw [h2]
   obtain ⟨fl,e2⟩:=p
   cases fl with
   | nx=>exact ih (pre++[a]) e2 (by rw [e,Ly];rfl) h3
   | ct=>exact ih (pre++[a]) e2 (by rw [e,Ly];rfl) h3
   | bk=>exact ⟨_,rfl,h3⟩
   | rt r=>exact ⟨_,rfl,h3⟩
 exact λ{env} h=>key xs [] env rfl h
theorem Yh(lo:Int)(n:Nat)(I:Nat->En->Prop)(turn:∀(k:Nat) env,k<n->I k env->Wo (g (.int (lo+k)) env) λe=>Wo (F e) (Hj (I (k+1)) Q))
  (done:∀env,I n env->Q (.nx,env))(h:I 0 env):Wo (forL g F (fM lo n) env) Q:=by
 unfold fM
 refine L5 (λ(k:Nat)=>D.int (lo+(k:Int))) (λpre env=>I pre.length env) (nR n) (λpre a post env e h=>?_) (λenv h=>done env (by simpa using h)) h
 have hl:=congrArg Pj e
 have ha:(nR n)[pre.length]?=some a:=by rw [e];simp
 simp at hl
 rw [c6i (by omega)] at ha
 cases ha
 simpa using turn pre.length env (by omega) h
theorem b1S:Wo (gN i d env) Q↔i<env.length/\Q (env.set i (.sh d)):=zw
theorem Wo_gT:Wo (gT n u (.tup ds) env) Q↔ds.length=n/\Wo (u ds env) Q:=by
 unfold gT
 by_cases h:ds.length=n<;>simp [h,Wo_none]
theorem b5q:Wo (zN [] env) Q↔Q env:=a0d
theorem b3U:Wo (lZ g u (d::ds) env) Q↔Wo (g d env) λe=>Wo (u ds e) Q:=a0m
theorem c1x:Wo (Nq f g env) Q↔Wo (f env) λr=>Wo (g r.d env) λe=>Q (.nx,e):=by
 unfold Nq;rw [a0m];simp only [a1y]
noncomputable def cS:Option Sl->(List D->Prop)->Prop
 | some (.ow ds),Q=>Q ds
 | _,_=>False
theorem b08:cS (some (.ow ds)) Q↔Q ds:=mj
theorem c1A:Wo (yT i f env) Q↔cS env[i]? λds=>Wo (f env) λr=>ds.length<16777216/\Q (.nx,env.set i (.ow (ds++[r.d]))):=by
 unfold yT
 cases env[i]? with
 | none=>simp [Wo_none,cS]
 | some s=>cases s with
  | no=>simp [Wo_none,cS]
  | dw d=>simp [Wo_none,cS]
  | tw _ _=>simp [Wo_none,cS]
  | sh d=>simp [Wo_none,cS]
  | ow ds=>dsimp only [cS];rw [a0m];simp only [zw]
def J0(env:En)(i:Nat)(ds:List D)(d:D)(Q:Fl×En->Prop):Prop:=match d with
 | .lst false es=>ds.length+es.length<=16777216/\Q (.nx,env.set i (.ow (ds++es)))
 | _=>False
theorem c0F:J0 env i ds (.lst false es) Q↔ds.length+es.length<=16777216/\Q (.nx,env.set i (.ow (ds++es))):=mj
theorem c1n:Wo (Bx i f env) Q↔cS env[i]? λds=>Wo (f env) λr=>J0 env i ds r.d Q:=by
 unfold Bx
 cases env[i]? with
 | none=>simp [Wo_none,cS]
 | some s=>cases s with
  | no=>simp [Wo_none,cS]
  | dw d=>simp [Wo_none,cS]
  | tw _ _=>simp [Wo_none,cS]
  | sh d=>simp [Wo_none,cS]
  | ow ds =>
   dsimp only [cS];rw [a0m]
   refine mf λr=>?_
   unfold J0
   cases r.d with
   | lst ro es=>cases ro<;>simp [zw,Wo_none]
   | _=>simp [Wo_none]
theorem c1a:Wo (Bv i j env) Q↔cS env[j]? λds=>Wo ds[ds.length-1]? λd=>(i<env.length/\i≠j)/\Q (.nx,(env.set j (.ow ds.dropLast)).set i (.sh d)):=by
 unfold Bv
 cases env[j]? with
 | none=>simp [Wo_none,cS]
 | some s=>cases s with
  | no=>simp [Wo_none,cS]
  | dw d=>simp [Wo_none,cS]
  | tw _ _=>simp [Wo_none,cS]
  | sh d=>simp [Wo_none,cS]
  | ow ds=>dsimp only [cS];rw [a0m];simp only [zw]
def XJ(env:En)(i:Nat)(ds:List D)(d:D)(k:D)(Q:Fl×En->Prop):Prop:=match k with
 | .int n=>Wo (xM ds.length n) λj=>Q (.nx,env.set i (.ow (ds.set j d)))
 | _=>False
theorem b7B:XJ env i ds d (.int n) Q↔Wo (xM ds.length n) λj=>Q (.nx,env.set i (.ow (ds.set j d))):=mj
theorem b8F:Wo (LN i f g env) Q↔cS env[i]? λds=>Wo (f env) λr=>Wo (g env) λk=>XJ env i ds r.d k.d Q:=by
 unfold LN
 cases env[i]? with
 | none=>simp [Wo_none,cS]
 | some s=>cases s with
  | no=>simp [Wo_none,cS]
  | dw d=>simp [Wo_none,cS]
  | tw _ _=>simp [Wo_none,cS]
  | sh d=>simp [Wo_none,cS]
  | ow ds =>
   dsimp only [cS];rw [a0m]
   refine mf λr=>?_
   rw [a0m]
   refine mf λk=>?_
   unfold XJ
   cases k.d<;>simp [a0m,a0d,Wo_none]
noncomputable def LP(env:En):Option Sl->(Fl×En->Prop)->Prop
 | some (.ow ds),Q=>Q (.rt (.ow ds),env)
 | some (.dw ds),Q=>Q (.rt (.dw ds),env)
 | some (.tw ks ds),Q=>Q (.rt (.tw ks ds),env)
 | some (.sh d),Q=>Q (.rt (.sh d),env)
 | _,_=>False
theorem b8i:LP env (some (.ow ds)) Q↔Q (.rt (.ow ds),env):=mj
theorem b8h:LP env (some (.sh d)) Q↔Q (.rt (.sh d),env):=mj
theorem b8z:Wo (FJ i env) Q↔LP env env[i]? Q:=by
 unfold FJ
 cases env[i]? with
 | none=>simp [Wo_none,LP]
 | some s=>cases s<;>simp [Wo_none,a0d,LP]
theorem c1c:Wo (QV env) Q↔Q none:=a0d
def pQ(d:D)(Q:Option Int->Prop):Prop:=match d with
 | .int i=>Q (some i)
 | _=>False
theorem pQ_i:pQ (.int i) Q↔Q (some i):=mj
theorem c1b:Wo (NJ f env) Q↔Wo (f env) λr=>pQ r.d Q:=by
 unfold NJ
 rw [a0m]
 refine mf λr=>?_
 unfold pQ
 cases r.d<;>simp [a0d,Wo_none]
theorem c1p:Wo (O5 f lo hi env) Q↔Wo (f env) λx=>Wo (lo env) λl=>Wo (hi env) λh =>
  (x.1=true->Q (.ow (cutD x.2 l h)))/\(x.1=false->¬(HT.dP x.2.length 0 l=0/\HT.dP x.2.length x.2.length h=x.2.length)/\Q (.sh (.tup (cutD x.2 l h)))):=by
 unfold O5
 rw [a0m]
 simp only [a0m]
 have h:∀(x:Bool×List D) (l h:Option Int),Wo (if x.1=true then some (Sl.ow (cutD x.2 l h)) else if ¬(HT.dP x.2.length 0 l=0/\HT.dP x.2.length x.2.length h=x.2.length) then some (.sh (.tup (cutD x.2 l h))) else none) Q ↔
   (x.1=true->Q (.ow (cutD x.2 l h)))/\(x.1=false->¬(HT.dP x.2.length 0 l=0/\HT.dP x.2.length x.2.length h=x.2.length)/\Q (.sh (.tup (cutD x.2 l h)))):=λx l h=>by
  obtain ⟨k,ds⟩:=x
  cases k
  .simp only [Lv,if_false,zw];simp
  .simp [a0d]
 simp only [h]
theorem Sl_sh:Sl.d (.sh d)=d:=rfl
theorem Sl_ow:Sl.d (.ow ds)=.lst false ds:=rfl
theorem b5z:Wo (aK (.lst false a) (.lst false b)) Q↔a.length+b.length<=16777216/\Q (.ow (a++b)):=zw
theorem b5x:Wo (aK (.tup a) (.tup b)) Q↔a.length+b.length<=16777216/\Q (.sh (.tup (a++b))):=zw
theorem b5y:Wo (aK (.str a) (.str b)) Q↔a.length+b.length<=16777216/\Q (.sh (.str (a++b))):=zw
theorem a97 :c9 "int" .cT=false:=rfl
theorem b1G:c9 "int" (.bl b)=true:=rfl
theorem a99:c9 "int" (.int i)=true:=rfl
theorem a96:c9 "int" (.str x)=false:=rfl
theorem a95:c9 "int" (.tup ds)=false:=rfl
theorem a98:c9 "int" (.lst r ds)=false:=rfl
theorem a8V :c9 "bool" .cT=false:=rfl
theorem b0a:c9 "bool" (.bl b)=true:=rfl
theorem a8X:c9 "bool" (.int i)=false:=rfl
theorem a8U:c9 "bool" (.str x)=false:=rfl
theorem a8T:c9 "bool" (.tup ds)=false:=rfl
theorem a8W:c9 "bool" (.lst r ds)=false:=rfl
theorem a91 :c9 "str" .cT=false:=rfl
theorem b1F:c9 "str" (.bl b)=false:=rfl
theorem a93:c9 "str" (.int i)=false:=rfl
theorem a90:c9 "str" (.str x)=true:=rfl
theorem a9Z:c9 "str" (.tup ds)=false:=rfl
theorem a92:c9 "str" (.lst r ds)=false:=rfl
theorem a8Q :c9 "list" .cT=false:=rfl
theorem a94:c9 "list" (.bl b)=false:=rfl
theorem a8S:c9 "list" (.int i)=false:=rfl
theorem a8P:c9 "list" (.str x)=false:=rfl
theorem a8O:c9 "list" (.tup ds)=false:=rfl
theorem a8R:c9 "list" (.lst r ds)=true:=rfl
theorem a8d :c9 "tuple" .cT=false:=rfl
theorem a8N:c9 "tuple" (.bl b)=false:=rfl
theorem a8f:c9 "tuple" (.int i)=false:=rfl
theorem a8c:c9 "tuple" (.str x)=false:=rfl
theorem a8b:c9 "tuple" (.tup ds)=true:=rfl
theorem a8e:c9 "tuple" (.lst r ds)=false:=rfl
theorem L8{α β:Type}{f:α->β}{xs:List α}{i:Int}(z:α)(h0:0<=i)(h:i<xs.length):f' (xs.map f) i=some (f (xs.getD i.toNat z)):=by
 unfold f' xM
 rw [c6,if_pos h0,if_pos h]
 have:i.toNat<xs.length:=by omega
 simp [this]
theorem b0n:Wo (forL g F [] env) Q↔Q (.nx,env):=a0d
theorem a9h:Wo (forL g F (d::ds) env) Q↔Wo (g d env) λe=>Wo (F e) (Hj (λe=>Wo (forL g F ds e) Q) Q):=by
 rw [forL]
 cases g d env with
 | none=>simp [Wo_none]
 | some e =>
  rw [a0d]
  dsimp only
  cases F e with
  | none=>simp [Wo_none]
  | some p =>
   obtain ⟨fl,e2⟩:=p
   rw [a0d]
   cases fl<;>simp [Hj,a0d]
theorem b25:D.lR .cT=true:=rfl
theorem b4O:D.lR (.bl b)=false:=rfl
theorem b27:D.lR (.int i)=false:=rfl
theorem b24:D.lR (.str x)=false:=rfl
theorem b23:D.lR (.tup ds)=false:=rfl
theorem b26:D.lR (.lst r ds)=false:=rfl
theorem b3R(xs:List Int){i:Int}(h0:0<=i)(h1:i<xs.length)(h:∀v∈xs,Q (.int v))(e:ds=xs.map D.int:=by rfl):Wo (f' ds i) Q:=by
 have hi:i.toNat<xs.length:=by omega
 rw [e,L8 0 h0 h1,a0d,show xs.getD i.toNat 0=xs[i.toNat] by simp [hi]]
 exact h _ (AH hi)
theorem b9b:Wo (jt fi caps nt g fc fe env) Q↔Wo (fi env) λds=>Wo (vW caps env) λcs=>ds.length<=16777216/\Wo (tJ g fc fe ds (zJ nt Sl.no++cs)) λrs=>Q (.ow rs):=by
 unfold jt
 rw [a0m]
 refine mf λds=>?_
 rw [a0m]
 refine mf λcs=>?_
 by_cases h:ds.length<=16777216
 .rw [if_pos h,a1y];exact ⟨λz=>⟨h,z⟩,λz=>z.2⟩
 .rw [if_neg h,Wo_none];exact ⟨zp,λz=>h z.1⟩
theorem b9d:Wo (vW [] env) Q↔Q []:=a0d
theorem b9c:Wo (vW (i::is) env) Q↔AN env[i]? λs=>Wo (vW is env) λcs=>Q (s::cs):=by
 rw [vW]
 cases h:env[i]? with
 | none=>simp [Wo_none,AN]
 | some s=>cases s<;>simp [Wo_none,AN,a1y]
theorem rep0{l:En}:zJ 0 Sl.no++l=l:=rfl
theorem rep1{l:En}:zJ 1 Sl.no++l=Sl.no::l:=rfl
theorem rep2{l:En}:zJ 2 Sl.no++l=Sl.no::Sl.no::l:=rfl
theorem rep3{l:En}:zJ 3 Sl.no++l=Sl.no::Sl.no::Sl.no::l:=rfl
theorem rep4{l:En}:zJ 4 Sl.no++l=Sl.no::Sl.no::Sl.no::Sl.no::l:=rfl
theorem b5k:Wo (jO env) Q↔Q true:=a0d
theorem b5H:Wo (tJ g fc fe [] e) Q↔Q []:=a0d
theorem Wo_compC:Wo (tJ g fc fe (d::ds) e) Q↔Wo (g d e) λe1=>Wo (fc e1) λb =>
  (b=true->Wo (fe e1) λr=>Wo (tJ g fc fe ds e1) λrs=>Q (r.d::rs))/\(b=false->Wo (tJ g fc fe ds e1) Q):=by
 rw [tJ,a0m]
 refine mf λe1=>?_
 rw [a0m]
 refine mf λb=>?_
 cases b
 .rw [if_neg DG];simp
 .rw [if_pos rfl,a0m];simp only [a0m,a0d];simp
theorem b8U:Wo (gW f env) Q↔Wo (f env) λr=>Wo (l5 r.d) λx=>Q x.2:=by
 unfold gW;rw [a0m];simp only [a1y]
theorem b8V:Wo (yf h f env) Q↔Wo (f env) λds=>Wo (h ds) Q:=a0m
theorem b0o:Wo (PY f g F env) Q↔Wo (f env) λds=>Wo (forL g F ds env) Q:=a0m
theorem comp_map{α:Type}(enc:α->D)(f:α->D)(P:En->Prop)(xs:List α)
  (h:∀a∈xs,∀e,P e->Wo (g (enc a) e) λe1=>P e1/\Wo (fc e1) λb=>b=true/\Wo (fe e1) λr=>r.d=f a):∀{e:En},P e->tJ g fc fe (xs.map enc) e=some (xs.map f):=by
 induction xs with
 | nil=>intro e _;rfl
 | cons a xs ih =>
  intro e he
  obtain ⟨e1,g1,p1,b,c1,rfl,r,f1,f2⟩:=h a pd e he
  rw [fH,tJ,g1,LA,c1,LA,if_pos rfl,f1,LA,ih (λb hb=>h b (nT _ hb)) p1,f2]
  rfl
theorem b8X:Wo (O3 f env) Q↔Wo (f env) λx=>Wo (An x.2) λns=>Q (.sh (.int ns.sum)):=by
 unfold O3;rw [a0m];simp only [a1y]
theorem b89:Wo (G' f env) Q↔Wo (f env) λx=>Wo (n6 x.2) λns=>Q (.sh (.bl (ns.all id))):=by
 unfold G';rw [a0m];simp only [a1y]
theorem b87:Wo (O9 f env) Q↔Wo (f env) λx=>Wo (n6 x.2) λns=>Q (.sh (.bl (ns.any id))):=by
 unfold O9;rw [a0m];simp only [a1y]
theorem b80:Wo (O7 f env) Q↔Wo (f env) λx=>Wo (An x.2) λns=>ns≠[]/\Q (.sh (.int (NY ns))):=by
 unfold O7;rw [a0m];simp only [a0m,zw]
theorem b81:Wo (O8 f env) Q↔Wo (f env) λx=>Wo (An x.2) λns=>ns≠[]/\Q (.sh (.int (NZ ns))):=by
 unfold O8;rw [a0m];simp only [a0m,zw]
theorem b8G:Wo (An (ns.map D.int)) Q↔Q ns:=by rw [a80,a0d]
theorem c1u:Wo (n6 (ns.map D.bl)) Q↔Q ns:=by rw [b06,a0d]
theorem b5o:Wo (An []) Q↔Q []:=a0d
theorem b5p:Wo (An (.int i::ds)) Q↔Wo (An ds) λns=>Q (i::ns):=by
 show Wo ((An ds).map (i::·)) Q↔_
 rw [a1y]
theorem b9e:Wo (n6 []) Q↔Q []:=a0d
theorem b9f:Wo (n6 (.bl i::ds)) Q↔Wo (n6 ds) λns=>Q (i::ns):=by
 show Wo ((n6 ds).map (i::·)) Q↔_
 rw [a1y]
theorem b5f{α:Type}{xs:List α}{x:α}:f' (xs++[x]) (-1)=some x:=by
 unfold f' xM
 rw [if_neg (by omega),if_pos (by rw [ma,E1];omega),ma,E1]
 have:(-1+((xs.length+1:Nat):Int)).toNat=xs.length:=by omega
 rw [this]
 simp
theorem Th(I:Nat->En->Prop)(turn:∀n env,I n env->Wo (c env) λb=>(b=true->Wo (F env) (Hj (λe=>∃m,m<n/\I m e) Q))/\(b=false->Q (.nx,env))):
  ∀(fuel n:Nat) {env:En},n<fuel->I n env->Wo (FY c F fuel env) Q
 | 0,n,env,h,_=>absurd h (RJ _)
 | fuel+1,n,env,h,hI=>by
  obtain ⟨b,e1,h1,h2⟩:=turn n env hI
  rw [FY,e1]
  cases b with
  | false=>exact ⟨_,rfl,h2 rfl⟩
  | true =>
   obtain ⟨⟨fl,e2⟩,e3,h3⟩:=h1 rfl
   dsimp only
   rw [e3]
   cases fl with
   | nx=>obtain ⟨m,hm,Wa⟩:=h3;exact Th I turn fuel m (by omega) Wa
   | ct=>obtain ⟨m,hm,Wa⟩:=h3;exact Th I turn fuel m (by omega) Wa
   | bk=>exact ⟨_,rfl,h3⟩
   | rt r=>exact ⟨_,rfl,h3⟩
theorem b1a:Wo (SG m c F env) Q↔Wo (FY c F (m env) env) Q:=mj
noncomputable def Ha{α:Type}(xs:List α)(lo hi:Option Int):List α:=(xs.drop (HT.dP xs.length 0 lo)).take (HT.dP xs.length xs.length hi-HT.dP xs.length 0 lo)
theorem b01{α:Type}{f:α->D}(xs:List α)(lo hi:Option Int):cutD (xs.map f) lo hi=(Ha xs lo hi).map f:=by
 unfold cutD Ha
 rw [c6,<-List.map_drop,<-List.map_take]
theorem b3F{α:Type}(xs:List α){n:Nat}:Ha xs none (some (n:Int))=xs.take n:=by
 unfold Ha
 rw [HT.F7,HT.DY]
 simp only [Nat.sub_zero,List.drop_zero]
 by_cases h:n<=xs.length
 .rw [Nat.min_eq_left h]
 .rw [Nat.min_eq_right (by omega),c5W (dF _),c5W (by omega)]
theorem b5n:Wo (FH [.int j]) Q↔Q (fM 0 j.toNat):=a0d
theorem b5m:Wo (Sr [.int i,.int j]) Q↔Q (fM i (j-i).toNat):=a0d
def UY(d:D)(l h:Option Int)(Q:Sl->Prop):Prop:=match d with
 | .tup ds=>Q (.sh (.tup (cutD ds l h)))
 | _=>False
theorem slQ_t:UY (.tup ds) l h Q↔Q (.sh (.tup (cutD ds l h))):=mj
theorem b8Y:Wo (O4 f lo hi env) Q↔Wo (f env) λx=>Wo (lo env) λl=>Wo (hi env) λh=>UY x.d l h Q:=by
 unfold O4
 simp only [a0m]
 refine mf λx=>mf λl=>mf λh=>?_
 unfold UY
 cases x.d<;>simp [a0d,Wo_none]
theorem b5g:Wo (FX [.tup a,.tup b]) Q↔Q (DR a b):=a0d
theorem b5h:Wo (FX [.tup a,.lst r b]) Q↔Q (DR a b):=a0d
theorem b5i:Wo (FX [.lst r a,.tup b]) Q↔Q (DR a b):=a0d
theorem b5j:Wo (FX [.lst r a,.lst r' b]) Q↔Q (DR a b):=a0d
def P8(i:Nat)(env:En)(a b:Sl)(Q:Fl×En->Prop):Prop:=match a,b with
 | .sh (.int m),.sh (.int n)=>Q (.nx,env.set i (.sh (.int (m+n))))
 | _,_=>False
theorem c0Z:P8 i env (.sh (.int m)) (.sh (.int n)) Q↔Q (.nx,env.set i (.sh (.int (m+n)))):=mj
theorem c1w:Wo (F8 i f env) Q↔AN env[i]? λa=>Wo (f env) λr=>P8 i env a r Q:=by
 constructor
 .rintro ⟨y,e,h⟩
  obtain ⟨m,n,e1,e2,rfl⟩:=b2h e
  rw [e1];exact ⟨_,e2,h⟩
 .intro h
  cases hi:env[i]? with
  | none=>rw [hi] at h;exact h.elim
  | some s =>
   rw [hi] at h
   cases s with
   | no=>exact h.elim
   | ow ds=>exact h.elim
   | dw ds=>exact h.elim
   | tw _ _=>exact h.elim
   | sh d =>
    obtain ⟨r,e1,h⟩:=h
    cases d with
    | int m =>
     cases r with
     | sh d2 =>
      cases d2 with
      | int n=>exact ⟨_,by unfold F8;rw [hi,e1],h⟩
      | _=>exact h.elim
     | _=>exact h.elim
    | _=>exact h.elim
theorem b8S:Wo (b9y i j c f env) Q↔cS env[i]? λds=>Wo (forL (gN j) (gf c (bK f) iq) ds env) Q:=by
 unfold b9y
 cases h:env[i]? with
 | none=>simp [Wo_none,cS]
 | some s=>cases s<;>simp [Wo_none,cS]
def UX(d:D)(Q:Sl->Prop):Prop:=match d with
 | .lst _ ds=>Wo (XM ds) λrs=>Q (.ow rs)
 | _=>False
theorem srQ_l:UX (.lst r ds) Q↔Wo (XM ds) λrs=>Q (.ow rs):=mj
theorem b1T:Wo (b3A f env) Q↔Wo (f env) λr=>UX r.d Q:=by
 unfold b3A
 rw [a0m]
 refine mf λr=>?_
 cases r.d<;>simp [UX,Wo_none,a1y]
theorem b5F:Wo (Sw f env) Q↔Wo (f env) λr=>Wo (zL (some r)) λb=>Q (.sh (.int (if b=true then 1 else 0))):=by
 unfold Sw
 cases f env with
 | none=>simp [Wo,zL]
 | some r=>rw [a0d,a1y]
end DL
namespace DL
theorem b2J(h:-(10^250)<=i)(h2:i<=10^250)(h3:-(10^250)<=j)(h4:j<=10^250):MulC i j:=.inr (.inr ⟨⟨h,h2⟩,h3,h4⟩)
theorem b8c(h:0<j)(h2:j<=10^250):DivC i j:=⟨h,h2⟩
end DL
namespace DL
open PySem PySem.Spec PyProof.Rows L2
def Tr(h:Heap)(e T:Addr)(c:Value):Prop:=∃oe vs a0 oT ts,h.get? e=some oe/\(oe.cls=c/\vs[0]?=some a0)/\oe.data=.fields vs/\vs[1]?=some (.ref T)/\T≠e/\h.get? T=some oT/\oT.data=.fields ts/\ts[3]?=some .none
structure Lies(h0:Heap)(H:Hp)(h:Heap)(e:Addr)(c:Value):Prop where
 new:h0.get? e=none
 un:H e=none
 tr:∃T,h0.get? T=none/\H T=none/\Tr h e T c
structure Moved(H:Hp)(l:List Env)(ex:List Addr)(h h':Heap):Prop where
 un:Un (DB l) ex H H h h'
section
variable {P:Program}{w:World}{K:aX}{mg:Str->Option Value}{base:Heap}{N:List Str}{qual:Str}{scope:Scope}{f:Addr}{cd:Value}{A:Around}{outer:List Env}{s:Shared}{H:Hp}{E:XK}
end
end DL
namespace DL
open PySem PySem.Spec PyProof.Rows L2
noncomputable abbrev RF:=En->Option (Str×En)
section
variable {X:Cx}{W:L2.St->Hp->Value->Prop}{e a b c:Expr}{es:List Expr}{st:Stmt}{rest sa sb:List Stmt}{F G:SF}{r r':RF}{re:En->Option Str}{fa:En->Option Sl}{ga:En->Option Bool}{fs:En->Option (List D)}{pos p aB np:Pos}
noncomputable def Kw:SF:=λ_=>none
theorem Qj:SV X st Kw:=⟨λ_ _ _=>False,λ_ _ _ _ _ _ h=>h.elim,λ_ _ _ _ _ _ _ _ _ e _=>by cases e⟩
theorem EV.tX(h:EV X.tX e fa):EV X e fa:=let ⟨t,p,k⟩:=h;⟨t,p.tX,k⟩
theorem TV.tX(h:TV X.tX e ga):TV X e ga:=let ⟨t,p,k⟩:=h;⟨t,p.tX,k⟩
theorem Ap.tX(h:Ap X.tX rest F):Ap X rest F:=let ⟨t,p,k⟩:=h;⟨t,p.tX,k⟩
theorem SV.tX(h:SV X.tX st F):SV X st F:=let ⟨t,p,k⟩:=h;⟨t,λpins s σ H D I hw=>z8 (p pins s σ H D (I.pF _) hw) (λ_ _ q=>q.fK) λ_ _ z=>zp z,k⟩
theorem AV.tX(h:AV X.tX es fs):AV X es fs:=let ⟨t,p,k⟩:=h;⟨t,λpo pins s σ H Q I hw=>z8 (p po pins s σ H Q (I.pF _) hw) (λ_ _ ⟨v,H',I',r,q⟩=>⟨v,H',I'.fK,r,q⟩) λ_ _ z=>zp z,k⟩
end
noncomputable abbrev MQ:List Value:=[.type "ValueError",.type "Exception",.type "BaseException",.type "object"]
structure ExcC(K:aX)(C:Addr):Prop where
 ob:∃(bm:List Value) (N:Addr) (nm q:Str) (bs:List Value) (VZ:Bool) (sn:List Str) (sub:List Value) (ab:Bool) (col:Option Bool) (dd:Option Addr) (k0 k1 k2 k3 k5:Option Value),K.lookup C=some (excClassObj nm q C N bs bm VZ sn sub ab col dd k0 k1 k2 k3 k5 "ValueError.__new__") /\
  PySem.W.nsOkIn K N=true/\lK K N "__init__" = some none/\PySem.W.tailIn K MQ bm=true
section
variable {X:Cx}{W:L2.St->Hp->Value->Prop}{e:Expr}{es:List Expr}{fs:En->Option (List D)}{pos p aB np:Pos}{x:Str}{C:Addr}
end
section
variable {P:Program}{w:World}{K:aX}{mg:Str->Option Value}{base:Heap}
end
end DL
namespace DL
open PySem PySem.Spec PyProof.Rows L2
section
variable {X:Cx}{pins:List (Addr×Obj)}{σ:L2.St}{H:Hp}{s:Shared}{h':Heap}
end
theorem Rel.drop{K:aX}{O:Addr->Prop}{B H:Hp}{σ:L2.St}{env:En}(R:Rel K O B σ H env)(i:Nat):Rel K O B (σ.set i none) H (env.set i .no)/\Gd σ env H (σ.set i none) (env.set i .no) H:=by
 have own:∀q,zP (σ.set i none) (env.set i .no) q->zP σ env q:=λq ⟨j,ds,e1,o,e2⟩=>by
  by_cases hj:j=i
  .subst hj
   rw [WX] at e1
   simp at e1
   rw [<-e1.2] at o
   exact o.elim
  .rw [ml (wF hj)] at e1 e2
   exact ⟨j,ds,e1,o,e2⟩
 have oo:∀q,OO O (σ.set i none) (env.set i .no) q->OO O σ env q:=λq z=>z.elim .inl λz=>.inr (own q z)
 have at_:∀{j:Nat} {x:Sl},(env.set i .no)[j]?=some x->x≠.no->j≠i/\env[j]?=some x:=λ{j x} e hx=>by
  by_cases hj:j=i
  .subst hj
   rw [WX] at e
   simp at e
   exact absurd e.2.symm hx
  .rw [ml (wF hj)] at e
   exact ⟨hj,e⟩
 refine ⟨⟨R.same,R.AF,by simp [R.len],λj d e=>?_,λj ds e=>?_,λj ds e=>?_,λj ks ds e=>?_,λj k ds es p e1 e2 e3 e4 o1 o2=>?_⟩,λq u e n=>⟨e,λz=>n (own q z)⟩⟩
 .obtain ⟨hj,e⟩:=at_ e (λz=>nomatch z)
  obtain ⟨v,e1,h⟩:=R.sh j d e
  exact ⟨v,by rw [ml (wF hj)];exact e1,h.less oo⟩
 .obtain ⟨hj,e⟩:=at_ e (λz=>nomatch z)
  obtain ⟨p,xs,e1,e2,e3,h⟩:=R.ow j ds e
  exact ⟨p,xs,by rw [ml (wF hj)];exact e1,e2,e3,h.less oo⟩
 .obtain ⟨hj,e⟩:=at_ e (λz=>nomatch z)
  obtain ⟨p,e1,e2,e3⟩:=R.dw j ds e
  exact ⟨p,by rw [ml (wF hj)];exact e1,e2,e3⟩
 .obtain ⟨hj,e⟩:=at_ e (λz=>nomatch z)
  obtain ⟨p,xs,e1,e2,e3,e4,h⟩:=R.tw j ks ds e
  exact ⟨p,xs,by rw [ml (wF hj)];exact e1,e2,e3,e4,h.less oo⟩
 .obtain ⟨hj,e1⟩:=at_ e1 (λz=>by rw [z] at o1;exact o1)
  obtain ⟨hk,e2⟩:=at_ e2 (λz=>by rw [z] at o2;exact o2)
  rw [ml (wF hj)] at e3
  rw [ml (wF hk)] at e4
  exact R.sep j k ds es p e1 e2 e3 e4 o1 o2
end DL
namespace DL
open PySem PySem.Spec PyProof.Rows L2
structure Hx(X:Cx)(N:List Str)(sc:Scope):Prop where
 n:X.N=N
 sc:X.env.scope=sc
 fn:∀x,X.fn x=true
 nd:N.Nodup
section
variable {X:Cx}{N:List Str}{sc:Scope}{k i:Nat}{n Cn:Str}{hc:Value}{body ZW:List Stmt}{b0:Stmt}{Fb Fh:SF}{rb:RF}{hit:Str->Bool}{np hpos pos:Pos}
end
end DL
namespace DL
open PySem PySem.W PySem.Spec PySem.Calls PyProof.Rows L2 PySem.Builtin.ObjectAttr PySem.Builtin PySem.Builtin.Getset_descriptor
section
variable {prog:Program}{w:World}{A:Around}{E:Value->Shared->Prop}{s:Shared}{K:Frag}{x C:Addr}
structure ZR(K:Frag)(C:Addr):Prop where
 ga:findIn K (.ref C) "__getattribute__" = some (some (.builtin "BaseException.__getattribute__"))
 no:findIn K (.ref C) "__getattr__" = some none
 at_:findIn K (.ref C) "__class__" = some (some (.builtin "object.__class__"))
 get:specialIn K (.builtin "object.__class__") "__get__" = some (some (.builtin "getset_descriptor.__get__"))
 tk:takesIn K (.builtin "object.__class__")=some true
 mro:mroIn K C (.type "object")=some true
 mrB:mroIn K C (.type "BaseException")=some true
end
section
variable {X:Cx}{a:Expr}{pos p p2:Pos}{fa:En->Option Sl}
end
section
variable {X:Cx}{N:List Str}{sc:Scope}{pos p p1 p2 pos' aB:Pos}{e a b:Expr}{fa fb:En->Option Sl}
theorem Hx.v(h:Hx X N sc)(i:Nat)(hN:N[i]?=some x:=by rfl)(hv:l4 sc x:=by first | exact dY rfl | exact cO (dY rfl) | exact cO (cO rfl))(hd:(x==("__debug__":Str))=false:=by rfl)
  (de:(x==("__classdict__":Str))=false:=by rfl):EV X (.Name x pos) (eV i):=b6n i (by rw [h.n];exact hN) (by rw [h.sc];exact hv) hd de
theorem Hx.g(h:Hx X N sc)(hg:sc.names.lookup x=some .globalImplicit:=by rfl):Gl X x:=by
 show X.env.kindOf x=some .globalImplicit
 unfold Rn
 rw [h.sc]
 exact hg
theorem Hx.set(h:Hx X N sc)(i:Nat)(he:EV X e fa)(hN:N[i]?=some x:=by rfl)(hv:Loc sc x:=by first | exact dY rfl | exact cO rfl)
  (hs:swapsWith e (some (.Name x pos')) pos.line X.env=pure false:=by rfl):SV X (.Assign [.Name x pos'] e pos) (pN i fa):=b5Q (by rw [h.n];exact h.nd) (by rw [h.n];exact hN) (by rw [h.sc];exact hv) he hs (.inl (h.fn x))
theorem Hx.app(h:Hx X N sc)(i:Nat)(ha:EV X e fa)(hN:N[i]?=some x:=by rfl)(hv:l4 sc x:=by first | exact dY rfl | exact cO (dY rfl) | exact cO (cO rfl))(hd:(x==("__debug__":Str))=false:=by rfl)
  (de:(x==("__classdict__":Str))=false:=by rfl)(hs:starEach [e] X.env=[(false,eval e X.env)]:=by rfl)
  (b9:attributeBase (.Name x p1) "append" X.env (eval (.Name x p1) X.env)=eval (.Name x p1) X.env:=by rfl)
  (fQ:((backTo aB (starEach [e] X.env)).all (λx=>!x.1)&&(backToKw aB (keywordEach [] X.env)).all (λx=>x.1.isSome)
   && decide ([e].length+([]:List Keyword).length+(if ([]:List Keyword).isEmpty then 0 else 1)<30))=true:=by rfl)
  (b8:(p2.endLine==aB.line)=true:=by rfl)
  (AA:swapsWith (.Call (.Attribute (.Name x p1) "append" p2) [e] [] aB) none pos.line X.env=pure false:=by rfl):
  SV X (.Expr (.Call (.Attribute (.Name x p1) "append" p2) [e] [] aB) pos) (yT i fa):=a8r ha (by rw [h.n];exact hN) (by rw [h.sc];exact hv) hd de hs b9 fQ b8 AA
end
structure Cl(K:Frag)(mg:Str->Option Value)(x:Str)(C:Addr):Prop where
 ns:nsIn K mainGlobals x=some (some (.ref C))
 m:mg x=some (.ref C)
 ck:ZR K C
 cd:(clsIn K C).isSome=true
theorem Fx.tX{X:Cx}{N:List Str}{sc:Scope}{k:Nat}{full:Bool}(h:Fx X N sc k full):Fx X.tX N sc k full:=⟨h.n,h.sc,h.calm,h.fn,Pn,h.room,h.nd,h.top⟩
theorem Hx.eL{X:Cx}{N:List Str}{sc:Scope}{pos pos':Pos}{e:Expr}{fa:En->Option Sl}(h:Hx X N sc)(i:Nat){x:Str}(he:EV X e fa)(hN:N[i]?=some x:=by rfl)(hv:Loc sc x:=by first | exact dY rfl | exact cO rfl)
  (hs:swapsWith e (some (.Name x pos')) pos.line X.env=pure false:=by rfl):SV X (.Assign [.Name x pos'] e pos) (hV i fa):=b17 (by rw [h.n];exact h.nd) (by rw [h.n];exact hN) (by rw [h.sc];exact hv) he hs (.inl (h.fn x))
theorem b3Q:Wo (Kw env) Q↔False:=Wo_none
end DL
namespace DL
open PySem PySem.Spec PyProof.Rows L2
theorem b7M{P:Program}{w:World}{K:aX}{mg:Str->Option Value}{base:Heap}{k n:Nat}{f:Addr}{fd:FuncData}{ps:List Str}{φ:List D->Option Sl}(h:∀ds r,φ ds=some r->False):dh P w K mg base pB k f fd ps (Bs K n φ):=
 ⟨λvs H Q E q=>by obtain ⟨O,ds,r,_,_,_,e,_⟩:=q;exact (h ds r e).elim,λA outer s H args us vs Q E _ _ _ _ q=>by obtain ⟨O,ds,r,_,_,_,e,_⟩:=q;exact (h ds r e).elim⟩
section
variable {X:Cx}{W:L2.St->Hp->Value->Prop}{it tg:Expr}{re:En->Option Str}{pos:Pos}
end
theorem b2u{P:Program}{w:World}{K:aX}{mg:Str->Option Value}{base:Heap}{x:Str}{st:Stmt}{ps:List Str}{j:Nat}{f:Addr}{fd:FuncData}(D':Def K mg x st ps f fd):Oz P w K mg base x st ps j λ_=>none:=⟨f,fd,D',b7M λ_ _ z=>nomatch z⟩
end DL
namespace DL
open PySem PySem.Spec PyProof.Rows L2
section
variable {X:Cx}{a b c:Expr}{pos:Pos}{fa fb fc:En->Option Sl}
theorem b33(ho:zQ X (compareOp op) g)(xR:zQ X (compareOp NQ) g')(ha:EV X a fa)(hb:EV X b fb)(hc:EV X c fc)(hm:lastMarks [op,NQ] [b,c]=false:=by with_unfolding_all rfl):
  TV X (.Compare a [op,NQ] [b,c] pos) (Hi (eF (af g fa fb)) (eF (af g' fb fc))):=by
 obtain ⟨r,hr,hg⟩:=ho
 obtain ⟨r',hr',VV⟩:=xR
 obtain ⟨ta,pa,ka⟩:=ha
 obtain ⟨tb,pb,kb⟩:=hb
 obtain ⟨tc,pc,kc⟩:=hc
 refine ⟨_,b4k hr hr' pa pb pc hm,λO B σ H env k Q R e q=>?_⟩
 unfold Hi at e
 cases e1:eF (af g fa fb) env with
 | none=>rw [e1] at e;cases e
 | some b1 =>
  rw [e1] at e
  obtain ⟨x,ex,e3⟩:=bind_some (KC e1)
  obtain ⟨y,ey,e4⟩:=bind_some e3
  refine ka O B σ H env x _ R ex λv H1 s1 h1=>?_
  refine kb O B σ H1 env y _ (R.grow s1) ey λu H2 s2 h2=>?_
  have R2:=(R.grow s1).grow s2
  refine hg (OO O σ env) H2 v u x.d y.d _ _ (λq=>R2.oo) ((h1.is λq=>R.oo).grow s2) (h2.is λq=>(R.grow s1).oo) e4 λw H3 s3 h3=>?_
  refine ⟨b1,Iq h3,?_⟩
  cases b1 with
  | false =>
   cases e
   rw [if_neg (by decide)]
   exact ⟨false,rfl,q H3 ((s1.trans s2).trans s3)⟩
  | true =>
   rw [if_pos rfl]
   obtain ⟨y',ey',e5⟩:=bind_some (KC e)
   rw [ey] at ey'
   cases ey'
   obtain ⟨z,ez,e6⟩:=bind_some e5
   have R3:=R2.grow s3
   refine kc O B σ H3 env z _ R3 ez λw' H4 s4 h4=>?_
   have R4:=R3.grow s4
   refine VV (OO O σ env) H4 u w' y.d z.d _ _ (λq=>R4.oo) (((h2.is λq=>(R.grow s1).oo).grow s3).grow s4) (h4.is λq=>R3.oo) e6 λw2 H5 s5 h5=>?_
   exact ⟨k,Iq h5,q H5 ((((s1.trans s2).trans s3).trans s4).trans s5)⟩
end
end DL
namespace DL
open PySem PySem.Spec PyProof.Rows L2
section
variable {X:Cx}
noncomputable def yL(f:En->Option Sl):En->Option Sl:=λenv=>(f env).bind λr=>match r with
 | .sh (.int i)=>if i.natAbs.log2<1920 then some (.sh (.str (toString i))) else none
 | _=>none
theorem Fk(hg:Gl X "str")(hm:X.mg "str" = none)(he:EV X e fa)(hs:starEach [e] X.env=[(false,eval e X.env)]:=by rfl):EV X (.Call (.Name "str" p) [e] [] pos) (yL fa):=by
 obtain ⟨t,pt,k⟩:=he
 refine ⟨_,ID qI hg hm (by decide +kernel) (wm pt zx hs) (by decide) (by decide) hs rfl,λO B σ H env s Q R e q=>?_⟩
 obtain ⟨r,e1,e2⟩:=bind_some e
 split at e2
 .obtain ⟨hz,rfl⟩:=oi e2
  refine k O B σ H env _ _ R e1 λv H1 s1 r1=>?_
  obtain rfl:=Ao r1
  exact ⟨_,rfl,hz,q _ H1 s1 (Is.str _)⟩
 .cases e2
def PJ(X:Cx)(es:List Expr)(tj:Str->L2.St->Hp->VK->Prop):Prop:=
 ∀(out:Str) (pins:List (Addr×Obj)) (s:Shared) (σ:L2.St) (H:Hp) (Q:VK),Inv X pins σ H s->tj out σ H Q->wpAny (model X.prog X.w) X.A (joinParts out (evalEach es X.env)) (EP X pins σ Q) X.xe s
theorem b9J:PJ X [] (λout _ H Q=>out.length<=sizeLine/\Q (.str out) H):=by
 intro out pins s σ H Q I h
 exact joinParts_nil ⟨.str out,H,I.tok _,⟨_,rfl⟩,h.2⟩ h.1
theorem b67(he:PE X e t)(hs:PJ X es tj):PJ X (e::es) (λout σ H Q=>t σ H λx H1=>∃y,x=.str y/\(out++y).length<=sizeLine/\tj (out++y) σ H1 Q):=by
 intro out pins s σ H Q I h
 show wpAny _ _ (joinParts out (eval e X.env::evalEach es X.env)) _ _ s
 refine joinParts_cons (cM (he pins s σ H _ I h) λv s1 ⟨x,H1,I1,r1,q1⟩=>?_)
 obtain ⟨y,rfl,hz,q⟩:=q1
 obtain ⟨u,rfl⟩:=r1
 exact ⟨hz,hs _ pins s1 σ H1 Q I1 q⟩
noncomputable def Aw:Option Sl->Option Str
 | some (.sh (.str y))=>some y
 | _=>none
theorem Qo(h:Aw o=some y):o=some (.sh (.str y)):=by
 unfold Aw at h
 split at h
 .cases h;rfl
 .cases h
def JV(X:Cx)(es:List Expr)(f:En->Option Str):Prop:=
 ∃tj,PJ X es tj/\∀(O:Addr->Prop) (B:Hp) (σ:L2.St) (H:Hp) (env:En) (y out:Str) (Q:VK),Rel X.K O B σ H env->f env=some y->(out++y).length<=sizeLine->(∀H',aO H H'->Q (.str (out++y)) H')->tj out σ H Q
noncomputable def GN:En->Option Str:=λ_=>some yK
noncomputable def Fi(fe:En->Option Sl)(f:En->Option Str):En->Option Str:=λenv=>(Aw (fe env)).bind λy=>(f env).map λz=>y++z
theorem c0o:JV X [] GN:=by
 refine ⟨_,b9J,λO B σ H env y out Q R e hz q=>?_⟩
 cases e
 have:=q H (aO.refl _)
 rw [Str.append_empty] at this hz
 exact ⟨hz,this⟩
theorem Yk(he:EV X e fe)(hs:JV X es f):JV X (e::es) (Fi fe f):=by
 obtain ⟨t,pt,kt⟩:=he
 obtain ⟨tj,pj,kj⟩:=hs
 refine ⟨_,b67 pt pj,λO B σ H env y out Q R e hz q=>?_⟩
 obtain ⟨y1,e1,e2⟩:=bind_some e
 obtain ⟨z,e3,rfl⟩:=map_some e2
 refine kt O B σ H env _ _ R (Qo e1) λv H1 s1 r1=>?_
 obtain rfl:=AR r1
 rw [<-Str.append_assoc] at hz q
 refine ⟨y1,rfl,?_,kj O B σ H1 env z (out++y1) Q (R.grow s1) e3 hz λH' s'=>q H' (s1.trans s')⟩
 rw [pC] at hz
 omega
noncomputable def Sy(f:En->Option Str):En->Option Sl:=λenv=>(f env).bind λy=>if y.length<=16777216 then some (.sh (.str y)) else none
theorem b73(h:JV X (e::e'::es) f):EV X (.JoinedStr (e::e'::es) pos) (Sy f):=by
 obtain ⟨tj,pj,k⟩:=h
 refine ⟨λσ H Q=>tj yK σ H Q,λpins s σ H Q I hw=>JoinedStr_many (pj yK pins s σ H Q I hw),λO B σ H env s Q R e q=>?_⟩
 obtain ⟨y,e1,e2⟩:=bind_some e
 obtain ⟨hz,rfl⟩:=oi e2
 refine k O B σ H env y yK Q R e1 (by rw [Str.empty_append,yJ];exact hz) λH' s'=>?_
 rw [Str.empty_append]
 exact q _ H' s' (Is.str _)
noncomputable def ZP(x:Str):It:=⟨λi _=>i<x.cps.size,λi H v H'=>H'=H/\∃c,x.cps[i]?=some c/\v=.str ⟨#[c]⟩,λi _=>x.cps.size<=i⟩
theorem b1Z{P:Program}{w:World}{K:aX}{tg:Expr}(it:Addr)(x:Str)(t:Tok):Turn P w K tg (ZP x) [it] it (λi h=>h.IsStrIter it "str_ascii_iterator" x t i) where
 mem:=by simp
 obj:=λi h st b hb=>by
  have e:b=it:=by simpa using hb
  subst e
  obtain ⟨o,ho,hc,hd⟩:=st
  exact ⟨o,ho,λv z=>by rw [hd] at z;cases z⟩
 keep:=λi h h' st k=>by
  obtain ⟨o,ho,r⟩:=st
  exact ⟨o,k it (by simp) o ho,r⟩
 item:=by
  intro X hP hw hK hc i pins s σ H E I hf st hg
  subst hP hw hK
  obtain ⟨f0,f1,f2,f3,f4,f5⟩:=hf it (by simp)
  have W:=Walks.strAscii (prog:=X.prog) (w:=X.w) (I.ok.hd hc) it x t
  refine W.item i s _ _ hg st λv h' tk hv fy kk=>?_
  obtain ⟨c,u,hx,rfl⟩:=hv
  have I1:Inv X pins σ H { s with heap:=h',toks:=tk }:=I.turned (λb o hb e=>kk b o (by simpa using hb) e) f0 f1 f3 f4 f5
  obtain ⟨o,ho,Fz,hd⟩:=id fy
  exact ⟨_,rfl,Kl (s:={ s with heap:=h',toks:=tk }) (n:="str_ascii_iterator") ho Fz hd (by decide) ⟨.str ⟨#[c]⟩,H,I1,⟨u,rfl⟩,⟨rfl,c,hx,rfl⟩,fy,λb hb=>(hf b hb).1⟩⟩
 done:=by
  intro X hP hw hK hc i pins s σ H E I hf st hg
  subst hP hw hK
  obtain ⟨f0,f1,f2,f3,f4,f5⟩:=hf it (by simp)
  exact wpAny_pyNext_ascii_end (I.ok.hd hc) st (by have VV:x.cps.size<=i:=hg;simpa using VV) λh' eb=>⟨rfl,I.turned (t':=s.toks) (λb o hb e=>eb b o hb e) f0 f1 f3 f4 f5⟩
 self:=λ_ _ _ _ _ st h=>wpAny_pyIter_striter_ascii st h
theorem b68{tg e:Expr}{t:TE}(h:PE X e t):PI X tg e (λσ H R=>t σ H λx H1=>∃z,x=.str z/\z.cps.all (·<128)=true/\R (ZP z) H1):=by
 intro pins s σ H R I hw
 refine cM (h pins s σ H _ I hw) λv s1 ⟨x,H1,I1,r1,q1⟩=>?_
 obtain ⟨z,rfl,ha,q⟩:=q1
 obtain ⟨u,rfl⟩:=r1
 refine wpAny_pyIter_ascii ha ?_
 refine ⟨s1.heap.objs.size,[s1.heap.objs.size],_,_,H1,rfl,I1.kept (t':=s1.toks) λb o e=>ft _ e,b1Z _ z u,⟨_,nS _ rfl,rfl,rfl⟩,λb hb=>?_,q⟩
 have e:b=s1.heap.objs.size:=by simpa using hb
 subst e
 exact I1.z5 (dF _) (I1.cF.fresh (dF _))
noncomputable def DW(x:Str):List D:=x.cps.toList.map λc=>.str ⟨#[c]⟩
theorem b32{K:aX}{O:Addr->Prop}{H:Hp}(x:Str):Iu K O (ZP x) H (DW x):=λO' H2 _ _ i=>by
 refine ⟨λd hd=>?_,λhl=>show x.cps.size<=i by simpa [DW] using hl⟩
 unfold DW at hd
 rw [zq] at hd
 obtain ⟨c,hc,rfl⟩:=map_some hd
 have hi:i<x.cps.size:=by simpa using (z9.mp hc).1
 refine ⟨hi,λv H3 hy=>?_⟩
 obtain ⟨rfl,c',hx,rfl⟩:=hy
 have:c'=c:=by
  rw [<-R8,hc] at hx
  exact (lH hx).symm
 subst this
 exact ⟨aO.refl _,Is.str _⟩
noncomputable def EX(f:En->Option Sl):En->Option (List D):=λenv=>(Aw (f env)).bind λy=>if y.cps.all (·<128)=true then some (DW y) else none
theorem b7A(h:EV X e fa):IV X tg e (EX fa):=by
 obtain ⟨t,p,k⟩:=h
 refine ⟨_,b68 p,λO B σ H env ds R Rl e q=>?_⟩
 obtain ⟨y,e1,e2⟩:=bind_some e
 obtain ⟨ha,rfl⟩:=oi e2
 refine k O B σ H env _ _ Rl (Qo e1) λv H1 s1 r1=>?_
 obtain rfl:=AR r1
 exact ⟨y,rfl,ha,q _ H1 s1 (b32 y)⟩
noncomputable def LS(f:En->Option Sl):En->Option Sl:=λenv=>(Aw (f env)).bind λy=>if y.length<=16777216 then some (.sh (.int y.length)) else none
theorem b72(hg:Gl X "len")(hm:X.mg "len" = none)(ha:EV X a fa)(hs:starEach [a] X.env=[(false,eval a X.env)]:=by rfl):EV X (.Call (.Name "len" p) [a] [] pos) (LS fa):=by
 obtain ⟨t,pt,k⟩:=ha
 refine ⟨_,KD a9a hg hm WG (wm pt zx hs) (by decide) (by decide) hs rfl,λO B σ H env s Q R e q=>?_⟩
 obtain ⟨y,e1,e2⟩:=bind_some e
 obtain ⟨hz,rfl⟩:=oi e2
 refine k O B σ H env _ _ R (Qo e1) λv H1 s1 r1=>?_
 obtain rfl:=AR r1
 exact ⟨y,rfl,by rw [yJ];exact hz,q _ H1 s1 (Is.int _)⟩
end
end DL
namespace DL
open PySem PySem.Spec PyProof.Rows L2
section
variable {X X':Cx}
def QK(mg:Str->Option Value)(x:Str)(n:Int):Prop:=∃t,mg x=some (.int n t)
def HA(mg:Str->Option Value)(x y:Str):Prop:=∃t,mg x=some (.str y t)
theorem b0X(hg:Gl X x)(hm:QK X.mg x n)(hd:(x==("__debug__":Str))=false:=by decide):EV X (.Name x pos) (eC (.int n)):=by
 obtain ⟨t,hm⟩:=hm
 refine ⟨_,Ye (v:=.int n) hg hm ⟨t,rfl⟩ hd,λO B σ H env s Q R e q=>?_⟩
 cases e
 exact q _ H (aO.refl _) (Is.int _)
theorem Yq(hg:Gl X x)(hm:HA X.mg x y)(hd:(x==("__debug__":Str))=false:=by decide):EV X (.Name x pos) (eC (.str y)):=by
 obtain ⟨t,hm⟩:=hm
 refine ⟨_,Ye (v:=.str y) hg hm ⟨t,rfl⟩ hd,λO B σ H env s Q R e q=>?_⟩
 cases e
 exact q _ H (aO.refl _) (Is.str _)
theorem XH(e4:X'.mg=X.mg)(h:HA X.mg x y):HA X'.mg x y:=by rw [e4];exact h
end
section
variable {X:Cx}{N:List Str}{sc:Scope}{k:Nat}{full:Bool}{pos pos':Pos}{e:Expr}{fa:En->Option Sl}
noncomputable instance (i j:Int):Decidable (HB i j):=by unfold HB;infer_instance
end
end DL
namespace DL
open PySem PySem.Spec PyProof.Rows L2
section
variable {X X':Cx}
theorem Tj{α:Type}{c:Prop}[Decidable c]{o:Option α}{y:α}(h:(if c then o else none)=some y):c/\o=some y:=by
 split at h
 .exact ⟨‹c›,h⟩
 .cases h
noncomputable def C6:D->D->Option Sl
 | .str i,.str j=>some (.sh (.bl (!(c5w j i 0 j.length 1).isEmpty)))
 | _,_=>none
theorem b90:zQ X (compareOp .In) C6:=by
 refine ⟨_,b2w,λO H x y a b s Q hO hx hy e q=>?_⟩
 unfold C6 at e
 split at e
 .cases e
  exact ⟨_,_,AR hx,AR hy,q _ H (aO.refl _) (Is.bl _)⟩
 .cases e
noncomputable def AE(fa fb:En->Option Sl):En->Option Sl:=λenv=>(Aw (fa env)).bind λz=>match fb env with
 | some (.sh (.int i))=>if z.length<=16777216 then (f' z.cps.toList i).map λc=>.sh (.str ⟨#[c]⟩) else none
 | _=>none
theorem XQ(ha:EV X a fa)(hb:EV X b fb)(hs:X4 b:=by exact λ_ _=>rfl):EV X (.Subscript a b pos) (AE fa fb):=by
 obtain ⟨t,p,k⟩:=ha
 obtain ⟨u,p',k'⟩:=hb
 refine ⟨_,b9R b6b p p' hs,λO B σ H env r Q R e q=>?_⟩
 obtain ⟨z,e1,e2⟩:=bind_some e
 split at e2
 .rename_i i e3
  obtain ⟨hz,e4⟩:=Tj e2
  obtain ⟨c,e5,rfl⟩:=map_some e4
  refine k O B σ H env _ _ R (Qo e1) λv H1 s1 r1=>?_
  obtain rfl:=AR r1
  refine k' O B σ H1 env _ _ (R.grow s1) e3 λw H2 s2 r2=>?_
  obtain rfl:=Ao r2
  exact ⟨z,i,c,rfl,rfl,by rw [yJ];exact hz,e5,q _ H2 (s1.trans s2) (Is.str _)⟩
 .cases e2
def Uv(K:aX)(mg:Str->Option Value)(x:Str)(ys:List Str):Prop:=∃a:Addr,mg x=some (.ref a)/\oj K (λ_=>none) a (ys.map V.str)
theorem b0P{K:aX}{O:Addr->Prop}{H:Hp}:∀ys:List Str,bp K O H (ys.map V.str) (ys.map D.str)
 | []=>.nil
 | y::ys=>.cons (.str y) (b0P ys)
theorem b4W(hg:Gl X x)(hm:Uv X.K X.mg x ys)(hd:(x==("__debug__":Str))=false:=by decide):EV X (.Name x pos) (eC (.tup (ys.map D.str))):=by
 obtain ⟨a,hm,hs⟩:=hm
 refine ⟨_,Ye (v:=.ref a) hg hm rfl hd,λO B σ H env s Q R e q=>?_⟩
 cases e
 exact q _ H (aO.refl _) (Is.xF hs (b0P ys))
theorem a8p:∀(ys:List (Str×Tok)),aU ((ys.map (·.1)).map V.str) (ys.map λp=>Ll p.1 p.2)
 | []=>.nil
 | y::ys=>.cons ⟨y.2,rfl⟩ (a8p ys)
theorem c0z{K:aX}{mg:Str->Option Value}{x:Str}{a:Addr}{ys:List (Str×Tok)}{o:Obj}{n:Nat}(hm:mg x=some (.ref a))(hk:K.lookup a=some o)(hc:o.cls=.type "tuple")(hd:o.data=.seq (ys.map λp=>Ll p.1 p.2).toArray n)(hl:ys.length<=1000):Uv K mg x (ys.map (·.1)):=
 ⟨a,hm,.inr ⟨o,_,n,hk,hc,hd,by rw [jM,c6,yJ];omega,a8p ys⟩⟩
end
end DL
namespace TS
open PySem PyProof.Rows
section
variable {prog:Program}{w:World}{A:Around}{E:Value->Shared->Prop}{s:Shared}
theorem Nf{l0:Addr}{vs:List Value}{n:Nat}{P:PySem.Fin->Shared->Prop}{κ:SortKind}{R:Array Value->Prop}(Q5:s.heap.get? l0=some (seqObj "list" vs.toArray n))(hZ:vs.length<=sizeLine)(hR:vs.length<2->R vs.toArray)(hz:∀out,R out->out.size=vs.length)
  (run:∀S:Shared,(∀b o,b≠l0->s.heap.get? b=some o->S.heap.get? b=some o)->2<=vs.length->(∀{A:Around} {E:Value->Shared->Prop} {Q:SortKind->Shared->Prop},Q κ S->wpAny (model prog w) A (keyKind' vs.toArray) Q E S)/\∀{A:Around} {E:Value->Shared->Prop},wpS (model prog w) A E S sortRuns' (λ_ fy=>R ((arrOf fy).map (·.2))/\failedOf fy=none) (WI κ (pairsOf vs) #[] 7 none))
  (h:∀out:Array Value,R out->P (.done (.ret .none)) { s with heap:=sortedHeap s.heap l0 vs out }):wpAny (model prog w) A (Builtin.«list.sort» ⟨[.ref l0],[]⟩) P E s:=by
 have jG:l0<s.heap.objs.size:=eY Q5
 obtain ⟨k1,hk1⟩:∃k1,(s.heap.update l0 (BX λ_=>#[])).get? l0=some (seqObj "list" #[] k1):=⟨_,get?_update_seq Q5 λ_=>#[]⟩
 rw [list_sort_plain]
 have hZ1:vs.toArray.size<=sizeLine:=by rw [jM];exact hZ
 have hZ2:vs.toArray.toList.length<=sizeLine:=hZ1
 refine aY (listItems_at Q5 rfl (aY (listUpdate_at (hsz:=hZ1) Q5 rfl (aY (seqEpoch_at hk1 rfl (aY (wpAny_newTuple (hsz:=hZ2) (aY (wpAny_newList (DJ ?_))))))))))
 have HN:(((s.heap.update l0 (BX λ_=>#[])).push (seqObj "tuple" vs.toArray 0)).push (seqObj "list" #[] 0)).get? l0=some (seqObj "list" #[] k1):=ft _ (ft _ hk1)
 have up:∀b o,b≠l0->s.heap.get? b=some o->(((s.heap.update l0 (BX λ_=>#[])).push (seqObj "tuple" vs.toArray 0)).push (seqObj "list" #[] 0)).get? b=some o:=λb o hb e =>
  ft _ (ft _ ((Pz _ _ (wF hb)).trans e))
 dsimp only
 show wpAny _ _ _ _ _ { s with heap:=((s.heap.update l0 (BX λ_=>#[])).push (seqObj "tuple" vs.toArray 0)).push (seqObj "list" #[] 0) }
 generalize hS:({ s with heap:=((s.heap.update l0 (BX λ_=>#[])).push (seqObj "tuple" vs.toArray 0)).push (seqObj "list" #[] 0) }:Shared)=S
 have hSh:S.heap=((s.heap.update l0 (BX λ_=>#[])).push (seqObj "tuple" vs.toArray 0)).push (seqObj "list" #[] 0):=by rw [<-hS]
 have La:S.heap.get? l0=some (seqObj "list" #[] k1):=by rw [hSh];exact HN
 have ends:∀st:SortSt,R ((arrOf st).map (·.2))->failedOf st=none ->
   wpAny (model prog w) A (do
    let touched:=(<-seqEpoch l0) != k1
    Builtin.List.listUpdate (.ref l0) λ_=>(arrOf st).map (·.2)
    if let some e:=failedOf st then rule "list.sort.comparison-raised";throw e
    if touched then rule "list.sort.modified";raiseError "ValueError" "list modified during sort"
    ret .none) P E S:=λst hr hf=>by
  refine aY (seqEpoch_at La rfl (aY (listUpdate_at La rfl ?_ (hsz2:=?_))))
  .rw [hf]
   simp only [bne_self_eq_false,Lv,if_false]
   refine cE ?_
   have:=h _ hr
   rw [<-hS]
   exact this
  .rw [hz _ hr];omega
 have hsz:vs.toArray.size=vs.length:=by simp
 by_cases h2:vs.toArray.size<2
 .rw [if_pos h2]
  refine aY (cE ?_)
  rw [if_pos h2,StateT.run_pure]
  refine aY (cE ?_)
  refine ends (WI general' (pairsOf vs) #[] 7 none) ?_ rfl
  have e:(pairsOf vs).map (·.2)=vs.toArray:=by
   apply W4.mp
   rw [Array.toList_map,pairsOf_toList,List.map_snd_zip (dF _)]
  show R ((pairsOf vs).map (·.2))
  rw [e]
  exact hR (by omega)
 .rw [if_neg h2]
  obtain ⟨r1,r2⟩:=run S (λb o hb e=>by rw [hSh];exact up b o hb e) (by omega)
  refine aY (r1 ?_)
  rw [if_neg h2]
  refine aY (z8 r2 (λr s' hr=>?_) λ_ _ z=>z)
  obtain ⟨rfl,p1,p2⟩:=hr
  exact ends r.2 p1 p2
end
end TS
namespace KS
open PySem PySem.W PyProof.Rows
noncomputable def go{α:Type}(cmp:Nat->Nat->Bool):KasT α->α
 | .ret a=>a
 | .ask i j k=>go cmp (k (cmp i j))
theorem L6{α β:Type}(cmp:Nat->Nat->Bool)(f:α->KasT β):∀t:KasT α,go cmp (t.bind f)=go cmp (f (go cmp t))
 | .ret a=>rfl
 | .ask i j k=>L6 cmp f (k (cmp i j))
section
variable (K:Nat->Int)
noncomputable def kI(p:Array Nat)(i:Nat):Int:=K (p.getD i 0)
def Hv(p:Array Nat)(k:Nat):Prop:=∀i j,i<=j->j<k->kI K p i<=kI K p j
def QD(p:Array Nat)(k:Nat):Prop:=∀i j,i<=j->j<k->kI K p j<=kI K p i
noncomputable abbrev n5(i j:Nat):Bool:=decide (K i<K j)
variable {K}
theorem Fj{p q:Array Nat}{i j:Nat}(h:p[i]?=q[j]?):kI K p i=kI K q j:=by
 unfold kI
 rw [c4Y,c4Y,h]
theorem SN{p:Array Nat}{i j:Nat}(hj:j<=p.size)(k:Nat):kI K (mirror p i j ((j-i)/2)) k=if i<=k/\k<j then kI K p (i+j-1-k) else kI K p k:=by
 have e:=getElem?_mirror_all (i:=i) hj k
 by_cases h1:i<=k/\k<j
 .rw [if_pos h1] at e ⊢;exact Fj e
 .rw [if_neg h1] at e ⊢;exact Fj e
theorem Qg(hj:j<=p.size)(he:∀k,i<=k->k<j->kI K p k=kI K p (j-1))(k:Nat):kI K (mirror p i j ((j-i)/2)) k=kI K p k:=by
 rw [SN hj]
 split
 .rw [he _ (by omega) (by omega),he k (by omega) (by omega)]
 .rfl
theorem FF:∀(f n:Nat),1<=n->Hv K p n->∃m,go (n5 K) (kas_asc p f n)=m/\n<=m/\m<=n+f/\Hv K p m/\(m=n+f\/kI K p m<kI K p (m-1))
 | 0,n,_,hs=>⟨n,rfl,by lia,by lia,hs,.inl rfl⟩
 | f+1,n,hn,hs=>by
  unfold kas_asc
  show ∃m,go (n5 K) (if decide (kI K p n<kI K p (n-1))=true then .ret n else kas_asc p f (n+1))=m/\_
  by_cases c:kI K p n<kI K p (n-1)
  .rw [if_pos (decide_eq_true c)]
   exact ⟨n,rfl,by lia,by lia,hs,.inr c⟩
  .rw [if_neg (by simpa using c)]
   obtain ⟨m,e,m1,m2,m3,m4⟩:=FF f (n+1) (by lia) λi j AB hj=>by
    by_cases d:j<n
    .exact hs i j AB d
    .obtain rfl:j=n:=by lia
     by_cases d2:i=j
     .subst d2;exact J7 _
     .have:=hs i (j-1) (by lia) (by lia);lia
   exact ⟨m,e,by lia,by lia,m3,m4.elim (λz=>.inl (by lia)) .inr⟩
theorem desc:∀(f:Nat) (p:Array Nat) (n q:Nat),1<=n->n+f<=p.size->QD K p n->q+1<=n->(∀i,n-(q+1)<=i->i<n->kI K p i=kI K p (n-1)) ->
  ∃p' m q',go (n5 K) (HW f p n q)=(p',m,q')/\p'.Perm p/\n<=m/\m<=n+f/\QD K p' m/\q'+1<=m/\∀i,m-(q'+1)<=i->i<m->kI K p' i=kI K p' (m-1)
 | 0,p,n,q,_,_,hs,hq,he=>⟨p,n,q,rfl,Pm _,by lia,by lia,hs,hq,he⟩
 | f+1,p,n,q,hn,hz,hs,hq,he=>by
  have next:∀p':Array Nat,(∀k,kI K p' k=kI K p k)->kI K p n<=kI K p (n-1)->QD K p' (n+1):=λp' hk hl i j AB hj=>by
   rw [hk,hk]
   by_cases d:j<n
   .exact hs i j AB d
   .obtain rfl:j=n:=by lia
    by_cases d2:i=j
    .subst d2;exact J7 _
    .have:=hs i (j-1) (by lia) (by lia);lia
  unfold HW
  show ∃p' m q',go (n5 K) (if decide (kI K p n<kI K p (n-1))=true then (if q>0 then HW f (Cm p (n-(q+1)) n) (n+1) 0 else HW f p (n+1) 0) else .ask (p.getD (n-1) 0) (p.getD n 0) λd=>if d=true then .ret (p,n,q) else HW f p (n+1) (q+1))=(p',m,q')/\_
  by_cases c:kI K p n<kI K p (n-1)
  .rw [if_pos (decide_eq_true c)]
   by_cases cq:q>0
   .rw [if_pos cq]
    obtain ⟨p',m,q',e,k1,k2,k3,k4,k5,k6⟩:=desc f (Cm p (n-(q+1)) n) (n+1) 0 (by lia) (by unfold Cm;rw [mirror_size];lia) (next _ (Qg (by lia) he) (by lia)) (by lia) λi h1 h2=>by congr 1;lia
    exact ⟨p',m,q',e,k1.trans (HY _ _ _ _),by lia,by lia,k4,k5,k6⟩
   .rw [if_neg cq]
    obtain ⟨p',m,q',e,k1,k2,k3,k4,k5,k6⟩:=desc f p (n+1) 0 (by lia) (by lia) (next _ (λ_=>rfl) (by lia)) (by lia) λi h1 h2=>by congr 1;lia
    exact ⟨p',m,q',e,k1,by lia,by lia,k4,k5,k6⟩
  .rw [if_neg (by simpa using c)]
   show ∃p' m q',go (n5 K) (if decide (kI K p (n-1)<kI K p n)=true then .ret (p,n,q) else HW f p (n+1) (q+1))=(p',m,q')/\_
   by_cases c2:kI K p (n-1)<kI K p n
   .rw [if_pos (decide_eq_true c2)]
    exact ⟨p,n,q,rfl,Pm _,by lia,by lia,hs,hq,he⟩
   .rw [if_neg (by simpa using c2)]
    have heq:kI K p n=kI K p (n-1):=by lia
    obtain ⟨p',m,q',e,k1,k2,k3,k4,k5,k6⟩:=desc f p (n+1) (q+1) (by lia) (by lia) (next _ (λ_=>rfl) (by lia)) (by lia) λi h1 h2=>by
     rw [show n+1-1=n by lia]
     by_cases d:i=n
     .subst d;rfl
     .rw [heq];exact he i (by lia) (by lia)
    exact ⟨p',m,q',e,k1,by lia,by lia,k4,k5,k6⟩
theorem b5P(h1:1<=n)(hn:n<=nrem)(hz:nrem<=p.size)(hs:QD K p n):∃m p',go (n5 K) (kas_tail3 n nrem p)=(m,p')/\p'.Perm p/\1<=m/\m<=nrem/\Hv K p' m:=by
 unfold kas_tail3
 rw [L6]
 obtain ⟨m,e,m1,m2,m3,_⟩:=FF (K:=K) (p:=Cm p 0 n) (nrem-n) n h1 λi j AB hj=>by
  unfold Cm
  rw [SN (by lia),SN (by lia),if_pos (by lia),if_pos (by lia)]
  exact hs _ _ (by lia) (by lia)
 rw [e]
 exact ⟨m,_,rfl,HY _ _ _ _,by lia,by lia,m3⟩
theorem c0U(hn:n+1<=nrem)(hz:nrem<=p.size)(hs:QD K p (n+1)):∃m p',go (n5 K) (Pw n nrem p)=(m,p')/\p'.Perm p/\1<=m/\m<=nrem/\Hv K p' m:=by
 unfold Pw
 rw [L6]
 obtain ⟨p',m,q',e,k1,k2,k3,k4,k5,k6⟩:=desc (K:=K) (nrem-(n+1)) p (n+1) 0 (by lia) (by lia) hs (by lia) λi h1 h2=>by congr 1;lia
 have K7:p'.size=p.size:=k1.size_eq
 rw [e]
 dsimp only
 by_cases c:q'>0
 .rw [if_pos c]
  obtain ⟨a,b,e2,j1,j2,j3,j4⟩:=b5P (K:=K) (p:=Cm p' (m-(q'+1)) m) (n:=m) (nrem:=nrem) (by lia) (by lia) (by unfold Cm;rw [mirror_size];lia) λi j AB hj=>by
   unfold Cm
   rw [Qg (by lia) k6,Qg (by lia) k6]
   exact k4 i j AB hj
  exact ⟨a,b,e2,j1.trans ((HY _ _ _ _).trans k1),j2,j3,j4⟩
 .rw [if_neg c]
  obtain ⟨a,b,e2,j1,j2,j3,j4⟩:=b5P (K:=K) (p:=p') (n:=m) (nrem:=nrem) (by lia) (by lia) (by lia) k4
  exact ⟨a,b,e2,j1.trans k1,j2,j3,j4⟩
theorem cnt(h1:1<=nrem)(hz:nrem<=p.size):∃m p',go (n5 K) (kas_count nrem p)=(m,p')/\p'.Perm p/\1<=m/\m<=nrem/\Hv K p' m:=by
 unfold kas_count
 rw [L6]
 obtain ⟨n,e,n1,n2,n3,n4⟩:=FF (K:=K) (p:=p) (nrem-1) 1 (by lia) λi j AB hj=>by
  obtain rfl:i=j:=by lia
  exact J7 _
 rw [e]
 by_cases c:n=nrem
 .rw [if_pos (by simpa using c)]
  exact ⟨n,p,rfl,Pm _,n1,by lia,n3⟩
 rw [if_neg (by simpa using c)]
 have jG:kI K p n<kI K p (n-1):=n4.resolve_left (by lia)
 by_cases c2:n>1
 .rw [if_pos c2]
  show ∃m p',go (n5 K) (if decide (kI K p 0<kI K p (n-1))=true then .ret (n,p) else Pw n nrem (Cm p 0 n))=(m,p')/\_
  by_cases c3:kI K p 0<kI K p (n-1)
  .rw [if_pos (decide_eq_true c3)]
   exact ⟨n,p,rfl,Pm _,n1,by lia,n3⟩
  .rw [if_neg (by simpa using c3)]
   have BP:∀k,0<=k->k<n->kI K p k=kI K p (n-1):=λk _ hk=>by
    have:=n3 0 k (by lia) hk
    have:=n3 k (n-1) (by lia) (by lia)
    lia
   obtain ⟨a,b,e2,j1,j2,j3,j4⟩:=c0U (K:=K) (p:=Cm p 0 n) (n:=n) (nrem:=nrem) (by lia) (by unfold Cm;rw [mirror_size];lia) λi j AB hj=>by
    unfold Cm
    rw [Qg (by lia) BP,Qg (by lia) BP]
    by_cases d:j<n
    .rw [BP i (by lia) (by lia),BP j (by lia) d];exact J7 _
    .obtain rfl:j=n:=by lia
     by_cases d2:i=j
     .subst d2;exact J7 _
     .rw [BP i (by lia) (by lia)];lia
   exact ⟨a,b,e2,j1.trans (HY _ _ _ _),j2,j3,j4⟩
 .rw [if_neg c2]
  obtain rfl:n=1:=by lia
  exact c0U (K:=K) (by lia) hz λi j AB hj=>by
   by_cases d:i=j
   .subst d;exact J7 _
   .obtain ⟨rfl,rfl⟩:i=0/\j=1:=by lia
    exact Int.le_of_lt jG
theorem place(hs:Hv K p k):∀(f l r:Nat),l<=r->r<=k->r-l<=f->(∀i,i<l->kI K p i<=kI K p k)->(∀i,r<=i->i<k->kI K p k<kI K p i) ->
  ∃m,go (n5 K) (Lm p k f l r)=m/\m<=k/\(∀i,i<m->kI K p i<=kI K p k)/\∀i,m<=i->i<k->kI K p k<kI K p i
 | 0,l,r,h1,h2,h3,h4,h5=>by
  obtain rfl:l=r:=by lia
  exact ⟨l,rfl,h2,h4,h5⟩
 | f+1,l,r,h1,h2,h3,h4,h5=>by
  unfold Lm
  by_cases c:l≥r
  .rw [if_pos c]
   obtain rfl:l=r:=by lia
   exact ⟨l,rfl,h2,h4,h5⟩
  .rw [if_neg c]
   show ∃m,go (n5 K) (if decide (kI K p k<kI K p ((l+r)/2))=true then Lm p k f l ((l+r)/2) else Lm p k f ((l+r)/2+1) r)=m/\_
   by_cases c2:kI K p k<kI K p ((l+r)/2)
   .rw [if_pos (decide_eq_true c2)]
    exact place hs f l _ (by lia) (by lia) (by lia) h4 λi z1 z2=>by
     have:=hs ((l+r)/2) i z1 z2;lia
   .rw [if_neg (by simpa using c2)]
    exact place hs f _ r (by lia) (by lia) (by lia) (λi z=>by
     have:=hs i ((l+r)/2) (by lia) (by lia);lia) h5
theorem bin:∀(f:Nat) (p:Array Nat) (k:Nat),1<=k->k+f<=p.size->Hv K p k->∃p',go (n5 K) (kas_bin f p k)=p'/\p'.Perm p/\Hv K p' (k+f)
 | 0,p,k,_,_,hs=>⟨p,rfl,Pm _,hs⟩
 | f+1,p,k,hk,hz,hs=>by
  unfold kas_bin
  rw [L6]
  obtain ⟨l,e,l1,l2,l3⟩:=place (K:=K) hs k 0 k (by lia) (by lia) (by lia) (λi z=>by lia) λi z1 z2=>by lia
  rw [e]
  have hb:=getElem?_bubble (xs:=p) (src:=k) (by lia) (k-l) (by lia)
  rw [show k-(k-l)=l by lia] at hb
  have kb:∀m,kI K (bubble p k (k-l)) m=if m=l then kI K p k else if l<m/\m<=k then kI K p (m-1) else kI K p m:=λm=>by
   have e:=hb m
   by_cases c1:m=l
   .rw [if_pos c1] at e ⊢;exact Fj e
   .rw [if_neg c1] at e ⊢
    by_cases c2:l<m/\m<=k
    .rw [if_pos c2] at e ⊢;exact Fj e
    .rw [if_neg c2] at e ⊢;exact Fj e
  obtain ⟨p',e',j1,j2⟩:=bin f (bubble p k (k-l)) (k+1) (by lia) (by rw [bubble_size];lia) λi j AB hj=>by
   rw [kb,kb]
   repeat' split
   all_goals first
    | (exfalso;lia)
    | exact J7 _
    | exact l2 _ (by lia)
    | exact Int.le_of_lt (l3 _ (by lia) (by lia))
    | exact hs _ _ (by lia) (by lia)
  exact ⟨p',e',j1.trans (bubble_perm _ _ _),by rw [show k+(f+1)=k+1+f by lia];exact j2⟩
noncomputable def ord(K:Nat->Int)(n:Nat):List Nat:=(go (n5 K) (Ph n)).toList
theorem EG(K:Nat->Int)(n:Nat)(h:1<=n):(ord K n).Perm (nR n)/\(ord K n).Pairwise λi j=>K i<=K j:=by
 have key:∃p',go (n5 K) (Ph n)=p'/\p'.Perm (WO (nR n))/\Hv K p' n:=by
  unfold Ph
  rw [L6]
  obtain ⟨m,p,e,k1,k2,k3,k4⟩:=cnt (K:=K) (p:=WO (nR n)) (nrem:=n) h (by simp)
  rw [e]
  dsimp only
  have hz:p.size=n:=by rw [k1.size_eq];simp
  by_cases c:m<n
  .rw [if_pos c]
   obtain ⟨p',e',j1,j2⟩:=bin (K:=K) (n-max m 1) p (max m 1) (by lia) (by lia) (by rw [show max m 1=m by lia];exact k4)
   exact ⟨p',e',j1.trans k1,by rw [show max m 1+(n-max m 1)=n by lia] at j2;exact j2⟩
  .rw [if_neg c]
   obtain rfl:m=n:=by lia
   exact ⟨p,rfl,k1,k4⟩
 obtain ⟨p,e,k1,k2⟩:=key
 unfold ord
 rw [e]
 refine ⟨RV.mp k1,c5c.mpr λi j hi hj AB=>?_⟩
 have hz:p.size=n:=by rw [k1.size_eq];simp
 simp only [Cq] at hi hj
 have:=k2 i j (by lia) (by lia)
 unfold kI at this
 simpa [hi,hj] using this
end
end KS
namespace KS
open PySem PySem.W PyProof.Rows
noncomputable def Ok{α:Type}(n:Nat)(R:α->Prop):KasT α->Prop
 | .ret a=>R a
 | .ask i j k=>i<n/\j<n/\∀b,Ok n R (k b)
theorem Ok.bind{α β:Type}{n:Nat}{R:α->Prop}{S:β->Prop}{f:α->KasT β}(hf:∀a,R a->Ok n S (f a)):∀{t:KasT α},Ok n R t->Ok n S (t.bind f)
 | .ret a,h=>hf a h
 | .ask i j k,h=>⟨h.1,h.2.1,λb=>Ok.bind hf (h.2.2 b)⟩
theorem HC{α:Type}{n:Nat}{cm:Nat->Nat->(Bool->Shared->Prop)->Shared->Prop}{cmp:Nat->Nat->Bool}{s:Shared}(h:∀i j,i<n->j<n->∀Q,Q (cmp i j) s->cm i j Q s){R:α->Prop}{Q:α->Shared->Prop}:∀{t:KasT α},Ok n R t->Q (go cmp t) s->t.kasWp cm Q s
 | .ret _,_,q=>q
 | .ask i j k,o,q=>h i j o.1 o.2.1 _ (HC h (o.2.2 (cmp i j)) q)
section
variable {n:Nat}
def En(n:Nat)(p:Array Nat):Prop:=∀k,p.getD k 0<n
theorem En.perm(h0:0<n)(h:En n p)(e:q.Perm p):En n q:=λk=>by
 by_cases hk:k<q.size
 .have hm:q[k]∈p.toList:=(RV.mp e).mem_iff.mp (by simp)
  obtain ⟨i,hi,e2⟩:=LI.mp hm
  have:=h i
  rw [Cq] at hi
  simp only [FA,hi,hk,dite_true] at this ⊢
  simp at e2
  have e3:q[k]=p[i]:=e2.symm
  show q[k]<n
  rw [e3]
  exact this
 .simp [FA,hk,h0]
theorem XT{p:Array Nat}(h:En n p):∀f m,Ok n (λ_=>True) (kas_asc p f m)
 | 0,m=>trivial
 | f+1,m=>by
  unfold kas_asc
  refine ⟨h _,h _,λb=>?_⟩
  dsimp only
  split
  .trivial
  .exact XT h f (m+1)
theorem SU(h0:0<n):∀f (p:Array Nat) m q,En n p->Ok n (λr=>En n r.1) (HW f p m q)
 | 0,p,m,q,h=>h
 | f+1,p,m,q,h=>by
  unfold HW
  refine ⟨h _,h _,λb=>?_⟩
  dsimp only
  split
  .split
   .exact SU h0 f _ _ _ (h.perm h0 (HY _ _ _ _))
   .exact SU h0 f _ _ _ h
  .refine ⟨h _,h _,λb=>?_⟩
   dsimp only
   split
   .exact h
   .exact SU h0 f _ _ _ h
theorem b0H(h0:0<n)(h:En n p)(a b:Nat):Ok n (λr=>En n r.2) (kas_tail3 a b p):=by
 unfold kas_tail3
 have e:En n (Cm p 0 a):=h.perm h0 (HY _ _ _ _)
 exact (XT e _ _).bind λm _=>(show Ok n (λr:Nat×Array Nat=>En n r.2) (.ret (m,Cm p 0 a)) from e)
theorem b0I(h0:0<n)(h:En n p)(a b:Nat):Ok n (λr=>En n r.2) (Pw a b p):=by
 unfold Pw
 refine (SU h0 _ _ _ _ h).bind λr hr=>?_
 split
 .exact b0H h0 (hr.perm h0 (HY _ _ _ _)) _ _
 .exact b0H h0 hr _ _
theorem b4t(h0:0<n)(h:En n p)(b:Nat):Ok n (λr=>En n r.2) (kas_count b p):=by
 unfold kas_count
 refine (XT h _ _).bind λm _=>?_
 split
 .exact h
 .split
  .refine ⟨h _,h _,λb=>?_⟩
   dsimp only
   split
   .exact h
   .exact b0I h0 (h.perm h0 (HY _ _ _ _)) _ _
  .exact b0I h0 h _ _
theorem Yy{p:Array Nat}(h:En n p)(k:Nat):∀f l r,Ok n (λ_=>True) (Lm p k f l r)
 | 0,l,r=>trivial
 | f+1,l,r=>by
  unfold Lm
  split
  .trivial
  .refine ⟨h _,h _,λb=>?_⟩
   dsimp only
   split
   .exact Yy h k f _ _
   .exact Yy h k f _ _
theorem b54(h0:0<n):∀f (p:Array Nat) k,En n p->Ok n (λ_=>True) (kas_bin f p k)
 | 0,p,k,h=>trivial
 | f+1,p,k,h=>by
  unfold kas_bin
  exact (Yy h k _ _ _).bind λl _=>b54 h0 f _ _ (h.perm h0 (bubble_perm _ _ _))
theorem GI(h0:0<n):Ok n (λ_=>True) (Ph n):=by
 unfold Ph
 have e:En n (WO (nR n)):=λk=>by
  by_cases hk:k<n
  .simp [FA,hk]
  .simp [FA,hk,h0]
 refine (b4t h0 e n).bind λr hr=>?_
 split
 .exact b54 h0 _ _ _ hr
 .trivial
end
end KS
namespace SE
open PySem PyProof.Rows
def wy(l:List Nat):Prop:=l.Pairwise (·<·)
theorem wy.lt{xs:Array Nat}(h:wy xs.toList){a b d:Nat}(V6:a<b)(hb:b<xs.size):xs.getD a d<xs.getD b d:=by
 have ha:a<xs.size:=Ic V6 hb
 have:=(c5c.mp h) a b (by simpa using ha) (by simpa using hb) V6
 simp only [Xp] at this
 simpa [FA,ha,hb] using this
structure Bl(xs:Array Nat)(j r:Nat):Prop where
 le:r<=xs.size
 lo:∀k,k<r->xs.getD k j<j
 hi:∀k,r<=k->k<xs.size->j<=xs.getD k j
theorem XI{xs:Array Nat}{j:Nat}(hr:wy xs.toList):∀(n lo hi:Nat),hi-lo<=n->lo<=hi->hi<=xs.size->(∀k,k<lo->xs.getD k j<j)->(∀k,hi<=k->k<xs.size->j<=xs.getD k j)->Bl xs j (c6t xs j n lo hi)
 | 0,lo,hi,a,b,c,d,e=>by
  have:lo=hi:=by omega
  subst this
  exact ⟨c,d,e⟩
 | n+1,lo,hi,a,b,c,d,e=>by
  unfold c6t
  split
  .rename_i jG
   dsimp only
   split
   .rename_i hm
    refine XI hr n _ _ (by omega) (by omega) c (λk hk=>?_) e
    rcases Rz k ((lo+hi)/2) with q | q
    .exact Ic (hr.lt q (by omega)) hm
    .rw [show k=(lo+hi)/2 by omega];exact hm
   .rename_i hm
    refine XI hr n _ _ (by omega) (by omega) (by omega) d (λk hk hs=>?_)
    rcases Rz ((lo+hi)/2) k with q | q
    .exact Lo (RD (Nat.not_lt.mp hm) (hr.lt q hs))
    .rw [show k=(lo+hi)/2 by omega];exact Nat.not_lt.mp hm
  .have:lo=hi:=by omega
   subst this
   exact ⟨c,d,e⟩
theorem b07{xs:Array Nat}(hr:wy xs.toList)(j:Nat):Bl xs j (E2 xs j):=
 XI hr _ _ _ (dF _) (De _) (dF _) (λ_ h=>absurd h (RJ _)) λk h h'=>absurd h' (by omega)
theorem b4h{xs:Array Nat}(hr:wy xs.toList){j:Nat}(hj:(xs[E2 xs j]?==some j)=false):wy (SetTable.insertAt xs (E2 xs j) j).toList:=by
 have B:=b07 hr j
 generalize E2 xs j=r at B hj
 rw [SetTable.toList_insertAt]
 have e1:xs.toList=xs.toList.take r++xs.toList.drop r:=(c6a r _).symm
 have p:=hr
 unfold wy at p
 rw [e1,c6d] at p
 have lo:∀a∈xs.toList.take r,a<j:=λa ha=>by
  obtain ⟨k,hk,e⟩:=LI.mp ha
  rw [PK] at hk
  rw [List.getElem_take] at e
  have GW:k<xs.size:=by simp at hk;omega
  have:=B.lo k (by omega)
  simp only [Xp] at e
  simp only [FA,GW,dif_pos] at this
  rw [<-e];exact this
 have hi:∀a∈xs.toList.drop r,j<a:=λa ha=>by
  obtain ⟨k,hk,e⟩:=LI.mp ha
  rw [W8] at hk
  rw [List.getElem_drop] at e
  have GW:r+k<xs.size:=by simp at hk;omega
  have h1:=B.hi (r+k) (by omega) GW
  simp only [Xp] at e
  simp only [FA,GW,dif_pos] at h1
  have h1:j<=a:=by rw [<-e];exact h1
  rcases Nat.lt_or_eq_of_le h1 with q | q
  .exact q
  .exfalso
   rcases Xv k with z | z
   .subst z
    rw [LH (by omega:r<xs.size)] at hj
    have e':xs[r]'(by omega)=j:=by rw [q];exact e
    rw [e'] at hj
    simp at hj
   .have:=hr.lt (d:=j) (show r<r+k by omega) GW
    have h2:=B.hi r (dF _) (by omega)
    have h3:xs.getD (r+k) j=a:=by simp only [FA,GW,dif_pos];exact e
    omega
 show WB _ _
 first
 | (refine c6d.mpr ⟨p.1,Lu.mpr ⟨hi,p.2.1⟩,λa ha b hb=>?_⟩
    rcases js.mp hb with q | q
    .rw [q];exact lo a ha
    .exact p.2.2 a ha b q)
structure Tb(bt:Bool)(t:SetTable):Prop where
 led:t.led=true\/bt=true
 Wr:t.dummies=#[]
 rise:t.plain=true->wy t.place.toList
theorem b39(bt:Bool):Tb bt (.fresh 0 0 (!bt)):=⟨by cases bt<;>simp [SetTable.fresh],rfl,λ_=>PB⟩
theorem Tb.Cf{bt:Bool}{t:SetTable}(h:Tb bt t)(n:Nat):Tb bt (t.standIn n):=⟨h.led,rfl,λz=>absurd z (by simp [SetTable.standIn])⟩
theorem Tb.off{bt:Bool}{t:SetTable}(h:Tb bt t):Tb bt { t with plain:=false }:=⟨h.led,h.Wr,λz=>absurd z (by simp)⟩
theorem b3g(j:Nat):SetTable.has #[] j=false:=by simp [SetTable.has]
theorem a7x{t:SetTable}(hd:t.dummies=#[])(f:Nat->Int)(h:Int):∀(n:Nat) (p:c6O) (j:Nat) (q:Option Nat),p.dummy=none->WU t f h n p=some (.empty j q)->q=none/\(t.place[E2 t.place j]?==some j)=false
 | 0,p,j,q,_,e=>by simp [WU] at e
 | n+1,p,j,q,hp,e=>by
  have ad:∀p:c6O,(t.advance p).dummy=p.dummy:=λp=>by unfold SetTable.advance;split<;>rfl
  unfold WU at e
  unfold SetTable.slot at e
  rw [hd,b3g] at e
  dsimp only at e
  by_cases hl:(t.place[E2 t.place p.j]?==some p.j)=true
  .rw [if_pos hl] at e
   dsimp only at e
   split at e
   .simp at e
   .exact a7x hd f h n _ j q (by rw [ad];exact hp) e
  .rw [if_neg hl] at e
   simp only [Lv,if_false,lJ,SetTable.Met.empty.injEq] at e
   obtain ⟨rfl,rfl⟩:=e
   exact ⟨hp,Bool.eq_false_iff.mpr hl⟩
theorem Tb.lay{bt:Bool}{t:SetTable}(T:Tb bt t)(es:Array (Int×Value))(h:Int)(x:Value):Tb bt (layNew t es h x).2.1:=by
 unfold layNew
 cases hf:t.freeSlot h with
 | none=>exact T.Cf _
 | some z =>
  obtain ⟨slot,wd⟩:=z
  dsimp only
  have key:wd=false/\(t.place[E2 t.place slot]?==some slot)=false:=by
   unfold SetTable.freeSlot SetTable.probe at hf
   split at hf
   .rename_i j q e
    obtain ⟨rfl,b⟩:=a7x T.Wr _ _ _ _ j q rfl e
    simp only [W7,Option.isSome_none,lJ,Prod.mk.injEq] at hf
    obtain ⟨rfl,rfl⟩:=hf
    exact ⟨rfl,b⟩
   .cases hf
  show Tb bt ((t.put slot).1.orStandIn _)
  have hp:Tb bt (t.put slot).1:=by
   unfold SetTable.put
   refine ⟨T.led,?_,λz=>?_⟩
   .dsimp only;rw [T.Wr,b3g];rfl
   .exact b4h (T.rise z) key.2
  unfold SetTable.orStandIn
  split
  .exact hp
  .exact hp.Cf _
theorem Tb.Nr{bt:Bool}{t:SetTable}(T:Tb bt t)(es:Array (Int×Value))(n:Nat):Tb bt (relayAll t es n).2.1:=by
 unfold relayAll
 cases hf:t.relaid (es.map (·.1)) n with
 | none=>exact T.Cf _
 | some z =>
  obtain ⟨t',order⟩:=z
  dsimp only
  split
  .show Tb bt t'
   unfold SetTable.relaid SetTable.laid at hf
   simp only [Option.bind_eq_bind,Option.bind_eq_some_iff] at hf
   obtain ⟨ow,_,e⟩:=hf
   simp only [Option.pure_def,lJ,Prod.mk.injEq] at e
   obtain ⟨rfl,_⟩:=e
   refine ⟨T.led,rfl,λ_=>?_⟩
   show wy _
   unfold wy
   dsimp only
   have sub:List.Sublist (((nR (Xu n-1+1)).filterMap λj=>(ow.getD j none).map (j,·)).map (·.1)) (nR (Xu n-1+1)):=by
    generalize nR (Xu n-1+1)=l
    induction l with
    | nil=>exact List.Sublist.slnil
    | cons a l ih =>
     rw [RI]
     cases ow.getD a none with
     | none=>exact ih.cons _
     | some k=>exact ih.cons₂ _
   exact List.Pairwise.sublist sub List.pairwise_lt_range
  .exact T.Cf _
end SE
namespace SE
open PySem PyProof.Rows PySem.Calls
theorem Tn{α β:Type}{f:α->β}{l m:List β}(h:l.Perm m):∀ts:List α,m=ts.map f->∃us:List α,us.Perm ts/\l=us.map f:=by
 induction h with
 | nil=>intro ts e;exact ⟨[],by rw [List.map_eq_nil_iff.mp e.symm],rfl⟩
 | cons a _ ih =>
  intro ts e
  obtain ⟨b,ZU,rfl,rfl,rfl⟩:=Xo.mp e.symm
  obtain ⟨us,p,rfl⟩:=ih ZU rfl
  exact ⟨b::us,p.cons _,rfl⟩
 | swap a b l =>
  intro ts e
  obtain ⟨x,ZU,rfl,rfl,e'⟩:=Xo.mp e.symm
  obtain ⟨y,UG,rfl,rfl,rfl⟩:=Xo.mp e'
  exact ⟨y::x::UG,c6P ..,rfl⟩
 | trans _ _ i1 i2 =>
  intro ts e
  obtain ⟨us,p,e1⟩:=i2 ts e
  obtain ⟨vs,q,e2⟩:=i1 us e1
  exact ⟨vs,q.trans p,e2⟩
section
variable {prog:Program}{w:World}{K:Type}[DecidableEq K]{knd:KeyKind prog w K}{A:Around}{E:Value->Shared->Prop}{s:Shared}
noncomputable def Cs(w:World):Bool:=w.params.followText "set-order"
def El(knd:KeyKind prog w K)(q:K×Int×Value):Prop:=knd.is q.1 q.2.2=true/\q.2.1=knd.hash q.1/\q.2.2.scannable=true
structure Sd(knd:KeyKind prog w K)(es:Array (Int×Value))(t:SetTable)(fE:List (K×Int×Value)):Prop where
 G7:es.toList=fE.map (·.2)
 el:∀q∈fE,El knd q
 fits:t.fits es.size=true
 tb:Tb (Cs w) t
 lt:es.size<scanBound
theorem Sd.of{es:Array (Int×Value)}{t:SetTable}{fE:List (K×Int×Value)}(S:Sd knd es t fE):ElemsOf knd es.toList:=by
 rw [S.G7]
 intro e he
 obtain ⟨q,hq,rfl⟩:=BW.mp he
 obtain ⟨a,b,c⟩:=S.el q hq
 exact ⟨⟨q.1,a,b⟩,c⟩
theorem Sd.len{es:Array (Int×Value)}{t:SetTable}{fE:List (K×Int×Value)}(S:Sd knd es t fE):es.size=fE.length:=by
 rw [<-Cq,S.G7,c6]
def Sa(knd:KeyKind prog w K)(o:Obj)(ks:List K):Prop:=o.ExactSet/\∃es ep t fE,o.data=.set es ep t/\Sd knd es t fE/\ks=fE.map (·.1)
theorem b5V{a:Addr}{o:Obj}{es:Array (Int×Value)}{ep:Nat}{t:SetTable}(ho:s.heap.get? a=some o)(hd:o.data=.set es ep t)(EY:Array (Int×Value))(t':SetTable):
  (s.heap.update a (Rk EY t')).get? a=some { o with data:=.set EY (ep+1) t' }:=by
 have:=R9 (Rk EY t') ho (by rw [putSet_of EY t' hd];rfl)
 rwa [putSet_of EY t' hd] at this
theorem b13{g:Bool->Sem Unit}(hg:∀(b:Bool) (bA:Shared) (Q':Unit->Shared->Prop),Q' () bA->wpAny (model prog w) A (g b) Q' E bA)
  {a:Addr}{o:Obj}{es:Array (Int×Value)}{ep:Nat}{t:SetTable}(ho:s.heap.get? a=some o)(hex:o.ExactSet)(hd:o.data=.set es ep t)
  {wC:Array (Int×Value)}{t2:SetTable}{fE:List (K×Int×Value)}(S:Sd knd wC t2 fE){wd:Bool}{R:Option Bool->Shared->Prop}
  (h:∀h' o' ks',E5 a s.heap h'->h'.get? a=some o'->Sa knd o' ks'->ks'.Perm (fE.map (·.1))->R (some true) { s with heap:=h' }):
  wpAny (model prog w) A (storeSet a wC t2 >>= λ_=>if (!wd&&t2.tooFull)=true then (g (relayAll t2 wC (Kh wC.size)).2.2 >>= λ_=>storeSet a (relayAll t2 wC (Kh wC.size)).1 (relayAll t2 wC (Kh wC.size)).2.1 >>= λ_=>pure (some true)) else pure (some true)) R E s:=by
 refine aY (wpAny_storeSet_of ho hd ?_ (Lp S.lt))
 have o1:=b5V ho hd wC t2
 have sb:=c6j s.heap a (Rk wC t2)
 split
 .have p:=relayAll_perm t2 wC (Kh wC.size)
  have f:=relayAll_fits t2 wC (Kh wC.size)
  have T:=S.tb.Nr wC (Kh wC.size)
  generalize relayAll t2 wC (Kh wC.size)=rl at p f T ⊢
  obtain ⟨Wm,t3,gv⟩:=rl
  dsimp only at p f T ⊢
  obtain ⟨us,pu,eu⟩:=Tn p fE S.G7
  have z:Wm.size=wC.size:=by rw [<-Cq,p.length_eq,Cq]
  have S2:Sd knd Wm t3 us:=⟨eu,λq hq=>S.el q (pu.mem_iff.mp hq),f,T,by rw [z];exact S.lt⟩
  refine aY (hg _ _ _ ?_)
  refine aY (wpAny_storeSet_of o1 rfl ?_ (Lp S2.lt))
  exact cE (h _ _ _ (sb.trans (c6j _ a _)) (b5V (s:={ s with heap:=s.heap.update a (Rk wC t2) }) o1 rfl Wm t3) ⟨hex,_,_,_,us,rfl,S2,rfl⟩ (pu.map _))
 .exact cE (h _ _ _ sb o1 ⟨hex,_,_,_,fE,rfl,S,rfl⟩ (Kg _))
theorem c04{a:Addr}{o:Obj}{ks:List K}{k:K}{x:Value}{Q:Bool->Shared->Prop}(ho:s.heap.get? a=some o)(S:Sa knd o ks)(hk:knd.is k x=true)(hx:x.scannable=true)(room:ks.length+1<scanBound)
  (h:∀b h' o' ks',E5 a s.heap h'->h'.get? a=some o'->Sa knd o' ks'->ks'.Perm (if k∈ks then ks else ks++[k])->Q b { s with heap:=h' }):
  wpAny (model prog w) A (setAddHashed a x (knd.hash k)) Q E s:=by
 obtain ⟨hex,es,ep,t,fE,hd,D,rfl⟩:=S
 rw [c6] at room
 have hel:=D.of
 unfold setAddHashed setAddHashedIn
 refine DJ (aY (PL ho hd D.fits ?_))
 dsimp only
 rw [byScan_of hx D.lt hel,if_pos rfl]
 unfold setAddByScan
 refine aY (aY (Rj (aY (wpAny_setScan_of hk ho hd D.fits hel ?_))))
 have mem:∀e∈es.toList,knd.is k e.2=true->k∈fE.map (·.1):=λe he hp=>by
  rw [D.G7] at he
  obtain ⟨q,hq,rfl⟩:=BW.mp he
  exact BW.mpr ⟨q,hq,knd.inj _ _ _ (D.el q hq).1 hp⟩
 cases hr:List.findIdx? (λe=>knd.is k e.2) es.toList with
 | some j =>
  obtain ⟨hj,hp,_⟩:=List.findIdx?_eq_some_iff_getElem.mp hr
  have hm:=mem _ (AH hj) hp
  refine cE (cE ?_)
  have:=h false s.heap o (fE.map (·.1)) (WW a s.heap) ho ⟨hex,es,ep,t,fE,hd,D,rfl⟩ (by rw [if_pos hm])
  exact this
 | none =>
  have hm:k∉fE.map (·.1):=λz=>by
   obtain ⟨q,hq,e⟩:=BW.mp z
   have:=List.findIdx?_eq_none_iff.mp hr q.2 (by rw [D.G7];exact BW.mpr ⟨q,hq,rfl⟩)
   rw [<-e,(D.el q hq).1] at this
   exact Ke this
  rw [if_neg hm] at h
  have p:=layNew_perm t es (knd.hash k) x
  have f:=layNew_fits t es (knd.hash k) x
  have T:=D.tb.lay es (knd.hash k) x
  dsimp only
  generalize layNew t es (knd.hash k) x=ly at p f T ⊢
  obtain ⟨wC,t1,wd,gv⟩:=ly
  dsimp only at p f T ⊢
  rw [c6w] at p
  obtain ⟨us,pu,eu⟩:=Tn p (fE++[(k,knd.hash k,x)]) (by rw [D.G7,Ak];rfl)
  have z:wC.size=fE.length+1:=by rw [<-Cq,p.length_eq,ma,Cq,D.len];rfl
  have el1:∀q∈us,El knd q:=λq hq=>by
   rcases zK.mp (pu.mem_iff.mp hq) with m | m
   .exact D.el q m
   .rw [AL.mp m];exact ⟨hk,rfl,hx⟩
  have mk:∀t2:SetTable,t2.fits wC.size=true->Tb (Cs w) t2->Sd knd wC t2 us:=λt2 a b=>⟨eu,el1,a,b,by rw [z];exact room⟩
  have fin:∀h' o' ks',E5 a s.heap h'->h'.get? a=some o'->Sa knd o' ks'->ks'.Perm (us.map (·.1))->Q true { s with heap:=h' }:=λh' o' ks' c1 c2 c3 c4 =>
   h true h' o' ks' c1 c2 c3 (c4.trans (by simpa using pu.map (·.1)))
  have hg:∀(b:Bool) (bA:Shared) (Q':Unit->Shared->Prop),Q' () bA->wpAny (model prog w) A (match b with | true=>rule "set.scan.the-table-gave-way" | false=>pure ()) Q' E bA:=λb bA Q' hq=>by
   cases b
   .exact cE hq
   .exact Rj hq
  refine aY (hg _ _ _ ?_)
  split
  .refine aY ?_
   rw [hashByValue_scannable 8 hx]
   refine cE (b13 hg ho hex hd (mk _ ?_ ?_) λh' o' ks' c1 c2 c3 c4=>cE (fin h' o' ks' c1 c2 c3 c4))
   .split
    .exact f
    .exact SetTable.fits_plain_off f
   .split
    .exact T
    .exact T.off
  .refine aY (cE ?_)
   rw [if_pos rfl]
   exact b13 hg ho hex hd (mk _ f T) λh' o' ks' c1 c2 c3 c4=>cE (fin h' o' ks' c1 c2 c3 c4)
end
end SE
namespace SE
open PySem PyProof.Rows PySem.Calls
section
variable {prog:Program}{w:World}{K:Type}[DecidableEq K]{knd:KeyKind prog w K}{A:Around}{E:Value->Shared->Prop}{s:Shared}{R:Result->Shared->Prop}{I:Addr}{fp wr:List Addr}{G:Array GenState->Array GenState->Prop}{n:Nat}{P:Nat->Value->Prop}{St:Nat->Shared->Prop}
structure Kd(val:Nat->K)(i:Nat)(ks:List K):Prop where
 nd:ks.Nodup
 mem:∀x,x∈ks↔∃j,j<i/\val j=x
 len:ks.length<=i
theorem Kd.nil(val:Nat->K):Kd val 0 []:=⟨List.nodup_nil,λx=>⟨λz=>(nomatch z),λ⟨j,hj,_⟩=>absurd hj (RJ _)⟩,dF _⟩
theorem Kd.succ{val:Nat->K}{i:Nat}{ks ks':List K}(D:Kd val i ks)(p:ks'.Perm (if val i∈ks then ks else ks++[val i])):Kd val (i+1) ks':=by
 have m:∀x,(∃j,j<i+1/\val j=x)↔x∈ks\/x=val i:=λx=>by
  rw [D.mem]
  constructor
  .rintro ⟨j,hj,e⟩
   rcases Nat.lt_succ_iff_lt_or_eq.mp hj with q | q
   .exact .inl ⟨j,q,e⟩
   .exact .inr (by rw [<-e,q])
  .rintro (⟨j,hj,e⟩ | e)
   .exact ⟨j,DE hj,e⟩
   .exact ⟨i,AI _,e.symm⟩
 by_cases h:val i∈ks
 .rw [if_pos h] at p
  exact ⟨p.nodup_iff.mpr D.nd,λx=>by rw [m,p.mem_iff];exact ⟨.inl,λz=>z.elim id λe=>e▸h⟩,by rw [p.length_eq];exact Nat.le_succ_of_le D.len⟩
 .rw [if_neg h] at p
  refine ⟨p.nodup_iff.mpr (List.nodup_append.mpr ⟨D.nd,by simp,?_⟩),λx=>by rw [m,p.mem_iff,zK,AL],by rw [p.length_eq,ma];exact Nat.succ_le_succ D.len⟩
  intro a ha b hb
  rw [AL.mp hb]
  exact λe=>h (e▸ha)
theorem Qk(W:WalksS prog w A.in1 I fp wr G n P St)(S:Addr)(Bc:S∉fp)(val:Nat->K)(GQ:∀i v,P i v->knd.is (val i) v=true/\v.scannable=true)(hb:n+1<scanBound):
  ∀(m i:Nat) (s:Shared) (o:Obj) (ks:List K),n-i=m->i<=n->St i s->s.heap.get? S=some o->Sa knd o ks->Kd val i ks ->
   (∀s' o' ks',Moved (S::wr) G s s'->s'.heap.get? S=some o'->Sa knd o' ks'->Kd val n ks'->R (.ok (.ret .none)) s') ->
   codeAny (model prog w) A (.builtin "set.update.loop" ⟨[.ref S,.ref I],[]⟩) R s
 | 0,i,s,o,ks,hm,hi,st,ho,Z,D,hR=>by
  have e:i=n:=by omega
  subst e
  refine H9 c5D ?_
  rw [Kk Xg _]
  show wpAny _ A.in1 (pyNext (.ref I) >>= _) _ _ s
  exact aY (W.done s _ _ st λs' mv=>cE (hR s' o ks (mv.mono λb hb=>nT _ hb) (mv.heap S _ (λh=>Bc (W.sub _ h)) ho) Z D))
 | m+1,i,s,o,ks,hm,hi,st,ho,Z,D,hR=>by
  have jG:i<n:=by omega
  refine H9 c5D ?_
  rw [Kk Xg _]
  show wpAny _ A.in1 (pyNext (.ref I) >>= _) _ _ s
  refine aY (W.item i s _ _ jG st λv s' hP fy mv=>?_)
  obtain ⟨hv,hs⟩:=GQ i v hP
  have xR:=mv.heap S _ (λh=>Bc (W.sub _ h)) ho
  show wpAny _ A.in1 (holding [v] (setAdd S v) >>= _) _ _ s'
  refine aY (DJ ?_)
  unfold setAdd
  refine DJ (aY (knd.pyHash (k:=val i) hv ?_))
  have len:=D.len
  refine c04 (s:={ s' with toks:=s'.toks+1 }) xR Z hv hs (by omega) λb h' o' ks' sb o2 Z' pm=>?_
  refine cE ⟨Kj Xg _,Qk W S Bc val GQ hb m (i+1) _ o' ks' (by omega) jG (W.frame _ s' _ _ fy (He _) λb hb o e=>?_) o2 Z' (D.succ pm) λJf o'' Vs Vl=>?_⟩
  .rw [sb.2 b (λh:b=S=>Bc (by rw [<-h];exact hb))];exact e
  .refine hR Jf o'' Vs (Moved.trans W.gtrans ((mv.mono λb hb=>nT _ hb).then_heap (He _) λb o hb e=>?_) Vl)
   rw [sb.2 b (λh:b=S=>hb (by rw [h];exact pd))];exact e
noncomputable def xE(w:World):Obj:={ cls:=.type "set",dict:=none,data:=.set #[] 0 (.fresh 0 0 (!Cs w)) }
theorem b7n:Sa knd (xE w) []:=⟨⟨rfl,rfl,rfl⟩,#[],0,_,[],rfl,⟨rfl,λ_ z=>(nomatch z),by rfl,b39 _,by decide⟩,rfl⟩
theorem b5b(a:Value){Q₁:Value->Shared->Prop}(h:Q₁ (.ref s.heap.objs.size) { s with heap:=s.heap.push (xE w) }):
  codeAny (model prog w) A (.call (.builtin "set.__new__") ⟨[.type "set",a],[]⟩) (wants Q₁ E) s:=by
 refine codeAny_of_tree ?_
 show wpAny _ A.in1 (checkBuiltinCall "set.__new__" ⟨[.type "set",a],[]⟩ >>= λ_=>again (.builtin "set.__new__" ⟨[.type "set",a],[]⟩)) _ _ s
 refine aY (J6 (F.newCall_set_1 a) (cE ⟨Kj F.plain_set_new _,H9 F.entry_set_new ?_⟩))
 rw [Kk F.plain_set_new _]
 unfold Builtin.«set.__new__» Builtin.Frozenset.newClass
 have C3:=sub_set_self
 obtain ⟨hp,g,d,tk,os⟩:=s
 dsimp only
 wp_walk
 refine Pp (cE ?_)
 dsimp only
 simp only [newObj]
 exact aY (wpAny_alloc (cE (cE h)))
theorem nH{l:Addr}{items:Array Value}{Q:Value->Shared->Prop}(hh:A.handled=none)(hl:s.heap.IsList l items)(val:Nat->K)(GQ:∀(i:Nat) (v:Value),items[i]?=some v->knd.is (val i) v=true/\v.scannable=true)(hb:items.size+1<scanBound)
  (h:∀(h':Heap) (tk:Nat) o ks,(∀b o,b<s.heap.objs.size->s.heap.get? b=some o->h'.get? b=some o)->h'.get? s.heap.objs.size=some o->Sa knd o ks->Kd val items.size ks->Q (.ref s.heap.objs.size) { s with heap:=h',toks:=tk }):
  wpAny (model prog w) A (call (.type "set") [.ref l]) Q E s:=by
 obtain ⟨c,tl,hmro⟩:=Ib.mro
 have a1:=Ib.made
 have a2:=Ib.sub
 have a3:=Ib.notType
 have a4:=Ib.canCreate
 have a5:=F.typeCall_set_1 (.ref l)
 have hS:(s.heap.push (xE w)).get? s.heap.objs.size=some (xE w):=nS _ rfl
 have hT:({ s with heap:=s.heap.push (xE w) }:Shared).TypeIs (.ref s.heap.objs.size) "set":=⟨_,hS,rfl⟩
 refine wpAny_call (codeAny_of_tree (show wpAny _ _ (callAny (.type "set") _) _ _ _ from cE ⟨Code.quiet_builtin _ (by decide +kernel),H9 F.entry_type_call ?_⟩))
 rw [Around.under_plain (weight_type_call_type "set" [.ref l] []) rfl]
 repeat (any_goals (first | assumption | wp_step))
 refine Ie (b5b (.ref l) (E:=E) (Q₁:=λobj bA=>obj=.ref s.heap.objs.size/\bA={ s with heap:=s.heap.push (xE w) }) ⟨rfl,rfl⟩) λr bA hr=>?_
 cases r with
 | error e=>exact hr
 | ok fl =>
  cases fl with
  | ret obj =>
   obtain ⟨rfl,rfl⟩:=hr
   have a6:=Ib.init.lookup
   have a7:=Ib.init.bind (.ref s.heap.objs.size)
   repeat (any_goals (first | assumption | wp_step))
   refine Ie (codeAny_call_builtin (R:=wants (λr g7=>r=.none/\Q (.ref s.heap.objs.size) g7) E) Ib.init.plain F.entry_set_init (check_set_init_1 hT ?_)) λU6 g7 ES=>?_
   .obtain ⟨ol,hol,V2,nl,hdl⟩:=id hl
    have HN:(s.heap.push (xE w)).IsList l items:=hl.push _
    have hTl:({ s with heap:=s.heap.push (xE w) }:Shared).TypeIs (.ref l) "list":=HN.typeIs
    have ET:l<s.heap.objs.size:=eY hol
    have n1:=F.sub_list_set
    have n2:=F.sub_list_frozenset
    have n3:(Hc "list" == Hc "dict")=false:=by decide
    unfold Builtin.«set.__init__» noKeywords Builtin.Frozenset.updateFrom
    generalize hPI:pyIter=PI
    wp_walk
    subst hPI
    refine RO HN (aY (wpAny_runValue ?_))
    have su:l≠(s.heap.push (xE w)).objs.size:=by rw [zo];exact g0 (DE ET)
    have Bc:s.heap.objs.size∉[(s.heap.push (xE w)).objs.size,l]:=by
     rw [zo];simp only [js,DD,or_false,not_or]
     exact ⟨g0 (AI _),J5 ET⟩
    refine Qk (knd:=knd) ((WJ (by simp [hh]) _ l su items).toS) s.heap.objs.size Bc val GQ hb (items.size-0) 0 _ (xE w) [] (by omega) (De _) ⟨⟨_,nS _ rfl,rfl,rfl⟩,(HN.push _)⟩ (ft _ hS) b7n (Kd.nil val) λs' o' ks' hm xR Z D=>?_
    obtain ⟨h',g',d',A8,NL⟩:=s'
    have e1:g'=s.gens:=hm.gens
    have e2:d'=s.drawn:=hm.drawn
    have e3:NL=s.os:=hm.os
    subst e1;subst e2;subst e3
    show wpAny _ _ (pure _ >>= _) _ _ _
    refine cE (show wpAny _ _ (ret vX) _ _ _ from cE ⟨rfl,h h' A8 o' ks' (λb o hb e=>hm.heap b o ?_ (ft _ (ft _ e))) xR Z D⟩)
    simp only [js,DD,or_false,not_or]
    exact ⟨g0 hb,g0 (by rw [zo];exact DE hb)⟩
   .cases U6 with
    | error e=>exact ES
    | ok OU =>
     cases OU with
     | ret r =>
      obtain ⟨rfl,hq⟩:=ES
      repeat (any_goals (first | assumption | wp_step))
     | _=>exact ES.elim
  | _=>exact hr.elim
end
end SE
namespace SE
open PySem PyProof.Rows PySem.Calls
section
variable {prog:Program}{w:World}{K:Type}[DecidableEq K]{knd:KeyKind prog w K}{A:Around}{E:Value->Shared->Prop}{s:Shared}
noncomputable def nx(w:World)(a:Addr)(es:Array (Int×Value))(ep:Nat)(t:SetTable)(slot given:Nat):Option (Value×Nat):=
 if Cs w=true then ((pickOrder (w.params.setOrder a ep) es)[given]?).map λe=>(e.2,slot)
 else match es[E2 t.place slot]?,t.place[E2 t.place slot]? with
  | some (_,x),some j=>some (x,j+1)
  | _,_=>none
theorem b2I{a:Addr}{o:Obj}{es:Array (Int×Value)}{ep:Nat}{t:SetTable}{fE:List (K×Int×Value)}(ho:s.heap.get? a=some o)(hd:o.data=.set es ep t)(S:Sd knd es t fE)(BO:Cs w=false->t.plain=true\/es.size<=1){slot given:Nat}
  {Q:Option (Value×Nat)->Shared->Prop}(h:Q (nx w a es ep t slot given) s):wpAny (model prog w) A (setNext a slot given ep) Q E s:=by
 unfold setNext
 refine aY (PL ho hd S.fits ?_)
 dsimp only
 unfold setsByText
 refine aY (aY (Pp (cE ?_)))
 unfold nx at h
 by_cases hb:Cs w=true
 .rw [if_pos hb] at h
  have GY:(model prog w).w.params.followText "set-order" = true:=hb
  dsimp only
  rw [if_pos GY]
  rw [if_neg (by simp)]
  refine aY ?_
  unfold setWalk setsByText
  refine aY (PL ho hd S.fits ?_)
  dsimp only
  refine aY (aY (Pp (cE ?_)))
  dsimp only
  rw [if_pos GY]
  refine aY (Pp (cE (cE h)))
 .rw [if_neg hb] at h
  have GY:¬((model prog w).w.params.followText "set-order" = true):=hb
  dsimp only
  rw [if_neg GY]
  have hl:t.led=true:=S.tb.led.resolve_right hb
  refine Pl (λhz=>?_) (λ_=>?_)
  .exfalso
   have hz:(!t.plain&&decide (es.size>1))=true:=hz
   simp only [FC,Bool.not_eq_true',decide_eq_true_eq] at hz
   rcases BO (by simpa using hb) with q | q
   .rw [q] at hz;exact Ke hz.1
   .omega
  .show wpAny _ _ ((if (!t.led&&!es.isEmpty)=true then unsupported "set:maker-not-led" else pure ()) >>= _) _ _ _
   rw [hl]
   simp only [Bool.not_true,Bool.false_and,Lv,if_false]
   exact aY (cE (cE h))
noncomputable def Fg(first:Value)(i:Nat)(a:Addr)(n ep:Nat):Obj:={ cls:=.type "set_iterator",data:=.fields #[first,rawInt i,.ref a,rawInt n,rawInt ep] }
theorem slot_next:Slot "set_iterator" "__next__" "set_iterator.__next__":=
 .of (owner:="set_iterator") (n:="__next__") (by rw [WH,Xs];kernel_rfl) (by decide +kernel) (by decide +kernel) (by decide +kernel)
  (by first | exact .inl (by decide +kernel) | exact .inr (by decide +kernel)) (by rw [isSubtype_type];kernel_rfl)
theorem Y8:entryFor table "set_iterator.__next__" = some Builtin.«set_iterator.__next__»:=entryFor_of_tree (by kernel_rfl)
theorem b53:Manifest.owners.lookup (String.ofList ['r','o','t','a','r','e','t','i','_','t','e','s'].reverse)=some Manifest.sig_set_iterator:=by kernel_rfl
theorem Yw(a:Value):argsOk "set_iterator.__next__" ⟨[a],[]⟩:=by
 unfold argsOk;rw [signature?_of (id:="set_iterator.__next__") (n:=['_','_','t','x','e','n','_','_']) (o:=['r','o','t','a','r','e','t','i','_','t','e','s']) (by kernel_rfl) b53];kernel_rfl
theorem b91{I a:Addr}{i slot:Nat}{o:Obj}{es:Array (Int×Value)}{ep:Nat}{t:SetTable}{fE:List (K×Int×Value)}{Q:Option Value->Shared->Prop}(hI:s.heap.get? I=some (Fg (rawInt slot) i a es.size ep))(ho:s.heap.get? a=some o)(hd:o.data=.set es ep t)(S:Sd knd es t fE)(BO:Cs w=false->t.plain=true\/es.size<=1)
  {x:Value}{j:Nat}(hx:nx w a es ep t slot i=some (x,j))(hQ:∀h',h'.get? I=some (Fg (rawInt j) (i+1) a es.size ep)->E5 I s.heap h'->Q (some x) { s with heap:=h' }):wpAny (model prog w) A (pyNext (.ref I)) Q E s:=by
 have hT:s.TypeIs (.ref I) "set_iterator":=⟨_,hI,rfl⟩
 unfold pyNext
 refine aY (Ry (Si (name:=Df "__next__") hT slot_next (Ij slot_next hT Y8 ?_ (Yw _))))
 unfold Builtin.«set_iterator.__next__»
 refine aY (J6 (a:=(e8 I,[])) rfl ?_)
 dsimp only
 refine aY (Rw hI rfl ?_)
 show wpAny _ _ (setEntries a >>= _) _ _ _
 refine aY (PH ho hd S.fits ?_)
 rw [if_neg (by simp)]
 show wpAny _ _ (setNext a (slot:Int).toNat (i:Int).toNat (ep:Int).toNat >>= _) _ _ _
 simp only [Lr]
 refine aY (b2I ho hd S BO ?_)
 rw [hx]
 dsimp only
 refine aY (Ls hI (by simp) λh1 e1 b1=>?_)
 refine aY (Ls e1 (by simp) λh2 e2 b2=>?_)
 exact cE ⟨x,rfl,cE (hQ _ (by rw [e2];rfl) (b1.trans b2))⟩
end
end SE
namespace SE
open PySem PyProof.Rows PySem.Calls
section
variable {prog:Program}{w:World}{K:Type}[DecidableEq K]{knd:KeyKind prog w K}{A:Around}{E:Value->Shared->Prop}{s:Shared}
theorem a8s{I:Addr}{Q:Option Value->Shared->Prop}(hT:s.TypeIs (.ref I) "set_iterator")(hm:wpAny (model prog w) A.in1 (Builtin.«set_iterator.__next__» ⟨[.ref I],[]⟩) (λ_ _=>False) (λe s'=>∃h',s'={ s with heap:=h' }/\Rq I s.heap h'/\s'.TypeIs e "StopIteration") s)
  (hQ:∀h',Rq I s.heap h'->Q none { s with heap:=h' }):wpAny (model prog w) A (pyNext (.ref I)) Q E s:=by
 unfold pyNext
 refine aY (Ry (Si (name:=Df "__next__") hT slot_next (Ij slot_next hT Y8 (z8 hm (λ_ _ z=>z.elim) λe s' z=>?_) (Yw _))))
 obtain ⟨h',rfl,k,t⟩:=z
 exact aY (wpAny_isInstance (T:="StopIteration") (b:=true) t isSubtype_stop (cE (hQ _ k)))
theorem b9u{Q:PySem.Fin->Shared->Prop}(hh:A.handled=none)(h:∀e h',(∀b o,s.heap.get? b=some o->h'.get? b=some o)->({ s with heap:=h' }:Shared).TypeIs e "StopIteration" -> E e { s with heap:=h' }):
  wpAny (model prog w) A (newExc (.type "StopIteration") [] >>= λe=>raiseNew e) Q E s:=by
 refine aY ?_
 simp only [newExc,newTuple]
 refine aY (FD ?_ (by size_fits))
 refine aY (m:=firstArgMember _ _) (J6 (a:=vX) (by first | rfl | (simp only [firstArgMember];rfl)) (FD ?_ (by size_fits)))
 simp only [raiseNew]
 refine aY (wpAny_handled ?_)
 rw [hh]
 refine aY (cE (wpAny_throw ?_))
 refine h _ _ (λb o e=>ft _ (ft _ e)) ?_
 exact ⟨_,nS _ rfl,rfl⟩
theorem b57{I a:Addr}{i slot:Nat}{o:Obj}{es:Array (Int×Value)}{ep:Nat}{t:SetTable}{fE:List (K×Int×Value)}{Q:Option Value->Shared->Prop}(hh:A.handled=none)(hI:s.heap.get? I=some (Fg (rawInt slot) i a es.size ep))(ho:s.heap.get? a=some o)(hd:o.data=.set es ep t)(S:Sd knd es t fE)(BO:Cs w=false->t.plain=true\/es.size<=1)
  (hx:nx w a es ep t slot i=none)(hQ:∀h',Rq I s.heap h'->Q none { s with heap:=h' }):wpAny (model prog w) A (pyNext (.ref I)) Q E s:=by
 refine a8s ⟨_,hI,rfl⟩ ?_ hQ
 unfold Builtin.«set_iterator.__next__»
 refine aY (J6 (a:=(e8 I,[])) rfl ?_)
 dsimp only
 refine aY (Rw hI rfl ?_)
 show wpAny _ _ (setEntries a >>= _) _ _ _
 refine aY (PH ho hd S.fits ?_)
 rw [if_neg (by simp)]
 show wpAny _ _ (setNext a (slot:Int).toNat (i:Int).toNat (ep:Int).toNat >>= _) _ _ _
 simp only [Lr]
 refine aY (b2I ho hd S BO ?_)
 rw [hx]
 dsimp only
 refine aY (Ls hI (by simp) λh1 e1 b1=>?_)
 exact b9u (by simp [hh]) λe h' k t=>⟨h',rfl,λb o hb eo=>k b o (b1.extBut b o hb eo),t⟩
theorem NV{I a tp:Addr}{i:Nat}{o ot:Obj}{es:Array (Int×Value)}{ep nt:Nat}{t:SetTable}{fE:List (K×Int×Value)}{ps:List Nat}{Q:Option Value->Shared->Prop}(hI:s.heap.get? I=some (Fg (.ref tp) i a es.size ep))(ho:s.heap.get? a=some o)(hd:o.data=.set es ep t)(S:Sd knd es t fE)
  (ht:s.heap.get? tp=some ot)(Le:ot.data=.seq (ps.map λ(p:Nat)=>rawInt p).toArray nt){x:Value}{p:Nat}{hv:Int}(hp:ps[i]?=some p)(hx:es[p]?=some (hv,x))(hQ:∀h',h'.get? I=some (Fg (.ref tp) (i+1) a es.size ep)->E5 I s.heap h'->Q (some x) { s with heap:=h' }):wpAny (model prog w) A (pyNext (.ref I)) Q E s:=by
 have hT:s.TypeIs (.ref I) "set_iterator":=⟨_,hI,rfl⟩
 unfold pyNext
 refine aY (Ry (Si (name:=Df "__next__") hT slot_next (Ij slot_next hT Y8 ?_ (Yw _))))
 unfold Builtin.«set_iterator.__next__»
 refine aY (J6 (a:=(e8 I,[])) rfl ?_)
 dsimp only
 refine aY (Rw hI rfl ?_)
 show wpAny _ _ (setEntries a >>= _) _ _ _
 refine aY (PH ho hd S.fits ?_)
 rw [if_neg (by simp)]
 show wpAny _ _ (seqItems? (.ref tp) >>= _) _ _ _
 refine aY (wpAny_seqItems ht Le ?_)
 dsimp only
 have e1:((ps.map λ(p:Nat)=>rawInt p).toArray)[((i:Int)).toNat]?=some (rawInt p):=by rw [Lr,RZ,zq,hp];rfl
 rw [e1]
 show wpAny _ _ (setNextDrawn a (p:Int).toNat (ep:Int).toNat >>= _) _ _ _
 simp only [Lr]
 unfold setNextDrawn
 refine aY (aY (PL ho hd S.fits ?_))
 dsimp only
 rw [if_neg (by simp),hx]
 refine cE (aY (Ls hI (by simp) λh2 e2 b2=>?_))
 exact cE ⟨x,rfl,cE (hQ _ (by rw [e2];rfl) b2)⟩
theorem b92{I a tp:Addr}{i:Nat}{o ot:Obj}{es:Array (Int×Value)}{ep nt:Nat}{t:SetTable}{fE:List (K×Int×Value)}{ps:List Nat}{Q:Option Value->Shared->Prop}(hh:A.handled=none)(hI:s.heap.get? I=some (Fg (.ref tp) i a es.size ep))(ho:s.heap.get? a=some o)(hd:o.data=.set es ep t)(S:Sd knd es t fE)
  (ht:s.heap.get? tp=some ot)(Le:ot.data=.seq (ps.map λ(p:Nat)=>rawInt p).toArray nt)(hp:ps[i]?=none)(hQ:∀h',Rq I s.heap h'->Q none { s with heap:=h' }):wpAny (model prog w) A (pyNext (.ref I)) Q E s:=by
 refine a8s ⟨_,hI,rfl⟩ ?_ hQ
 unfold Builtin.«set_iterator.__next__»
 refine aY (J6 (a:=(e8 I,[])) rfl ?_)
 dsimp only
 refine aY (Rw hI rfl ?_)
 show wpAny _ _ (setEntries a >>= _) _ _ _
 refine aY (PH ho hd S.fits ?_)
 rw [if_neg (by simp)]
 show wpAny _ _ (seqItems? (.ref tp) >>= _) _ _ _
 refine aY (wpAny_seqItems ht Le ?_)
 dsimp only
 have e1:((ps.map λ(p:Nat)=>rawInt p).toArray)[((i:Int)).toNat]?=none:=by rw [Lr,RZ,zq,hp];rfl
 rw [e1]
 refine aY (Ls hI (by simp) λh1 e1 b1=>?_)
 refine aY (Ls e1 (by simp) λh2 e2 b2=>?_)
 exact b9u (by simp [hh]) λe h' k t=>⟨h',rfl,λb o hb eo=>k b o ((b1.trans b2).extBut b o hb eo),t⟩
theorem b2a:Slot "set_iterator" "__iter__" "set_iterator.__iter__":=
 .of (owner:="set_iterator") (n:="__iter__") (by rw [WH,Xs];kernel_rfl) (by decide +kernel) (by decide +kernel) (by decide +kernel)
  (by first | exact .inl (by decide +kernel) | exact .inr (by decide +kernel)) (by rw [isSubtype_type];kernel_rfl)
theorem b8k(a:Value):argsOk "set_iterator.__iter__" ⟨[a],[]⟩:=by
 unfold argsOk;rw [signature?_of (id:="set_iterator.__iter__") (n:=['_','_','r','e','t','i','_','_']) (o:=['r','o','t','a','r','e','t','i','_','t','e','s']) (by kernel_rfl) b53];kernel_rfl
theorem b40:entryFor table "set_iterator.__iter__" = some Builtin.«dict_keyiterator.__iter__»:=
 WE (id':="dict_keyiterator.__iter__") (by kernel_rfl) (by first | rfl | decide +kernel | (unfold String.splitOn;simp +decide [c6x])) (by decide +kernel) (by kernel_rfl)
theorem b4Z:entryFor table "set.__iter__" = some Builtin.«frozenset.__iter__»:=
 WE (id':="frozenset.__iter__") (by kernel_rfl) (by first | rfl | decide +kernel | (unfold String.splitOn;simp +decide [c6x])) (by decide +kernel) (by kernel_rfl)
theorem Yi{I:Addr}{Q:Value->Shared->Prop}(hT:s.TypeIs (.ref I) "set_iterator")(h:Q (.ref I) s):wpAny (model prog w) A (pyIter (.ref I)) Q E s:=by
 refine WT hT b2a (Ij b2a hT b40 ?_ (b8k _))
 show wpAny _ _ (ret (.ref I)) _ _ s
 exact cE ⟨_,rfl,"set_iterator",_,hT,slot_next.lookup,h⟩
end
end SE
namespace SE
open PySem PyProof.Rows PySem.Calls
theorem Y7{α:Type}:∀{l:List α} {i:Nat} (h:i<l.length),(l[i]::l.eraseIdx i).Perm l
 | _::_,0,_=>Kg _
 | x::l,i+1,h=>by
  have h':i<l.length:=Nat.lt_of_succ_lt_succ h
  show (l[i]::x::l.eraseIdx i).Perm (x::l)
  exact (c6P x _ _).trans ((Y7 h').cons x)
theorem a8z{α:Type}(next:Nat->Nat):∀(n k:Nat) (left:List α) (out:Array α),n=left.length->(pickOrder.go next n k left out).toList.Perm (out.toList++left)
 | 0,k,left,out,e=>by
  rw [Sg.mp e.symm,E4]
  exact Kg _
 | n+1,k,left,out,e=>by
  unfold pickOrder.go
  have hp:0<left.length:=by omega
  have hi:next k%left.length<left.length:=Nat.mod_lt _ hp
  rw [md hi]
  dsimp only
  refine (a8z next n (k+1) _ _ (by rw [c44 hi];omega)).trans ?_
  rw [c6w,Ly]
  refine List.Perm.append_left _ ?_
  exact Y7 hi
section
variable {prog:Program}{w:World}{K:Type}[DecidableEq K]{knd:KeyKind prog w K}{A:Around}{E:Value->Shared->Prop}{s:Shared}
theorem b6z{src:Source}{n:Nat}{Q:Nat->Shared->Prop}(hn:n≠0)(h:∀i d',i<n->Q i { s with drawn:=d' }):wpAny (model prog w) A (choose src n) Q E s:=λΓ p hΓ=>by
 unfold choose
 rw [Sem.wp_choose]
 exact ⟨hn,h _ _ (Nat.mod_lt _ (Nat.pos_of_ne_zero hn))⟩
theorem b1W{α:Type}:∀(n:Nat) (xs:List α) (s:Shared) (Q:List α->Shared->Prop),n=xs.length->(∀ys d',ys.Perm xs->Q ys { s with drawn:=d' })->wpAny (model prog w) A (drawOrder n xs) Q E s
 | 0,xs,s,Q,e,h=>by
  unfold drawOrder
  rw [Sg.mp e.symm] at h
  exact cE (h [] s.drawn (Kg _))
 | n+1,[],s,Q,e,h=>by simp at e
 | n+1,x::xs,s,Q,e,h=>by
  unfold drawOrder
  refine aY (b6z (by simp) λi d' hi=>?_)
  rw [md hi]
  dsimp only
  refine aY (b1W n _ _ _ (by rw [c44 hi,<-e];rfl) λys d'' p=>cE ?_)
  exact h _ d'' ((p.cons _).trans (Y7 hi))
def Pv(us:List (K×Int×Value))(i:Nat)(v:Value):Prop:=(us[i]?).map (·.2.2)=some v
theorem SD{es:Array (Int×Value)}{us:List (K×Int×Value)}(e:es.toList=us.map (·.2))(i:Nat):es[i]?=(us[i]?).map (·.2):=by
 rw [<-R8,e,zq]
theorem MN{I a:Addr}{o:Obj}{es:Array (Int×Value)}{ep:Nat}{t:SetTable}{fE:List (K×Int×Value)}(hh:A.handled=none)(su:a≠I)(hd:o.data=.set es ep t)(S:Sd knd es t fE)(hb:Cs w=false)(BO:t.plain=true\/es.size<=1):
  Walks prog w A I [I,a] [I] fE.length (Pv fE) (λi h=>h.get? I=some (Fg (rawInt ((if i=0 then 0 else t.place.getD (i-1) 0+1:Nat))) i a es.size ep)/\h.get? a=some o):=by
 have hz:t.place.size=es.size:=by
  have:=S.fits
  simp only [SetTable.fits,FC,beq_iff_eq] at this
  exact this.1
 have hr:wy t.place.toList:=by
  rcases BO with q | q
  .exact S.tb.rise q
  .unfold wy
   have:t.place.toList.length<=1:=by rw [Cq,hz];exact q
   generalize t.place.toList=l at this
   cases l with
   | nil=>exact PB
   | cons x l=>cases l with
    | nil=>exact Xf _ _
    | cons y l=>simp at this
 have key:∀i,i<=es.size->E2 t.place (if i=0 then 0 else t.place.getD (i-1) 0+1)=i:=λi hi=>by
  have B:=b07 hr (if i=0 then 0 else t.place.getD (i-1) 0+1)
  generalize E2 t.place (if i=0 then 0 else t.place.getD (i-1) 0+1)=r at B
  have le:=B.le
  by_cases Q6:i=0
  .subst Q6
   rw [if_pos rfl] at B
   rcases Xv r with q | q
   .exact q
   .exact absurd (B.lo 0 q) (RJ _)
  .rw [if_neg Q6] at B
   have gd:∀k d d',k<es.size->t.place.getD k d=t.place.getD k d':=λk d d' hk=>by simp [FA,hz,hk]
   rcases Nat.lt_trichotomy r i with q | q | q
   .have:=B.hi r (dF _) (by omega)
    exfalso
    rw [gd r _ 0 (by omega)] at this
    rcases Rz r (i-1) with z | z
    .have:=hr.lt (d:=0) z (by omega);omega
    .rw [show r=i-1 by omega] at this;omega
   .exact q
   .have:=B.lo i q
    rw [gd i _ 0 (by omega)] at this
    have:=hr.lt (d:=0) (show i-1<i by omega) (by omega)
    omega
 have len:=S.len
 have nxt:∀i,i<es.size->nx w a es ep t (if i=0 then 0 else t.place.getD (i-1) 0+1) i=(fE[i]?).map λq=>(q.2.2,t.place.getD i 0+1):=λi hi=>by
  unfold nx
  rw [if_neg (by simp [hb]),key i (Lo hi),SD S.G7,md (by omega),LH (by omega)]
  simp [FA,hz,hi]
 exact {
  sub:=λb hb=>by simp at hb;simp [hb]
  frame:=λi h h' st k=>⟨k I (by simp) _ st.1,k a (by simp) _ st.2⟩
  item:=λi s Q E hi st hQ=>by
   have xT:i<es.size:=by omega
   have e:=nxt i xT
   rw [md hi] at e
   refine b91 st.1 st.2 hd S (λ_=>BO) e λh' g sb=>hQ _ h' s.toks (by unfold Pv;rw [md hi];rfl) ⟨?_,(sb.2 a su).trans st.2⟩ λb o hb eo=>sb.extBut b o (λh=>hb (by simp [h])) eo
   rw [g,if_neg (Nat.succ_ne_zero i)];rfl
  done:=λs Q E st hQ=>by
   refine b57 hh st.1 st.2 hd S (λ_=>BO) ?_ λh' g=>hQ h' s.toks λb o hb eo=>g b o (λh=>hb (by simp [h])) eo
   unfold nx
   rw [if_neg (by simp [hb]),<-len,key es.size (dF _),Array.getElem?_eq_none (dF _)]
  self:=λi s Q E st hQ=>Yi ⟨_,st.1,rfl⟩ hQ }
theorem MM{I a:Addr}{o:Obj}{es:Array (Int×Value)}{ep:Nat}{t:SetTable}{fE us:List (K×Int×Value)}(hh:A.handled=none)(su:a≠I)(hd:o.data=.set es ep t)(S:Sd knd es t fE)(hb:Cs w=true)(hu:(pickOrder (w.params.setOrder a ep) es).toList=us.map (·.2)):
  Walks prog w A I [I,a] [I] us.length (Pv us) (λi h=>h.get? I=some (Fg (rawInt (0:Nat)) i a es.size ep)/\h.get? a=some o) where
 sub:=λb hb=>by simp at hb;simp [hb]
 frame:=λi h h' st k=>⟨k I (by simp) _ st.1,k a (by simp) _ st.2⟩
 item:=λi s Q E hi st hQ=>by
  refine b91 st.1 st.2 hd S (λz=>by rw [hb] at z;exact Ke z) (x:=(us[i]).2.2) (j:=0) ?_ λh' g sb=>hQ _ h' s.toks (by unfold Pv;rw [md hi];rfl) ⟨g,(sb.2 a su).trans st.2⟩ λb o hb eo=>sb.extBut b o (λh=>hb (by simp [h])) eo
  unfold nx
  rw [if_pos hb,SD hu,md hi];rfl
 done:=λs Q E st hQ=>by
  refine b57 hh st.1 st.2 hd S (λz=>by rw [hb] at z;exact Ke z) ?_ λh' g=>hQ h' s.toks λb o hb eo=>g b o (λh=>hb (by simp [h])) eo
  unfold nx
  rw [if_pos hb,SD hu,Ii (dF _)];rfl
 self:=λi s Q E st hQ=>Yi ⟨_,st.1,rfl⟩ hQ
theorem DT{I a tp:Addr}{o ot:Obj}{es:Array (Int×Value)}{ep nt:Nat}{t:SetTable}{fE:List (K×Int×Value)}{ps:List Nat}(hh:A.handled=none)(su:a≠I)(hnt:tp≠I)(hd:o.data=.set es ep t)(S:Sd knd es t fE)(Le:ot.data=.seq (ps.map λ(p:Nat)=>rawInt p).toArray nt)(hp:∀p∈ps,p<es.size):
  Walks prog w A I [I,a,tp] [I] ps.length (λi v=>((ps[i]?).bind λp=>es[p]?).map (·.2)=some v) (λi h=>h.get? I=some (Fg (.ref tp) i a es.size ep)/\h.get? a=some o/\h.get? tp=some ot) where
 sub:=λb hb=>by simp at hb;simp [hb]
 frame:=λi h h' st k=>⟨k I (by simp) _ st.1,k a (by simp) _ st.2.1,k tp (by simp) _ st.2.2⟩
 item:=λi s Q E hi st hQ=>by
  have h1:=hp _ (AH hi)
  refine NV st.1 st.2.1 hd S st.2.2 Le (md hi) (LH h1) λh' g sb=>hQ _ h' s.toks ?_ ⟨g,(sb.2 a su).trans st.2.1,(sb.2 tp hnt).trans st.2.2⟩ λb o hb eo=>sb.extBut b o (λh=>hb (by simp [h])) eo
  rw [md hi,LA,LH h1];rfl
 done:=λs Q E st hQ=>b92 hh st.1 st.2.1 hd S st.2.2 Le (Ii (dF _)) λh' g=>hQ h' s.toks λb o hb eo=>g b o (λh=>hb (by simp [h])) eo
 self:=λi s Q E st hQ=>Yi ⟨_,st.1,rfl⟩ hQ
end
end SE
namespace SE
open PySem PyProof.Rows PySem.Calls
theorem c0C{α β:Type}{f:α->Option β}:∀(l:List α),(∀x∈l,(f x).isSome=true)->∀i:Nat,(l.filterMap f)[i]?=(l[i]?).bind f
 | [],_,i=>rfl
 | x::l,h,i=>by
  obtain ⟨y,e⟩:=Xl.mp (h x pd)
  rw [c5o e]
  cases i with
  | zero=>simp [e]
  | succ i=>simpa using c0C l (λx hx=>h x (nT _ hx)) i
theorem b6h{α β:Type}{f:α->Option β}:∀(l:List α),(∀x∈l,(f x).isSome=true)->(l.filterMap f).length=l.length
 | [],_=>rfl
 | x::l,h=>by
  obtain ⟨y,e⟩:=Xl.mp (h x pd)
  rw [c5o e,lI,lI,b6h l λx hx=>h x (nT _ hx)]
section
variable {prog:Program}{w:World}{K:Type}[DecidableEq K]{knd:KeyKind prog w K}{A A2:Around}{E:Value->Shared->Prop}{s:Shared}
theorem b4G{a:Addr}{o:Obj}{es:Array (Int×Value)}{ep:Nat}{t:SetTable}{fE:List (K×Int×Value)}{Q:Value->Shared->Prop}(hh:A2.handled=none)(ho:s.heap.get? a=some o)(hex:o.ExactSet)(hd:o.data=.set es ep t)(S:Sd knd es t fE)
  (h:∀(h':Heap) d' (I:Addr) (fp:List Addr) St us,s.heap.objs.size<=I->(∀b o,s.heap.get? b=some o->h'.get? b=some o)->us.Perm fE->Walks prog w A2 I fp [I] us.length (Pv us) St->St 0 h'->(∀b∈fp,b=a\/s.heap.objs.size<=b)->(∀b,b=I\/b∈fp->b<h'.objs.size)->Q (.ref I) { s with heap:=h',drawn:=d' }):
  wpAny (model prog w) A (pyIter (.ref a)) Q E s:=by
 have hT:s.TypeIs (.ref a) "set":=⟨o,ho,hex.1⟩
 have ha:a<s.heap.objs.size:=eY ho
 refine WT hT F.slot_set_iter (Ij F.slot_set_iter hT b4Z ?_ (F.args_set_iter_1 _))
 unfold Builtin.«frozenset.__iter__»
 refine aY (m:=Builtin.Frozenset.slot0 "__iter__" _) (J6 (a:=a) rfl ?_)
 refine aY ?_
 unfold Builtin.Frozenset.sizeOf
 refine aY (PH ho hd S.fits (cE ?_))
 refine aY ?_
 unfold setDrawn setsByText
 refine aY (PL ho hd S.fits ?_)
 dsimp only
 refine aY (aY (Pp (cE (cE ?_))))
 have zI:∀(c:Bool),c=false->(∀us St,us.Perm fE->Walks prog w A2 s.heap.objs.size [s.heap.objs.size,a] [s.heap.objs.size] us.length (Pv us) St->St 0 (s.heap.push (Fg (rawInt (0:Nat)) 0 a es.size ep))->Q (.ref s.heap.objs.size) { s with heap:=s.heap.push (Fg (rawInt (0:Nat)) 0 a es.size ep) }):=λc _ us St pu W st =>
  h _ s.drawn _ _ St us (dF _) (λb o e=>ft _ e) pu W st (λb hb=>by
   simp only [js,DD,or_false] at hb
   rcases hb with q | q
   .exact .inr (by rw [q];exact dF _)
   .exact .inl q) λb hb=>by
    rw [zo]
    simp only [js,DD,or_false] at hb
    rcases hb with q | q | q
    .rw [q];exact AI _
    .rw [q];exact AI _
    .rw [q];exact DE ha
 refine Pl (λhz=>?_) (λhz=>?_)
 .have hz:(!(Cs w)&&(!t.plain&&decide (es.size>1)))=true:=hz
  simp only [FC,Bool.not_eq_true',decide_eq_true_eq] at hz
  refine aY (b1W _ _ _ _ (by simp) λps d' pp=>?_)
  have jG:∀p∈ps,p<es.size:=λp hp=>E3.mp (pp.mem_iff.mp hp)
  have hsz:(ps.map λ(p:Nat)=>rawInt p).length<=sizeLine:=by
   rw [c6,pp.length_eq,Lq]
   exact Lp S.lt
  refine aY (wpAny_newTuple ?_ hsz)
  have len:=S.len
  refine aY (m:=setEpoch a) (wpAny_setEpoch_of (ft _ ho) hd S.fits ?_)
  refine aY (FD (cE ⟨_,rfl,"set_iterator",_,⟨_,nS _ rfl,rfl⟩,slot_next.lookup,?_⟩) (by size_fits))
  have ZY:∀p∈ps,(fE[p]?).isSome=true:=λp hp=>by
   rw [md (by have:=jG p hp;omega)];rfl
  have W:=DT (prog:=prog) (w:=w) (A:=A2) (I:=(s.heap.push { cls:=.type "tuple",data:=.seq (ps.map λ(p:Nat)=>rawInt p).toArray }).objs.size) (tp:=s.heap.objs.size) (ot:={ cls:=.type "tuple",data:=.seq (ps.map λ(p:Nat)=>rawInt p).toArray }) (nt:=0) (ps:=ps) hh (by rw [zo];exact g0 (DE ha)) (by rw [zo];exact g0 (AI _)) hd S rfl jG
  have eP:(λ(i:Nat) (v:Value)=>((ps[i]?).bind λp=>es[p]?).map (·.2)=some v)=Pv (ps.filterMap λp=>fE[p]?):=by
   funext i v
   unfold Pv
   rw [c0C ps ZY i]
   cases ps[i]? with
   | none=>rfl
   | some p=>rw [LA,LA,SD S.G7,Option.map_map];rfl
  rw [eP,<-b6h ps ZY] at W
  refine h _ d' _ _ _ (ps.filterMap λp=>fE[p]?) (by rw [zo];exact He _) (λb o e=>ft _ (ft _ e)) ?_ W ⟨nS _ rfl,ft _ (ft _ ho),ft _ (nS _ rfl)⟩ (λb hb=>?_) λb hb=>?_
  .have:=pp.filterMap λp=>fE[p]?
   rw [len,List.filterMap_getElem?_range_length] at this
   exact this
  .simp only [js,DD,or_false,zo] at hb
   rcases hb with q | q | q
   .exact .inr (by rw [q];exact He _)
   .exact .inl q
   .exact .inr (by rw [q];exact dF _)
  .rw [zo,zo]
   simp only [js,DD,or_false,zo] at hb
   rcases hb with q | q | q | q
   .rw [q];exact AI _
   .rw [q];exact AI _
   .rw [q];exact DE (DE ha)
   .rw [q];exact DE (AI _)
 .have hz:¬((!(Cs w)&&(!t.plain&&decide (es.size>1)))=true):=hz
  rw [W3] at hz
  refine aY (cE ?_)
  refine aY (m:=setEpoch a) (wpAny_setEpoch_of ho hd S.fits ?_)
  refine aY (FD (cE ⟨_,rfl,"set_iterator",_,⟨_,nS _ rfl,rfl⟩,slot_next.lookup,?_⟩) (by size_fits))
  by_cases hb:Cs w=true
  .obtain ⟨us,pu,eu⟩:=Tn (f:=λq:K×Int×Value=>q.2) (a8z (w.params.setOrder a ep) es.size 0 es.toList #[] (Cq).symm) fE (by simpa using S.G7)
   exact zI _ hz us _ pu (MM hh (g0 ha) hd S hb eu) ⟨nS _ rfl,ft _ ho⟩
  .refine zI _ hz fE _ (Kg _) (MN hh (g0 ha) hd S (by simpa using hb) ?_) ⟨nS _ rfl,ft _ ho⟩
   have GY:Cs w=false:=by simpa using hb
   rw [GY] at hz
   simp only [Bool.not_false,Bool.true_and,Bool.and_eq_false_iff,Bool.not_eq_false',decide_eq_false_iff_not] at hz
   exact hz.imp id λq=>by omega
end
end SE
namespace SE
open PySem PyProof.Rows PySem.Calls PySem.W
section
variable {prog:Program}{w:World}{K:Type}[DecidableEq K]{knd:KeyKind prog w K}{A:Around}{E:Value->Shared->Prop}{s:Shared}
theorem b4P{r:Addr}{Q:Bool->Shared->Prop}(hT:s.TypeIs (.ref r) "set")(h:Q false s):wpAny (model prog w) A (c4Z (.ref r)) Q E s:=by
 unfold c4Z
 refine aY (wpAny_specialOf hT F.slot_set_len.lookup ?_)
 generalize hid:("set.__len__":String)=id0
 wp_delta
 rw [show splitId id0=some ("set","__len__") from by subst hid;decide +kernel]
 subst hid
 refine aY (wpAny_isInstance (T:="set") (b:=true) hT sub_set_self ?_)
 refine Pl (λz=>absurd z (by decide)) (λ_=>Pl (λ_=>?_) (λz=>absurd (by decide +kernel) z))
 exact aY (Px hT (cE h))
theorem b4H{us:List (K×Int×Value)}{acc:Array Value}(h:ItemsOf (Pv us) acc us.length):acc.toList=us.map (·.2.2):=by
 refine List.ext_getElem? λi=>?_
 rw [zq]
 rcases Rz i us.length with q | q
 .have hs:i<acc.size:=by rw [h.1];exact q
  have:=h.2 i acc[i] (LH hs)
  unfold Pv at this
  rw [this,R8,LH hs]
 .rw [Ii q,Ii (by rw [Cq,h.1];exact q)];rfl
theorem b0j{a:Addr}{o:Obj}{ks:List K}{R:List Value->Shared->Prop}(hh:A.handled=none)(ho:s.heap.get? a=some o)(Z:Sa knd o ks)
  (h:∀(h':Heap) d' tk (us:List (K×Int×Value)),(∀b o,s.heap.get? b=some o->h'.get? b=some o)->s.heap.objs.size<=h'.objs.size->(us.map (·.1)).Perm ks->(∀q∈us,knd.is q.1 q.2.2=true)->us.length<scanBound->R (us.map (·.2.2)) { s with heap:=h',drawn:=d',toks:=tk }):
  wpAny (model prog w) A (collect (.ref a)) R E s:=by
 obtain ⟨hex,es,ep,t,fE,hd,S,rfl⟩:=Z
 have ha:a<s.heap.objs.size:=eY ho
 unfold collect
 refine aY (wpAny_runValue (H9 entry_proto_collect' ?_))
 rw [Kk F.plain_proto_collect _]
 show wpAny _ A.in1 (newList [] >>= λl=>again (.builtin "list.__iadd__" ⟨[l,.ref a],[]⟩)) _ _ s
 refine aY (FD (cE ⟨Kj F.plain_list_iadd _,H9 entry_list_iadd' ?_⟩))
 rw [Kk F.plain_list_iadd _]
 show wpAny _ A.in1 (c40 (.ref s.heap.objs.size) (.ref a) (.ref s.heap.objs.size)) _ _ _
 generalize hg:s.heap.push { cls:=.type "list",data:=.seq ([]:List Value).toArray }=g
 have gs:g.objs.size=s.heap.objs.size+1:=by rw [<-hg];exact zo ..
 have gl:g.get? s.heap.objs.size=some { cls:=.type "list",data:=.seq #[] }:=by rw [<-hg];exact nS _ rfl
 have up:∀b o,s.heap.get? b=some o->g.get? b=some o:=λb o e=>by rw [<-hg];exact ft _ e
 have ga:=up a o ho
 have hT:({ s with heap:=g }:Shared).TypeIs (.ref a) "set":=⟨o,ga,hex.1⟩
 unfold c40
 refine aY (Px hT ?_)
 have h1:c5p (.ref s.heap.objs.size) (.ref a)=false:=by simp [c5p,J5 ha]
 have h2:(Hc "set" == Hc "list")=false:=by decide
 have h3:(Hc "set" == Hc "tuple")=false:=by decide
 simp only [h1,h2,h3,Bool.or_false,Lv,if_false]
 refine aY (b4G (A2:=A.in1) (s:={ s with heap:=g }) (by simp [hh]) ga hex hd S λh' d' I fp St us hI k pu W st hf hfl=>?_)
 have Bc:s.heap.objs.size∉fp:=λz=>by
  rcases hf _ z with q | q
  .exact absurd q (J5 ha)
  .simp only [gs] at q;omega
 have hSI:s.heap.objs.size≠I:=by simp only [gs] at hI;omega
 have end_:∀(h1:Heap) (c1 tk:Nat),St 0 h1->(∀b o,b≠s.heap.objs.size->s.heap.get? b=some o->h1.get? b=some o)->h1.get? s.heap.objs.size=some { cls:=.type "list",data:=.seq #[] c1 } ->
   codeAny (model prog w) A (.builtin "list.extend.loop" ⟨[.ref s.heap.objs.size,.ref I,.ref s.heap.objs.size],[]⟩) (λr s'=>∃(h':Heap) (A8:Nat) (acc:Array Value) (c':Nat),r=.ok (.ret (.ref s.heap.objs.size))/\s'={ s with heap:=h',drawn:=d',toks:=A8 }/\(∀b o,s.heap.get? b=some o->h'.get? b=some o)/\h'.get? s.heap.objs.size=some { cls:=.type "list",dict:=none,data:=.seq acc c',slots:=#[] }/\acc.toList=us.map (·.2.2)) { s with heap:=h1,drawn:=d',toks:=tk }:=λh1 c1 tk st1 k1 g1=>by
  refine codeAny_extend_loopS W.toS ?_ _ Bc _ us.length 0 _ #[] c1 rfl (De _) st1 g1 (ItemsOf.nil _) λs' acc c' mv g' it=>?_
  .rw [pu.length_eq,<-S.len];exact Lp S.lt
  .have e:=Moved.eq_with mv
   refine ⟨s'.heap,s'.toks,acc,c',rfl,e,λb o eo=>mv.heap b o (λz=>?_) (k1 b o (g0 (eY eo)) eo),g',b4H it⟩
   have hb:=eY eo
   simp only [js,DD,or_false] at z
   simp only [gs] at hI
   rcases z with z | z
   .exact g0 hb z
   .exact g0 (Am hb (Nat.le_of_succ_le hI)) z
 refine aY (DJ (b4P ⟨o,k a o ga,hex.1⟩ ?_))
 have g1:=k _ _ gl
 have fin:∀(g7:Shared) (h':Heap) (A8:Nat) (acc:Array Value) (c':Nat) (f:Array Value->Sem (List Value)),(∀xs,f xs=pure xs.toList)->g7={ s with heap:=h',drawn:=d',toks:=A8 }->(∀b o,s.heap.get? b=some o->h'.get? b=some o)->s.heap.objs.size<h'.objs.size->acc.toList=us.map (·.2.2)->wpAny (model prog w) A (f acc) R E g7:=λg7 h' A8 acc c' f hf e2 e3 e6 e5=>by
  subst e2
  rw [hf,e5]
  exact cE (h h' d' A8 us e3 (Lo e6) (pu.map _) (λq hq=>(S.el q (pu.mem_iff.mp hq)).1) (by rw [pu.length_eq,<-S.len];exact S.lt))
 refine Pl (λ_=>?_) (λ_=>?_)
 rotate_left
 .refine cE ⟨Kj F.plain_extend_loop _,Ie (end_ _ 0 s.toks st (λb o hb e=>k b o (up b o e)) g1) λq g7 ⟨h',A8,acc,c',e1,e2,e3,e4,e5⟩=>?_⟩
  subst e1;subst e2
  show wpAny _ A (load s.heap.objs.size >>= _) _ _ _
  exact aY (Rp e4 (fin _ h' A8 acc c' (λxs=>pure xs.toList) (λ_=>rfl) rfl e3 (eY e4) e5))
 refine aY (Rj (aY ?_))
 show wpAny _ _ (updateSeq s.heap.objs.size (·.push .none) >>= λ_=>updateSeq s.heap.objs.size (·.pop)) _ _ _
 refine aY (wpAny_updateSeq g1 rfl ?_)
 have g2:=R9 (BX (·.push vX)) g1 rfl
 refine wpAny_updateSeq (hz:=by seq_fits) g2 rfl ?_
 have g3:=R9 (BX (·.pop)) g2 rfl
 have Z4:∀b o,b≠s.heap.objs.size->h'.get? b=some o->((h'.update s.heap.objs.size (BX (·.push vX))).update s.heap.objs.size (BX (·.pop))).get? b=some o:=λb o hb e =>
  (Pz _ _ (wF hb)).trans ((Pz _ _ (wF hb)).trans e)
 refine cE ⟨Kj F.plain_extend_loop _,Ie (end_ _ _ s.toks (W.frame 0 _ _ st λb hb o e=>Z4 b o (λz=>Bc (z▸hb)) e) (λb o hb e=>Z4 b o hb (k b o (up b o e))) g3) λq g7 ⟨h',A8,acc,c',e1,e2,e3,e4,e5⟩=>?_⟩
 subst e1;subst e2
 show wpAny _ A (load s.heap.objs.size >>= _) _ _ _
 exact aY (Rp e4 (fin _ h' A8 acc c' (λxs=>pure xs.toList) (λ_=>rfl) rfl e3 (eY e4) e5))
end
end SE
namespace SE
open PySem PyProof.Rows PySem.Calls
theorem BU{α:Type}{p q:α->Bool}:∀(l:List α),(∀x∈l,p x=true->q x=true)->(∃x∈l,q x=true/\p x=false)->l.countP p<l.countP q
 | [],_,⟨_,z,_⟩=>nomatch z
 | a::l,h,⟨x,hx,h1,h2⟩=>by
  have mono:l.countP p<=l.countP q:=List.countP_mono_left λy hy=>h y (nT _ hy)
  rcases js.mp hx with e | hx
  .subst e
   rw [Sf h1,Xe (by rw [h2];exact DG)]
   exact Nat.lt_succ_of_le mono
  .have ih:=BU l (λy hy=>h y (nT _ hy)) ⟨x,hx,h1,h2⟩
   by_cases ha:p a=true
   .rw [Sf ha,Sf (h a pd ha)]
    exact W2 ih
   .rw [Xe ha]
    by_cases hb:q a=true
    .rw [Sf hb];exact DE ih
    .rw [Xe hb];exact ih
structure Ol{K:Type}(lt:K->K->Bool):Prop where
 JH:∀a,lt a a=false
 tr:∀{a b c},lt a b=true->lt b c=true->lt a c=true
 MV:∀{a b},a≠b->lt a b=true\/lt b a=true
section
variable {prog:Program}{w:World}{K:Type}[DecidableEq K]{knd:Ig prog w K}{lt:K->K->Bool}{A:Around}{E:Value->Shared->Prop}{s:Shared}
structure Od(knd:Ig prog w K)(lt:K->K->Bool):Prop where
 ol:Ol lt
 one:∀{a b:K} {u v:Value} {A:Around} {E:Value->Shared->Prop} {s:Shared} {Q:Bool->Shared->Prop},knd.is a u=true->knd.is b v=true->Q (lt a b) s->wpAny (model prog w) A (oneLt' true u v) Q E s
 kind:∀{us:List (K×Value)},(∀q∈us,knd.is q.1 q.2=true)->2<=us.length->keyKind' (us.map (·.2)).toArray=pure oneType'
noncomputable def rk(lt:K->K->Bool)(ks:List K)(k:K):Int:=(ks.countP λx=>lt x k:Nat)
theorem So(O:Od knd lt){ks:List K}{a b:K}(ha:a∈ks)(h:lt a b=true):rk lt ks a<rk lt ks b:=by
 unfold rk
 have:=BU (p:=λx=>lt x a) (q:=λx=>lt x b) ks (λx _ z=>O.ol.tr z h) ⟨a,ha,h,O.ol.JH a⟩
 omega
theorem b5T(O:Od knd lt){ks:List K}{a b:K}(ha:a∈ks)(hb:b∈ks):rk lt ks a<rk lt ks b↔lt a b=true:=by
 refine ⟨λz=>?_,So O ha⟩
 by_cases e:a=b
 .subst e;omega
 .rcases O.ol.MV e with q | q
  .exact q
  .have:=So O hb q;omega
noncomputable def ky(knd:Ig prog w K)(lt:K->K->Bool)(ks:List K)(v:Value):Int:=match ks.find? λk=>knd.is k v with
 | some k=>rk lt ks k
 | none=>0
theorem XB{ks:List K}{k:K}{v:Value}(hk:k∈ks)(h:knd.is k v=true):ky knd lt ks v=rk lt ks k:=by
 unfold ky
 cases hf:ks.find? λk=>knd.is k v with
 | none=>exact absurd h (by simpa using List.find?_eq_none.mp hf k hk)
 | some k'=>rw [knd.inj v k' k (List.find?_some (p:=λk=>knd.is k v) hf) h]
theorem EL:∀{ks ns:List K},ks.Nodup->(∀x∈ks,x∈ns)->ks.length<=ns.length
 | [],_,_,_=>De _
 | x::ks,ns,h,m=>by
  have hx:=m x pd
  have h':=Po.mp h
  have:=EL (ns:=ns.erase x) h'.2 λy hy=>(List.mem_erase_of_ne (show y≠x from λz=>h'.1 (z▸hy))).mpr (m y (nT _ hy))
  have e:=List.length_erase_of_mem hx
  have:=List.length_pos_of_mem hx
  rw [lI]
  omega
theorem b6U(O:Od knd lt){ks:List K}{us:List (K×Value)}(JQ:ks.Nodup)(hu:(us.map (·.1)).Perm ks)(hi:∀q∈us,knd.is q.1 q.2=true)(S:Shared)(h2:2<=us.length)(DA:us.length<64):
  (∀{A:Around} {E:Value->Shared->Prop} {Q:SortKind->Shared->Prop},Q oneType' S->wpAny (model prog w) A (keyKind' (us.map (·.2)).toArray) Q E S) /\
  ∀{A:Around} {E:Value->Shared->Prop},wpS (model prog w) A E S sortRuns' (λ_ fy=>((((arrOf fy).map (·.2)).toList.Perm (us.map (·.2)))/\((arrOf fy).map (·.2)).toList.Pairwise λx y=>ky knd lt ks x<ky knd lt ks y)/\failedOf fy=none) (WI oneType' (pairsOf (us.map (·.2))) #[] 7 none):=by
 have mem:∀q∈us,q.1∈ks:=λq hq=>hu.mem_iff.mp (BW.mpr ⟨q,hq,rfl⟩)
 have kq:∀q∈us,ky knd lt ks q.2=rk lt ks q.1:=λq hq=>XB (mem q hq) (hi q hq)
 refine ⟨λ{A E Q} hQ=>by rw [O.kind hi h2];exact cE hQ,λ{A E}=>?_⟩
 have hl:(us.map (·.2)).length=us.length:=c6 ..
 have ga:∀i (h:i<us.length),(us.map (·.2)).getD i vX=(us[i]).2:=λi h=>by simp [h]
 generalize hK:(λi:Nat=>ky knd lt ks ((us.map (·.2)).getD i vX))=K
 have Ki:∀i (h:i<us.length),K i=rk lt ks (us[i]).1:=λi h=>by
  rw [<-hK]
  show ky knd lt ks _=_
  rw [ga i h,kq _ (AH h)]
 have nd:(us.map (·.1)).Nodup:=hu.nodup_iff.mpr JQ
 obtain ⟨o1,o2⟩:=KS.EG K us.length (by omega)
 unfold wpS
 refine z8 (PySem.W.kat_run (ks:=us.map (·.2)) (vs:=us.map (·.2)) (κ:=oneType') (Q:=λfy s'=>s'=S/\((((arrOf fy).map (·.2)).toList.Perm (us.map (·.2)))/\((arrOf fy).map (·.2)).toList.Pairwise λx y=>ky knd lt ks x<ky knd lt ks y)/\failedOf fy=none) (G:=λp s'=>s'=S/\p.toList=KS.ord K us.length) rfl (by rw [hl];exact h2) (by rw [hl];exact DA) (λp fy s' hz ha hf hp=>⟨hp.1,?_,hf⟩) ?_) (λr s' h=>h) λ_ _ z=>z
 .rw [PySem.W.kat_snds rfl ha,hp.2]
  constructor
  .refine (o1.map λi=>(us.map (·.2)).getD i vX).trans ?_
   have:(nR us.length).map (λi=>(us.map (·.2)).getD i vX)=us.map (·.2):=by
    refine List.ext_getElem (by simp) λi h1 h2=>?_
    simp at h1
    simp [h1]
   rw [this]
  .show WB _ ((KS.ord K us.length).map λi=>(us.map (·.2)).getD i vX)
   rw [RN]
   have od:(KS.ord K us.length).Nodup:=o1.nodup_iff.mpr List.nodup_range
   refine (List.Pairwise.and o2 od).imp_of_mem λ{i j} xT Lb h=>?_
   have Ow:=E3.mp (o1.mem_iff.mp xT)
   have Ou:=E3.mp (o1.mem_iff.mp Lb)
   have e1:=Ki i Ow
   have e2:=Ki j Ou
   rw [ga i Ow,ga j Ou,kq _ (AH Ow),kq _ (AH Ou),<-e1,<-e2]
   have su:(us[i]).1≠(us[j]).1:=λz=>h.2 (by
    have:=(W' (xs:=us.map (·.1)) (i:=i) (j:=j) (h₀:=by simpa using Ow) (h₁:=by simpa using Ou) nd).mp (by simpa using z)
    exact this)
   have hle:=h.1
   have m1:=mem _ (AH Ow)
   have m2:=mem _ (AH Ou)
   rcases O.ol.MV su with q | q
   .have:=So O m1 q;omega
   .have:=So O m2 q;omega
 .rw [hl]
  refine KS.HC (n:=us.length) (cmp:=KS.n5 K) (λi j xT Lb Q hQ=>?_) (KS.GI (by omega)) ⟨rfl,rfl⟩
  unfold PySem.W.kas_ask
  rw [ga i xT,ga j Lb,keyLt'_oneType]
  refine O.one (hi _ (AH xT)) (hi _ (AH Lb)) ?_
  have:KS.n5 K i j=lt (us[i]).1 (us[j]).1:=by
   show decide (K i<K j)=_
   rw [Ki i xT,Ki j Lb,RK,decide_eq_true_eq]
   exact b5T O (mem _ (AH xT)) (mem _ (AH Lb))
  rwa [this] at hQ
theorem Bt(O:Od knd lt){a:Addr}{o:Obj}{ks:List K}{Q:Value->Shared->Prop}(hh:A.handled=none)(ho:s.heap.get? a=some o)(Z:Sa knd o ks)(VN:ks.Nodup)(DA:ks.length<64)
  (h:∀(h':Heap) d' tk D e (us:List (K×Value)),(∀b o,s.heap.get? b=some o->h'.get? b=some o)->s.heap.objs.size<=D->h'.get? D=some (seqObj "list" (us.map (·.2)).toArray e)->(us.map (·.1)).Perm ks->(us.map (·.1)).Pairwise (λx y=>lt x y=true)->(∀q∈us,knd.is q.1 q.2=true)->us.length<scanBound->Q (.ref D) { s with heap:=h',drawn:=d',toks:=tk }):
  wpAny (model prog w) A (call (.builtin "sorted") [.ref a]) Q E s:=by
 refine Calls.call_function_entry kind_sorted plain_sorted entry_sorted (args_sorted1 _) ?_
 unfold Builtin.«sorted»
 refine aY (m:=checkCount "sorted" 1 1 _) (cE (aY (b0j (by simp [hh]) ho Z λh1 d' tk us k1 sz pu iu lu=>?_)))
 generalize hv:us.map (λq=>(q.1,q.2.2))=vs
 have e1:us.map (·.2.2)=vs.map (·.2):=by rw [<-hv,Bh];rfl
 have e2:us.map (·.1)=vs.map (·.1):=by rw [<-hv,Bh];rfl
 have iv:∀q∈vs,knd.is q.1 q.2=true:=λq hq=>by
  rw [<-hv] at hq
  obtain ⟨r,hr,rfl⟩:=BW.mp hq
  exact iu r hr
 have lv:vs.length<scanBound:=by rw [<-hv,c6];exact lu
 rw [e2] at pu
 rw [e1]
 have hZ:(vs.map (·.2)).length<=sizeLine:=by rw [c6];exact Lp lv
 refine aY (wpAny_newList (hsz:=hZ) ?_)
 have z2:(h1.push (seqObj "list" (vs.map (·.2)).toArray 0)).get? h1.objs.size=some (seqObj "list" (vs.map (·.2)).toArray 0):=nS _ rfl
 have mem:∀q∈vs,q.1∈ks:=λq hq=>pu.mem_iff.mp (BW.mpr ⟨q,hq,rfl⟩)
 refine aY (DJ (Ij slot_list_sort ⟨_,z2,rfl⟩ entry_list_sort (TS.Nf (κ:=oneType') (R:=λout=>out.toList.Perm (vs.map (·.2))/\out.toList.Pairwise λx y=>ky knd lt ks x<ky knd lt ks y) z2 hZ (λhl=>?_) (λout ho=>?_) (λS _ h2=>b6U O VN pu iv S (by rwa [c6] at h2) (by have:=pu.length_eq;rw [c6] at this;omega)) λout o1=>⟨_,rfl,?_⟩) (args_list_sort _)))
 .refine ⟨Kg _,?_⟩
  rw [c6] at hl
  show WB _ (vs.map (·.2))
  cases vs with
  | nil=>exact PB
  | cons x l=>cases l with
   | nil=>exact Xf _ _
   | cons y l=>simp at hl;omega
 .rw [<-Cq,ho.1.length_eq]
 .refine cE ⟨_,rfl,?_⟩
  obtain ⟨ws,pw,ew⟩:=Tn o1.1 vs rfl
  obtain ⟨e,he⟩:=sortedHeap_at (out:=out) z2
  have k2:∀b o,s.heap.get? b=some o->(sortedHeap (h1.push (seqObj "list" (vs.map (·.2)).toArray 0)) h1.objs.size (vs.map (·.2)) out).get? b=some o:=λb o eb=>by
   have hb:b<h1.objs.size:=eY (k1 b o eb)
   rw [sortedHeap_old (g0 hb) (by rw [zo];exact DE hb)]
   exact ft _ (k1 b o eb)
  refine h _ d' tk _ e ws k2 sz (by rw [he];congr 1;congr 1;rw [<-ew]) ((pw.map _).trans pu) ?_ (λq hq=>iv q (pw.mem_iff.mp hq)) (by rw [pw.length_eq];exact lv)
  have p:=o1.2
  rw [ew,RN] at p
  rw [RN]
  refine p.imp_of_mem λ{x y} hx hy z=>?_
  have Az:=pw.mem_iff.mp hx
  have HK:=pw.mem_iff.mp hy
  rw [XB (mem x Az) (iv x Az),XB (mem y HK) (iv y HK)] at z
  exact (b5T O (mem x Az) (mem y HK)).mp z
end
end SE
namespace SE
open PySem PyProof.Rows
noncomputable def ltI:Int->Int->Bool:=λa b=>decide (a<b)
noncomputable def zX:Str->Str->Bool:=λa b=>decide (a.cps.toList<b.cps.toList)
theorem zW:Ol ltI where
 JH:=λa=>by simp [ltI]
 tr:=λh1 h2=>by simp [ltI] at *;omega
 MV:=λh=>by simp [ltI];omega
theorem JA{prog:Program}{w:World}:Od (intKind prog w) ltI where
 ol:=zW
 one:=λ{a b u v A E s Q} ha hb hQ=>by
  obtain ⟨t,rfl⟩:=PF ha
  obtain ⟨t',rfl⟩:=PF hb
  exact oneLt_int hQ
 kind:=λ{us} h h2=>by
  have key:∀us:List (Int×Value),(∀q∈us,(intKind prog w).is q.1 q.2=true)->IntsAre (us.map (·.2)) (us.map (·.1)):=λus=>by
   induction us with
   | nil=>intro _;exact .nil
   | cons q us ih =>
    intro h
    obtain ⟨t,e⟩:=PF (h q pd)
    rw [fH,fH,e]
    exact .cons _ t (ih λq hq=>h q (nT _ hq))
  have k:=key us h
  match us,h2,k with
  | a::b::us,_,k=>exact keyKind_ints k
theorem a6X:∀{a b:List Nat},a≠b->a<b\/b<a
 | [],[],h=>absurd rfl h
 | [],_::_,_=>.inl List.Lex.nil
 | _::_,[],_=>.inr List.Lex.nil
 | x::a,y::b,h=>by
  rcases Nat.lt_trichotomy x y with q | q | q
  .exact .inl (List.Lex.rel q)
  .subst q
   rcases a6X (a:=a) (b:=b) (λe=>h (by rw [e])) with z | z
   .exact .inl (List.Lex.cons z)
   .exact .inr (List.Lex.cons z)
  .exact .inr (List.Lex.rel q)
theorem mr:Ol zX where
 JH:=λa=>by simp [zX,List.lt_irrefl]
 tr:=λh1 h2=>by
  unfold zX at *
  rw [decide_eq_true_eq] at *
  exact List.lt_trans h1 h2
 MV:=λ{a b} h=>by
  unfold zX
  rw [decide_eq_true_eq,decide_eq_true_eq]
  refine a6X λe=>h ?_
  obtain ⟨x⟩:=a
  obtain ⟨y⟩:=b
  have e':x=y:=W4.mp e
  rw [e']
theorem Jz{prog:Program}{w:World}:Od (Pt prog w) zX where
 ol:=mr
 one:=λ{a b u v A E s Q} ha hb hQ=>by
  obtain ⟨t,rfl⟩:=Py ha
  obtain ⟨t',rfl⟩:=Py hb
  exact oneLt_str hQ
 kind:=λ{us} h h2=>by
  have key:∀us:List (Str×Value),(∀q∈us,(Pt prog w).is q.1 q.2=true)->StrsAre (us.map (·.2)) (us.map (·.1)):=λus=>by
   induction us with
   | nil=>intro _;exact .nil
   | cons q us ih =>
    intro h
    obtain ⟨t,e⟩:=Py (h q pd)
    rw [fH,fH,e]
    exact .cons _ t (ih λq hq=>h q (nT _ hq))
  have k:=key us h
  match us,h2,k with
  | a::b::us,_,k=>exact keyKind_strs k
noncomputable def ins{K:Type}(lt:K->K->Bool)(x:K):List K->List K
 | []=>[x]
 | y::l=>if lt x y=true then x::y::l else if lt y x=true then y::ins lt x l else y::l
noncomputable def zH{K:Type}(lt:K->K->Bool):List K->List K
 | []=>[]
 | x::l=>ins lt x (zH lt l)
section
variable {K:Type}[DecidableEq K]{lt:K->K->Bool}
theorem Ya(O:Ol lt)(x z:K):∀l:List K,z∈ins lt x l↔z=x\/z∈l
 | []=>by simp [ins]
 | y::l=>by
  unfold ins
  split
  .simp
  .split
   .rw [js,Ya O x z l,js]
    constructor
    .rintro (q | q | q)
     .exact .inr (.inl q)
     .exact .inl q
     .exact .inr (.inr q)
    .rintro (q | q | q)
     .exact .inr (.inl q)
     .exact .inl q
     .exact .inr (.inr q)
   .rename_i h1 h2
    have e:x=y:=Classical.byContradiction λz=>(O.MV z).elim h1 h2
    subst e
    simp
theorem b3a(O:Ol lt)(x:K):∀l:List K,l.Pairwise (λa b=>lt a b=true)->(ins lt x l).Pairwise (λa b=>lt a b=true)
 | [],_=>Xf _ _
 | y::l,h=>by
  obtain ⟨h1,h2⟩:=Lu.mp h
  unfold ins
  split
  .rename_i q
   refine Lu.mpr ⟨λz hz=>?_,h⟩
   rcases js.mp hz with e | e
   .rw [e];exact q
   .exact O.tr q (h1 z e)
  .split
   .rename_i q
    refine Lu.mpr ⟨λz hz=>?_,b3a O x l h2⟩
    rcases (Ya O x z l).mp hz with e | e
    .rw [e];exact q
    .exact h1 z e
   .exact h
theorem pH(O:Ol lt)(z:K):∀l:List K,z∈zH lt l↔z∈l
 | []=>mj
 | x::l=>by unfold zH;rw [Ya O,pH O z l,js]
theorem wB(O:Ol lt):∀l:List K,(zH lt l).Pairwise (λa b=>lt a b=true)
 | []=>PB
 | x::l=>b3a O x _ (wB O l)
theorem BY(O:Ol lt):∀{l m:List K},l.Pairwise (λa b=>lt a b=true)->m.Pairwise (λa b=>lt a b=true)->(∀z,z∈l↔z∈m)->l=m
 | [],[],_,_,_=>rfl
 | [],b::m,_,_,h=>absurd ((h b).mpr pd) (λz=>nomatch z)
 | a::l,[],_,_,h=>absurd ((h a).mp pd) (λz=>nomatch z)
 | a::l,b::m,hl,hm,h=>by
  obtain ⟨l1,l2⟩:=Lu.mp hl
  obtain ⟨m1,m2⟩:=Lu.mp hm
  have no:∀{x y:K},lt x y=true->lt y x=true->False:=λ{x y} p q=>by
   have:=O.tr p q
   rw [O.JH] at this
   exact Ke this
  have e:a=b:=by
   rcases js.mp ((h a).mp pd) with q | q
   .exact q
   .rcases js.mp ((h b).mpr pd) with r | r
    .exact r.symm
    .exact (no (m1 a q) (l1 b r)).elim
  subst e
  rw [BY O l2 m2 λz=>?_]
  constructor
  .intro hz
   rcases js.mp ((h z).mp (nT _ hz)) with q | q
   .subst q
    have:=l1 z hz
    rw [O.JH] at this
    exact Ke this
   .exact q
  .intro hz
   rcases js.mp ((h z).mpr (nT _ hz)) with q | q
   .subst q
    have:=m1 z hz
    rw [O.JH] at this
    exact Ke this
   .exact q
end
end SE
namespace DL
open PySem PySem.Spec PyProof.Rows L2
theorem _root_.L2.Inv.drawn{X:Cx}{pins:List (Addr×Obj)}{σ:List (Option V)}{H:Hp}{s:Shared}(I:Inv X pins σ H s)(d':Drawn):Inv X pins σ H { s with drawn:=d' }:=
 ⟨I.ok,I.os,I.bare,I.base,I.loc,I.cell,I.free,I.nC,I.pin,I.cF,I.len⟩
section
variable {X:Cx}{K:Type}[DecidableEq K]{knd:Ig X.prog X.w K}{lt:K->K->Bool}{mk:K->V}
structure Kv(knd:Ig X.prog X.w K)(mk:K->V):Prop where
 to:∀{k:K} {u:Value},RelV (mk k) u->knd.is k u=true/\u.scannable=true
 of:∀{k:K} {u:Value},knd.is k u=true->RelV (mk k) u
noncomputable def sE(knd:Ig X.prog X.w K)(a:Addr)(ks:List K):HO:=.ext λh=>∃o,h.get? a=some o/\SE.Sa knd o ks
theorem nH(T:Kv knd mk)(dk:K)(hc:X.calm=true):dO X (.type "set") (λxs H Q=>∃(p:Addr) (ns:List K),xs=[.ref p]/\Sq X.K H true p (ns.map mk)/\ns.length+1<scanBound /\
  ∀(a:Addr) (ks:List K),ks.Nodup->(∀x,x∈ks↔x∈ns)->H a=none->Q (.ref a) (upd H a (sE knd a ks))):=by
 intro pins s σ H xs us Q I r h
 obtain ⟨p,ns,rfl,hq,hb,q⟩:=h
 obtain ⟨u,rfl,ru⟩:=r.one
 cases ru
 obtain ⟨aJ,rv,pl⟩:=b9v (b:=true) I hq
 have hl:aJ.length=ns.length:=by rw [<-rv.length,c6]
 refine SE.nH (knd:=knd) (items:=aJ.toArray) (I.ok.hd hc) pl (λi=>ns.getD i dk) (λi v hv=>?_) (by rw [jM,hl];exact hb) λh' tk o ks k ho Z D=>?_
 .rw [RZ] at hv
  have hi:i<ns.length:=by
   have:=(z9.mp hv).1
   omega
  obtain ⟨u,e1,e2⟩:=aU.get (x:=mk ns[i]) rv (i:=i) (by rw [zq,md hi];rfl)
  rw [hv] at e1
  cases e1
  rw [RU,md hi]
  exact T.to e2
 .have fr:H s.heap.objs.size=none:=I.cF.fresh (dF _)
  refine ⟨.ref s.heap.objs.size,_,I.laid (o:=sE knd s.heap.objs.size ks) (t':=tk) (λb o e=>k b o (eY e) e) (dF _) ⟨⟨o,ho,Z⟩,⟨o,ho⟩,λh1 h2 ⟨o,e,z⟩ kk=>⟨o,kk _ e,z⟩⟩,rfl,q _ ks D.nd (λx=>?_) fr⟩
  rw [D.mem,jM,hl]
  constructor
  .rintro ⟨j,hj,e⟩
   rw [<-e,RU,md hj]
   exact AH hj
  .intro hx
   obtain ⟨j,hj,e⟩:=LI.mp hx
   exact ⟨j,hj,by rw [RU,md hj];exact e⟩
theorem a6f(T:Kv knd mk)(O:SE.Od knd lt)(hc:X.calm=true):dO X (.builtin "sorted") (λxs H Q=>∃(p:Addr) (ks:List K),xs=[.ref p]/\H p=some (sE knd p ks)/\ks.Nodup/\ks.length<64 /\
  ∀(ms:List K) (a:Addr),ms.Perm ks->ms.Pairwise (λx y=>lt x y=true)->H a=none->Q (.ref a) (upd H a (.lst (ms.map mk)))):=by
 intro pins s σ H xs vs Q I r h
 obtain ⟨p,ks,rfl,hp,VN,DA,q⟩:=h
 obtain ⟨u,rfl,ru⟩:=r.one
 cases ru
 obtain ⟨⟨o,ho,Z⟩,_⟩:=I.cF p _ hp
 refine SE.Bt O (I.ok.hd hc) ho Z VN DA λh' d' tk D e us k sz hD pu FF iu lu=>?_
 have fr:H D=none:=I.cF.fresh sz
 refine ⟨.ref D,_,(I.laid (o:=.lst ((us.map (·.1)).map mk)) (t':=tk) k sz ⟨?_,us.map (·.2),e,?_,hD⟩).drawn d',rfl,q _ D pu FF fr⟩
 .rw [c6,c6];exact Lp lu
 .clear hD pu FF lu
  induction us with
  | nil=>exact .nil
  | cons x us ih=>exact .cons (T.of (iu x pd)) (ih λq hq=>iu q (nT _ hq))
theorem b6a:Kv (intKind X.prog X.w) V.int:=⟨λ{k u} ⟨t,e⟩=>by subst e;exact ⟨by simp [intKind,WN],rfl⟩,λh=>PF h⟩
theorem XZ:Kv (Pt X.prog X.w) V.str:=⟨λ{k u} ⟨t,e⟩=>by subst e;exact ⟨by simp [Pt,WD],rfl⟩,λh=>Py h⟩
theorem b9O{e:Expr}{t1 t2:TE}(h1:PE X e t1)(h2:PE X e t2):PE X e (λσ H Q=>t1 σ H Q\/t2 σ H Q):=λpins s σ H Q I h=>h.elim (h1 pins s σ H Q I) (h2 pins s σ H Q I)
theorem b6e{K:aX}{O:Addr->Prop}{H:Hp}:∀ws:List Int,bp K O H (ws.map V.int) (ws.map D.int)
 | []=>.nil
 | _::ws=>.cons (Is.int _) (b6e ws)
theorem b6d{K:aX}{O:Addr->Prop}{H:Hp}:∀ws:List Str,bp K O H (ws.map V.str) (ws.map D.str)
 | []=>.nil
 | _::ws=>.cons (Is.str _) (b6d ws)
noncomputable def Cz:List D->Option (List Str)
 | []=>some []
 | .str x::ds=>(Cz ds).map (x::·)
 | _::_=>none
theorem YV:∀{ds:List D} {ss:List Str},Cz ds=some ss->ds=ss.map D.str
 | [],ss,h=>by cases h;rfl
 | .str x::ds,ss,h=>by
  obtain ⟨s',h1,rfl⟩:=map_some (show (Cz ds).map (x::·)=some ss from h)
  rw [YV h1];rfl
theorem YL{K:aX}{O:Addr->Prop}{H:Hp}:∀{xs:List V} {ns:List Str},bp K O H xs (ns.map D.str)->xs=ns.map V.str
 | _,[],h=>by cases h;rfl
 | _,n::ns,h=>by
  cases h with
  | cons a t =>
   cases a
   rw [YL t];rfl
noncomputable def sset(ds:List D):Option (List D):=match An ds with
 | some ns=>if ns.length<64 then some ((SE.zH SE.ltI ns).map D.int) else none
 | none=>(Cz ds).bind λss=>if ss.length<64 then some ((SE.zH SE.zX ss).map D.str) else none
noncomputable def SA(f:En->Option Sl):En->Option Sl:=λenv=>(f env).bind λr=>match r.d with
 | .lst _ ds=>(sset ds).map Sl.ow
 | _=>none
theorem b70{e:Expr}{fa:En->Option Sl}{p pos p2 ui:Pos}(hc:X.calm=true)(hg:Gl X "sorted")(hm:X.mg "sorted" = none)(Lc:Gl X "set")(K':X.mg "set" = none)(he:EV X e fa)(hs:starEach [e] X.env=[(false,eval e X.env)]:=by rfl)
  (yI:starEach [.Call (.Name "set" p2) [e] [] ui] X.env=[(false,eval (.Call (.Name "set" p2) [e] [] ui) X.env)]:=by rfl):EV X (.Call (.Name "sorted" p) [.Call (.Name "set" p2) [e] [] ui] [] pos) (SA fa):=by
 obtain ⟨t,pt,k⟩:=he
 have P1:=KD (p:=p) (pos:=pos) (a6f b6a SE.JA hc) hg hm (by decide +kernel) (wm (ID (p:=p2) (pos:=ui) (nH b6a (0:Int) hc) Lc K' (by decide +kernel) (wm pt zx hs) (by decide) (by decide) hs rfl) zx yI) (by decide) (by decide) yI rfl
 have P2:=KD (p:=p) (pos:=pos) (a6f XZ SE.Jz hc) hg hm (by decide +kernel) (wm (ID (p:=p2) (pos:=ui) (nH XZ ("":Str) hc) Lc K' (by decide +kernel) (wm pt zx hs) (by decide) (by decide) hs rfl) zx yI) (by decide) (by decide) yI rfl
 refine ⟨_,b9O P1 P2,λO B σ H env s Q R e q=>?_⟩
 obtain ⟨r,e1,e2⟩:=bind_some e
 cases hd:r.d with
 | lst b ds =>
  rw [hd] at e2
  obtain ⟨rs,e3,rfl⟩:=map_some (show (sset ds).map Sl.ow=some s from e2)
  unfold sset at e3
  split at e3
  .rename_i ns e4
   obtain ⟨DA,rfl⟩:=oi e3
   refine .inl (k O B σ H env r _ R e1 λv H1 s1 r1=>?_)
   have hi:=r1.is λq=>R.oo
   rw [hd] at hi
   have Pa:=a7C e4
   subst Pa
   obtain ⟨a,xs,rfl,h2,h3⟩:=hi.seq (k:=true) rfl
   have ex:=a8M h3
   subst ex
   refine ⟨a,ns,rfl,h2,Ic (W2 DA) (by decide),λc ks nd mem hc=>⟨c,ks,rfl,yB,nd,RD (SE.EL nd λx hx=>(mem x).mp hx) DA,λms d pm FF hd=>?_⟩⟩
   have ER:ms=SE.zH SE.ltI ns:=SE.BY SE.zW FF (SE.wB SE.zW ns) λz=>by rw [pm.mem_iff,mem,SE.pH SE.zW]
   have Dz:H1 d=none:=by
    by_cases z:d=c
    .rw [z,yB] at hd;cases hd
    .rwa [jw z] at hd
   rw [<-ER] at q
   refine q _ _ ((s1.trans (zz hc _)).trans (zz hd _)) ((L3 hd ?_).from (s1.trans (zz hc _)))
   exact b6e _
  .rename_i e4
   obtain ⟨ss,e5,e6⟩:=bind_some e3
   obtain ⟨DA,rfl⟩:=oi e6
   refine .inr (k O B σ H env r _ R e1 λv H1 s1 r1=>?_)
   have hi:=r1.is λq=>R.oo
   rw [hd] at hi
   have Pa:=YV e5
   subst Pa
   obtain ⟨a,xs,rfl,h2,h3⟩:=hi.seq (k:=true) rfl
   have ex:=YL h3
   subst ex
   refine ⟨a,ss,rfl,h2,Ic (W2 DA) (by decide),λc ks nd mem hc=>⟨c,ks,rfl,yB,nd,RD (SE.EL nd λx hx=>(mem x).mp hx) DA,λms d pm FF hd=>?_⟩⟩
   have ER:ms=SE.zH SE.zX ss:=SE.BY SE.mr FF (SE.wB SE.mr ss) λz=>by rw [pm.mem_iff,mem,SE.pH SE.mr]
   rw [<-ER] at q
   refine q _ _ ((s1.trans (zz hc _)).trans (zz hd _)) ((L3 hd ?_).from (s1.trans (zz hc _)))
   exact b6d _
 | _=>rw [hd] at e2;cases e2
end
end DL
namespace DL
open PySem L2
def U0(d:D)(Q:Sl->Prop):Prop:=match d with
 | .lst _ ds=>Wo (sset ds) λrs=>Q (.ow rs)
 | _=>False
theorem Nk{r:Bool}{ds:List D}{Q:Sl->Prop}:U0 (.lst r ds) Q↔Wo (sset ds) λrs=>Q (.ow rs):=mj
theorem b5C{f:En->Option Sl}{env:En}{Q:Sl->Prop}:Wo (SA f env) Q↔Wo (f env) λr=>U0 r.d Q:=by
 unfold SA
 rw [a0m]
 refine mf λr=>?_
 cases r.d<;>simp [U0,Wo_none,a1y]
end DL
namespace DL
open PySem PySem.Spec PyProof.Rows L2
mutual
noncomputable def wg:D->Bool
 | .tup ds=>L0 ds
 | .lst _ _=>false
 | .exc _=>false
 | .rf _ _=>false
 | .obj _ _ _=>false
 | .lX _ _=>false
 | .dI _ _=>false
 | .cT=>true
 | .bl _=>true
 | .int _=>true
 | .str _=>true
noncomputable def L0:List D->Bool
 | []=>true
 | d::r=>wg d&&L0 r
end
section
variable {K:aX}{O O':Addr->Prop}{H:Hp}{p:Addr}{ys:List V}
theorem Nt(hp:H p=some (.lst ys))(h:Rd H q (.tup xs)):q≠p:=λz=>by
 subst z
 rcases h with h | ⟨o,h⟩
 .rw [hp] at h;cases h
 .rw [hp] at h;cases h
mutual
theorem b7E(hp:H p=some (.lst ys))(hO:∀q,O q->O' q\/q=p):∀{v:V} {d:D},Is K O' H v d->wg d=true->Is K O H v d
 | _,_,.cT,_=>.cT
 | _,_,.bl b,_=>.bl b
 | _,_,.int i,_=>.int i
 | _,_,.str x,_=>.str x
 | _,_,.tup ho h1 hs,f=>.tup (λz=>(hO _ z).elim ho (Nt hp h1)) h1 (Yt hp hO hs (by simpa [wg] using f))
 | _,_,.xF h1 hs,f=>.xF h1 (Yt hp hO hs (by simpa [wg] using f))
 | _,_,.lst _ _ _,f=>by simp [wg] at f
 | _,_,.zV _ _ _,f=>by simp [wg] at f
 | _,_,.zY _ _,f=>by simp [wg] at f
 | _,_,.exc _ _ _,f=>by simp [wg] at f
 | _,_,.rf _ _,f=>by simp [wg] at f
 | _,_,.obj _ _ _ _ _,f=>by simp [wg] at f
 | _,_,.lX _ _ _ _,f=>by simp [wg] at f
 | _,_,.dI _ _ _ _,f=>by simp [wg] at f
 | _,_,.C8 _ _,f=>by simp [wg] at f
theorem Yt(hp:H p=some (.lst ys))(hO:∀q,O q->O' q\/q=p):∀{v:List V} {d:List D},bp K O' H v d->L0 d=true->bp K O H v d
 | _,_,.nil,_=>.nil
 | _,_,.cons h t,f=>by
  simp only [L0,FC] at f
  exact .cons (b7E hp hO h f.1) (Yt hp hO t f.2)
end
end
end DL
namespace DL
open PySem PySem.Spec PyProof.Rows L2
theorem YD{K:aX}{O:Addr->Prop}{H:Hp}{f:Str}{d:D}:∀{ns:List Str} {vs:List V} {ds:List D},bp K O H vs ds->(ns.zip ds).lookup f=some d->∃v,(ns.zip vs).lookup f=some v/\Is K O H v d
 | [],_,_,_,e=>by cases e
 | n::ns,_,_,.nil,e=>by cases e
 | n::ns,_,_,.cons h t,e=>by
  rw [Ih,Be] at e ⊢
  by_cases z:(f==n)=true
  .rw [z] at e ⊢
   cases e
   exact ⟨_,rfl,h⟩
  .rw [W3] at z
   rw [z] at e ⊢
   exact YD t e
theorem b0q{m:Str}:∀{ns:List Str} {vs:List V},m∉ns->(ns.zip vs).lookup m=none
 | [],_,_=>rfl
 | n::ns,[],_=>rfl
 | n::ns,v::vs,h=>by
  rw [Ih,Be]
  have:(m==n)=false:=by
   rw [beq_eq_false_iff_ne]
   exact λe=>h (by rw [e];exact pd)
  rw [this]
  exact b0q λz=>h (nT _ z)
theorem Yg{f:Str}{y:V}:∀{ns:List Str} {us:List V},f∉ns->ns.length=us.length->l6 f y (ns.zip us)=(ns++[f]).zip (us++[y])
 | [],[],_,_=>rfl
 | [],_::_,_,h=>by cases h
 | _::_,[],_,h=>by cases h
 | n::ns,u::us,h,hl=>by
  show (if n=f then _ else (n,u)::l6 f y (ns.zip us))=(n,u)::(ns++[f]).zip (us++[y])
  rw [if_neg (λe=>h (by rw [e];exact pd)),Yg (λz=>h (nT _ z)) (by simpa using hl)]
theorem Kp{α:Type}{c:Prop}[Decidable c]{x:Option α}{y:α}(h:(if c then x else none)=some y):c/\x=some y:=by
 by_cases hc:c
 .rw [if_pos hc] at h;exact ⟨hc,h⟩
 .rw [if_neg hc] at h;cases h
theorem b4s{σ:L2.St}{env:En}{x:Option V}{q:Addr}(h:zP (x::σ) (.no::env) q):zP σ env q:=by
 obtain ⟨i,s,e1,o,e2⟩:=h
 cases i with
 | zero=>cases e1;exact o.elim
 | succ i=>exact ⟨i,s,by simpa using e1,o,by simpa using e2⟩
theorem b0D{K:aX}{O:Addr->Prop}{B H:Hp}{σ:L2.St}{env:En}(x:Option V)(R:Rel K O B σ H env):Rel K O B (x::σ) H (.no::env):=by
 have oo:∀q,OO O (x::σ) (.no::env) q->OO O σ env q:=λq z=>z.elim .inl λz=>.inr (b4s z)
 refine ⟨R.same,R.AF,by simp [R.len],λi d e=>?_,λi ds e=>?_,λi ks e=>?_,λi ks ds e=>?_,λi j ds es p e1 e2 e3 e4 o1 o2=>?_⟩
 .cases i with
  | zero=>cases e
  | succ i=>obtain ⟨v,f1,f2⟩:=R.sh i d (by simpa using e);exact ⟨v,by simpa using f1,f2.less oo⟩
 .cases i with
  | zero=>cases e
  | succ i=>obtain ⟨p,xs,f1,f2,f3,f4⟩:=R.ow i ds (by simpa using e);exact ⟨p,xs,by simpa using f1,f2,f3,f4.less oo⟩
 .cases i with
  | zero=>cases e
  | succ i=>obtain ⟨p,f1,f2,f3⟩:=R.dw i ks (by simpa using e);exact ⟨p,by simpa using f1,f2,f3⟩
 .cases i with
  | zero=>cases e
  | succ i=>obtain ⟨p,xs,f1,f2,f3,f4,f5⟩:=R.tw i ks ds (by simpa using e);exact ⟨p,xs,by simpa using f1,f2,f3,f4,f5.less oo⟩
 .cases i with
  | zero=>cases e1;exact o1.elim
  | succ i =>
   cases j with
   | zero=>cases e2;exact o2.elim
   | succ j=>rw [R.sep i j ds es p (by simpa using e1) (by simpa using e2) (by simpa using e3) (by simpa using e4) o1 o2]
def Ft(K:aX)(c:Str)(P:Addr->Prop):Prop:=∀C,lK K mainGlobals c=some (some (.ref C))->A3 K C/\P C
noncomputable def eG(cs:List Str)(f:Str):D->Option D
 | .obj c ns ds=>if c∈cs then (ns.zip ds).lookup f else none
 | _=>none
noncomputable def eZ(cs:List Str)(f:Str)(fo:En->Option Sl):En->Option Sl:=λenv=>(fo env).bind λr=>(eG cs f r.d).map Sl.sh
section
variable {X:Cx}{e o:Expr}{es:List Expr}{f m:Str}{pos apos p:Pos}{fo:En->Option Sl}{fs:En->Option (List D)}{cs:List Str}
theorem yz(ho:EV X o fo)(hc:∀c∈cs,Ft X.K c λC=>aa X.K C f)(hb:attributeBase o f X.env (eval o X.env)=eval o X.env:=by rfl):EV X (.Attribute o f pos) (eZ cs f fo):=by
 obtain ⟨t,pt,k⟩:=ho
 refine ⟨_,b52 pt hb,λO B σ H env s Q R e q=>?_⟩
 obtain ⟨r,e1,e2⟩:=bind_some e
 obtain ⟨d,e3,rfl⟩:=map_some e2
 refine k O B σ H env r _ R e1 λv H1 s1 r1=>?_
 have hi:=r1.is λq=>R.oo
 cases hd:r.d with
 | obj c ns ds =>
  rw [hd] at hi e3
  obtain ⟨hm,e4⟩:=Kp (show (if c∈cs then (ns.zip ds).lookup f else none)=some d from e3)
  cases hi with
  | obj ho hn hp hl hs =>
   obtain ⟨u,hu,iu⟩:=YD hs e4
   obtain ⟨c1,c2⟩:=hc c hm _ hn
   exact ⟨_,_,_,_,u,rfl,hp,c1,c2,hu,q u H1 s1 iu⟩
 | _=>rw [hd] at e3;cases e3
noncomputable def X3(X:Cx)(m:Str)(j:Nat)(ta:TE)(t:TA):TE:=λσ H Q=>ta σ H λx H1=>∃a C dx fs f fd ps sp,x=.ref a/\H1 a=some (.ins C dx fs)/\A3 X.K C/\bL X.K C m f/\fs.lookup m=none/\Binds X.K fd ps []/\dh X.prog X.w X.K X.mg X.base pB j f fd ps sp /\
 t σ H1 λvs H2=>sp (x::vs) H2 Q E0
theorem b4p{pl:Sem Bool}{j:Nat}{ta:TE}{t:TA}(he:PE X o ta)(hr:c8 j X.A)(ha:PA X (e::es) t)
  (A9:starEach (e::es) X.env=(false,eval e X.env)::starEach es X.env:=by rfl)(nP:(backTo pos (starEach es X.env)).any (·.1)=false:=by rfl)
  (ht:eval (.Call (.Attribute o m apos) (e::es) [] pos) X.env=(eval o X.env >>= λov=>standAt apos.atName >>= λ_=>holding [ov] (getMethod ov m pl) >>= λz=>callWith pos z.1 z.2 (backTo pos (starEach (e::es) X.env)) (backToKw pos (keywordEach [] X.env))):=by rfl):
  PE X (.Call (.Attribute o m apos) (e::es) [] pos) (X3 X m j ta t):=by
 intro pins s σ H Q I h
 refine Xr (pl:=pl) (cM (he pins s σ H _ I h) λu s1 ⟨x,H1,I1,rx,a,C,dx,fs,f,fd,ps,sp,ex,ea,c,hm,l,hb,F,q⟩=>?_) ht
 subst ex
 obtain rfl:u=e8 a:=rx
 refine a7D I1 ea c hm l (RE (first:=[.ref a]) (h₀:=X.base) I.ok.mod.HI hm.kp (cM (ha pos pins s1 σ H1 _ I1 q) λus s2 ⟨vs,H2,I2,r,q2⟩=>⟨I2.Ay,?_⟩) A9 nP)
 exact SO (us:=.ref a::us) (vs:=.ref a::vs) (dvs:=[]) (E:=E0) F hr hb .nil Km I2 (.cons rfl r) (by rw [E4];exact q2)
theorem b2s{pl:Sem Bool}{j:Nat}{ta:TE}(he:PE X o ta)(hr:c8 j X.A)
  (ht:eval (.Call (.Attribute o m apos) [] [] pos) X.env=(eval o X.env >>= λov=>standAt apos.atName >>= λ_=>holding [ov] (getMethod ov m pl) >>= λz=>callWith pos z.1 z.2 (backTo pos (starEach [] X.env)) (backToKw pos (keywordEach [] X.env))):=by rfl):
  PE X (.Call (.Attribute o m apos) [] [] pos) (X3 X m j ta M4):=by
 intro pins s σ H Q I h
 refine Xr (pl:=pl) (cM (he pins s σ H _ I h) λu s1 ⟨x,H1,I1,rx,a,C,dx,fs,f,fd,ps,sp,ex,ea,c,hm,l,hb,F,q⟩=>?_) ht
 subst ex
 obtain rfl:u=e8 a:=rx
 exact a7D I1 ea c hm l (PySem.W.callWith_K0 (first:=[.ref a]) I1.Ay hm.kp (SO (us:=[.ref a]) (vs:=[.ref a]) (dvs:=[]) (E:=E0) F hr hb .nil Km I1 (.cons rfl .nil) q))
noncomputable abbrev bh:=List (Str×(List D->Option Sl))
def MT(X:Cx)(m:Str)(n j:Nat)(tab:bh):Prop:=∀c φ,tab.lookup c=some φ->Ft X.K c λC=>∃f fd ps,bL X.K C m f/\ps.length=n/\Binds X.K fd ps []/\dh X.prog X.w X.K X.mg X.base pB j f fd ps (Bs X.K n φ)
noncomputable def gr(m:Str)(n:Nat)(tab:bh)(d:D)(as:List D):Option Sl:=match d with
 | .obj c ns ds=>if m∈ns\/as.length+1≠n then none else (tab.lookup c).bind λφ=>φ (.obj c ns ds::as)
 | _=>none
noncomputable def qO(m:Str)(n:Nat)(tab:bh)(fo:En->Option Sl)(fa:En->Option (List D)):En->Option Sl:=λenv=>(fo env).bind λr=>(fa env).bind λas=>gr m n tab r.d as
theorem a8I{t:TE}{u:TA}{n j:Nat}{tab:bh}(T:MT X m n j tab)
  (k:∀(O:Addr->Prop) (B:Hp) (σ:L2.St) (H:Hp) (env:En) (r:Sl) (Q:VK),Rel X.K O B σ H env->fo env=some r->(∀v H',aO H H'->Res X.K (OO O σ env) H H' v r->Q v H')->t σ H Q)
  (ka:∀(O:Addr->Prop) (B:Hp) (σ:L2.St) (H:Hp) (env:En) (ds:List D) (Q:List V->Hp->Prop),Rel X.K O B σ H env->fs env=some ds->(∀vs H',aO H H'->bp X.K (OO O σ env) H' vs ds->Q vs H')->u σ H Q)
  (O:Addr->Prop)(B:Hp)(σ:L2.St)(H:Hp)(env:En)(s:Sl)(Q:VK)(R:Rel X.K O B σ H env)(e:qO m n tab fo fs env=some s)(q:∀v H',aO H H'->Res X.K (OO O σ env) H H' v s->Q v H'):X3 X m j t u σ H Q:=by
 obtain ⟨r,e1,e2⟩:=bind_some e
 obtain ⟨as,e3,e4⟩:=bind_some e2
 refine k O B σ H env r _ R e1 λv H1 s1 r1=>?_
 have hi:=r1.is λq=>R.oo
 cases hd:r.d with
 | obj c ns ds =>
  rw [hd] at hi e4
  unfold gr at e4
  dsimp only at e4
  split at e4
  .cases e4
  .rename_i Cj
   rw [not_or] at Cj
   obtain ⟨φ,e5,e6⟩:=bind_some e4
   have xT:=hi
   cases hi with
   | obj ho hn hp hl hs =>
    obtain ⟨c1,f,fd,ps,c2,c3,c4,c5⟩:=T c φ e5 _ hn
    refine ⟨_,_,_,_,f,fd,ps,_,rfl,hp,c1,c2,b0q Cj.1,c4,c5,?_⟩
    refine ka O B σ H1 env as _ (R.grow s1) e3 λvs H2 s2 r2=>?_
    have nl:as.length+1=n:=c6y.mp Cj.2
    exact ⟨OO O σ env,_,s,((R.grow s1).grow s2).dm,.cons (xT.grow s2) r2,by rw [lI,r2.length];exact nl,e6,λv H3 s3 r3=>q v H3 ((s1.trans s2).trans s3) (r3.from (s1.trans s2))⟩
 | _=>rw [hd] at e4;cases e4
theorem b71{n j:Nat}{tab:bh}{pl:Sem Bool}(ho:EV X o fo)(ha:AV X (e::es) fs)(hr:c8 j X.A)(T:MT X m n j tab)
  (A9:starEach (e::es) X.env=(false,eval e X.env)::starEach es X.env:=by rfl)(nP:(backTo pos (starEach es X.env)).any (·.1)=false:=by rfl)
  (ht:eval (.Call (.Attribute o m apos) (e::es) [] pos) X.env=(eval o X.env >>= λov=>standAt apos.atName >>= λ_=>holding [ov] (getMethod ov m pl) >>= λz=>callWith pos z.1 z.2 (backTo pos (starEach (e::es) X.env)) (backToKw pos (keywordEach [] X.env))):=by rfl):
  EV X (.Call (.Attribute o m apos) (e::es) [] pos) (qO m n tab fo fs):=by
 obtain ⟨t,pt,k⟩:=ho
 obtain ⟨u,pu,ka⟩:=ha
 exact ⟨_,b4p pt hr pu A9 nP ht,λO B σ H env s Q R e q=>a8I T k ka O B σ H env s Q R e q⟩
theorem b4V{n j:Nat}{tab:bh}{pl:Sem Bool}(ho:EV X o fo)(hr:c8 j X.A)(T:MT X m n j tab)
  (ht:eval (.Call (.Attribute o m apos) [] [] pos) X.env=(eval o X.env >>= λov=>standAt apos.atName >>= λ_=>holding [ov] (getMethod ov m pl) >>= λz=>callWith pos z.1 z.2 (backTo pos (starEach [] X.env)) (backToKw pos (keywordEach [] X.env))):=by rfl):
  EV X (.Call (.Attribute o m apos) [] [] pos) (qO m n tab fo ag):=by
 obtain ⟨t,pt,k⟩:=ho
 refine ⟨_,b2s pt hr ht,λO B σ H env s Q R e q=>a8I T k (λO B σ H env ds Q R e q=>?_) O B σ H env s Q R e q⟩
 obtain rfl:=lH (show some []=some ds from e)
 exact q [] H (aO.refl _) .nil
noncomputable def K3(K:aX)(C:Addr)(n:Nat)(ns:List Str)(ψ:List D->Option (List D)):Sp:=λvs H Q _=>∃(O:Addr->Prop) (p dx:Addr) (ws:List V) (ds fs:List D),vs=.ref p::ws/\ws.length=n/\H p=some (.ins C dx [])/\IP K O H/\O p/\bp K O H ws ds/\ψ ds=some fs /\
 ∀(us:List V) (H':Hp),ns.length=us.length->(∀q u,H q=some u->q≠p->H' q=some u)->H' p=some (.ins C dx (ns.zip us))->bp K O H' us fs->Q .cT H'
noncomputable def z6(c:Str)(n:Nat)(ns:List Str)(ψ:List D->Option (List D))(fa:En->Option (List D)):En->Option Sl:=λenv=>(fa env).bind λas=>if as.length=n then (ψ as).map λds=>Sl.sh (.obj c ns ds) else none
theorem OY{c:Str}{C f:Addr}{fd:FuncData}{ps:List Str}{n j:Nat}{ns:List Str}{ψ:List D->Option (List D)}(M:Mk X.K C f)(F:dh X.prog X.w X.K X.mg X.base pB j f fd ps (K3 X.K C n ns ψ))(hr:c8 (j+1) X.A)(hg:Gl X c)(hm:X.mg c=some (.ref C))(hn:lK X.K mainGlobals c=some (some (.ref C)))(hb:Binds X.K fd ps [])
  (ha:AV X (e::es) fs)(ql:(c==("__debug__":Str))=false:=by decide)(he:starEach (e::es) X.env=(false,eval e X.env)::starEach es X.env:=by rfl)(nP:(backTo pos (starEach es X.env)).any (·.1)=false:=by rfl):
  EV X (.Call (.Name c p) (e::es) [] pos) (z6 c n ns ψ fs):=by
 obtain ⟨t,pt,ka⟩:=ha
 refine ⟨_,b7b M F hr hg hm hb .nil (Km (X:=X)) pt ql he nP,λO B σ H env r Q R e q=>?_⟩
 obtain ⟨as,e1,e2⟩:=bind_some e
 obtain ⟨hl,e3⟩:=Kp e2
 obtain ⟨gs,e4,rfl⟩:=map_some e3
 refine ka O B σ H env as _ R e1 λvs H1 s1 r1=>?_
 intro x dx nx ndx ne
 have nO:¬OO O σ env x:=λz=>(R.grow s1).oo z nx
 have up1:∀q u,H1 q=some u->upd (upd H1 dx (.own x)) x (.ins C dx []) q=some u:=λq u e=>by rw [jw (Dr e nx),jw (Dr e ndx)];exact e
 refine ⟨λq=>OO O σ env q\/q=x,x,dx,vs,as,gs,by rw [E4],by rw [r1.length];exact hl,yB,⟨λq hq=>?_,(R.grow s1).dm.2.grow λq u e=>up1 q u e⟩,.inr rfl,r1.map (λq hq hn z=>z.elim hn λe=>hq (by rw [e];exact nx)) λq u e _=>up1 q u e,e4,λus H' xS kp hp hs=>⟨rfl,?_⟩⟩
 .rcases hq with hq | rfl
  .cases hz:H1 q with
   | none=>exact absurd hz ((R.grow s1).oo hq)
   | some u=>rw [up1 q u hz];exact λz=>nomatch z
  .rw [yB];exact λz=>nomatch z
 .have sm:aO H1 H':=λq u e=>kp q u (up1 q u e) (Dr e nx)
  exact q _ H' (s1.trans sm) (Is.obj nO hn hp xS (hs.less λq z=>.inl z))
def IM(X:Cx)(t7:List Stmt)(C:Addr)(F:En->List Str->List D->Option (List Str×List D)):Prop:=
 ∃t:TS,Bm X t7 t/\∀(O:Addr->Prop) (σ:L2.St) (H:Hp) (env:En) (p dx:Addr) (ns:List Str) (us:List V) (ds:List D) (nZ:List Str) (ds':List D) (Dn:Ends),Rel X.K O H σ H env->(∀(i:Nat) s,env[i]?=some s->¬s.own)->O p->σ[0]?=some (some (V.ref p))->H p=some (.ins C dx (ns.zip us))->ns.length=us.length->bp X.K O H us ds->F env ns ds=some (nZ,ds') ->
  (∀(H':Hp) (A7:List V),(∀q u,H q=some u->q≠p->H' q=some u)->H' p=some (.ins C dx (nZ.zip A7))->nZ.length=A7.length->bp X.K O H' A7 ds'->Dn.nx σ H')->t Dn σ H
noncomputable def l7:En->List Str->List D->Option (List Str×List D):=λ_ ns ds=>some (ns,ds)
noncomputable def dH(f:Str)(fe:En->Option Sl)(F:En->List Str->List D->Option (List Str×List D)):En->List Str->List D->Option (List Str×List D):=λenv ns ds=>(fe env).bind λr=>if f∈ns\/900<ns.length then none else F env (ns++[f]) (ds++[r.d])
theorem Dl{C:Addr}:IM X [] C l7:=⟨_,Yf,λO σ H env p dx ns us ds nZ ds' Dn R no op hs hp hl hi e q=>by
 cases (show some (ns,ds)=some (nZ,ds') from e)
 exact q H us (λ_ _ e _=>e) hp hl hi⟩
theorem c0s{C:Addr}{fe:En->Option Sl}{F:En->List Str->List D->Option (List Str×List D)}{t7:List Stmt}{x:Str}{p1 pos':Pos}(hv:EV X e fe)(hr:IM X t7 C F)(c:A3 X.K C)(n:aa X.K C f)
  (hN:X.N[0]?=some x)(oZ:l4 X.env.scope x)(hd:(x==("__debug__":Str))=false:=by rfl)(de:(x==("__classdict__":Str))=false:=by rfl)
  (hs:swapsWith e (some (.Attribute (.Name x p1) f pos')) pos.line X.env=pure false:=by rfl):IM X (.Assign [.Attribute (.Name x p1) f pos'] e pos::t7) C (dH f fe F):=by
 obtain ⟨t,pt,k⟩:=hv
 obtain ⟨u,pu,ku⟩:=hr
 refine ⟨_,Mc (b5Y (Bi hN oZ hd de) pt hs) pu,λO σ H env p dx ns us ds nZ ds' Dn R no op hs hp hl hi e q=>?_⟩
 obtain ⟨r,e1,e2⟩:=bind_some e
 split at e2
 .cases e2
 rename_i Cj
 rw [not_or] at Cj
 have BG:∀q,zP σ env q->False:=λq ⟨i,s,h1,h2,_⟩=>no i s h1 h2
 refine k O H σ H env r _ R e1 λv H1 s1 r1=>?_
 have iv:=(r1.is λq=>R.oo).less (O':=O) λq z=>.inl z
 refine ⟨.ref p,hs,p,C,dx,ns.zip us,rfl,s1 _ _ hp,c,n,by rw [Dd];omega,?_⟩
 rw [Yg Cj.1 hl]
 have kp:∀q u,H1 q=some u->q≠p->upd H1 p (.ins C dx ((ns++[f]).zip (us++[v]))) q=some u:=λq u e ne=>by rw [jw ne];exact e
 have mp:∀{w:V} {d:D},Is X.K O H1 w d->Is X.K O (upd H1 p (.ins C dx ((ns++[f]).zip (us++[v])))) w d:=λh=>h.map (λ_ _ z=>z) λq u e nq=>kp q u e λz=>nq (by rw [z];exact op)
 have Vm:∀{w:List V} {d:List D},bp X.K O H1 w d->bp X.K O (upd H1 p (.ins C dx ((ns++[f]).zip (us++[v])))) w d:=λh=>h.map (λ_ _ z=>z) λq u e nq=>kp q u e λz=>nq (by rw [z];exact op)
 refine ku O σ _ env p dx (ns++[f]) (us++[v]) (ds++[r.d]) nZ ds' Dn ⟨aO.refl _,⟨λq hq=>?_,λc' P e'=>?_⟩,R.len,λi d e=>?_,λi es e=>(no i _ e trivial).elim,λi es e=>(no i _ e trivial).elim,λi ks es e=>(no i _ e trivial).elim,λi j es fs q e1 _ _ _ o _=>(no i _ e1 o).elim⟩ no op hs yB (by rw [ma,ma,hl];rfl) ((Vm (hi.grow s1)).append (.cons (mp iv) .nil)) e2 λH' A7 kq GU xS xT=>q H' A7 (λq u e ne=>kq q u (kp q u (s1 _ _ e) ne) ne) GU xS xT
 .by_cases z:q=p
  .rw [z,yB];exact λz=>nomatch z
  .rw [jw z]
   cases hz:H q with
   | none=>exact absurd hz (R.AF.1 q hq)
   | some u=>rw [s1 _ _ hz];exact λz=>nomatch z
 .have e3:=R.AF.2 c' P e'
  exact kp _ _ (s1 _ _ e3) λz=>by rw [z,hp] at e3;cases e3
 .obtain ⟨w,f1,f2⟩:=R.sh i d e
  refine ⟨w,f1,(mp ((f2.grow s1).less λq z=>.inl z)).less λq z=>z.elim id λz=>(BG q z).elim⟩
end
section
variable {P:Program}{w:World}{K:aX}{mg:Str->Option Value}{base:Heap}
noncomputable def fL(F:En->List Str->List D->Option (List Str×List D))(N:Nat)(ns:List Str)(ds:List D):Option (List D):=match F (.no::zy (N-1) ds) [] [] with
 | some (nZ,fs)=>if nZ=ns then some fs else none
 | none=>none
theorem b3j{qual:Str}{st:Stmt}{f C:Addr}{fd:FuncData}{N ps:List Str}{k n:Nat}{ns:List Str}{F:En->List Str->List D->Option (List Str×List D)}(Fn:Fs K "__init__" qual st f fd)(S:dN N ps (hX st))(C4:ps.length=n+1)(hN:1<=N.length)
  (dz:∀X:Cx,X.prog=P->X.w=w->X.K=K->X.mg=mg->X.base=base->Fx X N (hX st) k->IM X (pD st) C F):dh P w K mg base pB (k+1) f fd ps (K3 K C n ns (fL F N.length ns)):=by
 refine Fn.ok S (λvs H Q E h=>?_) (λgZ A outer s H vs Q E hr h=>?_)
 .obtain ⟨O,p,dx,ws,ds,fs,rfl,hl,_⟩:=h
  rw [lI,hl,C4]
 obtain ⟨O,p,dx,ws,ds,fs,rfl,hl,hp,dm,op,hi,e,q⟩:=h
 obtain ⟨t,pt,kk⟩:=dz (z7 pB P w K mg base N qual (hX st) f gZ A outer s H E).tX rfl rfl rfl rfl rfl ⟨rfl,rfl,rfl,λ_ _=>rfl,Pn,hr,S.nd,λ_=>⟨rfl,rfl,rfl⟩⟩
 refine ⟨t,pt,?_⟩
 have R0:=YI (N:=N.tail) dm hi
 have R1:=b0D (some (V.ref p)) R0
 have es:some (V.ref p)::start N.tail ws=start N (V.ref p::ws):=by
  unfold L2.start
  rw [fH,Lw,RM,lI,Nat.sub_sub,Nat.add_comm 1]
 rw [es,RM] at R1
 unfold fL at e
 cases hF:F (.no::zy (N.length-1) ds) [] [] with
 | none=>rw [hF] at e;cases e
 | some y =>
  obtain ⟨nZ,G4⟩:=y
  rw [hF] at e
  obtain ⟨rfl,rfl⟩:=oi (show (if nZ=ns then some G4 else none)=some fs from e)
  refine kk O _ H _ p dx [] [] [] nZ G4 _ R1 (λi s h1 h2=>?_) op rfl hp rfl .nil hF λH' A7 kp GU xS xT=>q A7 H' xS kp GU xT
  cases i with
  | zero=>cases h1;exact h2
  | succ i =>
   have h1:(zy (N.length-1) ds)[i]?=some s:=by simpa using h1
   unfold zy at h1
   rw [Sj] at h1
   split at h1
   .rw [zq] at h1
    obtain ⟨d,_,e⟩:=map_some h1
    cases e
    exact h2
   .rw [LG] at h1
    split at h1
    .cases h1;exact h2
    .cases h1
end
end DL
namespace DL
open PySem PySem.Spec PyProof.Rows L2
structure jQ(K:aX)(c:Str)(C:Addr):Prop where
 a:lK K mainGlobals c=some (some (.ref C))
 c:A3 K C
theorem jQ.n{K:aX}{c:Str}{C:Addr}{P:Addr->Prop}(h:jQ K c C)(p:P C):Ft K c P:=λC' e=>by
 rw [h.a] at e
 cases e
 exact ⟨h.c,p⟩
def FL(K:aX)(f:Str)(cs:List Str):Prop:=∀c∈cs,Ft K c λC=>aa K C f
theorem DM{K:aX}{f:Str}:FL K f []:=λ_ h=>nomatch h
theorem bb{K:aX}{f c:Str}{C:Addr}{cs:List Str}(h:jQ K c C)(n:aa K C f)(T:FL K f cs):FL K f (c::cs):=λc' hc=>by
 rcases js.mp hc with rfl | hc
 .exact h.n n
 .exact T c' hc
structure cP(K:aX)(f:Addr)(x qual:Str)(st:Stmt)(ps:List Str)(fd:FuncData):Prop where
 fn:Fs K x qual st f fd
 bd:Binds K fd ps []
def Om(P:Program)(w:World)(K:aX)(mg:Str->Option Value)(base:Heap)(f:Addr)(x qual:Str)(st:Stmt)(ps:List Str)(j:Nat)(φ:List D->Option Sl):Prop:=∃fd,cP K f x qual st ps fd/\dh P w K mg base pB j f fd ps (Bs K ps.length φ)
theorem yM{P:Program}{w:World}{K:aX}{mg:Str->Option Value}{base:Heap}{x qual:Str}{st:Stmt}{f:Addr}{fd:FuncData}{N ps:List Str}{k:Nat}{F:SF}(D':cP K f x qual st ps fd)
  (dz:∀X:Cx,Sx X P w K mg base->Fx X N (hX st) k->Ap X (pD st) F)(S:dN N ps (hX st):=by exact ⟨rfl,rfl,rfl,by decide +kernel,rfl,by decide +kernel,by decide +kernel⟩):Om P w K mg base f x qual st ps (k+1) (cn F N.length):=
 ⟨fd,D',OS D'.fn S λX e1 e2 e3 e4 e5=>by subst e1 e2 e3 e4 e5;exact dz X (.mk X)⟩
def qU(P:Program)(w:World)(K:aX)(mg:Str->Option Value)(base:Heap)(m:Str)(n j:Nat)(tab:bh):Prop:=∀c φ,tab.lookup c=some φ->Ft K c λC=>∃f fd ps,bL K C m f/\ps.length=n/\Binds K fd ps []/\dh P w K mg base pB j f fd ps (Bs K n φ)
section
variable {P:Program}{w:World}{K:aX}{mg:Str->Option Value}{base:Heap}{m c:Str}{n j:Nat}{tab:bh}
theorem Hl:qU P w K mg base m n j []:=λc φ e=>nomatch e
theorem eI{C f:Addr}{x qual:Str}{st:Stmt}{ps:List Str}{i:Nat}{φ:List D->Option Sl}(h:jQ K c C)(hm:bL K C m f)(O:Om P w K mg base f x qual st ps i φ)(T:qU P w K mg base m n j tab)(hj:i<=j:=by decide)(hl:ps.length=n:=by rfl):qU P w K mg base m n j ((c,φ)::tab):=λc' φ' e=>by
 rw [Be] at e
 by_cases z:(c'==c)=true
 .rw [z] at e
  cases e
  obtain rfl:c'=c:=by simpa using z
  obtain ⟨fd,D',F⟩:=O
  exact h.n ⟨f,fd,ps,hm,hl,D'.bd,by rw [<-hl];exact F.mono hj⟩
 .rw [W3] at z
  rw [z] at e
  exact T c' φ' e
theorem Vo{X X':Cx}(e1:X'.prog=X.prog)(e2:X'.w=X.w)(e3:X'.K=X.K)(e4:X'.mg=X.mg)(e5:X'.base=X.base)(T:qU X.prog X.w X.K X.mg X.base m n j tab):qU X'.prog X'.w X'.K X'.mg X'.base m n j tab:=by
 rw [e1,e2,e3,e4,e5];exact T
end
structure FM(K:aX)(n q:Str)(t:Stmt)(f:Addr)(od an:Option Addr)(sl:Array (Option Value))(oc kV dc pm cd ct:Value):Prop where
 l:K.lookup f=some ⟨oc,od,.func (zm n q (Ab t) (pD t) (hX t) .none kV dc pm an cd ct),sl⟩
 c:Pu K cd q=true
 k:vY K (.ref f)=true
theorem lp{K:aX}{n q:Str}{t:Stmt}{f:Addr}{od an:Option Addr}{sl:Array (Option Value)}{oc kV dc pm cd ct:Value}{ps:List Str}(i:FM K n q t f od an sl oc kV dc pm cd ct)(hb:∀(kV doc pm:Value) (an:Option Addr) (gZ ct:Value) (us:List Value),us.length=ps.length->bindArgs (zm n q (Ab t) (pD t) (hX t) .none kV doc pm an gZ ct) ⟨us,[]⟩=pure (ps.zip us)):
  cP K f n q t ps (zm n q (Ab t) (pD t) (hX t) .none kV dc pm an cd ct):=⟨SK i.l i.c i.k,(SK i.l i.c i.k).binds hb⟩
def pz(P:Program)(w:World)(K:aX)(mg:Str->Option Value)(base:Heap)(c:Str)(n:Nat)(ns:List Str)(j:Nat)(ψ:List D->Option (List D)):Prop:=∃C f fd ps,Mk K C f/\dh P w K mg base pB j f fd ps (K3 K C n ns ψ)/\mg c=some (.ref C)/\lK K mainGlobals c=some (some (.ref C))/\Binds K fd ps []
theorem FG{P:Program}{w:World}{K:aX}{mg:Str->Option Value}{base:Heap}{c qual:Str}{st:Stmt}{f C:Addr}{fd:FuncData}{N ps:List Str}{k n:Nat}{ns:List Str}{F:En->List Str->List D->Option (List Str×List D)}(h:jQ K c C)(hm:mg c=some (.ref C))(M:Mk K C f)(D':cP K f "__init__" qual st ps fd)
  (dz:∀X:Cx,Sx X P w K mg base->Fx X N (hX st) k->IM X (pD st) C F)(C4:ps.length=n+1:=by rfl)(hN:1<=N.length:=by decide)(S:dN N ps (hX st):=by exact ⟨rfl,rfl,rfl,by decide +kernel,rfl,by decide +kernel,by decide +kernel⟩):pz P w K mg base c n ns (k+1) (fL F N.length ns):=
 ⟨C,f,fd,ps,M,b3j D'.fn S C4 hN λX e1 e2 e3 e4 e5=>by subst e1 e2 e3 e4 e5;exact dz X (.mk X),hm,h.a,D'.bd⟩
section
variable {X:Cx}{N:List Str}{sc:Scope}{k j n:Nat}{full:Bool}{e o:Expr}{es:List Expr}{m c f:Str}{pos p apos pos' p1:Pos}{fo fe:En->Option Sl}{fs:En->Option (List D)}{tab:bh}
theorem Fx.mt(h:Fx X N sc k full)(T:qU X.prog X.w X.K X.mg X.base m n j tab)(ho:EV X o fo)(ha:AV X (e::es) fs)(hj:j<=k:=by decide){pl:Sem Bool}
  (A9:starEach (e::es) X.env=(false,eval e X.env)::starEach es X.env:=by rfl)(nP:(backTo pos (starEach es X.env)).any (·.1)=false:=by rfl)
  (ht:eval (.Call (.Attribute o m apos) (e::es) [] pos) X.env=(eval o X.env >>= λov=>standAt apos.atName >>= λ_=>holding [ov] (getMethod ov m pl) >>= λz=>callWith pos z.1 z.2 (backTo pos (starEach (e::es) X.env)) (backToKw pos (keywordEach [] X.env))):=by rfl):
  EV X (.Call (.Attribute o m apos) (e::es) [] pos) (qO m n tab fo fs):=b71 (pl:=pl) ho ha (h.room.mono hj) T A9 nP ht
theorem Fx.Dx(h:Fx X N sc k full)(T:qU X.prog X.w X.K X.mg X.base m n j tab)(ho:EV X o fo)(hj:j<=k:=by decide){pl:Sem Bool}
  (ht:eval (.Call (.Attribute o m apos) [] [] pos) X.env=(eval o X.env >>= λov=>standAt apos.atName >>= λ_=>holding [ov] (getMethod ov m pl) >>= λz=>callWith pos z.1 z.2 (backTo pos (starEach [] X.env)) (backToKw pos (keywordEach [] X.env))):=by rfl):
  EV X (.Call (.Attribute o m apos) [] [] pos) (qO m n tab fo ag):=b4V (pl:=pl) ho (h.room.mono hj) T ht
theorem Fx.BH{ns:List Str}{ψ:List D->Option (List D)}(h:Fx X N sc k full)(T:pz X.prog X.w X.K X.mg X.base c n ns j ψ)(ha:AV X (e::es) fs)(hj:j+1<=k:=by decide)(hg:sc.names.lookup c=some .globalImplicit:=by rfl)(ql:(c==("__debug__":Str))=false:=by rfl)
  (he:starEach (e::es) X.env=(false,eval e X.env)::starEach es X.env:=by rfl)(nP:(backTo pos (starEach es X.env)).any (·.1)=false:=by rfl):EV X (.Call (.Name c p) (e::es) [] pos) (z6 c n ns ψ fs):=by
 obtain ⟨C,f,fd,ps,M,F,hm,hn,hb⟩:=T
 exact OY M F (h.room.mono hj) (h.g hg) hm hn hb ha ql he nP
theorem Fx.g9{C:Addr}{t7:List Stmt}{F:En->List Str->List D->Option (List Str×List D)}{x:Str}(h:Fx X N sc k full)(c:A3 X.K C)(n:aa X.K C f)(hv:EV X e fe)(hr:IM X t7 C F)(hN:N[0]?=some x:=by rfl)(oZ:l4 sc x:=by first | exact dY rfl | exact cO (dY rfl) | exact cO (cO rfl))(hd:(x==("__debug__":Str))=false:=by rfl)(de:(x==("__classdict__":Str))=false:=by rfl)
  (hs:swapsWith e (some (.Attribute (.Name x p1) f pos')) pos.line X.env=pure false:=by rfl):IM X (.Assign [.Attribute (.Name x p1) f pos'] e pos::t7) C (dH f fe F):=c0s hv hr c n (h.ix hN) (h.A6 oZ) hd de hs
end
structure IsF(K:aX)(C R:Addr)(b:Bool):Prop where
 ha:aA K (.ref C) "__class__" = some (some (.builtin "object.__class__"))
 hn:PD K (.builtin "object.__class__") "__get__" = some (some (.builtin "getset_descriptor.__get__"))
 ht:c6K K (.builtin "object.__class__")=some true
 hm:PySem.W.mroIn K C (.type "object")=some true
 k:PySem.W.kitOne K (.ref C) (.ref R)=some b
noncomputable def N8(tab:List (Str×Bool)):D->Option Sl
 | .obj c _ _=>(tab.lookup c).map λb=>.sh (.bl b)
 | _=>none
noncomputable def Wq(tab:List (Str×Bool))(fo:En->Option Sl):En->Option Sl:=λenv=>(fo env).bind λr=>N8 tab r.d
section
variable {X:Cx}{a:Expr}{p p2 pos:Pos}{fa:En->Option Sl}
end
end DL
namespace DL
open PySem PySem.Spec PyProof.Rows L2
noncomputable def pq{α:Type}:List Str->List α->Str->Option α
 | k::ks,x::xs,y=>if k=y then some x else pq ks xs y
 | _,_,_=>none
noncomputable def nY{α:Type}:List Str->List α->Str->α->List α
 | k::ks,x::xs,y,z=>(if k=y then z else x)::nY ks xs y z
 | _,xs,_,_=>xs
noncomputable def Dj(ks:List Str)(y:Str):List Str:=if y∈ks then ks else ks++[y]
noncomputable def Dk{α:Type}(ks:List Str)(xs:List α)(y:Str)(z:α):List α:=if y∈ks then nY ks xs y z else xs++[z]
theorem LX:∀(ks:List Str) (vs:List V) (k:Str),pG ((ks.zip vs).map λq=>((.inr q.1:Key),q.2)) (.inr k)=pq ks vs k
 | [],_,_=>rfl
 | _::_,[],_=>rfl
 | n::ks,v::vs,k=>by
  unfold pG
  rw [Ih,fH,Kb,pq]
  by_cases h:n=k
  .simp [h]
  .have:¬((DC n:Key)=.inr k):=λz=>h (Pk z)
   simp only [this,decide_false,if_neg h]
   exact LX ks vs k
theorem c03:∀(ks:List Str) (vs:List V) (k:Str),ks.length=vs.length->(((ks.zip vs).map λq=>((.inr q.1:Key),q.2)).any λkv=>decide (kv.1=(.inr k:Key)))=decide (k∈ks)
 | [],_,_,_=>by simp
 | _::_,[],_,h=>by cases h
 | n::ks,v::vs,k,h=>by
  rw [Ih,fH,Rr,c03 ks vs k (by simpa using h)]
  by_cases e:n=k
  .simp [e]
  .have:¬((DC n:Key)=.inr k):=λz=>e (Pk z)
   have e':¬(k=n):=λz=>e z.symm
   simp [this,e']
theorem c0c:∀(ks:List Str) (vs:List V) (k:Str) (v:V),((ks.zip vs).map λq=>((.inr q.1:Key),q.2)).map (λkv=>if kv.1=(.inr k:Key) then (kv.1,v) else kv)=(ks.zip (nY ks vs k v)).map λq=>((.inr q.1:Key),q.2)
 | [],_,_,_=>rfl
 | _::_,[],_,_=>rfl
 | n::ks,x::vs,k,v=>by
  rw [nY,Ih,Ih,fH,fH,fH,c0c ks vs k v]
  by_cases e:n=k
  .have:(DC n:Key)=.inr k:=by rw [e]
   simp [this,e]
  .have:¬((DC n:Key)=.inr k):=λz=>e (Pk z)
   simp [this,e]
theorem b0y{α:Type}:∀(ks:List Str) (xs:List α) (y:Str) (z:α),(nY ks xs y z).length=xs.length
 | [],xs,_,_=>by cases xs<;>rfl
 | _::_,[],_,_=>rfl
 | k::ks,x::xs,y,z=>by rw [nY,lI,lI,b0y ks xs y z]
theorem b0E{α:Type}{ks:List Str}{xs:List α}(h:ks.length=xs.length)(y:Str)(z:α):(Dj ks y).length=(Dk ks xs y z).length:=by
 unfold Dj Dk
 split
 .rw [b0y];exact h
 .rw [ma,ma,h];rfl
theorem b9F{ks:List Str}{vs:List V}(h:ks.length=vs.length)(k:Str)(v:V):HO.dK (putK ((ks.zip vs).map λq=>((.inr q.1:Key),q.2)) (.inr k) v)=wD (Dj ks k) (Dk ks vs k v):=by
 unfold putK Dj Dk
 rw [c03 ks vs k h]
 by_cases e:k∈ks
 .simp only [e,decide_true,if_true]
  congr 1
  exact c0c ks vs k v
 .simp only [e,decide_false,if_false]
  congr 1
  rw [List.zip_append h,Ak]
  rfl
theorem bp.nY{K:aX}{O:Addr->Prop}{H:Hp}{y:Str}{v:V}{d:D}(h:Is K O H v d):∀{ks:List Str} {vs:List V} {ds:List D},bp K O H vs ds->bp K O H (DL.nY ks vs y v) (DL.nY ks ds y d)
 | [],_,_,.nil=>.nil
 | [],_,_,.cons a t=>.cons a t
 | _::_,_,_,.nil=>.nil
 | k::ks,_,_,.cons a t=>by
  unfold DL.nY
  refine .cons ?_ (bp.nY h t)
  split
  .exact h
  .exact a
theorem bp.Vc{K:aX}{O:Addr->Prop}{H:Hp}{y:Str}{v:V}{d:D}(h:Is K O H v d){ks:List Str}{vs:List V}{ds:List D}(t:bp K O H vs ds):bp K O H (Dk ks vs y v) (Dk ks ds y d):=by
 unfold Dk
 split
 .exact bp.nY h t
 .exact t.append (.cons h .nil)
theorem LV{K:aX}{O:Addr->Prop}{H:Hp}{y:Str}:∀{ks:List Str} {vs:List V} {ds:List D},bp K O H vs ds->(pq ks ds y=none/\pq ks vs y=none)\/∃v d,pq ks ds y=some d/\pq ks vs y=some v/\Is K O H v d
 | [],_,_,_=>.inl ⟨by cases ‹List D›<;>rfl,by cases ‹List V›<;>rfl⟩
 | _::_,_,_,.nil=>.inl ⟨rfl,rfl⟩
 | k::ks,_,_,.cons a t=>by
  unfold pq
  split
  .exact .inr ⟨_,_,rfl,rfl,a⟩
  .exact LV t
noncomputable def Im:Option Sl->Option Str
 | some (.sh (.str n))=>some n
 | _=>none
theorem Ql{o:Option Sl}{n:Str}(h:Im o=some n):o=some (.sh (.str n)):=by
 unfold Im at h
 split at h
 .cases h;rfl
 .cases h
section
variable {X:Cx}{e a b k v:Expr}{fa fb fk fv:En->Option Sl}{pos p1 p2 aB:Pos}{i:Nat}{x:Str}
noncomputable def Wn:En->Option Sl:=λ_=>some (.tw [] [])
theorem b7X:EV X (.Dict [] [] pos) Wn:=⟨_,b4q,λO B σ H env r Q R e q=>by
 cases e
 exact λp hp=>q _ _ (zz hp _) ⟨p,[],rfl,hp,yB,rfl,.nil⟩⟩
noncomputable def K4(i:Nat)(f g:En->Option Sl):SF:=λenv=>match env[i]? with
 | some (.tw ks ds)=>(f env).bind λr=>(Im (g env)).bind λk=>if ks.length<16777216 then some (.nx,env.set i (.tw (Dj ks k) (Dk ks ds k r.d))) else none
 | _=>none
theorem b6N(ha:EV X e fa)(hb:EV X b fb)(hu:X.A.units+1<cLine)(hN:X.N[i]?=some x)(hv:l4 X.env.scope x)(hd:(x==("__debug__":Str))=false:=by decide)(de:(x==("__classdict__":Str))=false:=by decide)
  (hs:swapsWith e (some (.Subscript (.Name x p1) b p2)) pos.line X.env=pure false:=by rfl):SV X (.Assign [.Subscript (.Name x p1) b p2] e pos) (K4 i fa fb):=by
 obtain ⟨ta,pa,ka⟩:=ha
 obtain ⟨tb,pb,kb⟩:=hb
 refine ⟨_,b64 hu (Bi hN hv hd de) pb pa hs,λO B σ H env fl ao Dn R e q=>?_⟩
 unfold K4 at e
 split at e
 .rename_i ks ds he
  obtain ⟨r,e1,e⟩:=bind_some e
  obtain ⟨n,e2,e⟩:=bind_some e
  obtain ⟨hl,e3⟩:=oi e
  cases e3
  obtain ⟨p,vs,f1,f2,f3,f4,f5⟩:=R.tw i ks ds he
  refine ka O B σ H env _ _ R e1 λvv H1 s1 r1=>⟨_,f1,?_⟩
  refine kb O B σ H1 env _ _ (R.grow s1) (Ql e2) λvk H2 s2 r2=>?_
  have h2:vk=.str n:=AR r2
  subst h2
  have hi:=(r1.is λq=>R.oo).grow s2
  refine ⟨p,_,rfl,Cd.k (k:=.inr n) (s2 _ _ (s1 _ _ f3)) (by rw [c6,Dd,yJ];omega),?_⟩
  obtain ⟨R',g'⟩:=(R.grow (s1.trans s2)).wrT (ks':=Dj ks n) (ds':=Dk ks ds n r.d) (vs':=Dk ks vs n vv) he f1 (b0E f4 n vv) (((f5.grow s1).grow s2).Vc hi)
  rw [b9F f4]
  exact q _ _ R' (g'.from (s1.trans s2))
 .cases e
noncomputable def Lh(fd fk:En->Option Sl):En->Option Sl:=λenv=>(fd env).bind λr=>(Im (fk env)).bind λk=>match r.d with
 | .lX ks ds=>(pq ks ds k).map Sl.sh
 | .dI ks ds=>(pq ks ds k).map Sl.sh
 | _=>none
theorem b7Y(ha:EV X a fa)(hb:EV X b fb)(hu:X.A.units+1<cLine)(hs:Hw b):EV X (.Subscript a b pos) (Lh fa fb):=by
 obtain ⟨ta,pa,ka⟩:=ha
 obtain ⟨tb,pb,kb⟩:=hb
 refine ⟨_,b7c hu pa pb hs,λO B σ H env s Q R e q=>?_⟩
 obtain ⟨r,e0,e⟩:=bind_some e
 obtain ⟨n,e1,e⟩:=bind_some e
 refine ka O B σ H env _ _ R e0 λvd H1 s1 r1=>kb O B σ H1 env _ _ (R.grow s1) (Ql e1) λvk H2 s2 r2=>?_
 have h2:vk=.str n:=AR r2
 subst h2
 have hi:=(r1.is λq=>R.oo).grow s2
 cases hd:r.d with
 | lX ks ds =>
  rw [hd] at hi e
  obtain ⟨d,e3,rfl⟩:=map_some e
  cases hi with
  | lX ho hp hl hs =>
   rcases LV (y:=n) hs with ⟨z,_⟩ | ⟨v,d',z1,z2,z3⟩
   .rw [e3] at z;cases z
   .rw [e3] at z1
    cases z1
    exact ⟨_,v,rfl,.inl ⟨_,.inr n,.inl hp,rfl,by rw [LX,z2]⟩,q _ _ (s1.trans s2) z3⟩
 | dI ks ds =>
  rw [hd] at hi e
  obtain ⟨d,e3,rfl⟩:=map_some e
  cases hi with
  | dI ho hp hl hs =>
   rcases LV (y:=n) hs with ⟨z,_⟩ | ⟨v,d',z1,z2,z3⟩
   .rw [e3] at z;cases z
   .rw [e3] at z1
    cases z1
    exact ⟨_,v,rfl,.inl ⟨_,.inr n,(.inr ⟨_,hp⟩:Rd _ _ _),rfl,by rw [LX,z2]⟩,q _ _ (s1.trans s2) z3⟩
 | _=>rw [hd] at e;cases e
noncomputable def BS(neg:Bool)(fk fd:En->Option Sl):En->Option Sl:=λenv=>(Im (fk env)).bind λk=>(fd env).bind λr=>match r.d with
 | .lX ks ds=>some (.sh (.bl (neg != (pq ks ds k).isSome)))
 | .dI ks ds=>some (.sh (.bl (neg != (pq ks ds k).isSome)))
 | _=>none
theorem b38{O:Addr->Prop}{H:Hp}{vd:V}{ks:List Str}{ds:List D}{K:aX}(hi:Is K O H vd (.lX ks ds))(n:Str):∃p ov,vd=.ref p/\pA H p (.str n) ov/\ov.isSome=(pq ks ds n).isSome:=by
 cases hi with
 | lX ho hp hl hs =>
  refine ⟨_,_,rfl,.inl ⟨_,.inr n,.inl hp,rfl,rfl⟩,?_⟩
  rw [LX]
  rcases LV (y:=n) hs with ⟨z1,z2⟩ | ⟨v,d',z1,z2,z3⟩<;>rw [z1,z2]<;>rfl
theorem b12{O:Addr->Prop}{H:Hp}{vd:V}{ks:List Str}{ds:List D}{K:aX}(hi:Is K O H vd (.dI ks ds))(n:Str):∃p ov,vd=.ref p/\pA H p (.str n) ov/\ov.isSome=(pq ks ds n).isSome:=by
 cases hi with
 | dI ho hp hl hs =>
  refine ⟨_,_,rfl,.inl ⟨_,.inr n,(.inr ⟨_,hp⟩:Rd _ _ _),rfl,rfl⟩,?_⟩
  rw [LX]
  rcases LV (y:=n) hs with ⟨z1,z2⟩ | ⟨v,d',z1,z2,z3⟩<;>rw [z1,z2]<;>rfl
end
end DL
namespace DL
open PySem PySem.Spec PyProof.Rows L2
section
variable {X:Cx}{N:List Str}{sc:Scope}{k:Nat}{full:Bool}{e a b:Expr}{fa fb:En->Option Sl}{pos p1 p2 p:Pos}
theorem b1Y{neg:Bool}{op:CmpOp}{td:TE->TE->TE}(hc:∀ta tb,PE X a ta->PE X b tb->PC X op a b (td ta tb))(hr:∀ta tb σ H Q,td ta tb σ H Q=(ta σ H λy H1=>tb σ H1 λx H2=>∃p o,x=.ref p/\pA H2 p y o/\Q (.bl (neg != o.isSome)) H2))(ha:EV X a fa)(hb:EV X b fb)(hm:behindInMarks op b=false):
  TV X (.Compare a [op] [b] pos) (eF (BS neg fa fb)):=by
 obtain ⟨ta,pa,ka⟩:=ha
 obtain ⟨tb,pb,kb⟩:=hb
 refine ⟨_,b5W (hc ta tb pa pb) hm,λO B σ H env c Q R e q=>?_⟩
 have e:=KC e
 obtain ⟨n,e1,e⟩:=bind_some e
 obtain ⟨r,e0,e⟩:=bind_some e
 show td ta tb σ H _
 rw [hr]
 refine ka O B σ H env _ _ R (Ql e1) λvk H1 s1 r1=>kb O B σ H1 env _ _ (R.grow s1) e0 λvd H2 s2 r2=>?_
 have h2:vk=.str n:=AR r1
 subst h2
 have hi:=r2.is λq=>(R.grow s1).oo
 cases hd:r.d with
 | lX ks ds =>
  rw [hd] at hi e
  cases e
  obtain ⟨p,ov,rfl,g,eo⟩:=b38 hi n
  exact ⟨p,ov,rfl,g,_,by rw [eo],q _ (s1.trans s2)⟩
 | dI ks ds =>
  rw [hd] at hi e
  cases e
  obtain ⟨p,ov,rfl,g,eo⟩:=b12 hi n
  exact ⟨p,ov,rfl,g,_,by rw [eo],q _ (s1.trans s2)⟩
 | _=>rw [hd] at e;cases e
theorem Fx.UE(h:Fx X N sc k full)(ha:EV X a fa)(hb:EV X b fb)(hm:behindInMarks .In b=false:=by rfl):TV X (.Compare a [.In] [b] pos) (eF (BS false fa fb)):=
 b1Y (neg:=false) (td:=Ja) (λta tb pa pb=>b9V (PR h.room) pa pb) (λta tb σ H Q=>by unfold Ja;simp only [Bool.false_bne]) ha hb hm
theorem Fx.MU(h:Fx X N sc k full)(ha:EV X a fa)(hb:EV X b fb)(hm:behindInMarks .NotIn b=false:=by rfl):TV X (.Compare a [.NotIn] [b] pos) (eF (BS true fa fb)):=
 b1Y (neg:=true) (td:=Qf) (λta tb pa pb=>a8A (PR h.room) pa pb) (λta tb σ H Q=>by unfold Qf;simp only [Bool.true_bne]) ha hb hm
theorem Fx.UH(h:Fx X N sc k full)(i:Nat){x:Str}(ha:EV X e fa)(hb:EV X b fb)(hN:N[i]?=some x:=by rfl)(hv:l4 sc x:=by first | exact dY rfl | exact cO (dY rfl) | exact cO (cO rfl))(hd:(x==("__debug__":Str))=false:=by rfl)(de:(x==("__classdict__":Str))=false:=by rfl)
  (hs:swapsWith e (some (.Subscript (.Name x p1) b p2)) pos.line X.env=pure false:=by rfl):SV X (.Assign [.Subscript (.Name x p1) b p2] e pos) (K4 i fa fb):=b6N ha hb (PR h.room) (h.ix hN) (h.A6 hv) hd de hs
theorem Fx.MX(h:Fx X N sc k full)(ha:EV X a fa)(hb:EV X b fb)(hs:Hw b:=by intro _ _;rfl):EV X (.Subscript a b pos) (Lh fa fb):=b7Y ha hb (PR h.room) hs
end
end DL
namespace DL
open PySem PySem.Spec PyProof.Rows L2
section
variable {K:aX}{O O' L:Addr->Prop}{H:Hp}
theorem b9C{q:Addr}{xs:List V}(hL:L q->∃ys,H q=some (.lst ys))(h:Rd H q (.tup xs)):¬L q:=λz=>by
 obtain ⟨ys,e⟩:=hL z
 rcases h with h | ⟨o,h⟩
 .rw [e] at h;cases h
 .rw [e] at h;cases h
mutual
theorem b4N(hL:∀q,L q->∃ys,H q=some (.lst ys))(hO:∀q,O q->O' q\/L q):∀{v:V} {d:D},Is K O' H v d->wg d=true->Is K O H v d
 | _,_,.cT,_=>.cT
 | _,_,.bl b,_=>.bl b
 | _,_,.int i,_=>.int i
 | _,_,.str x,_=>.str x
 | _,_,.tup ho h1 hs,f=>.tup (λz=>(hO _ z).elim ho (b9C (hL _) h1)) h1 (YK hL hO hs (by simpa [wg] using f))
 | _,_,.xF h1 hs,f=>.xF h1 (YK hL hO hs (by simpa [wg] using f))
 | _,_,.lst _ _ _,f=>by simp [wg] at f
 | _,_,.zV _ _ _,f=>by simp [wg] at f
 | _,_,.zY _ _,f=>by simp [wg] at f
 | _,_,.exc _ _ _,f=>by simp [wg] at f
 | _,_,.rf _ _,f=>by simp [wg] at f
 | _,_,.obj _ _ _ _ _,f=>by simp [wg] at f
 | _,_,.lX _ _ _ _,f=>by simp [wg] at f
 | _,_,.dI _ _ _ _,f=>by simp [wg] at f
 | _,_,.C8 _ _,f=>by simp [wg] at f
theorem YK(hL:∀q,L q->∃ys,H q=some (.lst ys))(hO:∀q,O q->O' q\/L q):∀{v:List V} {d:List D},bp K O' H v d->L0 d=true->bp K O H v d
 | _,_,.nil,_=>.nil
 | _,_,.cons h t,f=>by
  simp only [L0,FC] at f
  exact .cons (b4N hL hO h f.1) (YK hL hO t f.2)
end
end
section
variable {X:Cx}{e o:Expr}{es:List Expr}{f m:Str}{pos apos p:Pos}{fo:En->Option Sl}{fs:En->Option (List D)}
end
section
variable {P:Program}{w:World}{K:aX}{mg:Str->Option Value}{base:Heap}
end
section
variable {X:Cx}{N:List Str}{sc:Scope}{k j n:Nat}{full:Bool}{e o:Expr}{es:List Expr}{m c f:Str}{pos p apos pos' p1:Pos}{fo fe:En->Option Sl}{fs:En->Option (List D)}
end
end DL
namespace DL
open PySem L2
section
variable {env:En}{Q:Sl->Prop}{fo fk fd:En->Option Sl}{fa:En->Option (List D)}
theorem b86{cs:List Str}{f:Str}:Wo (eZ cs f fo env) Q↔Wo (fo env) λr=>Wo (eG cs f r.d) λd=>Q (.sh d):=by
 unfold eZ
 rw [a0m]
 exact mf λr=>a1y
theorem b5D{m:Str}{n:Nat}{tab:bh}:Wo (qO m n tab fo fa env) Q↔Wo (fo env) λr=>Wo (fa env) λas=>Wo (gr m n tab r.d as) Q:=by
 unfold qO
 rw [a0m]
 exact mf λr=>a0m
theorem c1r{c:Str}{n:Nat}{ns:List Str}{ψ:List D->Option (List D)}:Wo (z6 c n ns ψ fa env) Q↔Wo (fa env) λas=>as.length=n/\Wo (ψ as) λds=>Q (.sh (.obj c ns ds)):=by
 unfold z6
 rw [a0m]
 refine mf λas=>?_
 by_cases h:as.length=n
 .rw [if_pos h,a1y];exact ⟨λz=>⟨h,z⟩,λz=>z.2⟩
 .rw [if_neg h];exact ⟨λz=>(Wo_none.mp z).elim,λz=>(h z.1).elim⟩
theorem b85{tab:List (Str×Bool)}:Wo (Wq tab fo env) Q↔Wo (fo env) λr=>Wo (N8 tab r.d) Q:=a0m
theorem c1o:Wo (Wn env) Q↔Q (.tw [] []):=a0d
def QO(d:D)(k:Str)(Q:Sl->Prop):Prop:=match d with
 | .lX ks ds=>Wo (pq ks ds k) λd=>Q (.sh d)
 | .dI ks ds=>Wo (pq ks ds k) λd=>Q (.sh d)
 | _=>False
theorem tgQ_d{ks:List Str}{ds:List D}{k:Str}:QO (.lX ks ds) k Q↔Wo (pq ks ds k) λd=>Q (.sh d):=mj
theorem tgQ_f{ks:List Str}{ds:List D}{k:Str}:QO (.dI ks ds) k Q↔Wo (pq ks ds k) λd=>Q (.sh d):=mj
theorem c1y{o:Option Sl}{Q:Str->Prop}:Wo (Im o) Q↔∃n,o=some (.sh (.str n))/\Q n:=by
 constructor
 .rintro ⟨n,e,q⟩
  exact ⟨n,Ql e,q⟩
 .rintro ⟨n,rfl,q⟩
  exact ⟨n,rfl,q⟩
theorem SR{g:En->Option Sl}{Q:Str->Prop}:Wo (Im (g env)) Q↔Wo (g env) λr=>∃n,r=.sh (.str n)/\Q n:=by
 rw [c1y]
 constructor
 .rintro ⟨n,e,q⟩;exact ⟨_,e,n,rfl,q⟩
 .rintro ⟨r,e,n,rfl,q⟩;exact ⟨n,e,q⟩
theorem b6v:Wo (Lh fd fk env) Q↔Wo (fd env) λr=>Wo (fk env) λs=>∃k,s=.sh (.str k)/\QO r.d k Q:=by
 unfold Lh
 rw [a0m]
 refine mf λr=>?_
 rw [a0m,SR]
 refine mf λs=>?_
 refine exists_congr λk=>and_congr_right λ_=>?_
 cases r.d<;>simp [QO,Wo_none,a1y]
def QN(neg:Bool)(d:D)(k:Str)(Q:Sl->Prop):Prop:=match d with
 | .lX ks ds=>Q (.sh (.bl (neg != (pq ks ds k).isSome)))
 | .dI ks ds=>Q (.sh (.bl (neg != (pq ks ds k).isSome)))
 | _=>False
theorem tiQ_d{neg:Bool}{ks:List Str}{ds:List D}{k:Str}:QN neg (.lX ks ds) k Q↔Q (.sh (.bl (neg != (pq ks ds k).isSome))):=mj
theorem tiQ_f{neg:Bool}{ks:List Str}{ds:List D}{k:Str}:QN neg (.dI ks ds) k Q↔Q (.sh (.bl (neg != (pq ks ds k).isSome))):=mj
theorem b3X{neg:Bool}:Wo (BS neg fk fd env) Q↔Wo (fk env) λs=>∃k,s=.sh (.str k)/\Wo (fd env) λr=>QN neg r.d k Q:=by
 unfold BS
 rw [a0m,SR]
 refine mf λs=>?_
 refine exists_congr λk=>and_congr_right λ_=>?_
 rw [a0m]
 refine mf λr=>?_
 cases r.d<;>simp [QN,Wo_none,a0d]
theorem c09{i:Nat}{f g:En->Option Sl}{ks:List Str}{ds:List D}{Q:Fl×En->Prop}(he:env[i]?=some (.tw ks ds)):Wo (K4 i f g env) Q↔Wo (f env) λr=>Wo (g env) λs=>∃k,s=.sh (.str k)/\ks.length<16777216/\Q (.nx,env.set i (.tw (Dj ks k) (Dk ks ds k r.d))):=by
 unfold K4
 rw [he]
 dsimp only
 rw [a0m]
 refine mf λr=>?_
 rw [a0m,SR]
 refine mf λs=>?_
 refine exists_congr λk=>and_congr_right λ_=>?_
 by_cases h:ks.length<16777216
 .rw [if_pos h,a0d];exact ⟨λz=>⟨h,z⟩,λz=>z.2⟩
 .rw [if_neg h];exact ⟨λz=>(Wo_none.mp z).elim,λz=>(h z.1).elim⟩
theorem Sl_tw{ks:List Str}{ds:List D}:(Sl.tw ks ds).d=.lX ks ds:=rfl
end
end DL
namespace DL
open PySem PySem.Spec PyProof.Rows L2
def K1(X:Cx)(es:List Expr)(f:En->Option (List D×En)):Prop:=
 ∃t:TA,PA X es t/\∀(O:Addr->Prop) (B:Hp) (σ:L2.St) (H:Hp) (env:En) (ds:List D) (ao:En) (Q:List V->Hp->Prop),Rel X.K O B σ H env->f env=some (ds,ao) ->
  (∀vs H',Rel X.K O B σ H' ao->Gd σ env H σ ao H'->bp X.K (OO O σ ao) H' vs ds->Q vs H')->t σ H Q
def QL(X:Cx)(e:Expr)(f:En->Option (D×En)):Prop:=
 ∃t:TE,PE X e t/\∀(O:Addr->Prop) (B:Hp) (σ:L2.St) (H:Hp) (env:En) (d:D) (ao:En) (Q:VK),Rel X.K O B σ H env->f env=some (d,ao) ->
  (∀v H',Rel X.K O B σ H' ao->Gd σ env H σ ao H'->Is X.K (OO O σ ao) H' v d->Q v H')->t σ H Q
noncomputable def CS(i:Nat)(env:En):Option (D×En):=match env[i]? with
 | some (.ow ds)=>(ds[ds.length-1]?).map λd=>(d,env.set i (.ow ds.dropLast))
 | _=>none
noncomputable def LZ(i:Nat)(fs:En->Option (List D)):En->Option (List D×En):=λenv=>(CS i env).bind λp=>(fs p.2).map λrs=>(p.1::rs,p.2)
noncomputable def SQ(f:En->Option Sl)(g:En->Option (List D×En)):En->Option (List D×En):=λenv=>(f env).bind λr=>(g env).map λp=>(r.d::p.1,p.2)
noncomputable def Su(g:En->Option (List D×En)):En->Option (D×En):=λenv=>(g env).bind λp=>if p.1.length<=16777216 then some (.tup p.1,p.2) else none
noncomputable def Qe(n:Nat)(φ:List D->Option Sl)(g:En->Option (List D×En)):En->Option (D×En):=λenv=>(g env).bind λp=>if p.1.length=n then (φ p.1).map λr=>(r.d,p.2) else none
noncomputable def Kn(i:Nat)(g:En->Option (D×En)):SF:=λenv=>match env[i]? with
 | some (.ow _)=>(g env).bind λp=>match p.2[i]? with
  | some (.ow ds)=>if ds.length<16777216 then some (.nx,p.2.set i (.ow (ds++[p.1]))) else none
  | _=>none
 | _=>none
theorem Gd.is1{K:aX}{O:Addr->Prop}{σ bB:L2.St}{env ao:En}{H H':Hp}(g:Gd σ env H bB ao H'){v:V}{d:D}(h:Is K (OO O σ env) H v d):Is K (OO O bB ao) H' v d:=by
 cases g.N7 (.cons h .nil) with
 | cons h _=>exact h
section
variable {X:Cx}{e:Expr}{es:List Expr}{pos p1 p2 aB p:Pos}{fs:En->Option (List D)}{fe:En->Option Sl}{g:En->Option (List D×En)}
theorem b8m{i:Nat}{x:Str}(hb:AV X es fs)(hN:X.N[i]?=some x)(hv:l4 X.env.scope x)(hd:(x==("__debug__":Str))=false:=by decide)
  (de:(x==("__classdict__":Str))=false:=by decide)
  (b9:attributeBase (.Name x p1) "pop" X.env (eval (.Name x p1) X.env)=eval (.Name x p1) X.env:=by rfl)
  (b8:(p2.endLine==aB.line)=true:=by rfl)
  (hs:starEach (.Call (.Attribute (.Name x p1) "pop" p2) [] [] aB::es) X.env=(false,eval (.Call (.Attribute (.Name x p1) "pop" p2) [] [] aB) X.env)::starEach es X.env:=by rfl):
  K1 X (.Call (.Attribute (.Name x p1) "pop" p2) [] [] aB::es) (LZ i fs):=by
 obtain ⟨u,pu,ku⟩:=hb
 refine ⟨_,wm (XU LF Xm c55 b59 (Bi hN hv hd de) b9 b8) pu hs,λO B σ H env ds ao Q R e q=>?_⟩
 obtain ⟨⟨d,df⟩,e1,e2⟩:=bind_some e
 obtain ⟨rs,e3,e4⟩:=map_some e2
 cases e4
 unfold CS at e1
 split at e1
 .rename_i ds he
  obtain ⟨d',e5,e6⟩:=map_some e1
  cases e6
  obtain ⟨l,xs,f1,f2,f3,f4⟩:=R.ow i ds he
  obtain ⟨v,VG,VF⟩:=f4.get e5
  obtain ⟨R',g'⟩:=R.wr he f1 f4.dropLast
  refine ⟨_,f1,.inl ⟨rfl,_,lM.of f3⟩,l,xs,v,rfl,rfl,f3,by rw [f4.length];exact VG,?_⟩
  refine ku O B σ _ _ rs _ R' e3 λvs H2 s2 r2=>q _ H2 (R'.grow s2) (g'.trans (Gd.refl s2)) (.cons ((g'.is1 VF).grow s2) r2)
 .cases e1
theorem b8l(ha:EV X e fe)(hb:K1 X es g)(hs:starEach (e::es) X.env=(false,eval e X.env)::starEach es X.env:=by rfl):K1 X (e::es) (SQ fe g):=by
 obtain ⟨t,pt,k⟩:=ha
 obtain ⟨u,pu,ku⟩:=hb
 refine ⟨_,wm pt pu hs,λO B σ H env ds ao Q R e q=>?_⟩
 obtain ⟨r,e1,e2⟩:=bind_some e
 obtain ⟨⟨rs,df⟩,e3,e4⟩:=map_some e2
 cases e4
 refine k O B σ H env r _ R e1 λv H1 s1 r1=>?_
 refine ku O B σ H1 env rs df _ (R.grow s1) e3 λvs H2 R2 g2 r2=>q _ H2 R2 (g2.from s1) (.cons (g2.is1 (r1.is λq=>R.oo)) r2)
theorem c0L{x1}(h:K1 X es g):QL X (.Tuple es x1 pos) (Su g):=by
 obtain ⟨t,pt,k⟩:=h
 refine ⟨_,b51 pt,λO B σ H env r ao Q R e q=>?_⟩
 obtain ⟨⟨ds,df⟩,e1,e2⟩:=bind_some e
 obtain ⟨hl,e3⟩:=oi e2
 cases e3
 refine k O B σ H env ds df _ R e1 λvs H1 R1 g1 r1=>⟨by rw [r1.length,yJ];exact hl,λp hp=>?_⟩
 exact q _ _ (R1.grow (zz hp _)) (g1.trans (Gd.refl (zz hp _))) (S5 (O:=OO O σ df) (H:=H1) (λ_ z=>R1.oo z) hp r1)
theorem b76{k:Nat}{f:Addr}{fd:FuncData}{ps:List Str}{φ:List D->Option Sl}{x:Str}(F:dh X.prog X.w X.K X.mg X.base pB k f fd ps (Bs X.K ps.length φ))(hr:c8 k X.A)(hg:Gl X x)(hm:X.mg x=some (.ref f))(hk:vY X.K (.ref f)=true)(hb:Binds X.K fd ps [])
  (ha:K1 X (e::es) g)(ql:(x==("__debug__":Str))=false:=by decide)(he:starEach (e::es) X.env=(false,eval e X.env)::starEach es X.env:=by rfl)(nP:(backTo pos (starEach es X.env)).any (·.1)=false:=by rfl):
  QL X (.Call (.Name x p) (e::es) [] pos) (Qe ps.length φ g):=by
 obtain ⟨t,pt,ka⟩:=ha
 refine ⟨_,Yd F hr hg hm hk hb .nil (Km (X:=X)) pt ql he nP,λO B σ H env r ao Q R e q=>?_⟩
 obtain ⟨⟨ds,df⟩,e1,e2⟩:=bind_some e
 refine ka O B σ H env ds df _ R e1 λvs H1 R1 g1 r1=>?_
 obtain ⟨hl,e3⟩:=Kp e2
 obtain ⟨r',e4,e5⟩:=map_some e3
 cases e5
 rw [E4]
 exact ⟨OO O σ df,ds,r',R1.dm,r1,by rw [r1.length];exact hl,e4,λv H2 s2 r2=>q v H2 (R1.grow s2) (g1.trans (Gd.refl s2)) (r2.is λq=>R1.oo)⟩
theorem b6R{i:Nat}{x:Str}{g:En->Option (D×En)}(ha:QL X e g)(hN:X.N[i]?=some x)(hv:l4 X.env.scope x)(hd:(x==("__debug__":Str))=false:=by decide)
  (de:(x==("__classdict__":Str))=false:=by decide)(hs:starEach [e] X.env=[(false,eval e X.env)]:=by rfl)
  (b9:attributeBase (.Name x p1) "append" X.env (eval (.Name x p1) X.env)=eval (.Name x p1) X.env:=by rfl)
  (fQ:((backTo aB (starEach [e] X.env)).all (λx=>!x.1)&&(backToKw aB (keywordEach [] X.env)).all (λx=>x.1.isSome)
   && decide ([e].length+([]:List Keyword).length+(if ([]:List Keyword).isEmpty then 0 else 1)<30))=true:=by rfl)
  (b8:(p2.endLine==aB.line)=true:=by rfl)
  (AA:swapsWith (.Call (.Attribute (.Name x p1) "append" p2) [e] [] aB) none pos.line X.env=pure false:=by rfl):
  SV X (.Expr (.Call (.Attribute (.Name x p1) "append" p2) [e] [] aB) pos) (Kn i g):=by
 obtain ⟨t,pt,k⟩:=ha
 refine ⟨_,Kz (Sn LF Xt c5k a8H (Bi hN hv hd de) (wm pt zx hs) b9 fQ b8 hs rfl) AA,λO B σ H env fl ao Dn R e q=>?_⟩
 unfold Kn at e
 split at e
 .rename_i ds0 he
  obtain ⟨⟨d,df⟩,e1,e2⟩:=bind_some e
  dsimp only at e2
  split at e2
  .rename_i ds he1
   obtain ⟨hl,e3⟩:=oi e2
   cases e3
   obtain ⟨l,xs,f1,f2,f3,f4⟩:=R.ow i ds0 he
   refine ⟨_,f1,.inl ⟨rfl,_,lM.of f3⟩,?_⟩
   refine k O B σ H env d df _ R e1 λv H1 R1 g1 r1=>?_
   obtain ⟨l',zF,h1,h2,h3,h4⟩:=R1.ow i ds he1
   rw [f1] at h1
   cases h1
   refine ⟨l,zF,v,rfl,rfl,h3,by rw [h4.length,yJ];exact hl,?_⟩
   obtain ⟨R',g'⟩:=R1.wr he1 f1 (h4.append (.cons r1 .nil))
   exact q _ _ R' (g1.trans g')
  .cases e2
 .cases e
variable {N:List Str}{sc:Scope}{k j:Nat}{full:Bool}
theorem Fx.aph(h:Fx X N sc k full)(i:Nat){x:Str}(hb:AV X es fs)(hN:N[i]?=some x:=by rfl)(hv:l4 sc x:=by first | exact dY rfl | exact cO (dY rfl) | exact cO (cO rfl))(hd:(x==("__debug__":Str))=false:=by rfl)
  (de:(x==("__classdict__":Str))=false:=by rfl)
  (b9:attributeBase (.Name x p1) "pop" X.env (eval (.Name x p1) X.env)=eval (.Name x p1) X.env:=by rfl)
  (b8:(p2.endLine==aB.line)=true:=by rfl)
  (hs:starEach (.Call (.Attribute (.Name x p1) "pop" p2) [] [] aB::es) X.env=(false,eval (.Call (.Attribute (.Name x p1) "pop" p2) [] [] aB) X.env)::starEach es X.env:=by rfl):
  K1 X (.Call (.Attribute (.Name x p1) "pop" p2) [] [] aB::es) (LZ i fs):=b8m hb (h.ix hN) (h.A6 hv) hd de b9 b8 hs
theorem Fx.clP(h:Fx X N sc k full){x:Str}{st:Stmt}{ps:List Str}{φ:List D->Option Sl}(O:Oz X.prog X.w X.K X.mg X.base x st ps j φ)(ha:K1 X (e::es) g)(hj:j<=k:=by decide)(hg:sc.names.lookup x=some .globalImplicit:=by rfl)(ql:(x==("__debug__":Str))=false:=by decide)(he:starEach (e::es) X.env=(false,eval e X.env)::starEach es X.env:=by rfl)(nP:(backTo pos (starEach es X.env)).any (·.1)=false:=by rfl):
  QL X (.Call (.Name x p) (e::es) [] pos) (Qe ps.length φ g):=by
 obtain ⟨f,fd,D',F⟩:=O
 exact b76 F (h.room.mono hj) (h.g hg) D'.m D'.fn.kp D'.bd ha ql he nP
theorem Fx.P9(h:Fx X N sc k full)(i:Nat){x:Str}{g:En->Option (D×En)}(ha:QL X e g)(hN:N[i]?=some x:=by rfl)(hv:l4 sc x:=by first | exact dY rfl | exact cO (dY rfl) | exact cO (cO rfl))(hd:(x==("__debug__":Str))=false:=by rfl)
  (de:(x==("__classdict__":Str))=false:=by rfl)(hs:starEach [e] X.env=[(false,eval e X.env)]:=by rfl)
  (b9:attributeBase (.Name x p1) "append" X.env (eval (.Name x p1) X.env)=eval (.Name x p1) X.env:=by rfl)
  (fQ:((backTo aB (starEach [e] X.env)).all (λx=>!x.1)&&(backToKw aB (keywordEach [] X.env)).all (λx=>x.1.isSome)
   && decide ([e].length+([]:List Keyword).length+(if ([]:List Keyword).isEmpty then 0 else 1)<30))=true:=by rfl)
  (b8:(p2.endLine==aB.line)=true:=by rfl)
  (AA:swapsWith (.Call (.Attribute (.Name x p1) "append" p2) [e] [] aB) none pos.line X.env=pure false:=by rfl):
  SV X (.Expr (.Call (.Attribute (.Name x p1) "append" p2) [e] [] aB) pos) (Kn i g):=b6R ha (h.ix hN) (h.A6 hv) hd de hs b9 fQ b8 AA
end
end DL
namespace DL
open PySem PySem.Spec PyProof.Rows L2
section
variable {X:Cx}
theorem a88:dO X (.type "str") (λxs H Q=>∃y,xs=[.str y]/\Q (.str y) H):=by
 intro pins s σ H xs us Q I r h
 obtain ⟨y,rfl,q⟩:=h
 obtain ⟨u,rfl,t,rfl⟩:=vals1 r
 exact PySem.P.str_of_str ⟨.str _,H,I,⟨_,rfl⟩,q⟩
noncomputable def Br:D->Option Str
 | .int i=>if i.natAbs.log2<1920 then some (toString i) else none
 | .str y=>some y
 | _=>none
noncomputable def Ir(f:En->Option Sl):En->Option Sl:=λenv=>(f env).bind λr=>(Br r.d).map λy=>.sh (.str y)
theorem dO.or{f:Value}{r1 r2:List V->Hp->VK->Prop}(h1:dO X f r1)(h2:dO X f r2):dO X f (λxs H Q=>r1 xs H Q\/r2 xs H Q):=by
 intro pins s σ H xs us Q I r h
 exact h.elim (h1 pins s σ H xs us Q I r) (h2 pins s σ H xs us Q I r)
theorem b7Z{e:Expr}{fa:En->Option Sl}{p pos:Pos}(hg:Gl X "str")(hm:X.mg "str" = none)(he:EV X e fa)(hs:starEach [e] X.env=[(false,eval e X.env)]:=by rfl):EV X (.Call (.Name "str" p) [e] [] pos) (Ir fa):=by
 obtain ⟨t,pt,k⟩:=he
 refine ⟨_,ID (qI.or a88) hg hm (by decide +kernel) (wm pt zx hs) (by decide) (by decide) hs rfl,λO B σ H env s Q R e q=>?_⟩
 obtain ⟨r,e1,e2⟩:=bind_some e
 obtain ⟨y,e3,rfl⟩:=map_some e2
 refine k O B σ H env _ _ R e1 λv H1 s1 r1=>?_
 have hi:=r1.is λq=>R.oo
 cases hd:r.d with
 | int i =>
  rw [hd] at hi e3
  obtain ⟨hz,rfl⟩:=oi (show (if i.natAbs.log2<1920 then some (toString i:Str) else none)=some y from e3)
  obtain rfl:=Ao hi
  exact .inl ⟨_,rfl,hz,q _ H1 s1 (Is.str _)⟩
 | str z =>
  rw [hd] at hi e3
  cases e3
  obtain rfl:=AR hi
  exact .inr ⟨_,rfl,q _ H1 s1 (Is.str _)⟩
 | _=>rw [hd] at e3;cases e3
noncomputable def AS(sep:Str)(ls:List Str):Nat:=ls.foldl (λa x=>a+x.length+sep.length) 0
noncomputable def nJ(sep:Str):List Str->Str
 | [y]=>y
 | ls=>Builtin.Str.glued sep ls
theorem b9t{K:aX}{O:Addr->Prop}{H:Hp}:∀{xs:List V} {ds:List D} {ls:List Str},bp K O H xs ds->Cz ds=some ls->xs=ls.map V.str
 | _,_,_,.nil,e=>by cases e;rfl
 | _,_,_,.cons (d:=d) h t,e=>by
  cases d with
  | str y =>
   obtain ⟨r,e1,rfl⟩:=map_some (show (Cz _).map (y::·)=some _ from e)
   obtain rfl:=AR h
   rw [b9t t e1]
   rfl
  | _=>cases e
theorem b9i:∀{ls:List Str} {us:List Value},aU (ls.map V.str) us->∃l:List (Str×Tok),us=strValues l/\l.map (·.1)=ls
 | [],us,h=>by cases h;exact ⟨[],rfl,rfl⟩
 | y::ls,_,.cons h t=>by
  obtain ⟨k,rfl⟩:=h
  obtain ⟨l,rfl,rfl⟩:=b9i t
  exact ⟨(y,k)::l,rfl,rfl⟩
theorem b7o:KQ X "str.join" (λx xs H Q=>∃z a ls,x=.str z/\xs=[.ref a]/\lM X.K H a (ls.map V.str)/\AS z ls<=sizeLine/\(nJ z ls).length<=sizeLine/\Q (.str (nJ z ls)) H):=by
 intro pins s σ H x xs v us Q I r rs h
 obtain ⟨z,a,ls,rfl,rfl,hq,hl,hj,q⟩:=h
 obtain ⟨t,rfl⟩:=r
 obtain ⟨u',rfl,rfl⟩:=vals1 rs
 obtain ⟨aJ,vv,pl,_⟩:=I.list hq
 obtain ⟨l,hu,rfl⟩:=b9i vv
 have hu':aJ=strValues l:=hu
 subst hu'
 refine Lj F.slot_str_join (Ro _ _ _) F.entry_str_join (F.args_str_join_2 _ _) (meets_str_join_list z t a l ?_) ⟨pl.isList,?_⟩
 .unfold Builtin.Str.tooLong
  rw [List.foldl_toArray']
  .exact decide_eq_false (Nat.not_lt.mpr hl)
  .simp
 .cases l with
  | nil=>exact ⟨hj,.str _,H,I.tok _,⟨_,rfl⟩,q⟩
  | cons p l=>cases l with
   | nil=>exact ⟨.str _,H,I,⟨_,rfl⟩,q⟩
   | cons p' l=>exact ⟨hj,.str _,H,I.tok _,⟨_,rfl⟩,q⟩
noncomputable def Ck(fo:En->Option Sl)(fe:En->Option (Bool×List D)):En->Option Sl:=λenv=>(Aw (fo env)).bind λz=>(fe env).bind λx=>if x.1=true then (Cz x.2).bind λls=>if AS z ls<=16777216/\(nJ z ls).length<=16777216 then some (.sh (.str (nJ z ls))) else none else none
theorem LU{o e:Expr}{fo:En->Option Sl}{fe:En->Option (Bool×List D)}{apos aB:Pos}(ho:EV X o fo)(he:BV X e fe)(b9:attributeBase o "join" X.env (eval o X.env)=eval o X.env:=by rfl)
  (fQ:((backTo aB (starEach [e] X.env)).all (λx=>!x.1)&&(backToKw aB (keywordEach [] X.env)).all (λx=>x.1.isSome)&&decide ([e].length+([]:List Keyword).length+(if ([]:List Keyword).isEmpty then 0 else 1)<30))=true:=by rfl)
  (b8:(apos.endLine==aB.line)=true:=by rfl)(hs:starEach [e] X.env=[(false,eval e X.env)]:=by rfl):EV X (.Call (.Attribute o "join" apos) [e] [] aB) (Ck fo fe):=by
 obtain ⟨to,po,ko⟩:=ho
 obtain ⟨te,pe,ke⟩:=he
 refine ⟨_,Sn (T:="str") F.plainAttrs_str F.slot_str_join F.type_str_join b7o po (wm pe zx hs) b9 fQ b8 hs rfl,λO B σ H env r Q R e q=>?_⟩
 obtain ⟨z,e1,e2⟩:=bind_some e
 obtain ⟨⟨kk,ds⟩,e3,e4⟩:=bind_some e2
 obtain ⟨hk,e5⟩:=Kp e4
 obtain ⟨ls,e6,e7⟩:=bind_some e5
 obtain ⟨⟨hl,hj⟩,rfl⟩:=oi e7
 refine ko O B σ H env _ _ R (Qo e1) λv H1 s1 r1=>?_
 obtain rfl:=AR r1
 refine ⟨rfl,?_⟩
 refine ke O B σ H1 env _ _ _ (R.grow s1) e3 λpp xs H2 s2 hq hx=>?_
 cases (show kk=true from hk)
 refine ⟨z,pp,ls,rfl,rfl,by rw [<-b9t hx e6];exact hq,by rw [yJ];exact hl,by rw [yJ];exact hj,q _ H2 (s1.trans s2) (Is.str _)⟩
noncomputable def CK(i:Nat):SF:=λenv=>match env[i]? with
 | some (.ow ds)=>some (.nx,env.set i (.ow ds.reverse))
 | _=>none
theorem bp.rev{K:aX}{O:Addr->Prop}{H:Hp}:∀{v:List V} {d:List D},bp K O H v d->bp K O H v.reverse d.reverse
 | _,_,.nil=>.nil
 | _,_,.cons h t=>by
  rw [RP,RP]
  exact (bp.rev t).append (.cons h .nil)
theorem b9s{i:Nat}{x:Str}{p1 p2 aB pos:Pos}(hN:X.N[i]?=some x)(hv:l4 X.env.scope x)(hd:(x==("__debug__":Str))=false)(de:(x==("__classdict__":Str))=false)
  (b9:attributeBase (.Name x p1) "reverse" X.env (eval (.Name x p1) X.env)=eval (.Name x p1) X.env)(b8:(p2.endLine==aB.line)=true)
  (AA:swapsWith (.Call (.Attribute (.Name x p1) "reverse" p2) [] [] aB) none pos.line X.env=pure false):SV X (.Expr (.Call (.Attribute (.Name x p1) "reverse" p2) [] [] aB) pos) (CK i):=by
 refine ⟨_,Kz (XU LF c5T PySem.F.type_list_reverse b1z (Bi hN hv hd de) b9 b8) AA,λO B σ H env fl ao D R e q=>?_⟩
 unfold CK at e
 split at e
 .rename_i ds h
  cases e
  obtain ⟨l,xs,f1,f2,f3,f4⟩:=R.ow i ds h
  refine ⟨_,f1,.inl ⟨rfl,_,lM.of f3⟩,⟨l,xs,rfl,rfl,f3,?_⟩⟩
  obtain ⟨R',g'⟩:=R.wr h f1 f4.rev
  exact q _ _ R' g'
 .cases e
theorem Fx.rev{N:List Str}{sc:Scope}{k:Nat}{full:Bool}{p1 p2 aB pos:Pos}(h:Fx X N sc k full)(i:Nat){x:Str}(hN:N[i]?=some x:=by rfl)(hv:l4 sc x:=by first | exact dY rfl | exact cO (dY rfl) | exact cO (cO rfl))(hd:(x==("__debug__":Str))=false:=by rfl)
  (de:(x==("__classdict__":Str))=false:=by rfl)(b9:attributeBase (.Name x p1) "reverse" X.env (eval (.Name x p1) X.env)=eval (.Name x p1) X.env:=by rfl)(b8:(p2.endLine==aB.line)=true:=by rfl)
  (AA:swapsWith (.Call (.Attribute (.Name x p1) "reverse" p2) [] [] aB) none pos.line X.env=pure false:=by rfl):
  SV X (.Expr (.Call (.Attribute (.Name x p1) "reverse" p2) [] [] aB) pos) (CK i):=b9s (h.ix hN) (h.A6 hv) hd de b9 b8 AA
end
end DL
namespace DL
open PySem PySem.Spec PyProof.Rows L2
def b6y(K:aX)(O:Addr->Prop)(B:Hp)(σ:L2.St)(H:Hp)(env:En)(D:Ends)(ao:En):Prop:=∀bB H',Rel K O B bB H' ao->Gd σ env H bB ao H'->bB[0]?=σ[0]?->D.nx bB H'
def ZL(X:Cx)(st:Stmt)(F:SF):Prop:=
 ∃t:TS,PS X st t/\∀(O:Addr->Prop) (B:Hp) (σ:L2.St) (H:Hp) (env:En) (ao:En) (D:Ends),Rel X.K O B σ H env->F env=some (.nx,ao)->b6y X.K O B σ H env D ao->t D σ H
section
variable {X:Cx}{N N':List Str}{sc eJ:Scope}{k:Nat}{full:Bool}{elt iter tg:Expr}{ifs:List Expr}{pos:Pos}{fi:En->Option (List D)}{caps:List Nat}{nt:Nat}{g:GF}{fc:En->Option Bool}{fe:En->Option Sl}
theorem b6X{i:Nat}{x:Str}{pos' DX:Pos}(h:Fx X N sc k full)(C:fx N sc N' caps nt eJ)(hi:IV X tg iter fi)
  (hb:∀X':Cx,X'.prog=X.prog->X'.w=X.w->X'.K=X.K->X'.mg=X.mg->X'.base=X.base->Fx X' N' (rl eJ sc) k false->GV X' tg g/\MI X' ifs fc/\EV X' elt fe)
  (Q6:i≠0:=by decide)(hN:N[i]?=some x:=by rfl)(hv:Loc sc x:=by first | exact dY rfl | exact cO rfl)(hf:full=true\/sc.names.lookup x=some .local:=by first | exact dY rfl | exact cO rfl)(h1:(sc.names.lookup x==some .local)=true:=by rfl)(h2:(pos'.line==pos.line)=true:=by rfl)(h3:(eJ.names.any λ(n,k)=>n==x&&(k==.local||k==.cell))=false:=by rfl)
  (Fu:∀x,foldedSetIterable iter X.env x=pure x:=by intro _;rfl):ZL X (.Assign [.Name x pos'] (.ListComp elt [⟨tg,iter,ifs,0⟩] eJ pos) DX) (hV i (jt fi caps nt g fc fe)):=by
 obtain ⟨wi,pi,ki⟩:=hi
 refine ⟨λD σ H=>∃O B env ao,Rel X.K O B σ H env/\hV i (jt fi caps nt g fc fe) env=some (.nx,ao)/\b6y X.K O B σ H env D ao,?_,λO B σ H env ao D R e q=>⟨O,B,env,ao,R,e,q⟩⟩
 rintro pins s σ H D I ⟨O,B,env,ao,R,e,q⟩
 obtain ⟨r,e1,e2⟩:=bind_some e
 obtain ⟨hl,e3⟩:=oi e2
 cases e3
 have hs:swapsWith (.ListComp elt [⟨tg,iter,ifs,0⟩] eJ pos) (some (.Name x pos')) DX.line X.env=pure true:=by
  have hk:X.env.blockKind=.function:=by unfold Env.blockKind;rw [I.ok.kind];rfl
  have VR:X.env.kindOf x=sc.names.lookup x:=by unfold Rn;rw [h.sc]
  unfold swapsWith
  dsimp only
  rw [hk,VR,h1,show (pos'.line==(Expr.ListComp elt [⟨tg,iter,ifs,0⟩] eJ pos).pos.line)=true from h2,h3]
  rfl
 rw [exec_Assign_Name_used _ _ _ _ hs]
 refine aY (Rv (aY ?_))
 show wpAny _ _ (comprehension _ eJ X.env _ (newList []) _ _ (some (assign (.Name x pos') X.env)) >>= λ_=>pure ()) _ _ _
 refine aY (Yx h C pi ki hb Fu I R e1 (use:=some (assign (.Name x pos') X.env)) λC0 p H' s' ⟨m,hn⟩ Ba hI sm rr=>?_)
 have I':Inv X pins σ H' s':=hI s'.heap (WW _ _)
 refine WZ (YJ (v:=.ref p) I' h.K5 (h.ix hN) (h.loc hv) rfl (λs2 I2 ⟨a,sb,ha⟩=>?_) (h.K2 hf))
 have V5:C0≠a:=λz=>by
  rcases ha with ha | ha
  .exact Ba.2.1 (z.trans ha)
  .exact Ba.2.2.2.2.1 x a ha z.symm
 obtain ⟨o,es,ep,ho,rest⟩:=hn
 refine ⟨m,⟨o,es,ep,(sb.2 C0 V5).trans ho,rest⟩,λh' U1=>?_⟩
 refine cE (cE ?_)
 have I3:Inv X pins (σ.set i (some (.ref p))) H' { s2 with heap:=h' }:=I2.turned (t':=s2.toks) (it:=C0) (λb o hb e=>(U1.2 b hb).trans e) Ba.1 Ba.2.1 Ba.2.2.2.1 Ba.2.2.2.2.1 Ba.2.2.2.2.2
 obtain ⟨R',g'⟩:=R.set (r:=.sh r.d) sm (rr.is λq=>R.oo) hl
 exact ⟨_,H',I3,q _ H' R' g' (ml Q6)⟩
theorem b2i{e:Expr}{fa:En->Option Sl}(he:EV X e fa)(hs:swapsWith e none pos.line X.env=pure false:=by rfl):ZL X (.Expr e pos) (LM fa):=by
 obtain ⟨t,p,k⟩:=he
 refine ⟨_,Kz p hs,λO B σ H env ao D R e q=>?_⟩
 obtain ⟨r,e1,e2⟩:=map_some e
 cases e2
 exact k O B σ H env r _ R e1 λv H1 s1 r1=>q σ H1 (R.grow s1) (Gd.refl s1) rfl
end
section
variable {K:aX}{O:Addr->Prop}{B H H':Hp}{σ:L2.St}{env:En}{p C dx:Addr}
theorem Rel.rebase(R:Rel K O B σ H env)(no:∀(i:Nat) s,env[i]?=some s->¬s.own):Rel K O H σ H env:=
 ⟨aO.refl _,R.AF.grow R.same,R.len,R.sh,λi es e=>(no i _ e trivial).elim,λi es e=>(no i _ e trivial).elim,λi ks es e=>(no i _ e trivial).elim,R.sep⟩
theorem Rel.ZT{fs:List (Str×V)}(R:Rel K O H σ H env)(no:∀(i:Nat) s,env[i]?=some s->¬s.own)(op:O p)(hp:H p=some (.ins C dx fs))(kp:∀q u,H q=some u->q≠p->H' q=some u)(GU:H' p≠none):Rel K O H' σ H' env:=by
 refine ⟨aO.refl _,⟨λq hq=>?_,λc' P e'=>?_⟩,R.len,λi d e=>?_,λi es e=>(no i _ e trivial).elim,λi es e=>(no i _ e trivial).elim,λi ks es e=>(no i _ e trivial).elim,λi j es fs q e1 _ _ _ o _=>(no i _ e1 o).elim⟩
 .by_cases z:q=p
  .rw [z];exact GU
  .cases hz:H q with
   | none=>exact absurd hz (R.AF.1 q hq)
   | some u=>rw [kp _ _ hz z];exact λz=>nomatch z
 .have e3:=R.AF.2 c' P e'
  exact kp _ _ e3 λz=>by rw [z,hp] at e3;cases e3
 .obtain ⟨w,f1,f2⟩:=R.sh i d e
  exact ⟨w,f1,f2.map (λ_ _ z=>z) λq u e nq=>kp q u e λz=>nq (by rw [z];exact .inl op)⟩
end
noncomputable abbrev IF:=En->List Str->List D->Option (List Str×List D)
def A1(X:Cx)(t7:List Stmt)(C:Addr)(F:IF):Prop:=
 ∃t:TS,Bm X t7 t/\∀(O:Addr->Prop) (σ:L2.St) (H:Hp) (env:En) (p dx:Addr) (ns:List Str) (us:List V) (ds:List D) (nZ:List Str) (ds':List D) (Dn:Ends),Rel X.K O H σ H env->(∀(i:Nat) s,env[i]?=some s->¬s.own)->O p->σ[0]?=some (some (V.ref p))->H p=some (.ins C dx (ns.zip us))->ns.length=us.length->bp X.K O H us ds->F env ns ds=some (nZ,ds') ->
  (∀(bB:L2.St) (H':Hp) (A7:List V),(∀q u,H q=some u->q≠p->H' q=some u)->H' p=some (.ins C dx (nZ.zip A7))->nZ.length=A7.length->bp X.K O H' A7 ds'->Dn.nx bB H')->t Dn σ H
noncomputable def Ks:En->Bool
 | []=>true
 | .no::r=>Ks r
 | .sh _::r=>Ks r
 | _=>false
theorem S8:∀{env:En},Ks env=true->∀(i:Nat) s,env[i]?=some s->¬s.own
 | [],_,i,s,e=>by simp at e
 | .no::r,h,0,s,e=>by cases e;exact id
 | .no::r,h,i+1,s,e=>S8 (env:=r) h i s (by simpa using e)
 | .sh _::r,h,0,s,e=>by cases e;exact id
 | .sh _::r,h,i+1,s,e=>S8 (env:=r) h i s (by simpa using e)
 | .ow _::_,h,_,_,_=>by cases h
 | .dw _::_,h,_,_,_=>by cases h
 | .tw _ _::_,h,_,_,_=>by cases h
noncomputable def JI(G:SF)(F:IF):IF:=λenv ns ds=>match G env with
 | some (.nx,ao)=>if Ks ao=true then F ao ns ds else none
 | _=>none
noncomputable def VB(φ:List D->Option Sl)(f:Str)(F:IF):IF:=λenv ns ds=>((ns.zip ds).lookup f).bind λd=>(φ [d]).bind λ_=>F env ns ds
noncomputable def PU(n:Nat)(Il:List Str)(ψ:List D->Option (List D))(fa:En->Option (List D))(F:IF):IF:=λenv ns _=>if ns=[] then (fa env).bind λas=>if as.length=n then (ψ as).bind λgs=>F env Il gs else none else none
section
variable {X:Cx}{C:Addr}{F:IF}{st:Stmt}{t7:List Stmt}
theorem SM:A1 X [] C l7:=⟨_,Yf,λO σ H env p dx ns us ds nZ ds' Dn R no op hs hp hl hi e q=>by
 cases (show some (ns,ds)=some (nZ,ds') from e)
 exact q σ H us (λ_ _ e _=>e) hp hl hi⟩
theorem XA{G:SF}(h:ZL X st G)(hr:A1 X t7 C F):A1 X (st::t7) C (JI G F):=by
 obtain ⟨t,pt,k⟩:=h
 obtain ⟨u,pu,ku⟩:=hr
 refine ⟨_,Mc pt pu,λO σ H env p dx ns us ds nZ ds' Dn R no op hs hp hl hi e q=>?_⟩
 unfold JI at e
 split at e
 .rename_i ao hG
  obtain ⟨Cj,e2⟩:=Kp e
  refine k O H σ H env ao _ R hG λbB H' R' g' h0=>?_
  have sm:=R'.same
  exact ku O bB H' ao p dx ns us ds nZ ds' Dn (R'.rebase (S8 Cj)) (S8 Cj) op (h0.trans hs) (sm _ _ hp) hl (hi.grow sm) e2 λfJ H2 MR kp=>q fJ H2 MR λq u e ne=>kp q u (sm _ _ e) ne
 .cases e
theorem c0r{e:Expr}{f x:Str}{fe:En->Option Sl}{p1 pos' pos:Pos}(hv:EV X e fe)(hr:A1 X t7 C F)(c:A3 X.K C)(n:aa X.K C f)
  (hN:X.N[0]?=some x)(oZ:l4 X.env.scope x)(hd:(x==("__debug__":Str))=false:=by rfl)(de:(x==("__classdict__":Str))=false:=by rfl)
  (hs:swapsWith e (some (.Attribute (.Name x p1) f pos')) pos.line X.env=pure false:=by rfl):A1 X (.Assign [.Attribute (.Name x p1) f pos'] e pos::t7) C (dH f fe F):=by
 obtain ⟨t,pt,k⟩:=hv
 obtain ⟨u,pu,ku⟩:=hr
 refine ⟨_,Mc (b5Y (Bi hN oZ hd de) pt hs) pu,λO σ H env p dx ns us ds nZ ds' Dn R no op hs hp hl hi e q=>?_⟩
 obtain ⟨r,e1,e2⟩:=bind_some e
 split at e2
 .cases e2
 rename_i Cj
 rw [not_or] at Cj
 refine k O H σ H env r _ R e1 λv H1 s1 r1=>?_
 have iv:=(r1.is λq=>R.oo).less (O':=O) λq z=>.inl z
 refine ⟨.ref p,hs,p,C,dx,ns.zip us,rfl,s1 _ _ hp,c,n,by rw [Dd];omega,?_⟩
 rw [Yg Cj.1 hl]
 have kp:∀q u,H1 q=some u->q≠p->upd H1 p (.ins C dx ((ns++[f]).zip (us++[v]))) q=some u:=λq u e ne=>by rw [jw ne];exact e
 have mp:∀{w:V} {d:D},Is X.K O H1 w d->Is X.K O (upd H1 p (.ins C dx ((ns++[f]).zip (us++[v])))) w d:=λh=>h.map (λ_ _ z=>z) λq u e nq=>kp q u e λz=>nq (by rw [z];exact op)
 have Vm:∀{w:List V} {d:List D},bp X.K O H1 w d->bp X.K O (upd H1 p (.ins C dx ((ns++[f]).zip (us++[v])))) w d:=λh=>h.map (λ_ _ z=>z) λq u e nq=>kp q u e λz=>nq (by rw [z];exact op)
 have R1:Rel X.K O H1 σ H1 env:=(R.grow s1).rebase no
 exact ku O σ _ env p dx (ns++[f]) (us++[v]) (ds++[r.d]) nZ ds' Dn (R1.ZT no op (s1 _ _ hp) kp (by rw [yB];exact λz=>nomatch z)) no op hs yB (by rw [ma,ma,hl];rfl) ((Vm (hi.grow s1)).append (.cons (mp iv) .nil)) e2 λbB H' A7 kq GU xS xT=>q bB H' A7 (λq u e ne=>kq q u (kp q u (s1 _ _ e) ne) ne) GU xS xT
theorem N3{x f y:Str}{g:Addr}{fd:FuncData}{ps:List Str}{j:Nat}{φ:List D->Option Sl}{p1 p2 p3 pos aB:Pos}(Fn:dh X.prog X.w X.K X.mg X.base pB j g fd ps (Bs X.K ps.length φ))(C4:ps.length=1)(VJ:c8 j X.A)(hg:Gl X y)(hm:X.mg y=some (.ref g))(hk:vY X.K (.ref g)=true)(hb:Binds X.K fd ps [])
  (hr:A1 X t7 C F)(c:A3 X.K C)(n:aa X.K C f)(hN:X.N[0]?=some x)(oZ:l4 X.env.scope x)(hd:(x==("__debug__":Str))=false:=by rfl)(de:(x==("__classdict__":Str))=false:=by rfl)
  (OG:attributeBase (.Name x p1) f X.env (eval (.Name x p1) X.env)=eval (.Name x p1) X.env:=by rfl)
  (ql:(y==("__debug__":Str))=false:=by decide)(he:starEach [.Attribute (.Name x p1) f p2] X.env=[(false,eval (.Attribute (.Name x p1) f p2) X.env)]:=by rfl)
  (hs:swapsWith (.Call (.Name y p3) [.Attribute (.Name x p1) f p2] [] aB) none pos.line X.env=pure false:=by rfl):
  A1 X (.Expr (.Call (.Name y p3) [.Attribute (.Name x p1) f p2] [] aB) pos::t7) C (VB φ f F):=by
 obtain ⟨u,pu,ku⟩:=hr
 refine ⟨_,Mc (Kz (Yd Fn VJ hg hm hk hb .nil (Km (X:=X)) (wm (b52 (Bi hN oZ hd de) OG) zx he) ql he rfl) hs) pu,λO σ H env p dx ns us ds nZ ds' Dn R no op hs hp hl hi e q=>?_⟩
 obtain ⟨d,e1,e2⟩:=bind_some e
 obtain ⟨r,e3,e4⟩:=bind_some e2
 obtain ⟨v,hv,iv⟩:=YD hi e1
 refine ⟨.ref p,hs,p,C,dx,ns.zip us,v,rfl,hp,c,n,hv,?_⟩
 refine (show Bs X.K ps.length φ [v] H (λ_ H1=>u Dn σ H1) E0 from ?_)
 refine ⟨O,[d],r,R.AF,.cons iv .nil,by rw [C4];rfl,e3,λw H1 s1 r1=>?_⟩
 exact ku O σ H1 env p dx ns us ds nZ ds' Dn ((R.grow s1).rebase no) no op hs (s1 _ _ hp) hl (hi.grow s1) e4 λfJ H2 MR kp=>q fJ H2 MR λq u e ne=>kp q u (s1 _ _ e) ne
structure A4(K:aX)(C0 m:Addr):Prop where
 g:PD K (.ref C0) "__getattribute__" = some (some (.builtin "type.__getattribute__"))
 r:c6M K C0 (.type "type")=true
 f:c6N K (.ref C0) (.type "type") "__init__" = some (.val (.ref m))
 k:vY K (.ref m)=true
theorem b7f{c:Str}{C0 f:Addr}{fd:FuncData}{ps:List Str}{j:Nat}{sp:Sp}{e:Expr}{es:List Expr}{t:TA}{p apos pos:Pos}{pl:Sem Bool}(b:A4 X.K C0 f)(Fn:dh X.prog X.w X.K X.mg X.base pB j f fd ps sp)(hr:c8 j X.A)(hg:Gl X c)(hm:X.mg c=some (.ref C0))(hb:Binds X.K fd ps [])(ha:PA X (e::es) t)
  (ql:(c==("__debug__":Str))=false:=by decide)(A9:starEach (e::es) X.env=(false,eval e X.env)::starEach es X.env:=by rfl)(nP:(backTo pos (starEach es X.env)).any (·.1)=false:=by rfl)
  (ht:eval (.Call (.Attribute (.Name c p) "__init__" apos) (e::es) [] pos) X.env=(eval (.Name c p) X.env >>= λov=>standAt apos.atName >>= λ_=>holding [ov] (getMethod ov "__init__" pl) >>= λz=>callWith pos z.1 z.2 (backTo pos (starEach (e::es) X.env)) (backToKw pos (keywordEach [] X.env))):=by rfl):
  PE X (.Call (.Attribute (.Name c p) "__init__" apos) (e::es) [] pos) (XN sp [] E0 t):=by
 intro pins s σ H Q I h
 refine Xr (pl:=pl) (S3 I hg hm ?_ ql) ht
 refine PySem.W.method_cls I.Ay b.g (PySem.W.cls_value I.Ay b.r b.f rfl ?_)
 have I1:Inv X pins σ H { s with toks:=s.toks+1 }:=I.tok _
 refine RE (first:=[]) (h₀:=X.base) I.ok.mod.HI b.k (cM (ha pos pins _ σ H _ I1 h) λus s1 ⟨vs,H1,I1,r,q⟩=>⟨I1.Ay,?_⟩) A9 nP
 exact SO Fn hr hb .nil Km I1 r q
theorem b7z{c x:Str}{C0 f:Addr}{fd:FuncData}{ps:List Str}{j n:Nat}{Il:List Str}{ψ:List D->Option (List D)}{fs:En->Option (List D)}{es:List Expr}{p p1 apos aB pos:Pos}{pl:Sem Bool}(b:A4 X.K C0 f)(Fn:dh X.prog X.w X.K X.mg X.base pB j f fd ps (K3 X.K C n Il ψ))(VJ:c8 j X.A)(hg:Gl X c)(hm:X.mg c=some (.ref C0))(hb:Binds X.K fd ps [])
  (ha:AV X es fs)(hr:A1 X t7 C F)(hN:X.N[0]?=some x)(oZ:l4 X.env.scope x)(hd:(x==("__debug__":Str))=false:=by rfl)(de:(x==("__classdict__":Str))=false:=by rfl)
  (ql:(c==("__debug__":Str))=false:=by decide)(A9:starEach (.Name x p1::es) X.env=(false,eval (.Name x p1) X.env)::starEach es X.env:=by rfl)(nP:(backTo aB (starEach es X.env)).any (·.1)=false:=by rfl)
  (ht:eval (.Call (.Attribute (.Name c p) "__init__" apos) (.Name x p1::es) [] aB) X.env=(eval (.Name c p) X.env >>= λov=>standAt apos.atName >>= λ_=>holding [ov] (getMethod ov "__init__" pl) >>= λz=>callWith aB z.1 z.2 (backTo aB (starEach (.Name x p1::es) X.env)) (backToKw aB (keywordEach [] X.env))):=by rfl)
  (hs:swapsWith (.Call (.Attribute (.Name c p) "__init__" apos) (.Name x p1::es) [] aB) none pos.line X.env=pure false:=by rfl):
  A1 X (.Expr (.Call (.Attribute (.Name c p) "__init__" apos) (.Name x p1::es) [] aB) pos::t7) C (PU n Il ψ fs F):=by
 obtain ⟨t,pt,ka⟩:=ha
 obtain ⟨u,pu,ku⟩:=hr
 refine ⟨_,Mc (Kz (b7f (pl:=pl) b Fn VJ hg hm hb (wm (Bi hN oZ hd de) pt A9) ql A9 nP ht) hs) pu,λO σ H env p dx ns us ds nZ ds' Dn R no op hs hp hl hi e q=>?_⟩
 obtain ⟨hn0,e1⟩:=Kp e
 subst hn0
 obtain rfl:us=[]:=Sg.mp hl.symm
 obtain ⟨as,e2,e3⟩:=bind_some e1
 obtain ⟨hln,e4⟩:=Kp e3
 obtain ⟨gs,e5,e6⟩:=bind_some e4
 refine ⟨.ref p,hs,?_⟩
 refine ka O H σ H env as _ R e2 λvs H1 s1 r1=>?_
 have R1:Rel X.K O H1 σ H1 env:=(R.grow s1).rebase no
 have i1:bp X.K O H1 vs as:=r1.less λq z=>.inl z
 refine ⟨O,p,dx,vs,as,gs,by rw [E4],by rw [r1.length];exact hln,s1 _ _ hp,R1.AF,op,i1,e5,λMR H2 La kp2 Q2 hi2=>?_⟩
 exact ku O σ H2 env p dx Il MR gs nZ ds' Dn (R1.ZT no op (s1 _ _ hp) kp2 (by rw [Q2];exact λz=>nomatch z)) no op hs Q2 La hi2 e6 λyO H3 us3 kp3=>q yO H3 us3 λq u e ne=>kp3 q u (kp2 q u (s1 _ _ e) ne) ne
end
section
variable {P:Program}{w:World}{K:aX}{mg:Str->Option Value}{base:Heap}
theorem b4T{qual:Str}{st:Stmt}{f C:Addr}{fd:FuncData}{N ps:List Str}{k n:Nat}{ns:List Str}{F:IF}(Fn:Fs K "__init__" qual st f fd)(S:dN N ps (hX st))(C4:ps.length=n+1)(hN:1<=N.length)
  (dz:∀X:Cx,X.prog=P->X.w=w->X.K=K->X.mg=mg->X.base=base->Fx X N (hX st) k->A1 X (pD st) C F):dh P w K mg base pB (k+1) f fd ps (K3 K C n ns (fL F N.length ns)):=by
 refine Fn.ok S (λvs H Q E h=>?_) (λgZ A outer s H vs Q E hr h=>?_)
 .obtain ⟨O,p,dx,ws,ds,fs,rfl,hl,_⟩:=h
  rw [lI,hl,C4]
 obtain ⟨O,p,dx,ws,ds,fs,rfl,hl,hp,dm,op,hi,e,q⟩:=h
 obtain ⟨t,pt,kk⟩:=dz (z7 pB P w K mg base N qual (hX st) f gZ A outer s H E).tX rfl rfl rfl rfl rfl ⟨rfl,rfl,rfl,λ_ _=>rfl,Pn,hr,S.nd,λ_=>⟨rfl,rfl,rfl⟩⟩
 refine ⟨t,pt,?_⟩
 have R0:=YI (N:=N.tail) dm hi
 have R1:=b0D (some (V.ref p)) R0
 have es:some (V.ref p)::start N.tail ws=start N (V.ref p::ws):=by
  unfold L2.start
  rw [fH,Lw,RM,lI,Nat.sub_sub,Nat.add_comm 1]
 rw [es,RM] at R1
 unfold fL at e
 cases hF:F (.no::zy (N.length-1) ds) [] [] with
 | none=>rw [hF] at e;cases e
 | some y =>
  obtain ⟨nZ,G4⟩:=y
  rw [hF] at e
  obtain ⟨rfl,rfl⟩:=oi (show (if nZ=ns then some G4 else none)=some fs from e)
  refine kk O _ H _ p dx [] [] [] nZ G4 _ R1 (λi s h1 h2=>?_) op rfl hp rfl .nil hF λbB H' A7 kp GU xS xT=>q A7 H' xS kp GU xT
  cases i with
  | zero=>cases h1;exact h2
  | succ i =>
   have h1:(zy (N.length-1) ds)[i]?=some s:=by simpa using h1
   unfold zy at h1
   rw [Sj] at h1
   split at h1
   .rw [zq] at h1
    obtain ⟨d,_,e⟩:=map_some h1
    cases e
    exact h2
   .rw [LG] at h1
    split at h1
    .cases h1;exact h2
    .cases h1
theorem SJ{c qual:Str}{st:Stmt}{f C:Addr}{fd:FuncData}{N ps:List Str}{k n:Nat}{ns:List Str}{F:IF}(h:jQ K c C)(hm:mg c=some (.ref C))(M:Mk K C f)(D':cP K f "__init__" qual st ps fd)
  (dz:∀X:Cx,Sx X P w K mg base->Fx X N (hX st) k->A1 X (pD st) C F)(C4:ps.length=n+1:=by rfl)(hN:1<=N.length:=by decide)(S:dN N ps (hX st):=by exact ⟨rfl,rfl,rfl,by decide +kernel,rfl,by decide +kernel,by decide +kernel⟩):pz P w K mg base c n ns (k+1) (fL F N.length ns):=
 ⟨C,f,fd,ps,M,b4T D'.fn S C4 hN λX e1 e2 e3 e4 e5=>by subst e1 e2 e3 e4 e5;exact dz X (.mk X),hm,h.a,D'.bd⟩
def IL(P:Program)(w:World)(K:aX)(mg:Str->Option Value)(base:Heap)(C0 C f:Addr)(b:Str)(n:Nat)(ns:List Str)(j:Nat)(ψ:List D->Option (List D)):Prop:=∃fd ps,A4 K C0 f/\mg b=some (.ref C0)/\dh P w K mg base pB j f fd ps (K3 K C n ns ψ)/\Binds K fd ps []
theorem XG{b qual:Str}{st:Stmt}{f C0 C:Addr}{fd:FuncData}{N ps:List Str}{k n:Nat}{ns:List Str}{F:IF}(hbf:A4 K C0 f)(hm:mg b=some (.ref C0))(D':cP K f "__init__" qual st ps fd)
  (dz:∀X:Cx,Sx X P w K mg base->Fx X N (hX st) k->IM X (pD st) C F)(C4:ps.length=n+1:=by rfl)(hN:1<=N.length:=by decide)(S:dN N ps (hX st):=by exact ⟨rfl,rfl,rfl,by decide +kernel,rfl,by decide +kernel,by decide +kernel⟩):IL P w K mg base C0 C f b n ns (k+1) (fL F N.length ns):=
 ⟨fd,ps,hbf,hm,b3j D'.fn S C4 hN λX e1 e2 e3 e4 e5=>by subst e1 e2 e3 e4 e5;exact dz X (.mk X),D'.bd⟩
end
section
variable {X:Cx}{N:List Str}{sc:Scope}{k j n:Nat}{full:Bool}{C:Addr}{F:IF}{t7:List Stmt}{x:Str}
theorem Fx.K6{e:Expr}{f:Str}{fe:En->Option Sl}{p1 pos' pos:Pos}(h:Fx X N sc k full)(c:A3 X.K C)(n:aa X.K C f)(hv:EV X e fe)(hr:A1 X t7 C F)(hN:N[0]?=some x:=by rfl)(oZ:l4 sc x:=by first | exact dY rfl | exact cO (dY rfl) | exact cO (cO rfl))(hd:(x==("__debug__":Str))=false:=by rfl)(de:(x==("__classdict__":Str))=false:=by rfl)
  (hs:swapsWith e (some (.Attribute (.Name x p1) f pos')) pos.line X.env=pure false:=by rfl):A1 X (.Assign [.Attribute (.Name x p1) f pos'] e pos::t7) C (dH f fe F):=c0r hv hr c n (h.ix hN) (h.A6 oZ) hd de hs
theorem Fx.iwc{f y:Str}{st:Stmt}{ps:List Str}{φ:List D->Option Sl}{p1 p2 p3 pos aB:Pos}(h:Fx X N sc k full)(O:Oz X.prog X.w X.K X.mg X.base y st ps j φ)(c:A3 X.K C)(n:aa X.K C f)(hr:A1 X t7 C F)(hj:j<=k:=by decide)(C4:ps.length=1:=by rfl)(hg:sc.names.lookup y=some .globalImplicit:=by rfl)
  (hN:N[0]?=some x:=by rfl)(oZ:l4 sc x:=by first | exact dY rfl | exact cO (dY rfl) | exact cO (cO rfl))(hd:(x==("__debug__":Str))=false:=by rfl)(de:(x==("__classdict__":Str))=false:=by rfl)
  (OG:attributeBase (.Name x p1) f X.env (eval (.Name x p1) X.env)=eval (.Name x p1) X.env:=by rfl)
  (ql:(y==("__debug__":Str))=false:=by decide)(he:starEach [.Attribute (.Name x p1) f p2] X.env=[(false,eval (.Attribute (.Name x p1) f p2) X.env)]:=by rfl)
  (hs:swapsWith (.Call (.Name y p3) [.Attribute (.Name x p1) f p2] [] aB) none pos.line X.env=pure false:=by rfl):
  A1 X (.Expr (.Call (.Name y p3) [.Attribute (.Name x p1) f p2] [] aB) pos::t7) C (VB φ f F):=by
 obtain ⟨g,fd,D',Fn⟩:=O
 exact N3 Fn C4 (h.room.mono hj) (h.g hg) D'.m D'.fn.kp D'.bd hr c n (h.ix hN) (h.A6 oZ) hd de OG ql he hs
theorem Fx.Vy{b:Str}{C0 f:Addr}{Il:List Str}{ψ:List D->Option (List D)}{fs:En->Option (List D)}{es:List Expr}{p p1 apos aB pos:Pos}{pl:Sem Bool}(h:Fx X N sc k full)(T:IL X.prog X.w X.K X.mg X.base C0 C f b n Il j ψ)(ha:AV X es fs)(hr:A1 X t7 C F)(hj:j<=k:=by decide)(hg:sc.names.lookup b=some .globalImplicit:=by rfl)
  (hN:N[0]?=some x:=by rfl)(oZ:l4 sc x:=by first | exact dY rfl | exact cO (dY rfl) | exact cO (cO rfl))(hd:(x==("__debug__":Str))=false:=by rfl)(de:(x==("__classdict__":Str))=false:=by rfl)
  (ql:(b==("__debug__":Str))=false:=by decide)(A9:starEach (.Name x p1::es) X.env=(false,eval (.Name x p1) X.env)::starEach es X.env:=by rfl)(nP:(backTo aB (starEach es X.env)).any (·.1)=false:=by rfl)
  (ht:eval (.Call (.Attribute (.Name b p) "__init__" apos) (.Name x p1::es) [] aB) X.env=(eval (.Name b p) X.env >>= λov=>standAt apos.atName >>= λ_=>holding [ov] (getMethod ov "__init__" pl) >>= λz=>callWith aB z.1 z.2 (backTo aB (starEach (.Name x p1::es) X.env)) (backToKw aB (keywordEach [] X.env))):=by rfl)
  (hs:swapsWith (.Call (.Attribute (.Name b p) "__init__" apos) (.Name x p1::es) [] aB) none pos.line X.env=pure false:=by rfl):
  A1 X (.Expr (.Call (.Attribute (.Name b p) "__init__" apos) (.Name x p1::es) [] aB) pos::t7) C (PU n Il ψ fs F):=by
 obtain ⟨fd,ps,B,hm,Fn,hb⟩:=T
 exact b7z (pl:=pl) B Fn (h.room.mono hj) (h.g hg) hm hb ha hr (h.ix hN) (h.A6 oZ) hd de ql A9 nP ht hs
end
end DL
namespace DL
open PySem PySem.Spec PyProof.Rows L2
section
variable {X:Cx}
theorem b0k{K:Type}[DecidableEq K]{knd:Ig X.prog X.w K}:dO X (.builtin "len") (λxs H Q=>∃(p:Addr) (ks:List K),xs=[.ref p]/\H p=some (sE knd p ks)/\Q (.int ks.length) H):=by
 intro pins s σ H xs vs Q I r h
 obtain ⟨p,ks,rfl,hp,q⟩:=h
 obtain ⟨u,rfl,ru⟩:=r.one
 cases ru
 obtain ⟨⟨o,ho,ex,es,ep,t,fE,hd,S,rfl⟩,_⟩:=I.cF p _ hp
 have hl:es.size=(fE.map (·.1)).length:=by rw [S.len,c6]
 have hb:(scanBound:Int)<=2^62:=by decide
 refine PySem.call_len_set ho ex hd S.fits (by have:=S.lt;omega) ?_
 exact ⟨.int _,H,I.tok _,⟨_,by rw [hl]⟩,q⟩
theorem b99{ks ss:List Str}(nd:ks.Nodup)(mem:∀x,x∈ks↔x∈ss):ks.length=(SE.zH SE.zX ss).length:=by
 have h2:(SE.zH SE.zX ss).Nodup:=(SE.wB SE.mr ss).imp λ{a b} h e=>by
  subst e
  have h:=(SE.mr.JH a).symm.trans h
  cases h
 exact ((List.perm_ext_iff_of_nodup nd h2).mpr λx=>by rw [mem,SE.pH SE.mr]).length_eq
noncomputable def SS(f:En->Option Sl):En->Option Sl:=λenv=>(f env).bind λr=>match r.d with
 | .lst _ ds=>(Cz ds).bind λss=>if ss.length+1<4096 then some (.sh (.int (SE.zH SE.zX ss).length)) else none
 | _=>none
theorem b3s{e:Expr}{fa:En->Option Sl}{p pos p2 ui:Pos}(hc:X.calm=true)(hg:Gl X "len")(hm:X.mg "len" = none)(Lc:Gl X "set")(K':X.mg "set" = none)(he:EV X e fa)(hs:starEach [e] X.env=[(false,eval e X.env)]:=by rfl)
  (yI:starEach [.Call (.Name "set" p2) [e] [] ui] X.env=[(false,eval (.Call (.Name "set" p2) [e] [] ui) X.env)]:=by rfl):EV X (.Call (.Name "len" p) [.Call (.Name "set" p2) [e] [] ui] [] pos) (SS fa):=by
 obtain ⟨t,pt,k⟩:=he
 refine ⟨_,KD (p:=p) (pos:=pos) (b0k (knd:=Pt X.prog X.w)) hg hm WG (wm (ID (p:=p2) (pos:=ui) (nH XZ ("":Str) hc) Lc K' (by decide +kernel) (wm pt zx hs) (by decide) (by decide) hs rfl) zx yI) (by decide) (by decide) yI rfl,λO B σ H env s Q R e q=>?_⟩
 obtain ⟨r,e1,e2⟩:=bind_some e
 cases hd:r.d with
 | lst b ds =>
  rw [hd] at e2
  obtain ⟨ss,e5,e6⟩:=bind_some (show (Cz ds).bind (λss=>if ss.length+1<4096 then some (Sl.sh (.int (SE.zH SE.zX ss).length)) else none)=some s from e2)
  obtain ⟨DA,rfl⟩:=oi e6
  refine k O B σ H env r _ R e1 λv H1 s1 r1=>?_
  have hi:=r1.is λq=>R.oo
  rw [hd] at hi
  have Pa:=YV e5
  subst Pa
  obtain ⟨a,xs,rfl,h2,h3⟩:=hi.seq (k:=true) rfl
  have ex:=YL h3
  subst ex
  refine ⟨a,ss,rfl,h2,DA,λc ks nd mem hc=>⟨c,ks,rfl,yB,?_⟩⟩
  rw [b99 nd mem]
  exact q _ _ (s1.trans (zz hc _)) (Is.int _)
 | _=>rw [hd] at e2;cases e2
end
end DL
namespace DPr
open PySem PySem.Spec PyProof.Rows
theorem a84:entryFor table "dict.update.loop" = some Builtin.«dict.update.loop»:=entryFor_of_tree (by kernel_rfl)
theorem Td:plainId "dict.update.loop" = true:=by decide +kernel
theorem b2U:typeLookup (.type "list") "keys" = pure none:=by rw [WH,Xs];kernel_rfl
section
variable {prog:Program}{w:World}{A:Around}{E:Value->Shared->Prop}{s:Shared}{K:Type}[DecidableEq K]{knd:KeyKind prog w K}{R:Result->Shared->Prop}
theorem b2T{a:Addr}{o:Obj}{xs:Array Value}{k:Nat}{Q:Option Value->Shared->Prop}(hx:s.heap.get? a=some o)(hc:o.cls=.type "list")(OE:o.data=.seq xs k)(hd:o.dict=none)(hA:A.handled=none)
  (h:∀h' tk,(∀b o,s.heap.get? b=some o->h'.get? b=some o)->Q none { s with heap:=h',toks:=tk }):wpAny (model prog w) A (getAttr? (.ref a) "keys") Q E s:=by
 obtain ⟨c,rf,dat,sl⟩:=o
 simp only at hc OE hd
 subst hc OE hd
 obtain ⟨hp,g,d,tk,os⟩:=s
 have hT:∀A8,(⟨hp,g,d,A8,os⟩:Shared).TypeIs (.ref a) "list":=λ_=>⟨_,hx,rfl⟩
 have f1:=sub_AttributeError
 have f3:=Xi.lookup
 have f4:=Xi.bind (.ref a)
 have f5:=am_list_getattr_none
 unfold getAttr? getAttrBy? getAttrBy
 repeat (any_goals (first | assumption | exact hT _ | ((with_reducible show wpAny _ _ (call (Value.builtin "list.__getattribute__") _ _) _ _ _);refine Lj Xi (hT _) am_entry_list_getattribute (F.args_list_getattribute_2 _ _) (meets_getattribute_miss_list a xs k sl "keys" _ b2U (by decide +kernel) (by decide +kernel)) ⟨hx,hA,λh' A8 e Az=>?_⟩) | wp_step))
 obtain ⟨t',u',he⟩:=Az.there
 show wpAny _ _ (getattributeRaised _ _ _ _ _ _ _) _ _ _
 unfold getattributeRaised
 repeat (any_goals (first | assumption | wp_step))
 exact h _ _ Az.of.keeps
theorem Qk{I:Addr}{fp wr:List Addr}{G:Array GenState->Array GenState->Prop}{n:Nat}{P:Nat->Value->Prop}{St:Nat->Shared->Prop}(W:WalksS prog w A.in1 I fp wr G n P St)(S:Addr)(Bc:S∉fp)(aI:List (K×Value))(hn:aI.length=n)(nd:(aI.map (·.1)).Nodup)(hz:n<=sizeLine)
  (T:Nat->Addr)(hP:∀i v,P i v->v=.ref (T i))(hT:∀i,i<n->T i∉S::wr):
  ∀(m i:Nat) (s:Shared) (j:Int) (t:Tok),n-i=m->i<=n->St i s->s.heap.DictOf knd S (aI.take i)->(∀i q,aI[i]?=some q->∃key,knd.is q.1 key=true/\s.heap.IsTuple (T i) #[key,q.2]) ->
   (∀s',Moved (S::wr) G s s'->s'.heap.DictOf knd S aI->R (.ok (.ret .none)) s') ->
   codeAny (model prog w) A (.builtin "dict.update.loop" ⟨[.ref S,.ref I,.int j t,.none],[]⟩) R s
 | 0,i,s,j,t,hm,hi,st,D,hk,hR=>by
  have e:i=n:=by omega
  subst e
  refine H9 a84 ?_
  rw [Kk Td _]
  show wpAny _ A.in1 (pyNext (.ref I) >>= _) _ _ s
  refine aY (W.done s _ _ st λs' mv=>?_)
  have V9:S∉wr:=λh=>Bc (W.sub _ h)
  show wpAny _ A.in1 (Builtin.Dict.addKeywords S [] >>= _) _ _ s'
  refine aY (cE (cE (hR s' (mv.mono λb hb=>nT _ hb) ?_)))
  rw [<-hn,List.take_length] at D
  obtain ⟨o,es,ep,ho,rest⟩:=D
  exact ⟨o,es,ep,mv.heap S _ V9 ho,rest⟩
 | m+1,i,s,j,t,hm,hi,st,D,hk,hR=>by
  have jG:i<n:=by omega
  have V9:S∉wr:=λh=>Bc (W.sub _ h)
  refine H9 a84 ?_
  rw [Kk Td _]
  show wpAny _ A.in1 (pyNext (.ref I) >>= _) _ _ s
  refine aY (W.item i s _ _ jG st λv s' hv fy mv=>?_)
  obtain rfl:=hP i v hv
  have hq:aI[i]?=some aI[i]:=md (by omega)
  have kp:∀i' q,aI[i']?=some q->∃key,knd.is q.1 key=true/\s'.heap.IsTuple (T i') #[key,q.2]:=λi' q e=>by
   obtain ⟨key,h1,o,h2,h3⟩:=hk i' q e
   have hl:i'<n:=by
    have:=(z9.mp e).1
    omega
   exact ⟨key,h1,o,mv.heap _ _ (λz=>hT i' hl (nT _ z)) h2,h3⟩
  obtain ⟨key,BN,o,ho,hc,nn,hd⟩:=kp i _ hq
  have D':s'.heap.DictOf knd S (aI.take i):=by
   obtain ⟨o,es,ep,ho,rest⟩:=D
   exact ⟨o,es,ep,mv.heap S _ V9 ho,rest⟩
  show wpAny _ A.in1 (holding [e8 (T i)] _ >>= _) _ _ s'
  refine aY (DJ ?_)
  refine aY (wpAny_tryCatch ?_)
  unfold Builtin.Dict.pairItems
  refine aY (Px ⟨o,ho,hc⟩ ?_)
  rw [if_pos (by decide)]
  unfold seqItems?
  refine aY (aY (Rp ho ?_))
  rw [hd]
  refine cE (cE ?_)
  show wpAny _ A.in1 (holding [key,aI[i].2] (dictSet S key aI[i].2)) _ _ s'
  refine DJ (wpAny_dictSet_pairs (hsz:=by rw [PK];omega) BN D' λh' D2 sb=>?_)
  have nm:aI[i].1∉(aI.take i).map (·.1):=λz=>by
   rw [<-c6a i aI,Ak,List.nodup_append] at nd
   have e2:aI[i].1∈(aI.drop i).map (·.1):=by
    rw [RS (by omega),fH]
    exact pd
   exact nd.2.2 _ z _ e2 rfl
  have est:stored (aI.take i) aI[i].1 aI[i].2=aI.take (i+1):=by
   unfold stored
   rw [if_neg ?_,List.take_succ,hq]
   .rfl
   .intro z
    rw [W5] at z
    obtain ⟨x,hx,e⟩:=z
    exact nm (BW.mpr ⟨x,hx,by simpa using e⟩)
  rw [est] at D2
  refine cE ⟨Kj Td _,Qk W S Bc aI hn nd hz T hP hT m (i+1) _ _ _ (by omega) jG (W.frame _ s' _ _ fy (He _) λb hb o e=>?_) D2 (λi' q e=>?_) λJf Vl=>?_⟩
  .rw [sb.2 b (λh:b=S=>Bc (by rw [<-h];exact hb))];exact e
  .obtain ⟨Vv,h1,o',h2,h3⟩:=kp i' q e
   have hl:i'<n:=by
    have:=(z9.mp e).1
    omega
   exact ⟨Vv,h1,o',(sb.2 _ (λz=>hT i' hl (by rw [z];exact pd))).trans h2,h3⟩
  .refine hR Jf (Moved.trans W.gtrans ((mv.mono λb hb=>nT _ hb).then_heap (He _) λb o hb e=>?_) Vl)
   rw [sb.2 b (λh:b=S=>hb (by rw [h];exact pd))];exact e
theorem C9{l:Addr}{o:Obj}{items:Array Value}{nn:Nat}{Q:Value->Shared->Prop}(hh:A.handled=none)(ho:s.heap.get? l=some o)(hc:o.cls=.type "list")(hd:o.data=.seq items nn)(VY:o.dict=none)
  (aI:List (K×Value))(hn:aI.length=items.size)(nd:(aI.map (·.1)).Nodup)(hz:items.size<=sizeLine)(T:Nat->Addr)(hI:∀(i:Nat) (v:Value),items[i]?=some v->v=.ref (T i))(hT:∀(i:Nat) (q:K×Value),aI[i]?=some q->∃key,knd.is q.1 key=true/\s.heap.IsTuple (T i) #[key,q.2])
  (h:∀h' tk,(∀b o,s.heap.get? b=some o->h'.get? b=some o)->h'.DictOf knd s.heap.objs.size aI->Q (.ref s.heap.objs.size) { s with heap:=h',toks:=tk }):wpAny (model prog w) A (call (.type "dict") [.ref l]) Q E s:=by
 refine callType_codes (Q₁:=λobj bA=>obj=.ref s.heap.objs.size/\bA={ s with heap:=s.heap.push { cls:=.type "dict",data:=.dict #[] } }) F.kt_called_dict (F.kt_typeCall_dict_1 _) F.entry_dict_init (kt_code_dict_new _ ⟨rfl,rfl⟩) ?_
 rintro obj bA ⟨rfl,rfl⟩
 have JP:(s.heap.push { cls:=.type "dict",data:=.dict #[] }).DictOf knd s.heap.objs.size []:=c6L s.heap
 have Q3:(s.heap.push { cls:=.type "dict",data:=.dict #[] }).get? l=some o:=ft _ ho
 refine ⟨JP.typeIs,F.args_dict_init_2 _ _,?_⟩
 unfold Builtin.«dict.__init__»
 refine aY ?_
 unfold Builtin.Dict.selfAndRest
 refine aY (wpAny_notOrdered_dict JP.typeIs ?_)
 show wpAny _ _ (pure (s.heap.objs.size,[e8 l])) _ _ _
 refine cE ?_
 show wpAny _ _ (c5E "dict.__init__" s.heap.objs.size (.ref l) [] .none) _ _ _
 unfold c5E
 refine aY (Px (T:="list") ⟨o,Q3,hc⟩ ?_)
 rw [if_pos (by decide)]
 refine aY (b2T (s:={ s with heap:=s.heap.push { cls:=.type "dict",data:=.dict #[] } }) Q3 hc hd VY (by exact hh) λh1 tk1 EN=>?_)
 rw [if_pos (by rfl)]
 refine aY (Rj ?_)
 have HN:h1.IsList l items:=⟨o,EN _ _ Q3,hc,nn,hd⟩
 refine aY (RO (s:={ s with heap:=h1,toks:=tk1 }) HN ?_)
 have ET:l<h1.objs.size:=eY (EN _ _ Q3)
 have hS1:h1.DictOf knd s.heap.objs.size []:=by
  obtain ⟨o',es,ep,e1,rest⟩:=JP
  exact ⟨o',es,ep,EN _ _ e1,rest⟩
 have V8:s.heap.objs.size<h1.objs.size:=by
  obtain ⟨o',es,ep,e1,rest⟩:=hS1
  exact eY e1
 have VO:l<s.heap.objs.size:=eY ho
 have su:l≠h1.objs.size:=g0 ET
 have Bc:s.heap.objs.size∉[h1.objs.size,l]:=by
  simp only [js,DD,or_false,not_or]
  exact ⟨g0 V8,J5 VO⟩
 have hTl:∀i,i<items.size->T i<s.heap.objs.size:=λi hi=>by
  obtain ⟨key,_,o',e1,_⟩:=hT i aI[i] (md (by omega))
  exact eY e1
 refine cE ⟨Kj Td _,Qk (knd:=knd) ((WJ (by simp [hh]) h1.objs.size l su items).toS) s.heap.objs.size Bc aI hn nd hz T hI (λi hi=>?_) (items.size-0) 0 _ _ _ (by omega) (De _) ⟨⟨_,nS _ rfl,rfl,rfl⟩,HN.push _⟩ (hS1.push _) (λi q e=>?_) λs' hm D=>?_⟩
 .have Q9:=hTl i hi
  simp only [js,DD,or_false,not_or]
  exact ⟨g0 Q9,g0 (Ic Q9 V8)⟩
 .obtain ⟨key,Q9,o',e1,e2⟩:=hT i q e
  exact ⟨key,Q9,o',ft _ (EN _ _ (ft _ e1)),e2⟩
 .obtain ⟨h',g',d',A8,NL⟩:=s'
  have e1:g'=s.gens:=hm.gens
  have e2:d'=s.drawn:=hm.drawn
  have e3:NL=s.os:=hm.os
  subst e1;subst e2;subst e3
  refine ⟨rfl,h h' A8 (λb o hb=>hm.heap b o ?_ (ft _ (EN _ _ (ft _ hb)))) D⟩
  have GY:=eY hb
  simp only [js,DD,or_false,not_or]
  exact ⟨g0 GY,g0 (Ic GY V8)⟩
end
end DPr
namespace DL
open PySem PySem.Spec PyProof.Rows L2
noncomputable def px(K:aX)(H:Hp):List Addr->List Str->List V->Prop
 | [],[],[]=>True
 | t::T,k::ks,v::vs=>oj K H t [.str k,v]/\px K H T ks vs
 | _,_,_=>False
noncomputable def Ho:List D->Option (List Str×List D)
 | []=>some ([],[])
 | .tup [.str k,d]::r=>(Ho r).map λp=>(k::p.1,d::p.2)
 | _=>none
theorem b0G{K:aX}{O:Addr->Prop}{H:Hp}:∀{ds:List D} {xs:List V} {ks:List Str} {es:List D},bp K O H xs ds->Ho ds=some (ks,es)->∃(T:List Addr) (vs:List V),xs=T.map V.ref/\px K H T ks vs/\bp K O H vs es
 | [],_,_,_,.nil,e=>by cases e;exact ⟨[],[],rfl,trivial,.nil⟩
 | d::ds,_,_,_,.cons h t,e=>by
  unfold Ho at e
  split at e
  .rename_i hh;cases hh
  .rename_i k d' r hh
   cases hh
   obtain ⟨⟨ks',EY⟩,e1,e2⟩:=map_some e
   cases e2
   obtain ⟨T,vs,rfl,h1,h2⟩:=b0G t e1
   obtain ⟨p,ys,rfl,h3,h4⟩:=Qb h
   cases h4 with
   | cons a b=>cases b with
    | cons b c=>cases c with
     | nil =>
      obtain rfl:=AR a
      exact ⟨p::T,_::vs,rfl,⟨h3,h1⟩,.cons b h2⟩
  .cases e
section
variable {X:Cx}{pins:List (Addr×Obj)}{σ:L2.St}{H:Hp}{s:Shared}
theorem px.len{K:aX}:∀{T:List Addr} {ks:List Str} {vs:List V},px K H T ks vs->ks.length=vs.length/\T.length=vs.length
 | [],[],[],_=>⟨rfl,rfl⟩
 | _::T,_::ks,_::vs,h=>by
  obtain ⟨a,b⟩:=px.len h.2
  exact ⟨by rw [lI,lI,a],by rw [lI,lI,b]⟩
 | [],[],_::_,h=>h.elim
 | [],_::_,_,h=>h.elim
 | _::_,[],_,h=>h.elim
 | _::_,_::_,[],h=>h.elim
theorem b0t(I:Inv X pins σ H s):∀{T:List Addr} {ks:List Str} {vs:List V},px X.K H T ks vs->∃us:List Value,us.length=vs.length/\KV ((ks.zip vs).map λq=>((.inr q.1:Key),q.2)) ((ks.zip us).map λq=>((.inr q.1:Key),q.2)) /\
  ∀(i:Nat) (q:Key×Value),((ks.zip us).map λq=>((.inr q.1:Key),q.2))[i]?=some q->∃key,(yy X.prog X.w).is q.1 key=true/\s.heap.IsTuple (T.getD i 0) #[key,q.2]
 | [],[],[],_=>⟨[],rfl,.nil,λi q e=>by simp at e⟩
 | t::T,k::ks,v::vs,h=>by
  obtain ⟨us,h1,h2,h3⟩:=b0t I h.2
  obtain ⟨aJ,r,tp,_⟩:=I.tuple h.1
  cases r with
  | cons a b=>cases b with
   | cons b c=>cases c with
    | nil =>
     obtain ⟨tk,rfl⟩:=a
     rename_i u
     refine ⟨u::us,by rw [lI,lI,h1],.cons ⟨rfl,b⟩ h2,λi q e=>?_⟩
     cases i with
     | zero =>
      cases e
      exact ⟨.str k tk,a6T _ _ k tk,tp⟩
     | succ i=>exact h3 i q (by simpa using e)
 | [],[],_::_,h=>h.elim
 | [],_::_,_,h=>h.elim
 | _::_,[],_,h=>h.elim
 | _::_,_::_,[],h=>h.elim
theorem b0r:∀{T:List Addr} {us:List Value},aU (T.map V.ref) us->us=T.map e8
 | [],_,.nil=>rfl
 | t::T,_,.cons h r=>by
  cases (show _=e8 t from h)
  rw [b0r r]
  rfl
theorem b1O(hc:X.calm=true):dO X (.type "dict") (λxs H Q=>∃l T ks vs,xs=[.ref l]/\lM X.K H l (T.map V.ref)/\px X.K H T ks vs/\ks.Nodup/\∀p o,H p=none->Q (.ref p) (upd H p (.nQ o (wD ks vs)))):=by
 intro pins s σ H xs us Q I r h
 obtain ⟨l,T,ks,vs,rfl,hq,ht,nd,q⟩:=h
 obtain ⟨u,rfl,ru⟩:=r.one
 cases ru
 obtain ⟨aJ,vv,⟨o,n,ho,V2,VY,hd⟩,hz⟩:=I.list hq
 obtain rfl:=b0r vv
 obtain ⟨l1,l2⟩:=ht.len
 obtain ⟨us,hl,kv,hp⟩:=b0t I ht
 rw [c6] at hz
 have hkl:((ks.zip us).map λq=>((.inr q.1:Key),q.2)).length=((T.map e8).toArray).size:=by
  rw [c6,Dd,jM,c6];omega
 have ndk:(((ks.zip us).map λq=>((.inr q.1:Key),q.2)).map (·.1)).Nodup:=by
  rw [Bh]
  have e:(ks.zip us).map ((·.1)∘λq=>((.inr q.1:Key),q.2))=ks.map DC:=by
   rw [<-List.map_fst_zip (l₁:=ks) (l₂:=us) (by omega),Bh]
   rw [List.map_fst_zip (by omega)]
   rfl
  rw [e]
  exact List.Pairwise.map _ (λa b h z=>h (Pk z)) nd
 refine DPr.C9 (knd:=yy X.prog X.w) (I.ok.hd hc) ho V2 hd VY _ hkl ndk (by rw [jM,c6];exact hz) (λi=>T.getD i 0) (λi v e=>?_) hp λh' tk kp dd=>?_
 .rw [RZ,zq] at e
  obtain ⟨t,e1,rfl⟩:=map_some e
  rw [RU,e1]
  rfl
 .obtain ⟨od,es,ep,hod,rest⟩:=id dd
  refine ⟨.ref s.heap.objs.size,_,I.laid (o:=.nQ od (wD ks vs)) (t':=tk) kp (dF _) ⟨hod,?_,beq_eq_false_iff_ne.mpr (wF (g0 I.big)),_,kv,dd⟩,rfl,q _ od (I.cF.fresh (dF _))⟩
  rw [c6,Dd]
  omega
noncomputable def Qd(f:En->Option Sl):En->Option Sl:=λenv=>(f env).bind λr=>match r.d with
 | .lst _ ds=>(Ho ds).bind λp=>if p.1.Nodup then some (.sh (.dI p.1 p.2)) else none
 | _=>none
theorem b4X{a:Expr}{fa:En->Option Sl}{p pos:Pos}(hc:X.calm=true)(hg:Gl X "dict")(hm:X.mg "dict" = none)(ha:EV X a fa)(hs:starEach [a] X.env=[(false,eval a X.env)]:=by rfl):EV X (.Call (.Name "dict" p) [a] [] pos) (Qd fa):=by
 obtain ⟨t,pt,k⟩:=ha
 refine ⟨_,ID (b1O hc) hg hm (by decide +kernel) (wm pt zx hs) (by decide) (by decide) hs rfl,λO B σ H env s Q R e q=>?_⟩
 obtain ⟨r,e1,e2⟩:=bind_some e
 refine k O B σ H env r _ R e1 λv H1 s1 r1=>?_
 have hi:=r1.is λq=>R.oo
 cases hd:r.d with
 | lst b ds =>
  rw [hd] at hi e2
  obtain ⟨⟨ks,es⟩,e3,e4⟩:=bind_some (show (Ho ds).bind (λp=>if p.1.Nodup then some (Sl.sh (.dI p.1 p.2)) else none)=some s from e2)
  obtain ⟨nd,rfl⟩:=oi e4
  obtain ⟨l,xs,rfl,h2,h3⟩:=hi.seq (k:=true) rfl
  obtain ⟨T,vs,rfl,h4,h5⟩:=b0G h3 e3
  refine ⟨l,T,ks,vs,rfl,h2,h4,nd,λp o hp=>q _ _ (s1.trans (zz hp _)) ?_⟩
  exact Is.dI (λz=>(R.grow s1).oo z hp) yB h4.len.1 (h5.grow (zz hp _))
 | _=>rw [hd] at e2;cases e2
end
end DL
namespace DL
open PySem PySem.Spec PyProof.Rows L2
noncomputable abbrev OZ(ks:List Str)(vs:List V):List (Key×V):=(ks.zip vs).map λq=>((.inr q.1:Key),q.2)
theorem S1:∀{ks:List Str} {vs:List V} {us:List (Key×Value)} {i:Nat} {k:Str} {v:V},KV (OZ ks vs) us->ks[i]?=some k->vs[i]?=some v->∃u,us[i]?=some (.inr k,u)/\RelV v u
 | [],_,_,i,k,v,_,e,_=>by simp at e
 | _::_,[],_,i,k,v,_,_,e=>by simp at e
 | c::ks,x::vs,_,i,k,v,r,e1,e2=>by
  cases r with
  | cons h t =>
   rename_i b bs
   cases i with
   | zero =>
    simp at e1 e2
    subst e1 e2
    obtain ⟨h1,h2⟩:=h
    obtain ⟨b1,b2⟩:=b
    simp only at h1 h2
    subst h1
    exact ⟨b2,rfl,h2⟩
   | succ i =>
    obtain ⟨u,e3,e4⟩:=S1 (i:=i) t (by simpa using e1) (by simpa using e2)
    exact ⟨u,by simpa using e3,e4⟩
theorem L9{X:Cx}{pins:List (Addr×Obj)}{σ:L2.St}{H:Hp}{s:Shared}{l:Addr}{o:Obj}{ks:List Str}{vs:List V}{ep:Nat}(I:Inv X pins σ H s)(e:H l=some (.nQ o (wD ks vs)))(Fw:∃es,o.data=.dict es ep):∃us,KV (OZ ks vs) us/\Heap.DictAt (yy X.prog X.w) s.heap l us ep:=by
 obtain ⟨ho,z,hd,us,rel,o',EY,Rg,xR,r1,r2,r3⟩:=(show dr X.prog X.w H s.heap l (.nQ o (wD ks vs)) from I.cF l _ e)
 rw [ho] at xR
 cases xR
 obtain ⟨es,he⟩:=Fw
 rw [he] at r2
 cases r2
 exact ⟨us,rel,o,_,ho,r1,he,r3⟩
noncomputable def KW(l:Addr)(o:Obj)(ks:List Str)(vs:List V):It:=
 ⟨λi H=>H l=some (.nQ o (wD ks vs))/\i<ks.length,λi H v H'=>∃k,ks[i]?=some k/\v=.str k/\H'=H,λi H=>H l=some (.nQ o (wD ks vs))/\ks.length<=i⟩
noncomputable def KU(l:Addr)(o:Obj)(ks:List Str)(vs:List V):It:=
 ⟨λi H=>H l=some (.nQ o (wD ks vs))/\i<ks.length,λi H v H'=>vs[i]?=some v/\H'=H,λi H=>H l=some (.nQ o (wD ks vs))/\ks.length<=i⟩
noncomputable def KY(l:Addr)(o:Obj)(ks:List Str)(vs:List V):It:=
 ⟨λi H=>H l=some (.nQ o (wD ks vs))/\i<ks.length,λi H v H'=>∃p k u,v=.ref p/\H p=none/\ks[i]?=some k/\vs[i]?=some u/\H'=upd H p (.tup [.str k,u]),λi H=>H l=some (.nQ o (wD ks vs))/\ks.length<=i⟩
section
variable {P:Program}{w:World}{K:aX}{tg:Expr}{it l:Addr}{o:Obj}{ks:List Str}{vs:List V}{ep:Nat}
theorem b2V{k:Str}{key:Value}(h:Kq (.inr k) key=true):∃t,key=.str k t:=by
 rcases FT h with ⟨a,t,e1,e2⟩ | ⟨a,t,e1,e2⟩
 .cases e1
 .cases e1;exact ⟨t,e2⟩
theorem b6H(hl:ks.length=vs.length)(Fw:∃es,o.data=.dict es ep):Turn P w K tg (KW l o ks vs) [it] it (λi h=>h.IsKeyIter it l i ks.length ep) where
 mem:=by simp
 obj:=λi h ⟨ob,he,h1,h2⟩ c hc=>by
  have:c=it:=by simpa using hc
  subst this
  exact ⟨_,he,λv q=>by rw [h2] at q;cases q⟩
 keep:=λi h h' st k=>st.at λo e=>k it (by simp) o e
 item:=by
  intro X hP hw hK hc i pins s σ H E I hf he hg
  subst hP hw hK
  obtain ⟨xS,hi⟩:=hg
  obtain ⟨us,rel,da⟩:=L9 I xS Fw
  have hlen:us.length=ks.length:=by rw [<-rel.length,c6,Dd];omega
  obtain ⟨u,eu,ru⟩:=S1 rel (md hi) (md (by omega:i<vs.length))
  obtain ⟨f0,f1,f2,f3,f4,f5⟩:=hf it (by simp)
  rw [<-hlen] at he
  refine wpAny_pyNext_dict_item he da eu λkey h' BN OC sb=>?_
  obtain ⟨t,rfl⟩:=b2V BN
  obtain ⟨ob,eb,h1,h2⟩:=id OC
  refine ⟨_,rfl,Kl (s:={ s with heap:=h' }) eb h1 h2 (by decide) ⟨.str ks[i],H,I.turned (t':=s.toks) (it:=it) (λc o hc y=>(sb.2 c hc).trans y) f0 f1 f3 f4 f5,⟨_,rfl⟩,⟨_,md hi,rfl,rfl⟩,by rw [<-hlen];exact OC,λc hc=>?_⟩⟩
  have:c=it:=by simpa using hc
  subst this
  exact f0
 done:=by
  intro X hP hw hK hc i pins s σ H E I hf he hg
  subst hP hw hK
  obtain ⟨xS,hi⟩:=hg
  obtain ⟨us,rel,da⟩:=L9 I xS Fw
  have hlen:us.length=ks.length:=by rw [<-rel.length,c6,Dd];omega
  obtain ⟨f0,f1,f2,f3,f4,f5⟩:=hf it (by simp)
  rw [<-hlen] at he
  exact wpAny_pyNext_dict_end (I.ok.hd hc) he da (Ii (by omega)) λh' kp=>⟨rfl,I.turned (t':=s.toks) (it:=it) (λc o hc y=>kp c o hc y) f0 f1 f3 f4 f5⟩
 self:=λA i s Q E st h=>wpAny_pyIter_keyiter st h
theorem b6G(hl:ks.length=vs.length)(Fw:∃es,o.data=.dict es ep):Turn P w K tg (KU l o ks vs) [it] it (λi h=>h.IsValIter it l i ks.length ep) where
 mem:=by simp
 obj:=λi h ⟨ob,he,h1,h2⟩ c hc=>by
  have:c=it:=by simpa using hc
  subst this
  exact ⟨_,he,λv q=>by rw [h2] at q;cases q⟩
 keep:=λi h h' st k=>st.at λo e=>k it (by simp) o e
 item:=by
  intro X hP hw hK hc i pins s σ H E I hf he hg
  subst hP hw hK
  obtain ⟨xS,hi⟩:=hg
  obtain ⟨us,rel,da⟩:=L9 I xS Fw
  have hlen:us.length=ks.length:=by rw [<-rel.length,c6,Dd];omega
  obtain ⟨u,eu,ru⟩:=S1 rel (md hi) (md (by omega:i<vs.length))
  obtain ⟨f0,f1,f2,f3,f4,f5⟩:=hf it (by simp)
  rw [<-hlen] at he
  refine wpAny_pyNext_values_item he da eu λh' OC sb=>?_
  obtain ⟨ob,eb,h1,h2⟩:=id OC
  refine ⟨_,rfl,Kl (s:={ s with heap:=h' }) eb h1 h2 (by decide) ⟨vs[i],H,I.turned (t':=s.toks) (it:=it) (λc o hc y=>(sb.2 c hc).trans y) f0 f1 f3 f4 f5,ru,⟨md _,rfl⟩,by rw [<-hlen];exact OC,λc hc=>?_⟩⟩
  have:c=it:=by simpa using hc
  subst this
  exact f0
 done:=by
  intro X hP hw hK hc i pins s σ H E I hf he hg
  subst hP hw hK
  obtain ⟨xS,hi⟩:=hg
  obtain ⟨us,rel,da⟩:=L9 I xS Fw
  have hlen:us.length=ks.length:=by rw [<-rel.length,c6,Dd];omega
  obtain ⟨f0,f1,f2,f3,f4,f5⟩:=hf it (by simp)
  rw [<-hlen] at he
  exact wpAny_pyNext_values_end (I.ok.hd hc) he da (Ii (by omega)) λh' kp=>⟨rfl,I.turned (t':=s.toks) (it:=it) (λc o hc y=>kp c o hc y) f0 f1 f3 f4 f5⟩
 self:=λA i s Q E st h=>wpAny_pyIter_valiter st h
theorem b9p:entryFor table "dict_itemiterator.__iter__" = some Builtin.«dict_keyiterator.__iter__»:=WE (id':="dict_keyiterator.__iter__") (by kernel_rfl) rfl (by decide +kernel) (by kernel_rfl)
theorem b6I{elts:List Expr}{kk:Nat}{pos:Pos}(hl:ks.length=vs.length)(Fw:∃es,o.data=.dict es ep):Turn P w K (.Tuple elts kk pos) (KY l o ks vs) [it] it (λi h=>∃ok ov,IsItemIter h it l i ks.length ep ok ov) where
 mem:=by simp
 obj:=λi h ⟨ok,ov,he⟩ c hc=>by
  have:c=it:=by simpa using hc
  subst this
  exact ⟨_,he,λv q=>nomatch (show WM _=Data.cell v from q)⟩
 keep:=λi h h' ⟨ok,ov,he⟩ k=>⟨ok,ov,k it (by simp) _ he⟩
 item:=by
  intro X hP hw hK hc i pins s σ H E I hf ⟨ok,ov,he⟩ hg
  subst hP hw hK
  obtain ⟨xS,hi⟩:=hg
  obtain ⟨us,rel,da⟩:=L9 I xS Fw
  have hlen:us.length=ks.length:=by rw [<-rel.length,c6,Dd];omega
  have hiv:i<vs.length:=by omega
  obtain ⟨u,eu,ru⟩:=S1 rel (md hi) (md hiv)
  rw [<-hlen] at he
  refine wpAny_pyNext_items_item he da eu λkey h' BN VL ht hsz kp=>?_
  obtain ⟨tk,rfl⟩:=b2V BN
  refine ⟨_,rfl,wpAny_letOwnedTupleGo_items (s:={ s with heap:=h' }) VL λh9 he9 sb=>?_⟩
  have fresh:H s.heap.objs.size=none:=I.cF.fresh (dF _)
  have jG:it<s.heap.objs.size:=eY he
  have ne:s.heap.objs.size≠it:=J5 jG
  obtain ⟨f0,f1,f2,f3,f4,f5⟩:=hf it (by simp)
  have nw9:h9.get? s.heap.objs.size=some { cls:=.type "tuple",data:=.seq #[.str ks[i] tk,u] }:=sb.extBut _ _ ne ht
  have I1:Inv X pins σ (upd H s.heap.objs.size (.tup [.str ks[i],vs[i]])) { s with heap:=s.heap.push { cls:=.type "tuple",data:=.seq #[.str ks[i] tk,u] },toks:=s.toks }:=
   I.laid (λb o e=>ft _ e) (dF _) ⟨by simp [sizeLine],[.str ks[i] tk,u],.cons ⟨_,rfl⟩ (.cons ru .nil),⟨_,nS _ rfl,rfl,_,rfl⟩⟩
  have I2:Inv X pins σ (upd H s.heap.objs.size (.tup [.str ks[i],vs[i]])) { s with heap:=h9,toks:=s.toks }:=Inv.turned (s:={ s with heap:=s.heap.push { cls:=.type "tuple",data:=.seq #[.str ks[i] tk,u] },toks:=s.toks }) (t':=s.toks) (it:=it) I1 (λc o hc y=>by
   by_cases hs:c<s.heap.objs.size
   .exact sb.extBut _ _ hc (kp c o hc (b0e hs y))
   .have Q8:c=s.heap.objs.size:=by
     have:=eY y
     rw [zo] at this
     exact Nat.le_antisymm (Nat.lt_succ_iff.mp this) (Nat.le_of_not_lt hs)
    subst Q8
    have e2:(s.heap.push { cls:=.type "tuple",data:=.seq #[.str ks[i] tk,u] }).get? s.heap.objs.size=some _:=nS _ rfl
    rw [e2] at y;cases y
    exact nw9) (by rw [jw (wF ne)];exact f0) f1 f3 f4 f5
  refine ⟨.ref s.heap.objs.size,_,I2,rfl,⟨_,ks[i],vs[i],rfl,fresh,md hi,md hiv,rfl⟩,⟨_,_,by rw [<-hlen];exact he9⟩,λc hc=>?_⟩
  have:c=it:=by simpa using hc
  subst this
  rw [jw (wF ne)]
  exact f0
 done:=by
  intro X hP hw hK hc i pins s σ H E I hf ⟨ok,ov,he⟩ hg
  subst hP hw hK
  obtain ⟨xS,hi⟩:=hg
  obtain ⟨us,rel,da⟩:=L9 I xS Fw
  have hlen:us.length=ks.length:=by rw [<-rel.length,c6,Dd];omega
  rw [<-hlen] at he
  obtain ⟨f0,f1,f2,f3,f4,f5⟩:=hf it (by simp)
  exact wpAny_pyNext_items_end (I.ok.hd hc) he da (Ii (by omega)) λh' kp=>⟨rfl,I.turned (t':=s.toks) (it:=it) (λc o hc y=>kp c o hc y) f0 f1 f3 f4 f5⟩
 self:=λA i s Q E st h=>by
  obtain ⟨ok,ov,he⟩:=st
  have hT:s.TypeIs (.ref it) "dict_itemiterator":=⟨_,he,rfl⟩
  exact WT hT c4M (Ij c4M hT b9p (cE ⟨_,rfl,"dict_itemiterator",_,hT,F.slot_dict_itemiterator_next.lookup,h⟩) (F.args_dict_itemiterator_iter_1 _))
end
section
variable {K:aX}{O:Addr->Prop}{H:Hp}{l:Addr}{o:Obj}{ks:List Str}{vs:List V}{ds:List D}
theorem b0Q{O':Addr->Prop}{H2:Hp}(kp:∀q u,H q=some u->¬O q->H2 q=some u/\¬O' q)(h:bp K O H vs ds):bp K O' H2 vs ds:=h.map (λq hq hn z=>by
  cases e:H q with
  | none=>exact hq e
  | some u=>exact (kp q u e hn).2 z) λq u e n=>(kp q u e n).1
theorem b6B(h1:H l=some (.nQ o (wD ks vs)))(n1:¬O l):Iu K O (KW l o ks vs) H (ks.map D.str):=λO' H2 kp hO i=>by
 have p1:=(kp l _ h1 n1).1
 refine ⟨λd hd=>?_,λhl=>⟨p1,by simpa using hl⟩⟩
 rw [zq] at hd
 obtain ⟨k,ek,rfl⟩:=map_some hd
 refine ⟨⟨p1,(z9.mp ek).1⟩,λv H3 hv=>?_⟩
 obtain ⟨k',e1,rfl,rfl⟩:=hv
 rw [ek] at e1
 cases e1
 exact ⟨aO.refl _,.str _⟩
theorem b6A(h1:H l=some (.nQ o (wD ks vs)))(n1:¬O l)(hl:ks.length=vs.length)(hs:bp K O H vs ds):Iu K O (KU l o ks vs) H ds:=λO' H2 kp hO i=>by
 have p1:=(kp l _ h1 n1).1
 have yI:=b0Q kp hs
 refine ⟨λd hd=>?_,λh=>⟨p1,by rw [hl,hs.length];exact h⟩⟩
 refine ⟨⟨p1,by rw [hl,hs.length];exact (z9.mp hd).1⟩,λv H3 hv=>?_⟩
 obtain ⟨e1,rfl⟩:=hv
 obtain ⟨v',e2,h2⟩:=yI.get hd
 rw [e1] at e2
 cases e2
 exact ⟨aO.refl _,h2⟩
noncomputable def JG(ks:List Str)(ds:List D):List D:=(ks.zip ds).map λq=>.tup [.str q.1,q.2]
theorem b6C(h1:H l=some (.nQ o (wD ks vs)))(n1:¬O l)(hl:ks.length=vs.length)(hs:bp K O H vs ds):Iu K O (KY l o ks vs) H (JG ks ds):=λO' H2 kp hO i=>by
 have p1:=(kp l _ h1 n1).1
 have yI:=b0Q kp hs
 have hln:=hs.length
 refine ⟨λd hd=>?_,λh=>⟨p1,by unfold JG at h;rw [c6,Dd] at h;omega⟩⟩
 unfold JG at hd
 rw [zq] at hd
 obtain ⟨⟨k,d'⟩,ek,rfl⟩:=map_some hd
 rw [List.getElem?_zip_eq_some] at ek
 obtain ⟨ek,ed⟩:=ek
 refine ⟨⟨p1,(z9.mp ek).1⟩,λv H3 hv=>?_⟩
 obtain ⟨p,k',u,rfl,hp,e1,e2,rfl⟩:=hv
 rw [ek] at e1
 cases e1
 obtain ⟨v',e3,h2⟩:=yI.get ed
 rw [e2] at e3
 cases e3
 have sm:aO H2 (upd H2 p (.tup [.str k,u])):=λc w e=>by rw [jw (Dr e hp)];exact e
 exact ⟨sm,.tup (λz=>hO p z hp) (.inl yB) (.cons (.str _) (.cons (h2.grow sm) .nil))⟩
end
noncomputable def UT(mk:Addr->Obj->List Str->List V->It)(t:TE):TI:=λσ H R=>t σ H λv H1=>∃p o ks vs,v=.ref p/\H1 p=some (.nQ o (wD ks vs))/\ks.length=vs.length/\R (mk p o ks vs) H1
section
variable {X:Cx}{tg e:Expr}{te:TE}{elts:List Expr}{kk:Nat}{tp p2 aB:Pos}{fa:En->Option Sl}
theorem XD{pins:List (Addr×Obj)}{σ:L2.St}{H:Hp}{s:Shared}{p:Addr}{o:Obj}{ks:List Str}{vs:List V}(I:Inv X pins σ H s)(hl:H p=some (.nQ o (wD ks vs)))(hk:ks.length=vs.length):
  ∃us es ep,s.heap.get? p=some o/\o.data=.dict es ep/\(p==sysModules)=false/\us.length=ks.length/\Heap.DictAt (yy X.prog X.w) s.heap p us ep/\Heap.DictOf (yy X.prog X.w) s.heap p us:=by
 obtain ⟨ho,z,Dz,us,rel,dd⟩:=(show dr X.prog X.w H s.heap p (.nQ o (wD ks vs)) from I.cF p _ hl)
 obtain ⟨o',es,ep,xR,r1,r2,r3⟩:=id dd
 rw [ho] at xR
 cases xR
 exact ⟨us,es,ep,ho,r2,Dz,by rw [<-rel.length,c6,Dd];omega,⟨o,es,ho,r1,r2,r3⟩,dd⟩
theorem NF(he:PE X e te):PI X tg e (UT KW te):=by
 intro pins s σ H R I h
 refine cM (he pins s σ H _ I h) λu s1 ⟨v,H1,I1,rv,p,o,ks,vs,ev,hl,hk,hR⟩=>?_
 subst ev
 obtain rfl:u=e8 p:=rv
 obtain ⟨us,es,ep,ho,hd,K8,hlen,da,dd⟩:=XD I1 hl hk
 refine wpAny_pyIter_dict K8 da ⟨_,_,_,_,H1,rfl,I1.kept (t':=s1.toks) (λb ob e=>ft _ e),b6H (ep:=ep) hk ⟨es,hd⟩,⟨_,nS _ rfl,rfl,by rw [hlen];rfl⟩,λc hc=>?_,hR⟩
 have:c=s1.heap.objs.size:=by simpa using hc
 subst this
 exact I1.z5 (dF _) (I1.cF.fresh (dF _))
theorem ND(he:PE X e te)(b9:attributeBase e "values" X.env (eval e X.env)=eval e X.env:=by rfl)
  (fQ:((backTo aB (starEach [] X.env)).all (λx=>!x.1)&&(backToKw aB (keywordEach [] X.env)).all (λx=>x.1.isSome)
   && decide (([]:List Expr).length+([]:List Keyword).length+(if ([]:List Keyword).isEmpty then 0 else 1)<30))=true:=by rfl)
  (b8:(p2.endLine==aB.line)=true:=by rfl)(JK:backTo aB (starEach [] X.env)=[]:=by rfl):PI X tg (.Call (.Attribute e "values" p2) [] [] aB) (UT KU te):=by
 intro pins s σ H R I h
 refine wpAny_Call_method b9 fQ b8 c5F c5q PySem.F.type_dict_values (cM (he pins s σ H _ I h) λu s1 ⟨v,H1,I1,rv,p,o,ks,vs,ev,hl,hk,hR⟩=>?_)
 subst ev
 obtain rfl:u=e8 p:=rv
 obtain ⟨t1,t2,t3⟩:=b6f I1 (.inl ⟨_,.inr ⟨_,hl⟩⟩)
 refine ⟨t1,t2,?_⟩
 rw [JK]
 refine Se rfl (evalArgs_empty ?_)
 obtain ⟨us,es,ep,ho,hd,K8,hlen,da,dd⟩:=XD I1 hl hk
 refine call_meetsIn c5q t1 PySem.F.entry_dict_values (PySem.F.args_dict_values_1 _) (meets_dict_values (yy X.prog X.w) p t3) ⟨⟨us,dd⟩,?_⟩
 have EN:∀b ob,s1.heap.get? b=some ob->(s1.heap.push { cls:=.type "dict_values",data:=.fields #[.ref p] }).get? b=some ob:=λb ob e=>ft _ e
 have hz:(s1.heap.push { cls:=.type "dict_values",data:=.fields #[.ref p] }).objs.size=s1.heap.objs.size+1:=zo ..
 refine wpAny_pyIter_values (s:={ s1 with heap:=s1.heap.push { cls:=.type "dict_values",data:=.fields #[.ref p] } }) (v:=s1.heap.objs.size) (knd:=yy X.prog X.w) ⟨_,nS _ rfl,rfl,rfl⟩ (da.at' λo e=>EN _ _ e) ⟨_,_,_,_,H1,rfl,I1.kept (t':=s1.toks) (λb ob e=>ft _ (EN b ob e)),b6G (ep:=ep) hk ⟨es,hd⟩,⟨_,nS _ rfl,rfl,by rw [hlen];rfl⟩,λc hc=>?_,hR⟩
 have:c=s1.heap.objs.size+1:=by
  have:c=(s1.heap.push { cls:=.type "dict_values",data:=.fields #[.ref p] }).objs.size:=by simpa using hc
  rw [this,hz]
 subst this
 exact I1.z5 (by omega) (I1.cF.fresh (by omega))
theorem NG(he:PE X e te)(b9:attributeBase e "items" X.env (eval e X.env)=eval e X.env:=by rfl)
  (fQ:((backTo aB (starEach [] X.env)).all (λx=>!x.1)&&(backToKw aB (keywordEach [] X.env)).all (λx=>x.1.isSome)
   && decide (([]:List Expr).length+([]:List Keyword).length+(if ([]:List Keyword).isEmpty then 0 else 1)<30))=true:=by rfl)
  (b8:(p2.endLine==aB.line)=true:=by rfl)(JK:backTo aB (starEach [] X.env)=[]:=by rfl):PI X (.Tuple elts kk tp) (.Call (.Attribute e "items" p2) [] [] aB) (UT KY te):=by
 intro pins s σ H R I h
 refine wpAny_Call_method b9 fQ b8 c5F c5G PySem.F.type_dict_items (cM (he pins s σ H _ I h) λu s1 ⟨v,H1,I1,rv,p,o,ks,vs,ev,hl,hk,hR⟩=>?_)
 subst ev
 obtain rfl:u=e8 p:=rv
 obtain ⟨t1,t2,t3⟩:=b6f I1 (.inl ⟨_,.inr ⟨_,hl⟩⟩)
 refine ⟨t1,t2,?_⟩
 rw [JK]
 refine Se rfl (evalArgs_empty ?_)
 obtain ⟨us,es,ep,ho,hd,K8,hlen,da,dd⟩:=XD I1 hl hk
 refine call_meetsIn c5G t1 PySem.F.entry_dict_items (PySem.F.args_dict_items_1 _) (meets_dict_items (yy X.prog X.w) p t3) ⟨⟨us,dd⟩,?_⟩
 have EN:∀b ob,s1.heap.get? b=some ob->(s1.heap.push { cls:=.type "dict_items",data:=.fields #[.ref p] }).get? b=some ob:=λb ob e=>ft _ e
 have hz:(s1.heap.push { cls:=.type "dict_items",data:=.fields #[.ref p] }).objs.size=s1.heap.objs.size+1:=zo ..
 refine wpAny_pyIter_items (s:={ s1 with heap:=s1.heap.push { cls:=.type "dict_items",data:=.fields #[.ref p] } }) (v:=s1.heap.objs.size) (knd:=yy X.prog X.w) ⟨_,nS _ rfl,rfl,rfl⟩ (da.at' λo e=>EN _ _ e) ?_
 refine ⟨_,_,_,_,H1,rfl,I1.kept (t':=s1.toks) (λb ob e=>ft _ (EN b ob e)),b6I (ep:=ep) hk ⟨es,hd⟩,⟨.none,.none,?_⟩,λc hc=>?_,hR⟩
 .rw [<-hlen]
  exact nS _ rfl
 .have:c=s1.heap.objs.size+1:=by
   have:c=(s1.heap.push { cls:=.type "dict_items",data:=.fields #[.ref p] }).objs.size:=by simpa using hc
   rw [this,hz]
  subst this
  exact I1.z5 (by omega) (I1.cF.fresh (by omega))
noncomputable def Rf(f:En->Option Sl):En->Option (List D):=λenv=>(f env).bind λr=>match r.d with
 | .dI ks _=>some (ks.map D.str)
 | _=>none
noncomputable def Rc(f:En->Option Sl):En->Option (List D):=λenv=>(f env).bind λr=>match r.d with
 | .dI _ ds=>some ds
 | _=>none
noncomputable def Lg(f:En->Option Sl):En->Option (List D):=λenv=>(f env).bind λr=>match r.d with
 | .dI ks ds=>some (JG ks ds)
 | _=>none
theorem N5(ha:EV X e fa):IV X tg e (Rf fa):=by
 obtain ⟨t,pt,k⟩:=ha
 refine ⟨_,NF pt,λO B σ H env ds R Rl e q=>?_⟩
 obtain ⟨r,e1,e2⟩:=bind_some e
 refine k O B σ H env r _ Rl e1 λv H1 s1 r1=>?_
 have hi:=r1.is λq=>Rl.oo
 cases hd:r.d with
 | dI ks es =>
  rw [hd] at hi e2
  cases e2
  cases hi with
  | dI ho hp hl hs=>exact ⟨_,_,_,_,rfl,hp,hl,q _ H1 s1 (b6B hp ho)⟩
 | _=>rw [hd] at e2;cases e2
theorem N4(ha:EV X e fa)(b9:attributeBase e "values" X.env (eval e X.env)=eval e X.env:=by rfl)
  (fQ:((backTo aB (starEach [] X.env)).all (λx=>!x.1)&&(backToKw aB (keywordEach [] X.env)).all (λx=>x.1.isSome)
   && decide (([]:List Expr).length+([]:List Keyword).length+(if ([]:List Keyword).isEmpty then 0 else 1)<30))=true:=by rfl)
  (b8:(p2.endLine==aB.line)=true:=by rfl)(JK:backTo aB (starEach [] X.env)=[]:=by rfl):IV X tg (.Call (.Attribute e "values" p2) [] [] aB) (Rc fa):=by
 obtain ⟨t,pt,k⟩:=ha
 refine ⟨_,ND pt b9 fQ b8 JK,λO B σ H env ds R Rl e q=>?_⟩
 obtain ⟨r,e1,e2⟩:=bind_some e
 refine k O B σ H env r _ Rl e1 λv H1 s1 r1=>?_
 have hi:=r1.is λq=>Rl.oo
 cases hd:r.d with
 | dI ks es =>
  rw [hd] at hi e2
  cases e2
  cases hi with
  | dI ho hp hl hs=>exact ⟨_,_,_,_,rfl,hp,hl,q _ H1 s1 (b6A hp ho hl hs)⟩
 | _=>rw [hd] at e2;cases e2
theorem N6(ha:EV X e fa)(b9:attributeBase e "items" X.env (eval e X.env)=eval e X.env:=by rfl)
  (fQ:((backTo aB (starEach [] X.env)).all (λx=>!x.1)&&(backToKw aB (keywordEach [] X.env)).all (λx=>x.1.isSome)
   && decide (([]:List Expr).length+([]:List Keyword).length+(if ([]:List Keyword).isEmpty then 0 else 1)<30))=true:=by rfl)
  (b8:(p2.endLine==aB.line)=true:=by rfl)(JK:backTo aB (starEach [] X.env)=[]:=by rfl):IV X (.Tuple elts kk tp) (.Call (.Attribute e "items" p2) [] [] aB) (Lg fa):=by
 obtain ⟨t,pt,k⟩:=ha
 refine ⟨_,NG pt b9 fQ b8 JK,λO B σ H env ds R Rl e q=>?_⟩
 obtain ⟨r,e1,e2⟩:=bind_some e
 refine k O B σ H env r _ Rl e1 λv H1 s1 r1=>?_
 have hi:=r1.is λq=>Rl.oo
 cases hd:r.d with
 | dI ks es =>
  rw [hd] at hi e2
  cases e2
  cases hi with
  | dI ho hp hl hs=>exact ⟨_,_,_,_,rfl,hp,hl,q _ H1 s1 (b6C hp ho hl hs)⟩
 | _=>rw [hd] at e2;cases e2
end
end DL
namespace DL
open PySem PySem.Spec PyProof.Rows L2
noncomputable def PQ(neg:Bool)(fk:En->Option Sl)(i:Nat):En->Option Sl:=λenv=>(Im (fk env)).bind λk=>match env[i]? with
 | some (.tw ks ds)=>some (.sh (.bl (neg != (pq ks ds k).isSome)))
 | _=>none
section
variable {X:Cx}{N:List Str}{sc:Scope}{k:Nat}{full:Bool}{a:Expr}{fa:En->Option Sl}{pos p:Pos}{i:Nat}{x:Str}
theorem b6F{neg:Bool}{op:CmpOp}{td:TE->TE->TE}(hc:∀ta tb,PE X a ta->PE X (.Name x p) tb->PC X op a (.Name x p) (td ta tb))(hr:∀ta tb σ H Q,td ta tb σ H Q=(ta σ H λy H1=>tb σ H1 λx H2=>∃p o,x=.ref p/\pA H2 p y o/\Q (.bl (neg != o.isSome)) H2))(ha:EV X a fa)
  (hN:X.N[i]?=some x)(hv:l4 X.env.scope x)(hd:(x==("__debug__":Str))=false)(de:(x==("__classdict__":Str))=false)(hm:behindInMarks op (.Name x p)=false):TV X (.Compare a [op] [.Name x p] pos) (eF (PQ neg fa i)):=by
 obtain ⟨ta,pa,ka⟩:=ha
 refine ⟨_,b5W (hc ta _ pa (Bi hN hv hd de)) hm,λO B σ H env c Q R e q=>?_⟩
 have e:=KC e
 obtain ⟨n,e1,e⟩:=bind_some e
 show td ta _ σ H _
 rw [hr]
 refine ka O B σ H env _ _ R (Ql e1) λvk H1 s1 r1=>?_
 have h2:vk=.str n:=AR r1
 subst h2
 split at e
 .rename_i ks ds he
  cases e
  obtain ⟨pp,vs,f1,f2,f3,f4,f5⟩:=R.tw i ks ds he
  refine ⟨_,f1,pp,_,rfl,.inl ⟨_,.inr n,.inl (s1 _ _ f3),rfl,rfl⟩,_,?_,q _ s1⟩
  rw [LX]
  rcases LV (y:=n) f5 with ⟨z1,z2⟩ | ⟨v,d',z1,z2,z3⟩<;>rw [z1,z2]<;>rfl
 .cases e
theorem Fx.MS(h:Fx X N sc k full)(i:Nat){x:Str}(ha:EV X a fa)(hN:N[i]?=some x:=by rfl)(hv:l4 sc x:=by first | exact dY rfl | exact cO (dY rfl) | exact cO (cO rfl))(hd:(x==("__debug__":Str))=false:=by rfl)(de:(x==("__classdict__":Str))=false:=by rfl)(hm:behindInMarks .NotIn (.Name x p)=false:=by rfl):TV X (.Compare a [.NotIn] [.Name x p] pos) (eF (PQ true fa i)):=
 b6F (neg:=true) (td:=Qf) (λta tb pa pb=>a8A (PR h.room) pa pb) (λta tb σ H Q=>by unfold Qf;simp only [Bool.true_bne]) ha (h.ix hN) (h.A6 hv) hd de hm
end
theorem b8B{i:Nat}{env:En}{Q:D×En->Prop}:Wo (CS i env) Q↔cS env[i]? λds=>Wo ds[ds.length-1]? λd=>Q (d,env.set i (.ow ds.dropLast)):=by
 unfold CS
 cases h:env[i]? with
 | none=>simp [cS,Wo_none]
 | some s=>cases s<;>simp [cS,Wo_none,a1y]
section
variable {env:En}
theorem a9j{i:Nat}{fs:En->Option (List D)}{Q:List D×En->Prop}:Wo (LZ i fs env) Q↔Wo (CS i env) λp=>Wo (fs p.2) λrs=>Q (p.1::rs,p.2):=by
 unfold LZ;rw [a0m];exact mf λp=>a1y
theorem b30{f:En->Option Sl}{g:En->Option (List D×En)}{Q:List D×En->Prop}:Wo (SQ f g env) Q↔Wo (f env) λr=>Wo (g env) λp=>Q (r.d::p.1,p.2):=by
 unfold SQ;rw [a0m];exact mf λp=>a1y
theorem Iw{α:Type}{c:Prop}[Decidable c]{x:Option α}{Q:α->Prop}:Wo (if c then x else none) Q↔c/\Wo x Q:=by
 by_cases h:c
 .rw [if_pos h];exact ⟨λz=>⟨h,z⟩,λz=>z.2⟩
 .rw [if_neg h];exact ⟨λz=>(Wo_none.mp z).elim,λz=>(h z.1).elim⟩
theorem b5A{g:En->Option (List D×En)}{Q:D×En->Prop}:Wo (Su g env) Q↔Wo (g env) λp=>p.1.length<=16777216/\Q (.tup p.1,p.2):=by
 unfold Su;rw [a0m];exact mf λp=>by rw [Iw,a0d]
theorem b3V{n:Nat}{φ:List D->Option Sl}{g:En->Option (List D×En)}{Q:D×En->Prop}:Wo (Qe n φ g env) Q↔Wo (g env) λp=>p.1.length=n/\Wo (φ p.1) λr=>Q (r.d,p.2):=by
 unfold Qe;rw [a0m];exact mf λp=>by rw [Iw,a1y]
theorem b1c{i:Nat}{g:En->Option (D×En)}{Q:Fl×En->Prop}:Wo (Kn i g env) Q↔cS env[i]? λ_=>Wo (g env) λp=>cS p.2[i]? λds=>ds.length<16777216/\Q (.nx,p.2.set i (.ow (ds++[p.1]))):=by
 unfold Kn
 cases h:env[i]? with
 | none=>simp [cS,Wo_none]
 | some s =>
  cases s with
  | ow ds =>
   simp only [cS]
   rw [a0m]
   refine mf λp=>?_
   cases h2:p.2[i]? with
   | none=>simp [Wo_none]
   | some s2=>cases s2<;>simp [Wo_none,Iw,a0d]
  | _=>simp [cS,Wo_none]
theorem b1d{f:En->Option Sl}{Q:Sl->Prop}:Wo (Ir f env) Q↔Wo (f env) λr=>Wo (Br r.d) λy=>Q (.sh (.str y)):=by
 unfold Ir;rw [a0m];exact mf λp=>a1y
theorem c1s{fo:En->Option Sl}{fe:En->Option (Bool×List D)}{Q:Sl->Prop}:Wo (Ck fo fe env) Q↔Wo (Aw (fo env)) λz=>Wo (fe env) λx=>x.1=true/\Wo (Cz x.2) λls=>(AS z ls<=16777216/\(nJ z ls).length<=16777216)/\Q (.sh (.str (nJ z ls))):=by
 unfold Ck
 rw [a0m]
 refine mf λz=>?_
 rw [a0m]
 refine mf λx=>?_
 rw [Iw,a0m]
 refine and_congr_right λ_=>mf λls=>?_
 rw [Iw,a0d]
theorem b8w{i:Nat}{Q:Fl×En->Prop}:Wo (CK i env) Q↔cS env[i]? λds=>Q (.nx,env.set i (.ow ds.reverse)):=by
 unfold CK
 cases h:env[i]? with
 | none=>simp [cS,Wo_none]
 | some s=>cases s<;>simp [cS,Wo_none,a0d]
def Vp(d:D)(Q:Sl->Prop):Prop:=match d with
 | .lst _ ds=>Wo (Cz ds) λss=>ss.length+1<4096/\Q (.sh (.int (SE.zH SE.zX ss).length))
 | _=>False
theorem lsQ_l{r:Bool}{ds:List D}{Q:Sl->Prop}:Vp (.lst r ds) Q↔Wo (Cz ds) λss=>ss.length+1<4096/\Q (.sh (.int (SE.zH SE.zX ss).length)):=mj
theorem b1U{f:En->Option Sl}{Q:Sl->Prop}:Wo (SS f env) Q↔Wo (f env) λr=>Vp r.d Q:=by
 unfold SS
 rw [a0m]
 refine mf λr=>?_
 cases r.d<;>simp [Vp,Wo_none,a0m,Iw,a0d]
def Ws(d:D)(Q:Sl->Prop):Prop:=match d with
 | .lst _ ds=>Wo (Ho ds) λp=>p.1.Nodup/\Q (.sh (.dI p.1 p.2))
 | _=>False
theorem dpQ_l{r:Bool}{ds:List D}{Q:Sl->Prop}:Ws (.lst r ds) Q↔Wo (Ho ds) λp=>p.1.Nodup/\Q (.sh (.dI p.1 p.2)):=mj
theorem a9i{f:En->Option Sl}{Q:Sl->Prop}:Wo (Qd f env) Q↔Wo (f env) λr=>Ws r.d Q:=by
 unfold Qd
 rw [a0m]
 refine mf λr=>?_
 cases r.d<;>simp [Ws,Wo_none,a0m,Iw,a0d]
theorem b5B{neg:Bool}{fk:En->Option Sl}{i:Nat}{ks:List Str}{ds:List D}{Q:Sl->Prop}(he:env[i]?=some (.tw ks ds)):Wo (PQ neg fk i env) Q↔Wo (fk env) λs=>∃k,s=.sh (.str k)/\Q (.sh (.bl (neg != (pq ks ds k).isSome))):=by
 unfold PQ
 rw [a0m,SR,he]
 refine mf λs=>exists_congr λk=>and_congr_right λ_=>?_
 rw [a0d]
theorem OW{f:En->Option Sl}{ks:List Str}{ds:List D}(h:f env=some (.sh (.dI ks ds))):Rf f env=some (ks.map D.str):=by unfold Rf;rw [h];rfl
theorem OV{f:En->Option Sl}{ks:List Str}{ds:List D}(h:f env=some (.sh (.dI ks ds))):Rc f env=some ds:=by unfold Rc;rw [h];rfl
theorem OX{f:En->Option Sl}{ks:List Str}{ds:List D}(h:f env=some (.sh (.dI ks ds))):Lg f env=some (JG ks ds):=by unfold Lg;rw [h];rfl
end
end DL
namespace DL
open PySem PySem.Spec PyProof.Rows L2
section
variable {X:Cx}
theorem b9T{a:Expr}{t:TE}{pos:Pos}(h:PE X a t):PE X (.FormattedValue a (-1) none pos) (λσ H Q=>t σ H λx H1=>∃i,x=.int i/\i.natAbs.log2<1920/\Q (.str (toString i)) H1):=by
 intro pins s σ H Q I hw
 refine FormattedValue_plain (cM (h pins s σ H _ I hw) λv s1 ⟨x,H1,I1,r1,q1⟩=>?_)
 obtain ⟨i,rfl,hz,q⟩:=q1
 obtain ⟨u,rfl⟩:=r1
 exact wpAny_formatField_int hz ⟨.str _,H1,I1.tok _,⟨_,rfl⟩,q⟩
noncomputable def yg(fa:En->Option Sl):En->Option Sl:=λenv=>(fa env).bind λr=>match r with
 | .sh (.int i)=>if i.natAbs.log2<1920 then some (.sh (.str (toString i))) else none
 | _=>none
theorem b6o{a:Expr}{fa:En->Option Sl}{pos:Pos}(h:EV X a fa):EV X (.FormattedValue a (-1) none pos) (yg fa):=by
 obtain ⟨t,pt,k⟩:=h
 refine ⟨_,b9T pt,λO B σ H env s Q R e q=>?_⟩
 obtain ⟨r,e1,e2⟩:=bind_some e
 split at e2
 .obtain ⟨hz,rfl⟩:=oi e2
  refine k O B σ H env _ _ R e1 λv H1 s1 r1=>?_
  obtain rfl:=Ao r1
  exact ⟨_,rfl,hz,q _ H1 s1 (Is.str _)⟩
 .cases e2
end
end DL
namespace My
open PySem L2 DL
noncomputable def top(i:Nat):Stmt:=PySem.Challenge.pw_offerhouse_k85_books_written.main.body.getD i (.Pass ⟨0,0,0,0⟩)
noncomputable def dg:List Str:=["Each","Flat","Bands","Steps","Blocks","Named","Sum","Cheaper","Dearer","Only","After","Roomy","Fee","Book"]
noncomputable abbrev a4v:Stmt:=n8 (top 11) 3
noncomputable abbrev T'{α:Type}(Y:Str->Str->Stmt->List Str->α):α:=Y "written" "Each.written" a4v ["self"]
noncomputable abbrev a4t:Stmt:=n8 (top 12) 3
noncomputable abbrev Ua{α:Type}(Y:Str->Str->Stmt->List Str->α):α:=Y "written" "Flat.written" a4t ["self"]
noncomputable abbrev a2U:Stmt:=n8 (top 13) 2
noncomputable abbrev ZF{α:Type}(Y:Str->Str->Stmt->List Str->α):α:=Y "written_rows" "Rows.written_rows" a2U ["self"]
noncomputable abbrev a38:Stmt:=n8 (top 14) 2
noncomputable abbrev TX{α:Type}(Y:Str->Str->Stmt->List Str->α):α:=Y "written" "Bands.written" a38 ["self"]
noncomputable abbrev a34:Stmt:=n8 (top 15) 2
noncomputable abbrev T1{α:Type}(Y:Str->Str->Stmt->List Str->α):α:=Y "written" "Steps.written" a34 ["self"]
noncomputable abbrev a3K:Stmt:=n8 (top 16) 3
noncomputable abbrev Ul{α:Type}(Y:Str->Str->Stmt->List Str->α):α:=Y "written" "Blocks.written" a3K ["self"]
noncomputable abbrev a36:Stmt:=n8 (top 17) 4
noncomputable abbrev TY{α:Type}(Y:Str->Str->Stmt->List Str->α):α:=Y "written" "Named.written" a36 ["self"]
noncomputable abbrev a2p:Stmt:=n8 (top 18) 3
noncomputable abbrev Ui{α:Type}(Y:Str->Str->Stmt->List Str->α):α:=Y "written_between" "Pair.written_between" a2p ["self","word"]
noncomputable abbrev a44:Stmt:=n8 (top 19) 2
noncomputable abbrev T5{α:Type}(Y:Str->Str->Stmt->List Str->α):α:=Y "written" "Sum.written" a44 ["self"]
noncomputable abbrev a3o:Stmt:=n8 (top 20) 2
noncomputable abbrev Uj{α:Type}(Y:Str->Str->Stmt->List Str->α):α:=Y "written" "Cheaper.written" a3o ["self"]
noncomputable abbrev a3J:Stmt:=n8 (top 21) 2
noncomputable abbrev Um{α:Type}(Y:Str->Str->Stmt->List Str->α):α:=Y "written" "Dearer.written" a3J ["self"]
noncomputable abbrev a2y:Stmt:=n8 (top 22) 2
noncomputable abbrev Uh{α:Type}(Y:Str->Str->Stmt->List Str->α):α:=Y "written_with" "Single.written_with" a2y ["self","words"]
noncomputable abbrev a4r:Stmt:=n8 (top 23) 3
noncomputable abbrev Ub{α:Type}(Y:Str->Str->Stmt->List Str->α):α:=Y "written" "Only.written" a4r ["self"]
noncomputable abbrev a39:Stmt:=n8 (top 24) 3
noncomputable abbrev TU{α:Type}(Y:Str->Str->Stmt->List Str->α):α:=Y "written" "After.written" a39 ["self"]
noncomputable abbrev a35:Stmt:=n8 (top 25) 2
noncomputable abbrev TZ{α:Type}(Y:Str->Str->Stmt->List Str->α):α:=Y "written" "Roomy.written" a35 ["self"]
noncomputable abbrev a45:Stmt:=n8 (top 26) 3
noncomputable abbrev T4{α:Type}(Y:Str->Str->Stmt->List Str->α):α:=Y "written" "Fee.written" a45 ["self"]
noncomputable abbrev a5q:Stmt:=n8 (top 9) 5
noncomputable abbrev Za{α:Type}(Y:Str->Str->Stmt->List Str->α):α:=Y "parts" "Rule.parts" a5q ["self"]
noncomputable abbrev a5s:Stmt:=n8 (top 18) 1
noncomputable abbrev Y9{α:Type}(Y:Str->Str->Stmt->List Str->α):α:=Y "parts" "Pair.parts" a5s ["self"]
noncomputable abbrev a4o:Stmt:=n8 (top 22) 1
noncomputable abbrev Zk{α:Type}(Y:Str->Str->Stmt->List Str->α):α:=Y "parts" "Single.parts" a4o ["self"]
noncomputable abbrev a3I:Stmt:=n8 (top 9) 4
noncomputable abbrev Uo{α:Type}(Y:Str->Str->Stmt->List Str->α):α:=Y "all_names" "Rule.all_names" a3I ["self"]
noncomputable abbrev a3n:Stmt:=n8 (top 17) 1
noncomputable abbrev Uk{α:Type}(Y:Str->Str->Stmt->List Str->α):α:=Y "all_names" "Named.all_names" a3n ["self"]
noncomputable abbrev a5r:Stmt:=n8 (top 9) 3
noncomputable abbrev Y'{α:Type}(Y:Str->Str->Stmt->List Str->α):α:=Y "names" "Rule.names" a5r ["self"]
noncomputable abbrev a3H:Stmt:=n8 (top 22) 0
noncomputable abbrev Up{α:Type}(Y:Str->Str->Stmt->List Str->α):α:=Y "__init__" "Single.__init__" a3H ["self","one"]
noncomputable abbrev a46:Stmt:=n8 (top 26) 0
noncomputable abbrev a7P{α:Type}(Y:Str->Str->Stmt->List Str->α):α:=Y "__init__" "Fee.__init__" a46 ["self","one","price"]
noncomputable abbrev a4a:Stmt:=n8 (top 24) 0
noncomputable abbrev a6z{α:Type}(Y:Str->Str->Stmt->List Str->α):α:=Y "__init__" "After.__init__" a4a ["self","one","count"]
noncomputable abbrev a4s:Stmt:=n8 (top 23) 0
noncomputable abbrev a7f{α:Type}(Y:Str->Str->Stmt->List Str->α):α:=Y "__init__" "Only.__init__" a4s ["self","one","low","high"]
noncomputable abbrev a4q:Stmt:=n8 (top 18) 0
noncomputable abbrev Zj{α:Type}(Y:Str->Str->Stmt->List Str->α):α:=Y "__init__" "Pair.__init__" a4q ["self","one","other"]
noncomputable abbrev a37:Stmt:=n8 (top 17) 0
noncomputable abbrev a6y{α:Type}(Y:Str->Str->Stmt->List Str->α):α:=Y "__init__" "Named.__init__" a37 ["self","name"]
noncomputable abbrev a3L:Stmt:=n8 (top 16) 0
noncomputable abbrev a6h{α:Type}(Y:Str->Str->Stmt->List Str->α):α:=Y "__init__" "Blocks.__init__" a3L ["self","size","price","many"]
noncomputable abbrev a4p:Stmt:=n8 (top 13) 0
noncomputable abbrev a40{α:Type}(Y:Str->Str->Stmt->List Str->α):α:=Y "__init__" "Rows.__init__" a4p ["self","rows"]
noncomputable abbrev a4u:Stmt:=n8 (top 12) 0
noncomputable abbrev a7g{α:Type}(Y:Str->Str->Stmt->List Str->α):α:=Y "__init__" "Flat.__init__" a4u ["self","price","low","high"]
noncomputable abbrev a4w:Stmt:=n8 (top 11) 0
noncomputable abbrev a7h{α:Type}(Y:Str->Str->Stmt->List Str->α):α:=Y "__init__" "Each.__init__" a4w ["self","unit","low","high"]
noncomputable abbrev a4x:Stmt:=n8 (top 34) 0
noncomputable abbrev a7i{α:Type}(Y:Str->Str->Stmt->List Str->α):α:=Y "__init__" "Book.__init__" a4x ["self","offers"]
noncomputable abbrev a6D:Stmt:=top 55
noncomputable abbrev Ml{α:Type}(Y:Str->Stmt->List Str->α):α:=Y "_law_text" a6D ["plan"]
noncomputable def B5(kp:List D->Option Sl):SF:=
 (a9 (hV 1 (cX (bV 0) (eC (.int 0))))
 (a9 (gf (eF (af cx (eV 1) (eC (.str "name"))))
 (bK (cX (bV 0) (eC (.int 1)))) iq)
 (a9 (gf (wW (eF (af cx (eV 1) (eC (.str "each")))) (eF (af cx (eV 1) (eC (.str "flat")))))
 (bK (af aK (af aK (af aK (af aK (af aK (af aK (eV 1) (eC (.str " "))) (yL (cX (bV 0) (eC (.int 1))))) (eC (.str " from "))) (yL (cX (bV 0) (eC (.int 2))))) (eC (.str " to "))) (yL (cX (bV 0) (eC (.int 3)))))) iq)
 (a9 (gf (wW (eF (af cx (eV 1) (eC (.str "bands")))) (eF (af cx (eV 1) (eC (.str "steps")))))
 (bK (af aK (af aK (eV 1) (eC (.str " "))) (Ck (eC (.str " ")) (t4 (jt (gW (cX (bV 0) (eC (.int 1)))) [] 1 (gN 0) jO (af aK (af aK (yL (cX (bV 0) (eC (.int 0)))) (eC (.str ":"))) (yL (cX (bV 0) (eC (.int 1)))))))))) iq)
 (a9 (gf (eF (af cx (eV 1) (eC (.str "blocks"))))
 (bK (af aK (af aK (af aK (af aK (af aK (eC (.str "blocks ")) (yL (cX (bV 0) (eC (.int 1))))) (eC (.str " at "))) (yL (cX (bV 0) (eC (.int 2))))) (eC (.str " times "))) (yL (cX (bV 0) (eC (.int 3)))))) iq)
 (a9 (gf (wW (eF (af cx (eV 1) (eC (.str "plus")))) (wW (eF (af cx (eV 1) (eC (.str "or")))) (eF (af cx (eV 1) (eC (.str "max"))))))
 (bK (af aK (af aK (af aK (af aK (af aK (af aK (eC (.str "( ")) (cG 1 kp (ai (cX (bV 0) (eC (.int 1))) ag))) (eC (.str " "))) (eV 1)) (eC (.str " "))) (cG 1 kp (ai (cX (bV 0) (eC (.int 2))) ag))) (eC (.str " )")))) iq)
 (a9 (hV 2 (eV 1))
 (a9 (gf (eF (af cx (eV 1) (eC (.str "only"))))
 (hV 2 (af aK (af aK (af aK (eC (.str "only ")) (yL (cX (bV 0) (eC (.int 2))))) (eC (.str " to "))) (yL (cX (bV 0) (eC (.int 3)))))) iq)
 (a9 (gf (wW (eF (af cx (eV 1) (eC (.str "after")))) (eF (af cx (eV 1) (eC (.str "fee")))))
 (hV 2 (af aK (af aK (eV 1) (eC (.str " "))) (yL (cX (bV 0) (eC (.int 2)))))) iq)
 (bK (af aK (af aK (af aK (af aK (eC (.str "( ")) (cG 1 kp (ai (cX (bV 0) (eC (.int 1))) ag))) (eC (.str " "))) (eV 2)) (eC (.str " )")))))))))))))
noncomputable def Zs(kp:List D->Option Sl):List D->Option Sl:=cn (B5 kp) 3
noncomputable def wH:Nat->List D->Option Sl
 | 0=>λ_=>none
 | n+1=>Zs (wH n)
theorem Dq{kp:List D->Option Sl}:Wo (Zs kp [a0]) Q↔Wo (B5 kp [.sh a0,.no,.no]) (cK Q):=jR
noncomputable abbrev a8t:Stmt:=top 10
noncomputable abbrev YA{α:Type}(Y:Str->Stmt->List Str->α):α:=Y "worded" a8t ["words"]
noncomputable def Yo:SF:=
 (bK (Ck (eC (.str " ")) (t4 (jt (gW (eV 0)) [] 1 (gN 0) jO (Ir (eV 0))))))
noncomputable def Dt:List D->Option Sl:=cn Yo 1
theorem Fo:Wo (Dt [a0]) Q↔Wo (Yo [.sh a0]) (cK Q):=jR
noncomputable def Zv(kp:bh):SF:=
 (bK (cG 1 Dt (ai (dW (ai (eC (.str "each")) (ai (eZ dg "unit" (eV 0)) (ai (eC (.str "from")) (ai (eZ dg "low" (eV 0)) (ai (eC (.str "to")) (ai (eZ dg "high" (eV 0)) ag))))))) ag)))
noncomputable def Mm(kp:bh):List D->Option Sl:=cn (Zv kp) 1
theorem yF{kp:bh}:Wo (Mm kp [a0]) Q↔Wo (Zv kp [.sh a0]) (cK Q):=jR
noncomputable def Zw(kp:bh):SF:=
 (bK (cG 1 Dt (ai (dW (ai (eC (.str "flat")) (ai (eZ dg "price" (eV 0)) (ai (eC (.str "from")) (ai (eZ dg "low" (eV 0)) (ai (eC (.str "to")) (ai (eZ dg "high" (eV 0)) ag))))))) ag)))
noncomputable def Mn(kp:bh):List D->Option Sl:=cn (Zw kp) 1
theorem yE{kp:bh}:Wo (Mn kp [a0]) Q↔Wo (Zw kp [.sh a0]) (cK Q):=jR
noncomputable def ZE:SF:=
 (bK (cG 1 Dt (ai (jt (gW (eZ dg "rows" (eV 0))) [] 2 (gT 2 (lZ (gN 0) (lZ (gN 1) zN))) jO (Sy (Fi (yg (eV 0)) (Fi (eC (.str ":")) (Fi (yg (eV 1)) GN))))) ag)))
noncomputable def II:List D->Option Sl:=cn ZE 1
theorem n9:Wo (II [a0]) Q↔Wo (ZE [.sh a0]) (cK Q):=jR
noncomputable def Mq:bh:=[("Bands",II),("Steps",II)]
noncomputable def Zn(kp:bh):SF:=
 (bK (cG 1 Dt (ai (dW (ai (eC (.str "bands")) (ai (qO "written_rows" 1 Mq (eV 0) ag) ag))) ag)))
noncomputable def Ms(kp:bh):List D->Option Sl:=cn (Zn kp) 1
theorem wu{kp:bh}:Wo (Ms kp [a0]) Q↔Wo (Zn kp [.sh a0]) (cK Q):=jR
noncomputable def Zq(kp:bh):SF:=
 (bK (cG 1 Dt (ai (dW (ai (eC (.str "steps")) (ai (qO "written_rows" 1 Mq (eV 0) ag) ag))) ag)))
noncomputable def Mv(kp:bh):List D->Option Sl:=cn (Zq kp) 1
theorem wo{kp:bh}:Wo (Mv kp [a0]) Q↔Wo (Zq kp [.sh a0]) (cK Q):=jR
noncomputable def ZG(kp:bh):SF:=
 (bK (cG 1 Dt (ai (dW (ai (eC (.str "blocks")) (ai (eZ dg "size" (eV 0)) (ai (eC (.str "at")) (ai (eZ dg "price" (eV 0)) (ai (eC (.str "times")) (ai (eZ dg "many" (eV 0)) ag))))))) ag)))
noncomputable def MG(kp:bh):List D->Option Sl:=cn (ZG kp) 1
theorem tL{kp:bh}:Wo (MG kp [a0]) Q↔Wo (ZG kp [.sh a0]) (cK Q):=jR
noncomputable def Zo(kp:bh):SF:=
 (bK (eZ dg "name" (eV 0)))
noncomputable def Mt(kp:bh):List D->Option Sl:=cn (Zo kp) 1
theorem wt{kp:bh}:Wo (Mt kp [a0]) Q↔Wo (Zo kp [.sh a0]) (cK Q):=jR
noncomputable def Qy(kp:bh):SF:=
 (bK (cG 1 Dt (ai (dW (ai (eC (.str "(")) (ai (qO "written" 1 kp (eZ dg "one" (eV 0)) ag) (ai (eV 1) (ai (qO "written" 1 kp (eZ dg "other" (eV 0)) ag) (ai (eC (.str ")")) ag)))))) ag)))
noncomputable def FU(kp:bh):List D->Option Sl:=cn (Qy kp) 2
theorem c7{kp:bh}:Wo (FU kp [a0,a1]) Q↔Wo (Qy kp [.sh a0,.sh a1]) (cK Q):=jR
noncomputable def Hu(kp:bh):bh:=[("Sum",FU kp),("Cheaper",FU kp),("Dearer",FU kp)]
noncomputable def ZA(kp:bh):SF:=
 (bK (qO "written_between" 2 (Hu kp) (eV 0) (ai (eC (.str "plus")) ag)))
noncomputable def MB(kp:bh):List D->Option Sl:=cn (ZA kp) 1
theorem zC{kp:bh}:Wo (MB kp [a0]) Q↔Wo (ZA kp [.sh a0]) (cK Q):=jR
noncomputable def ZI(kp:bh):SF:=
 (bK (qO "written_between" 2 (Hu kp) (eV 0) (ai (eC (.str "or")) ag)))
noncomputable def MC(kp:bh):List D->Option Sl:=cn (ZI kp) 1
theorem qS{kp:bh}:Wo (MC kp [a0]) Q↔Wo (ZI kp [.sh a0]) (cK Q):=jR
noncomputable def ZH(kp:bh):SF:=
 (bK (qO "written_between" 2 (Hu kp) (eV 0) (ai (eC (.str "max")) ag)))
noncomputable def MH(kp:bh):List D->Option Sl:=cn (ZH kp) 1
theorem tK{kp:bh}:Wo (MH kp [a0]) Q↔Wo (ZH kp [.sh a0]) (cK Q):=jR
noncomputable def ME(kp:bh):SF:=
 (bK (cG 1 Dt (ai (af aK (af aK (dW (ai (eC (.str "(")) (ai (qO "written" 1 kp (eZ dg "one" (eV 0)) ag) ag))) (eV 1)) (dW (ai (eC (.str ")")) ag))) ag)))
noncomputable def DP(kp:bh):List D->Option Sl:=cn (ME kp) 2
theorem cJ{kp:bh}:Wo (DP kp [a0,a1]) Q↔Wo (ME kp [.sh a0,.sh a1]) (cK Q):=jR
noncomputable def Fm(kp:bh):bh:=[("Only",DP kp),("After",DP kp),("Roomy",DP kp),("Fee",DP kp)]
noncomputable def Zx(kp:bh):SF:=
 (bK (qO "written_with" 2 (Fm kp) (eV 0) (ai (dW (ai (eC (.str "only")) (ai (eZ dg "low" (eV 0)) (ai (eC (.str "to")) (ai (eZ dg "high" (eV 0)) ag))))) ag)))
noncomputable def Mo(kp:bh):List D->Option Sl:=cn (Zx kp) 1
theorem yD{kp:bh}:Wo (Mo kp [a0]) Q↔Wo (Zx kp [.sh a0]) (cK Q):=jR
noncomputable def Zm(kp:bh):SF:=
 (bK (qO "written_with" 2 (Fm kp) (eV 0) (ai (dW (ai (eC (.str "after")) (ai (eZ dg "count" (eV 0)) ag))) ag)))
noncomputable def Mr(kp:bh):List D->Option Sl:=cn (Zm kp) 1
theorem wx{kp:bh}:Wo (Mr kp [a0]) Q↔Wo (Zm kp [.sh a0]) (cK Q):=jR
noncomputable def Zp(kp:bh):SF:=
 (bK (qO "written_with" 2 (Fm kp) (eV 0) (ai (dW (ai (eC (.str "roomy")) ag)) ag)))
noncomputable def Mu(kp:bh):List D->Option Sl:=cn (Zp kp) 1
theorem wq{kp:bh}:Wo (Mu kp [a0]) Q↔Wo (Zp kp [.sh a0]) (cK Q):=jR
noncomputable def Zz(kp:bh):SF:=
 (bK (qO "written_with" 2 (Fm kp) (eV 0) (ai (dW (ai (eC (.str "fee")) (ai (eZ dg "price" (eV 0)) ag))) ag)))
noncomputable def MA(kp:bh):List D->Option Sl:=cn (Zz kp) 1
theorem zD{kp:bh}:Wo (MA kp [a0]) Q↔Wo (Zz kp [.sh a0]) (cK Q):=jR
noncomputable def a6a(kp:bh):bh:=[("Each",Mm kp),("Flat",Mn kp),("Bands",Ms kp),("Steps",Mv kp),("Blocks",MG kp),("Named",Mt kp),("Sum",MB kp),("Cheaper",MC kp),("Dearer",MH kp),("Only",Mo kp),("After",Mr kp),("Roomy",Mu kp),("Fee",MA kp)]
noncomputable def dX:Nat->bh
 | 0=>[]
 | n+1=>a6a (dX n)
noncomputable abbrev a6b:Stmt:=top 42
noncomputable abbrev Zi{α:Type}(Y:Str->Stmt->List Str->α):α:=Y "show_book" a6b ["book"]
noncomputable def YQ:SF:=
 (bK (Ck (eC (.str "\n")) (t4 (jt (Lg (eZ dg "rules" (eV 0))) [] 2 (gT 2 (lZ (gN 0) (lZ (gN 1) zN))) jO (af aK (af aK (af aK (eC (.str "offer ")) (eV 0)) (eC (.str ": "))) (qO "written" 1 (dX 6) (eV 1) ag))))))
noncomputable def IG:List D->Option Sl:=cn YQ 1
theorem AW:Wo (IG [a0]) Q↔Wo (YQ [.sh a0]) (cK Q):=jR
noncomputable def FQ:List Str:=["one"]
noncomputable def Ht:List D->Option (List D):=fL (dH "one" (eV 1) l7) 2 FQ
noncomputable def Hm:List Str:=["one","price"]
noncomputable def SX:List D->Option (List D):=fL (PU 1 FQ Ht (ai (eV 1) ag) (dH "price" (eV 2) l7)) 3 Hm
noncomputable def IA:List Str:=["one"]
noncomputable def Tg:List D->Option (List D):=fL (dH "one" (eV 1) l7) 2 IA
noncomputable def Hr:List Str:=["one","count"]
noncomputable def Te:List D->Option (List D):=fL (PU 1 FQ Ht (ai (eV 1) ag) (dH "count" (eV 2) l7)) 3 Hr
noncomputable def FO:List Str:=["one","low","high"]
noncomputable def Ta:List D->Option (List D):=fL (PU 1 FQ Ht (ai (eV 1) ag) (dH "low" (eV 2) (dH "high" (eV 3) l7))) 4 FO
noncomputable def KA:List Str:=["one","other"]
noncomputable def Tz:List D->Option (List D):=fL (dH "one" (eV 1) (dH "other" (eV 2) l7)) 3 KA
noncomputable def KE:List Str:=["one","other"]
noncomputable def TK:List D->Option (List D):=fL (dH "one" (eV 1) (dH "other" (eV 2) l7)) 3 KE
noncomputable def Ku:List Str:=["one","other"]
noncomputable def SY:List D->Option (List D):=fL (dH "one" (eV 1) (dH "other" (eV 2) l7)) 3 Ku
noncomputable def Ma:List Str:=["name"]
noncomputable def Tf:List D->Option (List D):=fL (dH "name" (eV 1) l7) 2 Ma
noncomputable def IC:List Str:=["size","price","many"]
noncomputable def Tw:List D->Option (List D):=fL (dH "size" (eV 1) (dH "price" (eV 2) (dH "many" (eV 3) l7))) 4 IC
noncomputable def Mb:List Str:=["rows"]
noncomputable def Qn:List D->Option (List D):=fL (dH "rows" (jt (gW (eV 1)) [] 2 (gT 2 (lZ (gN 0) (lZ (gN 1) zN))) jO (hU (ai (eV 0) (ai (eV 1) ag)))) l7) 2 Mb
noncomputable def L':List Str:=["rows"]
noncomputable def Qm:List D->Option (List D):=fL (dH "rows" (jt (gW (eV 1)) [] 2 (gT 2 (lZ (gN 0) (lZ (gN 1) zN))) jO (hU (ai (eV 0) (ai (eV 1) ag)))) l7) 2 L'
noncomputable def Iz:List Str:=["price","low","high"]
noncomputable def S':List D->Option (List D):=fL (dH "price" (eV 1) (dH "low" (eV 2) (dH "high" (eV 3) l7))) 4 Iz
noncomputable def Iy:List Str:=["unit","low","high"]
noncomputable def S9:List D->Option (List D):=fL (dH "unit" (eV 1) (dH "low" (eV 2) (dH "high" (eV 3) l7))) 4 Iy
noncomputable abbrev a6E:Stmt:=top 54
noncomputable abbrev Mj{α:Type}(Y:Str->Stmt->List Str->α):α:=Y "_law_rule" a6E ["plan"]
noncomputable def B6(kp:List D->Option Sl):SF:=
 (a9 (hV 1 (cX (bV 0) (eC (.int 0))))
 (a9 (gf (eF (af cx (eV 1) (eC (.str "each"))))
 (bK (z6 "Each" 3 Iy S9 (ai (cX (bV 0) (eC (.int 1))) (ai (cX (bV 0) (eC (.int 2))) (ai (cX (bV 0) (eC (.int 3))) ag))))) iq)
 (a9 (gf (eF (af cx (eV 1) (eC (.str "flat"))))
 (bK (z6 "Flat" 3 Iz S' (ai (cX (bV 0) (eC (.int 1))) (ai (cX (bV 0) (eC (.int 2))) (ai (cX (bV 0) (eC (.int 3))) ag))))) iq)
 (a9 (gf (eF (af cx (eV 1) (eC (.str "bands"))))
 (bK (z6 "Bands" 1 L' Qm (ai (Sz (t4 (cX (bV 0) (eC (.int 1))))) ag))) iq)
 (a9 (gf (eF (af cx (eV 1) (eC (.str "steps"))))
 (bK (z6 "Steps" 1 Mb Qn (ai (Sz (t4 (cX (bV 0) (eC (.int 1))))) ag))) iq)
 (a9 (gf (eF (af cx (eV 1) (eC (.str "blocks"))))
 (bK (z6 "Blocks" 3 IC Tw (ai (cX (bV 0) (eC (.int 1))) (ai (cX (bV 0) (eC (.int 2))) (ai (cX (bV 0) (eC (.int 3))) ag))))) iq)
 (a9 (gf (eF (af cx (eV 1) (eC (.str "name"))))
 (bK (z6 "Named" 1 Ma Tf (ai (cX (bV 0) (eC (.int 1))) ag))) iq)
 (a9 (gf (eF (af cx (eV 1) (eC (.str "plus"))))
 (bK (z6 "Sum" 2 Ku SY (ai (cG 1 kp (ai (cX (bV 0) (eC (.int 1))) ag)) (ai (cG 1 kp (ai (cX (bV 0) (eC (.int 2))) ag)) ag)))) iq)
 (a9 (gf (eF (af cx (eV 1) (eC (.str "or"))))
 (bK (z6 "Cheaper" 2 KE TK (ai (cG 1 kp (ai (cX (bV 0) (eC (.int 1))) ag)) (ai (cG 1 kp (ai (cX (bV 0) (eC (.int 2))) ag)) ag)))) iq)
 (a9 (gf (eF (af cx (eV 1) (eC (.str "max"))))
 (bK (z6 "Dearer" 2 KA Tz (ai (cG 1 kp (ai (cX (bV 0) (eC (.int 1))) ag)) (ai (cG 1 kp (ai (cX (bV 0) (eC (.int 2))) ag)) ag)))) iq)
 (a9 (gf (eF (af cx (eV 1) (eC (.str "only"))))
 (bK (z6 "Only" 3 FO Ta (ai (cG 1 kp (ai (cX (bV 0) (eC (.int 1))) ag)) (ai (cX (bV 0) (eC (.int 2))) (ai (cX (bV 0) (eC (.int 3))) ag))))) iq)
 (a9 (gf (eF (af cx (eV 1) (eC (.str "after"))))
 (bK (z6 "After" 2 Hr Te (ai (cG 1 kp (ai (cX (bV 0) (eC (.int 1))) ag)) (ai (cX (bV 0) (eC (.int 2))) ag)))) iq)
 (a9 (gf (eF (af cx (eV 1) (eC (.str "roomy"))))
 (bK (z6 "Roomy" 1 IA Tg (ai (cG 1 kp (ai (cX (bV 0) (eC (.int 1))) ag)) ag))) iq)
 (bK (z6 "Fee" 2 Hm SX (ai (cG 1 kp (ai (cX (bV 0) (eC (.int 1))) ag)) (ai (cX (bV 0) (eC (.int 2))) ag)))))))))))))))))
noncomputable def Zr(kp:List D->Option Sl):List D->Option Sl:=cn (B6 kp) 2
noncomputable def Ac:Nat->List D->Option Sl
 | 0=>λ_=>none
 | n+1=>Zr (Ac n)
theorem Dp{kp:List D->Option Sl}:Wo (Zr kp [a0]) Q↔Wo (B6 kp [.sh a0,.no]) (cK Q):=jR
noncomputable def a9l:SF:=
 (bK (dW ag))
noncomputable def IJ:List D->Option Sl:=cn a9l 1
noncomputable def a9m:SF:=
 (bK (dW (ai (eZ dg "one" (eV 0)) (ai (eZ dg "other" (eV 0)) ag))))
noncomputable def Qw:List D->Option Sl:=cn a9m 1
noncomputable def a7q:SF:=
 (bK (dW (ai (eZ dg "one" (eV 0)) ag)))
noncomputable def Mp:List D->Option Sl:=cn a7q 1
noncomputable def Md:bh:=[("Each",IJ),("Flat",IJ),("Bands",IJ),("Steps",IJ),("Blocks",IJ),("Named",IJ),("Sum",Qw),("Cheaper",Qw),("Dearer",Qw),("Only",Mp),("After",Mp),("Roomy",Mp),("Fee",Mp)]
noncomputable def Qu(kp:bh):SF:=
 (a9 (pN 1 (dW ag))
 (a9 (Bw (qO "parts" 1 Md (eV 0) ag) (gN 2)
 (Bx 1 (qO "all_names" 1 kp (eV 2) ag)))
 (FJ 1)))
noncomputable def pv(kp:bh):List D->Option Sl:=cn (Qu kp) 3
theorem fu{kp:bh}:Wo (pv kp [a0]) Q↔Wo (Qu kp [.sh a0,.no,.no]) (cK Q):=jR
noncomputable def ZJ(kp:bh):SF:=
 (bK (dW (ai (eZ dg "name" (eV 0)) ag)))
noncomputable def MD(kp:bh):List D->Option Sl:=cn (ZJ kp) 1
theorem qR{kp:bh}:Wo (MD kp [a0]) Q↔Wo (ZJ kp [.sh a0]) (cK Q):=jR
noncomputable def a41(kp:bh):bh:=[("Each",pv kp),("Flat",pv kp),("Bands",pv kp),("Steps",pv kp),("Blocks",pv kp),("Named",MD kp),("Sum",pv kp),("Cheaper",pv kp),("Dearer",pv kp),("Only",pv kp),("After",pv kp),("Roomy",pv kp),("Fee",pv kp)]
noncomputable def nV:Nat->bh
 | 0=>[]
 | n+1=>a41 (nV n)
noncomputable def Ze:SF:=
 (bK (SA (qO "all_names" 1 (nV 6) (eV 0) ag)))
noncomputable def AU:List D->Option Sl:=cn Ze 1
theorem Ag:Wo (AU [a0]) Q↔Wo (Ze [.sh a0]) (cK Q):=jR
noncomputable def KG:bh:=[("Each",AU),("Flat",AU),("Bands",AU),("Steps",AU),("Blocks",AU),("Named",AU),("Sum",AU),("Cheaper",AU),("Dearer",AU),("Only",AU),("After",AU),("Roomy",AU),("Fee",AU)]
noncomputable abbrev a4n:Stmt:=top 38
noncomputable abbrev Zl{α:Type}(Y:Str->Stmt->List Str->α):α:=Y "reached_from" a4n ["rules","name"]
noncomputable def a4D:En->Nat:=λ_=>1000000
noncomputable def Zy:SF:=
 (a9 (pN 2 Wn)
 (a9 (pN 3 (qO "names" 1 KG (Lh (eV 0) (eV 1)) ag))
 (a9 (SG a4D (Ss (bV 3))
 (a9 (Bv 4 3)
 (gf (eF (PQ true (eV 4) 2))
 (a9 (K4 2 (eC (.bl true)) (eV 4))
 (Bx 3 (qO "names" 1 KG (Lh (eV 0) (eV 4)) ag))) iq)))
 (FJ 2))))
noncomputable def Qv:List D->Option Sl:=cn Zy 5
theorem yC:Wo (Qv [a0,a1]) Q↔Wo (Zy [.sh a0,.sh a1,.no,.no,.no]) (cK Q):=jR
noncomputable abbrev a42:Stmt:=top 37
noncomputable abbrev Zu{α:Type}(Y:Str->Stmt->List Str->α):α:=Y "check_needs" a42 ["rules"]
noncomputable def ZD:SF:=
 (a9 (PY (Rc (eV 0)) (gN 1)
 (Bw (qO "names" 1 KG (eV 1) ag) (gN 2)
 (gf (eF (BS true (eV 2) (eV 0)))
 Kw iq)))
 (PY (Rf (eV 0)) (gN 2)
 (gf (eF (BS false (eV 2) (cG 2 Qv (ai (eV 0) (ai (eV 2) ag)))))
 Kw iq)))
noncomputable def KI:List D->Option Sl:=cn ZD 3
theorem zA:Wo (KI [a0]) Q↔Wo (ZD [.sh a0,.no,.no]) (cK Q):=jR
noncomputable abbrev a7v:Stmt:=top 31
noncomputable abbrev YE{α:Type}(Y:Str->Stmt->List Str->α):α:=Y "is_name" a7v ["text"]
noncomputable def Yu:SF:=
 (a9 (gf (wW (P7 (Hi (eF (af Ra (eC (.int 1)) (LS (eV 0)))) (eF (af Ra (LS (eV 0)) (eC (.int 8)))))) (eF (af Rb (eV 0) (eC (.tup [D.str "each",D.str "from",D.str "to",D.str "flat",D.str "bands",D.str "steps",D.str "blocks",D.str "at",D.str "times",D.str "plus",D.str "or",D.str "max",D.str "only",D.str "after",D.str "roomy",D.str "fee"])))))
 (bK (eC (.bl false))) iq)
 (bK (G' (t4 (jt (EX (eV 0)) [] 1 (gN 0) jO (af C6 (eV 0) (eC (.str "abcdefghijklmnopqrstuvwxyz"))))))))
noncomputable def Qs:List D->Option Sl:=cn Yu 1
theorem Dv:Wo (Qs [a0]) Q↔Wo (Yu [.sh a0]) (cK Q):=jR
noncomputable abbrev a43:Stmt:=top 36
noncomputable abbrev Zt{α:Type}(Y:Str->Stmt->List Str->α):α:=Y "check_names" a43 ["names"]
noncomputable def ZC:SF:=
 (a9 (Bw (eV 0) (gN 1)
 (gf (P7 (I9 (cG 1 Qs (ai (eV 1) ag))))
 Kw iq))
 (gf (eF (af ON (SS (eV 0)) (qr (bV 0))))
 Kw iq))
noncomputable def KH:List D->Option Sl:=cn ZC 2
theorem zB:Wo (KH [a0]) Q↔Wo (ZC [.sh a0,.no]) (cK Q):=jR
noncomputable abbrev a5p:Stmt:=top 35
noncomputable abbrev Zb{α:Type}(Y:Str->Stmt->List Str->α):α:=Y "check_many" a5p ["many"]
noncomputable def Zf:SF:=
 (gf (eF (af JZ (eV 0) (eC (.int 30))))
 Kw iq)
noncomputable def Mw:List D->Option Sl:=cn Zf 1
theorem Af:Wo (Mw [a0]) Q↔Wo (Zf [.sh a0]) (cK Q):=jR
noncomputable def FP:List Str:=["offers","rules"]
noncomputable def IB:List D->Option (List D):=fL (JI (hV 2 (jt (gW (eV 1)) [] 2 (gT 2 (lZ (gN 0) (lZ (gN 1) zN))) jO (hU (ai (eV 0) (ai (eV 1) ag))))) (JI (LM (cG 1 Mw (ai (qr (bV 2)) ag))) (JI (LM (cG 1 KH (ai (jt (gW (eV 2)) [] 2 (gT 2 (lZ (gN 0) (lZ (gN 1) zN))) jO (eV 0)) ag))) (dH "offers" (eV 2) (dH "rules" (Qd (eV 2)) (VB KI "rules" l7)))))) 3 FP
noncomputable abbrev a6G:Stmt:=top 56
noncomputable abbrev YY{α:Type}(Y:Str->Stmt->List Str->α):α:=Y "_law_made" a6G ["offers"]
noncomputable def Y3:SF:=
 (bK (z6 "Book" 1 FP IB (ai (jt (gW (eV 0)) [] 1 (gN 0) jO (hU (ai (cX (bV 0) (eC (.int 0))) (ai (cG 1 (Ac 6) (ai (cX (bV 0) (eC (.int 1))) ag)) ag)))) ag)))
noncomputable def Mg:List D->Option Sl:=cn Y3 1
theorem B9:Wo (Mg [a0]) Q↔Wo (Y3 [.sh a0]) (cK Q):=jR
noncomputable abbrev a8u:Stmt:=top 44
noncomputable abbrev Yz{α:Type}(Y:Str->Stmt->List Str->α):α:=Y "_law_at" a8u ["script","k"]
noncomputable def Yn:SF:=
 (a9 (gf (eF (af ON (eV 1) (qr (bV 0))))
 (bK (cX (bV 0) (eV 1))) iq)
 (bK (eC (.int 0))))
noncomputable def CD:List D->Option Sl:=cn Yn 2
theorem Fp:Wo (CD [a0,a1]) Q↔Wo (Yn [.sh a0,.sh a1]) (cK Q):=jR
noncomputable abbrev a7u:Stmt:=top 45
noncomputable abbrev YF{α:Type}(Y:Str->Stmt->List Str->α):α:=Y "_law_mix" a7u ["cell","k","size"]
noncomputable def Yv:SF:=
 (a9 (hV 3 (af aK (eC (.int 271828182845904523536028747135266249775724709369995)) (af nB (af nB (eC (.int 2)) (eV 1)) (eV 1))))
 (a9 (hV 4 (af aK (af nB (af aK (af jH (eV 0) (af xW (eC (.int 10)) (eC (.int 60)))) (eC (.int 1))) (eV 3)) (af nB (eC (.int 7907)) (eV 1))))
 (bK (af jH (af AD (af jH (af nB (eV 4) (eV 4)) (af aK (af xW (eC (.int 10)) (eC (.int 60))) (eC (.int 7)))) (eC (.int 11))) (eV 2)))))
noncomputable def mh:List D->Option Sl:=cn Yv 5
theorem Du:Wo (mh [a0,a1,a2]) Q↔Wo (Yv [.sh a0,.sh a1,.sh a2,.no,.no]) (cK Q):=jR
noncomputable abbrev a6d:Stmt:=top 46
noncomputable abbrev YS{α:Type}(Y:Str->Stmt->List Str->α):α:=Y "_law_price" a6d ["cell","k"]
noncomputable def YN:SF:=
 (a9 (hV 2 (cX (t4 (dW (ai (eC (.int 3)) (ai (af xW (eC (.int 10)) (eC (.int 9))) (ai (af xW (eC (.int 10)) (eC (.int 39))) ag))))) (cG 3 mh (ai (eV 0) (ai (af aK (eV 1) (eC (.int 60))) (ai (eC (.int 3)) ag))))))
 (bK (af BQ (cG 3 mh (ai (eV 0) (ai (eV 1) (ai (af aK (af nB (eC (.int 2)) (eV 2)) (eC (.int 1))) ag)))) (eV 2))))
noncomputable def IE:List D->Option Sl:=cn YN 3
theorem AY:Wo (IE [a0,a1]) Q↔Wo (YN [.sh a0,.sh a1,.no]) (cK Q):=jR
noncomputable abbrev a5n:Stmt:=top 49
noncomputable abbrev Zd{α:Type}(Y:Str->Stmt->List Str->α):α:=Y "_law_turned" a5n ["one","kind","cell","scale"]
noncomputable def Zh:SF:=
 (a9 (gf (eF (af cx (eV 1) (eC (.str "only"))))
 (a9 (hV 4 (af nB (cG 3 mh (ai (eV 2) (ai (eC (.int 50)) (ai (eV 3) ag)))) (cG 3 mh (ai (eV 2) (ai (eC (.int 51)) (ai (eC (.int 2)) ag))))))
 (bK (hU (ai (eV 1) (ai (eV 0) (ai (eV 4) (ai (af aK (eV 4) (cG 3 mh (ai (eV 2) (ai (eC (.int 52)) (ai (af nB (eC (.int 3)) (eV 3)) ag))))) ag))))))) iq)
 (a9 (gf (eF (af cx (eV 1) (eC (.str "after"))))
 (bK (hU (ai (eV 1) (ai (eV 0) (ai (cG 3 mh (ai (eV 2) (ai (eC (.int 53)) (ai (eV 3) ag)))) ag))))) iq)
 (bK (hU (ai (eC (.str "fee")) (ai (eV 0) (ai (cG 2 IE (ai (eV 2) (ai (eC (.int 54)) ag))) ag)))))))
noncomputable def Mz:List D->Option Sl:=cn Zh 5
theorem Ad:Wo (Mz [a0,a1,a2,a3]) Q↔Wo (Zh [.sh a0,.sh a1,.sh a2,.sh a3,.no]) (cK Q):=jR
noncomputable abbrev a6F:Stmt:=top 47
noncomputable abbrev YZ{α:Type}(Y:Str->Stmt->List Str->α):α:=Y "_law_rows" a6F ["cell","scale"]
noncomputable def Y4:SF:=
 (a9 (pN 2 (dW ag))
 (a9 (hV 3 (af AD (af nB (cG 3 mh (ai (eV 0) (ai (eC (.int 30)) (ai (eV 1) ag)))) (cG 3 mh (ai (eV 0) (ai (eC (.int 31)) (ai (eC (.int 3)) ag))))) (eC (.int 2))))
 (a9 (PZ D0 (ai (af aK (eC (.int 1)) (cG 3 mh (ai (eV 0) (ai (eC (.int 32)) (ai (eC (.int 2)) ag))))) ag) (gN 4)
 (a9 (yT 2 (hU (ai (eV 3) (ai (cG 2 IE (ai (eV 0) (ai (af aK (eC (.int 33)) (eV 4)) ag))) ag))))
 (hV 3 (af aK (af aK (eV 3) (eC (.int 1))) (cG 3 mh (ai (eV 0) (ai (af aK (eC (.int 40)) (eV 4)) (ai (eV 1) ag))))))))
 (FJ 2))))
noncomputable def Mh:List D->Option Sl:=cn Y4 5
theorem B8:Wo (Mh [a0,a1]) Q↔Wo (Y4 [.sh a0,.sh a1,.no,.no,.no]) (cK Q):=jR
noncomputable abbrev a6H:Stmt:=top 48
noncomputable abbrev YX{α:Type}(Y:Str->Stmt->List Str->α):α:=Y "_law_leaf" a6H ["cell","scale","names"]
noncomputable def Y2:SF:=
 (a9 (hV 3 (cX (t4 (dW (ai (eC (.str "each")) (ai (eC (.str "flat")) (ai (eC (.str "bands")) (ai (eC (.str "steps")) (ai (eC (.str "blocks")) (ai (eC (.str "name")) (ai (eC (.str "name")) ag))))))))) (cG 3 mh (ai (eV 0) (ai (eC (.int 1)) (ai (eC (.int 7)) ag))))))
 (a9 (hV 4 (cG 2 IE (ai (eV 0) (ai (eC (.int 2)) ag))))
 (a9 (hV 5 (af nB (cG 3 mh (ai (eV 0) (ai (eC (.int 3)) (ai (eV 1) ag)))) (cG 3 mh (ai (eV 0) (ai (eC (.int 4)) (ai (eC (.int 2)) ag))))))
 (a9 (hV 6 (af aK (eV 5) (af nB (cG 3 mh (ai (eV 0) (ai (eC (.int 5)) (ai (eV 1) ag)))) (cG 3 mh (ai (eV 0) (ai (eC (.int 6)) (ai (eC (.int 4)) ag)))))))
 (a9 (gf (wW (eF (af cx (eV 3) (eC (.str "bands")))) (eF (af cx (eV 3) (eC (.str "steps")))))
 (bK (hU (ai (eV 3) (ai (cG 2 Mh (ai (eV 0) (ai (eV 1) ag))) ag)))) iq)
 (a9 (gf (eF (af cx (eV 3) (eC (.str "blocks"))))
 (bK (hU (ai (eV 3) (ai (af aK (eC (.int 1)) (cG 3 mh (ai (eV 0) (ai (eC (.int 7)) (ai (eV 1) ag))))) (ai (eV 4) (ai (af aK (eC (.int 1)) (cG 3 mh (ai (eV 0) (ai (eC (.int 8)) (ai (eC (.int 3)) ag))))) ag)))))) iq)
 (a9 (gf (Hi (eF (af cx (eV 3) (eC (.str "name")))) (eF (af JZ (qr (bV 2)) (eC (.int 0)))))
 (bK (hU (ai (eV 3) (ai (cX (bV 2) (cG 3 mh (ai (eV 0) (ai (eC (.int 9)) (ai (qr (bV 2)) ag))))) ag)))) iq)
 (bK (hU (ai (cX (t4 (dW (ai (eC (.str "each")) (ai (eC (.str "flat")) ag)))) (Sw (af xX (eV 3) (eC (.str "each"))))) (ai (eV 4) (ai (eV 5) (ai (eV 6) ag)))))))))))))
noncomputable def Mf:List D->Option Sl:=cn Y2 7
theorem B':Wo (Mf [a0,a1,a2]) Q↔Wo (Y2 [.sh a0,.sh a1,.sh a2,.no,.no,.no,.no]) (cK Q):=jR
noncomputable abbrev a6C:Stmt:=top 50
noncomputable abbrev Y0{α:Type}(Y:Str->Stmt->List Str->α):α:=Y "_law_tree" a6C ["numbers","scale","names"]
noncomputable def a6U:En->Nat:=λ_=>1000000
noncomputable def Y5:SF:=
 (a9 (pN 3 (dW ag))
 (a9 (Bw (eV 0) (gN 4)
 (a9 (hV 5 (cG 3 mh (ai (eV 4) (ai (eC (.int 0)) (ai (eC (.int 13)) ag)))))
 (gf (Hi (eF (af JZ (eV 5) (eC (.int 9)))) (eF (af JZ (qr (bV 3)) (eC (.int 0)))))
 (Kn 3 (Qe 4 Mz (LZ 3 (ai (cX (t4 (dW (ai (eC (.str "only")) (ai (eC (.str "after")) (ai (eC (.str "fee")) ag))))) (af BQ (eV 5) (eC (.int 10)))) (ai (eV 4) (ai (eV 1) ag)))))) (yT 3 (cG 3 Mf (ai (eV 4) (ai (eV 1) (ai (eV 2) ag))))))))
 (a9 (SG a6U (eF (af JZ (qr (bV 3)) (eC (.int 1))))
 (a9 (Bv 6 3)
 (Kn 3 (Su (SQ (cX (t4 (dW (ai (eC (.str "or")) (ai (eC (.str "plus")) (ai (eC (.str "max")) (ai (eC (.str "or")) ag)))))) (cG 3 mh (ai (cX (bV 0) (eC (.int 0))) (ai (eC (.int 55)) (ai (eC (.int 4)) ag))))) (LZ 3 (ai (eV 6) ag)))))))
 (bK (cX (bV 3) (eC (.int 0)))))))
noncomputable def Mi:List D->Option Sl:=cn Y5 7
theorem B7:Wo (Mi [a0,a1,a2]) Q↔Wo (Y5 [.sh a0,.sh a1,.sh a2,.no,.no,.no,.no]) (cK Q):=jR
noncomputable abbrev a5o:Stmt:=top 52
noncomputable abbrev Zc{α:Type}(Y:Str->Stmt->List Str->α):α:=Y "_law_folded" a5o ["script","first","most"]
noncomputable def Zg:SF:=
 (a9 (pN 3 (dW (ai (cG 2 CD (ai (eV 0) (ai (eV 1) ag))) ag)))
 (a9 (PY (yf Sr (ai (af aK (eV 1) (eC (.int 1))) (ai (qr (bV 0)) ag))) (gN 4)
 (gf (eF (af ON (qr (bV 3)) (eV 2)))
 (yT 3 (af jH (cX (bV 0) (eV 4)) (af xW (eC (.int 10)) (eC (.int 60))))) (a9 (hV 5 (af aK (af nB (cX (bV 3) (af jH (eV 4) (eV 2))) (eC (.int 10007))) (af jH (cX (bV 0) (eV 4)) (af xW (eC (.int 10)) (eC (.int 60))))))
 (LN 3 (af jH (eV 5) (af xW (eC (.int 10)) (eC (.int 60)))) (af jH (eV 4) (eV 2))))))
 (FJ 3)))
noncomputable def Mx:List D->Option Sl:=cn Zg 6
theorem Ae:Wo (Mx [a0,a1,a2]) Q↔Wo (Zg [.sh a0,.sh a1,.sh a2,.no,.no,.no]) (cK Q):=jR
noncomputable abbrev a6c:Stmt:=top 51
noncomputable abbrev YT{α:Type}(Y:Str->Stmt->List Str->α):α:=Y "_law_words" a6c ["cell","size"]
noncomputable def YO:SF:=
 (a9 (hV 2 (eC (.str "abcdefghijklmnopqrstuvwxyz")))
 (a9 (hV 3 (Ck (eC (.str "")) (t4 (jt (yf FH (ai (cG 3 mh (ai (eV 0) (ai (eC (.int 20)) (ai (eC (.int 4)) ag)))) ag)) [0] 1 (gN 0) jO (AE (eC (.str "qxz")) (cG 3 mh (ai (eV 1) (ai (eV 0) (ai (eC (.int 3)) ag)))))))))
 (a9 (hV 4 (Ck (eC (.str "")) (t4 (jt (yf FH (ai (cG 3 mh (ai (eV 0) (ai (eC (.int 21)) (ai (eC (.int 5)) ag)))) ag)) [0] 1 (gN 0) jO (AE (eC (.str "zxq")) (cG 3 mh (ai (eV 1) (ai (af aK (eV 0) (eC (.int 5))) (ai (eC (.int 3)) ag)))))))))
 (bK (jt (yf FH (ai (eV 1) ag)) [3,2,0,4] 1 (gN 0) jO (af aK (af aK (eV 1) (AE (eV 2) (af jH (af aK (cG 3 mh (ai (eV 3) (ai (eC (.int 22)) (ai (eC (.int 26)) ag)))) (af nB (eC (.int 3)) (eV 0))) (eC (.int 26))))) (eV 4)))))))
noncomputable def Qr:List D->Option Sl:=cn YO 5
theorem AX:Wo (Qr [a0,a1]) Q↔Wo (YO [.sh a0,.sh a1,.no,.no,.no]) (cK Q):=jR
noncomputable abbrev a6I:Stmt:=top 53
noncomputable abbrev YW{α:Type}(Y:Str->Stmt->List Str->α):α:=Y "_law_book" a6I ["script"]
noncomputable def Y1:SF:=
 (a9 (hV 1 (cX (t4 (dW (ai (eC (.int 9)) (ai (af xW (eC (.int 10)) (eC (.int 6))) (ai (af xW (eC (.int 10)) (eC (.int 38))) ag))))) (af jH (cG 2 CD (ai (eV 0) (ai (eC (.int 0)) ag))) (eC (.int 3)))))
 (a9 (hV 2 (af aK (eC (.int 1)) (af jH (af AD (cG 2 CD (ai (eV 0) (ai (eC (.int 0)) ag))) (eC (.int 3))) (eC (.int 4)))))
 (a9 (hV 3 (cG 2 Qr (ai (cG 2 CD (ai (eV 0) (ai (eC (.int 1)) ag))) (ai (eV 2) ag))))
 (a9 (hV 4 (cG 3 Mx (ai (eV 0) (ai (eC (.int 2)) (ai (af nB (eC (.int 3)) (eV 2)) ag)))))
 (a9 (pN 5 (dW ag))
 (a9 (PZ D0 (ai (eV 2) ag) (gN 6)
 (a9 (hV 7 (af aK (jt (yf FH (ai (qr (bV 4)) ag)) [4,2,6] 1 (gN 0) (eF (af cx (af jH (eV 0) (eV 2)) (eV 3))) (cX (bV 1) (eV 0))) (dW (ai (af aK (cG 2 CD (ai (eV 0) (ai (eC (.int 0)) ag))) (eV 6)) ag))))
 (yT 5 (hU (ai (cX (bV 3) (eV 6)) (ai (cG 3 Mi (ai (O5 (bV 7) QV (NJ (eC (.int 3)))) (ai (eV 1) (ai (O5 (bV 3) QV (NJ (eV 6))) ag)))) ag))))))
 (a9 (gf (eF (af cx (af jH (af AD (cG 2 CD (ai (eV 0) (ai (eC (.int 0)) ag))) (eC (.int 12))) (eC (.int 2))) (eC (.int 1))))
 (CK 5) iq)
 (FJ 5))))))))
noncomputable def IH:List D->Option Sl:=cn Y1 8
theorem Ca:Wo (IH [a0]) Q↔Wo (Y1 [.sh a0,.no,.no,.no,.no,.no,.no,.no]) (cK Q):=jR
noncomputable abbrev Qa:Stmt:=top 57
noncomputable abbrev MZ{α:Type}(Y:Str->Stmt->List Str->α):α:=Y "law" Qa ["script"]
noncomputable def Xz:SF:=
 (a9 (gf (eF (af cx (af jH (af AD (cG 2 CD (ai (eV 0) (ai (eC (.int 0)) ag))) (eC (.int 24))) (eC (.int 7))) (eC (.int 6))))
 (bK (af cx (cG 1 IG (ai (z6 "Book" 1 FP IB (ai (dW ag) ag)) ag)) (eC (.str "")))) iq)
 (a9 (hV 1 (cG 1 IH (ai (eV 0) ag)))
 (a9 (gf (eF (af cx (af jH (af AD (cG 2 CD (ai (eV 0) (ai (eC (.int 0)) ag))) (eC (.int 24))) (eC (.int 2))) (eC (.int 1))))
 (hV 1 (jt (gW (eV 1)) [] 1 (gN 0) jO (hU (ai (cX (bV 0) (eC (.int 0))) (ai (hU (ai (eC (.str "roomy")) (ai (cX (bV 0) (eC (.int 1))) ag))) ag))))) iq)
 (a9 (hV 2 (cG 1 IG (ai (cG 1 Mg (ai (eV 1) ag)) ag)))
 (a9 (hV 3 (Ck (eC (.str "\n")) (t4 (jt (gW (eV 1)) [] 2 (gT 2 (lZ (gN 0) (lZ (gN 1) zN))) jO (af aK (af aK (af aK (eC (.str "offer ")) (eV 0)) (eC (.str ": "))) (cG 1 (wH 6) (ai (eV 1) ag)))))))
 (bK (C7 (G9 "str" (eV 2)) (af cx (eV 2) (eV 3)))))))))
noncomputable def SW:List D->Option Sl:=cn Xz 4
theorem Qz:Wo (SW [a0]) Q↔Wo (Xz [.sh a0,.no,.no,.no]) (cK Q):=jR
structure Obs(K:aX)(mg:Str->Option Value)(aT aS aG aE az aH bx ah ar aL aC aF bo bc cy bO bN aM bF bC br bE aq bU bf bq ak bM bG bD bW aN bH aQ ae be aj aw cc bQ bX aR bP bI bj bY bZ b7:Addr):Prop where
 cV:jQ K "Each" aT
 JW:mg "Each" = some (.ref aT)
 IY:Mk K aT bZ
 kM:aa K aT "rules"
 ij:aa K aT "high"
 kP:aa K aT "low"
 ig:aa K aT "unit"
 kN:aa K aT "price"
 mV:aa K aT "rows"
 mX:aa K aT "many"
 mU:aa K aT "size"
 mW:aa K aT "name"
 kO:aa K aT "other"
 oU:aa K aT "one"
 kQ:aa K aT "count"
 gO:bL K aT "written" bO
 lB:bL K aT "parts" aN
 fg:bL K aT "all_names" ae
 lC:bL K aT "names" aj
 cU:jQ K "Flat" aS
 JU:mg "Flat" = some (.ref aS)
 IX:Mk K aS bY
 kH:aa K aS "rules"
 ic:aa K aS "high"
 kK:aa K aS "low"
 mM:aa K aS "unit"
 gj:aa K aS "price"
 mO:aa K aS "rows"
 mQ:aa K aS "many"
 mN:aa K aS "size"
 mP:aa K aS "name"
 kJ:aa K aS "other"
 oM:aa K aS "one"
 kL:aa K aS "count"
 gM:bL K aS "written" bN
 lz:bL K aS "parts" aN
 ff:bL K aS "all_names" ae
 lA:bL K aS "names" aj
 cC:jQ K "Bands" aG
 G2:mg "Bands" = some (.ref aG)
 F3:Mk K aG bj
 iV:aa K aG "rules"
 k9:aa K aG "high"
 ng:aa K aG "low"
 kY:aa K aG "unit"
 iW:aa K aG "price"
 gm:aa K aG "rows"
 k8:aa K aG "many"
 kZ:aa K aG "size"
 k7:aa K aG "name"
 iX:aa K aG "other"
 m9:aa K aG "one"
 iY:aa K aG "count"
 dC:bL K aG "written_rows" aM
 fY:bL K aG "written" bF
 jj:bL K aG "parts" aN
 eU:bL K aG "all_names" ae
 jk:bL K aG "names" aj
 cA:jQ K "Steps" aE
 GZ:mg "Steps" = some (.ref aE)
 F0:Mk K aE bj
 ir:aa K aE "rules"
 j6:aa K aE "high"
 mD:aa K aE "low"
 jX:aa K aE "unit"
 iw:aa K aE "price"
 gg:aa K aE "rows"
 j0:aa K aE "many"
 jY:aa K aE "size"
 jZ:aa K aE "name"
 iy:aa K aE "other"
 mC:aa K aE "one"
 iA:aa K aE "count"
 dA:bL K aE "written_rows" aM
 fS:bL K aE "written" bC
 jc:bL K aE "parts" aN
 eQ:bL K aE "all_names" ae
 jd:bL K aE "names" aj
 bS:jQ K "Blocks" az
 EW:mg "Blocks" = some (.ref az)
 DV:Mk K az bI
 gG:aa K az "rules"
 iU:aa K az "high"
 kX:aa K az "low"
 iR:aa K az "unit"
 eO:aa K az "price"
 iS:aa K az "rows"
 fC:aa K az "many"
 fB:aa K az "size"
 iT:aa K az "name"
 gH:aa K az "other"
 kW:aa K az "one"
 gJ:aa K az "count"
 fm:bL K az "written" br
 gR:bL K az "parts" aN
 eh:bL K az "all_names" ae
 gS:bL K az "names" aj
 cH:jQ K "Named" aH
 G1:mg "Named" = some (.ref aH)
 F2:Mk K aH bP
 iF:aa K aH "rules"
 kG:aa K aH "high"
 mL:aa K aH "low"
 kC:aa K aH "unit"
 iG:aa K aH "price"
 kE:aa K aH "rows"
 kF:aa K aH "many"
 kD:aa K aH "size"
 gh:aa K aH "name"
 iH:aa K aH "other"
 mK:aa K aH "one"
 iI:aa K aH "count"
 fU:bL K aH "written" bE
 jg:bL K aH "parts" aN
 eS:bL K aH "all_names" be
 jh:bL K aH "names" aj
 ej:jQ K "Sum" bx
 OK:mg "Sum" = some (.ref bx)
 MO:Mk K bx aR
 my:aa K bx "rules"
 oK:aa K bx "high"
 rZ:aa K bx "low"
 oF:aa K bx "unit"
 mz:aa K bx "price"
 oH:aa K bx "rows"
 oJ:aa K bx "many"
 oG:aa K bx "size"
 oI:aa K bx "name"
 h7:aa K bx "other"
 nM:aa K bx "one"
 mB:aa K bx "count"
 dj:bL K bx "written_between" aq
 jb:bL K bx "written" bU
 nv:bL K bx "parts" bH
 fR:bL K bx "all_names" ae
 ny:bL K bx "names" aj
 bz:jQ K "Cheaper" ah
 C5:mg "Cheaper" = some (.ref ah)
 CH:Mk K ah aR
 fN:aa K ah "rules"
 gF:aa K ah "high"
 iP:aa K ah "low"
 gz:aa K ah "unit"
 fO:aa K ah "price"
 gC:aa K ah "rows"
 gE:aa K ah "many"
 gA:aa K ah "size"
 gD:aa K ah "name"
 d7:aa K ah "other"
 fA:aa K ah "one"
 fP:aa K ah "count"
 cN:bL K ah "written_between" aq
 eT:bL K ah "written" bf
 fW:bL K ah "parts" bH
 dU:bL K ah "all_names" ae
 fX:bL K ah "names" aj
 bR:jQ K "Dearer" ar
 EU:mg "Dearer" = some (.ref ar)
 DU:Mk K ar aR
 gw:aa K ar "rules"
 iO:aa K ar "high"
 kR:aa K ar "low"
 iJ:aa K ar "unit"
 gx:aa K ar "price"
 iL:aa K ar "rows"
 iN:aa K ar "many"
 iK:aa K ar "size"
 iM:aa K ar "name"
 eM:aa K ar "other"
 gk:aa K ar "one"
 gy:aa K ar "count"
 cR:bL K ar "written_between" aq
 fj:bL K ar "written" bq
 gP:bL K ar "parts" bH
 d9:bL K ar "all_names" ae
 gQ:bL K ar "names" aj
 cQ:jQ K "Only" aL
 JT:mg "Only" = some (.ref aL)
 IW:Mk K aL bX
 kn:aa K aL "rules"
 ib:aa K aL "high"
 kA:aa K aL "low"
 mF:aa K aL "unit"
 kr:aa K aL "price"
 mH:aa K aL "rows"
 mJ:aa K aL "many"
 mG:aa K aL "size"
 mI:aa K aL "name"
 kx:aa K aL "other"
 kz:aa K aL "one"
 kB:aa K aL "count"
 dS:bL K aL "written_with" ak
 gL:bL K aL "written" bM
 lr:bL K aL "parts" aQ
 e9:bL K aL "all_names" ae
 lx:bL K aL "names" aj
 cj:jQ K "After" aC
 G3:mg "After" = some (.ref aC)
 F4:Mk K aC bQ
 iZ:aa K aC "rules"
 ll:aa K aC "high"
 nh:aa K aC "low"
 la:aa K aC "unit"
 i0:aa K aC "price"
 lg:aa K aC "rows"
 lj:aa K aC "many"
 lb:aa K aC "size"
 lh:aa K aC "name"
 ja:aa K aC "other"
 ik:aa K aC "one"
 fD:aa K aC "count"
 dD:bL K aC "written_with" ak
 fZ:bL K aC "written" bG
 jl:bL K aC "parts" aQ
 eW:bL K aC "all_names" ae
 jm:bL K aC "names" aj
 cB:jQ K "Roomy" aF
 G0:mg "Roomy" = some (.ref aF)
 F1:Mk K aF aw
 iB:aa K aF "rules"
 km:aa K aF "high"
 mE:aa K aF "low"
 j7:aa K aF "unit"
 iC:aa K aF "price"
 j9:aa K aF "rows"
 kf:aa K aF "many"
 j8:aa K aF "size"
 j':aa K aF "name"
 iD:aa K aF "other"
 ia:aa K aF "one"
 iE:aa K aF "count"
 dB:bL K aF "written_with" ak
 fT:bL K aF "written" bD
 je:bL K aF "parts" aQ
 eR:bL K aF "all_names" ae
 jf:bL K aF "names" aj
 eA:jQ K "Fee" bo
 OL:mg "Fee" = some (.ref bo)
 MP:Mk K bo cc
 mR:aa K bo "rules"
 oS:aa K bo "high"
 r0:aa K bo "low"
 oN:aa K bo "unit"
 ie:aa K bo "price"
 oP:aa K bo "rows"
 oR:aa K bo "many"
 oO:aa K bo "size"
 oQ:aa K bo "name"
 mS:aa K bo "other"
 nN:aa K bo "one"
 mT:aa K bo "count"
 d8:bL K bo "written_with" ak
 ji:bL K bo "written" bW
 nz:bL K bo "parts" aQ
 fV:bL K bo "all_names" ae
 nA:bL K bo "names" aj
 dQ:jQ K "Book" bc
 JX:mg "Book" = some (.ref bc)
 IZ:Mk K bc b7
 eN:aa K bc "rules"
 m8:aa K bc "high"
 oW:aa K bc "low"
 mY:aa K bc "unit"
 kS:aa K bc "price"
 m5:aa K bc "rows"
 m7:aa K bc "many"
 mZ:aa K bc "size"
 m6:aa K bc "name"
 kT:aa K bc "other"
 oV:aa K bc "one"
 kU:aa K bc "count"
 iQ:aa K bc "offers"
 xV:mg "Single" = some (.ref cy)
 yt:A4 K cy aw
section
variable {P:Program}{w:World}{K:aX}{mg:Str->Option Value}{base:Heap}
variable {aT aS aG aE az aH bx ah ar aL aC aF bo bc cy bO bN aM bF bC br bE aq bU bf bq ak bM bG bD bW aN bH aQ ae be aj aw cc bQ bX aR bP bI bj bY bZ b7:Addr}(OB:Obs K mg aT aS aG aE az aH bx ah ar aL aC aF bo bc cy bO bN aM bF bC br bE aq bU bf bq ak bM bG bD bW aN bH aQ ae be aj aw cc bQ bX aR bP bI bj bY bZ b7)
variable (z_str:mg "str" = none)
variable (z_all:mg "all" = none)
variable (z_LETTERS:HA mg "LETTERS" "abcdefghijklmnopqrstuvwxyz")
variable (z_OWN_WORDS:Uv K mg "OWN_WORDS" ["each","from","to","flat","bands","steps","blocks","at","times","plus","or","max","only","after","roomy","fee"])
variable (z_len:mg "len" = none)
variable (z_MOST_LETTERS:QK mg "MOST_LETTERS" 8)
variable (z_MOST_OFFERS:QK mg "MOST_OFFERS" 30)
variable (z_set:mg "set" = none)
variable (z_BEGINNING:HA mg "BEGINNING" "offer ")
variable (z_BEHIND_NAME:HA mg "BEHIND_NAME" ": ")
variable (z_range:mg "range" = none)
variable (z_int:mg "int" = none)
variable (z_list:mg "list" = none)
variable (z_isinstance:mg "isinstance" = none)
variable (z_sorted:mg "sorted" = none)
variable (z_dict:mg "dict" = none)
variable {av:bh}{aD:Nat}(dE:qU P w K mg base "written" 1 aD av)
variable {dG:bh}{eB:Nat}(gq:qU P w K mg base "all_names" 1 eB dG)
variable {tZ:List D->Option Sl}{xK:Nat}(bT:Mj (Oz P w K mg base) xK tZ)
variable {tY:List D->Option Sl}{xJ:Nat}(eE:Ml (Oz P w K mg base) xJ tY)
include z_str eE in
theorem a9z(D':Ml (Def K mg) a d):Ml (Oz P w K mg base) (xJ+1) (Zs tY):=jI (N:=["plan","kind","tail"]) D' λX r h=>by
 cases r
 exact (dq (h.eL 1 (ei (h.bv 0) bg)) (dq (me (jv (mn h.u8) (h.v 1) cu) (cL (eK (ei (h.bv 0) bg))) nK) (dq (me (Ar (Ko (jv (mn h.u8) (h.v 1) cu) (LY (jv (mn h.u8) (h.v 1) cu)))) (cL (eK (cf eD (cf eD (cf eD (cf eD (cf eD (cf eD (h.v 1) cu) (Fk h.g z_str (ei (h.bv 0) bg))) cu) (Fk h.g z_str (ei (h.bv 0) bg))) cu) (Fk h.g z_str (ei (h.bv 0) bg))))) nK) (dq (me (Ar (Ko (jv (mn h.u8) (h.v 1) cu) (LY (jv (mn h.u8) (h.v 1) cu)))) (cL (eK (cf eD (cf eD (h.v 1) cu) (LU cu (BZ (CB (N':=["row"]) (caps:=[]) (nt:=1) h ⟨rfl,by decide +kernel,by decide +kernel,by decide +kernel,by decide +kernel,rfl,rfl,by decide +kernel⟩ (FN (ei (h.bv 0) bg)) (λX1 jr jq jo fq jn h1=>⟨(h1.tg 0),B1,(cf eD (cf eD (Fk h1.g (IS fq z_str) (ei (h1.bv 0) bg)) cu) (Fk h1.g (IS fq z_str) (ei (h1.bv 0) bg)))⟩))))))) nK) (dq (me (jv (mn h.u8) (h.v 1) cu) (cL (eK (cf eD (cf eD (cf eD (cf eD (cf eD cu (Fk h.g z_str (ei (h.bv 0) bg))) cu) (Fk h.g z_str (ei (h.bv 0) bg))) cu) (Fk h.g z_str (ei (h.bv 0) bg))))) nK) (dq (me (Ar (Ko (jv (mn h.u8) (h.v 1) cu) (Ko (jv (mn h.u8) (h.v 1) cu) (LY (jv (mn h.u8) (h.v 1) cu))))) (cL (eK (cf eD (cf eD (cf eD (cf eD (cf eD (cf eD cu (h.cl eE (au (ei (h.bv 0) bg) bu) (hj:=by omega))) cu) (h.v 1)) cu) (h.cl eE (au (ei (h.bv 0) bg) bu) (hj:=by omega))) cu))) nK) (dq (h.eL 2 (h.v 1)) (dq (me (jv (mn h.u8) (h.v 1) cu) (cL (h.eL 2 (cf eD (cf eD (cf eD cu (Fk h.g z_str (ei (h.bv 0) bg))) cu) (Fk h.g z_str (ei (h.bv 0) bg))))) nK) (dq (me (Ar (Ko (jv (mn h.u8) (h.v 1) cu) (LY (jv (mn h.u8) (h.v 1) cu)))) (cL (h.eL 2 (cf eD (cf eD (h.v 1) cu) (Fk h.g z_str (ei (h.bv 0) bg))))) nK) (cL (eK (cf eD (cf eD (cf eD (cf eD cu (h.cl eE (au (ei (h.bv 0) bg) bu) (hj:=by omega))) cu) (h.v 2)) cu))))))))))))
variable (Tu:Ml (Oz P w K mg base) 7 (wH 6))
include OB in
theorem a9N:FL K "rules" dg:=(bb OB.cV OB.kM (bb OB.cU OB.kH (bb OB.cC OB.iV (bb OB.cA OB.ir (bb OB.bS OB.gG (bb OB.cH OB.iF (bb OB.ej OB.my (bb OB.bz OB.fN (bb OB.bR OB.gw (bb OB.cQ OB.kn (bb OB.cj OB.iZ (bb OB.cB OB.iB (bb OB.eA OB.mR (bb OB.dQ OB.eN DM))))))))))))))
variable (q9:FL K "rules" dg)
include z_str in
theorem b2x(D':YA (Def K mg) a d):YA (Oz P w K mg base) 1 Dt:=jI (N:=["words"]) D' λX r h=>by
 cases r
 exact (cL (eK (LU cu (BZ (CB (N':=["word"]) (caps:=[]) (nt:=1) h ⟨rfl,by decide +kernel,by decide +kernel,by decide +kernel,by decide +kernel,rfl,rfl,by decide +kernel⟩ (FN (h.v 0)) (λX1 jr jq jo fq jn h1=>⟨(h1.tg 0),B1,(b7Z h1.g (IS fq z_str) (h1.v 0))⟩))))))
variable (wj:YA (Oz P w K mg base) 1 Dt)
include OB in
theorem b1y:FL K "high" dg:=(bb OB.cV OB.ij (bb OB.cU OB.ic (bb OB.cC OB.k9 (bb OB.cA OB.j6 (bb OB.bS OB.iU (bb OB.cH OB.kG (bb OB.ej OB.oK (bb OB.bz OB.gF (bb OB.bR OB.iO (bb OB.cQ OB.ib (bb OB.cj OB.ll (bb OB.cB OB.km (bb OB.eA OB.oS (bb OB.dQ OB.m8 DM))))))))))))))
variable (fF:FL K "high" dg)
include OB in
theorem b2E:FL K "low" dg:=(bb OB.cV OB.kP (bb OB.cU OB.kK (bb OB.cC OB.ng (bb OB.cA OB.mD (bb OB.bS OB.kX (bb OB.cH OB.mL (bb OB.ej OB.rZ (bb OB.bz OB.iP (bb OB.bR OB.kR (bb OB.cQ OB.kA (bb OB.cj OB.nh (bb OB.cB OB.mE (bb OB.eA OB.r0 (bb OB.dQ OB.oW DM))))))))))))))
variable (jx:FL K "low" dg)
include OB in
theorem b1t:FL K "unit" dg:=(bb OB.cV OB.ig (bb OB.cU OB.mM (bb OB.cC OB.kY (bb OB.cA OB.jX (bb OB.bS OB.iR (bb OB.cH OB.kC (bb OB.ej OB.oF (bb OB.bz OB.gz (bb OB.bR OB.iJ (bb OB.cQ OB.mF (bb OB.cj OB.la (bb OB.cB OB.j7 (bb OB.eA OB.oN (bb OB.dQ OB.mY DM))))))))))))))
variable (wO:FL K "unit" dg)
include wj fF jx wO in
theorem a6Q(D':T' (cP K a) d):T' (Om P w K mg base a) (aD+2) (Mm av):=yM (N:=["self"]) D' λX r h=>by
 cases r
 exact (cL (eK (h.cl wj (au (qP (au cu (au (yz (h.v 0) wO) (au cu (au (yz (h.v 0) jx) (au cu (au (yz (h.v 0) fF) bu))))))) bu) (hj:=by omega))))
variable (T6:T' (Om P w K mg base bO) (aD+2) (Mm av))
include OB in
theorem a9O:FL K "price" dg:=(bb OB.cV OB.kN (bb OB.cU OB.gj (bb OB.cC OB.iW (bb OB.cA OB.iw (bb OB.bS OB.eO (bb OB.cH OB.iG (bb OB.ej OB.mz (bb OB.bz OB.fO (bb OB.bR OB.gx (bb OB.cQ OB.kr (bb OB.cj OB.i0 (bb OB.cB OB.iC (bb OB.eA OB.ie (bb OB.dQ OB.kS DM))))))))))))))
variable (dZ:FL K "price" dg)
include wj fF jx dZ in
theorem a6P(D':Ua (cP K a) d):Ua (Om P w K mg base a) (aD+2) (Mn av):=yM (N:=["self"]) D' λX r h=>by
 cases r
 exact (cL (eK (h.cl wj (au (qP (au cu (au (yz (h.v 0) dZ) (au cu (au (yz (h.v 0) jx) (au cu (au (yz (h.v 0) fF) bu))))))) bu) (hj:=by omega))))
variable (T7:Ua (Om P w K mg base bN) (aD+2) (Mn av))
include OB in
theorem b1v:FL K "rows" dg:=(bb OB.cV OB.mV (bb OB.cU OB.mO (bb OB.cC OB.gm (bb OB.cA OB.gg (bb OB.bS OB.iS (bb OB.cH OB.kE (bb OB.ej OB.oH (bb OB.bz OB.gC (bb OB.bR OB.iL (bb OB.cQ OB.mH (bb OB.cj OB.lg (bb OB.cB OB.j9 (bb OB.eA OB.oP (bb OB.dQ OB.m5 DM))))))))))))))
variable (wR:FL K "rows" dg)
include wj wR in
theorem a4Z(D':ZF (cP K a) d):ZF (Om P w K mg base a) 2 II:=yM (N:=["self"]) D' λX r h=>by
 cases r
 exact (cL (eK (h.cl wj (au (CB (N':=["top","unit"]) (caps:=[]) (nt:=2) h ⟨rfl,by decide +kernel,by decide +kernel,by decide +kernel,by decide +kernel,rfl,rfl,by decide +kernel⟩ (FN (yz (h.v 0) wR)) (λX1 jr jq jo fq jn h1=>⟨(Kx (n:=2) h1.calm (CC (h1.tg 0) (CC (h1.tg 1) Ky))),B1,(b73 (Yk (b6o (h1.v 0)) (Yk cu (Yk (b6o (h1.v 1)) c0o))))⟩)) bu))))
variable (Qt:ZF (Om P w K mg base aM) 2 II)
include OB Qt in
theorem a5D:qU P w K mg base "written_rows" 1 2 Mq:=(eI OB.cC OB.dC Qt (eI OB.cA OB.dA Qt Hl))
variable (cw:qU P w K mg base "written_rows" 1 2 Mq)
include wj cw in
theorem a6m(D':TX (cP K a) d):TX (Om P w K mg base a) (aD+3) (Ms av):=yM (N:=["self"]) D' λX r h=>by
 cases r
 exact (cL (eK (h.cl wj (au (qP (au cu (au (h.Dx (n:=1) cw (h.v 0) (hj:=by omega)) bu))) bu) (hj:=by omega))))
variable (TM:TX (Om P w K mg base bF) (aD+3) (Ms av))
include wj cw in
theorem a6j(D':T1 (cP K a) d):T1 (Om P w K mg base a) (aD+3) (Mv av):=yM (N:=["self"]) D' λX r h=>by
 cases r
 exact (cL (eK (h.cl wj (au (qP (au cu (au (h.Dx (n:=1) cw (h.v 0) (hj:=by omega)) bu))) bu) (hj:=by omega))))
variable (TR:T1 (Om P w K mg base bC) (aD+3) (Mv av))
include OB in
theorem b1x:FL K "many" dg:=(bb OB.cV OB.mX (bb OB.cU OB.mQ (bb OB.cC OB.k8 (bb OB.cA OB.j0 (bb OB.bS OB.fC (bb OB.cH OB.kF (bb OB.ej OB.oJ (bb OB.bz OB.gE (bb OB.bR OB.iN (bb OB.cQ OB.mJ (bb OB.cj OB.lj (bb OB.cB OB.kf (bb OB.eA OB.oR (bb OB.dQ OB.m7 DM))))))))))))))
variable (wU:FL K "many" dg)
include OB in
theorem b1u:FL K "size" dg:=(bb OB.cV OB.mU (bb OB.cU OB.mN (bb OB.cC OB.kZ (bb OB.cA OB.jY (bb OB.bS OB.fB (bb OB.cH OB.kD (bb OB.ej OB.oG (bb OB.bz OB.gA (bb OB.bR OB.iK (bb OB.cQ OB.mG (bb OB.cj OB.lb (bb OB.cB OB.j8 (bb OB.eA OB.oO (bb OB.dQ OB.mZ DM))))))))))))))
variable (wQ:FL K "size" dg)
include wj dZ wU wQ in
theorem a5X(D':Ul (cP K a) d):Ul (Om P w K mg base a) (aD+2) (MG av):=yM (N:=["self"]) D' λX r h=>by
 cases r
 exact (cL (eK (h.cl wj (au (qP (au cu (au (yz (h.v 0) wQ) (au cu (au (yz (h.v 0) dZ) (au cu (au (yz (h.v 0) wU) bu))))))) bu) (hj:=by omega))))
variable (T2:Ul (Om P w K mg base br) (aD+2) (MG av))
include OB in
theorem b1w:FL K "name" dg:=(bb OB.cV OB.mW (bb OB.cU OB.mP (bb OB.cC OB.k7 (bb OB.cA OB.jZ (bb OB.bS OB.iT (bb OB.cH OB.gh (bb OB.ej OB.oI (bb OB.bz OB.gD (bb OB.bR OB.iM (bb OB.cQ OB.mI (bb OB.cj OB.lh (bb OB.cB OB.j' (bb OB.eA OB.oQ (bb OB.dQ OB.m6 DM))))))))))))))
variable (lQ:FL K "name" dg)
include lQ in
theorem a6l(D':TY (cP K a) d):TY (Om P w K mg base a) (aD+1) (Mt av):=yM (N:=["self"]) D' λX r h=>by
 cases r
 exact (cL (eK (yz (h.v 0) lQ)))
variable (TN:TY (Om P w K mg base bE) (aD+1) (Mt av))
include OB in
theorem a9P:FL K "other" dg:=(bb OB.cV OB.kO (bb OB.cU OB.kJ (bb OB.cC OB.iX (bb OB.cA OB.iy (bb OB.bS OB.gH (bb OB.cH OB.iH (bb OB.ej OB.h7 (bb OB.bz OB.d7 (bb OB.bR OB.eM (bb OB.cQ OB.kx (bb OB.cj OB.ja (bb OB.cB OB.iD (bb OB.eA OB.mS (bb OB.dQ OB.kT DM))))))))))))))
variable (gY:FL K "other" dg)
include OB in
theorem b2D:FL K "one" dg:=(bb OB.cV OB.oU (bb OB.cU OB.oM (bb OB.cC OB.m9 (bb OB.cA OB.mC (bb OB.bS OB.kW (bb OB.cH OB.mK (bb OB.ej OB.nM (bb OB.bz OB.fA (bb OB.bR OB.gk (bb OB.cQ OB.kz (bb OB.cj OB.ik (bb OB.cB OB.ia (bb OB.eA OB.nN (bb OB.dQ OB.oV DM))))))))))))))
variable (fw:FL K "one" dg)
include dE wj gY fw in
theorem a3X(D':Ui (cP K a) d):Ui (Om P w K mg base a) (aD+2) (FU av):=yM (N:=["self","word"]) D' λX r h=>by
 cases r
 exact (cL (eK (h.cl wj (au (qP (au cu (au (h.Dx (n:=1) dE (yz (h.v 0) fw) (hj:=by omega)) (au (h.v 1) (au (h.Dx (n:=1) dE (yz (h.v 0) gY) (hj:=by omega)) (au cu bu)))))) bu) (hj:=by omega))))
variable (MF:Ui (Om P w K mg base aq) (aD+2) (FU av))
include OB MF in
theorem a4A:qU P w K mg base "written_between" 2 (aD+2) (Hu av):=(eI OB.ej OB.dj MF (eI OB.bz OB.cN MF (eI OB.bR OB.cR MF Hl (hj:=by omega)) (hj:=by omega)) (hj:=by omega))
variable (aZ:qU P w K mg base "written_between" 2 (aD+2) (Hu av))
include aZ in
theorem a7n(D':T5 (cP K a) d):T5 (Om P w K mg base a) (aD+3) (MB av):=yM (N:=["self"]) D' λX r h=>by
 cases r
 exact (cL (eK (h.mt (n:=2) aZ (h.v 0) (au cu bu) (hj:=by omega))))
variable (Ud:T5 (Om P w K mg base bU) (aD+3) (MB av))
include aZ in
theorem a5E(D':Uj (cP K a) d):Uj (Om P w K mg base a) (aD+3) (MC av):=yM (N:=["self"]) D' λX r h=>by
 cases r
 exact (cL (eK (h.mt (n:=2) aZ (h.v 0) (au cu bu) (hj:=by omega))))
variable (Uq:Uj (Om P w K mg base bf) (aD+3) (MC av))
include aZ in
theorem a5W(D':Um (cP K a) d):Um (Om P w K mg base a) (aD+3) (MH av):=yM (N:=["self"]) D' λX r h=>by
 cases r
 exact (cL (eK (h.mt (n:=2) aZ (h.v 0) (au cu bu) (hj:=by omega))))
variable (T3:Um (Om P w K mg base bq) (aD+3) (MH av))
include dE wj fw in
theorem a4e(D':Uh (cP K a) d):Uh (Om P w K mg base a) (aD+2) (DP av):=yM (N:=["self","words"]) D' λX r h=>by
 cases r
 exact (cL (eK (h.cl wj (au (cf eD (cf eD (qP (au cu (au (h.Dx (n:=1) dE (yz (h.v 0) fw) (hj:=by omega)) bu))) (h.v 1)) (qP (au cu bu))) bu) (hj:=by omega))))
variable (KL:Uh (Om P w K mg base ak) (aD+2) (DP av))
include OB KL in
theorem a5C:qU P w K mg base "written_with" 2 (aD+2) (Fm av):=(eI OB.cQ OB.dS KL (eI OB.cj OB.dD KL (eI OB.cB OB.dB KL (eI OB.eA OB.d8 KL Hl (hj:=by omega)) (hj:=by omega)) (hj:=by omega)) (hj:=by omega))
variable (aW:qU P w K mg base "written_with" 2 (aD+2) (Fm av))
include fF jx aW in
theorem a6N(D':Ub (cP K a) d):Ub (Om P w K mg base a) (aD+3) (Mo av):=yM (N:=["self"]) D' λX r h=>by
 cases r
 exact (cL (eK (h.mt (n:=2) aW (h.v 0) (au (qP (au cu (au (yz (h.v 0) jx) (au cu (au (yz (h.v 0) fF) bu))))) bu) (hj:=by omega))))
variable (T8:Ub (Om P w K mg base bM) (aD+3) (Mo av))
include OB in
theorem a9Q:FL K "count" dg:=(bb OB.cV OB.kQ (bb OB.cU OB.kL (bb OB.cC OB.iY (bb OB.cA OB.iA (bb OB.bS OB.gJ (bb OB.cH OB.iI (bb OB.ej OB.mB (bb OB.bz OB.fP (bb OB.bR OB.gy (bb OB.cQ OB.kB (bb OB.cj OB.fD (bb OB.cB OB.iE (bb OB.eA OB.mT (bb OB.dQ OB.kU DM))))))))))))))
variable (ra:FL K "count" dg)
include aW ra in
theorem a6n(D':TU (cP K a) d):TU (Om P w K mg base a) (aD+3) (Mr av):=yM (N:=["self"]) D' λX r h=>by
 cases r
 exact (cL (eK (h.mt (n:=2) aW (h.v 0) (au (qP (au cu (au (yz (h.v 0) ra) bu))) bu) (hj:=by omega))))
variable (TL:TU (Om P w K mg base bG) (aD+3) (Mr av))
include aW in
theorem a6k(D':TZ (cP K a) d):TZ (Om P w K mg base a) (aD+3) (Mu av):=yM (N:=["self"]) D' λX r h=>by
 cases r
 exact (cL (eK (h.mt (n:=2) aW (h.v 0) (au (qP (au cu bu)) bu) (hj:=by omega))))
variable (TQ:TZ (Om P w K mg base bD) (aD+3) (Mu av))
include dZ aW in
theorem a7o(D':T4 (cP K a) d):T4 (Om P w K mg base a) (aD+3) (MA av):=yM (N:=["self"]) D' λX r h=>by
 cases r
 exact (cL (eK (h.mt (n:=2) aW (h.v 0) (au (qP (au cu (au (yz (h.v 0) dZ) bu))) bu) (hj:=by omega))))
variable (Uc:T4 (Om P w K mg base bW) (aD+3) (MA av))
include OB T6 T7 TM TR T2 TN Ud Uq T3 T8 TL TQ Uc in
theorem a74:qU P w K mg base "written" 1 (aD+3) (a6a av):=(eI OB.cV OB.gO T6 (eI OB.cU OB.gM T7 (eI OB.cC OB.fY TM (eI OB.cA OB.fS TR (eI OB.bS OB.fm T2 (eI OB.cH OB.fU TN (eI OB.ej OB.jb Ud (eI OB.bz OB.eT Uq (eI OB.bR OB.fj T3 (eI OB.cQ OB.gL T8 (eI OB.cj OB.fZ TL (eI OB.cB OB.fT TQ (eI OB.eA OB.ji Uc Hl (hj:=by omega)) (hj:=by omega)) (hj:=by omega)) (hj:=by omega)) (hj:=by omega)) (hj:=by omega)) (hj:=by omega)) (hj:=by omega)) (hj:=by omega)) (hj:=by omega)) (hj:=by omega)) (hj:=by omega)) (hj:=by omega))
variable (lN:qU P w K mg base "written" 1 19 (dX 6))
include z_BEGINNING z_BEHIND_NAME q9 lN in
theorem a8C(D':Zi (Def K mg) a d):Zi (Oz P w K mg base) 20 IG:=jI (N:=["book"]) D' λX r h=>by
 cases r
 exact (cL (eK (LU cu (BZ (CB (N':=["name","rule"]) (caps:=[]) (nt:=2) h ⟨rfl,by decide +kernel,by decide +kernel,by decide +kernel,by decide +kernel,rfl,rfl,by decide +kernel⟩ (N6 (yz (h.v 0) q9)) (λX1 jr jq jo fq jn h1=>⟨(Kx (n:=2) h1.calm (CC (h1.tg 0) (CC (h1.tg 1) Ky))),B1,(cf eD (cf eD (cf eD (Yq h1.g (XH fq z_BEGINNING)) (h1.v 0)) (Yq h1.g (XH fq z_BEHIND_NAME))) (h1.Dx (n:=1) (Vo jr jq jo fq jn lN) (h1.v 1)))⟩))))))
variable (Qp:Zi (Oz P w K mg base) 20 IG)
include OB in
theorem b2C(D':Up (cP K aw) d):IL P w K mg base cy bo aw "Single" 1 FQ 1 Ht:=XG (N:=["self","one"]) OB.yt OB.xV D' λX r h=>by
 cases r
 exact (h.g9 OB.eA.c OB.nN (h.v 1) Dl)
variable (Aj:IL P w K mg base cy bo aw "Single" 1 FQ 1 Ht)
include OB Aj in
theorem b2B(D':a7P (cP K cc) d):pz P w K mg base "Fee" 2 Hm 2 SX:=SJ (N:=["self","one","price"]) OB.eA OB.OL OB.MP D' λX r h=>by
 cases r
 exact (h.Vy Aj (au (h.v 1) bu) (h.K6 OB.eA.c OB.ie (h.v 2) SM))
variable (Ai:pz P w K mg base "Fee" 2 Hm 2 SX)
include OB in
theorem a9I(D':Up (cP K aw) d):pz P w K mg base "Roomy" 1 IA 1 Tg:=FG (N:=["self","one"]) OB.cB OB.G0 OB.F1 D' λX r h=>by
 cases r
 exact (h.g9 OB.cB.c OB.ia (h.v 1) Dl)
variable (qX:pz P w K mg base "Roomy" 1 IA 1 Tg)
include OB in
theorem a9M(D':Up (cP K aw) d):IL P w K mg base cy aC aw "Single" 1 FQ 1 Ht:=XG (N:=["self","one"]) OB.yt OB.xV D' λX r h=>by
 cases r
 exact (h.g9 OB.cj.c OB.ik (h.v 1) Dl)
variable (q8:IL P w K mg base cy aC aw "Single" 1 FQ 1 Ht)
include OB q8 in
theorem a9L(D':a6z (cP K bQ) d):pz P w K mg base "After" 2 Hr 2 Te:=SJ (N:=["self","one","count"]) OB.cj OB.G3 OB.F4 D' λX r h=>by
 cases r
 exact (h.Vy q8 (au (h.v 1) bu) (h.K6 OB.cj.c OB.fD (h.v 2) SM))
variable (q0:pz P w K mg base "After" 2 Hr 2 Te)
include OB in
theorem b1s(D':Up (cP K aw) d):IL P w K mg base cy aL aw "Single" 1 FQ 1 Ht:=XG (N:=["self","one"]) OB.yt OB.xV D' λX r h=>by
 cases r
 exact (h.g9 OB.cQ.c OB.kz (h.v 1) Dl)
variable (wN:IL P w K mg base cy aL aw "Single" 1 FQ 1 Ht)
include OB wN in
theorem b1o(D':a7f (cP K bX) d):pz P w K mg base "Only" 3 FO 2 Ta:=SJ (N:=["self","one","low","high"]) OB.cQ OB.JT OB.IW D' λX r h=>by
 cases r
 exact (h.Vy wN (au (h.v 1) bu) (h.K6 OB.cQ.c OB.kA (h.v 2) (h.K6 OB.cQ.c OB.ib (h.v 3) SM)))
variable (wK:pz P w K mg base "Only" 3 FO 2 Ta)
include OB in
theorem a8F(D':Zj (cP K aR) d):pz P w K mg base "Dearer" 2 KA 1 Tz:=FG (N:=["self","one","other"]) OB.bR OB.EU OB.DU D' λX r h=>by
 cases r
 exact (h.g9 OB.bR.c OB.gk (h.v 1) (h.g9 OB.bR.c OB.eM (h.v 2) Dl))
variable (nW:pz P w K mg base "Dearer" 2 KA 1 Tz)
include OB in
theorem a75(D':Zj (cP K aR) d):pz P w K mg base "Cheaper" 2 KE 1 TK:=FG (N:=["self","one","other"]) OB.bz OB.C5 OB.CH D' λX r h=>by
 cases r
 exact (h.g9 OB.bz.c OB.fA (h.v 1) (h.g9 OB.bz.c OB.d7 (h.v 2) Dl))
variable (lO:pz P w K mg base "Cheaper" 2 KE 1 TK)
include OB in
theorem b2A(D':Zj (cP K aR) d):pz P w K mg base "Sum" 2 Ku 1 SY:=FG (N:=["self","one","other"]) OB.ej OB.OK OB.MO D' λX r h=>by
 cases r
 exact (h.g9 OB.ej.c OB.nM (h.v 1) (h.g9 OB.ej.c OB.h7 (h.v 2) Dl))
variable (Ah:pz P w K mg base "Sum" 2 Ku 1 SY)
include OB in
theorem a9J(D':a6y (cP K bP) d):pz P w K mg base "Named" 1 Ma 1 Tf:=FG (N:=["self","name"]) OB.cH OB.G1 OB.F2 D' λX r h=>by
 cases r
 exact (h.g9 OB.cH.c OB.gh (h.v 1) Dl)
variable (qY:pz P w K mg base "Named" 1 Ma 1 Tf)
include OB in
theorem a8G(D':a6h (cP K bI) d):pz P w K mg base "Blocks" 3 IC 1 Tw:=FG (N:=["self","size","price","many"]) OB.bS OB.EW OB.DV D' λX r h=>by
 cases r
 exact (h.g9 OB.bS.c OB.fB (h.v 1) (h.g9 OB.bS.c OB.eO (h.v 2) (h.g9 OB.bS.c OB.fC (h.v 3) Dl)))
variable (nX:pz P w K mg base "Blocks" 3 IC 1 Tw)
include OB in
theorem a9H(D':a40 (cP K bj) d):pz P w K mg base "Steps" 1 Mb 1 Qn:=FG (N:=["self","rows"]) OB.cA OB.GZ OB.F0 D' λX r h=>by
 cases r
 exact (h.g9 OB.cA.c OB.gg (CB (N':=["top","unit"]) (caps:=[]) (nt:=2) h ⟨rfl,by decide +kernel,by decide +kernel,by decide +kernel,by decide +kernel,rfl,rfl,by decide +kernel⟩ (FN (h.v 1)) (λX1 jr jq jo fq jn h1=>⟨(Kx (n:=2) h1.calm (CC (h1.tg 0) (CC (h1.tg 1) Ky))),B1,(B0 (au (h1.v 0) (au (h1.v 1) bu)))⟩)) Dl)
variable (qW:pz P w K mg base "Steps" 1 Mb 1 Qn)
include OB in
theorem a9K(D':a40 (cP K bj) d):pz P w K mg base "Bands" 1 L' 1 Qm:=FG (N:=["self","rows"]) OB.cC OB.G2 OB.F3 D' λX r h=>by
 cases r
 exact (h.g9 OB.cC.c OB.gm (CB (N':=["top","unit"]) (caps:=[]) (nt:=2) h ⟨rfl,by decide +kernel,by decide +kernel,by decide +kernel,by decide +kernel,rfl,rfl,by decide +kernel⟩ (FN (h.v 1)) (λX1 jr jq jo fq jn h1=>⟨(Kx (n:=2) h1.calm (CC (h1.tg 0) (CC (h1.tg 1) Ky))),B1,(B0 (au (h1.v 0) (au (h1.v 1) bu)))⟩)) Dl)
variable (qZ:pz P w K mg base "Bands" 1 L' 1 Qm)
include OB in
theorem b1p(D':a7g (cP K bY) d):pz P w K mg base "Flat" 3 Iz 1 S':=FG (N:=["self","price","low","high"]) OB.cU OB.JU OB.IX D' λX r h=>by
 cases r
 exact (h.g9 OB.cU.c OB.gj (h.v 1) (h.g9 OB.cU.c OB.kK (h.v 2) (h.g9 OB.cU.c OB.ic (h.v 3) Dl)))
variable (wL:pz P w K mg base "Flat" 3 Iz 1 S')
include OB in
theorem b1q(D':a7h (cP K bZ) d):pz P w K mg base "Each" 3 Iy 1 S9:=FG (N:=["self","unit","low","high"]) OB.cV OB.JW OB.IY D' λX r h=>by
 cases r
 exact (h.g9 OB.cV.c OB.ig (h.v 1) (h.g9 OB.cV.c OB.kP (h.v 2) (h.g9 OB.cV.c OB.ij (h.v 3) Dl)))
variable (wM:pz P w K mg base "Each" 3 Iy 1 S9)
include z_list bT Ai qX q0 wK nW lO Ah qY nX qW qZ wL wM in
theorem a9A(D':Mj (Def K mg) a d):Mj (Oz P w K mg base) (xK+4) (Zr tZ):=jI (N:=["plan","kind"]) D' λX r h=>by
 cases r
 exact (dq (h.eL 1 (ei (h.bv 0) bg)) (dq (me (jv (mn h.u8) (h.v 1) cu) (cL (eK (h.BH wM (au (ei (h.bv 0) bg) (au (ei (h.bv 0) bg) (au (ei (h.bv 0) bg) bu))) (hj:=by omega)))) nK) (dq (me (jv (mn h.u8) (h.v 1) cu) (cL (eK (h.BH wL (au (ei (h.bv 0) bg) (au (ei (h.bv 0) bg) (au (ei (h.bv 0) bg) bu))) (hj:=by omega)))) nK) (dq (me (jv (mn h.u8) (h.v 1) cu) (cL (eK (h.BH qZ (au (b3r h.g z_list (BZ (ei (h.bv 0) bg))) bu) (hj:=by omega)))) nK) (dq (me (jv (mn h.u8) (h.v 1) cu) (cL (eK (h.BH qW (au (b3r h.g z_list (BZ (ei (h.bv 0) bg))) bu) (hj:=by omega)))) nK) (dq (me (jv (mn h.u8) (h.v 1) cu) (cL (eK (h.BH nX (au (ei (h.bv 0) bg) (au (ei (h.bv 0) bg) (au (ei (h.bv 0) bg) bu))) (hj:=by omega)))) nK) (dq (me (jv (mn h.u8) (h.v 1) cu) (cL (eK (h.BH qY (au (ei (h.bv 0) bg) bu) (hj:=by omega)))) nK) (dq (me (jv (mn h.u8) (h.v 1) cu) (cL (eK (h.BH Ah (au (h.cl bT (au (ei (h.bv 0) bg) bu) (hj:=by omega)) (au (h.cl bT (au (ei (h.bv 0) bg) bu) (hj:=by omega)) bu)) (hj:=by omega)))) nK) (dq (me (jv (mn h.u8) (h.v 1) cu) (cL (eK (h.BH lO (au (h.cl bT (au (ei (h.bv 0) bg) bu) (hj:=by omega)) (au (h.cl bT (au (ei (h.bv 0) bg) bu) (hj:=by omega)) bu)) (hj:=by omega)))) nK) (dq (me (jv (mn h.u8) (h.v 1) cu) (cL (eK (h.BH nW (au (h.cl bT (au (ei (h.bv 0) bg) bu) (hj:=by omega)) (au (h.cl bT (au (ei (h.bv 0) bg) bu) (hj:=by omega)) bu)) (hj:=by omega)))) nK) (dq (me (jv (mn h.u8) (h.v 1) cu) (cL (eK (h.BH wK (au (h.cl bT (au (ei (h.bv 0) bg) bu) (hj:=by omega)) (au (ei (h.bv 0) bg) (au (ei (h.bv 0) bg) bu))) (hj:=by omega)))) nK) (dq (me (jv (mn h.u8) (h.v 1) cu) (cL (eK (h.BH q0 (au (h.cl bT (au (ei (h.bv 0) bg) bu) (hj:=by omega)) (au (ei (h.bv 0) bg) bu)) (hj:=by omega)))) nK) (dq (me (jv (mn h.u8) (h.v 1) cu) (cL (eK (h.BH qX (au (h.cl bT (au (ei (h.bv 0) bg) bu) (hj:=by omega)) bu) (hj:=by omega)))) nK) (cL (eK (h.BH Ai (au (h.cl bT (au (ei (h.bv 0) bg) bu) (hj:=by omega)) (au (ei (h.bv 0) bg) bu)) (hj:=by omega)))))))))))))))))
variable (Tt:Mj (Oz P w K mg base) 25 (Ac 6))
theorem a71(D':Za (cP K a) d):Za (Om P w K mg base a) 1 IJ:=yM (N:=["self"]) D' λX r h=>by
 cases r
 exact (cL (eK (qP bu)))
variable (Hs:Za (Om P w K mg base aN) 1 IJ)
include gY fw in
theorem a73(D':Y9 (cP K a) d):Y9 (Om P w K mg base a) 1 Qw:=yM (N:=["self"]) D' λX r h=>by
 cases r
 exact (cL (eK (qP (au (yz (h.v 0) fw) (au (yz (h.v 0) gY) bu)))))
variable (Me:Y9 (Om P w K mg base bH) 1 Qw)
include fw in
theorem a6M(D':Zk (cP K a) d):Zk (Om P w K mg base a) 1 Mp:=yM (N:=["self"]) D' λX r h=>by
 cases r
 exact (cL (eK (qP (au (yz (h.v 0) fw) bu))))
variable (KJ:Zk (Om P w K mg base aQ) 1 Mp)
include OB Hs Me KJ in
theorem a9F:qU P w K mg base "parts" 1 1 Md:=(eI OB.cV OB.lB Hs (eI OB.cU OB.lz Hs (eI OB.cC OB.jj Hs (eI OB.cA OB.jc Hs (eI OB.bS OB.gR Hs (eI OB.cH OB.jg Hs (eI OB.ej OB.nv Me (eI OB.bz OB.fW Me (eI OB.bR OB.gP Me (eI OB.cQ OB.lr KJ (eI OB.cj OB.jl KJ (eI OB.cB OB.je KJ (eI OB.eA OB.nz KJ Hl)))))))))))))
variable (qV:qU P w K mg base "parts" 1 1 Md)
include gq qV in
theorem a5V(D':Uo (cP K a) d):Uo (Om P w K mg base a) (eB+2) (pv dG):=yM (N:=["self","found","part"]) D' λX r h=>by
 cases r
 exact (dq (h.set 1 (qP bu)) (dq (SH h.own h.calm (h.Dx (n:=1) qV (h.v 0) (hj:=by omega)) (h.tg 2) (cL (h.ext 1 (h.Dx (n:=1) gq (h.v 2) (hj:=by omega))))) (cL (h.D1 1))))
variable (B4:Uo (Om P w K mg base ae) (eB+2) (pv dG))
include lQ in
theorem a5B(D':Uk (cP K a) d):Uk (Om P w K mg base a) (eB+1) (MD dG):=yM (N:=["self"]) D' λX r h=>by
 cases r
 exact (cL (eK (qP (au (yz (h.v 0) lQ) bu))))
variable (Ur:Uk (Om P w K mg base be) (eB+1) (MD dG))
include OB B4 Ur in
theorem a6O:qU P w K mg base "all_names" 1 (eB+2) (a41 dG):=(eI OB.cV OB.fg B4 (eI OB.cU OB.ff B4 (eI OB.cC OB.eU B4 (eI OB.cA OB.eQ B4 (eI OB.bS OB.eh B4 (eI OB.cH OB.eS Ur (eI OB.ej OB.fR B4 (eI OB.bz OB.dU B4 (eI OB.bR OB.d9 B4 (eI OB.cQ OB.e9 B4 (eI OB.cj OB.eW B4 (eI OB.cB OB.eR B4 (eI OB.eA OB.fV B4 Hl (hj:=by omega)) (hj:=by omega)) (hj:=by omega)) (hj:=by omega)) (hj:=by omega)) (hj:=by omega)) (hj:=by omega)) (hj:=by omega)) (hj:=by omega)) (hj:=by omega)) (hj:=by omega)) (hj:=by omega)) (hj:=by omega))
variable (gp:qU P w K mg base "all_names" 1 13 (nV 6))
include z_set z_sorted gp in
theorem a72(D':Y' (cP K a) d):Y' (Om P w K mg base a) 14 AU:=yM (N:=["self"]) D' λX r h=>by
 cases r
 exact (cL (eK (b70 h.calm h.g z_sorted h.g z_set (h.Dx (n:=1) gp (h.v 0)))))
variable (Bj:Y' (Om P w K mg base aj) 14 AU)
include OB Bj in
theorem a9G:qU P w K mg base "names" 1 14 KG:=(eI OB.cV OB.lC Bj (eI OB.cU OB.lA Bj (eI OB.cC OB.jk Bj (eI OB.cA OB.jd Bj (eI OB.bS OB.gS Bj (eI OB.cH OB.jh Bj (eI OB.ej OB.ny Bj (eI OB.bz OB.fX Bj (eI OB.bR OB.gQ Bj (eI OB.cQ OB.lx Bj (eI OB.cj OB.jm Bj (eI OB.cB OB.jf Bj (eI OB.eA OB.nA Bj Hl)))))))))))))
variable (fI:qU P w K mg base "names" 1 14 KG)
include fI in
theorem a6L(D':Zl (Def K mg) a d):Zl (Oz P w K mg base) 15 Qv:=jI (N:=["rules","name","reached","waiting","other"]) D' λX r h=>by
 cases r
 exact (dq (h.set 2 b7X) (dq (h.set 3 (h.Dx (n:=1) fI (h.MX (h.v 0) (h.v 1)))) (dq (b0u a4D h.own (b6E (h.bv 3)) (dq (h.pop 4 3) (cL (me (h.MS 2 (h.v 4)) (dq (h.UH 2 c0I (h.v 4)) (cL (h.ext 3 (h.Dx (n:=1) fI (h.MX (h.v 0) (h.v 4)))))) nK)))) (cL (h.D1 2)))))
variable (T9:Zl (Oz P w K mg base) 15 Qv)
include fI T9 in
theorem a7l(D':Zu (Def K mg) a d):Zu (Oz P w K mg base) 16 KI:=jI (N:=["rules","rule","name"]) D' λX r h=>by
 cases r
 exact (dq (Yj h.own h.calm (N4 (h.v 0)) (h.tg 1) (cL (SH h.own h.calm (h.Dx (n:=1) fI (h.v 1)) (h.tg 2) (cL (me (h.MU (h.v 2) (h.v 0)) (cL Qj) nK))))) (cL (Yj h.own h.calm (N5 (h.v 0)) (h.tg 2) (cL (me (h.UE (h.v 2) (h.cl T9 (au (h.v 0) (au (h.v 2) bu)))) (cL Qj) nK)))))
variable (Ug:Zu (Oz P w K mg base) 16 KI)
include z_all z_LETTERS z_OWN_WORDS z_len z_MOST_LETTERS in
theorem b1n(D':YE (Def K mg) a d):YE (Oz P w K mg base) 1 Qs:=jI (N:=["text"]) D' λX r h=>by
 cases r
 exact (dq (me (Ar (Ko (b5O (b33 b9Z b9Z bg (b72 h.g z_len (h.v 0)) (b0X h.g z_MOST_LETTERS))) (LY (jv (NS h.u8) (h.v 0) (b4W (ys:=["each","from","to","flat","bands","steps","blocks","at","times","plus","or","max","only","after","roomy","fee"]) h.g z_OWN_WORDS) (by with_unfolding_all rfl))))) (cL (eK c0I)) nK) (cL (eK (c0K h.g z_all h.calm (BZ (CB (N':=["sign"]) (caps:=[]) (nt:=1) h ⟨rfl,by decide +kernel,by decide +kernel,by decide +kernel,by decide +kernel,rfl,rfl,by decide +kernel⟩ (b7A (h.v 0)) (λX1 jr jq jo fq jn h1=>⟨(h1.tg 0),B1,(SI b90 (h1.v 0) (Yq h1.g (XH fq z_LETTERS)) (by with_unfolding_all rfl))⟩)))))))
variable (Ti:YE (Oz P w K mg base) 1 Qs)
include z_len z_set Ti in
theorem a7m(D':Zt (Def K mg) a d):Zt (Oz P w K mg base) 2 KH:=jI (N:=["names","name"]) D' λX r h=>by
 cases r
 exact (dq (SH h.own h.calm (h.v 0) (h.tg 1) (cL (me (b5O (b9l (h.cl Ti (au (h.v 1) bu)))) (cL Qj) nK))) (cL (me (jv XE (b3s h.calm h.g z_len h.g z_set (h.v 0)) (FK h.g z_len (h.bv 0))) (cL Qj) nK)))
variable (Ue:Zt (Oz P w K mg base) 2 KH)
include z_MOST_OFFERS in
theorem a70(D':Zb (Def K mg) a d):Zb (Oz P w K mg base) 1 Mw:=jI (N:=["many"]) D' λX r h=>by
 cases r
 exact (cL (me (jv P6 (h.v 0) (b0X h.g z_MOST_OFFERS)) (cL Qj) nK))
variable (TC:Zb (Oz P w K mg base) 1 Mw)
include OB z_len z_dict Ug Ue TC in
theorem b1r(D':a7i (cP K b7) d):pz P w K mg base "Book" 1 FP 17 IB:=SJ (N:=["self","offers","pairs"]) OB.dQ OB.JX OB.IZ D' λX r h=>by
 cases r
 exact (XA (b6X (i:=2) (N':=["name","rule"]) (caps:=[]) (nt:=2) h ⟨rfl,by decide +kernel,by decide +kernel,by decide +kernel,by decide +kernel,rfl,rfl,by decide +kernel⟩ (FN (h.v 1)) (λX1 jr jq jo fq jn h1=>⟨(Kx (n:=2) h1.calm (CC (h1.tg 0) (CC (h1.tg 1) Ky))),B1,(B0 (au (h1.v 0) (au (h1.v 1) bu)))⟩)) (XA (b2i (h.cl TC (au (FK h.g z_len (h.bv 2)) bu))) (XA (b2i (h.cl Ue (au (CB (N':=["name","rule"]) (caps:=[]) (nt:=2) h ⟨rfl,by decide +kernel,by decide +kernel,by decide +kernel,by decide +kernel,rfl,rfl,by decide +kernel⟩ (FN (h.v 2)) (λX1 jr jq jo fq jn h1=>⟨(Kx (n:=2) h1.calm (CC (h1.tg 0) (CC (h1.tg 1) Ky))),B1,(h1.v 0)⟩)) bu))) (h.K6 OB.dQ.c OB.iQ (h.v 2) (h.K6 OB.dQ.c OB.eN (b4X h.calm h.g z_dict (h.v 2)) (h.iwc Ug OB.dQ.c OB.eN SM))))))
variable (lP:pz P w K mg base "Book" 1 FP 17 IB)
include Tt lP in
theorem a9C(D':YY (Def K mg) a d):YY (Oz P w K mg base) 26 Mg:=jI (N:=["offers"]) D' λX r h=>by
 cases r
 exact (cL (eK (h.BH lP (au (CB (N':=["offer"]) (caps:=[]) (nt:=1) h ⟨rfl,by decide +kernel,by decide +kernel,by decide +kernel,by decide +kernel,rfl,rfl,by decide +kernel⟩ (FN (h.v 0)) (λX1 jr jq jo fq jn h1=>⟨(h1.tg 0),B1,(B0 (au (ei (h1.bv 0) bg) (au (h1.cl (EH jr jq jo fq jn Tt) (au (ei (h1.bv 0) bg) bu)) bu)))⟩)) bu))))
variable (Tq:YY (Oz P w K mg base) 26 Mg)
include z_len in
theorem b2y(D':Yz (Def K mg) a d):Yz (Oz P w K mg base) 1 CD:=jI (N:=["script","k"]) D' λX r h=>by
 cases r
 exact (dq (me (jv XE (h.v 1) (FK h.g z_len (h.bv 0))) (cL (eK (ei (h.bv 0) (h.v 1)))) nK) (cL (eK bg)))
variable (B3:Yz (Oz P w K mg base) 1 CD)
theorem b1m(D':YF (Def K mg) a d):YF (Oz P w K mg base) 1 mh:=jI (N:=["cell","k","size","odd","big"]) D' λX r h=>by
 cases r
 exact (dq (h.eL 3 (cf eD bg (cf CA (cf CA bg (h.v 1)) (h.v 1)))) (dq (h.eL 4 (cf eD (cf CA (cf eD (cf B2 (h.v 0) (cf Hn bg bg)) bg) (h.v 3)) (cf CA bg (h.v 1)))) (cL (eK (cf B2 (cf LW (cf B2 (cf CA (h.v 4) (h.v 4)) (cf eD (cf Hn bg bg) bg)) bg) (h.v 2))))))
variable (lY:YF (Oz P w K mg base) 1 mh)
include lY in
theorem a8E(D':YS (Def K mg) a d):YS (Oz P w K mg base) 2 IE:=jI (N:=["cell","k","most"]) D' λX r h=>by
 cases r
 exact (dq (h.eL 2 (ei (BZ (qP (au bg (au (cf Hn bg bg) (au (cf Hn bg bg) bu))))) (h.cl lY (au (h.v 0) (au (cf eD (h.v 1) bg) (au bg bu)))))) (cL (eK (cf b55 (h.cl lY (au (h.v 0) (au (h.v 1) (au (cf eD (cf CA bg (h.v 2)) bg) bu)))) (h.v 2)))))
variable (FR:YS (Oz P w K mg base) 2 IE)
include lY FR in
theorem a7X(D':Zd (Def K mg) a d):Zd (Oz P w K mg base) 3 Mz:=jI (N:=["one","kind","cell","scale","low"]) D' λX r h=>by
 cases r
 exact (dq (me (jv (mn h.u8) (h.v 1) cu) (dq (h.eL 4 (cf CA (h.cl lY (au (h.v 2) (au bg (au (h.v 3) bu)))) (h.cl lY (au (h.v 2) (au bg (au bg bu)))))) (cL (eK (B0 (au (h.v 1) (au (h.v 0) (au (h.v 4) (au (cf eD (h.v 4) (h.cl lY (au (h.v 2) (au bg (au (cf CA bg (h.v 3)) bu))))) bu)))))))) nK) (dq (me (jv (mn h.u8) (h.v 1) cu) (cL (eK (B0 (au (h.v 1) (au (h.v 0) (au (h.cl lY (au (h.v 2) (au bg (au (h.v 3) bu)))) bu)))))) nK) (cL (eK (B0 (au cu (au (h.v 0) (au (h.cl FR (au (h.v 2) (au bg bu))) bu))))))))
variable (TH:Zd (Oz P w K mg base) 3 Mz)
include z_range lY FR in
theorem a9B(D':YZ (Def K mg) a d):YZ (Oz P w K mg base) 3 Mh:=jI (N:=["cell","scale","rows","top","j"]) D' λX r h=>by
 cases r
 exact (dq (h.set 2 (qP bu)) (dq (h.eL 3 (cf LW (cf CA (h.cl lY (au (h.v 0) (au bg (au (h.v 1) bu)))) (h.cl lY (au (h.v 0) (au bg (au bg bu))))) bg)) (dq (b0v h.own h.calm h.g z_range (au (cf eD bg (h.cl lY (au (h.v 0) (au bg (au bg bu))))) bu) (h.tg 4) (dq (h.app 2 (B0 (au (h.v 3) (au (h.cl FR (au (h.v 0) (au (cf eD bg (h.v 4)) bu))) bu)))) (cL (h.eL 3 (cf eD (cf eD (h.v 3) bg) (h.cl lY (au (h.v 0) (au (cf eD bg (h.v 4)) (au (h.v 1) bu))))))))) (cL (h.D1 2)))))
variable (Ts:YZ (Oz P w K mg base) 3 Mh)
include z_len z_int lY FR Ts in
theorem a9D(D':YX (Def K mg) a d):YX (Oz P w K mg base) 4 Mf:=jI (N:=["cell","scale","names","kind","price","low","high"]) D' λX r h=>by
 cases r
 exact (dq (h.eL 3 (ei (BZ (qP (au cu (au cu (au cu (au cu (au cu (au cu (au cu bu))))))))) (h.cl lY (au (h.v 0) (au bg (au bg bu)))))) (dq (h.eL 4 (h.cl FR (au (h.v 0) (au bg bu)))) (dq (h.eL 5 (cf CA (h.cl lY (au (h.v 0) (au bg (au (h.v 1) bu)))) (h.cl lY (au (h.v 0) (au bg (au bg bu)))))) (dq (h.eL 6 (cf eD (h.v 5) (cf CA (h.cl lY (au (h.v 0) (au bg (au (h.v 1) bu)))) (h.cl lY (au (h.v 0) (au bg (au bg bu))))))) (dq (me (Ar (Ko (jv (mn h.u8) (h.v 3) cu) (LY (jv (mn h.u8) (h.v 3) cu)))) (cL (eK (B0 (au (h.v 3) (au (h.cl Ts (au (h.v 0) (au (h.v 1) bu))) bu))))) nK) (dq (me (jv (mn h.u8) (h.v 3) cu) (cL (eK (B0 (au (h.v 3) (au (cf eD bg (h.cl lY (au (h.v 0) (au bg (au (h.v 1) bu))))) (au (h.v 4) (au (cf eD bg (h.cl lY (au (h.v 0) (au bg (au bg bu))))) bu))))))) nK) (dq (me (Ar (b5M (jv (mn h.u8) (h.v 3) cu) (b1V (jv P6 (FK h.g z_len (h.bv 2)) bg)))) (cL (eK (B0 (au (h.v 3) (au (ei (h.bv 2) (h.cl lY (au (h.v 0) (au bg (au (FK h.g z_len (h.bv 2)) bu))))) bu))))) nK) (cL (eK (B0 (au (ei (BZ (qP (au cu (au cu bu)))) (b74 h.g z_int (SI (b9Y h.u8) (h.v 3) cu))) (au (h.v 4) (au (h.v 5) (au (h.v 6) bu))))))))))))))
variable (Tp:YX (Oz P w K mg base) 4 Mf)
include z_len lY TH Tp in
theorem a9y(D':Y0 (Def K mg) a d):Y0 (Oz P w K mg base) 5 Mi:=jI (N:=["numbers","scale","names","stack","cell","kind","other"]) D' λX r h=>by
 cases r
 exact (dq (h.set 3 (qP bu)) (dq (SH h.own h.calm (h.v 0) (h.tg 4) (dq (h.eL 5 (h.cl lY (au (h.v 4) (au bg (au bg bu))))) (cL (me (Ar (b5M (jv P6 (h.v 5) bg) (b1V (jv P6 (FK h.g z_len (h.bv 3)) bg)))) (cL (h.P9 3 (h.clP TH (h.aph 3 (au (ei (BZ (qP (au cu (au cu (au cu bu))))) (cf b55 (h.v 5) bg)) (au (h.v 4) (au (h.v 1) bu))))))) (cL (h.app 3 (h.cl Tp (au (h.v 4) (au (h.v 1) (au (h.v 2) bu)))))))))) (dq (b0u a6U h.own (jv P6 (FK h.g z_len (h.bv 3)) bg) (dq (h.pop 6 3) (cL (h.P9 3 (c0L (b8l (ei (BZ (qP (au cu (au cu (au cu (au cu bu)))))) (h.cl lY (au (ei (h.bv 0) bg) (au bg (au bg bu))))) (h.aph 3 (au (h.v 6) bu)))))))) (cL (eK (ei (h.bv 3) bg))))))
variable (Tv:Y0 (Oz P w K mg base) 5 Mi)
include z_len z_range B3 in
theorem a7Y(D':Zc (Def K mg) a d):Zc (Oz P w K mg base) 2 Mx:=jI (N:=["script","first","most","numbers","k","kept"]) D' λX r h=>by
 cases r
 exact (dq (h.set 3 (qP (au (h.cl B3 (au (h.v 0) (au (h.v 1) bu))) bu))) (dq (Yj h.own h.calm (b4F h.g z_range (au (cf eD (h.v 1) bg) (au (FK h.g z_len (h.bv 0)) bu))) (h.tg 4) (cL (me (jv XE (FK h.g z_len (h.bv 3)) (h.v 2)) (cL (h.app 3 (cf B2 (ei (h.bv 0) (h.v 4)) (cf Hn bg bg)))) (dq (h.eL 5 (cf eD (cf CA (ei (h.bv 3) (cf B2 (h.v 4) (h.v 2))) bg) (cf B2 (ei (h.bv 0) (h.v 4)) (cf Hn bg bg)))) (cL (h.item 3 (cf B2 (h.v 5) (cf Hn bg bg)) (cf B2 (h.v 4) (h.v 2)))))))) (cL (h.D1 3))))
variable (TF:Zc (Oz P w K mg base) 2 Mx)
include z_range lY in
theorem a8D(D':YT (Def K mg) a d):YT (Oz P w K mg base) 2 Qr:=jI (N:=["cell","size","letters","head","tail"]) D' λX r h=>by
 cases r
 exact (dq (h.eL 2 cu) (dq (h.eL 3 (LU cu (BZ (CB (N':=["j","cell"]) (caps:=[0]) (nt:=1) h ⟨rfl,by decide +kernel,by decide +kernel,by decide +kernel,by decide +kernel,rfl,rfl,by decide +kernel⟩ (S7 h.g z_range (au (h.cl lY (au (h.v 0) (au bg (au bg bu)))) bu)) (λX1 jr jq jo fq jn h1=>⟨(h1.tg 0),B1,(XQ cu (h1.cl (EH jr jq jo fq jn lY) (au (h1.v 1) (au (h1.v 0) (au bg bu)))))⟩))))) (dq (h.eL 4 (LU cu (BZ (CB (N':=["j","cell"]) (caps:=[0]) (nt:=1) h ⟨rfl,by decide +kernel,by decide +kernel,by decide +kernel,by decide +kernel,rfl,rfl,by decide +kernel⟩ (S7 h.g z_range (au (h.cl lY (au (h.v 0) (au bg (au bg bu)))) bu)) (λX1 jr jq jo fq jn h1=>⟨(h1.tg 0),B1,(XQ cu (h1.cl (EH jr jq jo fq jn lY) (au (h1.v 1) (au (cf eD (h1.v 0) bg) (au bg bu)))))⟩))))) (cL (eK (CB (N':=["k","head","letters","cell","tail"]) (caps:=[3,2,0,4]) (nt:=1) h ⟨rfl,by decide +kernel,by decide +kernel,by decide +kernel,by decide +kernel,rfl,rfl,by decide +kernel⟩ (S7 h.g z_range (au (h.v 1) bu)) (λX1 jr jq jo fq jn h1=>⟨(h1.tg 0),B1,(cf eD (cf eD (h1.v 1) (XQ (h1.v 2) (cf B2 (cf eD (h1.cl (EH jr jq jo fq jn lY) (au (h1.v 3) (au bg (au bg bu)))) (cf CA bg (h1.v 0))) bg))) (h1.v 4))⟩)))))))
variable (TJ:YT (Oz P w K mg base) 2 Qr)
include z_len z_range B3 Tv TF TJ in
theorem a9E(D':YW (Def K mg) a d):YW (Oz P w K mg base) 6 IH:=jI (N:=["script","scale","size","names","numbers","offers","k","own"]) D' λX r h=>by
 cases r
 exact (dq (h.eL 1 (ei (BZ (qP (au bg (au (cf Hn bg bg) (au (cf Hn bg bg) bu))))) (cf B2 (h.cl B3 (au (h.v 0) (au bg bu))) bg))) (dq (h.eL 2 (cf eD bg (cf B2 (cf LW (h.cl B3 (au (h.v 0) (au bg bu))) bg) bg))) (dq (h.eL 3 (h.cl TJ (au (h.cl B3 (au (h.v 0) (au bg bu))) (au (h.v 2) bu)))) (dq (h.eL 4 (h.cl TF (au (h.v 0) (au bg (au (cf CA bg (h.v 2)) bu))))) (dq (h.set 5 (qP bu)) (dq (b0v h.own h.calm h.g z_range (au (h.v 2) bu) (h.tg 6) (dq (h.eL 7 (cf eD (CB (N':=["j","numbers","size","k"]) (caps:=[4,2,6]) (nt:=1) h ⟨rfl,by decide +kernel,by decide +kernel,by decide +kernel,by decide +kernel,rfl,rfl,by decide +kernel⟩ (S7 h.g z_range (au (FK h.g z_len (h.bv 4)) bu)) (λX1 jr jq jo fq jn h1=>⟨(h1.tg 0),(c0w (jv (mn h1.u8) (cf B2 (h1.v 0) (h1.v 2)) (h1.v 3))),(ei (h1.bv 1) (h1.v 0))⟩)) (qP (au (cf eD (h.cl B3 (au (h.v 0) (au bg bu))) (h.v 6)) bu)))) (cL (h.app 5 (B0 (au (ei (h.bv 3) (h.v 6)) (au (h.cl Tv (au (b0W (h.bv 7) b2p (b2o bg)) (au (h.v 1) (au (b0W (h.bv 3) b2p (b2o (h.v 6))) bu)))) bu))))))) (dq (me (jv (mn h.u8) (cf B2 (cf LW (h.cl B3 (au (h.v 0) (au bg bu))) bg) bg) bg) (cL (h.rev 5)) nK) (cL (h.D1 5)))))))))
variable (To:YW (Oz P w K mg base) 6 IH)
include z_str z_isinstance Tu Qp lP Tq B3 To in
theorem b9W(D':MZ (Def K mg) a d):dh P w K mg base pB 27 a d ["script"] (Bs K 1 SW):=OR (N:=["script","offers","found","due"]) D' λX r h=>by
 cases r
 exact (dq (me (jv (mn h.u8) (cf B2 (cf LW (h.cl B3 (au (h.v 0) (au bg bu))) bg) bg) bg) (cL (eK (SI (mn h.u8) (h.cl Qp (au (h.BH lP (au (qP bu) bu)) bu)) cu))) nK) (dq (h.eL 1 (h.cl To (au (h.v 0) bu))) (dq (me (jv (mn h.u8) (cf B2 (cf LW (h.cl B3 (au (h.v 0) (au bg bu))) bg) bg) bg) (cL (b6O (i:=1) false (N':=["offer"]) (caps:=[]) (nt:=1) h ⟨rfl,by decide +kernel,by decide +kernel,by decide +kernel,by decide +kernel,rfl,rfl,by decide +kernel⟩ (FN (h.v 1)) (λX1 jr jq jo fq jn h1=>⟨(h1.tg 0),B1,(B0 (au (ei (h1.bv 0) bg) (au (B0 (au cu (au (ei (h1.bv 0) bg) bu))) bu)))⟩))) nK) (dq (h.eL 2 (h.cl Qp (au (h.cl Tq (au (h.v 1) bu)) bu))) (dq (h.eL 3 (LU cu (BZ (CB (N':=["name","plan"]) (caps:=[]) (nt:=2) h ⟨rfl,by decide +kernel,by decide +kernel,by decide +kernel,by decide +kernel,rfl,rfl,by decide +kernel⟩ (FN (h.v 1)) (λX1 jr jq jo fq jn h1=>⟨(Kx (n:=2) h1.calm (CC (h1.tg 0) (CC (h1.tg 1) Ky))),B1,(cf eD (cf eD (cf eD cu (h1.v 0)) cu) (h1.cl (EH jr jq jo fq jn Tu) (au (h1.v 1) bu)))⟩))))) (cL (eK (c0J (c0H (cO (cO (dY rfl))) h.g z_isinstance h.g z_str (by decide +kernel) (h.v 2)) (c0G (SI (mn h.u8) (h.v 2) (h.v 3)))))))))))
end
theorem all_mk{l:Xb}{w:World}{K:aX}{h:Heap}{mg:Str->Option Value}{fa:Addr}(X:K.In h)(G:h.Ns mainGlobals mg)(Fv:mg "law" = some (.ref fa))
  (i1:FI K "_law_text" a6D f1 od1 an1 sl1 oc1 kV1 dc1 pm1 cd1 ct1)
  (i2:FI K "worded" a8t f2 od2 an2 Ng oc2 kV2 dc2 pm2 cd2 ct2)
  (i3:FI K "show_book" a6b f3 od3 an3 sl3 oc3 kV3 dc3 pm3 cd3 ct3)
  (i4:FI K "_law_rule" a6E f4 od4 an4 sl4 oc4 kV4 dc4 pm4 cd4 ct4)
  (i5:FI K "reached_from" a4n f5 od5 an5 sl5 oc5 kV5 dc5 pm5 cd5 ct5)
  (i6:FI K "check_needs" a42 f6 od6 an6 sl6 oc6 kV6 dc6 pm6 cd6 ct6)
  (i7:FI K "is_name" a7v f7 od7 an7 sl7 oc7 kV7 dc7 pm7 cd7 ct7)
  (i8:FI K "check_names" a43 f8 od8 an8 sl8 oc8 kV8 dc8 pm8 cd8 ct8)
  (i9:FI K "check_many" a5p f9 od9 an9 sl9 oc9 kV9 dc9 pm9 cd9 ct9)
  (i10:FI K "_law_made" a6G f10 od10 an10 sl10 oc10 kV10 dc10 pm10 cd10 ct10)
  (i11:FI K "_law_at" a8u f11 od11 an11 sl11 oc11 kV11 dc11 pm11 cd11 ct11)
  (i12:FI K "_law_mix" a7u f12 od12 an12 sl12 oc12 kV12 dc12 pm12 cd12 ct12)
  (i13:FI K "_law_price" a6d f13 od13 an13 sl13 oc13 kV13 dc13 pm13 cd13 ct13)
  (i14:FI K "_law_turned" a5n f14 od14 an14 sl14 oc14 kV14 dc14 pm14 cd14 ct14)
  (i15:FI K "_law_rows" a6F f15 od15 an15 sl15 oc15 kV15 dc15 pm15 cd15 ct15)
  (i16:FI K "_law_leaf" a6H f16 od16 an16 sl16 oc16 kV16 dc16 pm16 cd16 ct16)
  (i17:FI K "_law_tree" a6C f17 od17 an17 sl17 oc17 kV17 dc17 pm17 cd17 ct17)
  (i18:FI K "_law_folded" a5o f18 od18 an18 sl18 oc18 kV18 dc18 pm18 cd18 ct18)
  (i19:FI K "_law_words" a6c f19 od19 an19 sl19 oc19 kV19 dc19 pm19 cd19 ct19)
  (i20:FI K "_law_book" a6I f20 od20 an20 sl20 oc20 kV20 dc20 pm20 cd20 ct20)
  (i21:FI K "law" Qa f21 od21 Yb sl21 oc21 Vw Wu Vd Wz Ww)
  (Uy:lK K mainGlobals "str" = some none)
  (UC:lK K mainGlobals "all" = some none)
  (DS:∃t,lK K mainGlobals "LETTERS" = some (some (.str "abcdefghijklmnopqrstuvwxyz" t)))
  {tW tV tU tT tS tR tQ tP tO tN pU pT pS pR pP pO:Tok}{tM:Addr}{Av:Option Addr}{As:Array (Option Value)}{Au:Nat}(Bn:lK K mainGlobals "OWN_WORDS" = some (some (.ref tM)))(Bq:K.lookup tM=some ⟨.type "tuple",Av,.seq #[.str "each" tW,.str "from" tV,.str "to" tU,.str "flat" tT,.str "bands" tS,.str "steps" tR,.str "blocks" tQ,.str "at" tP,.str "times" tO,.str "plus" tN,.str "or" pU,.str "max" pT,.str "only" pS,.str "after" pR,.str "roomy" pP,.str "fee" pO] Au,As⟩)
  (UA:lK K mainGlobals "len" = some none)
  (yP:∃t,lK K mainGlobals "MOST_LETTERS" = some (some (.int 8 t)))
  (zR:∃t,lK K mainGlobals "MOST_OFFERS" = some (some (.int 30 t)))
  (Uz:lK K mainGlobals "set" = some none)
  (Bp:∃t,lK K mainGlobals "BEGINNING" = some (some (.str "offer " t)))
  (zS:∃t,lK K mainGlobals "BEHIND_NAME" = some (some (.str ": " t)))
  (IQ:lK K mainGlobals "range" = some none)
  (UB:lK K mainGlobals "int" = some none)
  (MK:lK K mainGlobals "list" = some none)
  (Aq:lK K mainGlobals "isinstance" = some none)
  (FW:lK K mainGlobals "sorted" = some none)
  (ML:lK K mainGlobals "dict" = some none)
  {aT aS aG aE az aH bx ah ar aL aC aF bo bc cy bO bN aM bF bC br bE aq bU bf bq ak bM bG bD bW aN bH aQ ae be aj aw cc bQ bX aR bP bI bj bY bZ b7:Addr}
  (Fe:lK K mainGlobals "Each" = some (some (.ref aT)))
  (Fd:lK K mainGlobals "Flat" = some (some (.ref aS)))
  (Cw:lK K mainGlobals "Bands" = some (some (.ref aG)))
  (Ct:lK K mainGlobals "Steps" = some (some (.ref aE)))
  (AQ:lK K mainGlobals "Blocks" = some (some (.ref az)))
  (Cv:lK K mainGlobals "Named" = some (some (.ref aH)))
  (Io:lK K mainGlobals "Sum" = some (some (.ref bx)))
  (zM:lK K mainGlobals "Cheaper" = some (some (.ref ah)))
  (AO:lK K mainGlobals "Dearer" = some (some (.ref ar)))
  (Fc:lK K mainGlobals "Only" = some (some (.ref aL)))
  (Cy:lK K mainGlobals "After" = some (some (.ref aC)))
  (Cu:lK K mainGlobals "Roomy" = some (some (.ref aF)))
  (Ip:lK K mainGlobals "Fee" = some (some (.ref bo)))
  (Ff:lK K mainGlobals "Book" = some (some (.ref bc)))
  (E':lK K mainGlobals "Single" = some (some (.ref cy)))
  (GD:Al K aT yK=true)
  (Gz:AJ K aT=true)
  (Gv:Bf K aT=true)
  (Gq:aA K (.ref aT) "__setattr__" = some (some (.builtin "object.__setattr__")))
  (Gk:Bd K aT=true)
  (Gg:aA K (.ref aT) "__init__" = some (some (.ref bZ)))
  (Gb:vY K (.ref aT)=true)
  (kM:aA K (.ref aT) "rules" = some none)
  (ij:aA K (.ref aT) "high" = some none)
  (kP:aA K (.ref aT) "low" = some none)
  (ig:aA K (.ref aT) "unit" = some none)
  (kN:aA K (.ref aT) "price" = some none)
  (mV:aA K (.ref aT) "rows" = some none)
  (mX:aA K (.ref aT) "many" = some none)
  (mU:aA K (.ref aT) "size" = some none)
  (mW:aA K (.ref aT) "name" = some none)
  (kO:aA K (.ref aT) "other" = some none)
  (oU:aA K (.ref aT) "one" = some none)
  (kQ:aA K (.ref aT) "count" = some none)
  (gO:aA K (.ref aT) "written" = some (some (.ref bO)))
  (lB:aA K (.ref aT) "parts" = some (some (.ref aN)))
  (fg:aA K (.ref aT) "all_names" = some (some (.ref ae)))
  (lC:aA K (.ref aT) "names" = some (some (.ref aj)))
  (GC:Al K aS yK=true)
  (Gy:AJ K aS=true)
  (Gu:Bf K aS=true)
  (Gp:aA K (.ref aS) "__setattr__" = some (some (.builtin "object.__setattr__")))
  (Gj:Bd K aS=true)
  (Gf:aA K (.ref aS) "__init__" = some (some (.ref bY)))
  (Ga:vY K (.ref aS)=true)
  (kH:aA K (.ref aS) "rules" = some none)
  (ic:aA K (.ref aS) "high" = some none)
  (kK:aA K (.ref aS) "low" = some none)
  (mM:aA K (.ref aS) "unit" = some none)
  (gj:aA K (.ref aS) "price" = some none)
  (mO:aA K (.ref aS) "rows" = some none)
  (mQ:aA K (.ref aS) "many" = some none)
  (mN:aA K (.ref aS) "size" = some none)
  (mP:aA K (.ref aS) "name" = some none)
  (kJ:aA K (.ref aS) "other" = some none)
  (oM:aA K (.ref aS) "one" = some none)
  (kL:aA K (.ref aS) "count" = some none)
  (gM:aA K (.ref aS) "written" = some (some (.ref bN)))
  (lz:aA K (.ref aS) "parts" = some (some (.ref aN)))
  (ff:aA K (.ref aS) "all_names" = some (some (.ref ae)))
  (lA:aA K (.ref aS) "names" = some (some (.ref aj)))
  (EE:Al K aG yK=true)
  (Ez:AJ K aG=true)
  (Et:Bf K aG=true)
  (Em:aA K (.ref aG) "__setattr__" = some (some (.builtin "object.__setattr__")))
  (Eg:Bd K aG=true)
  (Eb:aA K (.ref aG) "__init__" = some (some (.ref bj)))
  (D6:vY K (.ref aG)=true)
  (iV:aA K (.ref aG) "rules" = some none)
  (k9:aA K (.ref aG) "high" = some none)
  (ng:aA K (.ref aG) "low" = some none)
  (kY:aA K (.ref aG) "unit" = some none)
  (iW:aA K (.ref aG) "price" = some none)
  (gm:aA K (.ref aG) "rows" = some none)
  (k8:aA K (.ref aG) "many" = some none)
  (kZ:aA K (.ref aG) "size" = some none)
  (k7:aA K (.ref aG) "name" = some none)
  (iX:aA K (.ref aG) "other" = some none)
  (m9:aA K (.ref aG) "one" = some none)
  (iY:aA K (.ref aG) "count" = some none)
  (dC:aA K (.ref aG) "written_rows" = some (some (.ref aM)))
  (fY:aA K (.ref aG) "written" = some (some (.ref bF)))
  (jj:aA K (.ref aG) "parts" = some (some (.ref aN)))
  (eU:aA K (.ref aG) "all_names" = some (some (.ref ae)))
  (jk:aA K (.ref aG) "names" = some (some (.ref aj)))
  (EB:Al K aE yK=true)
  (Ew:AJ K aE=true)
  (Ep:Bf K aE=true)
  (Ei:aA K (.ref aE) "__setattr__" = some (some (.builtin "object.__setattr__")))
  (Ed:Bd K aE=true)
  (D8:aA K (.ref aE) "__init__" = some (some (.ref bj)))
  (D3:vY K (.ref aE)=true)
  (ir:aA K (.ref aE) "rules" = some none)
  (j6:aA K (.ref aE) "high" = some none)
  (mD:aA K (.ref aE) "low" = some none)
  (jX:aA K (.ref aE) "unit" = some none)
  (iw:aA K (.ref aE) "price" = some none)
  (gg:aA K (.ref aE) "rows" = some none)
  (j0:aA K (.ref aE) "many" = some none)
  (jY:aA K (.ref aE) "size" = some none)
  (jZ:aA K (.ref aE) "name" = some none)
  (iy:aA K (.ref aE) "other" = some none)
  (mC:aA K (.ref aE) "one" = some none)
  (iA:aA K (.ref aE) "count" = some none)
  (dA:aA K (.ref aE) "written_rows" = some (some (.ref aM)))
  (fS:aA K (.ref aE) "written" = some (some (.ref bC)))
  (jc:aA K (.ref aE) "parts" = some (some (.ref aN)))
  (eQ:aA K (.ref aE) "all_names" = some (some (.ref ae)))
  (jd:aA K (.ref aE) "names" = some (some (.ref aj)))
  (C2:Al K az yK=true)
  (CZ:AJ K az=true)
  (CW:Bf K az=true)
  (CU:aA K (.ref az) "__setattr__" = some (some (.builtin "object.__setattr__")))
  (CQ:Bd K az=true)
  (CO:aA K (.ref az) "__init__" = some (some (.ref bI)))
  (CM:vY K (.ref az)=true)
  (gG:aA K (.ref az) "rules" = some none)
  (iU:aA K (.ref az) "high" = some none)
  (kX:aA K (.ref az) "low" = some none)
  (iR:aA K (.ref az) "unit" = some none)
  (eO:aA K (.ref az) "price" = some none)
  (iS:aA K (.ref az) "rows" = some none)
  (fC:aA K (.ref az) "many" = some none)
  (fB:aA K (.ref az) "size" = some none)
  (iT:aA K (.ref az) "name" = some none)
  (gH:aA K (.ref az) "other" = some none)
  (kW:aA K (.ref az) "one" = some none)
  (gJ:aA K (.ref az) "count" = some none)
  (fm:aA K (.ref az) "written" = some (some (.ref br)))
  (gR:aA K (.ref az) "parts" = some (some (.ref aN)))
  (eh:aA K (.ref az) "all_names" = some (some (.ref ae)))
  (gS:aA K (.ref az) "names" = some (some (.ref aj)))
  (ED:Al K aH yK=true)
  (Ey:AJ K aH=true)
  (Es:Bf K aH=true)
  (Ek:aA K (.ref aH) "__setattr__" = some (some (.builtin "object.__setattr__")))
  (Ef:Bd K aH=true)
  (Ea:aA K (.ref aH) "__init__" = some (some (.ref bP)))
  (D5:vY K (.ref aH)=true)
  (iF:aA K (.ref aH) "rules" = some none)
  (kG:aA K (.ref aH) "high" = some none)
  (mL:aA K (.ref aH) "low" = some none)
  (kC:aA K (.ref aH) "unit" = some none)
  (iG:aA K (.ref aH) "price" = some none)
  (kE:aA K (.ref aH) "rows" = some none)
  (kF:aA K (.ref aH) "many" = some none)
  (kD:aA K (.ref aH) "size" = some none)
  (gh:aA K (.ref aH) "name" = some none)
  (iH:aA K (.ref aH) "other" = some none)
  (mK:aA K (.ref aH) "one" = some none)
  (iI:aA K (.ref aH) "count" = some none)
  (fU:aA K (.ref aH) "written" = some (some (.ref bE)))
  (jg:aA K (.ref aH) "parts" = some (some (.ref aN)))
  (eS:aA K (.ref aH) "all_names" = some (some (.ref be)))
  (jh:aA K (.ref aH) "names" = some (some (.ref aj)))
  (Ju:Al K bx yK=true)
  (Js:AJ K bx=true)
  (Jq:Bf K bx=true)
  (Jo:aA K (.ref bx) "__setattr__" = some (some (.builtin "object.__setattr__")))
  (Jm:Bd K bx=true)
  (Jk:aA K (.ref bx) "__init__" = some (some (.ref aR)))
  (Ji:vY K (.ref bx)=true)
  (my:aA K (.ref bx) "rules" = some none)
  (oK:aA K (.ref bx) "high" = some none)
  (rZ:aA K (.ref bx) "low" = some none)
  (oF:aA K (.ref bx) "unit" = some none)
  (mz:aA K (.ref bx) "price" = some none)
  (oH:aA K (.ref bx) "rows" = some none)
  (oJ:aA K (.ref bx) "many" = some none)
  (oG:aA K (.ref bx) "size" = some none)
  (oI:aA K (.ref bx) "name" = some none)
  (h7:aA K (.ref bx) "other" = some none)
  (nM:aA K (.ref bx) "one" = some none)
  (mB:aA K (.ref bx) "count" = some none)
  (dj:aA K (.ref bx) "written_between" = some (some (.ref aq)))
  (jb:aA K (.ref bx) "written" = some (some (.ref bU)))
  (nv:aA K (.ref bx) "parts" = some (some (.ref bH)))
  (fR:aA K (.ref bx) "all_names" = some (some (.ref ae)))
  (ny:aA K (.ref bx) "names" = some (some (.ref aj)))
  (BE:Al K ah yK=true)
  (BD:AJ K ah=true)
  (BC:Bf K ah=true)
  (BB:aA K (.ref ah) "__setattr__" = some (some (.builtin "object.__setattr__")))
  (BA:Bd K ah=true)
  (Bz:aA K (.ref ah) "__init__" = some (some (.ref aR)))
  (By:vY K (.ref ah)=true)
  (fN:aA K (.ref ah) "rules" = some none)
  (gF:aA K (.ref ah) "high" = some none)
  (iP:aA K (.ref ah) "low" = some none)
  (gz:aA K (.ref ah) "unit" = some none)
  (fO:aA K (.ref ah) "price" = some none)
  (gC:aA K (.ref ah) "rows" = some none)
  (gE:aA K (.ref ah) "many" = some none)
  (gA:aA K (.ref ah) "size" = some none)
  (gD:aA K (.ref ah) "name" = some none)
  (d7:aA K (.ref ah) "other" = some none)
  (fA:aA K (.ref ah) "one" = some none)
  (fP:aA K (.ref ah) "count" = some none)
  (cN:aA K (.ref ah) "written_between" = some (some (.ref aq)))
  (eT:aA K (.ref ah) "written" = some (some (.ref bf)))
  (fW:aA K (.ref ah) "parts" = some (some (.ref bH)))
  (dU:aA K (.ref ah) "all_names" = some (some (.ref ae)))
  (fX:aA K (.ref ah) "names" = some (some (.ref aj)))
  (C1:Al K ar yK=true)
  (CY:AJ K ar=true)
  (CV:Bf K ar=true)
  (CT:aA K (.ref ar) "__setattr__" = some (some (.builtin "object.__setattr__")))
  (CP:Bd K ar=true)
  (CN:aA K (.ref ar) "__init__" = some (some (.ref aR)))
  (CL:vY K (.ref ar)=true)
  (gw:aA K (.ref ar) "rules" = some none)
  (iO:aA K (.ref ar) "high" = some none)
  (kR:aA K (.ref ar) "low" = some none)
  (iJ:aA K (.ref ar) "unit" = some none)
  (gx:aA K (.ref ar) "price" = some none)
  (iL:aA K (.ref ar) "rows" = some none)
  (iN:aA K (.ref ar) "many" = some none)
  (iK:aA K (.ref ar) "size" = some none)
  (iM:aA K (.ref ar) "name" = some none)
  (eM:aA K (.ref ar) "other" = some none)
  (gk:aA K (.ref ar) "one" = some none)
  (gy:aA K (.ref ar) "count" = some none)
  (cR:aA K (.ref ar) "written_between" = some (some (.ref aq)))
  (fj:aA K (.ref ar) "written" = some (some (.ref bq)))
  (gP:aA K (.ref ar) "parts" = some (some (.ref bH)))
  (d9:aA K (.ref ar) "all_names" = some (some (.ref ae)))
  (gQ:aA K (.ref ar) "names" = some (some (.ref aj)))
  (GB:Al K aL yK=true)
  (Gx:AJ K aL=true)
  (Gs:Bf K aL=true)
  (Gn:aA K (.ref aL) "__setattr__" = some (some (.builtin "object.__setattr__")))
  (Gi:Bd K aL=true)
  (Ge:aA K (.ref aL) "__init__" = some (some (.ref bX)))
  (F':vY K (.ref aL)=true)
  (kn:aA K (.ref aL) "rules" = some none)
  (ib:aA K (.ref aL) "high" = some none)
  (kA:aA K (.ref aL) "low" = some none)
  (mF:aA K (.ref aL) "unit" = some none)
  (kr:aA K (.ref aL) "price" = some none)
  (mH:aA K (.ref aL) "rows" = some none)
  (mJ:aA K (.ref aL) "many" = some none)
  (mG:aA K (.ref aL) "size" = some none)
  (mI:aA K (.ref aL) "name" = some none)
  (kx:aA K (.ref aL) "other" = some none)
  (kz:aA K (.ref aL) "one" = some none)
  (kB:aA K (.ref aL) "count" = some none)
  (dS:aA K (.ref aL) "written_with" = some (some (.ref ak)))
  (gL:aA K (.ref aL) "written" = some (some (.ref bM)))
  (lr:aA K (.ref aL) "parts" = some (some (.ref aQ)))
  (e9:aA K (.ref aL) "all_names" = some (some (.ref ae)))
  (lx:aA K (.ref aL) "names" = some (some (.ref aj)))
  (EF:Al K aC yK=true)
  (EA:AJ K aC=true)
  (Eu:Bf K aC=true)
  (Eo:aA K (.ref aC) "__setattr__" = some (some (.builtin "object.__setattr__")))
  (Eh:Bd K aC=true)
  (Ec:aA K (.ref aC) "__init__" = some (some (.ref bQ)))
  (D7:vY K (.ref aC)=true)
  (iZ:aA K (.ref aC) "rules" = some none)
  (ll:aA K (.ref aC) "high" = some none)
  (nh:aA K (.ref aC) "low" = some none)
  (la:aA K (.ref aC) "unit" = some none)
  (i0:aA K (.ref aC) "price" = some none)
  (lg:aA K (.ref aC) "rows" = some none)
  (lj:aA K (.ref aC) "many" = some none)
  (lb:aA K (.ref aC) "size" = some none)
  (lh:aA K (.ref aC) "name" = some none)
  (ja:aA K (.ref aC) "other" = some none)
  (ik:aA K (.ref aC) "one" = some none)
  (fD:aA K (.ref aC) "count" = some none)
  (dD:aA K (.ref aC) "written_with" = some (some (.ref ak)))
  (fZ:aA K (.ref aC) "written" = some (some (.ref bG)))
  (jl:aA K (.ref aC) "parts" = some (some (.ref aQ)))
  (eW:aA K (.ref aC) "all_names" = some (some (.ref ae)))
  (jm:aA K (.ref aC) "names" = some (some (.ref aj)))
  (EC:Al K aF yK=true)
  (Ex:AJ K aF=true)
  (Er:Bf K aF=true)
  (Ej:aA K (.ref aF) "__setattr__" = some (some (.builtin "object.__setattr__")))
  (Ee:Bd K aF=true)
  (D9:aA K (.ref aF) "__init__" = some (some (.ref aw)))
  (D4:vY K (.ref aF)=true)
  (iB:aA K (.ref aF) "rules" = some none)
  (km:aA K (.ref aF) "high" = some none)
  (mE:aA K (.ref aF) "low" = some none)
  (j7:aA K (.ref aF) "unit" = some none)
  (iC:aA K (.ref aF) "price" = some none)
  (j9:aA K (.ref aF) "rows" = some none)
  (kf:aA K (.ref aF) "many" = some none)
  (j8:aA K (.ref aF) "size" = some none)
  (j':aA K (.ref aF) "name" = some none)
  (iD:aA K (.ref aF) "other" = some none)
  (ia:aA K (.ref aF) "one" = some none)
  (iE:aA K (.ref aF) "count" = some none)
  (dB:aA K (.ref aF) "written_with" = some (some (.ref ak)))
  (fT:aA K (.ref aF) "written" = some (some (.ref bD)))
  (je:aA K (.ref aF) "parts" = some (some (.ref aQ)))
  (eR:aA K (.ref aF) "all_names" = some (some (.ref ae)))
  (jf:aA K (.ref aF) "names" = some (some (.ref aj)))
  (Jv:Al K bo yK=true)
  (Jt:AJ K bo=true)
  (Jr:Bf K bo=true)
  (Jp:aA K (.ref bo) "__setattr__" = some (some (.builtin "object.__setattr__")))
  (Jn:Bd K bo=true)
  (Jl:aA K (.ref bo) "__init__" = some (some (.ref cc)))
  (Jj:vY K (.ref bo)=true)
  (mR:aA K (.ref bo) "rules" = some none)
  (oS:aA K (.ref bo) "high" = some none)
  (r0:aA K (.ref bo) "low" = some none)
  (oN:aA K (.ref bo) "unit" = some none)
  (ie:aA K (.ref bo) "price" = some none)
  (oP:aA K (.ref bo) "rows" = some none)
  (oR:aA K (.ref bo) "many" = some none)
  (oO:aA K (.ref bo) "size" = some none)
  (oQ:aA K (.ref bo) "name" = some none)
  (mS:aA K (.ref bo) "other" = some none)
  (nN:aA K (.ref bo) "one" = some none)
  (mT:aA K (.ref bo) "count" = some none)
  (d8:aA K (.ref bo) "written_with" = some (some (.ref ak)))
  (ji:aA K (.ref bo) "written" = some (some (.ref bW)))
  (nz:aA K (.ref bo) "parts" = some (some (.ref aQ)))
  (fV:aA K (.ref bo) "all_names" = some (some (.ref ae)))
  (nA:aA K (.ref bo) "names" = some (some (.ref aj)))
  (GG:Al K bc yK=true)
  (GA:AJ K bc=true)
  (Gw:Bf K bc=true)
  (Gr:aA K (.ref bc) "__setattr__" = some (some (.builtin "object.__setattr__")))
  (Gm:Bd K bc=true)
  (Gh:aA K (.ref bc) "__init__" = some (some (.ref b7)))
  (Gc:vY K (.ref bc)=true)
  (eN:aA K (.ref bc) "rules" = some none)
  (m8:aA K (.ref bc) "high" = some none)
  (oW:aA K (.ref bc) "low" = some none)
  (mY:aA K (.ref bc) "unit" = some none)
  (kS:aA K (.ref bc) "price" = some none)
  (m5:aA K (.ref bc) "rows" = some none)
  (m7:aA K (.ref bc) "many" = some none)
  (mZ:aA K (.ref bc) "size" = some none)
  (m6:aA K (.ref bc) "name" = some none)
  (kT:aA K (.ref bc) "other" = some none)
  (oV:aA K (.ref bc) "one" = some none)
  (kU:aA K (.ref bc) "count" = some none)
  (iQ:aA K (.ref bc) "offers" = some none)
  (Di:PD K (.ref cy) "__getattribute__" = some (some (.builtin "type.__getattribute__")))
  (Dh:c6M K cy (.type "type")=true)
  (Dg:c6N K (.ref cy) (.type "type") "__init__" = some (.val (.ref aw)))
  (yc:mm K (.ref bO)=true)
  {uG wb:Option Addr}{uf:Array (Option Value)}{uQ u5 vz uw vT vJ:Value}
  (nu:FM K "written" "Each.written" a4v bO uG wb uf uQ u5 vz uw vT vJ)
  (ya:mm K (.ref bN)=true)
  {uE v9:Option Addr}{ud:Array (Option Value)}{uO uY vw ur vR vH:Value}
  (nr:FM K "written" "Flat.written" a4t bN uE v9 ud uO uY vw ur vR vH)
  (gc:mm K (.ref aM)=true)
  {mw nI:Option Addr}{mo:Array (Option Value)}{mx ni nE mq nG nF:Value}
  (dR:FM K "written_rows" "Rows.written_rows" a2U aM mw nI mo mx ni nE mq nG nF)
  (vh:mm K (.ref bF)=true)
  {rP tG:Option Addr}{rA:Array (Option Value)}{rW sf sM rH tf sU:Value}
  (lV:FM K "written" "Bands.written" a38 bF rP tG rA rW sf sM rH tf sU)
  (vb:mm K (.ref bC)=true)
  {rL tz:Option Addr}{rj:Array (Option Value)}{rS r8 sG rD sX sP:Value}
  (lS:FM K "written" "Steps.written" a34 bC rL tz rj rS r8 sG rD sX sP)
  (sA:mm K (.ref br)=true)
  {p9 qM:Option Addr}{pL:Array (Option Value)}{qe qj qw pY qG qB:Value}
  (jF:FM K "written" "Blocks.written" a3K br p9 qM pL qe qj qw pY qG qB)
  (vf:mm K (.ref bE)=true)
  {rN tE:Option Addr}{rp:Array (Option Value)}{rU sd sJ rF sZ sR:Value}
  (lU:FM K "written" "Named.written" a36 bE rN tE rp rU sd sJ rF sZ sR)
  (cZ:mm K (.ref aq)=true)
  {jA jN:Option Addr}{jy:Array (Option Value)}{jB jC jJ jz jL jK:Value}
  (cD:FM K "written_between" "Pair.written_between" a2p aq jA jN jy jB jC jJ jz jL jK)
  (za:mm K (.ref bU)=true)
  {w8 yu:Option Addr}{wX:Array (Option Value)}{xB xG yh w4 yo yk:Value}
  (og:FM K "written" "Sum.written" a44 bU w8 yu wX xB xG yh w4 yo yk)
  (qq:mm K (.ref bf)=true)
  {oB pk:Option Addr}{oq:Array (Option Value)}{oE oY o4 oz o9 o6:Value}
  (ip:FM K "written" "Cheaper.written" a3o bf oB pk oq oE oY o4 oz o9 o6)
  (sy:mm K (.ref bq)=true)
  {p8 qL:Option Addr}{pK:Array (Option Value)}{qd qi qv pX qF qA:Value}
  (jE:FM K "written" "Dearer.written" a3J bq p8 qL pK qd qi qv pX qF qA)
  (cI:mm K (.ref ak)=true)
  {jV lL:Option Addr}{jT:Array (Option Value)}{jW lq lE jU lG lF:Value}
  (cb:FM K "written_with" "Single.written_with" a2y ak jV lL jT jW lq lE jU lG lF)
  (xY:mm K (.ref bM)=true)
  {uC v7:Option Addr}{ub:Array (Option Value)}{uM uW vq uo vP vF:Value}
  (nk:FM K "written" "Only.written" a4r bM uC v7 ub uM uW vq uo vP vF)
  (vi:mm K (.ref bG)=true)
  {rQ tH:Option Addr}{rB:Array (Option Value)}{rX si sN rJ tm sV:Value}
  (lW:FM K "written" "After.written" a39 bG rQ tH rB rX si sN rJ tm sV)
  (ve:mm K (.ref bD)=true)
  {rM tD:Option Addr}{rm:Array (Option Value)}{rT r9 sH rE sY sQ:Value}
  (lT:FM K "written" "Roomy.written" a35 bD rM tD rm rT r9 sH rE sY sQ)
  (zb:mm K (.ref bW)=true)
  {w9 yv:Option Addr}{wY:Array (Option Value)}{xC xH yi w5 yp ym:Value}
  (oh:FM K "written" "Fee.written" a45 bW w9 yv wY xC xH yi w5 yp ym)
  (dJ:mm K (.ref aN)=true)
  {yX zt:Option Addr}{yQ:Array (Option Value)}{y2 y6 zd yU zj zg:Value}
  (cY:FM K "parts" "Rule.parts" a5q aN yX zt yQ y2 y6 zd yU zj zg)
  (lD:mm K (.ref bH)=true)
  {yZ zv:Option Addr}{yS:Array (Option Value)}{y4 y8 zf yW zl zi:Value}
  (gn:FM K "parts" "Pair.parts" a5s bH yZ zv yS y4 y8 zf yW zl zi)
  (eX:mm K (.ref aQ)=true)
  {uz vZ:Option Addr}{t8:Array (Option Value)}{uJ uT vn uj vM vC:Value}
  (dv:FM K "parts" "Single.parts" a4o aQ uz vZ t8 uJ uT vn uj vM vC)
  (aV:mm K (.ref ae)=true)
  {p7 qK:Option Addr}{pJ:Array (Option Value)}{qc qh qu pW qE qz:Value}
  (aP:FM K "all_names" "Rule.all_names" a3I ae p7 qK pJ qc qh qu pW qE qz)
  (qp:mm K (.ref be)=true)
  {oA pf:Option Addr}{om:Array (Option Value)}{oC oX o3 ou o8 o5:Value}
  (il:FM K "all_names" "Named.all_names" a3n be oA pf om oC oX o3 ou o8 o5)
  (bJ:mm K (.ref aj)=true)
  {yY zu:Option Addr}{yR:Array (Option Value)}{y3 y7 ze yV zk zh:Value}
  (bw:FM K "names" "Rule.names" a5r aj yY zu yR y3 y7 ze yV zk zh)
  (sx:mm K (.ref aw)=true)
  {p6 qJ:Option Addr}{pI:Array (Option Value)}{qb qg qt pV qD qy:Value}
  (cW:FM K "__init__" "Single.__init__" a3H aw p6 qJ pI qb qg qt pV qD qy)
  (zc:mm K (.ref cc)=true)
  {xA yw:Option Addr}{wZ:Array (Option Value)}{xD xI yj w6 yq yn:Value}
  (y9:FM K "__init__" "Fee.__init__" a46 cc xA yw wZ xD xI yj w6 yq yn)
  (vj:mm K (.ref bQ)=true)
  {rR tI:Option Addr}{rC:Array (Option Value)}{rY sj sO rK tq sW:Value}
  (va:FM K "__init__" "After.__init__" a4a bQ rR tI rC rY sj sO rK tq sW)
  (xZ:mm K (.ref bX)=true)
  {uD v8:Option Addr}{uc:Array (Option Value)}{uN uX vt uq vQ vG:Value}
  (xN:FM K "__init__" "Only.__init__" a4s bX uD v8 uc uN uX vt uq vQ vG)
  (gU:mm K (.ref aR)=true)
  {uB v5:Option Addr}{ua:Array (Option Value)}{uL uV vp um vO vE:Value}
  (gK:FM K "__init__" "Pair.__init__" a4q aR uB v5 ua uL uV vp um vO vE)
  (vg:mm K (.ref bP)=true)
  {rO tF:Option Addr}{rq:Array (Option Value)}{rV se sL rG s9 sT:Value}
  (u9:FM K "__init__" "Named.__init__" a37 bP rO tF rq rV se sL rG s9 sT)
  (sC:mm K (.ref bI)=true)
  {qa qN:Option Addr}{pM:Array (Option Value)}{qf qk qx pZ qH qC:Value}
  (sr:FM K "__init__" "Blocks.__init__" a3L bI qa qN pM qf qk qx pZ qH qC)
  (nD:mm K (.ref bj)=true)
  {uA v3:Option Addr}{t9:Array (Option Value)}{uK uU vo uk vN vD:Value}
  (nj:FM K "__init__" "Rows.__init__" a4p bj uA v3 t9 uK uU vo uk vN vD)
  (yb:mm K (.ref bY)=true)
  {uF wa:Option Addr}{ue:Array (Option Value)}{uP uZ vy uu vS vI:Value}
  (xO:FM K "__init__" "Flat.__init__" a4u bY uF wa ue uP uZ vy uu vS vI)
  (yd:mm K (.ref bZ)=true)
  {uH wc:Option Addr}{ug:Array (Option Value)}{uR u6 vA ux vU vK:Value}
  (xP:FM K "__init__" "Each.__init__" a4w bZ uH wc ug uR u6 vA ux vU vK)
  (ye:mm K (.ref b7)=true)
  {uI we:Option Addr}{uh:Array (Option Value)}{uS u7 vB uy vV vL:Value}
  (xQ:FM K "__init__" "Book.__init__" a4x b7 uI we uh uS u7 vB uy vV vL)
  (fin:∀ns:List Int,ns.length<=63->SW [.lst true (ns.map D.int)]=some (.sh (.bl true))):
  ∃fd:FuncData,(∀(s:Shared) (v:Value),BindsTo s fd ⟨[v],[]⟩ [("script",v)])/\∀base:Heap,K.In base->base.Ns mainGlobals mg->dh l.prog w K mg base pB 27 fa fd ["script"] (spT K):=by
 have e:=Fv.symm.trans (yr X G i21.a)
 cases e
 have z_str:=FE X G Uy
 have z_all:=FE X G UC
 have z_LETTERS:HA mg "LETTERS" "abcdefghijklmnopqrstuvwxyz":=DS.imp λ_ q=>yr X G q
 have z_OWN_WORDS:Uv K mg "OWN_WORDS" ["each","from","to","flat","bands","steps","blocks","at","times","plus","or","max","only","after","roomy","fee"]:=c0z (ys:=[("each",tW),("from",tV),("to",tU),("flat",tT),("bands",tS),("steps",tR),("blocks",tQ),("at",tP),("times",tO),("plus",tN),("or",pU),("max",pT),("only",pS),("after",pR),("roomy",pP),("fee",pO)]) (yr X G Bn) Bq rfl rfl (by simp)
 have z_len:=FE X G UA
 have z_MOST_LETTERS:QK mg "MOST_LETTERS" 8:=yP.imp λ_ q=>yr X G q
 have z_MOST_OFFERS:QK mg "MOST_OFFERS" 30:=zR.imp λ_ q=>yr X G q
 have z_set:=FE X G Uz
 have z_BEGINNING:HA mg "BEGINNING" "offer ":=Bp.imp λ_ q=>yr X G q
 have z_BEHIND_NAME:HA mg "BEHIND_NAME" ": ":=zS.imp λ_ q=>yr X G q
 have z_range:=FE X G IQ
 have z_int:=FE X G UB
 have z_list:=FE X G MK
 have z_isinstance:=FE X G Aq
 have z_sorted:=FE X G FW
 have z_dict:=FE X G ML
 have OB:Obs K mg aT aS aG aE az aH bx ah ar aL aC aF bo bc cy bO bN aM bF bC br bE aq bU bf bq ak bM bG bD bW aN bH aQ ae be aj aw cc bQ bX aR bP bI bj bY bZ b7:=⟨⟨Fe,⟨GD,Gz,Gv,Gq⟩⟩,yr X G Fe,⟨Gk,Gg,yd,Gb⟩,kM,ij,kP,ig,kN,mV,mX,mU,mW,kO,oU,kQ,⟨gO,yc,nu.k⟩,⟨lB,dJ,cY.k⟩,⟨fg,aV,aP.k⟩,⟨lC,bJ,bw.k⟩,⟨Fd,⟨GC,Gy,Gu,Gp⟩⟩,yr X G Fd,⟨Gj,Gf,yb,Ga⟩,kH,ic,kK,mM,gj,mO,mQ,mN,mP,kJ,oM,kL,⟨gM,ya,nr.k⟩,⟨lz,dJ,cY.k⟩,⟨ff,aV,aP.k⟩,⟨lA,bJ,bw.k⟩,⟨Cw,⟨EE,Ez,Et,Em⟩⟩,yr X G Cw,⟨Eg,Eb,nD,D6⟩,iV,k9,ng,kY,iW,gm,k8,kZ,k7,iX,m9,iY,⟨dC,gc,dR.k⟩,⟨fY,vh,lV.k⟩,⟨jj,dJ,cY.k⟩,⟨eU,aV,aP.k⟩,⟨jk,bJ,bw.k⟩,⟨Ct,⟨EB,Ew,Ep,Ei⟩⟩,yr X G Ct,⟨Ed,D8,nD,D3⟩,ir,j6,mD,jX,iw,gg,j0,jY,jZ,iy,mC,iA,⟨dA,gc,dR.k⟩,⟨fS,vb,lS.k⟩,⟨jc,dJ,cY.k⟩,⟨eQ,aV,aP.k⟩,⟨jd,bJ,bw.k⟩,⟨AQ,⟨C2,CZ,CW,CU⟩⟩,yr X G AQ,⟨CQ,CO,sC,CM⟩,gG,iU,kX,iR,eO,iS,fC,fB,iT,gH,kW,gJ,⟨fm,sA,jF.k⟩,⟨gR,dJ,cY.k⟩,⟨eh,aV,aP.k⟩,⟨gS,bJ,bw.k⟩,⟨Cv,⟨ED,Ey,Es,Ek⟩⟩,yr X G Cv,⟨Ef,Ea,vg,D5⟩,iF,kG,mL,kC,iG,kE,kF,kD,gh,iH,mK,iI,⟨fU,vf,lU.k⟩,⟨jg,dJ,cY.k⟩,⟨eS,qp,il.k⟩,⟨jh,bJ,bw.k⟩,⟨Io,⟨Ju,Js,Jq,Jo⟩⟩,yr X G Io,⟨Jm,Jk,gU,Ji⟩,my,oK,rZ,oF,mz,oH,oJ,oG,oI,h7,nM,mB,⟨dj,cZ,cD.k⟩,⟨jb,za,og.k⟩,⟨nv,lD,gn.k⟩,⟨fR,aV,aP.k⟩,⟨ny,bJ,bw.k⟩,⟨zM,⟨BE,BD,BC,BB⟩⟩,yr X G zM,⟨BA,Bz,gU,By⟩,fN,gF,iP,gz,fO,gC,gE,gA,gD,d7,fA,fP,⟨cN,cZ,cD.k⟩,⟨eT,qq,ip.k⟩,⟨fW,lD,gn.k⟩,⟨dU,aV,aP.k⟩,⟨fX,bJ,bw.k⟩,⟨AO,⟨C1,CY,CV,CT⟩⟩,yr X G AO,⟨CP,CN,gU,CL⟩,gw,iO,kR,iJ,gx,iL,iN,iK,iM,eM,gk,gy,⟨cR,cZ,cD.k⟩,⟨fj,sy,jE.k⟩,⟨gP,lD,gn.k⟩,⟨d9,aV,aP.k⟩,⟨gQ,bJ,bw.k⟩,⟨Fc,⟨GB,Gx,Gs,Gn⟩⟩,yr X G Fc,⟨Gi,Ge,xZ,F'⟩,kn,ib,kA,mF,kr,mH,mJ,mG,mI,kx,kz,kB,⟨dS,cI,cb.k⟩,⟨gL,xY,nk.k⟩,⟨lr,eX,dv.k⟩,⟨e9,aV,aP.k⟩,⟨lx,bJ,bw.k⟩,⟨Cy,⟨EF,EA,Eu,Eo⟩⟩,yr X G Cy,⟨Eh,Ec,vj,D7⟩,iZ,ll,nh,la,i0,lg,lj,lb,lh,ja,ik,fD,⟨dD,cI,cb.k⟩,⟨fZ,vi,lW.k⟩,⟨jl,eX,dv.k⟩,⟨eW,aV,aP.k⟩,⟨jm,bJ,bw.k⟩,⟨Cu,⟨EC,Ex,Er,Ej⟩⟩,yr X G Cu,⟨Ee,D9,sx,D4⟩,iB,km,mE,j7,iC,j9,kf,j8,j',iD,ia,iE,⟨dB,cI,cb.k⟩,⟨fT,ve,lT.k⟩,⟨je,eX,dv.k⟩,⟨eR,aV,aP.k⟩,⟨jf,bJ,bw.k⟩,⟨Ip,⟨Jv,Jt,Jr,Jp⟩⟩,yr X G Ip,⟨Jn,Jl,zc,Jj⟩,mR,oS,r0,oN,ie,oP,oR,oO,oQ,mS,nN,mT,⟨d8,cI,cb.k⟩,⟨ji,zb,oh.k⟩,⟨nz,eX,dv.k⟩,⟨fV,aV,aP.k⟩,⟨nA,bJ,bw.k⟩,⟨Ff,⟨GG,GA,Gw,Gr⟩⟩,yr X G Ff,⟨Gm,Gh,ye,Gc⟩,eN,m8,oW,mY,kS,m5,m7,mZ,m6,kT,oV,kU,iQ,yr X G E',⟨Di,Dh,Dg,cW.k⟩⟩
 refine ⟨zm "law" "law" (Ab Qa) (pD Qa) (hX Qa) .none Vw Wu Vd Yb Wz Ww,λs v=>.of_eq rfl,λbase _ _=>?_⟩
 have Tu:Ml (Oz l.prog w K mg base) 7 (wH 6):=by
  have ih:∀n,Ml (Oz l.prog w K mg base) (1*n+1) (wH n):=λn=>by
   induction n with
   | zero=>exact b2u (r6 X G i1)
   | succ n eE =>
    rw [show 1*(n+1)+1=1*n+1+1 from by omega]
    exact a9z z_str eE (r6 X G i1)
  exact ih 6
 have q9:=a9N OB
 have wj:=b2x (P:=l.prog) (w:=w) (base:=base) z_str (r6 X G i2)
 have fF:=b1y OB
 have jx:=b2E OB
 have wO:=b1t OB
 have dZ:=a9O OB
 have wR:=b1v OB
 have Qt:=a4Z wj wR (lp dR λ_ _ _ _ _ _ us hu=>by obtain ⟨_,rfl⟩:=yN hu;rfl)
 have cw:=a5D OB Qt
 have wU:=b1x OB
 have wQ:=b1u OB
 have lQ:=b1w OB
 have gY:=a9P OB
 have fw:=b2D OB
 have ra:=a9Q OB
 have lN:qU l.prog w K mg base "written" 1 19 (dX 6):=by
  have ih:∀n,qU l.prog w K mg base "written" 1 (3*n+1) (dX n):=λn=>by
   induction n with
   | zero=>exact Hl
   | succ n dE =>
    rw [show 3*(n+1)+1=3*n+1+3 from by omega]
    have T6:T' (Om l.prog w K mg base bO) (3*n+1+2) (Mm (dX n)):=a6Q wj fF jx wO (lp nu λ_ _ _ _ _ _ us hu=>by obtain ⟨_,rfl⟩:=yN hu;rfl)
    have T7:Ua (Om l.prog w K mg base bN) (3*n+1+2) (Mn (dX n)):=a6P wj fF jx dZ (lp nr λ_ _ _ _ _ _ us hu=>by obtain ⟨_,rfl⟩:=yN hu;rfl)
    have TM:TX (Om l.prog w K mg base bF) (3*n+1+3) (Ms (dX n)):=a6m wj cw (lp lV λ_ _ _ _ _ _ us hu=>by obtain ⟨_,rfl⟩:=yN hu;rfl)
    have TR:T1 (Om l.prog w K mg base bC) (3*n+1+3) (Mv (dX n)):=a6j wj cw (lp lS λ_ _ _ _ _ _ us hu=>by obtain ⟨_,rfl⟩:=yN hu;rfl)
    have T2:Ul (Om l.prog w K mg base br) (3*n+1+2) (MG (dX n)):=a5X wj dZ wU wQ (lp jF λ_ _ _ _ _ _ us hu=>by obtain ⟨_,rfl⟩:=yN hu;rfl)
    have TN:TY (Om l.prog w K mg base bE) (3*n+1+1) (Mt (dX n)):=a6l lQ (lp lU λ_ _ _ _ _ _ us hu=>by obtain ⟨_,rfl⟩:=yN hu;rfl)
    have MF:Ui (Om l.prog w K mg base aq) (3*n+1+2) (FU (dX n)):=a3X dE wj gY fw (lp cD λ_ _ _ _ _ _ us hu=>by obtain ⟨_,_,rfl⟩:=DK hu;rfl)
    have aZ:qU l.prog w K mg base "written_between" 2 (3*n+1+2) (Hu (dX n)):=a4A OB MF
    have Ud:T5 (Om l.prog w K mg base bU) (3*n+1+3) (MB (dX n)):=a7n aZ (lp og λ_ _ _ _ _ _ us hu=>by obtain ⟨_,rfl⟩:=yN hu;rfl)
    have Uq:Uj (Om l.prog w K mg base bf) (3*n+1+3) (MC (dX n)):=a5E aZ (lp ip λ_ _ _ _ _ _ us hu=>by obtain ⟨_,rfl⟩:=yN hu;rfl)
    have T3:Um (Om l.prog w K mg base bq) (3*n+1+3) (MH (dX n)):=a5W aZ (lp jE λ_ _ _ _ _ _ us hu=>by obtain ⟨_,rfl⟩:=yN hu;rfl)
    have KL:Uh (Om l.prog w K mg base ak) (3*n+1+2) (DP (dX n)):=a4e dE wj fw (lp cb λ_ _ _ _ _ _ us hu=>by obtain ⟨_,_,rfl⟩:=DK hu;rfl)
    have aW:qU l.prog w K mg base "written_with" 2 (3*n+1+2) (Fm (dX n)):=a5C OB KL
    have T8:Ub (Om l.prog w K mg base bM) (3*n+1+3) (Mo (dX n)):=a6N fF jx aW (lp nk λ_ _ _ _ _ _ us hu=>by obtain ⟨_,rfl⟩:=yN hu;rfl)
    have TL:TU (Om l.prog w K mg base bG) (3*n+1+3) (Mr (dX n)):=a6n aW ra (lp lW λ_ _ _ _ _ _ us hu=>by obtain ⟨_,rfl⟩:=yN hu;rfl)
    have TQ:TZ (Om l.prog w K mg base bD) (3*n+1+3) (Mu (dX n)):=a6k aW (lp lT λ_ _ _ _ _ _ us hu=>by obtain ⟨_,rfl⟩:=yN hu;rfl)
    have Uc:T4 (Om l.prog w K mg base bW) (3*n+1+3) (MA (dX n)):=a7o dZ aW (lp oh λ_ _ _ _ _ _ us hu=>by obtain ⟨_,rfl⟩:=yN hu;rfl)
    exact a74 OB T6 T7 TM TR T2 TN Ud Uq T3 T8 TL TQ Uc
  exact ih 6
 have Qp:=a8C z_BEGINNING z_BEHIND_NAME q9 lN (r6 X G i3)
 have Aj:=b2C (P:=l.prog) (w:=w) (base:=base) OB (lp cW λ_ _ _ _ _ _ us hu=>by obtain ⟨_,_,rfl⟩:=DK hu;rfl)
 have Ai:=b2B OB Aj (lp y9 λ_ _ _ _ _ _ us hu=>by obtain ⟨_,_,_,rfl⟩:=Kr hu;rfl)
 have qX:=a9I (P:=l.prog) (w:=w) (base:=base) OB (lp cW λ_ _ _ _ _ _ us hu=>by obtain ⟨_,_,rfl⟩:=DK hu;rfl)
 have q8:=a9M (P:=l.prog) (w:=w) (base:=base) OB (lp cW λ_ _ _ _ _ _ us hu=>by obtain ⟨_,_,rfl⟩:=DK hu;rfl)
 have q0:=a9L OB q8 (lp va λ_ _ _ _ _ _ us hu=>by obtain ⟨_,_,_,rfl⟩:=Kr hu;rfl)
 have wN:=b1s (P:=l.prog) (w:=w) (base:=base) OB (lp cW λ_ _ _ _ _ _ us hu=>by obtain ⟨_,_,rfl⟩:=DK hu;rfl)
 have wK:=b1o OB wN (lp xN λ_ _ _ _ _ _ us hu=>by obtain ⟨_,_,_,_,rfl⟩:=P4 hu;rfl)
 have nW:=a8F (P:=l.prog) (w:=w) (base:=base) OB (lp gK λ_ _ _ _ _ _ us hu=>by obtain ⟨_,_,_,rfl⟩:=Kr hu;rfl)
 have lO:=a75 (P:=l.prog) (w:=w) (base:=base) OB (lp gK λ_ _ _ _ _ _ us hu=>by obtain ⟨_,_,_,rfl⟩:=Kr hu;rfl)
 have Ah:=b2A (P:=l.prog) (w:=w) (base:=base) OB (lp gK λ_ _ _ _ _ _ us hu=>by obtain ⟨_,_,_,rfl⟩:=Kr hu;rfl)
 have qY:=a9J (P:=l.prog) (w:=w) (base:=base) OB (lp u9 λ_ _ _ _ _ _ us hu=>by obtain ⟨_,_,rfl⟩:=DK hu;rfl)
 have nX:=a8G (P:=l.prog) (w:=w) (base:=base) OB (lp sr λ_ _ _ _ _ _ us hu=>by obtain ⟨_,_,_,_,rfl⟩:=P4 hu;rfl)
 have qW:=a9H (P:=l.prog) (w:=w) (base:=base) OB (lp nj λ_ _ _ _ _ _ us hu=>by obtain ⟨_,_,rfl⟩:=DK hu;rfl)
 have qZ:=a9K (P:=l.prog) (w:=w) (base:=base) OB (lp nj λ_ _ _ _ _ _ us hu=>by obtain ⟨_,_,rfl⟩:=DK hu;rfl)
 have wL:=b1p (P:=l.prog) (w:=w) (base:=base) OB (lp xO λ_ _ _ _ _ _ us hu=>by obtain ⟨_,_,_,_,rfl⟩:=P4 hu;rfl)
 have wM:=b1q (P:=l.prog) (w:=w) (base:=base) OB (lp xP λ_ _ _ _ _ _ us hu=>by obtain ⟨_,_,_,_,rfl⟩:=P4 hu;rfl)
 have Tt:Mj (Oz l.prog w K mg base) 25 (Ac 6):=by
  have ih:∀n,Mj (Oz l.prog w K mg base) (4*n+1) (Ac n):=λn=>by
   induction n with
   | zero=>exact b2u (r6 X G i4)
   | succ n bT =>
    rw [show 4*(n+1)+1=4*n+1+4 from by omega]
    exact a9A z_list bT Ai qX q0 wK nW lO Ah qY nX qW qZ wL wM (r6 X G i4)
  exact ih 6
 have Hs:=a71 (P:=l.prog) (w:=w) (base:=base) (mg:=mg) (lp cY λ_ _ _ _ _ _ us hu=>by obtain ⟨_,rfl⟩:=yN hu;rfl)
 have Me:=a73 (P:=l.prog) (w:=w) (base:=base) (mg:=mg) gY fw (lp gn λ_ _ _ _ _ _ us hu=>by obtain ⟨_,rfl⟩:=yN hu;rfl)
 have KJ:=a6M (P:=l.prog) (w:=w) (base:=base) (mg:=mg) fw (lp dv λ_ _ _ _ _ _ us hu=>by obtain ⟨_,rfl⟩:=yN hu;rfl)
 have qV:=a9F OB Hs Me KJ
 have gp:qU l.prog w K mg base "all_names" 1 13 (nV 6):=by
  have ih:∀n,qU l.prog w K mg base "all_names" 1 (2*n+1) (nV n):=λn=>by
   induction n with
   | zero=>exact Hl
   | succ n gq =>
    rw [show 2*(n+1)+1=2*n+1+2 from by omega]
    have B4:Uo (Om l.prog w K mg base ae) (2*n+1+2) (pv (nV n)):=a5V gq qV (lp aP λ_ _ _ _ _ _ us hu=>by obtain ⟨_,rfl⟩:=yN hu;rfl)
    have Ur:Uk (Om l.prog w K mg base be) (2*n+1+1) (MD (nV n)):=a5B lQ (lp il λ_ _ _ _ _ _ us hu=>by obtain ⟨_,rfl⟩:=yN hu;rfl)
    exact a6O OB B4 Ur
  exact ih 6
 have Bj:=a72 z_set z_sorted gp (lp bw λ_ _ _ _ _ _ us hu=>by obtain ⟨_,rfl⟩:=yN hu;rfl)
 have fI:=a9G OB Bj
 have T9:=a6L fI (EM X G i5)
 have Ug:=a7l fI T9 (r6 X G i6)
 have Ti:=b1n (P:=l.prog) (w:=w) (base:=base) z_all z_LETTERS z_OWN_WORDS z_len z_MOST_LETTERS (r6 X G i7)
 have Ue:=a7m z_len z_set Ti (r6 X G i8)
 have TC:=a70 (P:=l.prog) (w:=w) (base:=base) z_MOST_OFFERS (r6 X G i9)
 have lP:=b1r OB z_len z_dict Ug Ue TC (lp xQ λ_ _ _ _ _ _ us hu=>by obtain ⟨_,_,rfl⟩:=DK hu;rfl)
 have Tq:=a9C Tt lP (r6 X G i10)
 have B3:=b2y (P:=l.prog) (w:=w) (base:=base) z_len (EM X G i11)
 have lY:=b1m (P:=l.prog) (w:=w) (base:=base) (GJ X G i12)
 have FR:=a8E lY (EM X G i13)
 have TH:=a7X lY FR (Vn X G i14)
 have Ts:=a9B z_range lY FR (EM X G i15)
 have Tp:=a9D z_len z_int lY FR Ts (GJ X G i16)
 have Tv:=a9y z_len lY TH Tp (GJ X G i17)
 have TF:=a7Y z_len z_range B3 (GJ X G i18)
 have TJ:=a8D z_range lY (EM X G i19)
 have To:=a9E z_len z_range B3 Tv TF TJ (r6 X G i20)
 have O_law:=b9W z_str z_isinstance Tu Qp lP Tq B3 To (r6 X G i21)
 exact c0i O_law fin
end My
open PySem L2 DL
def vcNames:String:="a0d Wo_none a0m a1y a27 b2d b2c b2b a2W b8C Wo_bk Wo_ct a06 b8A c08 a2R c1w c0Z b8S b9a b8f Wo_eV Wo_eC a7I c1d b8J b8Q b8H b8L b8P c1i b8M b8I c1g c1h c1j c1k c1l c1f b8O b8K b5w b5t b5v b5s b5u b5r b9b b9d b9c rep0 rep1 rep2 rep3 rep4 b5k b5H Wo_compC b8U b8V b0o b8X b89 b87 b80 b81 b8G c1u b5o b5p b9e b9f c1e b8D b25 b4O b27 b24 b23 b26 b1b c1z b8t b8s b8r b8o b8q b8p b5l b8v c05 b8u b88 c1q b8Z c1t b9g b5K b8W b82 c00 c02 c01 Wo_bV c1v c06 c07 b83 b5E b3W ixQ_i b6w b8j atI_1 atI_2 atI_3 b5G b3Z b5I b5J b84 b3v b77 c1m b8R b0n a9h b8y b8x b5n b5m b35 b36 b37 b34 b1S Wo_gT b5q b3U c1x b08 c1A c0F c1n c1a b7B b8F b8i b8h b8z c1c pQ_i c1b c1p b8Y slQ_t b5g b5h b5i b5j srQ_l b1T b5F b5x b5z Sl_sh Sl_ow b5y List.getElem?_cons_zero List.getElem?_cons_succ List.set_cons_zero List.set_cons_succ List.length_cons List.length_nil a97 b1G a99 a96 a95 a98 a8V b0a a8X a8U a8T a8W a91 b1F a93 a90 a9Z a92 a8Q a94 a8S a8P a8O a8R a8d a8N a8f a8c a8b a8e decide_eq_true_eq decide_eq_false_iff_not Bool.not_eq_true' Bool.not_eq_false' Bool.not_true Bool.not_false true_and and_true forall_const Bool.true_eq_false Bool.false_eq_true false_implies reduceCtorEq implies_true true_implies Int.reduceToNat Nat.reduceAdd Nat.reduceLT Nat.reduceLeDiff Nat.reduceSub Int.reduceLT Int.reduceLE Int.reduceEq Int.cast_ofNat_Int not_true_eq_false not_false_eq_true"
local macro_rules | `(tactic| walk_at "vc")=>do
 let ls ← ((vcNames.splitOn " ") ++ ["a3s","b3Q","b4K","b7D","b4M","b4J","b4I","b4L"]).toArray.mapM fun s=>`(Lean.Parser.Tactic.simpLemma| $(Lean.mkIdent s.toName):ident)
 `(tactic| first | simp only [$ls,*] | dsimp only | skip)
local macro_rules | `(tactic| walk_at "v1")=>do
 let ls ← (vcNames.splitOn " ").toArray.mapM fun s=>`(Lean.Parser.Tactic.simpLemma| $(Lean.mkIdent s.toName):ident)
 `(tactic| first | simp only [$ls,*] | dsimp only | skip)
local macro_rules | `(tactic| walk_at "sc")=>`(tactic| first | omega | (simp only [DivC,PowC,MulC,LIM,R62]; omega) | rfl | decide)
local macro_rules | `(tactic| walk_at "go")=>`(tactic| (walk_at "vc"; repeat' first | apply c5r | intro _); all_goals try (walk_at "sc"))
local macro_rules | `(tactic| walk_at "sp")=>`(tactic| (repeat' first | apply And.intro | intro _); all_goals first | (exfalso; omega) | walk_at "sc" | ((repeat apply Exists.intro); rfl) | skip)
local macro_rules | `(tactic| walk_at "st")=>`(tactic| repeat (refine And.intro ?_ ?_; · first | (simp only [DivC,PowC,MulC,LIM,R62]; omega) | omega))
namespace My
noncomputable abbrev Row:=Int×Int×Int×Int
noncomputable def Row.d(r:Row):D:=.tup [.int r.1,.int r.2.1,.int r.2.2.1,.int r.2.2.2]
noncomputable def Row.at(r:Row)(x:Int):Int:=r.2.2.1+r.2.2.2*(x-r.1)
noncomputable def gX(R:Row->Row->Prop):List Row->Prop
 | a::b::rs=>R a b/\gX R (b::rs)
 | _=>True
theorem gX.snoc{R:Row->Row->Prop}{r:Row}:∀{rs:List Row},gX R rs->(∀a,rs.getLast?=some a->R a r)->gX R (rs++[r])
 | [],_,_=>trivial
 | [a],_,h=>⟨h a rfl,trivial⟩
 | a::b::rs,h,k=>⟨h.1,h.2.snoc (rs:=b::rs) λc hc=>k c (by simpa using hc)⟩
theorem gX.tail{R:Row->Row->Prop}{r:Row}{rs:List Row}(h:gX R (r::rs)):gX R rs:=by
 cases rs with
 | nil=>trivial
 | cons q rs=>exact h.2
def CG(B:Int)(r:Row):Prop:=(-B<=r.1/\r.1<=B)/\(-B<=r.2.1/\r.2.1<=B)/\(-B<=r.2.2.1/\r.2.2.1<=B)/\(-B<=r.2.2.2/\r.2.2.2<=B)
noncomputable def look:List Row->Int->Option Int
 | [],_=>none
 | r::rs,x=>if r.1<=x/\x<=r.2.1 then some (r.at x) else look rs x
def Val(rs:List Row)(x c:Int):Prop:=∃r∈rs,r.1<=x/\x<=r.2.1/\c=r.at x
theorem Val.app{rs qs:List Row}{x c:Int}:Val (rs++qs) x c↔Val rs x c\/Val qs x c:=by
 unfold Val
 constructor
 .rintro ⟨r,hr,h⟩
  rcases zK.mp hr with hr | hr
  .exact .inl ⟨r,hr,h⟩
  .exact .inr ⟨r,hr,h⟩
 .rintro (⟨r,hr,h⟩ | ⟨r,hr,h⟩)
  .exact ⟨r,Hg _ hr,h⟩
  .exact ⟨r,DH _ hr,h⟩
theorem Val.one{r:Row}{x c:Int}:Val [r] x c↔r.1<=x/\x<=r.2.1/\c=r.at x:=by
 unfold Val
 simp
theorem Val.two{r q:Row}{x c:Int}:Val [r,q] x c↔(r.1<=x/\x<=r.2.1/\c=r.at x)\/(q.1<=x/\x<=q.2.1/\c=q.at x):=by
 unfold Val
 simp
theorem gX.append{R:Row->Row->Prop}:∀{rs qs:List Row},gX R rs->gX R qs->(∀a b,rs.getLast?=some a->qs.head?=some b->R a b)->gX R (rs++qs)
 | [],_,_,h,_=>h
 | [a],[],_,_,_=>trivial
 | [a],b::qs,_,h,k=>⟨k a b rfl rfl,h⟩
 | a::b::rs,qs,h,h',k=>⟨h.1,gX.append (rs:=b::rs) h.2 h' λc d hc hd=>k c d (by simpa using hc) hd⟩
theorem gX.get{R:Row->Row->Prop}:∀{rs:List Row},gX R rs->∀(k:Nat) (h:k+1<rs.length),R (rs[k]'(by lia)) rs[k+1]
 | [],_,k,h=>absurd h (by simp)
 | [a],_,k,h=>absurd h (by simp)
 | a::b::rs,h,0,_=>h.1
 | a::b::rs,h,k+1,hk=>gX.get (rs:=b::rs) h.2 k (by simpa using hk)
theorem CG.mono{A B:Int}{r:Row}(h:CG A r)(V6:A<=B):CG B r:=by unfold CG at *;omega
theorem X5{c:En->Option Bool}{F:SF}{env:En}{Q:Fl×En->Prop}(hc:Wo (c env) λb=>b=false)(h:Q (.nx,env)):Wo (gf c F iq env) Q:=by
 rw [a3s]
 exact hc.mono λb hb=>⟨λz=>(by rw [hb] at z;cases z),λ_=>(by rw [b8C];exact h)⟩
noncomputable def Li(m:Nat):List Nat:=(Nat.toDigits 10 m).map Char.toNat
theorem b9k(m:Nat):(Df (toString (m:Int))).cps.toList=Li m:=by
 unfold Li
 rw [c5X]
 unfold Str.ofStringByList
 show (Nat.repr m).toList.map Char.toNat=_
 rw [Nat.toList_repr]
theorem b9j(m:Nat):(Df (toString (-((m+1:Nat):Int)))).cps.toList=45::Li (m+1):=by
 unfold Li
 rw [c5X]
 unfold Str.ofStringByList
 show (("-" ++ Nat.repr (m+1)).toList).map Char.toNat=_
 rw [String.toList_append,Nat.toList_repr]
 rfl
theorem b8E{f:En->Option Sl}{env:En}{y:Str}{Q:Sl->Prop}(e:f env=some (.sh (.str y)))(hz:y.length<=16777216):Wo (LS f env) Q↔Q (.sh (.int y.length)):=by
 unfold LS
 rw [e]
 show Wo (if y.length<=16777216 then some (Sl.sh (.int y.length)) else none) Q↔_
 rw [if_pos hz,a0d]
theorem b8T{f:En->Option Sl}{env:En}{y:Str}{Q:List D->Prop}(e:f env=some (.sh (.str y)))(ha:y.cps.all (·<128)=true):Wo (EX f env) Q↔Q (y.cps.toList.map λc=>.str ⟨#[c]⟩):=by
 unfold EX
 rw [e]
 show Wo (if y.cps.all (·<128)=true then some (DW y) else none) Q↔_
 rw [if_pos ha,a0d]
 rfl
theorem G8(ns:List Int)(k:Int)(hk:0<=k){r:Bool}:CD [.lst r (ns.map D.int),.int k]=some (.sh (.int (ns.getD k.toNat 0))):=by
 refine Wo.eq (Fp.mpr ?_)
 unfold Yn
 walk_at "vc"
 rw [c6]
 refine ⟨λh=>?_,λh=>?_⟩
 .rw [L8 0 hk h]
  walk_at "vc"
 .have:ns.length<=k.toNat:=by lia
  rw [show ns.getD k.toNat 0=0 by simp [this]]
theorem t5(c k s:Int)(hk:0<=k/\k<=1000)(hs:0<s/\s<=10^45):∃m:Int,mh [.int c,.int k,.int s]=some (.sh (.int m))/\0<=m/\m<s:=by
 have key:Wo (mh [.int c,.int k,.int s]) λx=>∃m:Int,x=.sh (.int m)/\0<=m/\m<s:=by
  refine Du.mpr ?_
  unfold Yv
  have a1:=RQ c (show (10^60:Int)≠0 by decide)
  have a2:=RB c (show (0:Int)<10^60 by decide)
  have k1:0<=k*k:=LC hk.1 hk.1
  have k2:k*k<=1000*1000:=LB hk.2 hk.2 hk.1 (by decide)
  have k3:2*k*k=2*(k*k):=Int.mul_assoc ..
  walk_at "vc"
  have o1:0<=271828182845904523536028747135266249775724709369995+2*k*k:=by omega
  have o2:271828182845904523536028747135266249775724709369995+2*k*k<=10^52:=by omega
  generalize 271828182845904523536028747135266249775724709369995+2*k*k=o at *
  generalize c%10^60=u at *
  have p1:0<=(u+1)*o:=LC (by omega) o1
  have p2:(u+1)*o<=10^60*10^52:=LB (by omega) o2 o1 (by decide)
  generalize (u+1)*o=p at *
  generalize (p+7907*k)*(p+7907*k)%(10^60+7)/11=w at *
  exact ⟨.inl (by decide),.inl (by omega),by walk_at "sc",by decide,b2J (by omega) (by omega) (by omega) (by omega),.inl (by decide),b2J (by omega) (by omega) (by omega) (by omega),by walk_at "sc",by decide,b8c (by decide) (by decide),hs.1,_,rfl,RQ _ (by omega),RB _ hs.1⟩
 obtain ⟨x,e,m,rfl,h⟩:=key
 exact ⟨m,e,h⟩
local macro_rules | `(tactic| walk_at "o1")=>do
 let ls ← ((vcNames.splitOn " ") ++ ["b86","b5D","c1r","b85","c1o","b1d","a9i","dpQ_l","b1U","lsQ_l","tgQ_d","tiQ_d","tgQ_f","tiQ_f","Sl_tw"]).toArray.mapM fun s=>`(Lean.Parser.Tactic.simpLemma| $(Lean.mkIdent s.toName):ident)
 `(tactic| first | simp only [$ls,*] | dsimp only | skip)
inductive Tr where
 | each (p lo hi:Int) | flat (p lo hi:Int) | bands (rs:List (Int×Int)) | steps (rs:List (Int×Int)) | blocks (s p m:Int) | name (n:Str)
 | plus (a b:Tr) | or (a b:Tr) | max (a b:Tr) | only (a:Tr) (lo hi:Int) | after (a:Tr) (c:Int) | roomy (a:Tr) | fee (a:Tr) (p:Int)
noncomputable def Pr(q:Int×Int):D:=.tup [.int q.1,.int q.2]
noncomputable def Tr.d:Tr->D
 | .each p lo hi=>.tup [.str "each",.int p,.int lo,.int hi]
 | .flat p lo hi=>.tup [.str "flat",.int p,.int lo,.int hi]
 | .bands rs=>.tup [.str "bands",.lst false (rs.map Pr)]
 | .steps rs=>.tup [.str "steps",.lst false (rs.map Pr)]
 | .blocks s p m=>.tup [.str "blocks",.int s,.int p,.int m]
 | .name n=>.tup [.str "name",.str n]
 | .plus a b=>.tup [.str "plus",a.d,b.d]
 | .or a b=>.tup [.str "or",a.d,b.d]
 | .max a b=>.tup [.str "max",a.d,b.d]
 | .only a lo hi=>.tup [.str "only",a.d,.int lo,.int hi]
 | .after a c=>.tup [.str "after",a.d,.int c]
 | .roomy a=>.tup [.str "roomy",a.d]
 | .fee a p=>.tup [.str "fee",a.d,.int p]
noncomputable def Tr.o:Tr->D
 | .each p lo hi=>.obj "Each" Iy [.int p,.int lo,.int hi]
 | .flat p lo hi=>.obj "Flat" Iz [.int p,.int lo,.int hi]
 | .bands rs=>.obj "Bands" L' [.lst false (rs.map Pr)]
 | .steps rs=>.obj "Steps" Mb [.lst false (rs.map Pr)]
 | .blocks s p m=>.obj "Blocks" IC [.int s,.int p,.int m]
 | .name n=>.obj "Named" Ma [.str n]
 | .plus a b=>.obj "Sum" Ku [a.o,b.o]
 | .or a b=>.obj "Cheaper" KE [a.o,b.o]
 | .max a b=>.obj "Dearer" KA [a.o,b.o]
 | .only a lo hi=>.obj "Only" FO [a.o,.int lo,.int hi]
 | .after a c=>.obj "After" Hr [a.o,.int c]
 | .roomy a=>.obj "Roomy" IA [a.o]
 | .fee a p=>.obj "Fee" Hm [a.o,.int p]
noncomputable def Tr.fG:Tr->Nat
 | .plus a b=>a.fG+b.fG+1
 | .or a b=>a.fG+b.fG+1
 | .max a b=>a.fG+b.fG+1
 | .only a _ _=>a.fG+1
 | .after a _=>a.fG+1
 | .roomy a=>a.fG+1
 | .fee a _=>a.fG+1
 | _=>0
theorem a9p{c:En->Option Bool}{F G:SF}{env:En}{Q:Fl×En->Prop}(h:c env=some false)(g:Wo (G env) Q):Wo (a9 (gf c F iq) G env) Q:=by
 rw [a2W,a3s,h,a0d]
 exact ⟨λz=>(nomatch z),λ_=>by rw [b8C];exact g⟩
theorem b6K{c:En->Option Bool}{f:En->Option Sl}{G:SF}{env:En}{Q:Sl->Prop}(h:c env=some true)(g:Wo (f env) Q):Wo (a9 (gf c (bK f) iq) G env) (cK Q):=by
 rw [a2W,a3s,h,a0d]
 exact ⟨λ_=>by rw [a06];exact g,λz=>(nomatch z)⟩
theorem b7r(a b c:D):S9 [a,b,c]=some [a,b,c]:=by kernel_rfl
theorem b7q(a b c:D):S' [a,b,c]=some [a,b,c]:=by kernel_rfl
theorem b2N(a b c:D):Tw [a,b,c]=some [a,b,c]:=by kernel_rfl
theorem b4y(a:D):Tf [a]=some [a]:=by kernel_rfl
theorem c0a(a b:D):SY [a,b]=some [a,b]:=by kernel_rfl
theorem b1A(a b:D):TK [a,b]=some [a,b]:=by kernel_rfl
theorem b2M(a b:D):Tz [a,b]=some [a,b]:=by kernel_rfl
theorem b7p(a b c:D):Ta [a,b,c]=some [a,b,c]:=by kernel_rfl
theorem b4A(a b:D):Te [a,b]=some [a,b]:=by kernel_rfl
theorem b4x(a:D):Tg [a]=some [a]:=by kernel_rfl
theorem c0b(a b:D):SX [a,b]=some [a,b]:=by kernel_rfl
theorem b2L(rs:List (Int×Int))(hl:rs.length<=9):Wo (jt (gW (eV 1)) [] 2 (gT 2 (lZ (gN 0) (lZ (gN 1) zN))) jO (hU (ai (eV 0) (ai (eV 1) ag))) [.no,.sh (.lst false (rs.map Pr))]) λr=>r=.ow (rs.map Pr):=by
 walk_at "v1"
 refine ⟨by rw [c6];omega,_,DL.comp_map Pr Pr (λe=>e.length=2) rs (λa ha e he=>?_) rfl,rfl⟩
 obtain ⟨y0,y1,rfl⟩:∃y0 y1,e=[y0,y1]:=by
  match e,he with
  | [a,b],_=>exact ⟨a,b,rfl⟩
 unfold Pr
 walk_at "v1"
theorem b2j{f:Str}{fe:En->Option Sl}{r:Sl}{env:En}(h:fe env=some r):dH f fe l7 env [] []=some ([f],[r.d]):=by
 unfold dH
 rw [h]
 rfl
theorem b4z(rs:List (Int×Int))(hl:rs.length<=9):Qm [.lst false (rs.map Pr)]=some [.lst false (rs.map Pr)]:=by
 unfold Qm fL
 rw [show (Sl.no::zy (2-1) [.lst false (rs.map Pr)])=[.no,.sh (.lst false (rs.map Pr))] from rfl,b2j (Wo.eq (b2L rs hl))]
 kernel_rfl
theorem b4w(rs:List (Int×Int))(hl:rs.length<=9):Qn [.lst false (rs.map Pr)]=some [.lst false (rs.map Pr)]:=by
 unfold Qn fL
 rw [show (Sl.no::zy (2-1) [.lst false (rs.map Pr)])=[.no,.sh (.lst false (rs.map Pr))] from rfl,b2j (Wo.eq (b2L rs hl))]
 kernel_rfl
def Sh(n:Int):Prop:=-(10^50)<=n/\n<=10^50
noncomputable def Tr.ok:Tr->Prop
 | .each p lo hi=>Sh p/\Sh lo/\Sh hi
 | .flat p lo hi=>Sh p/\Sh lo/\Sh hi
 | .bands rs=>(rs≠[]/\rs.length<=9)/\∀q∈rs,Sh q.1/\Sh q.2
 | .steps rs=>(rs≠[]/\rs.length<=9)/\∀q∈rs,Sh q.1/\Sh q.2
 | .blocks s p m=>Sh s/\Sh p/\Sh m
 | .name n=>n.length<=100
 | .plus a b=>a.ok/\b.ok
 | .or a b=>a.ok/\b.ok
 | .max a b=>a.ok/\b.ok
 | .only a lo hi=>a.ok/\Sh lo/\Sh hi
 | .after a c=>a.ok/\Sh c
 | .roomy a=>a.ok
 | .fee a p=>a.ok/\Sh p
theorem t6{k:Str}{ds:List D}{G:SF}{r:En}{Q:Fl×En->Prop}(g:Wo (G (.sh (.tup (.str k::ds))::.sh (.str k)::r)) Q):Wo (a9 (hV 1 (cX (bV 0) (eC (.int 0)))) G (.sh (.tup (.str k::ds))::.no::r)) Q:=by
 rw [a2W,a2R,b6w]
 have h0:L2.f' (D.str k::ds) 0=some (.str k):=by simp [L2.f',xM]
 exact ⟨_,rfl,_,rfl,_,h0,by simp,g⟩
local macro_rules | `(tactic| walk_at "sk")=>`(tactic| refine a9p (by kernel_rfl) ?_)
local macro_rules | `(tactic| walk_at "tk")=>`(tactic| refine b6K (by kernel_rfl) ?_)
theorem c0O:∀(t:Tr) (n:Nat),t.fG<n->t.ok->Ac n [t.d]=some (.sh t.o):=by
 intro t
 induction t with
 | each p lo hi =>
  intro n hn hk
  obtain ⟨n,rfl⟩:∃m,n=m+1:=⟨n-1,by omega⟩
  refine Wo.eq ((Dp (kp:=Ac n)).mpr ?_)
  unfold B6 Tr.d
  refine t6 ?_
  walk_at "tk"
  walk_at "o1"
  rw [b7r]
  walk_at "o1"
  rfl
 | flat p lo hi =>
  intro n hn hk
  obtain ⟨n,rfl⟩:∃m,n=m+1:=⟨n-1,by omega⟩
  refine Wo.eq ((Dp (kp:=Ac n)).mpr ?_)
  unfold B6 Tr.d
  refine t6 ?_
  iterate 1 walk_at "sk"
  walk_at "tk"
  walk_at "o1"
  rw [b7q]
  walk_at "o1"
  rfl
 | bands rs =>
  intro n hn hk
  obtain ⟨n,rfl⟩:∃m,n=m+1:=⟨n-1,by omega⟩
  refine Wo.eq ((Dp (kp:=Ac n)).mpr ?_)
  unfold B6 Tr.d
  refine t6 ?_
  iterate 2 walk_at "sk"
  walk_at "tk"
  walk_at "o1"
  rw [b4z rs hk.1.2]
  walk_at "o1"
  rfl
 | steps rs =>
  intro n hn hk
  obtain ⟨n,rfl⟩:∃m,n=m+1:=⟨n-1,by omega⟩
  refine Wo.eq ((Dp (kp:=Ac n)).mpr ?_)
  unfold B6 Tr.d
  refine t6 ?_
  iterate 3 walk_at "sk"
  walk_at "tk"
  walk_at "o1"
  rw [b4w rs hk.1.2]
  walk_at "o1"
  rfl
 | blocks p lo hi =>
  intro n hn hk
  obtain ⟨n,rfl⟩:∃m,n=m+1:=⟨n-1,by omega⟩
  refine Wo.eq ((Dp (kp:=Ac n)).mpr ?_)
  unfold B6 Tr.d
  refine t6 ?_
  iterate 4 walk_at "sk"
  walk_at "tk"
  walk_at "o1"
  rw [b2N]
  walk_at "o1"
  rfl
 | name x =>
  intro n hn hk
  obtain ⟨n,rfl⟩:∃m,n=m+1:=⟨n-1,by omega⟩
  refine Wo.eq ((Dp (kp:=Ac n)).mpr ?_)
  unfold B6 Tr.d
  refine t6 ?_
  iterate 5 walk_at "sk"
  walk_at "tk"
  walk_at "o1"
  rw [b4y]
  walk_at "o1"
  rfl
 | plus a b di oa =>
  intro n hn hk
  obtain ⟨n,rfl⟩:∃m,n=m+1:=⟨n-1,by omega⟩
  simp only [Tr.fG] at hn
  refine Wo.eq ((Dp (kp:=Ac n)).mpr ?_)
  unfold B6 Tr.d
  refine t6 ?_
  iterate 6 walk_at "sk"
  walk_at "tk"
  walk_at "o1"
  have h1:=di n (by omega) hk.1
  have h2:=oa n (by omega) hk.2
  rw [h1]
  walk_at "o1"
  rw [h2]
  walk_at "o1"
  rw [c0a]
  walk_at "o1"
  rfl
 | or a b di oa =>
  intro n hn hk
  obtain ⟨n,rfl⟩:∃m,n=m+1:=⟨n-1,by omega⟩
  simp only [Tr.fG] at hn
  refine Wo.eq ((Dp (kp:=Ac n)).mpr ?_)
  unfold B6 Tr.d
  refine t6 ?_
  iterate 7 walk_at "sk"
  walk_at "tk"
  walk_at "o1"
  have h1:=di n (by omega) hk.1
  have h2:=oa n (by omega) hk.2
  rw [h1]
  walk_at "o1"
  rw [h2]
  walk_at "o1"
  rw [b1A]
  walk_at "o1"
  rfl
 | max a b di oa =>
  intro n hn hk
  obtain ⟨n,rfl⟩:∃m,n=m+1:=⟨n-1,by omega⟩
  simp only [Tr.fG] at hn
  refine Wo.eq ((Dp (kp:=Ac n)).mpr ?_)
  unfold B6 Tr.d
  refine t6 ?_
  iterate 8 walk_at "sk"
  walk_at "tk"
  walk_at "o1"
  have h1:=di n (by omega) hk.1
  have h2:=oa n (by omega) hk.2
  rw [h1]
  walk_at "o1"
  rw [h2]
  walk_at "o1"
  rw [b2M]
  walk_at "o1"
  rfl
 | only a lo hi di =>
  intro n hn hk
  obtain ⟨n,rfl⟩:∃m,n=m+1:=⟨n-1,by omega⟩
  simp only [Tr.fG] at hn
  refine Wo.eq ((Dp (kp:=Ac n)).mpr ?_)
  unfold B6 Tr.d
  refine t6 ?_
  iterate 9 walk_at "sk"
  walk_at "tk"
  walk_at "o1"
  have h1:=di n (by omega) hk.1
  rw [h1]
  walk_at "o1"
  rw [b7p]
  walk_at "o1"
  rfl
 | after a c di =>
  intro n hn hk
  obtain ⟨n,rfl⟩:∃m,n=m+1:=⟨n-1,by omega⟩
  simp only [Tr.fG] at hn
  refine Wo.eq ((Dp (kp:=Ac n)).mpr ?_)
  unfold B6 Tr.d
  refine t6 ?_
  iterate 10 walk_at "sk"
  walk_at "tk"
  walk_at "o1"
  have h1:=di n (by omega) hk.1
  rw [h1]
  walk_at "o1"
  rw [b4A]
  walk_at "o1"
  rfl
 | roomy a di =>
  intro n hn hk
  obtain ⟨n,rfl⟩:∃m,n=m+1:=⟨n-1,by omega⟩
  simp only [Tr.fG] at hn
  refine Wo.eq ((Dp (kp:=Ac n)).mpr ?_)
  unfold B6 Tr.d
  refine t6 ?_
  iterate 11 walk_at "sk"
  walk_at "tk"
  walk_at "o1"
  have h1:=di n (by omega) hk
  rw [h1]
  walk_at "o1"
  rw [b4x]
  walk_at "o1"
  rfl
 | fee a p di =>
  intro n hn hk
  obtain ⟨n,rfl⟩:∃m,n=m+1:=⟨n-1,by omega⟩
  simp only [Tr.fG] at hn
  refine Wo.eq ((Dp (kp:=Ac n)).mpr ?_)
  unfold B6 Tr.d
  refine t6 ?_
  iterate 12 walk_at "sk"
  rw [a06]
  walk_at "o1"
  have h1:=di n (by omega) hk.1
  rw [h1]
  walk_at "o1"
  rw [c0b]
  walk_at "o1"
  rfl
noncomputable def nt(n:Int):Str:=Df (toString n)
noncomputable def lt(s:Str):List Nat:=s.cps.toList
theorem b0K(a b:Str):lt (a++b)=lt a++lt b:=by
 show (a.cps++b.cps).toList=_
 simp [lt]
theorem DN(a:Str):a.length=(lt a).length:=by
 show a.cps.size=_
 simp [lt]
theorem Dm{a b:Str}(h:lt a=lt b):a=b:=by
 obtain ⟨x⟩:=a
 obtain ⟨y⟩:=b
 congr 1
 exact W4.mp h
theorem Ys(sep:Str):∀(r:List Str) (a x:Array Nat),(r.foldl (λacc p=>acc++sep.cps++p.cps) (a++x)).toList=a.toList++(r.foldl (λacc p=>acc++sep.cps++p.cps) x).toList
 | [],a,x=>by simp
 | p::r,a,x=>by
  rw [Lz,Lz,show a++x++sep.cps++p.cps=a++(x++sep.cps++p.cps) by simp [RH]]
  exact Ys sep r a _
theorem c0p(sep a:Str):nJ sep [a]=a:=rfl
theorem b7x(sep a b:Str)(r:List Str):lt (nJ sep (a::b::r))=lt a++(lt sep++lt (nJ sep (b::r))):=by
 have key:∀r:List Str,lt (nJ sep (b::r))=(r.foldl (λacc p=>acc++sep.cps++p.cps) b.cps).toList:=λr=>by
  cases r with
  | nil=>rfl
  | cons c r=>rfl
 rw [key]
 show ((b::r).foldl (λacc p=>acc++sep.cps++p.cps) a.cps).toList=_
 rw [Lz,RH,Ys,Ys]
 rfl
theorem XY(sep:Str):∀(ls:List Str) (a:Nat),ls.foldl (λa x=>a+x.length+sep.length) a=a+AS sep ls
 | [],a=>rfl
 | x::r,a=>by
  unfold AS
  rw [Lz,Lz,XY,XY]
  omega
theorem qQ(sep x:Str)(r:List Str):AS sep (x::r)=x.length+sep.length+AS sep r:=by
 unfold AS
 rw [Lz,XY]
 unfold AS
 omega
theorem zO(sep:Str):∀ls:List Str,(nJ sep ls).length<=AS sep ls
 | []=>WS rfl
 | [a]=>by rw [c0p,qQ];omega
 | a::b::r=>by
  have:=zO sep (b::r)
  rw [DN,b7x,ma,ma,<-DN,<-DN,<-DN,qQ]
  omega
theorem b3B{m k:Nat}(hk:0<k)(h:m<10^k):(Li m).length<=k:=by
 unfold Li
 rw [c6]
 exact (Nat.length_toDigits_le_iff (by decide) hk).mpr h
theorem ju{n:Int}(h:Sh n):(nt n).length<=60:=by
 unfold nt Sh at *
 cases n with
 | ofNat m =>
  rw [show (Int.ofNat m)=(m:Int) from rfl,DN]
  unfold lt
  rw [b9k]
  have h1:=b3B (m:=m) (k:=51) (by decide) (by have:=h.2;rw [show Int.ofNat m=(m:Int) from rfl] at this;omega)
  omega
 | negSucc m =>
  rw [show Int.negSucc m = -((m+1:Nat):Int) from rfl,DN]
  unfold lt
  rw [b9j,lI]
  have h1:=b3B (m:=m+1) (k:=51) (by decide) (by have:=h.1;rw [show Int.negSucc m = -((m+1:Nat):Int) from rfl] at this;omega)
  omega
theorem X0{n:Int}(h:Sh n):n.natAbs.log2<1920:=by
 unfold Sh at h
 by_cases z:n.natAbs=0
 .rw [z];decide
 .have h2:n.natAbs<2^200:=by omega
  have:=(Nat.log2_lt z).mpr h2
  omega
theorem sD{n:Int}(h:Sh n):Br (.int n)=some (nt n):=by
 show (if n.natAbs.log2<1920 then some (Df (toString n)) else none)=_
 rw [if_pos (X0 h)]
 rfl
noncomputable def Rt(q:Int×Int):Str:=nt q.1 ++ ":" ++ nt q.2
noncomputable def Tr.tx:Tr->Str
 | .each p lo hi=>nJ " " ["each",nt p,"from",nt lo,"to",nt hi]
 | .flat p lo hi=>nJ " " ["flat",nt p,"from",nt lo,"to",nt hi]
 | .bands rs=>nJ " " ["bands",nJ " " (rs.map Rt)]
 | .steps rs=>nJ " " ["steps",nJ " " (rs.map Rt)]
 | .blocks s p m=>nJ " " ["blocks",nt s,"at",nt p,"times",nt m]
 | .name n=>n
 | .plus a b=>nJ " " ["(",a.tx,"plus",b.tx,")"]
 | .or a b=>nJ " " ["(",a.tx,"or",b.tx,")"]
 | .max a b=>nJ " " ["(",a.tx,"max",b.tx,")"]
 | .only a lo hi=>nJ " " ["(",a.tx,"only",nt lo,"to",nt hi,")"]
 | .after a c=>nJ " " ["(",a.tx,"after",nt c,")"]
 | .roomy a=>nJ " " ["(",a.tx,"roomy",")"]
 | .fee a p=>nJ " " ["(",a.tx,"fee",nt p,")"]
theorem LL:("each":Str).length<=9/\(" ":Str).length<=9/\("from":Str).length<=9/\("to":Str).length<=9/\(" from ":Str).length<=9/\(" to ":Str).length<=9/\("flat":Str).length<=9/\("bands":Str).length<=9/\("steps":Str).length<=9/\("blocks":Str).length<=9/\("blocks ":Str).length<=9/\("at":Str).length<=9/\(" at ":Str).length<=9/\("times":Str).length<=9/\(" times ":Str).length<=9/\("(":Str).length<=9/\(")":Str).length<=9/\("( ":Str).length<=9/\(" )":Str).length<=9/\("plus":Str).length<=9/\("or":Str).length<=9/\("max":Str).length<=9/\("only":Str).length<=9/\("only ":Str).length<=9/\("after":Str).length<=9/\("fee":Str).length<=9/\("roomy":Str).length<=9/\(":":Str).length<=9:=by decide +kernel
noncomputable def Tr.sz:Tr->Nat
 | .plus a b=>a.sz+b.sz+1
 | .or a b=>a.sz+b.sz+1
 | .max a b=>a.sz+b.sz+1
 | .only a _ _=>a.sz+1
 | .after a _=>a.sz+1
 | .roomy a=>a.sz+1
 | .fee a _=>a.sz+1
 | _=>1
theorem b5S{q:Int×Int}(h:Sh q.1/\Sh q.2):(Rt q).length<=130:=by
 have h1:=ju h.1
 have h2:=ju h.2
 have:=LL
 unfold Rt
 rw [pC,pC]
 omega
theorem Hq:∀{rs:List (Int×Int)},(∀q∈rs,Sh q.1/\Sh q.2)->AS " " (rs.map Rt)<=140*rs.length
 | [],_=>by decide +kernel
 | q::rs,h=>by
  have h1:=Hq (rs:=rs) λq hq=>h q (nT _ hq)
  have h2:=b5S (h q pd)
  have:=LL
  rw [fH,qQ,lI]
  omega
theorem yA:∀t:Tr,t.ok->t.tx.length<=2000*t.sz:=by
 intro t
 have l0:AS " " []=0:=rfl
 induction t with
 | each p lo hi =>
  intro hk
  have:=LL;have:=ju hk.1;have:=ju hk.2.1;have:=ju hk.2.2
  refine tu (zO _ _) ?_
  simp only [qQ,l0,Tr.sz];omega
 | flat p lo hi =>
  intro hk
  have:=LL;have:=ju hk.1;have:=ju hk.2.1;have:=ju hk.2.2
  refine tu (zO _ _) ?_
  simp only [qQ,l0,Tr.sz];omega
 | bands rs =>
  intro hk
  have:=LL;have h1:=Hq hk.2;have h2:=hk.1.2;have h3:=zO " " (rs.map Rt)
  refine tu (zO _ _) ?_
  simp only [qQ,l0,Tr.sz];omega
 | steps rs =>
  intro hk
  have:=LL;have h1:=Hq hk.2;have h2:=hk.1.2;have h3:=zO " " (rs.map Rt)
  refine tu (zO _ _) ?_
  simp only [qQ,l0,Tr.sz];omega
 | blocks p lo hi =>
  intro hk
  have:=LL;have:=ju hk.1;have:=ju hk.2.1;have:=ju hk.2.2
  refine tu (zO _ _) ?_
  simp only [qQ,l0,Tr.sz];omega
 | name n =>
  intro hk
  show n.length<=2000*1
  have:n.length<=100:=hk
  omega
 | plus a b di oa =>
  intro hk
  have:=LL;have:=di hk.1;have:=oa hk.2
  refine tu (zO _ _) ?_
  simp only [qQ,l0,Tr.sz];omega
 | or a b di oa =>
  intro hk
  have:=LL;have:=di hk.1;have:=oa hk.2
  refine tu (zO _ _) ?_
  simp only [qQ,l0,Tr.sz];omega
 | max a b di oa =>
  intro hk
  have:=LL;have:=di hk.1;have:=oa hk.2
  refine tu (zO _ _) ?_
  simp only [qQ,l0,Tr.sz];omega
 | only a lo hi di =>
  intro hk
  have:=LL;have:=di hk.1;have:=ju hk.2.1;have:=ju hk.2.2
  refine tu (zO _ _) ?_
  simp only [qQ,l0,Tr.sz];omega
 | after a c di =>
  intro hk
  have:=LL;have:=di hk.1;have:=ju hk.2
  refine tu (zO _ _) ?_
  simp only [qQ,l0,Tr.sz];omega
 | roomy a di =>
  intro hk
  have:=LL;have:=di hk
  refine tu (zO _ _) ?_
  simp only [qQ,l0,Tr.sz];omega
 | fee a c di =>
  intro hk
  have:=LL;have:=di hk.1;have:=ju hk.2
  refine tu (zO _ _) ?_
  simp only [qQ,l0,Tr.sz];omega
theorem strs_map:∀ts:List Str,Cz (ts.map D.str)=some ts
 | []=>rfl
 | t::ts=>by
  show (Cz (ts.map D.str)).map (t::·)=_
  rw [strs_map ts]
  rfl
theorem PV{fo:En->Option Sl}{fe:En->Option (Bool×List D)}{env:En}{Q:Sl->Prop}{z:Str}{ts:List Str}(h1:fo env=some (.sh (.str z)))(h2:fe env=some (true,ts.map D.str))(hl:AS z ts<=16777216)(hq:Q (.sh (.str (nJ z ts)))):Wo (Ck fo fe env) Q:=by
 rw [c1s,h1,h2]
 refine ⟨z,rfl,_,rfl,rfl,ts,strs_map ts,⟨hl,tu (zO _ _) hl⟩,hq⟩
theorem b3G(ds:List D)(ts:List Str)(h:ds.map Br=ts.map some):tJ (gN 0) jO (Ir (eV 0)) ds [Sl.no]=some (ts.map D.str):=by
 have key:∀(ds:List D) (ts:List Str),ds.map Br=ts.map some->∀x,tJ (gN 0) jO (Ir (eV 0)) ds [x]=some (ts.map D.str):=by
  intro ds
  induction ds with
  | nil =>
   intro ts h x
   cases ts with
   | nil=>rfl
   | cons t ts=>cases h
  | cons d ds ih =>
   intro ts h x
   cases ts with
   | nil=>cases h
   | cons t ts =>
    rw [fH,fH,List.cons.injEq] at h
    refine Wo.eq (Wo_compC.mpr ?_)
    rw [b1S]
    refine ⟨by simp,true,rfl,λ_=>?_,λz=>(nomatch z)⟩
    rw [b1d]
    exact ⟨_,rfl,t,h.1,_,ih ts h.2 _,rfl⟩
 exact key ds ts h _
theorem Ds(ds:List D)(ts:List Str){r:Bool}(h:ds.map Br=ts.map some)(hn:ds.length<=1000)(hl:AS " " ts<=16777216):Dt [.lst r ds]=some (.sh (.str (nJ " " ts))):=by
 refine Wo.eq (Fo.mpr ?_)
 unfold Yo
 rw [a06]
 refine PV (z:=" ") (ts:=ts) rfl ?_ hl rfl
 unfold t4
 rw [show jt (gW (eV 0)) [] 1 (gN 0) jO (Ir (eV 0)) [.sh (.lst r ds)]=some (.ow (ts.map D.str)) from ?_]
 .rfl
 .show (if ds.length<=16777216 then (tJ (gN 0) jO (Ir (eV 0)) ds [Sl.no]).map Sl.ow else none)=_
  rw [if_pos (by omega),b3G ds ts h]
  rfl
theorem sS(y:Str):Br (.str y)=some y:=rfl
theorem b7W(a b c:D):eG dg "unit" (.obj "Each" Iy [a,b,c])=some a:=by kernel_rfl
theorem b7U(a b c:D):eG dg "low" (.obj "Each" Iy [a,b,c])=some b:=by kernel_rfl
theorem b7R(a b c:D):eG dg "high" (.obj "Each" Iy [a,b,c])=some c:=by kernel_rfl
theorem b7V(a b c:D):eG dg "price" (.obj "Flat" Iz [a,b,c])=some a:=by kernel_rfl
theorem b7T(a b c:D):eG dg "low" (.obj "Flat" Iz [a,b,c])=some b:=by kernel_rfl
theorem b7Q(a b c:D):eG dg "high" (.obj "Flat" Iz [a,b,c])=some c:=by kernel_rfl
theorem b3m(a:D):eG dg "rows" (.obj "Bands" L' [a])=some a:=by kernel_rfl
theorem b3k(a:D):eG dg "rows" (.obj "Steps" Mb [a])=some a:=by kernel_rfl
theorem b3q(a b c:D):eG dg "size" (.obj "Blocks" IC [a,b,c])=some a:=by kernel_rfl
theorem b3o(a b c:D):eG dg "price" (.obj "Blocks" IC [a,b,c])=some b:=by kernel_rfl
theorem b3n(a b c:D):eG dg "many" (.obj "Blocks" IC [a,b,c])=some c:=by kernel_rfl
theorem b6j(a:D):eG dg "name" (.obj "Named" Ma [a])=some a:=by kernel_rfl
theorem b6l(a b:D):eG dg "one" (.obj "Sum" Ku [a,b])=some a:=by kernel_rfl
theorem b6k(a b:D):eG dg "other" (.obj "Sum" Ku [a,b])=some b:=by kernel_rfl
theorem a7G(a b:D):eG dg "one" (.obj "Cheaper" KE [a,b])=some a:=by kernel_rfl
theorem a7F(a b:D):eG dg "other" (.obj "Cheaper" KE [a,b])=some b:=by kernel_rfl
theorem a82(a b:D):eG dg "one" (.obj "Dearer" KA [a,b])=some a:=by kernel_rfl
theorem a81(a b:D):eG dg "other" (.obj "Dearer" KA [a,b])=some b:=by kernel_rfl
theorem b3p(a b c:D):eG dg "one" (.obj "Only" FO [a,b,c])=some a:=by kernel_rfl
theorem b7S(a b c:D):eG dg "low" (.obj "Only" FO [a,b,c])=some b:=by kernel_rfl
theorem b7P(a b c:D):eG dg "high" (.obj "Only" FO [a,b,c])=some c:=by kernel_rfl
theorem b0V(a b:D):eG dg "one" (.obj "After" Hr [a,b])=some a:=by kernel_rfl
theorem b4U(a b:D):eG dg "count" (.obj "After" Hr [a,b])=some b:=by kernel_rfl
theorem b3l(a:D):eG dg "one" (.obj "Roomy" IA [a])=some a:=by kernel_rfl
theorem b6m(a b:D):eG dg "one" (.obj "Fee" Hm [a,b])=some a:=by kernel_rfl
theorem c0E(a b:D):eG dg "price" (.obj "Fee" Hm [a,b])=some b:=by kernel_rfl
local macro_rules | `(tactic| walk_at "fl")=>`(tactic| simp only [b7W,b7U,b7R,b7V,b7T,b7Q,b3m,b3k,b3q,b3o,b3n,b6j,b6l,b6k,a7G,a7F,a82,a81,b3p,b7S,b7P,b0V,b4U,b3l,b6m,c0E,a0d,Sl.d])
theorem fvI{f:En->Option Sl}{env:En}{i:Int}(h:f env=some (.sh (.int i)))(hz:Sh i):yg f env=some (.sh (.str (nt i))):=by
 unfold yg
 rw [h]
 show (if i.natAbs.log2<1920 then some (Sl.sh (.str (Df (toString i)))) else none)=_
 rw [if_pos (X0 hz)]
 rfl
theorem b9z{q:Int×Int}(h:Sh q.1/\Sh q.2):Sy (Fi (yg (eV 0)) (Fi (eC (.str ":")) (Fi (yg (eV 1)) GN))) [.sh (.int q.1),.sh (.int q.2)]=some (.sh (.str (Rt q))):=by
 have h1:yg (eV 0) [.sh (.int q.1),.sh (.int q.2)]=some (.sh (.str (nt q.1))):=fvI rfl h.1
 have h2:yg (eV 1) [.sh (.int q.1),.sh (.int q.2)]=some (.sh (.str (nt q.2))):=fvI rfl h.2
 have e:Fi (yg (eV 0)) (Fi (eC (.str ":")) (Fi (yg (eV 1)) GN)) [.sh (.int q.1),.sh (.int q.2)]=some (Rt q):=by
  unfold Fi
  rw [h1,h2]
  show some (nt q.1++(":" ++ (nt q.2++yK)))=_
  rw [show nt q.1++(":" ++ (nt q.2++yK))=Rt q from Dm (by unfold Rt;simp only [b0K,show lt yK=[] from rfl,E4,Ly])]
 unfold Sy
 rw [e]
 show (if (Rt q).length<=16777216 then some (Sl.sh (.str (Rt q))) else none)=_
 rw [if_pos (by have:=b5S h;omega)]
theorem b3w(rs:List (Int×Int))(hr:rs.length<=9/\∀q∈rs,Sh q.1/\Sh q.2)(o:D)(hf:eG dg "rows" o=some (.lst false (rs.map Pr))):II [o]=some (.sh (.str (nJ " " (rs.map Rt)))):=by
 refine Wo.eq (n9.mpr ?_)
 unfold ZE
 rw [a06]
 walk_at "o1"
 rw [hf]
 walk_at "o1"
 refine ⟨by rw [c6];omega,_,DL.comp_map Pr (λq=>.str (Rt q)) (λe=>e.length=2) rs (λa ha e he=>?_) rfl,?_⟩
 .obtain ⟨y0,y1,rfl⟩:∃y0 y1,e=[y0,y1]:=by
   match e,he with
   | [a,b],_=>exact ⟨a,b,rfl⟩
  unfold Pr
  walk_at "v1"
  exact ⟨_,b9z (hr.2 a ha),rfl⟩
 .refine (show Wo (Dt [.lst false (rs.map λq=>.str (Rt q))]) _ from ?_)
  rw [Ds (rs.map λq=>.str (Rt q)) (rs.map Rt) (by rw [Bh,Bh];rfl) (by rw [c6];omega) (by have:=Hq hr.2;omega)]
  walk_at "o1"
theorem b3x:∀(t:Tr) (n:Nat),t.fG<n->t.ok->t.sz<=1000->gr "written" 1 (dX n) t.o []=some (.sh (.str t.tx)):=by
 intro t
 have l0:AS " " []=0:=rfl
 induction t with
 | each p lo hi =>
  intro n hn hk hz
  obtain ⟨n,rfl⟩:∃m,n=m+1:=⟨n-1,by omega⟩
  rw [show gr "written" 1 (dX (n+1)) (Tr.each p lo hi).o []=Mm (dX n) [(Tr.each p lo hi).o] from by kernel_rfl]
  refine Wo.eq (yF.mpr ?_)
  unfold Zv Tr.o
  rw [a06]
  walk_at "o1"
  walk_at "fl"
  walk_at "o1"
  rw [Ds _ ["each",nt p,"from",nt lo,"to",nt hi] (by simp only [fH,Cr,sS,sD hk.1,sD hk.2.1,sD hk.2.2]) (by simp) (by have:=LL;have:=ju hk.1;have:=ju hk.2.1;have:=ju hk.2.2;simp only [qQ,l0];omega)]
  walk_at "o1"
  rfl
 | flat p lo hi =>
  intro n hn hk hz
  obtain ⟨n,rfl⟩:∃m,n=m+1:=⟨n-1,by omega⟩
  rw [show gr "written" 1 (dX (n+1)) (Tr.flat p lo hi).o []=Mn (dX n) [(Tr.flat p lo hi).o] from by kernel_rfl]
  refine Wo.eq (yE.mpr ?_)
  unfold Zw Tr.o
  rw [a06]
  walk_at "o1"
  walk_at "fl"
  walk_at "o1"
  rw [Ds _ ["flat",nt p,"from",nt lo,"to",nt hi] (by simp only [fH,Cr,sS,sD hk.1,sD hk.2.1,sD hk.2.2]) (by simp) (by have:=LL;have:=ju hk.1;have:=ju hk.2.1;have:=ju hk.2.2;simp only [qQ,l0];omega)]
  walk_at "o1"
  rfl
 | blocks p lo hi =>
  intro n hn hk hz
  obtain ⟨n,rfl⟩:∃m,n=m+1:=⟨n-1,by omega⟩
  rw [show gr "written" 1 (dX (n+1)) (Tr.blocks p lo hi).o []=MG (dX n) [(Tr.blocks p lo hi).o] from by kernel_rfl]
  refine Wo.eq (tL.mpr ?_)
  unfold ZG Tr.o
  rw [a06]
  walk_at "o1"
  walk_at "fl"
  walk_at "o1"
  rw [Ds _ ["blocks",nt p,"at",nt lo,"times",nt hi] (by simp only [fH,Cr,sS,sD hk.1,sD hk.2.1,sD hk.2.2]) (by simp) (by have:=LL;have:=ju hk.1;have:=ju hk.2.1;have:=ju hk.2.2;simp only [qQ,l0];omega)]
  walk_at "o1"
  rfl
 | bands rs =>
  intro n hn hk hz
  obtain ⟨n,rfl⟩:∃m,n=m+1:=⟨n-1,by omega⟩
  rw [show gr "written" 1 (dX (n+1)) (Tr.bands rs).o []=Ms (dX n) [(Tr.bands rs).o] from by kernel_rfl]
  refine Wo.eq (wu.mpr ?_)
  unfold Zn
  rw [a06]
  walk_at "o1"
  rw [show gr "written_rows" 1 Mq (Tr.bands rs).o []=II [(Tr.bands rs).o] from by kernel_rfl,b3w rs ⟨hk.1.2,hk.2⟩ _ (by unfold Tr.o;exact b3m _)]
  walk_at "o1"
  rw [Ds _ ["bands",nJ " " (rs.map Rt)] (by simp only [fH,Cr,sS]) (by simp) (by have:=LL;have h1:=Hq hk.2;have h2:=hk.1.2;have h3:=zO " " (rs.map Rt);simp only [qQ,l0];omega)]
  walk_at "o1"
  rfl
 | steps rs =>
  intro n hn hk hz
  obtain ⟨n,rfl⟩:∃m,n=m+1:=⟨n-1,by omega⟩
  rw [show gr "written" 1 (dX (n+1)) (Tr.steps rs).o []=Mv (dX n) [(Tr.steps rs).o] from by kernel_rfl]
  refine Wo.eq (wo.mpr ?_)
  unfold Zq
  rw [a06]
  walk_at "o1"
  rw [show gr "written_rows" 1 Mq (Tr.steps rs).o []=II [(Tr.steps rs).o] from by kernel_rfl,b3w rs ⟨hk.1.2,hk.2⟩ _ (by unfold Tr.o;exact b3k _)]
  walk_at "o1"
  rw [Ds _ ["steps",nJ " " (rs.map Rt)] (by simp only [fH,Cr,sS]) (by simp) (by have:=LL;have h1:=Hq hk.2;have h2:=hk.1.2;have h3:=zO " " (rs.map Rt);simp only [qQ,l0];omega)]
  walk_at "o1"
  rfl
 | name x =>
  intro n hn hk hz
  obtain ⟨n,rfl⟩:∃m,n=m+1:=⟨n-1,by omega⟩
  rw [show gr "written" 1 (dX (n+1)) (Tr.name x).o []=Mt (dX n) [(Tr.name x).o] from by kernel_rfl]
  refine Wo.eq (wt.mpr ?_)
  unfold Zo Tr.o
  rw [a06]
  walk_at "o1"
  walk_at "fl"
  rfl
 | plus a b di oa =>
  intro n hn hk hz
  obtain ⟨n,rfl⟩:∃m,n=m+1:=⟨n-1,by omega⟩
  simp only [Tr.fG] at hn
  simp only [Tr.sz] at hz
  have h1:=di n (by omega) hk.1 (by omega)
  have h2:=oa n (by omega) hk.2 (by omega)
  rw [show gr "written" 1 (dX (n+1)) (Tr.plus a b).o []=MB (dX n) [(Tr.plus a b).o] from by kernel_rfl]
  refine Wo.eq (zC.mpr ?_)
  unfold ZA
  rw [a06]
  walk_at "o1"
  rw [show gr "written_between" 2 (Hu (dX n)) (Tr.plus a b).o [.str "plus"]=FU (dX n) [(Tr.plus a b).o,.str "plus"] from by kernel_rfl]
  refine c7.mpr ?_
  unfold Qy Tr.o
  rw [a06]
  walk_at "o1"
  rw [b6l]
  walk_at "o1"
  rw [h1]
  walk_at "o1"
  rw [b6k]
  walk_at "o1"
  rw [h2]
  walk_at "o1"
  rw [Ds _ ["(",a.tx,"plus",b.tx,")"] (by simp only [fH,Cr,sS]) (by simp) (by have:=LL;have:=yA a hk.1;have:=yA b hk.2;simp only [qQ,l0];omega)]
  walk_at "o1"
  rfl
 | or a b di oa =>
  intro n hn hk hz
  obtain ⟨n,rfl⟩:∃m,n=m+1:=⟨n-1,by omega⟩
  simp only [Tr.fG] at hn
  simp only [Tr.sz] at hz
  have h1:=di n (by omega) hk.1 (by omega)
  have h2:=oa n (by omega) hk.2 (by omega)
  rw [show gr "written" 1 (dX (n+1)) (Tr.or a b).o []=MC (dX n) [(Tr.or a b).o] from by kernel_rfl]
  refine Wo.eq (qS.mpr ?_)
  unfold ZI
  rw [a06]
  walk_at "o1"
  rw [show gr "written_between" 2 (Hu (dX n)) (Tr.or a b).o [.str "or"]=FU (dX n) [(Tr.or a b).o,.str "or"] from by kernel_rfl]
  refine c7.mpr ?_
  unfold Qy Tr.o
  rw [a06]
  walk_at "o1"
  rw [a7G]
  walk_at "o1"
  rw [h1]
  walk_at "o1"
  rw [a7F]
  walk_at "o1"
  rw [h2]
  walk_at "o1"
  rw [Ds _ ["(",a.tx,"or",b.tx,")"] (by simp only [fH,Cr,sS]) (by simp) (by have:=LL;have:=yA a hk.1;have:=yA b hk.2;simp only [qQ,l0];omega)]
  walk_at "o1"
  rfl
 | max a b di oa =>
  intro n hn hk hz
  obtain ⟨n,rfl⟩:∃m,n=m+1:=⟨n-1,by omega⟩
  simp only [Tr.fG] at hn
  simp only [Tr.sz] at hz
  have h1:=di n (by omega) hk.1 (by omega)
  have h2:=oa n (by omega) hk.2 (by omega)
  rw [show gr "written" 1 (dX (n+1)) (Tr.max a b).o []=MH (dX n) [(Tr.max a b).o] from by kernel_rfl]
  refine Wo.eq (tK.mpr ?_)
  unfold ZH
  rw [a06]
  walk_at "o1"
  rw [show gr "written_between" 2 (Hu (dX n)) (Tr.max a b).o [.str "max"]=FU (dX n) [(Tr.max a b).o,.str "max"] from by kernel_rfl]
  refine c7.mpr ?_
  unfold Qy Tr.o
  rw [a06]
  walk_at "o1"
  rw [a82]
  walk_at "o1"
  rw [h1]
  walk_at "o1"
  rw [a81]
  walk_at "o1"
  rw [h2]
  walk_at "o1"
  rw [Ds _ ["(",a.tx,"max",b.tx,")"] (by simp only [fH,Cr,sS]) (by simp) (by have:=LL;have:=yA a hk.1;have:=yA b hk.2;simp only [qQ,l0];omega)]
  walk_at "o1"
  rfl
 | only a lo hi di =>
  intro n hn hk hz
  obtain ⟨n,rfl⟩:∃m,n=m+1:=⟨n-1,by omega⟩
  simp only [Tr.fG] at hn
  simp only [Tr.sz] at hz
  have h1:=di n (by omega) hk.1 (by omega)
  rw [show gr "written" 1 (dX (n+1)) (Tr.only a lo hi).o []=Mo (dX n) [(Tr.only a lo hi).o] from by kernel_rfl]
  refine Wo.eq (yD.mpr ?_)
  unfold Zx
  rw [a06]
  walk_at "o1"
  unfold Tr.o
  try walk_at "fl"
  walk_at "o1"
  rw [show gr "written_with" 2 (Fm (dX n)) (.obj "Only" FO [a.o,.int lo,.int hi]) [.lst false [.str "only",.int lo,.str "to",.int hi]]=DP (dX n) [(.obj "Only" FO [a.o,.int lo,.int hi]),.lst false [.str "only",.int lo,.str "to",.int hi]] from by kernel_rfl]
  refine cJ.mpr ?_
  unfold ME
  rw [a06]
  walk_at "o1"
  rw [b3p]
  walk_at "o1"
  rw [h1]
  walk_at "o1"
  refine ⟨by simp,?_⟩
  rw [Ds _ ["(",a.tx,"only",nt lo,"to",nt hi,")"] (by simp only [fH,Cr,Lw,RA,sS,sD hk.2.1,sD hk.2.2]) (by simp) (by have:=LL;have:=yA a hk.1;have:=ju hk.2.1;have:=ju hk.2.2;simp only [qQ,l0];omega)]
  walk_at "o1"
  rfl
 | after a c di =>
  intro n hn hk hz
  obtain ⟨n,rfl⟩:∃m,n=m+1:=⟨n-1,by omega⟩
  simp only [Tr.fG] at hn
  simp only [Tr.sz] at hz
  have h1:=di n (by omega) hk.1 (by omega)
  rw [show gr "written" 1 (dX (n+1)) (Tr.after a c).o []=Mr (dX n) [(Tr.after a c).o] from by kernel_rfl]
  refine Wo.eq (wx.mpr ?_)
  unfold Zm
  rw [a06]
  walk_at "o1"
  unfold Tr.o
  try walk_at "fl"
  walk_at "o1"
  rw [show gr "written_with" 2 (Fm (dX n)) (.obj "After" Hr [a.o,.int c]) [.lst false [.str "after",.int c]]=DP (dX n) [(.obj "After" Hr [a.o,.int c]),.lst false [.str "after",.int c]] from by kernel_rfl]
  refine cJ.mpr ?_
  unfold ME
  rw [a06]
  walk_at "o1"
  rw [b0V]
  walk_at "o1"
  rw [h1]
  walk_at "o1"
  refine ⟨by simp,?_⟩
  rw [Ds _ ["(",a.tx,"after",nt c,")"] (by simp only [fH,Cr,Lw,RA,sS,sD hk.2]) (by simp) (by have:=LL;have:=yA a hk.1;have:=ju hk.2;simp only [qQ,l0];omega)]
  walk_at "o1"
  rfl
 | roomy a di =>
  intro n hn hk hz
  obtain ⟨n,rfl⟩:∃m,n=m+1:=⟨n-1,by omega⟩
  simp only [Tr.fG] at hn
  simp only [Tr.sz] at hz
  have h1:=di n (by omega) hk (by omega)
  rw [show gr "written" 1 (dX (n+1)) (Tr.roomy a).o []=Mu (dX n) [(Tr.roomy a).o] from by kernel_rfl]
  refine Wo.eq (wq.mpr ?_)
  unfold Zp
  rw [a06]
  walk_at "o1"
  unfold Tr.o
  try walk_at "fl"
  walk_at "o1"
  rw [show gr "written_with" 2 (Fm (dX n)) (.obj "Roomy" IA [a.o]) [.lst false [.str "roomy"]]=DP (dX n) [(.obj "Roomy" IA [a.o]),.lst false [.str "roomy"]] from by kernel_rfl]
  refine cJ.mpr ?_
  unfold ME
  rw [a06]
  walk_at "o1"
  rw [b3l]
  walk_at "o1"
  rw [h1]
  walk_at "o1"
  refine ⟨by simp,?_⟩
  rw [Ds _ ["(",a.tx,"roomy",")"] (by simp only [fH,Cr,Lw,RA,sS,sS]) (by simp) (by have:=LL;have:=yA a hk;skip;simp only [qQ,l0];omega)]
  walk_at "o1"
  rfl
 | fee a p di =>
  intro n hn hk hz
  obtain ⟨n,rfl⟩:∃m,n=m+1:=⟨n-1,by omega⟩
  simp only [Tr.fG] at hn
  simp only [Tr.sz] at hz
  have h1:=di n (by omega) hk.1 (by omega)
  rw [show gr "written" 1 (dX (n+1)) (Tr.fee a p).o []=MA (dX n) [(Tr.fee a p).o] from by kernel_rfl]
  refine Wo.eq (zD.mpr ?_)
  unfold Zz
  rw [a06]
  walk_at "o1"
  unfold Tr.o
  try walk_at "fl"
  walk_at "o1"
  rw [show gr "written_with" 2 (Fm (dX n)) (.obj "Fee" Hm [a.o,.int p]) [.lst false [.str "fee",.int p]]=DP (dX n) [(.obj "Fee" Hm [a.o,.int p]),.lst false [.str "fee",.int p]] from by kernel_rfl]
  refine cJ.mpr ?_
  unfold ME
  rw [a06]
  walk_at "o1"
  rw [b6m]
  walk_at "o1"
  rw [h1]
  walk_at "o1"
  refine ⟨by simp,?_⟩
  rw [Ds _ ["(",a.tx,"fee",nt p,")"] (by simp only [fH,Cr,Lw,RA,sS,sD hk.2]) (by simp) (by have:=LL;have:=yA a hk.1;have:=ju hk.2;simp only [qQ,l0];omega)]
  walk_at "o1"
  rfl
theorem x0_l:lt "each" = [101,97,99,104]:=by decide +kernel
theorem x1_l:lt " " = [32]:=by decide +kernel
theorem x2_l:lt "from" = [102,114,111,109]:=by decide +kernel
theorem x3_l:lt "to" = [116,111]:=by decide +kernel
theorem x4_l:lt " from " = [32,102,114,111,109,32]:=by decide +kernel
theorem x5_l:lt " to " = [32,116,111,32]:=by decide +kernel
theorem x6_l:lt "flat" = [102,108,97,116]:=by decide +kernel
theorem x7_l:lt "bands" = [98,97,110,100,115]:=by decide +kernel
theorem x8_l:lt "steps" = [115,116,101,112,115]:=by decide +kernel
theorem x9_l:lt "blocks" = [98,108,111,99,107,115]:=by decide +kernel
theorem x10_l:lt "blocks " = [98,108,111,99,107,115,32]:=by decide +kernel
theorem x11_l:lt "at" = [97,116]:=by decide +kernel
theorem x12_l:lt " at " = [32,97,116,32]:=by decide +kernel
theorem x13_l:lt "times" = [116,105,109,101,115]:=by decide +kernel
theorem x14_l:lt " times " = [32,116,105,109,101,115,32]:=by decide +kernel
theorem x15_l:lt "(" = [40]:=by decide +kernel
theorem x16_l:lt ")" = [41]:=by decide +kernel
theorem x17_l:lt "( " = [40,32]:=by decide +kernel
theorem x18_l:lt " )" = [32,41]:=by decide +kernel
theorem x19_l:lt "plus" = [112,108,117,115]:=by decide +kernel
theorem x20_l:lt "or" = [111,114]:=by decide +kernel
theorem x21_l:lt "max" = [109,97,120]:=by decide +kernel
theorem x22_l:lt "only" = [111,110,108,121]:=by decide +kernel
theorem x23_l:lt "only " = [111,110,108,121,32]:=by decide +kernel
theorem x24_l:lt "after" = [97,102,116,101,114]:=by decide +kernel
theorem x25_l:lt "fee" = [102,101,101]:=by decide +kernel
theorem x26_l:lt "roomy" = [114,111,111,109,121]:=by decide +kernel
theorem x27_l:lt ":" = [58]:=by decide +kernel
local macro_rules | `(tactic| walk_at "tx")=>`(tactic| simp only [b0K,b7x,c0p,x0_l,x1_l,x2_l,x3_l,x4_l,x5_l,x6_l,x7_l,x8_l,x9_l,x10_l,x11_l,x12_l,x13_l,x14_l,x15_l,x16_l,x17_l,x18_l,x19_l,x20_l,x21_l,x22_l,x23_l,x24_l,x25_l,x26_l,x27_l,List.cons_append,List.nil_append,List.append_assoc])
noncomputable def QT:Sl->Option Str
 | .sh (.int i)=>if i.natAbs.log2<1920 then some (Df (toString i)) else none
 | _=>none
theorem b3Y{f:En->Option Sl}{env:En}{Q:Sl->Prop}:Wo (yL f env) Q↔Wo (f env) λr=>Wo (QT r) λy=>Q (.sh (.str y)):=by
 unfold yL
 rw [a0m]
 refine mf λr=>?_
 cases r with
 | sh d=>cases d<;>simp [QT,Wo_none,Iw,a0d]
 | _=>simp [QT,Wo_none]
theorem sI{n:Int}(h:Sh n):QT (.sh (.int n))=some (nt n):=by
 show (if n.natAbs.log2<1920 then some (Df (toString n)) else none)=_
 rw [if_pos (X0 h)]
 rfl
local macro_rules | `(tactic| walk_at "o2")=>`(tactic| (walk_at "o1"; try simp only [b3Y]; walk_at "o1"))
theorem setC{k:Str}{x y:Sl}{G:SF}{Q:Fl×En->Prop}(g:Wo (G [x,.sh (.str k),.sh (.str k)]) Q):Wo (a9 (hV 2 (eV 1)) G [x,.sh (.str k),y]) Q:=by
 rw [a2W,a2R]
 exact ⟨_,rfl,by simp,g⟩
theorem LO{c:En->Option Bool}{F G:SF}{env:En}{Q:Fl×En->Prop}(h:c env=some true)(g:Wo (F env) (Bu G Q)):Wo (a9 (gf c F iq) G env) Q:=by
 rw [a2W,a3s,h,a0d]
 exact ⟨λ_=>g,λz=>(nomatch z)⟩
theorem nY{f:En->Option Sl}{env:En}{G:SF}{y:Str}{Q:Fl×En->Prop}(h:Wo (f env) λr=>r=.sh (.str y))(hl:2<env.length)(g:Wo (G (env.set 2 (.sh (.str y)))) Q):Wo (hV 2 f env) (Bu G Q):=by
 rw [a2R]
 obtain ⟨r,e,rfl⟩:=h
 exact ⟨_,e,hl,g⟩
theorem b0B{rs:List (Int×Int)}(hr:rs.length<=9/\∀q∈rs,Sh q.1/\Sh q.2){x:Str}{y:Sl}:Ck (eC (.str " ")) (t4 (jt (gW (cX (bV 0) (eC (.int 1)))) [] 1 (gN 0) jO (af aK (af aK (yL (cX (bV 0) (eC (.int 0)))) (eC (.str ":"))) (yL (cX (bV 0) (eC (.int 1))))))) [.sh (.tup [.str x,.lst false (rs.map Pr)]),.sh (.str x),y]=some (.sh (.str (nJ " " (rs.map Rt)))):=by
 have hc:tJ (gN 0) jO (af aK (af aK (yL (cX (bV 0) (eC (.int 0)))) (eC (.str ":"))) (yL (cX (bV 0) (eC (.int 1))))) (rs.map Pr) [Sl.no]=some (rs.map λq=>.str (Rt q)):=by
  refine DL.comp_map Pr (λq=>.str (Rt q)) (λe=>e.length=1) rs (λa ha e he=>?_) rfl
  obtain ⟨y0,rfl⟩:∃y0,e=[y0]:=by
   match e,he with
   | [a],_=>exact ⟨a,rfl⟩
  have hq:=hr.2 a ha
  unfold Pr
  walk_at "o2"
  simp only [sI hq.1,sI hq.2,a0d,pC]
  have:=LL;have:=ju hq.1;have:=ju hq.2
  repeat (refine ⟨by omega,?_⟩)
  rfl
 refine Wo.eq (PV (z:=" ") (ts:=rs.map Rt) rfl ?_ (by have:=Hq hr.2;omega) rfl)
 unfold t4
 rw [show jt (gW (cX (bV 0) (eC (.int 1)))) [] 1 (gN 0) jO (af aK (af aK (yL (cX (bV 0) (eC (.int 0)))) (eC (.str ":"))) (yL (cX (bV 0) (eC (.int 1))))) [.sh (.tup [.str x,.lst false (rs.map Pr)]),.sh (.str x),y]=some (.ow (rs.map λq=>.str (Rt q))) from ?_]
 .rw [Bh];rfl
 .show (if (rs.map Pr).length<=16777216 then (tJ (gN 0) jO (af aK (af aK (yL (cX (bV 0) (eC (.int 0)))) (eC (.str ":"))) (yL (cX (bV 0) (eC (.int 1))))) (rs.map Pr) [Sl.no]).map Sl.ow else none)=_
  rw [if_pos (by rw [c6];omega),hc]
  rfl
theorem c0N:∀(t:Tr) (n:Nat),t.fG<n->t.ok->t.sz<=1000->wH n [t.d]=some (.sh (.str t.tx)):=by
 intro t
 induction t with
 | each p lo hi =>
  intro n hn hk hz
  obtain ⟨n,rfl⟩:∃m,n=m+1:=⟨n-1,by omega⟩
  refine Wo.eq ((Dq (kp:=wH n)).mpr ?_)
  unfold B5 Tr.d
  refine t6 ?_
  walk_at "sk"
  walk_at "tk"
  walk_at "o2"
  have:=LL;have:=ju hk.1;have:=ju hk.2.1;have:=ju hk.2.2
  simp only [sI hk.1,sI hk.2.1,sI hk.2.2,a0d,pC]
  repeat (refine ⟨by omega,?_⟩)
  exact congrArg (λs=>Sl.sh (D.str s)) (Dm (by simp only [Tr.tx];walk_at "tx"))
 | flat p lo hi =>
  intro n hn hk hz
  obtain ⟨n,rfl⟩:∃m,n=m+1:=⟨n-1,by omega⟩
  refine Wo.eq ((Dq (kp:=wH n)).mpr ?_)
  unfold B5 Tr.d
  refine t6 ?_
  walk_at "sk"
  walk_at "tk"
  walk_at "o2"
  have:=LL;have:=ju hk.1;have:=ju hk.2.1;have:=ju hk.2.2
  simp only [sI hk.1,sI hk.2.1,sI hk.2.2,a0d,pC]
  repeat (refine ⟨by omega,?_⟩)
  exact congrArg (λs=>Sl.sh (D.str s)) (Dm (by simp only [Tr.tx];walk_at "tx"))
 | bands rs =>
  intro n hn hk hz
  obtain ⟨n,rfl⟩:∃m,n=m+1:=⟨n-1,by omega⟩
  refine Wo.eq ((Dq (kp:=wH n)).mpr ?_)
  unfold B5 Tr.d
  refine t6 ?_
  iterate 2 walk_at "sk"
  walk_at "tk"
  rw [a7I]
  walk_at "o1"
  have:=LL
  have h1:=Hq hk.2
  have h2:=hk.1.2
  have h3:=zO " " (rs.map Rt)
  refine ⟨by omega,?_⟩
  rw [b0B ⟨hk.1.2,hk.2⟩]
  walk_at "o1"
  simp only [pC]
  repeat (refine ⟨by omega,?_⟩)
  exact congrArg (λs=>Sl.sh (D.str s)) (Dm (by simp only [Tr.tx];walk_at "tx"))
 | steps rs =>
  intro n hn hk hz
  obtain ⟨n,rfl⟩:∃m,n=m+1:=⟨n-1,by omega⟩
  refine Wo.eq ((Dq (kp:=wH n)).mpr ?_)
  unfold B5 Tr.d
  refine t6 ?_
  iterate 2 walk_at "sk"
  walk_at "tk"
  rw [a7I]
  walk_at "o1"
  have:=LL
  have h1:=Hq hk.2
  have h2:=hk.1.2
  have h3:=zO " " (rs.map Rt)
  refine ⟨by omega,?_⟩
  rw [b0B ⟨hk.1.2,hk.2⟩]
  walk_at "o1"
  simp only [pC]
  repeat (refine ⟨by omega,?_⟩)
  exact congrArg (λs=>Sl.sh (D.str s)) (Dm (by simp only [Tr.tx];walk_at "tx"))
 | blocks p lo hi =>
  intro n hn hk hz
  obtain ⟨n,rfl⟩:∃m,n=m+1:=⟨n-1,by omega⟩
  refine Wo.eq ((Dq (kp:=wH n)).mpr ?_)
  unfold B5 Tr.d
  refine t6 ?_
  iterate 3 walk_at "sk"
  walk_at "tk"
  walk_at "o2"
  have:=LL;have:=ju hk.1;have:=ju hk.2.1;have:=ju hk.2.2
  simp only [sI hk.1,sI hk.2.1,sI hk.2.2,a0d,pC]
  repeat (refine ⟨by omega,?_⟩)
  exact congrArg (λs=>Sl.sh (D.str s)) (Dm (by simp only [Tr.tx];walk_at "tx"))
 | name x =>
  intro n hn hk hz
  obtain ⟨n,rfl⟩:∃m,n=m+1:=⟨n-1,by omega⟩
  refine Wo.eq ((Dq (kp:=wH n)).mpr ?_)
  unfold B5 Tr.d
  refine t6 ?_
  walk_at "tk"
  walk_at "o1"
  rfl
 | plus a b di oa =>
  intro n hn hk hz
  obtain ⟨n,rfl⟩:∃m,n=m+1:=⟨n-1,by omega⟩
  simp only [Tr.fG] at hn
  simp only [Tr.sz] at hz
  refine Wo.eq ((Dq (kp:=wH n)).mpr ?_)
  unfold B5 Tr.d
  refine t6 ?_
  have h1:=di n (by omega) hk.1 (by omega)
  have h2:=oa n (by omega) hk.2 (by omega)
  have:=LL;have:=yA a hk.1;have:=yA b hk.2
  iterate 4 walk_at "sk"
  walk_at "tk"
  walk_at "o1"
  rw [h1]
  walk_at "o1"
  refine ⟨by omega,?_⟩
  simp only [pC]
  repeat (refine ⟨by omega,?_⟩)
  rw [h2]
  walk_at "o1"
  simp only [pC]
  repeat (refine ⟨by omega,?_⟩)
  exact congrArg (λs=>Sl.sh (D.str s)) (Dm (by simp only [Tr.tx];walk_at "tx"))
 | or a b di oa =>
  intro n hn hk hz
  obtain ⟨n,rfl⟩:∃m,n=m+1:=⟨n-1,by omega⟩
  simp only [Tr.fG] at hn
  simp only [Tr.sz] at hz
  refine Wo.eq ((Dq (kp:=wH n)).mpr ?_)
  unfold B5 Tr.d
  refine t6 ?_
  have h1:=di n (by omega) hk.1 (by omega)
  have h2:=oa n (by omega) hk.2 (by omega)
  have:=LL;have:=yA a hk.1;have:=yA b hk.2
  iterate 4 walk_at "sk"
  walk_at "tk"
  walk_at "o1"
  rw [h1]
  walk_at "o1"
  refine ⟨by omega,?_⟩
  simp only [pC]
  repeat (refine ⟨by omega,?_⟩)
  rw [h2]
  walk_at "o1"
  simp only [pC]
  repeat (refine ⟨by omega,?_⟩)
  exact congrArg (λs=>Sl.sh (D.str s)) (Dm (by simp only [Tr.tx];walk_at "tx"))
 | max a b di oa =>
  intro n hn hk hz
  obtain ⟨n,rfl⟩:∃m,n=m+1:=⟨n-1,by omega⟩
  simp only [Tr.fG] at hn
  simp only [Tr.sz] at hz
  refine Wo.eq ((Dq (kp:=wH n)).mpr ?_)
  unfold B5 Tr.d
  refine t6 ?_
  have h1:=di n (by omega) hk.1 (by omega)
  have h2:=oa n (by omega) hk.2 (by omega)
  have:=LL;have:=yA a hk.1;have:=yA b hk.2
  iterate 4 walk_at "sk"
  walk_at "tk"
  walk_at "o1"
  rw [h1]
  walk_at "o1"
  refine ⟨by omega,?_⟩
  simp only [pC]
  repeat (refine ⟨by omega,?_⟩)
  rw [h2]
  walk_at "o1"
  simp only [pC]
  repeat (refine ⟨by omega,?_⟩)
  exact congrArg (λs=>Sl.sh (D.str s)) (Dm (by simp only [Tr.tx];walk_at "tx"))
 | only a lo hi di =>
  intro n hn hk hz
  obtain ⟨n,rfl⟩:∃m,n=m+1:=⟨n-1,by omega⟩
  simp only [Tr.fG] at hn
  simp only [Tr.sz] at hz
  refine Wo.eq ((Dq (kp:=wH n)).mpr ?_)
  unfold B5 Tr.d
  refine t6 ?_
  have h1:=di n (by omega) hk.1 (by omega)
  have:=LL;have:=yA a hk.1;have:=ju hk.2.1;have:=ju hk.2.2
  iterate 5 walk_at "sk"
  refine setC ?_
  refine LO (by kernel_rfl) (nY (y:="only " ++ nt lo ++ " to " ++ nt hi) ?_ (by simp) ?_)
  .walk_at "o2"
   simp only [sI hk.2.1,sI hk.2.2,a0d,pC]
   repeat (refine ⟨by omega,?_⟩)
   trivial
  simp only [DF,Cp]
  walk_at "sk"
  rw [a06]
  walk_at "o1"
  rw [h1]
  walk_at "o1"
  simp only [pC]
  repeat (refine ⟨by omega,?_⟩)
  exact congrArg (λs=>Sl.sh (D.str s)) (Dm (by simp only [Tr.tx];walk_at "tx"))
 | after a c di =>
  intro n hn hk hz
  obtain ⟨n,rfl⟩:∃m,n=m+1:=⟨n-1,by omega⟩
  simp only [Tr.fG] at hn
  simp only [Tr.sz] at hz
  refine Wo.eq ((Dq (kp:=wH n)).mpr ?_)
  unfold B5 Tr.d
  refine t6 ?_
  have h1:=di n (by omega) hk.1 (by omega)
  have:=LL;have:=yA a hk.1;have:=ju hk.2
  iterate 5 walk_at "sk"
  refine setC ?_
  walk_at "sk"
  refine LO (by kernel_rfl) (nY (y:="after" ++ " " ++ nt c) ?_ (by simp) ?_)
  .walk_at "o2"
   simp only [sI hk.2,a0d,pC]
   repeat (refine ⟨by omega,?_⟩)
   trivial
  rw [a06]
  simp only [DF,Cp]
  walk_at "o1"
  rw [h1]
  walk_at "o1"
  simp only [pC]
  repeat (refine ⟨by omega,?_⟩)
  exact congrArg (λs=>Sl.sh (D.str s)) (Dm (by simp only [Tr.tx];walk_at "tx"))
 | fee a p di =>
  intro n hn hk hz
  obtain ⟨n,rfl⟩:∃m,n=m+1:=⟨n-1,by omega⟩
  simp only [Tr.fG] at hn
  simp only [Tr.sz] at hz
  refine Wo.eq ((Dq (kp:=wH n)).mpr ?_)
  unfold B5 Tr.d
  refine t6 ?_
  have h1:=di n (by omega) hk.1 (by omega)
  have:=LL;have:=yA a hk.1;have:=ju hk.2
  iterate 5 walk_at "sk"
  refine setC ?_
  walk_at "sk"
  refine LO (by kernel_rfl) (nY (y:="fee" ++ " " ++ nt p) ?_ (by simp) ?_)
  .walk_at "o2"
   simp only [sI hk.2,a0d,pC]
   repeat (refine ⟨by omega,?_⟩)
   trivial
  rw [a06]
  simp only [DF,Cp]
  walk_at "o1"
  rw [h1]
  walk_at "o1"
  simp only [pC]
  repeat (refine ⟨by omega,?_⟩)
  exact congrArg (λs=>Sl.sh (D.str s)) (Dm (by simp only [Tr.tx];walk_at "tx"))
 | roomy a di =>
  intro n hn hk hz
  obtain ⟨n,rfl⟩:∃m,n=m+1:=⟨n-1,by omega⟩
  simp only [Tr.fG] at hn
  simp only [Tr.sz] at hz
  refine Wo.eq ((Dq (kp:=wH n)).mpr ?_)
  unfold B5 Tr.d
  refine t6 ?_
  have h1:=di n (by omega) hk (by omega)
  have:=LL;have:=yA a hk;skip
  iterate 5 walk_at "sk"
  refine setC ?_
  walk_at "sk"
  walk_at "sk"
  rw [a06]
  walk_at "o1"
  rw [h1]
  walk_at "o1"
  simp only [pC]
  repeat (refine ⟨by omega,?_⟩)
  exact congrArg (λs=>Sl.sh (D.str s)) (Dm (by simp only [Tr.tx];walk_at "tx"))
noncomputable def Tr.ns:Tr->List Str
 | .name n=>[n]
 | .plus a b=>a.ns++b.ns
 | .or a b=>a.ns++b.ns
 | .max a b=>a.ns++b.ns
 | .only a _ _=>a.ns
 | .after a _=>a.ns
 | .roomy a=>a.ns
 | .fee a _=>a.ns
 | _=>[]
theorem DO:∀t:Tr,t.ns.length<=t.sz:=by
 intro t
 induction t with
 | plus a b di oa=>simp only [Tr.ns,Tr.sz,ma];omega
 | or a b di oa=>simp only [Tr.ns,Tr.sz,ma];omega
 | max a b di oa=>simp only [Tr.ns,Tr.sz,ma];omega
 | only a _ _ di=>simp only [Tr.ns,Tr.sz];omega
 | after a _ di=>simp only [Tr.ns,Tr.sz];omega
 | roomy a di=>simp only [Tr.ns,Tr.sz];omega
 | fee a _ di=>simp only [Tr.ns,Tr.sz];omega
 | _=>simp [Tr.ns,Tr.sz]
theorem E8{kp:bh}{o:D}(hp:gr "parts" 1 Md o []=some (.ow [])):pv kp [o]=some (.ow []):=by
 refine Wo.eq (fu.mpr ?_)
 unfold Qu
 walk_at "o1"
 rw [hp]
 walk_at "o1"
theorem all1{kp:bh}{o a:D}{xs:List Str}(hp:gr "parts" 1 Md o []=some (.ow [a]))(ha:gr "all_names" 1 kp a []=some (.ow (xs.map D.str)))(hl:xs.length<=100000):pv kp [o]=some (.ow (xs.map D.str)):=by
 refine Wo.eq (fu.mpr ?_)
 unfold Qu
 walk_at "o1"
 rw [hp]
 walk_at "o1"
 rw [ha]
 walk_at "o1"
 exact ⟨by simp;omega,rfl⟩
theorem all2{kp:bh}{o a b:D}{xs ys:List Str}(hp:gr "parts" 1 Md o []=some (.ow [a,b]))(ha:gr "all_names" 1 kp a []=some (.ow (xs.map D.str)))(hb:gr "all_names" 1 kp b []=some (.ow (ys.map D.str)))(hl:xs.length<=100000)(hm:ys.length<=100000):pv kp [o]=some (.ow ((xs++ys).map D.str)):=by
 refine Wo.eq (fu.mpr ?_)
 unfold Qu
 walk_at "o1"
 rw [hp]
 walk_at "o1"
 rw [ha]
 walk_at "o1"
 refine ⟨by simp;omega,?_⟩
 rw [hb]
 walk_at "o1"
 exact ⟨by simp;omega,by simp⟩
theorem O2:∀(t:Tr) (n:Nat),t.fG<n->t.sz<=1000->gr "all_names" 1 (nV n) t.o []=some (.ow (t.ns.map D.str)):=by
 intro t
 induction t with
 | each p lo hi =>
  intro n hn hz
  obtain ⟨n,rfl⟩:∃m,n=m+1:=⟨n-1,by omega⟩
  rw [show gr "all_names" 1 (nV (n+1)) (Tr.each p lo hi).o []=pv (nV n) [(Tr.each p lo hi).o] from by kernel_rfl]
  exact E8 (by kernel_rfl)
 | flat p lo hi =>
  intro n hn hz
  obtain ⟨n,rfl⟩:∃m,n=m+1:=⟨n-1,by omega⟩
  rw [show gr "all_names" 1 (nV (n+1)) (Tr.flat p lo hi).o []=pv (nV n) [(Tr.flat p lo hi).o] from by kernel_rfl]
  exact E8 (by kernel_rfl)
 | bands rs =>
  intro n hn hz
  obtain ⟨n,rfl⟩:∃m,n=m+1:=⟨n-1,by omega⟩
  rw [show gr "all_names" 1 (nV (n+1)) (Tr.bands rs).o []=pv (nV n) [(Tr.bands rs).o] from by kernel_rfl]
  exact E8 (by kernel_rfl)
 | steps rs =>
  intro n hn hz
  obtain ⟨n,rfl⟩:∃m,n=m+1:=⟨n-1,by omega⟩
  rw [show gr "all_names" 1 (nV (n+1)) (Tr.steps rs).o []=pv (nV n) [(Tr.steps rs).o] from by kernel_rfl]
  exact E8 (by kernel_rfl)
 | blocks p lo hi =>
  intro n hn hz
  obtain ⟨n,rfl⟩:∃m,n=m+1:=⟨n-1,by omega⟩
  rw [show gr "all_names" 1 (nV (n+1)) (Tr.blocks p lo hi).o []=pv (nV n) [(Tr.blocks p lo hi).o] from by kernel_rfl]
  exact E8 (by kernel_rfl)
 | name x =>
  intro n hn hz
  obtain ⟨n,rfl⟩:∃m,n=m+1:=⟨n-1,by omega⟩
  rw [show gr "all_names" 1 (nV (n+1)) (Tr.name x).o []=MD (nV n) [(Tr.name x).o] from by kernel_rfl]
  refine Wo.eq (qR.mpr ?_)
  unfold ZJ Tr.o
  rw [a06]
  walk_at "o1"
  rw [b6j]
  walk_at "o1"
  rfl
 | plus a b di oa =>
  intro n hn hz
  obtain ⟨n,rfl⟩:∃m,n=m+1:=⟨n-1,by omega⟩
  simp only [Tr.fG] at hn
  simp only [Tr.sz] at hz
  have:=DO a
  have:=DO b
  rw [show gr "all_names" 1 (nV (n+1)) (Tr.plus a b).o []=pv (nV n) [(Tr.plus a b).o] from by kernel_rfl]
  exact all2 (a:=a.o) (b:=b.o) (by kernel_rfl) (di n (by omega) (by omega)) (oa n (by omega) (by omega)) (by omega) (by omega)
 | or a b di oa =>
  intro n hn hz
  obtain ⟨n,rfl⟩:∃m,n=m+1:=⟨n-1,by omega⟩
  simp only [Tr.fG] at hn
  simp only [Tr.sz] at hz
  have:=DO a
  have:=DO b
  rw [show gr "all_names" 1 (nV (n+1)) (Tr.or a b).o []=pv (nV n) [(Tr.or a b).o] from by kernel_rfl]
  exact all2 (a:=a.o) (b:=b.o) (by kernel_rfl) (di n (by omega) (by omega)) (oa n (by omega) (by omega)) (by omega) (by omega)
 | max a b di oa =>
  intro n hn hz
  obtain ⟨n,rfl⟩:∃m,n=m+1:=⟨n-1,by omega⟩
  simp only [Tr.fG] at hn
  simp only [Tr.sz] at hz
  have:=DO a
  have:=DO b
  rw [show gr "all_names" 1 (nV (n+1)) (Tr.max a b).o []=pv (nV n) [(Tr.max a b).o] from by kernel_rfl]
  exact all2 (a:=a.o) (b:=b.o) (by kernel_rfl) (di n (by omega) (by omega)) (oa n (by omega) (by omega)) (by omega) (by omega)
 | only a lo hi di =>
  intro n hn hz
  obtain ⟨n,rfl⟩:∃m,n=m+1:=⟨n-1,by omega⟩
  simp only [Tr.fG] at hn
  simp only [Tr.sz] at hz
  have:=DO a
  rw [show gr "all_names" 1 (nV (n+1)) (Tr.only a lo hi).o []=pv (nV n) [(Tr.only a lo hi).o] from by kernel_rfl]
  exact all1 (a:=a.o) (xs:=a.ns) (by kernel_rfl) (di n (by omega) (by omega)) (by omega)
 | after a c di =>
  intro n hn hz
  obtain ⟨n,rfl⟩:∃m,n=m+1:=⟨n-1,by omega⟩
  simp only [Tr.fG] at hn
  simp only [Tr.sz] at hz
  have:=DO a
  rw [show gr "all_names" 1 (nV (n+1)) (Tr.after a c).o []=pv (nV n) [(Tr.after a c).o] from by kernel_rfl]
  exact all1 (a:=a.o) (xs:=a.ns) (by kernel_rfl) (di n (by omega) (by omega)) (by omega)
 | roomy a di =>
  intro n hn hz
  obtain ⟨n,rfl⟩:∃m,n=m+1:=⟨n-1,by omega⟩
  simp only [Tr.fG] at hn
  simp only [Tr.sz] at hz
  have:=DO a
  rw [show gr "all_names" 1 (nV (n+1)) (Tr.roomy a).o []=pv (nV n) [(Tr.roomy a).o] from by kernel_rfl]
  exact all1 (a:=a.o) (xs:=a.ns) (by kernel_rfl) (di n (by omega) (by omega)) (by omega)
 | fee a p di =>
  intro n hn hz
  obtain ⟨n,rfl⟩:∃m,n=m+1:=⟨n-1,by omega⟩
  simp only [Tr.fG] at hn
  simp only [Tr.sz] at hz
  have:=DO a
  rw [show gr "all_names" 1 (nV (n+1)) (Tr.fee a p).o []=pv (nV n) [(Tr.fee a p).o] from by kernel_rfl]
  exact all1 (a:=a.o) (xs:=a.ns) (by kernel_rfl) (di n (by omega) (by omega)) (by omega)
noncomputable def JB(t:Tr):List Str:=SE.zH SE.zX t.ns
theorem Ym(t:Tr)(x:Str):x∈JB t↔x∈t.ns:=SE.pH SE.mr x t.ns
theorem b6g(x:Str):∀l:List Str,(SE.ins SE.zX x l).length<=l.length+1
 | []=>dF _
 | y::l=>by
  unfold SE.ins
  have:=b6g x l
  repeat' split
  all_goals simp only [lI];omega
theorem b5R:∀l:List Str,(SE.zH SE.zX l).length<=l.length
 | []=>dF _
 | x::l=>by
  unfold SE.zH
  have:=b6g x (SE.zH SE.zX l)
  have:=b5R l
  rw [lI]
  omega
theorem b19(xs:List Str)(h:xs.length<64):sset (xs.map D.str)=some ((SE.zH SE.zX xs).map D.str):=by
 cases xs with
 | nil=>rfl
 | cons x xs =>
  unfold sset
  rw [show An ((x::xs).map D.str)=none from rfl]
  dsimp only
  rw [strs_map]
  show (if (x::xs).length<64 then some ((SE.zH SE.zX (x::xs)).map D.str) else none)=_
  rw [if_pos h]
theorem X7(t:Tr)(hd:t.fG<6)(hz:t.sz<=60):gr "names" 1 KG t.o []=some (.ow ((JB t).map D.str)):=by
 rw [show gr "names" 1 KG t.o []=AU [t.o] from by cases t<;>kernel_rfl]
 refine Wo.eq (Ag.mpr ?_)
 unfold Ze
 rw [a06,b5C]
 walk_at "o1"
 rw [O2 t 6 hd (by omega)]
 walk_at "o1"
 rw [Nk,b19 _ (by have:=DO t;omega),a0d]
 rfl
theorem S4{α:Type}:∀(ks:List Str) (ds:List α) (x:Str),ks.length=ds.length->((pq ks ds x).isSome=true↔x∈ks)
 | [],[],x,_=>by simp [pq]
 | [],_::_,x,h=>by cases h
 | _::_,[],x,h=>by cases h
 | k::ks,d::ds,x,h=>by
  unfold pq
  by_cases e:k=x
  .rw [if_pos e];simp [e]
  .rw [if_neg e,S4 ks ds x (by simpa using h)]
   have:x≠k:=λz=>e z.symm
   simp [this]
theorem c0e{ks:List Str}{ds:List D}(h:ks.length=ds.length)(x:Str)(d:D):(Dj ks x).length=(Dk ks ds x d).length:=b0E h x d
theorem b9I(ks:List Str)(x y:Str):y∈Dj ks x↔y∈ks\/y=x:=by
 unfold Dj
 by_cases h:x∈ks
 .rw [if_pos h]
  exact ⟨.inl,λz=>z.elim id λe=>e▸h⟩
 .rw [if_neg h,zK,AL]
structure Bk(L:List (Str×Tr))(r:Str->Nat):Prop where
 nd:(L.map (·.1)).Nodup
 ok:∀q∈L,q.2.ok/\q.2.fG<6/\q.2.sz<=60
 Q0:∀q∈L,∀x∈q.2.ns,x∈L.map (·.1)
 dn:∀q∈L,∀x∈q.2.ns,r x<r q.1
 G5:L.length<=30
noncomputable def jS(L:List (Str×Tr)):List Str:=L.map (·.1)
noncomputable def wJ(L:List (Str×Tr)):List D:=L.map λq=>q.2.o
theorem XC:∀(L:List (Str×Tr)) (x:Str),x∈jS L->∃t,(x,t)∈L/\pq (jS L) (wJ L) x=some t.o
 | [],x,h=>by cases h
 | q::L,x,h=>by
  show ∃t,(x,t)∈q::L/\(if q.1=x then some q.2.o else pq (jS L) (wJ L) x)=some t.o
  by_cases e:q.1=x
  .rw [if_pos e]
   exact ⟨q.2,by rw [<-e];exact pd,rfl⟩
  .rw [if_neg e]
   rcases js.mp h with z | z
   .exact (e z.symm).elim
   .obtain ⟨t,h1,h2⟩:=XC L x z
    exact ⟨t,nT _ h1,h2⟩
theorem b8g{env:En}{ks:List Str}{ds:List D}{Q:Fl×En->Prop}:LP env (some (.tw ks ds)) Q↔Q (.rt (.tw ks ds),env):=mj
theorem b3y{L:List (Str×Tr)}{r:Str->Nat}(B:Bk L r){k:Str}(hk:k∈jS L):Wo (Qv [.dI (jS L) (wJ L),.str k]) λx=>∃ks ds,x=.tw ks ds/\ks.length=ds.length/\∀y∈ks,r y<r k:=by
 refine yC.mpr ?_
 unfold Zy
 obtain ⟨t,ht,hl⟩:=XC L k hk
 walk_at "o1"
 rw [b6v]
 walk_at "o1"
 refine ⟨k,rfl,?_⟩
 walk_at "o1"
 rw [hl]
 walk_at "o1"
 rw [X7 t (B.ok _ ht).2.1 (B.ok _ ht).2.2]
 walk_at "o1"
 rw [b1a]
 have nbl:∀x t,(x,t)∈L->(JB t).length<=1000:=λx t h=>by
  have h1:=b5R t.ns
  have h2:=DO t
  have h3:=(B.ok _ h).2.2
  unfold JB
  dsimp only at h3
  omega
 refine Th (λn env=>∃ks ds w x4,env=[.sh (.dI (jS L) (wJ L)),.sh (.str k),.tw ks ds,.ow (Co D.str w),x4]/\ks.length=ds.length/\(∀y∈ks,r y<r k)/\(∀y∈w,y∈jS L/\r y<r k)/\w.length+1001*((jS L).countP λy=>decide (y∉ks))<=n/\(ks.length+((jS L).countP λy=>decide (y∉ks))<=30/\n<=40000)) (λn env h=>?_) 1000000 (1000+1001*30) (by decide) ?_
 .obtain ⟨ks,ds,w,x4,rfl,hlen,JQ,hw,hn,hc,hb4⟩:=h
  walk_at "o1"
  refine ⟨λhb=>?_,λhb=>?_⟩
  .rcases RY w with rfl | ⟨w,y,rfl⟩
   .cases hb
   rw [RX] at *
   have hy:=hw y (by simp)
   rw [ma,E1] at hn
   rw [show (Co D.str (w++[y]))[(Co D.str (w++[y])).length-1]?=some (.str y) by simp,a0d]
   refine ⟨by decide,?_⟩
   rw [show (Co D.str (w++[y])).dropLast=w.map D.str by simp]
   rw [a3s,b1b,b5B rfl]
   walk_at "o1"
   refine ⟨y,rfl,?_⟩
   refine ⟨λVS=>?_,λVS=>?_⟩
   .have hny:y∉ks:=λz=>by
     rw [(S4 ks ds y hlen).mpr z] at VS
     cases VS
    obtain ⟨t',Of,xS⟩:=XC L y hy.1
    rw [c09 rfl]
    walk_at "o1"
    refine ⟨y,rfl,by omega,?_⟩
    rw [b6v]
    walk_at "o1"
    refine ⟨y,rfl,?_⟩
    walk_at "o1"
    rw [xS]
    walk_at "o1"
    rw [X7 t' (B.ok _ Of).2.1 (B.ok _ Of).2.2]
    walk_at "o1"
    have hnb:=nbl _ _ Of
    have Og:Dj ks y=ks++[y]:=by unfold Dj;rw [if_neg hny]
    have jG:((jS L).countP λz=>decide (z∉ks++[y]))<((jS L).countP λz=>decide (z∉ks)):=SE.BU _ (λx _ hx=>by
     simp only [zK,AL,not_or,decide_eq_true_eq] at hx ⊢
     exact hx.1) ⟨y,hy.1,by simpa using hny,by simp⟩
    refine ⟨by rw [c6,c6];omega,_,?_,Dj ks y,Dk ks ds y (.bl true),w++JB t',.sh (.str y),by rw [Ak],c0e hlen _ _,?_,?_,dF _,?_⟩
    .rw [Og,ma]
     omega
    .intro z hz
     rcases (b9I ks y z).mp hz with hz | rfl
     .exact JQ z hz
     .exact hy.2
    .intro z hz
     rcases zK.mp hz with hz | hz
     .exact hw z (Hg _ hz)
     .rw [Ym] at hz
      exact ⟨B.Q0 _ Of z hz,Ic (B.dn _ Of z hz) hy.2⟩
    .rw [Og,ma,E1,ma]
     omega
   .exact ⟨_,by omega,ks,ds,w,_,rfl,hlen,JQ,λz hz=>hw z (Hg _ hz),dF _,hc,by omega⟩
  .simp only [b8g,b3v]
   exact ⟨ks,ds,rfl,hlen,JQ⟩
 .have h0:((jS L).countP λy=>decide (y∉([]:List Str)))<=30:=tu c6c (by unfold jS;rw [c6];exact B.G5)
  refine ⟨[],[],JB t,_,rfl,rfl,λ_ z=>(nomatch z),λy hy=>?_,?_,by simpa using h0,by decide⟩
  .rw [Ym] at hy
   exact ⟨B.Q0 _ ht y hy,B.dn _ ht y hy⟩
  .have:=nbl _ _ ht
   omega
theorem b79{L:List (Str×Tr)}{r:Str->Nat}(B:Bk L r):KI [.dI (jS L) (wJ L)]=some (.sh .cT):=by
 refine Wo.eq (zA.mpr ?_)
 unfold ZD
 have hlen:(jS L).length=(wJ L).length:=by unfold jS wJ;rw [c6,c6]
 rw [a2W]
 refine Wo.mono (P:=λp=>∃x1 x2,p=(.nx,[.sh (.dI (jS L) (wJ L)),x1,x2])) ?_ ?_
 .rw [b0o,OV rfl,a0d]
  refine L5 (λq:Str×Tr=>q.2.o) (λpre env=>∃x1 x2,env=[.sh (.dI (jS L) (wJ L)),x1,x2]) L (λpre q post env e h=>?_) (λenv h=>?_) ⟨_,_,rfl⟩
  .obtain ⟨x1,x2,rfl⟩:=h
   have hq:q∈L:=by rw [e];simp
   walk_at "o1"
   rw [X7 q.2 (B.ok q hq).2.1 (B.ok q hq).2.2]
   walk_at "o1"
   refine L5 D.str (λpre env=>∃x2,env=[.sh (.dI (jS L) (wJ L)),.sh q.2.o,x2]) (JB q.2) (λpre y post env e2 h=>?_) (λenv h=>?_) ⟨_,rfl⟩
   .obtain ⟨x2,rfl⟩:=h
    have hy:y∈jS L:=B.Q0 q hq y ((Ym _ _).mp (by rw [e2];simp))
    walk_at "o1"
    rw [a3s,b1b,b3X]
    walk_at "o1"
    refine ⟨y,rfl,?_⟩
    rw [(S4 _ _ y hlen).mpr hy]
    exact ⟨λz=>(nomatch z),λ_=>⟨_,rfl⟩⟩
   .obtain ⟨x2,rfl⟩:=h
    exact ⟨_,_,rfl⟩
  .obtain ⟨x1,x2,rfl⟩:=h
   exact ⟨_,_,rfl⟩
 .rintro _ ⟨x1,x2,rfl⟩
  rw [a27,b0o,OW rfl,a0d]
  refine L5 D.str (λpre env=>∃x1 x2,env=[.sh (.dI (jS L) (wJ L)),x1,x2]) (jS L) (λpre y post env e h=>?_) (λenv h=>?_) ⟨_,_,rfl⟩
  .obtain ⟨x1,x2,rfl⟩:=h
   have hy:y∈jS L:=by rw [e];simp
   walk_at "o1"
   rw [a3s,b1b,b3X]
   walk_at "o1"
   refine ⟨y,rfl,?_⟩
   refine (b3y B hy).mono λx hx=>?_
   obtain ⟨ks,ds,rfl,hl,hr⟩:=hx
   have hn:(pq ks ds y).isSome=false:=by
    cases hz:(pq ks ds y).isSome with
    | false=>rfl
    | true=>exact absurd (hr y ((S4 ks ds y hl).mp hz)) (E6 _)
   walk_at "o1"
   rw [hn]
   exact ⟨λz=>(nomatch z),λ_=>⟨_,_,rfl⟩⟩
  .obtain ⟨x1,x2,rfl⟩:=h
   walk_at "o1"
theorem b8N{c:Nat}{x:Str}{Q:Sl->Prop}:Wo (C6 (.str ⟨#[c]⟩) (.str x)) Q↔Q (.sh (.bl (decide (c∈x.cps.toList)))):=by
 unfold C6
 rw [a0d,PySem.StrLaws.found_one]
theorem XS{fa fb:En->Option Sl}{env:En}{z:Str}{i:Int}{c:Nat}{Q:Sl->Prop}(e:fa env=some (.sh (.str z)))(e2:fb env=some (.sh (.int i)))(hz:z.length<=16777216)(h:L2.f' z.cps.toList i=some c):Wo (AE fa fb env) Q↔Q (.sh (.str ⟨#[c]⟩)):=by
 unfold AE
 rw [e,e2]
 show Wo (if z.length<=16777216 then (L2.f' z.cps.toList i).map λc=>Sl.sh (.str ⟨#[c]⟩) else none) Q↔_
 rw [if_pos hz,h]
 exact a0d
noncomputable def ZN:List Str:=["each","from","to","flat","bands","steps","blocks","at","times","plus","or","max","only","after","roomy","fee"]
theorem b7F(t:Str)(ws:List Str):inD (.str t) (ws.map D.str)=some (decide (t∈ws)):=by
 unfold inD
 rw [Bh]
 have:yx (ws.map ((λd=>cz 7 d (.str t))∘D.str))=some (ws.map λw=>decide (w=t)):=by
  induction ws with
  | nil=>rfl
  | cons c cs ih =>
   rw [fH,fH]
   show (yx _).map _=_
   rw [ih]
   rfl
 rw [this]
 show some ((ws.map λw=>decide (w=t)).any id)=_
 congr 1
 rw [RK,List.any_map,W5,decide_eq_true_iff]
 constructor
 .rintro ⟨x,hx,e⟩
  have:x=t:=by simpa using e
  rw [<-this];exact hx
 .exact λh=>⟨t,h,by simp⟩
noncomputable def A0:List Nat:=lt "abcdefghijklmnopqrstuvwxyz"
theorem c0f:∀c∈A0,c<128:=by decide +kernel
def Nm(x:Str):Prop:=(1<=x.length/\x.length<=8)/\(∀c∈lt x,c∈A0)/\x∉ZN
theorem b43{t:Str}(h:Nm t):Qs [.str t]=some (.sh (.bl true)):=by
 obtain ⟨⟨h1,h8⟩,hc,ho⟩:=h
 refine Wo.eq (Dv.mpr ?_)
 unfold Yu
 have L:∀Q,Wo (LS (eV 0) [Sl.sh (D.str t)]) Q↔Q (.sh (.int t.length)):=λQ=>b8E rfl (by omega)
 have T:∀Q,Wo (EX (eV 0) [Sl.sh (D.str t)]) Q↔Q (t.cps.toList.map λc=>.str ⟨#[c]⟩):=λQ=>b8T rfl (by
  rw [Array.all_eq_true']
  intro c hm
  exact decide_eq_true (c0f c (hc c (by simpa [lt] using hm))))
 have C:tJ (gN 0) jO (af C6 (eV 0) (eC (D.str (Df "abcdefghijklmnopqrstuvwxyz")))) (t.cps.toList.map λc=>.str ⟨#[c]⟩) [Sl.no]=some (t.cps.toList.map λ_=>D.bl true):=by
  refine DL.comp_map (λc:Nat=>D.str ⟨#[c]⟩) (λ_=>.bl true) (λe=>∃x,e=[x]) t.cps.toList (λc hm e he=>?_) ⟨_,rfl⟩
  obtain ⟨x,rfl⟩:=he
  walk_at "vc"
  rw [b8N]
  refine ⟨⟨_,rfl⟩,?_⟩
  show D.bl (decide _)=_
  rw [decide_eq_true (show c∈(Df "abcdefghijklmnopqrstuvwxyz").cps.toList from hc c hm)]
 have W:inD (.str t) [D.str "each",D.str "from",D.str "to",D.str "flat",D.str "bands",D.str "steps",D.str "blocks",D.str "at",D.str "times",D.str "plus",D.str "or",D.str "max",D.str "only",D.str "after",D.str "roomy",D.str "fee"]=some false:=(b7F t ZN).trans (congrArg some (decide_eq_false ho))
 walk_at "v1"
 rw [a3s]
 walk_at "v1"
 simp only [L,T,C,W,a0d]
 walk_at "v1"
 have hb:∀l:List Nat,n6 (l.map λ_=>D.bl true)=some (l.map λ_=>true):=λl=>by
  induction l with
  | nil=>rfl
  | cons a l ih =>
   show (n6 (l.map λ_=>D.bl true)).map _=_
   rw [ih]
   rfl
 refine ⟨λ_=>⟨λz=>(z (by omega)).elim,λ_=>⟨?_,?_⟩⟩,λz=>(z (by omega)).elim⟩
 .rw [c6]
  have:=DN t
  unfold lt at this
  omega
 .rw [hb,a0d,show (Co (λ_=>true) t.cps.toList).all id=true from by simp]
theorem b45{ks:List Str}(hn:∀x∈ks,Nm x)(nd:ks.Nodup)(hl:ks.length<=1000){r:Bool}:KH [.lst r (ks.map D.str)]=some (.sh .cT):=by
 refine Wo.eq (zB.mpr ?_)
 unfold ZC
 rw [a2W]
 refine Wo.mono (P:=λp=>∃x1,p=(.nx,[.sh (.lst r (ks.map D.str)),x1])) ?_ ?_
 .walk_at "o1"
  refine L5 D.str (λpre env=>∃x1,env=[.sh (.lst r (ks.map D.str)),x1]) ks (λpre y post env e h=>?_) (λenv h=>?_) ⟨_,rfl⟩
  .obtain ⟨x1,rfl⟩:=h
   walk_at "o1"
   refine X5 ?_ ⟨_,rfl⟩
   walk_at "o1"
   rw [b43 (hn y (by rw [e];simp))]
   walk_at "o1"
  .obtain ⟨x1,rfl⟩:=h
   exact ⟨_,rfl⟩
 .rintro _ ⟨x1,rfl⟩
  rw [a27]
  refine X5 ?_ rfl
  walk_at "o1"
  rw [strs_map,a0d]
  refine ⟨by omega,?_⟩
  walk_at "o1"
  rw [c6,<-b99 nd λx=>mj]
  simp
theorem b8b{n:Int}(h:n<=30):Mw [.int n]=some (.sh .cT):=by
 refine Wo.eq (Af.mpr ?_)
 unfold Zf
 refine X5 ?_ rfl
 walk_at "o1"
 omega
noncomputable def Pq(q:Str×Tr):D:=.tup [.str q.1,q.2.o]
theorem a8B:∀L:List (Str×Tr),Ho (L.map Pq)=some (jS L,wJ L)
 | []=>rfl
 | q::L=>by
  show (Ho (L.map Pq)).map _=_
  rw [a8B L]
  rfl
theorem XR{G:SF}{F:IF}{env ao:En}{ns:List Str}{ds:List D}(h:G env=some (.nx,ao))(ho:Ks ao=true):JI G F env ns ds=F ao ns ds:=by
 unfold JI
 rw [h]
 dsimp only
 rw [if_pos ho]
theorem b3c{f:Str}{fe:En->Option Sl}{F:IF}{env:En}{r:Sl}{ns:List Str}{ds:List D}(h:fe env=some r)(hf:¬(f∈ns\/900<ns.length)):dH f fe F env ns ds=F env (ns++[f]) (ds++[r.d]):=by
 unfold dH
 rw [h]
 show (if f∈ns\/900<ns.length then none else _)=_
 rw [if_neg hf]
theorem b00{L:List (Str×Tr)}{r:Str->Nat}(B:Bk L r)(hn:∀q∈L,Nm q.1){b:Bool}:IB [.lst b (L.map Pq)]=some [.lst false (L.map Pq),.dI (jS L) (wJ L)]:=by
 have hf:=B.G5
 have h1:hV 2 (jt (gW (eV 1)) [] 2 (gT 2 (lZ (gN 0) (lZ (gN 1) zN))) jO (hU (ai (eV 0) (ai (eV 1) ag)))) [.no,.sh (.lst b (L.map Pq)),.no]=some (.nx,[.no,.sh (.lst b (L.map Pq)),.sh (.lst false (L.map Pq))]):=by
  refine Wo.eq ?_
  rw [a2R]
  walk_at "v1"
  refine ⟨by rw [c6];omega,_,DL.comp_map Pq Pq (λe=>e.length=2) L (λa ha e he=>?_) rfl,rfl⟩
  obtain ⟨y0,y1,rfl⟩:∃y0 y1,e=[y0,y1]:=by
   match e,he with
   | [a,b],_=>exact ⟨a,b,rfl⟩
  unfold Pq
  walk_at "v1"
 have h2:LM (cG 1 Mw (ai (qr (bV 2)) ag)) [.no,.sh (.lst b (L.map Pq)),.sh (.lst false (L.map Pq))]=some (.nx,[.no,.sh (.lst b (L.map Pq)),.sh (.lst false (L.map Pq))]):=by
  refine Wo.eq ?_
  walk_at "o1"
  rw [c6,b8b (by omega)]
  walk_at "o1"
 have h3:LM (cG 1 KH (ai (jt (gW (eV 2)) [] 2 (gT 2 (lZ (gN 0) (lZ (gN 1) zN))) jO (eV 0)) ag)) [.no,.sh (.lst b (L.map Pq)),.sh (.lst false (L.map Pq))]=some (.nx,[.no,.sh (.lst b (L.map Pq)),.sh (.lst false (L.map Pq))]):=by
  refine Wo.eq ?_
  walk_at "o1"
  refine ⟨by rw [c6];omega,_,DL.comp_map Pq (λq=>.str q.1) (λe=>e.length=2) L (λa ha e he=>?_) rfl,?_⟩
  .obtain ⟨y0,y1,rfl⟩:∃y0 y1,e=[y0,y1]:=by
    match e,he with
    | [a,b],_=>exact ⟨a,b,rfl⟩
   unfold Pq
   walk_at "v1"
  .refine (show Wo (KH [.lst false (L.map λq=>.str q.1)]) _ from ?_)
   rw [show (L.map λq=>D.str q.1)=(jS L).map D.str by unfold jS;rw [Bh];rfl,b45 (ks:=jS L) (λx hx=>?_) B.nd (by unfold jS;rw [c6];omega)]
   .walk_at "o1"
   .obtain ⟨q,hq,rfl⟩:=BW.mp hx
    exact hn q hq
 have h4:Qd (eV 2) [.no,.sh (.lst b (L.map Pq)),.sh (.lst false (L.map Pq))]=some (.sh (.dI (jS L) (wJ L))):=by
  refine Wo.eq ?_
  rw [a9i]
  walk_at "o1"
  rw [a8B,a0d]
  exact ⟨B.nd,rfl⟩
 unfold IB fL
 rw [show (Sl.no::zy (3-1) [.lst b (L.map Pq)])=[.no,.sh (.lst b (L.map Pq)),.no] from rfl,XR h1 rfl,XR h2 rfl,XR h3 rfl,b3c (r:=.sh (.lst false (L.map Pq))) rfl (by decide +kernel),b3c h4 (by decide +kernel)]
 have h5:EZ ("rules":Str) [(("offers":Str),D.lst false (L.map Pq)),(("rules":Str),D.dI (jS L) (wJ L))]=some (.dI (jS L) (wJ L)):=by kernel_rfl
 show (match (EZ ("rules":Str) [(("offers":Str),D.lst false (L.map Pq)),(("rules":Str),D.dI (jS L) (wJ L))]).bind (λd=>(KI [d]).bind λ_=>some ([("offers":Str),("rules":Str)],[D.lst false (L.map Pq),D.dI (jS L) (wJ L)])) with | some (nZ,fs)=>if nZ=FP then some fs else none | none=>none)=_
 rw [h5]
 show (match (KI [.dI (jS L) (wJ L)]).bind (λ_=>some ([("offers":Str),("rules":Str)],[D.lst false (L.map Pq),D.dI (jS L) (wJ L)])) with | some (nZ,fs)=>if nZ=FP then some fs else none | none=>none)=_
 rw [b79 B]
 kernel_rfl
noncomputable def Ln(q:Str×Tr):Str:="offer " ++ q.1 ++ ": " ++ q.2.tx
theorem Ut:("offer ":Str).length<=9/\(": ":Str).length<=9/\("\n":Str).length<=9:=by decide +kernel
theorem c0d{q:Str×Tr}(hn:Nm q.1)(hk:q.2.ok)(hz:q.2.sz<=100):(Ln q).length<=201000:=by
 have h1:=yA q.2 hk
 have h2:=hn.1.2
 have:=Ut
 unfold Ln
 rw [pC,pC,pC]
 omega
theorem Yl:∀{L:List (Str×Tr)},(∀q∈L,Nm q.1/\q.2.ok/\q.2.sz<=100)->AS "\n" (L.map Ln)<=201010*L.length
 | [],_=>by decide +kernel
 | q::L,h=>by
  have h1:=Yl (L:=L) λq hq=>h q (nT _ hq)
  have h2:=h q pd
  have h3:=c0d h2.1 h2.2.1 h2.2.2
  have:=Ut
  rw [fH,qQ,lI]
  omega
noncomputable def Bo(L:List (Str×Tr)):D:=.obj "Book" FP [.lst false (L.map Pq),.dI (jS L) (wJ L)]
theorem b7O(a b:D):eG dg "rules" (.obj "Book" FP [a,b])=some b:=by kernel_rfl
theorem b6c:∀L:List (Str×Tr),JG (jS L) (wJ L)=L.map Pq
 | []=>rfl
 | q::L=>by
  have:=b6c L
  unfold JG jS wJ at *
  rw [fH,fH,Ih,fH,this]
  rfl
theorem b6p{L:List (Str×Tr)}{r:Str->Nat}(B:Bk L r)(hn:∀q∈L,Nm q.1/\q.2.ok/\q.2.sz<=100):IG [Bo L]=some (.sh (.str (nJ "\n" (L.map Ln)))):=by
 have hf:=B.G5
 refine Wo.eq (AW.mpr ?_)
 unfold YQ
 rw [a06]
 refine PV (z:="\n") (ts:=L.map Ln) rfl ?_ (by have:=Yl hn;omega) rfl
 have hc:tJ (gT 2 (lZ (gN 0) (lZ (gN 1) zN))) jO (af aK (af aK (af aK (eC (.str "offer ")) (eV 0)) (eC (.str ": "))) (qO "written" 1 (dX 6) (eV 1) ag)) (L.map Pq) [Sl.no,Sl.no]=some (L.map λq=>.str (Ln q)):=by
  refine DL.comp_map Pq (λq=>.str (Ln q)) (λe=>e.length=2) L (λq hq e he=>?_) rfl
  obtain ⟨y0,y1,rfl⟩:∃y0 y1,e=[y0,y1]:=by
   match e,he with
   | [a,b],_=>exact ⟨a,b,rfl⟩
  have h:=hn q hq
  have h1:=yA q.2 h.2.1
  have h2:=h.1.1.2
  have:=Ut
  unfold Pq
  walk_at "o1"
  refine ⟨by omega,?_⟩
  simp only [pC]
  refine ⟨by omega,?_⟩
  rw [b3x q.2 6 (B.ok q hq).2.1 (B.ok q hq).1 (by have:=(B.ok q hq).2.2;omega)]
  walk_at "o1"
  simp only [pC]
  exact ⟨by omega,rfl⟩
 have hi:Lg (eZ dg "rules" (eV 0)) [.sh (Bo L)]=some (L.map Pq):=by
  rw [OX (ks:=jS L) (ds:=wJ L),b6c]
  refine Wo.eq ?_
  unfold Bo
  walk_at "o1"
  rw [b7O]
  walk_at "o1"
 unfold t4
 rw [show jt (Lg (eZ dg "rules" (eV 0))) [] 2 (gT 2 (lZ (gN 0) (lZ (gN 1) zN))) jO (af aK (af aK (af aK (eC (.str "offer ")) (eV 0)) (eC (.str ": "))) (qO "written" 1 (dX 6) (eV 1) ag)) [.sh (Bo L)]=some (.ow (L.map λq=>.str (Ln q))) from ?_]
 .rw [Bh];rfl
 .unfold jt
  rw [hi]
  show (if (L.map Pq).length<=16777216 then (tJ (gT 2 (lZ (gN 0) (lZ (gN 1) zN))) jO (af aK (af aK (af aK (eC (.str "offer ")) (eV 0)) (eC (.str ": "))) (qO "written" 1 (dX 6) (eV 1) ag)) (L.map Pq) [Sl.no,Sl.no]).map Sl.ow else none)=_
  rw [if_pos (by rw [c6];omega),hc]
  rfl
noncomputable def Pd(q:Str×Tr):D:=.tup [.str q.1,q.2.d]
theorem c0P{L:List (Str×Tr)}{r:Str->Nat}(B:Bk L r)(hn:∀q∈L,Nm q.1){b:Bool}:Mg [.lst b (L.map Pd)]=some (.sh (Bo L)):=by
 have hf:=B.G5
 refine Wo.eq (B9.mpr ?_)
 unfold Y3
 rw [a06]
 walk_at "o1"
 refine ⟨by rw [c6];omega,_,DL.comp_map Pd Pq (λe=>e.length=1) L (λq hq e he=>?_) rfl,?_⟩
 .obtain ⟨y0,rfl⟩:∃y0,e=[y0]:=by
   match e,he with
   | [a],_=>exact ⟨a,rfl⟩
  unfold Pd
  walk_at "o1"
  rw [c0O q.2 6 (B.ok q hq).2.1 (B.ok q hq).1]
  walk_at "o1"
  rfl
 .refine (show Wo (IB [.lst false (L.map Pq)]) _ from ?_)
  rw [b00 B hn]
  walk_at "o1"
  rfl
theorem O1{L:List (Str×Tr)}{r:Str->Nat}(B:Bk L r)(hn:∀q∈L,Nm q.1/\q.2.ok/\q.2.sz<=100){x y z:Sl}{b:Bool}:Ck (eC (.str "\n")) (t4 (jt (gW (eV 1)) [] 2 (gT 2 (lZ (gN 0) (lZ (gN 1) zN))) jO (af aK (af aK (af aK (eC (.str "offer ")) (eV 0)) (eC (.str ": "))) (cG 1 (wH 6) (ai (eV 1) ag))))) [x,.sh (.lst b (L.map Pd)),y,z]=some (.sh (.str (nJ "\n" (L.map Ln)))):=by
 have hf:=B.G5
 have hc:tJ (gT 2 (lZ (gN 0) (lZ (gN 1) zN))) jO (af aK (af aK (af aK (eC (.str "offer ")) (eV 0)) (eC (.str ": "))) (cG 1 (wH 6) (ai (eV 1) ag))) (L.map Pd) [Sl.no,Sl.no]=some (L.map λq=>.str (Ln q)):=by
  refine DL.comp_map Pd (λq=>.str (Ln q)) (λe=>e.length=2) L (λq hq e he=>?_) rfl
  obtain ⟨y0,y1,rfl⟩:∃y0 y1,e=[y0,y1]:=by
   match e,he with
   | [a,b],_=>exact ⟨a,b,rfl⟩
  have h:=hn q hq
  have h1:=yA q.2 h.2.1
  have h2:=h.1.1.2
  have:=Ut
  unfold Pd
  walk_at "o1"
  refine ⟨by lia,?_⟩
  simp only [pC]
  refine ⟨by lia,?_⟩
  rw [c0N q.2 6 (B.ok q hq).2.1 (B.ok q hq).1 (by have:=(B.ok q hq).2.2;lia)]
  walk_at "o1"
  simp only [pC]
  exact ⟨by lia,rfl⟩
 refine Wo.eq (PV (z:="\n") (ts:=L.map Ln) rfl ?_ (by have:=Yl hn;lia) rfl)
 unfold t4
 rw [show jt (gW (eV 1)) [] 2 (gT 2 (lZ (gN 0) (lZ (gN 1) zN))) jO (af aK (af aK (af aK (eC (.str "offer ")) (eV 0)) (eC (.str ": "))) (cG 1 (wH 6) (ai (eV 1) ag))) [x,.sh (.lst b (L.map Pd)),y,z]=some (.ow (L.map λq=>.str (Ln q))) from ?_]
 .rw [Bh];rfl
 .show (if (L.map Pd).length<=16777216 then (tJ (gT 2 (lZ (gN 0) (lZ (gN 1) zN))) jO (af aK (af aK (af aK (eC (.str "offer ")) (eV 0)) (eC (.str ": "))) (cG 1 (wH 6) (ai (eV 1) ag))) (L.map Pd) [Sl.no,Sl.no]).map Sl.ow else none)=_
  rw [if_pos (by rw [c6];lia),hc]
  rfl
theorem X8(c k:Int)(hk:0<=k/\k<=200):∃m:Int,IE [.int c,.int k]=some (.sh (.int m)) /\ -(10^40)<=m/\m<=10^40:=by
 have key:Wo (IE [.int c,.int k]) λx=>∃m:Int,x=.sh (.int m) /\ -(10^40)<=m/\m<=10^40:=by
  refine AY.mpr ?_
  unfold YN
  obtain ⟨a,ea,a0,a1⟩:=t5 c (k+60) 3 (by omega) (by decide)
  walk_at "v1"
  rw [ea]
  walk_at "v1"
  refine ⟨by decide,by decide,?_⟩
  refine b3R [3,10^9,10^39] a0 (by simpa using a1) λv hv=>?_
  have hb:0<v/\v<=10^39:=by
   simp only [js,DD,or_false] at hv
   omega
  obtain ⟨b,eb,b0,b1⟩:=t5 c k (2*v+1) (by omega) (by omega)
  walk_at "v1"
  rw [eb]
  walk_at "v1"
  exact ⟨.inl (by decide),_,rfl,by omega,by omega⟩
 obtain ⟨x,e,m,rfl,h⟩:=key
 exact ⟨m,e,h⟩
theorem eqF{a b:Str}(h:a≠b):cx (.str a) (.str b)=some (.sh (.bl false)):=by
 simp [cx,cz,h]
theorem eqT(a:Str):cx (.str a) (.str a)=some (.sh (.bl true)):=by
 simp [cx,cz]
theorem neF{a b:Str}(h:a≠b):xX (.str a) (.str b)=some (.sh (.bl true)):=by
 simp [xX,cz,h]
theorem neT(a:Str):xX (.str a) (.str a)=some (.sh (.bl false)):=by
 simp [xX,cz]
theorem ne_k0:("each":Str) ≠ "bands":=by decide +kernel
theorem ne_k1:("each":Str) ≠ "steps":=by decide +kernel
theorem ne_k2:("each":Str) ≠ "blocks":=by decide +kernel
theorem ne_k3:("each":Str) ≠ "name":=by decide +kernel
theorem ne_k4:("flat":Str) ≠ "bands":=by decide +kernel
theorem ne_k5:("flat":Str) ≠ "steps":=by decide +kernel
theorem ne_k6:("flat":Str) ≠ "blocks":=by decide +kernel
theorem ne_k7:("flat":Str) ≠ "name":=by decide +kernel
theorem b93:("flat":Str) ≠ "each":=by decide +kernel
theorem ne_k9:("steps":Str) ≠ "bands":=by decide +kernel
theorem b98:("blocks":Str) ≠ "bands":=by decide +kernel
theorem b97:("blocks":Str) ≠ "steps":=by decide +kernel
theorem b96:("name":Str) ≠ "bands":=by decide +kernel
theorem b95:("name":Str) ≠ "steps":=by decide +kernel
theorem b94:("name":Str) ≠ "blocks":=by decide +kernel
theorem b58:("name":Str) ≠ "each":=by decide +kernel
local macro_rules | `(tactic| walk_at "kd")=>`(tactic| try simp only [eqT,neT,eqF ne_k0,eqF ne_k1,eqF ne_k2,eqF ne_k3,eqF ne_k4,eqF ne_k5,eqF ne_k6,eqF ne_k7,eqF b93,eqF ne_k9,eqF b98,eqF b97,eqF b96,eqF b95,eqF b94,eqF b58,neF b93,neF b58,a0d])
theorem b8a(c sc:Int)(hs:1<=sc/\sc<=10^38):∃rs,Mh [.int c,.int sc]=some (.ow (rs.map Pr))/\(rs≠[]/\rs.length<=9)/\∀q∈rs,Sh q.1/\Sh q.2:=by
 have key:Wo (Mh [.int c,.int sc]) λx=>∃rs,x=.ow (rs.map Pr)/\(rs≠[]/\rs.length<=9)/\∀q∈rs,Sh q.1/\Sh q.2:=by
  refine B8.mpr ?_
  unfold Y4
  obtain ⟨a,ea,a0,a1⟩:=t5 c 30 sc (by decide) (by lia)
  obtain ⟨b,eb,b0,b1⟩:=t5 c 31 3 (by decide) (by decide)
  obtain ⟨m,em,m0,m1⟩:=t5 c 32 2 (by decide) (by decide)
  walk_at "v1"
  rw [ea]
  walk_at "v1"
  rw [eb]
  walk_at "v1"
  have hp0:0<=a*b:=LC a0 b0
  have hp1:a*b<=10^38*2:=LB (by lia) (by lia) b0 (by decide)
  refine ⟨.inr (.inl (by lia)),by walk_at "sc",?_⟩
  generalize a*b=ab at *
  rw [em]
  walk_at "v1"
  refine ⟨by walk_at "sc",?_⟩
  refine Yh _ _ (λk env=>∃x4,∃(rs:List (Int×Int)) (top:Int),env=[.sh (.int c),.sh (.int sc),.ow (rs.map Pr),.sh (.int top),x4]/\rs.length=k/\0<=top/\top<=10^38+k*(10^38+1)/\∀q∈rs,Sh q.1/\Sh q.2) (λk env hk h=>?_) (λenv h=>?_) ⟨_,[],_,rfl,rfl,by lia,by lia,λq hq=>(nomatch hq)⟩
  .obtain ⟨x4,rs,top,rfl,hl,t0,t1,hq⟩:=h
   obtain ⟨p,ep,p0,p1⟩:=X8 c (33+(0+(k:Int))) (by lia)
   obtain ⟨n,en,n0,n1⟩:=t5 c (40+(0+(k:Int))) sc (by lia) (by lia)
   walk_at "v1"
   rw [ep]
   walk_at "v1"
   refine ⟨by rw [c6];lia,?_⟩
   rw [en]
   walk_at "v1"
   refine ⟨_,rs++[(top,p)],_,by rw [Ak];rfl,by simp [hl],by lia,by lia,λq l8=>?_⟩
   rcases zK.mp l8 with z | z
   .exact hq q z
   .rw [AL.mp z];unfold Sh;dsimp only;lia
  .obtain ⟨x4,rs,top,rfl,hl,t0,t1,hq⟩:=h
   walk_at "vc"
   refine ⟨rs,rfl,⟨?_,by lia⟩,hq⟩
   intro z
   rw [z] at hl
   simp at hl
   lia
 obtain ⟨x,e,rs,rfl,h⟩:=key
 exact ⟨rs,e,h⟩
theorem b3P(ws:List Str){w:Int}(w0:0<=w)(w1:w<ws.length):∃x∈ws,L2.f' (ws.map D.str) w=some (.str x):=by
 refine ⟨ws[w.toNat]'(by omega),AH _,?_⟩
 unfold L2.f' xM
 rw [c6,if_pos w0,if_pos (by omega)]
 show (ws.map D.str)[w.toNat]?=_
 rw [zq,md (by omega)]
 rfl
theorem c0Q(c sc:Int)(hs:1<=sc/\sc<=10^38)(ws:List Str)(hw:ws.length<=100)(HL:∀x∈ws,x.length<=100){r:Bool}:∃t:Tr,Mf [.int c,.int sc,.lst r (ws.map D.str)]=some (.sh t.d)/\t.ok/\t.fG=0/\t.sz=1/\∀x∈t.ns,x∈ws:=by
 have key:Wo (Mf [.int c,.int sc,.lst r (ws.map D.str)]) λx=>∃t:Tr,x=.sh t.d/\t.ok/\t.fG=0/\t.sz=1/\∀x∈t.ns,x∈ws:=by
  refine B'.mpr ?_
  unfold Y2
  obtain ⟨t,et,t0,t1⟩:=t5 c 1 7 (by decide) (by decide)
  obtain ⟨p,ep,p0,p1⟩:=X8 c 2 (by decide)
  obtain ⟨a,ea,a0,a1⟩:=t5 c 3 sc (by decide) (by omega)
  obtain ⟨b,eb,b0,b1⟩:=t5 c 4 2 (by decide) (by decide)
  obtain ⟨u,eu,u0,u1⟩:=t5 c 5 sc (by decide) (by omega)
  obtain ⟨v,ev,v0,v1⟩:=t5 c 6 4 (by decide) (by decide)
  obtain ⟨s,es,s0,s1⟩:=t5 c 7 sc (by decide) (by omega)
  obtain ⟨m,em,m0,m1⟩:=t5 c 8 3 (by decide) (by decide)
  obtain ⟨rs,er,hr⟩:=b8a c sc hs
  have l0:0<=a*b:=LC a0 b0
  have l1:a*b<=10^38*1:=LB (by omega) (by omega) b0 (by decide)
  have h0:0<=u*v:=LC u0 v0
  have h1:u*v<=10^38*3:=LB (by omega) (by omega) v0 (by decide)
  have c1:MulC a b:=.inr (.inl (by omega))
  have c2:MulC u v:=.inr (.inl (by omega))
  have ht:t=0\/t=1\/t=2\/t=3\/t=4\/t=5\/t=6:=by omega
  walk_at "v1"
  rw [et]
  walk_at "v1"
  rcases ht with rfl | rfl | rfl | rfl | rfl | rfl | rfl
  all_goals
   rw [show L2.f' _ _=some _ from rfl,a0d]
   rw [ep];walk_at "v1"
   rw [ea];walk_at "v1"
   rw [eb];walk_at "v1"
   refine ⟨c1,?_⟩
   rw [eu];walk_at "v1"
   rw [ev];walk_at "v1"
   refine ⟨c2,?_⟩
   generalize a*b=ab at *
   generalize u*v=uv at *
   rw [a3s]
   walk_at "v1"
   walk_at "kd"
   walk_at "v1"
   try (rw [a3s];walk_at "v1";walk_at "kd";walk_at "v1")
   try (rw [a3s];walk_at "v1";walk_at "kd";walk_at "v1")
  .rw [if_neg id,show L2.f' _ 0=some _ from rfl,a0d]
   exact ⟨.each p ab (ab+uv),rfl,by simp only [Tr.ok,Sh];omega,rfl,rfl,λ_ z=>(nomatch z)⟩
  .rw [if_pos trivial,show L2.f' _ 1=some _ from rfl,a0d]
   exact ⟨.flat p ab (ab+uv),rfl,by simp only [Tr.ok,Sh];omega,rfl,rfl,λ_ z=>(nomatch z)⟩
  .rw [er,a0d]
   exact ⟨.bands rs,rfl,hr,rfl,rfl,λ_ z=>(nomatch z)⟩
  .rw [er,a0d]
   exact ⟨.steps rs,rfl,hr,rfl,rfl,λ_ z=>(nomatch z)⟩
  .rw [es]
   walk_at "v1"
   rw [em]
   walk_at "v1"
   exact ⟨.blocks (1+s) p (1+m),rfl,by simp only [Tr.ok,Sh];omega,rfl,rfl,λ_ z=>(nomatch z)⟩
  .rw [c6]
   refine ⟨λhp=>?_,λ_=>?_⟩
   .obtain ⟨w,ew,w0,w1⟩:=t5 c 9 ws.length (by decide) (by omega)
    obtain ⟨x,hx,ex⟩:=b3P ws w0 w1
    rw [ew,a0d]
    exact ⟨_,ex,.name x,rfl,HL x hx,rfl,rfl,λy hy=>by rw [AL.mp hy];exact hx⟩
   .rw [if_pos trivial,show L2.f' _ 1=some _ from rfl,a0d]
    exact ⟨.flat p ab (ab+uv),rfl,by simp only [Tr.ok,Sh];omega,rfl,rfl,λ_ z=>(nomatch z)⟩
  .rw [c6]
   refine ⟨λhp=>?_,λ_=>?_⟩
   .obtain ⟨w,ew,w0,w1⟩:=t5 c 9 ws.length (by decide) (by omega)
    obtain ⟨x,hx,ex⟩:=b3P ws w0 w1
    rw [ew,a0d]
    exact ⟨_,ex,.name x,rfl,HL x hx,rfl,rfl,λy hy=>by rw [AL.mp hy];exact hx⟩
   .rw [if_pos trivial,show L2.f' _ 1=some _ from rfl,a0d]
    exact ⟨.flat p ab (ab+uv),rfl,by simp only [Tr.ok,Sh];omega,rfl,rfl,λ_ z=>(nomatch z)⟩
 obtain ⟨x,e,t,rfl,h⟩:=key
 exact ⟨t,e,h⟩
theorem b42(t:Tr)(ht:t.ok)(c sc:Int)(hs:1<=sc/\sc<=10^38)(k:Str)(hk:k = "only" \/ k = "after" \/ k = "fee"):∃u:Tr,Mz [t.d,.str k,.int c,.int sc]=some (.sh u.d)/\u.ok/\u.fG=t.fG+1/\u.sz=t.sz+1/\u.ns=t.ns:=by
 have key:Wo (Mz [t.d,.str k,.int c,.int sc]) λx=>∃u:Tr,x=.sh u.d/\u.ok/\u.fG=t.fG+1/\u.sz=t.sz+1/\u.ns=t.ns:=by
  refine Ad.mpr ?_
  unfold Zh
  obtain ⟨a,ea,a0,a1⟩:=t5 c 50 sc (by decide) (by omega)
  obtain ⟨b,eb,b0,b1⟩:=t5 c 51 2 (by decide) (by decide)
  obtain ⟨d,ed,d0,d1⟩:=t5 c 52 (3*sc) (by decide) (by omega)
  obtain ⟨e,ee,e0,e1⟩:=t5 c 53 sc (by decide) (by omega)
  obtain ⟨p,ep,p0,p1⟩:=X8 c 54 (by decide)
  have l0:0<=a*b:=LC a0 b0
  have l1:a*b<=10^38*1:=LB (by omega) (by omega) b0 (by decide)
  rcases hk with rfl | rfl | rfl
  .refine LO (by kernel_rfl) ?_
   walk_at "v1"
   rw [ea]
   walk_at "v1"
   rw [eb]
   walk_at "v1"
   refine ⟨.inr (.inl (by omega)),?_⟩
   generalize a*b=ab at *
   refine ⟨.inl (by decide),?_⟩
   rw [ed]
   walk_at "v1"
   exact ⟨.only t ab (ab+d),rfl,by simp only [Tr.ok,Sh];exact ⟨ht,by omega⟩,rfl,rfl,rfl⟩
  .refine a9p (by kernel_rfl) (b6K (by kernel_rfl) ?_)
   walk_at "v1"
   rw [ee]
   walk_at "v1"
   exact ⟨.after t e,rfl,by simp only [Tr.ok,Sh];exact ⟨ht,by omega⟩,rfl,rfl,rfl⟩
  .refine a9p (by kernel_rfl) (a9p (by kernel_rfl) ?_)
   walk_at "v1"
   rw [ep]
   walk_at "v1"
   exact ⟨.fee t p,rfl,by simp only [Tr.ok,Sh];exact ⟨ht,by omega⟩,rfl,rfl,rfl⟩
 obtain ⟨x,e,t,rfl,h⟩:=key
 exact ⟨t,e,h⟩
theorem b6s:∀t:Tr,t.fG<t.sz:=by
 intro t
 induction t<;>simp only [Tr.fG,Tr.sz]<;>omega
noncomputable def AZ:List Tr->Nat
 | []=>0
 | t::ts=>t.sz+AZ ts
theorem L4:∀a b:List Tr,AZ (a++b)=AZ a+AZ b
 | [],b=>by simp [AZ]
 | t::a,b=>by
  show t.sz+AZ (a++b)=t.sz+AZ a+AZ b
  rw [L4 a b]
  omega
def Cc(ws:List Str)(t:Tr):Prop:=t.ok/\∀x∈t.ns,x∈ws
theorem Nh{c:En->Option Bool}{F G:SF}{env:En}{Q:Fl×En->Prop}(h:c env=some true)(g:Wo (F env) Q):Wo (gf c F G env) Q:=by
 rw [a3s,h,a0d]
 exact ⟨λ_=>g,λz=>(nomatch z)⟩
theorem Ni{c:En->Option Bool}{F G:SF}{env:En}{Q:Fl×En->Prop}(h:c env=some false)(g:Wo (G env) Q):Wo (gf c F G env) Q:=by
 rw [a3s,h,a0d]
 exact ⟨λz=>(nomatch z),λ_=>g⟩
theorem b5Z{i:Nat}{env:En}{xs:List D}{x:D}(h:env[i]?=some (.ow (xs++[x]))):CS i env=some (x,env.set i (.ow xs)):=by
 refine Wo.eq ?_
 rw [b8B,h,b08]
 refine ⟨x,by simp,?_⟩
 simp
theorem c0M(cs:List Int)(hc:1<=cs.length/\cs.length<=3)(sc:Int)(hs:1<=sc/\sc<=10^38)(ws:List Str)(hw:ws.length<=100)(HL:∀x∈ws,x.length<=100){r r2:Bool}:∃t:Tr,Mi [.lst r2 (cs.map D.int),.int sc,.lst r (ws.map D.str)]=some (.sh t.d)/\Cc ws t/\t.sz<=5:=by
 have key:Wo (Mi [.lst r2 (cs.map D.int),.int sc,.lst r (ws.map D.str)]) λx=>∃t:Tr,x=.sh t.d/\Cc ws t/\t.sz<=5:=by
  refine B7.mpr ?_
  unfold Y5
  walk_at "o1"
  refine L5 D.int (λpre env=>∃(ts:List Tr) (x4 x5 x6:Sl),env=[.sh (.lst r2 (cs.map D.int)),.sh (.int sc),.sh (.lst r (ws.map D.str)),.ow (ts.map Tr.d),x4,x5,x6]/\(∀t∈ts,Cc ws t)/\AZ ts<=pre.length/\ts.length<=pre.length/\(pre≠[]->ts≠[])) cs (λpre c post env e h=>?_) (λenv h=>?_) ⟨[],_,_,_,rfl,λ_ z=>(nomatch z),dF _,dF _,λz=>(z rfl).elim⟩
  .obtain ⟨ts,x4,x5,x6,rfl,hf,hz,hl,su⟩:=h
   obtain ⟨k,ek,k0,k1⟩:=t5 c 0 13 (by decide) (by decide)
   have V2:pre.length<3:=by
    have:=congrArg Pj e
    simp at this
    omega
   walk_at "o1"
   rw [ek]
   walk_at "o1"
   by_cases hb:9<k/\ts≠[]
   .obtain ⟨ts,t,rfl⟩:∃a b,ts=a++[b]:=by
     rcases RY ts with z | ⟨a,b,z⟩
     .exact (hb.2 z).elim
     .exact ⟨a,b,by rw [z,RX]⟩
    refine Nh (Wo.eq ?_) ?_
    .walk_at "o1"
     rw [Ak,ma]
     refine ⟨λ_=>?_,λz=>(z hb.1).elim⟩
     simp
    .have hft:=hf t (by simp)
     obtain ⟨kd,hkd,ekd⟩:∃kd:Str,(kd = "only" \/ kd = "after" \/ kd = "fee")/\L2.f' [D.str "only",D.str "after",D.str "fee"] (k-10)=some (.str kd):=by
      have:k=10\/k=11\/k=12:=by omega
      rcases this with rfl | rfl | rfl
      .exact ⟨_,.inl rfl,rfl⟩
      .exact ⟨_,.inr (.inl rfl),rfl⟩
      .exact ⟨_,.inr (.inr rfl),rfl⟩
     obtain ⟨u,eu,u1,u2,u3,u4⟩:=b42 t hft.1 c sc hs kd hkd
     rw [L4] at hz
     simp only [AZ] at hz
     rw [ma,E1] at hl
     rw [b1c]
     simp only [c5H,c5I,b08]
     rw [b3V,a9j,b5Z (xs:=ts.map Tr.d) (x:=t.d) (by rw [Ak];rfl),a0d]
     simp only [DF,Cp]
     walk_at "o1"
     rw [ekd]
     walk_at "o1"
     rw [eu]
     walk_at "o1"
     refine ⟨by rw [c6];omega,ts++[u],_,_,_,by rw [Ak];rfl,λz K7=>?_,?_,?_,λ_=>by simp⟩
     .rcases zK.mp K7 with q | q
      .exact hf z (Hg _ q)
      .rw [AL.mp q]
       exact ⟨u1,by rw [u4];exact hft.2⟩
     .rw [L4]
      simp only [AZ,ma,E1]
      omega
     .simp only [ma,E1]
      omega
   .refine Ni (Wo.eq ?_) ?_
    .walk_at "o1"
     intro h9
     have:ts=[]:=c6y.mp λz=>hb ⟨h9,z⟩
     rw [this]
     simp
    .obtain ⟨u,eu,u1,u2,u3,u4⟩:=c0Q c sc hs ws hw HL (r:=r)
     walk_at "o1"
     rw [eu]
     walk_at "o1"
     refine ⟨by rw [c6];omega,ts++[u],_,_,_,by rw [Ak];rfl,λz K7=>?_,?_,?_,λ_=>by simp⟩
     .rcases zK.mp K7 with q | q
      .exact hf z q
      .rw [AL.mp q]
       exact ⟨u1,u4⟩
     .rw [L4]
      simp only [AZ,ma,E1]
      omega
     .simp only [ma,E1]
      omega
  .obtain ⟨ts,x4,x5,x6,rfl,hf,hz,hl,su⟩:=h
   rw [a27,a2W,b1a]
   obtain ⟨c0,hc0⟩:∃c0,L2.f' (cs.map D.int) 0=some (.int c0):=by
    cases cs with
    | nil=>simp at hc
    | cons a as=>exact ⟨a,b8j⟩
   obtain ⟨m,em,m0,m1⟩:=t5 c0 55 4 (by decide) (by decide)
   refine Th (λn env=>∃(ts:List Tr) (x4 x5 x6:Sl),env=[.sh (.lst r2 (cs.map D.int)),.sh (.int sc),.sh (.lst r (ws.map D.str)),.ow (ts.map Tr.d),x4,x5,x6]/\(∀t∈ts,Cc ws t)/\AZ ts+ts.length<=6/\ts.length=n/\ts≠[]) (λn env h=>?_) 1000000 ts.length (by omega) ⟨ts,x4,x5,x6,rfl,hf,by omega,rfl,su (λz=>by rw [z] at hc;simp at hc)⟩
   obtain ⟨ts,x4,x5,x6,rfl,hf,hz,hl,su⟩:=h
   walk_at "o1"
   rw [c6]
   refine ⟨λh1=>?_,λh1=>?_⟩
   .obtain ⟨ts,a,b,rfl⟩:∃us a b,ts=us++[a,b]:=by
     rcases RY ts with z | ⟨us,b,z⟩
     .exact (su z).elim
     .rw [RX] at z
      rcases RY us with y | ⟨vs,a,y⟩
      .rw [z,y] at h1;simp at h1
      .exact ⟨vs,a,b,by rw [z,y,RX,Ly];rfl⟩
    have hsz:=L4 ts [a,b]
    simp only [AZ] at hsz
    rw [hsz,ma] at hz
    rw [ma] at hl
    simp only [lI,Xa] at hz hl
    have Fv:=hf a (by simp)
    have HQ:=hf b (by simp)
    rw [show (Co Tr.d (ts++[a,b]))[(ts++[a,b]).length-1]?=some b.d by simp,a0d]
    refine ⟨by decide,?_⟩
    rw [show (Co Tr.d (ts++[a,b])).dropLast=ts.map Tr.d++[a.d] by simp]
    rw [b1c]
    simp only [c5H,c5I,b08]
    rw [b5A,b30]
    walk_at "o1"
    rw [hc0]
    walk_at "o1"
    rw [em]
    walk_at "o1"
    have fin:∀u:Tr,Cc ws u->u.sz=a.sz+b.sz+1->(∀t∈ts++[u],Cc ws t)/\AZ (ts++[u])+(ts++[u]).length<=6/\(ts++[u]).length=ts.length+1/\ts++[u]≠[]:=λu hu GR=>by
     refine ⟨λz K7=>?_,?_,by simp,by simp⟩
     .rcases zK.mp K7 with q | q
      .exact hf z (Hg _ q)
      .rw [AL.mp q]
       exact hu
     .rw [L4,ma]
      simp only [AZ,E1]
      omega
    have hm4:m=0\/m=1\/m=2\/m=3:=by omega
    rcases hm4 with rfl | rfl | rfl | rfl
    all_goals
     rw [show L2.f' _ _=some _ from rfl,a0d,a9j,b5Z (xs:=ts.map Tr.d) (x:=a.d) rfl,a0d]
     simp only [DF,Cp]
     walk_at "o1"
    .exact ⟨by rw [c6];omega,ts.length+1,by omega,ts++[.or a b],_,_,_,by rw [Ak];rfl,fin (.or a b) ⟨c5r Fv.1 HQ.1,λx hx=>(zK.mp hx).elim (Fv.2 x) (HQ.2 x)⟩ rfl⟩
    .exact ⟨by rw [c6];omega,ts.length+1,by omega,ts++[.plus a b],_,_,_,by rw [Ak];rfl,fin (.plus a b) ⟨c5r Fv.1 HQ.1,λx hx=>(zK.mp hx).elim (Fv.2 x) (HQ.2 x)⟩ rfl⟩
    .exact ⟨by rw [c6];omega,ts.length+1,by omega,ts++[.max a b],_,_,_,by rw [Ak];rfl,fin (.max a b) ⟨c5r Fv.1 HQ.1,λx hx=>(zK.mp hx).elim (Fv.2 x) (HQ.2 x)⟩ rfl⟩
    .exact ⟨by rw [c6];omega,ts.length+1,by omega,ts++[.or a b],_,_,_,by rw [Ak];rfl,fin (.or a b) ⟨c5r Fv.1 HQ.1,λx hx=>(zK.mp hx).elim (Fv.2 x) (HQ.2 x)⟩ rfl⟩
   .obtain ⟨t,rfl⟩:∃t,ts=[t]:=by
     cases ts with
     | nil=>exact (su rfl).elim
     | cons t us=>cases us with
      | nil=>exact ⟨t,rfl⟩
      | cons u us=>simp at h1;omega
    rw [fH,b8j,a0d]
    simp only [AZ,lI,Xa] at hz
    exact ⟨t,rfl,hf t (by simp),by omega⟩
 obtain ⟨x,e,t,rfl,h⟩:=key
 exact ⟨t,e,h⟩
noncomputable def odd(l:List Nat):Nat:=l.countP λc=>!(c==113||c==120||c==122)
theorem b7h:∀w∈ZN,2<=odd (lt w):=by decide +kernel
theorem b2l:∀c,c=113\/c=120\/c=122->c∈A0:=by
 rintro c (rfl | rfl | rfl)<;>decide +kernel
theorem b2F(a b:List Nat):odd (a++b)=odd a+odd b:=by unfold odd;rw [List.countP_append]
theorem b9X{l:List Nat}(h:∀c∈l,c=113\/c=120\/c=122):odd l=0:=by
 unfold odd
 rw [List.countP_eq_zero]
 intro c hc
 rcases h c hc with rfl | rfl | rfl<;>decide
theorem NR(c:Nat):odd [c]<=1:=by
 unfold odd
 exact c6c
theorem YU:∀cs:List Nat,lt (nJ "" (cs.map λc=>⟨#[c]⟩))=cs
 | []=>by decide +kernel
 | [c]=>rfl
 | c::d::cs=>by
  have:=YU (d::cs)
  rw [fH,fH,b7x,<-fH (f:=λc=>(⟨#[c]⟩:Str)),this]
  rfl
theorem b0N:∀cs:List Nat,AS "" (cs.map λc=>⟨#[c]⟩)=cs.length
 | []=>rfl
 | c::cs=>by
  rw [fH,qQ,b0N cs,lI,show ("":Str).length=0 from by decide +kernel,show (⟨#[c]⟩:Str).length=1 from rfl]
  omega
theorem b9K{z:Str}{i:Int}(hz:z.length=3)(h:0<=i/\i<3)(hq:∀c∈lt z,c=113\/c=120\/c=122):∃c,L2.f' z.cps.toList i=some c/\(c=113\/c=120\/c=122):=by
 have hl:(lt z).length=3:=by rw [<-DN];exact hz
 refine ⟨(lt z)[i.toNat]'(by omega),?_,hq _ (AH _)⟩
 show L2.f' (lt z) i=_
 unfold L2.f' xM
 rw [if_pos h.1,if_pos (by omega)]
 show (lt z)[i.toNat]?=_
 rw [md]
theorem z_qxz:("qxz":Str).length=3/\("zxq":Str).length=3/\(∀c∈lt "qxz",c=113\/c=120\/c=122)/\(∀c∈lt "zxq",c=113\/c=120\/c=122):=by decide +kernel
theorem b3H{α:Type}(enc:α->D)(P:D->Prop)(I:En->Prop){g:GF}{fc:En->Option Bool}{fe:En->Option Sl}:∀(xs:List α),(∀a∈xs,∀e,I e->Wo (g (enc a) e) λe1=>I e1/\Wo (fc e1) λb=>b=true/\Wo (fe e1) λr=>P r.d)->∀{e:En},I e->∃ys,tJ g fc fe (xs.map enc) e=some ys/\ys.length=xs.length/\∀y∈ys,P y
 | [],_,e,_=>⟨[],rfl,rfl,λ_ z=>(nomatch z)⟩
 | a::xs,h,e,he=>by
  obtain ⟨e1,g1,p1,b,c1,rfl,r,f1,f2⟩:=h a pd e he
  obtain ⟨ys,h1,h2,h3⟩:=b3H enc P I xs (λa ha=>h a (nT _ ha)) p1
  refine ⟨r.d::ys,?_,by rw [lI,lI,h2],λy hy=>?_⟩
  .refine Wo.eq ?_
   rw [fH,Wo_compC]
   exact ⟨e1,g1,true,c1,λ_=>⟨r,f1,ys,h1,rfl⟩,λz=>(nomatch z)⟩
  .rcases js.mp hy with rfl | hy
   .exact f2
   .exact h3 y hy
def Qx(c:Nat):Prop:=c=113\/c=120\/c=122
theorem b04:∀ys:List D,(∀y∈ys,∃c,y=.str ⟨#[c]⟩/\Qx c)->∃cs:List Nat,ys=(cs.map λc=>(⟨#[c]⟩:Str)).map D.str/\cs.length=ys.length/\∀c∈cs,Qx c
 | [],_=>⟨[],rfl,rfl,λ_ z=>(nomatch z)⟩
 | y::ys,h=>by
  obtain ⟨c,rfl,hc⟩:=h y pd
  obtain ⟨cs,rfl,h1,h2⟩:=b04 ys λy hy=>h y (nT _ hy)
  refine ⟨c::cs,rfl,by rw [lI,lI,h1],λx hx=>?_⟩
  rcases js.mp hx with rfl | hx
  .exact hc
  .exact h2 x hx
theorem part_of{z:Str}{n:Int}(hn:0<=n/\n<5){fe:En->Option Sl}{fr:En->Option (List D)}{env:En}{x:Sl}(hr:fr env=some (fM 0 n.toNat))(hx:env[0]?=some x)(hs:x≠.no)(VI:∃d,x=.sh d)
  (hf:∀k:Nat,k<n.toNat->Wo (fe [.sh (.int (0+k)),x]) λr=>∃c,r.d=.str ⟨#[c]⟩/\Qx c):∃w:Str,Ck (eC (.str "")) (t4 (jt fr [0] 1 (gN 0) jO fe)) env=some (.sh (.str w))/\(∀c∈lt w,Qx c)/\w.length<=n.toNat:=by
 obtain ⟨d,rfl⟩:=VI
 have V3:vW [0] env=some [.sh d]:=by
  unfold vW
  rw [hx]
  rfl
 obtain ⟨ys,h1,h2,h3⟩:=b3H (λk:Nat=>D.int (0+k)) (λy=>∃c,y=.str ⟨#[c]⟩/\Qx c) (λe=>∃y,e=[y,.sh d]) (g:=gN 0) (fc:=jO) (fe:=fe) (nR n.toNat) (λk hk e he=>by
  obtain ⟨y,rfl⟩:=he
  rw [b1S]
  refine ⟨by simp,⟨_,rfl⟩,true,rfl,rfl,?_⟩
  exact (hf k (by simpa using hk)).mono λr hr=>hr) (e:=[.no,.sh d]) ⟨_,rfl⟩
 obtain ⟨cs,rfl,h4,h5⟩:=b04 ys h3
 rw [Lq] at h2
 refine ⟨nJ "" (cs.map λc=>⟨#[c]⟩),Wo.eq (PV (z:="") (ts:=cs.map λc=>⟨#[c]⟩) rfl ?_ (by rw [b0N];omega) rfl),by rw [YU];exact h5,by rw [DN,YU];omega⟩
 unfold t4 jt
 rw [hr,V3]
 show ((if (fM 0 n.toNat).length<=16777216 then (tJ (gN 0) jO fe (fM 0 n.toNat) [Sl.no,.sh d]).map Sl.ow else none).bind λr=>l5 r.d)=_
 have hrr:fM 0 n.toNat=(nR n.toNat).map λk:Nat=>D.int (0+k):=rfl
 rw [hrr,if_pos (by rw [c6,Lq];omega),h1]
 rfl
theorem b7u:A0.length=26:=by decide +kernel
theorem c0h:∀i:Fin 26,A0[i.val]?=some (97+i.val):=by decide +kernel
theorem c0g:∀i:Fin 26,97+i.val∈A0:=by decide +kernel
noncomputable def Lt(m:Int)(k:Nat):Nat:=97+((m+3*k)%26).toNat
theorem Sm(m:Int)(k:Nat):0<=(m+3*k)%26/\(m+3*k)%26<26:=⟨RQ _ (by decide),RB _ (by decide)⟩
theorem c1C(m:Int)(k:Nat):Lt m k∈A0:=by
 have h:=Sm m k
 exact c0g ⟨((m+3*k)%26).toNat,by omega⟩
theorem QF(m:Int)(k:Nat):L2.f' ("abcdefghijklmnopqrstuvwxyz":Str).cps.toList ((m+3*k)%26)=some (Lt m k):=by
 have h:=Sm m k
 have hl:=b7u
 show L2.f' A0 _=_
 unfold L2.f' xM
 rw [if_pos h.1,if_pos (by omega)]
 exact c0h ⟨((m+3*k)%26).toNat,by omega⟩
theorem c1D{m:Int}{j k:Nat}(hj:j<4)(hk:k<4)(h:Lt m j=Lt m k):j=k:=by
 have h1:=Sm m j
 have h2:=Sm m k
 unfold Lt at h
 omega
noncomputable def Wd(a b:Str)(m:Int)(k:Nat):Str:=a++⟨#[Lt m k]⟩++b
theorem P5(a b:Str)(m:Int)(k:Nat):lt (Wd a b m k)=lt a++([Lt m k]++lt b):=by
 unfold Wd
 rw [b0K,b0K,Ly]
 rfl
theorem c1B{a b:Str}{m:Int}{k:Nat}(ha:(∀c∈lt a,Qx c)/\a.length<=3)(hb:(∀c∈lt b,Qx c)/\b.length<=4):Nm (Wd a b m k):=by
 have hl:(Wd a b m k).length=a.length+(1+b.length):=by
  rw [DN,P5,ma,ma,<-DN,<-DN]
  rfl
 refine ⟨⟨by omega,by omega⟩,λc hc=>?_,λho=>?_⟩
 .rw [P5,zK,zK,AL] at hc
  rcases hc with hc | rfl | hc
  .exact b2l c (ha.1 c hc)
  .exact c1C m k
  .exact b2l c (hb.1 c hc)
 .have h1:=b7h _ ho
  rw [P5,b2F,b2F,b9X ha.1,b9X hb.1] at h1
  have:=NR (Lt m k)
  omega
theorem b6x{a b:Str}{m:Int}{j k:Nat}(hj:j<4)(hk:k<4)(h:Wd a b m j=Wd a b m k):j=k:=by
 have h1:=congrArg lt h
 rw [P5,P5] at h1
 have h2:=List.append_cancel_left h1
 have h3:Lt m j=Lt m k:=by
  have:=List.append_cancel_right h2
  simpa using this
 exact c1D hj hk h3
theorem b78(c n:Int)(hn:1<=n/\n<=4):∃a b m,Qr [.int c,.int n]=some (.ow (((nR n.toNat).map λk=>Wd a b m k).map D.str))/\((∀c∈lt a,Qx c)/\a.length<=3)/\((∀c∈lt b,Qx c)/\b.length<=4):=by
 obtain ⟨u,eu,u0,u1⟩:=t5 c 20 4 (by decide) (by decide)
 obtain ⟨v,ev,v0,v1⟩:=t5 c 21 5 (by decide) (by decide)
 obtain ⟨m,em,m0,m1⟩:=t5 c 22 26 (by decide) (by decide)
 obtain ⟨z1,z2,z3,z4⟩:=z_qxz
 obtain ⟨a,ea,ha1,ha2⟩:=part_of (z:="qxz") (n:=u) ⟨u0,by omega⟩ (fr:=yf FH (ai (cG 3 mh (ai (eV 0) (ai (eC (.int 20)) (ai (eC (.int 4)) ag)))) ag)) (env:=[.sh (.int c),.sh (.int n),.sh (.str "abcdefghijklmnopqrstuvwxyz"),.no,.no]) (fe:=AE (eC (.str "qxz")) (cG 3 mh (ai (eV 1) (ai (eV 0) (ai (eC (.int 3)) ag))))) (x:=.sh (.int c))
  (Wo.eq (by walk_at "o1";rw [eu];walk_at "o1")) rfl (λz=>(nomatch z)) ⟨_,rfl⟩ (λk hk=>by
   obtain ⟨w,ew,w0,w1⟩:=t5 c (0+k) 3 (by omega) (by decide)
   obtain ⟨ch,V4,GX⟩:=b9K z1 ⟨w0,w1⟩ z3
   have:cG 3 mh (ai (eV 1) (ai (eV 0) (ai (eC (.int 3)) ag))) [.sh (.int (0+k)),.sh (.int c)]=some (.sh (.int w)):=Wo.eq (by walk_at "o1";rw [ew];walk_at "o1")
   rw [XS rfl this (by rw [z1];decide) V4]
   exact ⟨ch,rfl,GX⟩)
 obtain ⟨b,eb,hb1,hb2⟩:=part_of (z:="zxq") (n:=v) ⟨v0,by omega⟩ (fr:=yf FH (ai (cG 3 mh (ai (eV 0) (ai (eC (.int 21)) (ai (eC (.int 5)) ag)))) ag)) (env:=[.sh (.int c),.sh (.int n),.sh (.str "abcdefghijklmnopqrstuvwxyz"),.sh (.str a),.no]) (fe:=AE (eC (.str "zxq")) (cG 3 mh (ai (eV 1) (ai (af aK (eV 0) (eC (.int 5))) (ai (eC (.int 3)) ag))))) (x:=.sh (.int c))
  (Wo.eq (by walk_at "o1";rw [ev];walk_at "o1")) rfl (λz=>(nomatch z)) ⟨_,rfl⟩ (λk hk=>by
   obtain ⟨w,ew,w0,w1⟩:=t5 c (0+k+5) 3 (by omega) (by decide)
   obtain ⟨ch,V4,GX⟩:=b9K z2 ⟨w0,w1⟩ z4
   have:cG 3 mh (ai (eV 1) (ai (af aK (eV 0) (eC (.int 5))) (ai (eC (.int 3)) ag))) [.sh (.int (0+k)),.sh (.int c)]=some (.sh (.int w)):=Wo.eq (by walk_at "o1";rw [ew];walk_at "o1")
   rw [XS rfl this (by rw [z2];decide) V4]
   exact ⟨ch,rfl,GX⟩)
 refine ⟨a,b,m,Wo.eq (AX.mpr ?_),⟨ha1,by omega⟩,hb1,by omega⟩
 unfold YO
 rw [a2W,a2R]
 refine ⟨_,rfl,by simp,?_⟩
 simp only [DF,Cp,a27,Sl.d]
 rw [a2W,a2R,ea,a0d]
 refine ⟨by simp,?_⟩
 simp only [DF,Cp,a27,Sl.d]
 rw [a2W,a2R,eb,a0d]
 refine ⟨by simp,?_⟩
 simp only [DF,Cp,a27,Sl.d]
 rw [a06]
 walk_at "o1"
 have hlw:("abcdefghijklmnopqrstuvwxyz":Str).length<=100:=by decide +kernel
 refine ⟨by unfold fM;rw [c6,Lq];omega,_,DL.comp_map (λk:Nat=>D.int (0+(k:Int))) (λk=>.str (Wd a b m k)) (λe=>∃y,e=[y,.sh (.str a),.sh (.str "abcdefghijklmnopqrstuvwxyz"),.sh (.int c),.sh (.str b)]) (nR n.toNat) (λk hk e he=>?_) ⟨_,rfl⟩,?_⟩
 .obtain ⟨y,rfl⟩:=he
  have hx:af jH (af aK (cG 3 mh (ai (eV 3) (ai (eC (.int 22)) (ai (eC (.int 26)) ag)))) (af nB (eC (.int 3)) (eV 0))) (eC (.int 26)) [.sh (.int (0+(k:Int))),.sh (.str a),.sh (.str "abcdefghijklmnopqrstuvwxyz"),.sh (.int c),.sh (.str b)]=some (.sh (.int ((m+3*k)%26))):=by
   refine Wo.eq ?_
   walk_at "o1"
   rw [em]
   walk_at "o1"
   refine ⟨.inl (by decide),?_⟩
   rw [show (0:Int)+k=k by omega]
  rw [b1S]
  refine ⟨by simp,⟨_,rfl⟩,true,rfl,rfl,?_⟩
  simp only [Cp]
  rw [a7I,a7I]
  walk_at "o1"
  rw [XS rfl hx (by omega) (QF m k)]
  walk_at "o1"
  simp only [pC]
  refine ⟨?_,?_,rfl⟩
  .show a.length+1<=_
   omega
  .show a.length+1+b.length<=_
   omega
 .rw [Bh]
  rfl
theorem b44(ns:List Int)(hl:ns.length<=63)(most:Int)(h1:0<most)(h2:most<=1000){r:Bool}:∃l:List Int,Mx [.lst r (ns.map D.int),.int 2,.int most]=some (.ow (l.map D.int))/\l.length<=1000:=by
 have key:Wo (Mx [.lst r (ns.map D.int),.int 2,.int most]) λs=>∃l:List Int,s=.ow (l.map D.int)/\l.length<=1000:=by
  refine Ae.mpr ?_
  unfold Zg
  walk_at "v1"
  rw [G8 ns 2 (by decide)]
  walk_at "v1"
  rw [c6]
  refine Yh _ _ (λk env=>∃x4 x5,∃l:List Int,env=[.sh (.lst r (ns.map D.int)),.sh (.int 2),.sh (.int most),.ow (l.map D.int),x4,x5]/\(l.length:Int)<=most) (λk env hk h=>?_) (λenv h=>?_) ⟨_,_,[_],rfl,by simp;omega⟩
  .obtain ⟨x4,x5,l,rfl,hm⟩:=h
   walk_at "vc"
   rw [c6]
   refine ⟨λjG=>?_,λOy=>?_⟩
   .rw [L8 0 (by omega) (by omega)]
    walk_at "vc"
    generalize ns.getD _ 0=c
    refine ⟨by walk_at "sc",by decide,by omega,?_⟩
    exact ⟨_,_,l++[c%10^60],by rw [Ak];rfl,by simp;omega⟩
   .have m1:=RQ (2+1+(k:Int)) (show most≠0 by omega)
    have m2:=RB (2+1+(k:Int)) h1
    have hlm:(l.length:Int)=most:=by omega
    rw [L8 0 m1 (by omega),L8 0 (by omega) (by omega)]
    walk_at "vc"
    generalize ns.getD _ 0=c
    generalize hx:l.getD _ 0=x
    generalize (2+1+(k:Int))%most=j at *
    have hj:xM l.length j=some j.toNat:=by
     unfold xM
     rw [if_pos m1,if_pos (by omega)]
    rw [hj]
    walk_at "vc"
    refine ⟨by omega,.inr (.inl (by decide)),by walk_at "sc",by decide,by walk_at "sc",by decide,by omega,?_⟩
    exact ⟨_,_,l.set j.toNat ((x*10007+c%10^60)%10^60),by rw [List.map_set],by rw [List.length_set];omega⟩
  .obtain ⟨x4,x5,l,rfl,hm⟩:=h
   walk_at "vc"
   exact ⟨l,rfl,by omega⟩
 obtain ⟨x,e,l,rfl,h⟩:=key
 exact ⟨l,e,h⟩
theorem b02{α:Type}(enc:α->D)(P:D->Prop)(I:En->Prop){g:GF}{fc:En->Option Bool}{fe:En->Option Sl}:∀(xs:List α),(∀a∈xs,∀e,I e->Wo (g (enc a) e) λe1=>I e1/\Wo (fc e1) λb=>b=true->Wo (fe e1) λr=>P r.d)->∀{e:En},I e->∃ys,tJ g fc fe (xs.map enc) e=some ys/\ys.length<=xs.length/\∀y∈ys,P y
 | [],_,e,_=>⟨[],rfl,dF _,λ_ z=>(nomatch z)⟩
 | a::xs,h,e,he=>by
  obtain ⟨e1,g1,p1,b,c1,h4⟩:=h a pd e he
  obtain ⟨ys,h1,h2,h3⟩:=b02 enc P I xs (λa ha=>h a (nT _ ha)) p1
  cases b with
  | false =>
   refine ⟨ys,Wo.eq ?_,by rw [lI];omega,h3⟩
   rw [fH,Wo_compC]
   exact ⟨e1,g1,false,c1,λz=>(nomatch z),λ_=>⟨ys,h1,rfl⟩⟩
  | true =>
   obtain ⟨r,f1,f2⟩:=h4 rfl
   refine ⟨r.d::ys,Wo.eq ?_,by rw [lI,lI];omega,λy hy=>?_⟩
   .rw [fH,Wo_compC]
    exact ⟨e1,g1,true,c1,λ_=>⟨r,f1,ys,h1,rfl⟩,λz=>(nomatch z)⟩
   .rcases js.mp hy with rfl | hy
    .exact f2
    .exact h3 y hy
theorem b29:∀ys:List D,(∀y∈ys,∃i:Int,y=.int i)->∃l:List Int,ys=l.map D.int
 | [],_=>⟨[],rfl⟩
 | y::ys,h=>by
  obtain ⟨i,rfl⟩:=h y pd
  obtain ⟨l,rfl⟩:=b29 ys λy hy=>h y (nT _ hy)
  exact ⟨i::l,rfl⟩
noncomputable def rk(a b:Str)(m:Int)(x:Str):Nat:=if x=Wd a b m 0 then 0 else if x=Wd a b m 1 then 1 else if x=Wd a b m 2 then 2 else 3
theorem b9A{a b:Str}{m:Int}{k:Nat}(h:k<4):rk a b m (Wd a b m k)=k:=by
 have h':∀j,j<4->Wd a b m k=Wd a b m j->k=j:=λj hj=>b6x h hj
 unfold rk
 by_cases h0:k=0
 .subst h0;rw [if_pos rfl]
 .rw [if_neg λz=>h0 (h' 0 (by decide) z)]
  by_cases h1:k=1
  .subst h1;rw [if_pos rfl]
  .rw [if_neg λz=>h1 (h' 1 (by decide) z)]
   by_cases h2:k=2
   .subst h2;rw [if_pos rfl]
   .rw [if_neg λz=>h2 (h' 2 (by decide) z)];omega
structure Bg(a b:Str)(m:Int)(n:Nat)(L:List (Str×Tr)):Prop where
 ks:L.map (·.1)=(nR n).map λk=>Wd a b m k
 ok:∀q∈L,q.2.ok/\q.2.sz<=5
 dn:∀q∈L,∃j,j<n/\q.1=Wd a b m j/\∀x∈q.2.ns,∃i,i<j/\x=Wd a b m i
theorem Bg.bk{a b:Str}{m:Int}{n:Nat}{L:List (Str×Tr)}(h:Bg a b m n L)(hn:n<=4){M:List (Str×Tr)}(hp:M.Perm L):Bk M (rk a b m):=by
 have hm:=hp.map (·.1)
 have hl:L.length=n:=by
  have:=congrArg Pj h.ks
  simpa using this
 have HI:∀i,i<n->Wd a b m i∈M.map (·.1):=λi hi=>by
  rw [hm.mem_iff,h.ks]
  exact BW.mpr ⟨i,E3.mpr hi,rfl⟩
 refine ⟨?_,λq hq=>?_,λq hq x hx=>?_,λq hq x hx=>?_,by rw [hp.length_eq];omega⟩
 .rw [hm.nodup_iff,h.ks]
  refine RN.mpr ?_
  refine List.Pairwise.imp_of_mem (R:=(·≠·)) (λ{i j} hi hj AB z=>?_) List.nodup_range
  have hi:=E3.mp hi
  have hj:=E3.mp hj
  exact AB (b6x (by omega) (by omega) z)
 .have h1:=h.ok q (hp.mem_iff.mp hq)
  have:=b6s q.2
  exact ⟨h1.1,by omega,by omega⟩
 .obtain ⟨j,hj,e,h2⟩:=h.dn q (hp.mem_iff.mp hq)
  obtain ⟨i,hi,rfl⟩:=h2 x hx
  exact HI i (by omega)
 .obtain ⟨j,hj,e,h2⟩:=h.dn q (hp.mem_iff.mp hq)
  obtain ⟨i,hi,rfl⟩:=h2 x hx
  rw [e,b9A (by omega),b9A (by omega)]
  exact hi
theorem Bg.add{a b:Str}{m:Int}{n:Nat}{L:List (Str×Tr)}(h:Bg a b m n L){t:Tr}(ht:Cc ((nR n).map λk=>Wd a b m k) t)(hz:t.sz<=5):Bg a b m (n+1) (L++[(Wd a b m n,t)]):=by
 refine ⟨?_,λq hq=>?_,λq hq=>?_⟩
 .rw [Ak,h.ks,List.range_succ,Ak]
  rfl
 .rcases zK.mp hq with hq | hq
  .exact h.ok q hq
  .obtain rfl:=AL.mp hq
   exact ⟨ht.1,hz⟩
 .rcases zK.mp hq with hq | hq
  .obtain ⟨j,hj,e⟩:=h.dn q hq
   exact ⟨j,by omega,e⟩
  .obtain rfl:=AL.mp hq
   refine ⟨n,by omega,rfl,λx hx=>?_⟩
   obtain ⟨i,hi,e⟩:=BW.mp (ht.2 x hx)
   exact ⟨i,E3.mp hi,e.symm⟩
theorem O0(l:List Int)(hl:l.length<=1000)(n k c:Int)(hn:0<n){x0:D}{x1 x3 x5 x7:Sl}(h0:CD [x0,.int 0]=some (.sh (.int c))):∃ys:List Int,af aK (jt (yf FH (ai (qr (bV 4)) ag)) [4,2,6] 1 (gN 0) (eF (af cx (af jH (eV 0) (eV 2)) (eV 3))) (cX (bV 1) (eV 0))) (dW (ai (af aK (cG 2 CD (ai (eV 0) (ai (eC (.int 0)) ag))) (eV 6)) ag)) [.sh x0,x1,.sh (.int n),x3,.sh (.lst false (l.map D.int)),x5,.sh (.int k),x7]=some (.ow ((ys++[c+k]).map D.int))/\ys.length<=1000:=by
 obtain ⟨ys,e1,e2,e3⟩:=b02 (λk:Nat=>D.int (0+(k:Int))) (λd=>∃i:Int,d=.int i) (λe=>∃y,e=[y,.sh (.lst false (l.map D.int)),.sh (.int n),.sh (.int k)]) (g:=gN 0) (fc:=eF (af cx (af jH (eV 0) (eV 2)) (eV 3))) (fe:=cX (bV 1) (eV 0)) (nR l.length) (λj hj e he=>by
  obtain ⟨y,rfl⟩:=he
  have hj:=E3.mp hj
  rw [b1S]
  refine ⟨by simp,⟨_,rfl⟩,?_⟩
  simp only [Cp]
  walk_at "o1"
  refine ⟨by omega,λ_=>?_⟩
  rw [L8 0 (by omega) (by omega)]
  walk_at "o1"
  exact ⟨_,rfl⟩) (e:=[.no,.sh (.lst false (l.map D.int)),.sh (.int n),.sh (.int k)]) ⟨_,rfl⟩
 obtain ⟨zs,rfl⟩:=b29 ys e3
 rw [c6,Lq] at e2
 refine ⟨zs,Wo.eq ?_,by omega⟩
 rw [a7I]
 walk_at "o1"
 refine ⟨by unfold fM;simp;omega,?_⟩
 rw [show fM 0 (↑(Co D.int l).length:Int).toNat=Co (λk:Nat=>D.int (0+(k:Int))) (nR l.length) by unfold fM;simp,e1]
 walk_at "o1"
 rw [h0]
 walk_at "o1"
 refine ⟨by rw [c6];omega,?_⟩
 rw [Ak]
 rfl
theorem c0R(ns:List Int)(hl:ns.length<=63){r:Bool}:∃a b m n,∃L M:List (Str×Tr),IH [.lst r (ns.map D.int)]=some (.ow (M.map Pd))/\Bg a b m n L/\M.Perm L/\n<=4/\((∀c∈lt a,Qx c)/\a.length<=3)/\((∀c∈lt b,Qx c)/\b.length<=4):=by
 have key:Wo (IH [.lst r (ns.map D.int)]) λs=>∃a b m n,∃L M:List (Str×Tr),s=.ow (M.map Pd)/\Bg a b m n L/\M.Perm L/\n<=4/\((∀c∈lt a,Qx c)/\a.length<=3)/\((∀c∈lt b,Qx c)/\b.length<=4):=by
  have h0:=G8 ns 0 (by decide) (r:=r)
  have h1:=G8 ns 1 (by decide) (r:=r)
  generalize ns.getD (0:Int).toNat 0=c0 at *
  generalize ns.getD (1:Int).toNat 0=c1 at *
  refine Ca.mpr ?_
  unfold Y1
  rw [a2W]
  walk_at "o1"
  rw [h0]
  walk_at "o1"
  refine ⟨by walk_at "sc",by walk_at "sc",b3R [9,10^6,10^38] (by omega) (by simp;omega) (λsc BJ=>?_)⟩
  have hs:1<=sc/\sc<=10^38:=by
   simp only [js,DD,or_false] at BJ
   rcases BJ with rfl | rfl | rfl<;>decide
  refine ⟨by walk_at "sc",?_⟩
  have hn:1<=1+c0/3%4/\1+c0/3%4<=4:=by omega
  generalize 1+c0/3%4=n at *
  obtain ⟨a,b,m,ew,ha,hb⟩:=b78 c1 n hn
  obtain ⟨l,ef,VO⟩:=b44 ns hl (3*n) (by omega) (by omega) (r:=r)
  rw [h1]
  walk_at "o1"
  rw [ew]
  walk_at "o1"
  refine ⟨.inl (by omega),?_⟩
  rw [ef]
  walk_at "o1"
  refine ⟨by unfold R62;omega,?_⟩
  refine Yh 0 n.toNat (λk env=>∃x6 x7,∃L:List (Str×Tr),env=[.sh (.lst r (ns.map D.int)),.sh (.int sc),.sh (.int n),.sh (.lst false (((nR n.toNat).map λk=>Wd a b m k).map D.str)),.sh (.lst false (l.map D.int)),.ow (L.map Pd),x6,x7]/\Bg a b m k L) (λk env hk h=>?_) (λenv h=>?_) ⟨_,_,[],rfl,⟨rfl,λ_ z=>(nomatch z),λ_ z=>(nomatch z)⟩⟩
  .obtain ⟨x6,x7,L,rfl,hB⟩:=h
   obtain ⟨ys,ey,hy⟩:=O0 l VO n (0+(k:Int)) c0 (by omega) (x0:=.lst r (ns.map D.int)) (x1:=.sh (.int sc)) (x3:=.sh (.lst false (((nR n.toNat).map λk=>Wd a b m k).map D.str))) (x5:=.ow (L.map Pd)) (x7:=x7) h0
   rw [b1S]
   refine ⟨by simp,?_⟩
   simp only [DF,Cp]
   rw [a2W,a2R,ey,a0d]
   refine ⟨by simp,?_⟩
   simp only [DF,Cp,a27,Sl.d]
   walk_at "o1"
   have hLl:L.length=k:=by
    have:=congrArg Pj hB.ks
    simpa using this
   have hat:L2.f' (Co D.str (Co (λk=>Wd a b m k) (nR n.toNat))) (k:Int)=some (.str (Wd a b m k)):=by
    rw [DL.nU,zq,zq,c6i (by omega)]
    rfl
   rw [b01,b01,show (3:Int)=((3:Nat):Int) from rfl,b3F,show (0:Int)+(k:Int)=((k:Nat):Int) by omega,b3F,hat]
   walk_at "o1"
   have htk:List.take k (Co (λk=>Wd a b m k) (nR n.toNat))=(nR k).map λk=>Wd a b m k:=by
    rw [<-List.map_take,List.take_range,Nat.min_eq_left (by omega)]
   rw [htk]
   obtain ⟨t,et,ht,hz⟩:=c0M (List.take 3 (ys++[c0+(k:Int)])) ⟨by simp;omega,by simp;omega⟩ sc hs ((nR k).map λk=>Wd a b m k) (by simp;omega) (λx hx=>by
    obtain ⟨i,_,rfl⟩:=BW.mp hx
    have:=(c1B (m:=m) (k:=i) ha hb).1.2
    omega) (r:=false) (r2:=false)
   rw [et]
   walk_at "o1"
   refine ⟨by rw [c6];omega,_,_,L++[(Wd a b m k,t)],by rw [Ak (f:=Pd)];rfl,hB.add ht hz⟩
  .obtain ⟨x6,x7,L,rfl,hB⟩:=h
   rw [a27]
   by_cases hr:c0/12%2=1
   .refine LO (Wo.eq (by walk_at "o1";rw [h0];walk_at "o1";exact ⟨by walk_at "sc",by simp [hr]⟩)) ?_
    rw [b8w]
    walk_at "o1"
    exact ⟨a,b,m,n.toNat,L,L.reverse,by rw [List.map_reverse],hB,List.reverse_perm L,by omega,ha,hb⟩
   .refine a9p (Wo.eq (by walk_at "o1";rw [h0];walk_at "o1";exact ⟨by walk_at "sc",by simp [hr]⟩)) ?_
    walk_at "o1"
    exact ⟨a,b,m,n.toNat,L,L,rfl,hB,Kg L,by omega,ha,hb⟩
 obtain ⟨x,e,a,b,m,n,L,M,rfl,h⟩:=key
 exact ⟨a,b,m,n,L,M,e,h⟩
noncomputable def Rm(q:Str×Tr):Str×Tr:=(q.1,.roomy q.2)
theorem b6u:Bk [] (λ_=>0):=⟨List.nodup_nil,λ_ z=>(nomatch z),λ_ z=>(nomatch z),λ_ z=>(nomatch z),by decide⟩
theorem PM{L:List (Str×Tr)}{r:Str->Nat}(B:Bk L r)(h:∀q∈L,q.2.ok/\q.2.sz<=5):Bk (L.map Rm) r:=by
 have e:(L.map Rm).map (·.1)=L.map (·.1):=by
  rw [Bh];rfl
 have hq:∀q∈L.map Rm,∃p∈L,q=Rm p:=λq hq=>by
  obtain ⟨p,hp,e⟩:=BW.mp hq
  exact ⟨p,hp,e.symm⟩
 refine ⟨by rw [e];exact B.nd,λq h1=>?_,λq h1 x hx=>?_,λq h1 x hx=>?_,by rw [c6];exact B.G5⟩
 .obtain ⟨p,hp,rfl⟩:=hq q h1
  have:=h p hp
  have:=b6s p.2
  refine ⟨(h p hp).1,?_,?_⟩
  .show p.2.fG+1<6
   omega
  .show p.2.sz+1<=60
   omega
 .obtain ⟨p,hp,rfl⟩:=hq q h1
  rw [e]
  exact B.Q0 p hp x hx
 .obtain ⟨p,hp,rfl⟩:=hq q h1
  exact B.dn p hp x hx
theorem b6q{M:List (Str×Tr)}{r:Str->Nat}(B:Bk M r)(hn:∀q∈M,Nm q.1/\q.2.ok/\q.2.sz<=100){x y z:Sl}:Wo ((a9 (hV 2 (cG 1 IG (ai (cG 1 Mg (ai (eV 1) ag)) ag)))
 (a9 (hV 3 (Ck (eC (.str "\n")) (t4 (jt (gW (eV 1)) [] 2 (gT 2 (lZ (gN 0) (lZ (gN 1) zN))) jO (af aK (af aK (af aK (eC (.str "offer ")) (eV 0)) (eC (.str ": "))) (cG 1 (wH 6) (ai (eV 1) ag)))))))
 (bK (C7 (G9 "str" (eV 2)) (af cx (eV 2) (eV 3)))))) [x,.sh (.lst false (M.map Pd)),y,z]) (cK λs=>s=.sh (.bl true)):=by
 rw [a2W,a2R]
 walk_at "o1"
 rw [c0P B λq hq=>(hn q hq).1]
 walk_at "o1"
 rw [b6p B hn]
 walk_at "o1"
 rw [O1 B hn]
 walk_at "o1"
 refine ⟨.sh (.bl true),rfl,true,rfl,λ_=>?_,λz=>(nomatch z)⟩
 rw [eqT]
 exact ⟨_,rfl,rfl⟩
theorem PN{a b:Str}{m:Int}{n:Nat}{L:List (Str×Tr)}(h:Bg a b m n L)(ha:(∀c∈lt a,Qx c)/\a.length<=3)(hb:(∀c∈lt b,Qx c)/\b.length<=4):∀q∈L,Nm q.1/\q.2.ok/\q.2.sz<=5:=λq hq=>by
 obtain ⟨j,_,e,_⟩:=h.dn q hq
 exact ⟨by rw [e];exact c1B ha hb,h.ok q hq⟩
theorem fin(ns:List Int)(K9:ns.length<=63):SW [.lst true (ns.map D.int)]=some (.sh (.bl true)):=by
 have h0:=G8 ns 0 (by decide) (r:=true)
 generalize ns.getD (0:Int).toNat 0=c0 at *
 refine Wo.eq (Qz.mpr ?_)
 unfold Xz
 by_cases h6:c0/24%7=6
 .refine b6K (Wo.eq (by walk_at "o1";rw [h0];walk_at "o1";exact ⟨by walk_at "sc",by simp [h6]⟩)) ?_
  walk_at "o1"
  rw [show IB [.lst false []]=some [.lst false [],.dI [] []] from b00 b6u (λ_ z=>(nomatch z))]
  walk_at "o1"
  rw [show IG [.obj "Book" FP [.lst false [],.dI [] []]]=_ from b6p b6u (λ_ z=>(nomatch z))]
  walk_at "o1"
  refine (show Wo (cx (.str "") (.str "")) _ from ?_)
  rw [eqT]
  exact ⟨_,rfl,rfl⟩
 .refine a9p (Wo.eq (by walk_at "o1";rw [h0];walk_at "o1";exact ⟨by walk_at "sc",by simp [h6]⟩)) ?_
  obtain ⟨a,b,m,n,L,M,eb,hB,hp,hn,ha,hb⟩:=c0R ns K9 (r:=true)
  have BM:=hB.bk hn hp
  have Oi:∀q∈M,Nm q.1/\q.2.ok/\q.2.sz<=5:=λq hq=>PN hB ha hb q (hp.mem_iff.mp hq)
  rw [a2W,a2R]
  rw [show cG 1 IH (ai (eV 0) ag) [.sh (.lst true (ns.map D.int)),.no,.no,.no]=IH [.lst true (ns.map D.int)] from rfl,eb,a0d]
  refine ⟨by simp,?_⟩
  simp only [DF,Cp,a27,Sl.d]
  by_cases h2:c0/24%2=1
  .refine LO (Wo.eq (by walk_at "o1";rw [h0];walk_at "o1";exact ⟨by walk_at "sc",by simp [h2]⟩)) ?_
   have hc:jt (gW (eV 1)) [] 1 (gN 0) jO (hU (ai (cX (bV 0) (eC (.int 0))) (ai (hU (ai (eC (.str "roomy")) (ai (cX (bV 0) (eC (.int 1))) ag))) ag))) [.sh (.lst true (ns.map D.int)),.sh (.lst false (M.map Pd)),.no,.no]=some (.ow ((M.map Rm).map Pd)):=by
    refine Wo.eq ?_
    walk_at "o1"
    refine ⟨by rw [c6];have:=BM.G5;lia,_,DL.comp_map Pd (λq=>Pd (Rm q)) (λe=>e.length=1) M (λq hq e he=>?_) rfl,?_⟩
    .obtain ⟨y0,rfl⟩:∃y0,e=[y0]:=by
      match e,he with
      | [a],_=>exact ⟨a,rfl⟩
     unfold Pd
     walk_at "o1"
     rfl
    .show Sl.ow (Co (λq=>Pd (Rm q)) M)=_
     rw [Bh];rfl
   rw [a2R,hc,a0d]
   refine ⟨by simp,?_⟩
   simp only [DF,Cp,a27,Sl.d]
   refine b6q (PM BM λq hq=>(Oi q hq).2) (λq hq=>?_)
   obtain ⟨p,hp,rfl⟩:=BW.mp hq
   have:=Oi p hp
   exact ⟨this.1,this.2.1,show p.2.sz+1<=100 by lia⟩
  .refine a9p (Wo.eq (by walk_at "o1";rw [h0];walk_at "o1";exact ⟨by walk_at "sc",by simp [h2]⟩)) ?_
   exact b6q BM λq hq=>⟨(Oi q hq).1,(Oi q hq).2.1,by have:=(Oi q hq).2.2;lia⟩
end My
namespace PySem.W.Fast
theorem tw599271537918501435:True:=trivial
theorem tw1302327111017437778:True:=trivial
theorem tw16607348147711485501:True:=trivial
theorem tw14221466791384506554:True:=trivial
theorem tw4112835618723653300:True:=trivial
theorem tw4852924077069824580:True:=trivial
theorem tw9147873606464285544:True:=trivial
theorem tw12247082832179161102:True:=trivial
theorem tw7699413383776853621:True:=trivial
theorem tw17264940092723096798:True:=trivial
theorem tw3960121492075531098:True:=trivial
theorem tw10231990347631495935:True:=trivial
theorem tw12279157090164426688:True:=trivial
theorem tw14302108986939276645:True:=trivial
theorem tw17635746815264275537:True:=trivial
theorem tw14608156996212572905:True:=trivial
theorem tw5997775935720793667:True:=trivial
theorem tw10137646636297551243:True:=trivial
theorem tw3873220206206275755:True:=trivial
theorem tw7070841645994548209:True:=trivial
theorem tw6599745369280235128:True:=trivial
theorem tw8985027445087609747:True:=trivial
theorem tw15722322523745487419:True:=trivial
theorem tw16514665453405629116:True:=trivial
theorem tw1267767583460192897:True:=trivial
theorem tw13902169636393461525:True:=trivial
theorem tw2694128149744962397:True:=trivial
theorem tw9663855546359783407:True:=trivial
theorem tw3254900365428502214:True:=trivial
theorem tw16873478055101711129:True:=trivial
theorem tw11599849119613149551:True:=trivial
theorem tw4704563097910044837:True:=trivial
theorem tw6198362755122315939:True:=trivial
theorem tw14393527928508302322:True:=trivial
theorem tw10200607932183734404:True:=trivial
theorem tw5957703783398153524:True:=trivial
theorem tw7183741410791329677:True:=trivial
theorem tw9363963737154630435:True:=trivial
theorem tw8612348513350580584:True:=trivial
theorem tw8333087488199879435:True:=trivial
theorem tw13920041361959532067:True:=trivial
theorem tw5059505501649916573:True:=trivial
theorem tw11835769177611107759:True:=trivial
theorem tw1646757037521395143:True:=trivial
theorem tw11830060382752620703:True:=trivial
theorem tw6859680454793406951:True:=trivial
theorem tw14432918920891050984:True:=trivial
theorem tw12760145526829457090:True:=trivial
theorem tw5161170644847847165:True:=trivial
theorem tw14080488396367883555:True:=trivial
theorem tw17765211234131463711:True:=trivial
theorem tw15185227285242094892:True:=trivial
theorem tw11231882083733724189:True:=trivial
theorem tw10460998467539740620:True:=trivial
theorem tw11716269394750703590:True:=trivial
theorem tw1778911751073032197:True:=trivial
theorem tw6453488816838985664:True:=trivial
theorem tw14071431348200697694:True:=trivial
theorem tw18336778370938954340:True:=trivial
theorem tw6470957310692723195:True:=trivial
theorem tw270961940728164601:True:=trivial
theorem tw6702074333371254568:True:=trivial
theorem tw8864462684442176580:True:=trivial
theorem tw14187922180801823168:True:=trivial
theorem tw11673897024700174385:True:=trivial
theorem tw4712704629439918656:True:=trivial
theorem tw8373475342263639568:True:=trivial
theorem tw5879900572328607014:True:=trivial
theorem tw14971029228972563505:True:=trivial
theorem tw13953893233152166833:True:=trivial
theorem tw9221394112849439446:True:=trivial
theorem tw17146222493112581377:True:=trivial
theorem tw15024001965996402307:True:=trivial
theorem tw876480266715046955:True:=trivial
theorem tw944281204706883013:True:=trivial
theorem tw15435861703337044594:True:=trivial
theorem tw10743326490131920900:True:=trivial
theorem tw6228206632953275018:True:=trivial
theorem tw10086369901223155334:True:=trivial
theorem tw10130402068265772960:True:=trivial
theorem tw5245627294554313643:True:=trivial
theorem tw13065495561147220274:True:=trivial
theorem tw11645904658865722729:True:=trivial
theorem tw17256336642591155653:True:=trivial
theorem tw552833312303425624:True:=trivial
theorem tw9999598606894058079:True:=trivial
theorem tw12790244216386594892:True:=trivial
theorem tw6382957504802019635:True:=trivial
theorem tw3389055117742080061:True:=trivial
theorem tw15894744514639583846:True:=trivial
theorem tw2418790894370456907:True:=trivial
theorem tw5865833123889978494:True:=trivial
theorem tw6353591224960843223:True:=trivial
theorem tw2090967808568191141:True:=trivial
theorem tw2746005850177682043:True:=trivial
theorem tw17570563243689669090:True:=trivial
theorem tw5678761955552232471:True:=trivial
theorem tw17264015451456714820:True:=trivial
theorem tw15805349963900095803:True:=trivial
theorem tw17804878821624949894:True:=trivial
theorem tw9115542797870107394:True:=trivial
theorem tw998478402761188313:True:=trivial
theorem tw12754705790242854594:True:=trivial
theorem tw8197750803951078206:True:=trivial
theorem tw6468583155895619184:True:=trivial
theorem tw12132919567307530672:True:=trivial
theorem tw11474538460900845350:True:=trivial
theorem tw6490436062167701977:True:=trivial
theorem tw11945779822526334169:True:=trivial
theorem tw14890833703287634788:True:=trivial
theorem tw2581535190690431405:True:=trivial
theorem tw6151552340525905592:True:=trivial
theorem tw17067864269305689284:True:=trivial
theorem tw4580062313432378792:True:=trivial
theorem tw6404016351573977981:True:=trivial
theorem tw16434381919552828960:True:=trivial
theorem tw822486601427540850:True:=trivial
theorem tw15419313024044740313:True:=trivial
theorem tw14247497962298979485:True:=trivial
theorem tw8354311065941856751:True:=trivial
theorem tw12688487792854378503:True:=trivial
theorem tw5489138296039489878:True:=trivial
theorem tw7985009140471574774:True:=trivial
theorem tw2100832190500121552:True:=trivial
theorem tw18005622225080221317:True:=trivial
theorem tw17664326641248689991:True:=trivial
theorem tw3178206880309879716:True:=trivial
theorem tw15927523534067890768:True:=trivial
theorem tw9086753718774090895:True:=trivial
theorem tw2629750779872871243:True:=trivial
theorem tw11798776282791377019:True:=trivial
theorem tw5385055331357326457:True:=trivial
theorem tw5535880952181971240:True:=trivial
theorem tw17336182573351242502:True:=trivial
theorem tw9848593877729091742:True:=trivial
theorem tw17220846625069065383:True:=trivial
theorem tw14103339369201162574:True:=trivial
theorem tw9843004052640859296:True:=trivial
theorem tw14365563208782313248:True:=trivial
theorem tw431267561016882241:True:=trivial
theorem tw10468571090747065158:True:=trivial
theorem tw7825029607652093649:True:=trivial
theorem tw12743793349919207172:True:=trivial
theorem tw3256095814193627589:True:=trivial
theorem tw3435866338292422104:True:=trivial
theorem tw9340417845659863474:True:=trivial
theorem tw12836621357995371784:True:=trivial
theorem tw18104138088874002865:True:=trivial
theorem tw2976646526339546175:True:=trivial
theorem tw3914497817787976343:True:=trivial
theorem tw12530383851103728101:True:=trivial
theorem tw4224294094859110735:True:=trivial
theorem tw6294685714204455641:True:=trivial
theorem tw10604999056150429400:True:=trivial
theorem tw3920735680251322686:True:=trivial
theorem tw15802483524447161753:True:=trivial
theorem tw4377361914971298822:True:=trivial
theorem tw12537416929903789330:True:=trivial
theorem tw172956927182445817:True:=trivial
theorem tw12813989497105220653:True:=trivial
theorem tw2872290866536531790:True:=trivial
theorem tw16310180793053797001:True:=trivial
theorem tw11131516846112985835:True:=trivial
theorem tw802061697635766794:True:=trivial
theorem tw16833161828771626612:True:=trivial
theorem tw12522860978895135572:True:=trivial
theorem tw2276034905930187286:True:=trivial
theorem tw13750632159124963633:True:=trivial
theorem tw14893629484199181653:True:=trivial
theorem tw18096564077445837682:True:=trivial
theorem tw8974901226033646428:True:=trivial
theorem tw15142121792949331804:True:=trivial
theorem tw5597203667494799304:True:=trivial
theorem tw9811974320020377774:True:=trivial
theorem tw11672092631927366305:True:=trivial
theorem tw11137189981337414432:True:=trivial
theorem tw3964470103722996607:True:=trivial
theorem tw17778367711725489341:True:=trivial
theorem tw5653679679573581893:True:=trivial
theorem tw14051985859747374713:True:=trivial
theorem tw4922623364939827796:True:=trivial
theorem tw13043740310836681276:True:=trivial
theorem tw9315155148788774570:True:=trivial
theorem tw9014283628600064376:True:=trivial
theorem tw18340071778706558466:True:=trivial
theorem tw5972278019829138464:True:=trivial
theorem tw9238192062691567174:True:=trivial
theorem tw7669045814019268560:True:=trivial
theorem tw12014314138494492451:True:=trivial
theorem tw15513391496075554504:True:=trivial
theorem tw14629853278717342390:True:=trivial
theorem tw4812980623921295159:True:=trivial
theorem tw11683328088680687738:True:=trivial
theorem tw7666225795266405745:True:=trivial
theorem tw15332571525464884644:True:=trivial
theorem tw9944918220338805917:True:=trivial
theorem tw1181588431911673049:True:=trivial
theorem tw6462009893983823469:True:=trivial
theorem tw15802539200789249344:True:=trivial
theorem tw18156961479659864114:True:=trivial
theorem tw11694245251374995998:True:=trivial
theorem tw9129684230277795407:True:=trivial
theorem tw8981746299607693656:True:=trivial
theorem tw12511801599375682480:True:=trivial
theorem tw7795973203162364218:True:=trivial
theorem tw16799831510527572139:True:=trivial
theorem tw4621206445252456054:True:=trivial
theorem tw2656318595608089150:True:=trivial
theorem tw17724833706719192928:True:=trivial
theorem tw13175458200736597651:True:=trivial
theorem tw10158700318929603581:True:=trivial
theorem tw4835904455517434315:True:=trivial
theorem tw17111867955056048768:True:=trivial
theorem tw11719413237859769046:True:=trivial
theorem tw8026349058035039620:True:=trivial
theorem tw2875155419632778954:True:=trivial
theorem tw253604606634676333:True:=trivial
theorem tw450703189677008739:True:=trivial
theorem tw989978538530661445:True:=trivial
theorem tw2586594230197814962:True:=trivial
theorem tw4394402382309609519:True:=trivial
theorem tw13750453086487594369:True:=trivial
theorem tw3700245586218516615:True:=trivial
theorem tw4113533474545638012:True:=trivial
theorem tw3909334228675421992:True:=trivial
theorem tw3007770757964012755:True:=trivial
theorem tw16471194925196598849:True:=trivial
theorem tw10150659298161339366:True:=trivial
theorem tw11849467288348279959:True:=trivial
theorem tw10902398196818426103:True:=trivial
theorem tw441660840843365589:True:=trivial
theorem tw2753631179489776861:True:=trivial
theorem tw1939249386677960077:True:=trivial
theorem tw1376861855643851073:True:=trivial
theorem tw6997018763257548953:True:=trivial
theorem tw12640276746271137704:True:=trivial
theorem tw1292511223551090825:True:=trivial
theorem tw16507251989032157232:True:=trivial
theorem tw7082009941375023276:True:=trivial
theorem tw4758996235717723196:True:=trivial
theorem tw13417874483167577943:True:=trivial
theorem tw13531688868363081496:True:=trivial
theorem tw5508349382760603380:True:=trivial
theorem tw16867548527677303931:True:=trivial
theorem tw4911247698640322590:True:=trivial
theorem tw16424531590323618443:True:=trivial
theorem tw10156470101544630683:True:=trivial
theorem tw10466114875553658887:True:=trivial
theorem tw15127254116575215296:True:=trivial
theorem tw5640566113502754328:True:=trivial
theorem tw860900960461425205:True:=trivial
theorem tw18085177582586488573:True:=trivial
theorem tw1988583229998007068:True:=trivial
theorem tw8132431387731116385:True:=trivial
theorem tw13653090106458680665:True:=trivial
theorem tw8947812821296772536:True:=trivial
theorem tw1881089282199177428:True:=trivial
theorem tw14592721384714485070:True:=trivial
theorem tw14694722230762215:True:=trivial
theorem tw6398817896956696012:True:=trivial
theorem tw10168506426291899729:True:=trivial
theorem tw9951450937619296073:True:=trivial
theorem tw3668215013228022210:True:=trivial
theorem tw1445824763214733446:True:=trivial
theorem tw15701669802838008900:True:=trivial
theorem tw13511108630961722817:True:=trivial
theorem tw4406936509187399119:True:=trivial
theorem tw1881286168669393201:True:=trivial
theorem tw18429575053768263301:True:=trivial
theorem tw7273875501883564151:True:=trivial
theorem tw17836591493574339100:True:=trivial
theorem tw7414235455558455945:True:=trivial
theorem tw14450459612915564783:True:=trivial
theorem tw1337254479487377205:True:=trivial
theorem tw2579621264344414887:True:=trivial
theorem tw2725645789124172376:True:=trivial
theorem tw14933776835184766068:True:=trivial
theorem tw6368063782374312208:True:=trivial
theorem tw15486607508924830521:True:=trivial
theorem tw5346928467807319383:True:=trivial
theorem tw4140624806760465785:True:=trivial
theorem tw3026053397423076548:True:=trivial
theorem tw8051700138311538601:True:=trivial
theorem tw11027500962962333817:True:=trivial
theorem tw7976486458819256490:True:=trivial
theorem tw4355213120292802161:True:=trivial
theorem tw18024248409452431333:True:=trivial
theorem tw3858826674949319951:True:=trivial
theorem tw18342545320997289452:True:=trivial
theorem tw5997003479678422721:True:=trivial
theorem tw15834105776506342423:True:=trivial
theorem tw7073898546995050178:True:=trivial
theorem tw11032343523254807567:True:=trivial
theorem tw5218268119946384172:True:=trivial
theorem tw5470813172700729525:True:=trivial
theorem tw9983223155099972004:True:=trivial
theorem tw9914315701092185607:True:=trivial
theorem tw11720038941031078331:True:=trivial
theorem tw13180846515876660809:True:=trivial
theorem tw9211400267425550361:True:=trivial
theorem tw7612696722970940502:True:=trivial
theorem tw15609775598236049808:True:=trivial
theorem tw15045011006923493866:True:=trivial
theorem tw12986140392058352112:True:=trivial
theorem tw10973228858004672016:True:=trivial
theorem tw7846450824216286654:True:=trivial
theorem tw5784903658206432694:True:=trivial
theorem tw4352106403204225747:True:=trivial
theorem tw6125258642492780133:True:=trivial
theorem tw14652019622884570865:True:=trivial
theorem tw5705265649929937908:True:=trivial
theorem tw1236292245174389596:True:=trivial
theorem tw7484372807689094922:True:=trivial
theorem tw11023368772666748887:True:=trivial
theorem tw14294896117169420896:True:=trivial
theorem tw13244772546673205770:True:=trivial
theorem tw12514991280431690188:True:=trivial
theorem tw8483353105218855775:True:=trivial
theorem tw8556213086822729851:True:=trivial
theorem tw4351011163169540185:True:=trivial
theorem tw15486199848090244323:True:=trivial
theorem tw2971740037026650334:True:=trivial
theorem tw15700365324642392523:True:=trivial
theorem tw97464145509856097:True:=trivial
theorem tw14915845679534689748:True:=trivial
theorem tw2948545849707162393:True:=trivial
theorem tw11891322162794870842:True:=trivial
theorem tw13000216008778846769:True:=trivial
theorem tw6448059416189904361:True:=trivial
theorem tw648576355156504809:True:=trivial
theorem tw13974278225747449552:True:=trivial
theorem tw18123913459634872419:True:=trivial
theorem tw14946122991421868536:True:=trivial
theorem tw9278660729725877265:True:=trivial
theorem tw14682375336329914516:True:=trivial
theorem tw10041626185402132527:True:=trivial
theorem tw17302804192623273607:True:=trivial
theorem tw4588685103389021732:True:=trivial
theorem tw11445608543701141246:True:=trivial
theorem tw12199877367607800265:True:=trivial
theorem tw4268077713781139338:True:=trivial
theorem tw8005204846788748542:True:=trivial
theorem tw13732771516621658169:True:=trivial
theorem tw13055314439865851917:True:=trivial
theorem tw4660307771847317364:True:=trivial
theorem tw3380217205199437083:True:=trivial
theorem tw16997350250925885114:True:=trivial
theorem tw7740673563802411699:True:=trivial
theorem tw17314182486970409060:True:=trivial
theorem tw14176745224456300086:True:=trivial
theorem tw6064796684687268744:True:=trivial
theorem tw1661737871110935129:True:=trivial
theorem tw11431461591465323512:True:=trivial
theorem tw3691245538823800585:True:=trivial
theorem tw9550246859978390550:True:=trivial
theorem tw16651134616082874577:True:=trivial
theorem tw18129200109447203818:True:=trivial
theorem tw14275152956667197851:True:=trivial
theorem tw9860985813859128947:True:=trivial
theorem tw6426177531720374022:True:=trivial
theorem tw11945350948331013341:True:=trivial
theorem tw10377940515786469360:True:=trivial
theorem tw554443302917430776:True:=trivial
theorem tw12599920947435414090:True:=trivial
theorem tw7166117248741387024:True:=trivial
theorem tw1550352683703024730:True:=trivial
theorem tw2147809250424267969:True:=trivial
theorem tw11322189250272523515:True:=trivial
theorem tw5921408401012089491:True:=trivial
theorem tw17075417273886432770:True:=trivial
theorem tw18180490230664104369:True:=trivial
theorem tw11054198833613257111:True:=trivial
theorem tw9690214762586970400:True:=trivial
theorem tw13112256917399662208:True:=trivial
theorem tw2849731255186382297:True:=trivial
theorem tw893151143295464208:True:=trivial
theorem tw7908316628153847845:True:=trivial
theorem tw16408815241932540707:True:=trivial
theorem tw16419744651722581196:True:=trivial
theorem tw16121614645714697842:True:=trivial
theorem tw11947031083817944300:True:=trivial
theorem tw11047290031806181804:True:=trivial
theorem tw4013069169633003943:True:=trivial
theorem tw9285667654709932027:True:=trivial
theorem tw16167087062764347192:True:=trivial
theorem tw10923269995012540405:True:=trivial
theorem tw599569199283920442:True:=trivial
theorem tw7116632031218612209:True:=trivial
theorem tw2492052283853363547:True:=trivial
theorem tw12193729244454495908:True:=trivial
theorem tw13530820120786944516:True:=trivial
theorem tw11169037172113763201:True:=trivial
theorem tw12022747835840337471:True:=trivial
theorem tw10283356122104975207:True:=trivial
theorem tw2871161583218420711:True:=trivial
theorem tw15584566705836306323:True:=trivial
theorem tw18116429429466545774:True:=trivial
theorem tw2442774785739064414:True:=trivial
theorem tw13280592694378672697:True:=trivial
theorem tw158963651132405537:True:=trivial
theorem tw18164607752266683428:True:=trivial
theorem tw1304750344600669831:True:=trivial
theorem tw7924524162358542593:True:=trivial
theorem tw18363770901372863898:True:=trivial
theorem tw4987046704430901726:True:=trivial
theorem tw6761430695111309883:True:=trivial
theorem tw14539848900324699998:True:=trivial
theorem tw569066864590191732:True:=trivial
theorem tw7234533997311218379:True:=trivial
theorem tw8308445191641224958:True:=trivial
theorem tw17090098331247367515:True:=trivial
theorem tw9592439896362339809:True:=trivial
theorem tw3748267419589588539:True:=trivial
theorem tw808904068964357163:True:=trivial
theorem tw15572085748812153682:True:=trivial
theorem tw12364678309707995242:True:=trivial
theorem tw16101607651086256814:True:=trivial
theorem tw13076975254251668481:True:=trivial
theorem tw368741436460720985:True:=trivial
theorem tw9204240020161455099:True:=trivial
theorem tw3840849624739088852:True:=trivial
theorem tw15935645771132312631:True:=trivial
theorem tw18232827616752784800:True:=trivial
theorem tw7167324629753226911:True:=trivial
theorem tw5922337288072405811:True:=trivial
theorem tw3555580157311842006:True:=trivial
theorem tw14129873805496355044:True:=trivial
theorem tw10268430513784251026:True:=trivial
theorem tw13619685130391420025:True:=trivial
theorem tw8416532065881791878:True:=trivial
theorem tw5375770669788535961:True:=trivial
theorem tw507949971715322824:True:=trivial
theorem tw9938490563382083161:True:=trivial
theorem tw3292811614979809221:True:=trivial
theorem tw14154162801143158066:True:=trivial
theorem tw6612764430531631715:True:=trivial
theorem tw5740367744317471429:True:=trivial
theorem tw15628010257590489265:True:=trivial
theorem tw7469052706274382696:True:=trivial
theorem tw11932273884617873969:True:=trivial
theorem tw10365561778105128987:True:=trivial
theorem tw16249569085819375945:True:=trivial
theorem tw7681585208291719666:True:=trivial
theorem tw5155719244743188527:True:=trivial
theorem tw7444607237416143617:True:=trivial
theorem tw11710393960115480550:True:=trivial
theorem tw11897389887165187254:True:=trivial
theorem tw8975096066724573105:True:=trivial
theorem tw1623247444556729867:True:=trivial
theorem tw13474364667992005025:True:=trivial
theorem tw13800572991892068183:True:=trivial
theorem tw6059068219857281857:True:=trivial
theorem tw3812554118667736275:True:=trivial
theorem tw4128597649672372553:True:=trivial
theorem tw2583451519953786495:True:=trivial
theorem tw2659781259787322335:True:=trivial
theorem tw10257115376790238855:True:=trivial
theorem tw13156697750357260606:True:=trivial
theorem tw3380720820123552009:True:=trivial
theorem tw13858259148010710604:True:=trivial
theorem tw14447899715500056154:True:=trivial
theorem tw8985731647760939909:True:=trivial
theorem tw1073034359705652866:True:=trivial
theorem tw1441376883540855948:True:=trivial
theorem tw6333065513172261744:True:=trivial
end PySem.W.Fast
open PySem PySem.W PyProof.Rows
set_option maxRecDepth 100000 in
set_option maxHeartbeats 0 in
theorem PySem.Challenge.cw_offerhouse_k85_books_written_holds : PySem.Challenge.rw_offerhouse_k85_books_written.Holds := by
  w_on; o_law; k_head; (case hw => w_witness2)
  k_fill
  refine DL.DT (l := PySem.Challenge.rw_offerhouse_k85_books_written) (k := 27) ⟨rfl, by decide, by decide⟩ rfl rfl (ts := []) (fun w h Y => ⟨PySem.W.kIn_of Y, fun _ z => nomatch z⟩) (fun w => by kernel_rfl) ?F
  case F =>
    intro w mg fa h KX G Oj
    refine' My.all_mk KX G Oj ?x0 ?x1 ?x2 ?x3 ?x4 ?x5 ?x6 ?x7 ?x8 ?x9 ?xa ?xb ?xc ?xd ?xe ?xf ?xg ?xh ?xi ?xj ?xk ?xl ?xm ?xn ?xo ?xp ?xq ?xr ?xs ?xt ?xu ?xv ?xw ?xx ?xy ?xz ?x10 ?x11 ?x12 ?x13 ?x14 ?x15 ?x16 ?x17 ?x18 ?x19 ?x1a ?x1b ?x1c ?x1d ?x1e ?x1f ?x1g ?x1h ?x1i ?x1j ?x1k ?x1l ?x1m ?x1n ?x1o ?x1p ?x1q ?x1r ?x1s ?x1t ?x1u ?x1v ?x1w ?x1x ?x1y ?x1z ?x20 ?x21 ?x22 ?x23 ?x24 ?x25 ?x26 ?x27 ?x28 ?x29 ?x2a ?x2b ?x2c ?x2d ?x2e ?x2f ?x2g ?x2h ?x2i ?x2j ?x2k ?x2l ?x2m ?x2n ?x2o ?x2p ?x2q ?x2r ?x2s ?x2t ?x2u ?x2v ?x2w ?x2x ?x2y ?x2z ?x30 ?x31 ?x32 ?x33 ?x34 ?x35 ?x36 ?x37 ?x38 ?x39 ?x3a ?x3b ?x3c ?x3d ?x3e ?x3f ?x3g ?x3h ?x3i ?x3j ?x3k ?x3l ?x3m ?x3n ?x3o ?x3p ?x3q ?x3r ?x3s ?x3t ?x3u ?x3v ?x3w ?x3x ?x3y ?x3z ?x40 ?x41 ?x42 ?x43 ?x44 ?x45 ?x46 ?x47 ?x48 ?x49 ?x4a ?x4b ?x4c ?x4d ?x4e ?x4f ?x4g ?x4h ?x4i ?x4j ?x4k ?x4l ?x4m ?x4n ?x4o ?x4p ?x4q ?x4r ?x4s ?x4t ?x4u ?x4v ?x4w ?x4x ?x4y ?x4z ?x50 ?x51 ?x52 ?x53 ?x54 ?x55 ?x56 ?x57 ?x58 ?x59 ?x5a ?x5b ?x5c ?x5d ?x5e ?x5f ?x5g ?x5h ?x5i ?x5j ?x5k ?x5l ?x5m ?x5n ?x5o ?x5p ?x5q ?x5r ?x5s ?x5t ?x5u ?x5v ?x5w ?x5x ?x5y ?x5z ?x60 ?x61 ?x62 ?x63 ?x64 ?x65 ?x66 ?x67 ?x68 ?x69 ?x6a ?x6b ?x6c ?x6d ?x6e ?x6f ?x6g ?x6h ?x6i ?x6j ?x6k ?x6l ?x6m ?x6n ?x6o ?x6p ?x6q ?x6r ?x6s ?x6t ?x6u ?x6v ?x6w ?x6x ?x6y ?x6z ?x70 ?x71 ?x72 ?x73 ?x74 ?x75 ?x76 ?x77 ?x78 ?x79 ?x7a ?x7b ?x7c ?x7d ?x7e ?x7f ?x7g ?x7h ?x7i ?x7j ?x7k ?x7l ?x7m ?x7n ?x7o ?x7p ?x7q ?x7r ?x7s ?x7t ?x7u ?x7v ?x7w ?x7x ?x7y ?x7z ?x80 ?x81 ?x82 ?x83 ?x84 ?x85 ?x86 ?x87 ?x88 ?x89 ?x8a ?x8b ?x8c ?x8d ?x8e ?x8f ?x8g ?x8h ?x8i ?x8j ?x8k ?x8l ?x8m ?x8n ?x8o ?x8p ?x8q ?x8r ?x8s ?x8t ?x8u ?x8v ?x8w ?x8x ?x8y ?x8z ?x90 ?x91 ?x92 ?x93 ?x94 ?x95 ?x96 ?x97 ?x98 ?x99 ?x9a ?x9b ?x9c ?x9d ?x9e ?x9f ?x9g ?x9h ?x9i ?x9j ?x9k ?x9l ?x9m ?x9n ?x9o ?x9p ?x9q ?x9r ?x9s ?x9t ?x9u ?x9v ?x9w ?x9x ?x9y ?x9z ?xa0 ?xa1 ?xa2 ?xa3 ?xa4 ?xa5 ?xa6 ?xa7 ?xa8 ?xa9 ?xaa ?xab ?xac ?xad ?xae ?xaf ?xag ?xah ?xai ?xaj ?xak ?xal ?xam ?xan ?xao ?xap ?xaq ?xar ?xas ?xat ?xau ?xav ?xaw ?xax ?xay ?xaz ?xb0 ?xb1 ?xb2 ?xb3 ?xb4 ?xb5 ?xb6 ?xb7 ?xb8 ?xb9 ?xba ?xbb ?xbc ?xbd ?xbe ?xbf ?xbg ?xbh ?xbi ?xbj ?xbk ?xbl ?xbm ?xbn ?xbo ?xbp ?xbq ?xbr ?xbs ?xbt ?xbu ?xbv ?xbw ?xbx ?xby ?xbz ?xc0 ?xc1 ?xc2 ?xc3 ?xc4 ?xc5 ?xc6 ?xc7 ?xc8 ?xc9 ?xca ?xcb ?xcc ?xcd ?xce ?xcf ?xcg ?xch ?xci
    (case x0|x1|x2|x3|x4|x5|x6|x7|x8|x9|xa|xb|xc|xd|xe|xf|xg|xh|xi|xj|xk => constructor <;> k_is)
    (case xl|xm => k_is)
    (case xn => exact ⟨_, by k_is⟩)
    (case xo => k_is); (case xp => k_is)
    (case xq => k_is)
    (case xr => exact ⟨_, by k_is⟩)
    (case xs => exact ⟨_, by k_is⟩)
    (case xt => k_is)
    (case xu => exact ⟨_, by k_is⟩)
    (case xv => exact ⟨_, by k_is⟩)
    (case xw|xx|xy|xz|x10|x11|x12|x13|x14|x15|x16|x17|x18|x19|x1a|x1b|x1c|x1d|x1e|x1f|x1g|x1h|x1i|x1j|x1k|x1l|x1m|x1n|x1o|x1p|x1q|x1r|x1s|x1t|x1u|x1v|x1w|x1x|x1y|x1z|x20|x21|x22|x23|x24|x25|x26|x27|x28|x29|x2a|x2b|x2c|x2d|x2e|x2f|x2g|x2h|x2i|x2j|x2k|x2l|x2m|x2n|x2o|x2p|x2q|x2r|x2s|x2t|x2u|x2v|x2w|x2x|x2y|x2z|x30|x31|x32|x33|x34|x35|x36|x37|x38|x39|x3a|x3b|x3c|x3d|x3e|x3f|x3g|x3h|x3i|x3j|x3k|x3l|x3m|x3n|x3o|x3p|x3q|x3r|x3s|x3t|x3u|x3v|x3w|x3x|x3y|x3z|x40|x41|x42|x43|x44|x45|x46|x47|x48|x49|x4a|x4b|x4c|x4d|x4e|x4f|x4g|x4h|x4i|x4j|x4k|x4l|x4m|x4n|x4o|x4p|x4q|x4r|x4s|x4t|x4u|x4v|x4w|x4x|x4y|x4z|x50|x51|x52|x53|x54|x55|x56|x57|x58|x59|x5a|x5b|x5c|x5d|x5e|x5f|x5g|x5h|x5i|x5j|x5k|x5l|x5m|x5n|x5o|x5p|x5q|x5r|x5s|x5t|x5u|x5v|x5w|x5x|x5y|x5z|x60|x61|x62|x63|x64|x65|x66|x67|x68|x69|x6a|x6b|x6c|x6d|x6e|x6f|x6g|x6h|x6i|x6j|x6k|x6l|x6m|x6n|x6o|x6p|x6q|x6r|x6s|x6t|x6u|x6v|x6w|x6x|x6y|x6z|x70|x71|x72|x73|x74|x75|x76|x77|x78|x79|x7a|x7b|x7c|x7d|x7e|x7f|x7g|x7h|x7i|x7j|x7k|x7l|x7m|x7n|x7o|x7p|x7q|x7r|x7s|x7t|x7u|x7v|x7w|x7x|x7y|x7z|x80|x81|x82|x83|x84|x85|x86|x87|x88|x89|x8a|x8b|x8c|x8d|x8e|x8f|x8g|x8h|x8i|x8j|x8k|x8l|x8m|x8n|x8o|x8p|x8q|x8r|x8s|x8t|x8u|x8v|x8w|x8x|x8y|x8z|x90|x91|x92|x93|x94|x95|x96|x97|x98|x99|x9a|x9b|x9c|x9d|x9e|x9f|x9g|x9h|x9i|x9j|x9k|x9l|x9m|x9n|x9o|x9p|x9q|x9r|x9s|x9t|x9u|x9v|x9w|x9x|x9y|x9z|xa0|xa1|xa2|xa3|xa4|xa5|xa6|xa7|xa8|xa9|xaa|xab|xac|xad|xae|xaf|xag|xah|xai|xaj|xak|xal => k_is)
    (case xam => kernel_rfl)
    (case xan => kernel_rfl)
    (case xao|xaq|xas|xau|xaw|xay|xb0|xb2|xb4|xb6|xb8|xba|xbc|xbe|xbg|xbi|xbk|xbm|xbo|xbq|xbs|xbu|xbw|xby|xc0|xc2|xc4|xc6|xc8|xca|xcc|xce|xcg => k_is)
    (case xap|xar|xat|xav|xax|xaz|xb1|xb3|xb5|xb7|xb9|xbb|xbd|xbf|xbh|xbj|xbl|xbn|xbp|xbr|xbt|xbv|xbx|xbz|xc1|xc3|xc5|xc7|xc9|xcb|xcd|xcf|xch => constructor <;> k_is)
    (case xci => exact My.fin)
