import PyProof.Rows.All
import Wide.All
import OpenK.AllK
import Wide.FinOn
import Lean
import PyProof.EqAt
import PyProof.EqKinds
import PyProof.TupleCall
import PySem.Challenge.RW_offerhouse_k81_offers_of_a_book
set_option Elab.async false
set_option linter.all false
set_option maxRecDepth 100000
open And renaming intro->c6Y
open Array renaming length_toList->tW,getElem?_eq_getElem->Ga,append_assoc->Kl,getElem?_toList->Nk,getD->A5,getElem_toList->S',getD_eq_getD_getElem?->Yo,perm_iff_toList_perm->X3,toList_inj->SM,toList_push->XS
open Array.Perm renaming refl->JU
open Bool renaming false_ne_true->vC,and_eq_true->tV,false_eq_true->B9,noConfusion->Et,eq_iff_iff->JW,not_eq_true->SK,false_and->RW
open Classical renaming not_not->XQ
open Eq renaming trans->l4
open False renaming elim->gC
open ForInStep renaming yield->F5
open Iff renaming rfl->ju
open Int renaming toNat_natCast->FY,mul_nonneg->FR,mul_le_mul->FQ,emod_lt_of_pos->MU,le_refl->Ep,emod_nonneg->M7
open List renaming length_map->cP,getElem?_eq_getElem->je,getElem?_set_ne->ie,mem_cons_of_mem->i0,mem_cons->ej,size_toArray->gZ,getElem?_set_self->kL,length_cons->ia,length_append->jv,mem_cons_self->jM,getElem?_eq_some_iff->ni,map_cons->gS,mem_singleton->nP,getElem?_map->nj,range->jB,getElem_mem->pL,replicate->nN,mem_append_right->yv,lookup_cons->qG,mem_append->qm,length_singleton->z6,set_cons_zero->vB,map_append->rT,mem_map->pd,mem_append_left->A6,set_cons_succ->z0,getElem?_replicate->C1,append_nil->vz,not_mem_nil->yt,getElem?_eq_none->EB,mem_range->z9,length_zip->A7,map_map->vD,mem_iff_getElem->Gc,append_assoc->EE,filterMap_cons->Gb,getD_eq_getElem?_getD->Nd,length_replicate->Ke,pairwise_cons->F2,zip_cons_cons->F0,lookup->zZ,drop_eq_getElem_cons->Nb,getElem?_append->Kb,find?_cons->Er,length_range->FX,zipWith->B3,length_eq_zero_iff->Np,countP_cons_of_pos->Nn,length_tail->F7,nodup_cons->F6,mem_iff_getElem?->Nj,getElem?_toArray->Ni,foldl_cons->F4,eq_nil_or_concat->Nh,concat_eq_append->Ng,getElem?_append_right->Tn,mem_of_getElem?->Nr,getElem?_append_left->Tj,length_take->JZ,map->vy,map_nil->Em,pairwise_singleton->S1,countP_cons_of_neg->S0,reverse_cons->M6,getElem?_set->M5,pairwise_map->M3,any_eq_true->MZ,cons_append->MY,map_eq_cons_iff->S9,length->FV,length_set->M9,length_eraseIdx_of_lt->X2,getElem?_eq_none_iff->X0,pairwise_iff_getElem->XZ,filterMap_cons_some->XX,any_cons->MP,getElem?_cons_succ->Yc,getElem?_cons_zero->Yb,length_drop->SQ,all_eq_true->SN,drop_eq_nil_of_le->X8,take_of_length_le->X7,of_mem_zip->SW,length_nil->SS,dropLast_eq_take->Yk,getElem?_zipWith->Yi,take_append_drop->XF,countP_le_length->XE,pairwise_append->XB,length_zipWith->Xy,getElem?_range->Xx,mem_filterMap->Xv,Pairwise->RR,toArray->Sf
open List.Pairwise renaming nil->Kg
open List.Perm renaming refl->Ew,swap->XU
open Nat renaming le_refl->cT,ne_of_lt->gi,le_trans->iZ,lt_of_lt_of_le->pq,lt_succ_self->qo,le_of_succ_le->vA,lt_succ_of_lt->yu,lt_of_succ_lt_succ->EC,lt_irrefl->z7,le_of_ble_eq_true->Ge,zero_le->vF,le_succ->B5,lt_trans->CZ,lt_of_le_of_lt->MW,le_of_lt->FU,ne_of_gt->FT,not_lt_zero->M8,eq_zero_or_pos->SD,succ_lt_succ->SJ,lt_or_ge->MS,le_of_eq->Sj,add_comm->Se,sub_sub->RY
open Ne renaming symm->l5
open Option renaming map_eq_some_iff->F',bind_some->F8,isSome_iff_exists->S8,isSome_map->Sv,getD_none->SO
open Option.some renaming injEq->iH,inj->gY
open Or renaming inr->cj,inl->cZ
open PyProof.Rows renaming slot_tuple_getitem->Nu,callWith_type1->Nf,mirror_perm->CT
open PyProof.Rows.F renaming plain_set_update_loop->S3,entry_set_update_loop->Ye
open PyProof.Rows.SortSt renaming mk'->Sn
open PySem renaming wpAny_bind->aI,wpAny_pure->b9,sizeLine_eq->lZ,wpAny_mono->lL,wpAny_holding->rV,wpAny_newObj_type->A8,strLen_append->yx,wpAny_truthy_bool->C3,codeAny_builtin->B6,mem_of_lookup->F3,wpAny_call_entry->Eu,wpAny_setField_rec->F1,wpAny_passesOwn->Es,fits_of_scanBound->FW,codeAny_mono->B4,KeyKind->CW,wpAny_callSpecial?_slot->Nq,wpAny_of_eq->A4,wpAny_setEntries_of->Km,wpAny_Call_Name_kw->Kk,wpAny_setState_of->Kn,plainId_quiet->Ey,wpAny_askSetting->JY,wpAny_execs_nil->JX,tupleKind_room_in1->MV,wpAny_ite_split->JT,wpAny_pyIter_list->M4,builtinLookup_eq_fast->Td,codeAny_call_builtin->Ta,wpAny_attempt->J2,strKind->J0,call_meets->Eo,wpAny_typeOf->JR,wpAny_fieldsOf->MM,wpAny_assign_Name->Sy,wpAny_call->FK,wpAny_standAt->MR,intBits_le_64->MQ,noFill_tuple_add->SR,typeLookup_type->RX,boot_len->RV,seq_tuple_add->RS,Builtin->c6t,wpAny_load->MH,typeIs_str->MG,wpAny_rule->MK,Within->Sm,call->Sr
open PySem.Around renaming under_plainId->EA,under->Si
open PySem.Builtin.Dict renaming updateFrom->Yd
open PySem.Builtin.Int renaming intBits->XA
open PySem.Builtin.List renaming listTooLong->S6,listLengthHint->Yn,listExtendWith->Ym,listSameRef->XW
open PySem.Builtin.Range renaming rangeSize->Yg
open PySem.Builtin.Slice renaming slicePlaces->Nc,sliceAdjust->Ti,sliceApplied->X4
open PySem.Builtin.Str renaming occurrences->Yf
open PySem.Builtin.Tuple renaming tupleExact->Na
open PySem.Calls renaming callWith_builtin->Tf,Name_function_global->X5,evalArgs_plain->XD
open PySem.Code renaming quiet_builtin->Xt,isFrame->Sg
open PySem.Env renaming kindOf->JO
open PySem.F renaming plainAttrs_list->ED,called_set->CY,args_tuple_add_2->S7,slot_list_getattribute->S5,entry_tuple_add->S4,slot_tuple_add->SY,slot_list_append->Te,slot_list_pop->Tg,type_list_append->XY,slot_dict_values->Yh,slot_list_reverse->X9,slot_list_extend->Yl,type_list_pop->Yj,slot_list_clear->XC
open PySem.Heap renaming get?_push_of_some->ft,lt_size->eD,get?_push_size->j',size_push->pf,SameBut->Aa,get?_update_other->Kf,get?_update_self->Nl,get?_none_of_le->Nt,ExtBut->MI
open PySem.Heap.DictOf renaming new->XJ
open PySem.Heap.SameBut renaming refl->Su,update->Xw
open PySem.IsRange renaming new->RZ
open PySem.NameKind renaming free->vE,cell->Ez
open PySem.Obj renaming mapSeq->rW,putSet->ML
open PySem.PassesOwn renaming never->B7
open PySem.SetTable renaming below->z8,grown->Ex,sizeAbove->SA,Probe->XG
open PySem.SetTable.below renaming go->XT
open PySem.SetTable.probe renaming go->Ss
open PySem.Str renaming ofString->yw,empty->A3,ofString_eq_byList->X6
open PySem.Txt renaming slice->CV
open PySem.Value renaming ref->dJ,none->mi,bool->qH,isStrOf_shape->Ka,isInt_shape->Kh,type->CU,builtin->J1,str->Ek,isStrOf->RT,isInt->Sb,int->MJ
open PySem.W renaming Frag->aJ,nsIn->kf,mg_of->nh,findIn->pk,fnOf->nM,mg_none_of->z5,keepIn->yz,emptyDict->B8,tabIn->yy,instObj->C4,hideAll_none->Kc,specialIn->FZ,callWith_K->Kj,tabObj->F9,hideAll_get->MX,mroIn->FP,kas_rev->tU,codeIn->J',kitOne->J4,methodCall_KW->Tc,plainGet->M0,plainGet_of->Th,of_hideAll->SG,kas_descPart->JQ,lookIn->MO,looks_findIn->MN,methodObj->Sz,hasDictIn->Sw,kas_desc->CS,cellsFrom_some->Ya,hideAll->SI,takerIn->SH,takesIn->SX,OpenLaw->SU,kas_place->FO,exmOne->RU,tail_of_in->Xu,plainOver->Xs,isFn->Sk,handedIn->XO,codeHdIn->XN,kas_sort->JP,makesIn->XM,readsIn->XI,findCls->XH
open PySem.Walks renaming list->So
open String renaming splitOnAux->XR
open Sum renaming inr->yr,inl->Ej
open Sum.inr renaming inj->JS
open True renaming intro->FN
namespace L2
open PySem PySem.Spec PyProof.Rows
abbrev Key:=Sum Int Str
def EJ:Key->Value->Bool
 | .inl k,v=>Sb k v
 | .inr x,v=>RT x v
def QH(w:World):Key->Int
 | .inl k=>hashInt k
 | .inr x=>hashStr w x
theorem Bm:∀{k:Key} {v:Value},EJ k v=true->(∃i t,k=Ej i/\v=MJ i t)\/(∃x t,k=yr x/\v=Ek x t)
 | .inl i,v,h=>by
  obtain ⟨t,e⟩:=Kh (k:=i) (v:=v) h
  exact .inl ⟨i,t,rfl,e⟩
 | .inr x,v,h=>by
  obtain ⟨t,e⟩:=Ka (x:=x) (v:=v) h
  exact .inr ⟨x,t,rfl,e⟩
theorem b28(i:Int)(t:Tok):EJ (.inl i) (.int i t)=true:=by simp [EJ,Sb]
theorem b27(x:Str)(t:Tok):EJ (.inr x) (.str x t)=true:=by simp [EJ,RT]
theorem c0m(a b:Int):decide ((Ej a:Key)=Ej b)=(a==b):=by
 by_cases e:a=b
 .subst e;simp
 .have h:¬(Ej a:Key)=Ej b:=λq=>e (Sum.inl.inj q)
  rw [decide_eq_false h]
  exact (beq_eq_false_iff_ne.mpr e).symm
theorem c0j(a b:Str):decide ((yr a:Key)=yr b)=decide (a=b):=by
 by_cases e:a=b
 .subst e;simp
 .have h:¬(yr a:Key)=yr b:=λq=>e (JS q)
  rw [decide_eq_false h,decide_eq_false e]
theorem c0l(a:Int)(b:Str):decide ((Ej a:Key)=yr b)=false:=decide_eq_false (λq=>nomatch q)
theorem c0k(a:Str)(b:Int):decide ((yr a:Key)=Ej b)=false:=decide_eq_false (λq=>nomatch q)
def nV(prog:Program)(w:World):CW prog w Key where
 is:=EJ
 hash:=QH w
 inj:=λv a b ha hb=>by
  rcases Bm ha with ⟨i,t,rfl,rfl⟩ | ⟨x,t,rfl,rfl⟩
  .rcases Bm hb with ⟨j,u,rfl,e⟩ | ⟨y,u,rfl,e⟩
   .injection e with e1 _;rw [e1]
   .exact nomatch e
  .rcases Bm hb with ⟨j,u,rfl,e⟩ | ⟨y,u,rfl,e⟩
   .exact nomatch e
   .injection e with e1 _;rw [e1]
 byValue:=λk v h=>by
  rcases Bm h with ⟨i,t,rfl,rfl⟩ | ⟨x,t,rfl,rfl⟩<;>rfl
 pyHash:=λhv h=>by
  rcases Bm hv with ⟨i,t,rfl,rfl⟩ | ⟨x,t,rfl,rfl⟩
  .exact wpAny_pyHash_int h
  .exact wpAny_pyHash_str h
 eqBool:=λhu hv h=>by
  rcases Bm hu with ⟨i,t,rfl,rfl⟩ | ⟨x,t,rfl,rfl⟩
  .rcases Bm hv with ⟨j,u,rfl,rfl⟩ | ⟨y,u,rfl,rfl⟩
   .rw [c0m] at h;exact wpAny_eqBool_int h
   .rw [c0l] at h;exact SeqAt.EqAt.int_str i t y u _ _ _ _ h
  .rcases Bm hv with ⟨j,u,rfl,rfl⟩ | ⟨y,u,rfl,rfl⟩
   .rw [c0k] at h;exact SeqAt.EqAt.str_int x t j u _ _ _ _ h
   .rw [c0j] at h;exact wpAny_eqBool_str h
 «strs»:=λk x t v h=>by
  rcases Bm h with ⟨i,u,rfl,e⟩ | ⟨y,u,rfl,e⟩
  .exact nomatch e
  .injection e with e1 _
   subst e1
   cases v<;>rfl
theorem a96(prog:Program)(w:World)(i:Int)(t:Tok):(nV prog w).is (.inl i) (.int i t)=true:=b28 i t
theorem a6A(prog:Program)(w:World)(x:Str)(t:Tok):(nV prog w).is (.inr x) (.str x t)=true:=b27 x t
end L2
namespace L2
open PySem PySem.Spec PyProof.Rows
inductive V where
 | cD | bl (b:Bool) | int (i:Int) | str (x:Str) | Gf (b:Array UInt8) | FG (b:UInt64) | ref (a:Addr) | ty (n:String)
 deriving DecidableEq
def RelV:V->Value->Prop
 | .cD,u=>u=mi
 | .bl b,u=>u=qH b
 | .int i,u=>∃t,u=MJ i t
 | .str x,u=>∃t,u=Ek x t
 | .Gf b,u=>∃t,u=Value.bytes b t
 | .FG b,u=>∃t,u=Value.float b t
 | .ref a,u=>u=dJ a
 | .ty n,u=>u=CU n
abbrev aF:List V->List Value->Prop:=Paired RelV
theorem aF.length(r:aF xs us):xs.length=us.length:=Paired.length r
theorem aF.get:∀{xs:List V} {us:List Value} {i:Nat} {x:V},aF xs us->xs[i]?=some x->∃u,us[i]?=some u/\RelV x u
 | _,_,_,_,.nil,e=>by simp at e
 | _,_,0,_,.cons r _,e=>by simp at e;subst e;exact ⟨_,rfl,r⟩
 | _,_,i+1,x,.cons _ t,e=>by
  obtain ⟨u,h1,h2⟩:=aF.get (i:=i) (x:=x) t (by simpa using e)
  exact ⟨u,by simpa using h1,h2⟩
theorem aF.set(r:RelV x u):∀{xs:List V} {us:List Value} (i:Nat),aF xs us->aF (xs.set i x) (us.set i u)
 | _,_,_,.nil=>.nil
 | _,_,0,.cons _ t=>.cons r t
 | _,_,i+1,.cons q t=>.cons q (aF.set r i t)
theorem aF.append:∀{xs ys:List V} {us ws:List Value},aF xs us->aF ys ws->aF (xs++ys) (us++ws)
 | _,_,_,_,.nil,s=>s
 | _,_,_,_,.cons r t,s=>.cons r (aF.append t s)
theorem aF.take:∀{xs:List V} {us:List Value} (n:Nat),aF xs us->aF (xs.take n) (us.take n)
 | _,_,0,_=>.nil
 | _,_,_+1,.nil=>.nil
 | _,_,n+1,.cons r t=>.cons r (aF.take n t)
theorem aF.drop:∀{xs:List V} {us:List Value} (n:Nat),aF xs us->aF (xs.drop n) (us.drop n)
 | _,_,0,r=>r
 | _,_,_+1,.nil=>.nil
 | _,_,n+1,.cons _ t=>aF.drop n t
theorem aF.none_of:∀{xs:List V} {us:List Value} {i:Nat},aF xs us->xs[i]?=none->us[i]?=none:=λ{xs us i} r e=>by
 have h1:=r.length
 have h2:xs.length<=i:=X0.mp e
 exact X0.mpr (by omega)
def jb:Option V->Option Value->Prop
 | some v,some u=>RelV v u
 | none,none=>True
 | _,_=>False
def KV{κ:Type}:List (κ×V)->List (κ×Value)->Prop:=Paired λ(p:κ×V) (q:κ×Value)=>p.1=q.1/\RelV p.2 q.2
def kV:Key->V
 | .inl i=>.int i
 | .inr x=>.str x
inductive HO where
 /-- a list -/
 | lst (xs:List V)
 /-- a tuple (never changes) -/
 | tup (xs:List V)
 /-- a dict Cz keys are ints and texts;one Cz keys are tuples of ints and texts (the empty one is both) -/
 | dK (aD:List (Key×V)) | dT (aD:List (List Key×V))
 /-- a set of ints: aB members,aB size -/
 | set (S:Int->Bool) (n:Nat)
 /-- an instance of the class at C,aB dict at dx,aB attributes -/
 | ins (C dx:Addr) (fs:List (Str×V))
 /-- the dict of the instance at x -/
 | own (x:Addr)
 /-- the dict of an exception -/
 | xd (fs:List (Str×V))
 /-- a bound method,f of x -/
 | met (f x:Addr)
 /-- a range object lo,lo+1,.. below hi -/
 | Ma (lo hi:Int)
 /-- a Hf that is known to the object (the script;a dict while a loop walks it): read,never written while it is so -/
 | jJ (o:Obj) (u:HO)
 /-- a code zt table -/
 | CA (ps:Array Value)
 /-- a code zt table Cz codes are all called q,and are aB own -/
 | tab (q:Str)
 /-- any other Hf,by what is true of aB one object (a def of WH own: SetO a S n:=HO.ext λh=>..) -/
 | ext (φ:Heap->Prop)
def ownOf:HO->Option Addr
 | .own x=>some x
 | .jJ _ (.own x)=>some x
 | _=>none
def c0v(q:Str)(o:Obj):Prop:=∃vs t,o.data=.fields vs/\vs[1]?=some (.str q t)
abbrev Hp:=Addr->Option HO
def upd(H:Hp)(a:Addr)(o:HO):Hp:=λb=>if b=a then some o else H b
theorem lM:upd H a o a=some o:=by unfold upd;rw [if_pos rfl]
theorem fm(h:b≠a):upd H a o b=H b:=by unfold upd;rw [if_neg h]
theorem Ip{H:Hp}{a b:Addr}{o u:HO}(h:H a=some o)(h':H b=some u)(d:o≠u):a≠b:=by
 intro e;subst e;rw [h] at h';exact d (gY h')
theorem qt{H:Hp}{a b:Addr}{o:HO}(h:H a=some o)(h':H b=none):a≠b:=by
 intro e;subst e;rw [h] at h';cases h'
section
variable (P:Program)(w:World)
def cM(H:Hp)(h:Heap)(a:Addr):HO->Prop
 | .lst xs=>xs.length<=sizeLine/\∃(aB:List Value) (n:Nat),aF xs aB/\h.get? a=some { cls:=.type "list",data:=.seq aB.toArray n }
 | .tup xs=>xs.length<=sizeLine/\∃aB:List Value,aF xs aB/\IsTup h a aB.toArray
 | .dK aD=>aD.length<=sizeLine/\(a==sysModules)=false/\∃vs,KV aD vs/\h.DictOf (nV P w) a vs
 | .dT aD=>aD.length<=sizeLine/\(a==sysModules)=false/\∃xs:List (List Key×Addr×Value),
   Paired (λ(p:List Key×V) (q:List Key×Addr×Value)=>p.1=q.1/\H q.2.1=some (.tup (p.1.map kV))/\RelV p.2 q.2.2) aD xs /\
   ∃o es ep,h.get? a=some o/\o.ExactDict/\o.data=.dict es ep/\es.toList=xs.map (entryOfKey (tupleKind (nV P w)))/\(xs.map (·.1)).Nodup
 | .set S n=>h.SetOf (intKind P w) a S n
 | .ins C dx fs=>H dx=some (.own a)/\fs.length<=1000/\dx≠a/\h.get? a=some (C4 C dx) /\
   ∃mA,h.Ns1 dx mA/\(∀f,jb (fs.lookup f) (mA f))/\Sm mA (fs.map (·.1))
 | .own _=>∃o,h.get? a=some o
 | .xd fs=>∃mA,h.Ns1 a mA/\∀f,jb (fs.lookup f) (mA f)
 | .Ma lo hi=>∃t u v,h.get? a=some { cls:=.type "range",data:=.fields #[.int lo t,.int hi u,.int 1 v] }
 | .jJ o u=>h.get? a=some o/\cM H h a u
 | .CA ps=>h.get? a=some { cls:=.none,data:=.fields ps }
 | .tab q=>∃ps,h.get? a=some (F9 ps)/\TriplesOk ps.toList/\∀pos cv,codeAmong pos ps.toList=some cv->∃c oc,cv=.ref c/\H c=some (.jJ oc (.own a))/\c0v q oc
 | .met f x=>h.get? a=some (Sz (.ref f) (.ref x))
 | .ext φ=>φ h/\(∃o,h.get? a=some o)/\∀h1 h2:Heap,φ h1->(∀o,h1.get? a=some o->h2.get? a=some o)->φ h2
def jc(H:Hp)(h:Heap):Prop:=∀a o,H a=some o->cM P w H h a o
end
section
variable {P:Program}{w:World}{H H':Hp}{h h':Heap}{a:Addr}{o:HO}
theorem cM.lt(x:cM P w H h a o):a<h.objs.size:=by
 cases o with
 | lst xs=>obtain ⟨_,_,_,_,e⟩:=x;exact eD e
 | tup xs=>obtain ⟨_,_,_,p⟩:=x;exact p.lt
 | dK aD=>obtain ⟨_,_,_,_,o,_,_,e,_⟩:=x;exact eD e
 | dT aD=>obtain ⟨_,_,_,_,o,_,_,e,_⟩:=x;exact eD e
 | set S n=>obtain ⟨o,_,_,_,e,_⟩:=x;exact eD e
 | ins C dx fs=>obtain ⟨_,_,_,e,_⟩:=x;exact eD e
 | own y=>obtain ⟨_,e⟩:=x;exact eD e
 | xd fs=>obtain ⟨_,⟨_,_,_,e,_⟩,_⟩:=x;exact eD e
 | Ma lo hi=>obtain ⟨_,_,_,e⟩:=x;exact eD e
 | jJ ob u=>obtain ⟨e,_⟩:=x;exact eD e
 | CA ps=>exact eD (show h.get? a=some _ from x)
 | tab q=>obtain ⟨_,e,_⟩:=x;exact eD e
 | met f y=>exact eD (show h.get? a=some _ from x)
 | ext φ=>obtain ⟨_,⟨_,e⟩,_⟩:=x;exact eD e
theorem Paired.DQ{α β:Type}{F G:α->β->Prop}:∀{l₁:List α} {l₂:List β},Paired F l₁ l₂->(∀a b,F a b->G a b)->Paired G l₁ l₂
 | _,_,.nil,_=>.nil
 | _,_,.cons r t,f=>.cons (f _ _ r) (Paired.DQ t f)
theorem cM.oP(x:cM P w H h a o)(k:∀b u,(b=a\/H b=some (.own a))->h.get? b=some u->h'.get? b=some u)
  (ho:∀b u,ownOf u=some a->H b=some u->H' b=some u)(ht:∀b xs,H b=some (.tup xs)->H' b=some (.tup xs)):cM P w H' h' a o:=by
 induction o with
 | lst xs=>obtain ⟨z,aB,n,r,e⟩:=x;exact ⟨z,aB,n,r,k _ _ (.inl rfl) e⟩
 | tup xs=>obtain ⟨z,aB,r,ob,e,c⟩:=x;exact ⟨z,aB,r,ob,k _ _ (.inl rfl) e,c⟩
 | dK aD=>obtain ⟨z,y,vs,r,ob,es,ep,e,c⟩:=x;exact ⟨z,y,vs,r,ob,es,ep,k _ _ (.inl rfl) e,c⟩
 | dT aD =>
  obtain ⟨z,y,xs,r,ob,es,ep,e,c⟩:=x
  exact ⟨z,y,xs,Paired.DQ r λp q z=>⟨z.1,ht _ _ z.2.1,z.2.2⟩,ob,es,ep,k _ _ (.inl rfl) e,c⟩
 | set S n=>obtain ⟨ob,es,ep,t,e,c⟩:=x;exact ⟨ob,es,ep,t,k _ _ (.inl rfl) e,c⟩
 | ins C dx fs =>
  obtain ⟨d,z,ne,e,mA,⟨od,es,ep,e2,c⟩,r⟩:=x
  exact ⟨ho _ _ rfl d,z,ne,k _ _ (.inl rfl) e,mA,⟨od,es,ep,k _ _ (.inr d) e2,c⟩,r⟩
 | own y=>obtain ⟨ob,e⟩:=x;exact ⟨ob,k _ _ (.inl rfl) e⟩
 | xd fs=>obtain ⟨mA,⟨od,es,ep,e,c⟩,r⟩:=x;exact ⟨mA,⟨od,es,ep,k _ _ (.inl rfl) e,c⟩,r⟩
 | Ma lo hi=>obtain ⟨t,u,v,e⟩:=x;exact ⟨t,u,v,k _ _ (.inl rfl) e⟩
 | jJ ob u ih=>obtain ⟨e,q⟩:=x;exact ⟨k _ _ (.inl rfl) e,ih q⟩
 | CA ps =>
  have e:h.get? a=some { cls:=.none,data:=.fields ps }:=x
  show h'.get? a=some { cls:=.none,data:=.fields ps }
  exact k a _ (.inl rfl) e
 | tab q =>
  obtain ⟨ps,e,ht,z⟩:=x
  exact ⟨ps,k _ _ (.inl rfl) e,ht,λpos cv hc=>let ⟨c,oc,e1,e2,e3⟩:=z pos cv hc;⟨c,oc,e1,ho _ _ rfl e2,e3⟩⟩
 | met f y =>
  have e:h.get? a=some (Sz (.ref f) (.ref y)):=x
  show h'.get? a=some (Sz (.ref f) (.ref y))
  exact k a _ (.inl rfl) e
 | ext φ=>obtain ⟨p,⟨o,e⟩,st⟩:=x;exact ⟨st _ _ p λo q=>k _ _ (.inl rfl) q,⟨o,k _ _ (.inl rfl) e⟩,st⟩
theorem jc.lt(x:jc P w H h)(e:H a=some o):a<h.objs.size:=(x a o e).lt
theorem jc.fresh(x:jc P w H h)(e:h.objs.size<=a):H a=none:=by
 cases q:H a with
 | none=>rfl
 | some u=>exact absurd (pq (x.lt q) e) (z7 _)
theorem jc.kept(x:jc P w H h)(k:∀b u,h.get? b=some u->h'.get? b=some u):jc P w H h':=λa o e =>
 (x a o e).oP (λb u _ q=>k b u q) (λ_ _ _ q=>q) λ_ _ q=>q
theorem jc.laid(x:jc P w H h)(k:∀b u,h.get? b=some u->h'.get? b=some u)(hp:h.objs.size<=a)(new:cM P w (upd H a o) h' a o):jc P w (upd H a o) h':=λb u e=>by
 have hn:=x.fresh hp
 by_cases hb:b=a
 .subst hb;rw [lM] at e;cases e;exact new
 .rw [fm hb] at e
  exact (x b u e).oP (λc v _ q=>k c v q) (λc _ _ q=>by rw [fm (qt q hn)];exact q) λc xs q=>by rw [fm (qt q hn)];exact q
end
def Rd(H:Hp)(a:Addr)(u:HO):Prop:=H a=some u\/∃o,H a=some (.jJ o u)
theorem Rd.of(h:H a=some u):Rd H a u:=.inl h
theorem Rd.ok(r:Rd H a u)(x:jc P w H h):cM P w H h a u:=by
 rcases r with r | ⟨o,r⟩
 .exact x a u r
 .obtain ⟨_,q⟩:=x a _ r
  exact q
def LL:Option HO->Prop
 | some (.lst _)=>True
 | some (.dK _)=>True
 | some (.dT _)=>True
 | some (.set _ _)=>True
 | some (.ins _ _ _)=>True
 | some (.ext _)=>True
 | some (.tab _)=>True
 | _=>False
section
variable {P:Program}{w:World}{H:Hp}{h h':Heap}{x e:Addr}{o':HO}
theorem jc.write(ok:jc P w H h)(mu:LL (H x))(he:e=x\/H e=some (.own x))(k:∀b u,b≠e->h.get? b=some u->h'.get? b=some u)(FC:∃u,h'.get? e=some u)
  (new:cM P w (upd H x o') h' x o'):jc P w (upd H x o') h':=λb u q=>by
 have Qt:∀c y,H c=some (.own y)->c≠x:=λc y r z=>by subst z;rw [r] at mu;exact mu
 have Qs:∀c xs,H c=some (.tup xs)->c≠x:=λc xs r z=>by subst z;rw [r] at mu;exact mu
 have Qu:∀c y u,ownOf u=some y->H c=some u->c≠x:=λc y u hu r z=>by
  subst z;rw [r] at mu
  cases u with
  | own y=>exact mu
  | jJ o v=>exact mu
  | _=>cases hu
 by_cases hb:b=x
 .subst hb;rw [lM] at q;cases q;exact new
 .rw [fm hb] at q
  by_cases D7:b=e
  .have q':H b=some (.own x):=by
    rcases he with z | z
    .exact absurd (D7.trans z) hb
    .rw [D7];exact z
   rw [q] at q';cases q'
   obtain ⟨v,hv⟩:=FC
   exact ⟨v,by rw [D7];exact hv⟩
  .refine (ok b u q).oP (λc v hc r=>k c v ?_ r) (λc u hu r=>by rw [fm (Qu c b u hu r)];exact r) λc xs r=>by rw [fm (Qs c xs r)];exact r
   rcases hc with rfl | hc
   .exact D7
   .rintro rfl
    rcases he with z | z
    .exact Qt c b hc z
    .rw [hc] at z;cases z;exact hb rfl
end
structure Un(fs ex:List Addr)(H H':Hp)(h h':Heap):Prop where
 keep:∀b o,h.get? b=some o->H b=none->b∉fs->b∉ex->h'.get? b=some o
 slot:∀b o,h.get? b=some o->H b=none->b∈fs->b∉ex->∃sl,h'.get? b=some { o with slots:=sl }
 free:∀b o,h.get? b=some o->H b=none->b∉ex->H' b=none
 there:∀b o,h.get? b=some o->b∉ex->∃o',h'.get? b=some o'
 iQ:∀b xs,H b=some (.tup xs)->H' b=some (.tup xs)
 iF:∀b o u,H b=some (.jJ o u)->H' b=some (.jJ o u)
 iR:∀b ps,H b=some (.CA ps)->∃more,H' b=some (.CA (ps++more))
section
variable {fs xK ex Xp:List Addr}{H H1 H2:Hp}{h h1 h2 h':Heap}{a x e:Addr}{o:HO}
theorem Un.any(u:Un fs ex H H1 h h1)(q:h.get? b=some ob)(n:H b=none)(hx:b∉ex):∃sl,h1.get? b=some { ob with slots:=sl }:=by
 by_cases hb:b∈fs
 .exact u.slot b ob q n hb hx
 .exact ⟨ob.slots,u.keep b ob q n hb hx⟩
theorem Un.trans(a:Un fs ex H H1 h h1)(b:Un fs ex H1 H2 h1 h2):Un fs ex H H2 h h2 where
 keep:=λc ob q n hc hx=>b.keep c ob (a.keep c ob q n hc hx) (a.free c ob q n hx) hc hx
 slot:=λc ob q n hc hx=>by
  obtain ⟨sl,e1⟩:=a.slot c ob q n hc hx
  obtain ⟨Qb,e2⟩:=b.slot c _ e1 (a.free c ob q n hx) hc hx
  exact ⟨Qb,e2⟩
 free:=λc ob q n hx=>by
  obtain ⟨o',e1⟩:=a.there c ob q hx
  exact b.free c o' e1 (a.free c ob q n hx) hx
 there:=λc ob q hx=>by
  obtain ⟨o',e1⟩:=a.there c ob q hx
  exact b.there c o' e1 hx
 iQ:=λc xs q=>b.iQ c xs (a.iQ c xs q)
 iF:=λc ob xs q=>b.iF c ob xs (a.iF c ob xs q)
 iR:=λc ps q=>by
  obtain ⟨m1,e1⟩:=a.iR c ps q
  obtain ⟨m2,e2⟩:=b.iR c _ e1
  exact ⟨m1++m2,by rw [e2,Kl]⟩
theorem Un.kept(k:∀b u,h.get? b=some u->h'.get? b=some u):Un fs ex H H h h':=
 ⟨λb ob q _ _ _=>k b ob q,λb ob q _ _ _=>⟨ob.slots,k b ob q⟩,λ_ _ _ n _=>n,λb ob q _=>⟨ob,k b ob q⟩,λ_ _ q=>q,λ_ _ _ q=>q,λ_ ps q=>⟨#[],by rw [q];simp⟩⟩
theorem Un.refl:Un fs ex H H h h:=Un.kept λ_ _ q=>q
theorem Un.laid(k:∀b u,h.get? b=some u->h'.get? b=some u)(hp:h.objs.size<=a)(hn:H a=none):Un fs ex H (upd H a o) h h' where
 keep:=λb u q _ _ _=>k b u q
 slot:=λb u q _ _ _=>⟨u.slots,k b u q⟩
 free:=λb u q n _=>by rw [fm (gi (pq (eD q) hp))];exact n
 there:=λb u q _=>⟨u,k b u q⟩
 iQ:=λb xs q=>by rw [fm (qt q hn)];exact q
 iF:=λb u xs q=>by rw [fm (qt q hn)];exact q
 iR:=λb ps q=>⟨#[],by rw [fm (qt q hn),q];simp⟩
theorem Un.write(mu:LL (H x))(he:e=x\/H e=some (.own x))(k:∀b u,b≠e->h.get? b=some u->h'.get? b=some u)(FC:∃u,h'.get? e=some u):Un fs ex H (upd H x o) h h':=by
 have hx:∀b,H b=none->b≠x:=λb n z=>by subst z;rw [n] at mu;exact mu
 have hb:∀b,H b=none->b≠e:=λb n z=>by
  subst z
  rcases he with r | r
  .exact hx b n r
  .rw [n] at r;cases r
 have hm:∀b u,H b=some u->¬LL (some u)->b≠x:=λb u q nm z=>by subst z;rw [q] at mu;exact nm mu
 refine ⟨λb u q n _ _=>k b u (hb b n) q,λb u q n _ _=>⟨u.slots,k b u (hb b n) q⟩,λb u q n _=>by rw [fm (hx b n)];exact n,λb u q _=>?_,
  λb xs q=>by rw [fm (hm b _ q λz=>z)];exact q,λb u xs q=>by rw [fm (hm b _ q λz=>z)];exact q,λb ps q=>⟨#[],by rw [fm (hm b _ q λz=>z),q];simp⟩⟩
 by_cases D7:b=e
 .subst D7;exact FC
 .exact ⟨u,k b u D7 q⟩
theorem Un.mono(u:Un fs ex H H1 h h1)(hs:∀b∈fs,b∈xK)(hx:∀b∈ex,b∈Xp):Un xK Xp H H1 h h1:=
 ⟨λb ob q n hb he=>u.keep b ob q n (λz=>hb (hs b z)) λz=>he (hx b z),λ_ _ q n _ he=>u.any q n λz=>he (hx _ z),λb ob q n he=>u.free b ob q n λz=>he (hx b z),λb ob q he=>u.there b ob q λz=>he (hx b z),u.iQ,u.iF,u.iR⟩
end
def L1(h:Heap)(H:Hp):List Addr:=(jB h.objs.size).filter λa=>(H a).isSome
def o6(h:Heap)(H:Hp):Heap:=SI h (L1 h H)
theorem b3v(h:Heap)(H:Hp):(o6 h H).objs.size=h.objs.size:=PySem.W.hideAll_size _ _
theorem b44(e:h.get? b=some o)(n:H b=none):(o6 h H).get? b=some o:=
 MX _ e λhm=>by
  have q:(H b).isSome=true:=(List.mem_filter.mp hm).2
  rw [n] at q;simp at q
theorem b7s(e:(o6 h H).get? b=some o):h.get? b=some o/\H b=none:=by
 have e':h.get? b=some o:=SG (L1 h H) e
 refine ⟨e',?_⟩
 cases q:H b with
 | none=>rfl
 | some x =>
  have hm:b∈L1 h H:=List.mem_filter.mpr ⟨z9.mpr (eD e'),by simp [q]⟩
  have z:(o6 h H).get? b=none:=Kc (L1 h H) hm
  rw [z] at e;cases e
def b8s(g h:Heap)(L:Addr):List (Addr×Obj):=(jB h.objs.size).filterMap λa=>if a=L\/(g.get? a).isSome=true then none else (h.get? a).map λo=>(a,o)
def rest(g h:Heap)(L d:Addr):List (Addr×Obj):=(b8s g h L).filter λp=>decide (p.1≠d)
end L2
namespace L2
open PySem PySem.Spec PyProof.Rows
structure Mod(K:aJ)(mg:Str->Option Value)(base:Heap):Prop where
 zy:K.In base
 glob:base.Ns mainGlobals mg
 blt:∃mb,base.Ns builtinsNs mb/\∀x:Str,x ≠ "__name__" -> mb x=bootBuiltins x
 nolimit:base.NoLimit
 bmod:∃bm ob,mg "__builtins__" = some (.ref bm)/\bm≠builtinsNs/\base.get? bm=some ob/\ob.cls=.type "module" /\ ob.dict=some builtinsNs/\ob.data=.plain
structure Cx where
 prog:Program
 w:World
 K:aJ
 mg:Str->Option Value
 base:Heap
 A:Around
 N:List Str
 dF:Shared
 Ao:Hp
 env:Env
 outer:List Env
 stack:List Env
 ex:List Addr
 fn:Str->Bool
 calm:Bool
 pn:List (Addr×Obj)
 xe:Value->Shared->Prop
def j8(l:List Env):List Addr:=l.filterMap (·.frame)
abbrev Cx.fs(X:Cx):List Addr:=j8 X.outer
def ib(sc:Scope)(x:Str):Prop:=sc.names.lookup x=some .local\/sc.names.lookup x=some .cell\/sc.names.lookup x=some .free
def Loc(sc:Scope)(x:Str):Prop:=sc.names.lookup x=some .local\/sc.names.lookup x=some .cell
def Look(env:Env)(h:Heap)(m:Str->Option Value)(x:Str)(u:Value):Prop:=
 (env.kindOf x=some .local/\m x=some u)\/((env.kindOf x=some .cell\/env.kindOf x=some .free)/\∃c,env.cells.lookup x=some c/\h.IsCell c (some u))
structure Cx.Ok(X:Cx):Prop where
 mod:Mod X.K X.mg X.base
 kind:X.env.scope.kind=.function
 glob:X.env.globals=mainGlobals
 blt:X.env.builtins=builtinsNs
 above:X.dF.heap.objs.size<=X.env.locals
 inj:∀x y c,X.env.cells.lookup x=some c->X.env.cells.lookup y=some c->x=y
 has:∀x,(X.env.kindOf x=some .cell\/X.env.kindOf x=some .free)->∃c,X.env.cells.lookup x=some c
 Ei:∀x c,X.fn x=true->X.env.cells.lookup x=some c->X.dF.heap.objs.size<=c
 hd:X.calm=true->X.A.handled=none
 frames:X.A.frames=some X.stack
 Fm:X.stack=X.outer\/(X.stack=X.env::X.outer/\X.env.frame=some X.env.locals)
 MB:∀b∈X.ex,b≠X.env.locals/\∀x c,X.env.cells.lookup x=some c->c≠b
 bs:∀b o,X.base.get? b=some o->X.dF.heap.get? b=some o/\X.Ao b=none
 vG:X.base.objs.size<=X.dF.heap.objs.size
 rh:∀b o,X.base.get? b=some o->b∉X.ex
 uZ:∀b∈X.ex,b∉X.fs
 jX:X.dF.heap.FunFrames X.base X.outer
 AO:∀b∈X.fs,X.Ao b=none
structure Inv(X:Cx)(pins:List (Addr×Obj))(σ:List (Option V))(H:Hp)(s:Shared):Prop where
 ok:X.Ok
 os:s.os=X.dF.os
 bare:AllBare s.gens
 base:Un X.fs X.ex X.Ao H X.dF.heap s.heap
 loc:∃m,s.heap.Ns X.env.locals m/\∀(i:Nat) (x:Str) (v:V),X.N[i]?=some x->σ[i]?=some (some v)->ib X.env.scope x->∃u,RelV v u/\Look X.env s.heap m x u
 cell:∀x c,X.env.cells.lookup x=some c->∃v,s.heap.IsCell c v
 free:H X.env.locals=none
 d9:∀x c,X.env.cells.lookup x=some c->H c=none
 pin:∀p∈X.pn++pins,s.heap.get? p.1=some p.2/\H p.1=none/\p.1≠X.env.locals/\p.1∉X.fs/\∀v,p.2.data≠.cell v
 bE:jc X.prog X.w H s.heap
 len:σ.length=X.N.length
section
variable {X:Cx}{pins:List (Addr×Obj)}{σ:List (Option V)}{H H':Hp}{s:Shared}{h':Heap}
theorem Cx.Ok.Qw(ok:X.Ok)(e:X.base.get? b=some o):b∉X.fs:=λhb=>by
 have:=(ok.jX.mem hb).1
 rw [e] at this;cases this
theorem Inv.bs(I:Inv X pins σ H s):∀b o,X.base.get? b=some o->s.heap.get? b=some o/\H b=none:=λb o e =>
 ⟨I.base.keep b o (I.ok.bs b o e).1 (I.ok.bs b o e).2 (I.ok.Qw e) (I.ok.rh b o e),I.base.free b o (I.ok.bs b o e).1 (I.ok.bs b o e).2 (I.ok.rh b o e)⟩
theorem Inv.bk(I:Inv X pins σ H s):∀b o,X.base.get? b=some o->s.heap.get? b=some o:=λb o e=>(I.bs b o e).1
theorem Inv.mod(I:Inv X pins σ H s):Mod X.K X.mg X.base:=I.ok.mod
theorem Inv.mf(I:Inv X pins σ H s):X.K.In s.heap:=I.ok.mod.zy.keeps I.bk
theorem Inv.nolimit(I:Inv X pins σ H s):s.heap.NoLimit:=I.ok.mod.nolimit.keeps I.bk
theorem Inv.fr(I:Inv X pins σ H s):∃m,Fr X.base X.env.locals s.heap m:=
 let ⟨m,hn,_⟩:=I.loc
 ⟨m,hn,I.bk,iZ I.ok.vG I.ok.above⟩
theorem Inv.lt(I:Inv X pins σ H s):X.env.locals<s.heap.objs.size:=let ⟨_,hn,_⟩:=I.loc;hn.lt
theorem Inv.sz(I:Inv X pins σ H s):X.dF.heap.objs.size<=s.heap.objs.size:=iZ I.ok.above (FU I.lt)
theorem Inv.Qv(I:Inv X pins σ H s){a:Addr}(h:s.heap.objs.size<=a):a∉X.fs:=λhb=>by
 obtain ⟨_,o,ho,_⟩:=I.ok.jX.mem hb
 exact absurd (pq (eD ho) (iZ I.sz h)) (z7 _)
theorem Inv.B1(I:Inv X pins σ H s):∀x c,X.env.cells.lookup x=some c->c≠X.env.locals:=λx c e z=>by
 obtain ⟨v,o,ho,hd⟩:=I.cell x c e
 obtain ⟨m,⟨o',es,ep,jA,AL,_⟩,_⟩:=I.loc
 rw [z,jA] at ho;cases ho;rw [AL] at hd;cases hd
theorem Inv.jX(I:Inv X pins σ H s):s.heap.FunFrames X.base X.outer:=by
 have all:∀(l:List Env),(∀b∈j8 l,b∈X.fs)->X.dF.heap.FunFrames X.base l->s.heap.FunFrames X.base l:=by
  intro l
  induction l with
  | nil=>intro _ _;trivial
  | cons env r ih =>
   intro hs hl
   obtain ⟨hk,⟨L,o,hf,hn,ho,hd⟩,hr⟩:=hl
   have hL:L∈X.fs:=hs L (by unfold j8;rw [Gb,hf];exact jM)
   obtain ⟨sl,e⟩:=I.base.slot L o ho (I.ok.AO L hL) hL λz=>I.ok.uZ L z hL
   exact ⟨hk,⟨L,_,hf,hn,e,hd⟩,ih (λb hb=>hs b (by unfold j8;rw [Gb,hf];exact i0 _ hb)) hr⟩
 exact all X.outer (λ_ hb=>hb) I.ok.jX
theorem Inv.stack(I:Inv X pins σ H s):s.heap.FunFrames X.base X.stack:=by
 rcases I.ok.Fm with e | ⟨e,hf⟩
 .rw [e];exact I.jX
 .rw [e]
  obtain ⟨m,hn,_⟩:=I.loc
  refine .cons (by rw [I.ok.kind];decide) hf hn ?_ I.jX
  exact Nt (iZ I.ok.vG I.ok.above)
theorem Inv.ji(I:Inv X pins σ H s):∀b∈j8 X.stack,b∈X.env.locals::X.fs:=λb hb=>by
 rcases I.ok.Fm with e | ⟨e,hf⟩
 .rw [e] at hb;exact i0 _ hb
 .rw [e] at hb
  unfold j8 at hb
  rw [Gb,hf] at hb
  exact hb
theorem Inv.kn(I:Inv X pins σ H s):∀b∈j8 X.stack,H b=none:=λb hb=>by
 rcases ej.mp (I.ji b hb) with e | hb
 .rw [e];exact I.free
 .obtain ⟨_,o,ho,_⟩:=I.ok.jX.mem hb
  exact I.base.free b o ho (I.ok.AO b hb) λz=>I.ok.uZ b z hb
theorem Inv.step{g':Array GenState}{t':Nat}{d':Drawn}{ch:List Addr}(I:Inv X pins σ H s)
  (AM:∀b∈ch,(b∈X.ex\/X.dF.heap.objs.size<=b)/\b≠X.env.locals/\(∀x c,X.env.cells.lookup x=some c->c≠b)/\∀p∈X.pn++pins,p.1≠b)
  (keep:∀b o,b≠X.env.locals->b∉X.fs->b∉ch->s.heap.get? b=some o->H b=none->h'.get? b=some o)
  (slot:∀b o,b≠X.env.locals->b∈X.fs->b∉ch->s.heap.get? b=some o->H b=none->∃sl,h'.get? b=some { o with slots:=sl })(free:∀b o,b∉ch->s.heap.get? b=some o->H b=none->H' b=none)
  (there:∀b o,b∉ch->s.heap.get? b=some o->∃o',h'.get? b=some o')
  (iQ:∀b xs,H b=some (.tup xs)->H' b=some (.tup xs))(iF:∀b o u,H b=some (.jJ o u)->H' b=some (.jJ o u))(iR:∀b ps,H b=some (.CA ps)->∃more,H' b=some (.CA (ps++more)))
  (ns:∀m,s.heap.Ns X.env.locals m->h'.Ns X.env.locals m)(bE:jc X.prog X.w H' h')(hg:AllBare g'):
  Inv X pins σ H' { s with heap:=h',gens:=g',drawn:=d',toks:=t' }:=by
 have Fu:∀b o,X.dF.heap.get? b=some o->b≠X.env.locals:=λb o e=>gi (pq (eD e) I.ok.above)
 have Md:∀b o,X.dF.heap.get? b=some o->b∉X.ex->b∉ch:=λb o e hx hb=>by
  rcases (AM b hb).1 with z | z
  .exact hx z
  .exact absurd (pq (eD e) z) (z7 _)
 have cellK:∀x c,X.env.cells.lookup x=some c->∀v,s.heap.IsCell c v->h'.IsCell c v:=λx c e v ⟨o,ho,hd⟩=>by
  have Iq:c∉ch:=λz=>(AM c z).2.2.1 x c e rfl
  by_cases hc:c∈X.fs
  .obtain ⟨sl,q⟩:=slot c o (I.B1 x c e) hc Iq ho (I.d9 x c e)
   exact ⟨_,q,hd⟩
  .exact ⟨o,keep c o (I.B1 x c e) hc Iq ho (I.d9 x c e),hd⟩
 refine ⟨I.ok,I.os,hg,⟨λb o e n hb hx=>?_,λb o e n hb hx=>?_,λb o e n hx=>?_,λb o e hx=>?_,λb xs e=>iQ b xs (I.base.iQ b xs e),λb o xs e=>iF b o xs (I.base.iF b o xs e),λb ps e=>?_⟩,?_,λx c e=>?_,?_,λx c e=>?_,λp hp=>?_,bE,I.len⟩
 .exact keep b o (Fu b o e) hb (Md b o e hx) (I.base.keep b o e n hb hx) (I.base.free b o e n hx)
 .obtain ⟨sl,e1⟩:=I.base.slot b o e n hb hx
  obtain ⟨Qb,e2⟩:=slot b _ (Fu b o e) hb (Md b o e hx) e1 (I.base.free b o e n hx)
  exact ⟨Qb,e2⟩
 .obtain ⟨o',e1⟩:=I.base.there b o e hx
  exact free b o' (Md b o e hx) e1 (I.base.free b o e n hx)
 .obtain ⟨o',e1⟩:=I.base.there b o e hx
  exact there b o' (Md b o e hx) e1
 .obtain ⟨m1,e1⟩:=I.base.iR b ps e
  obtain ⟨m2,e2⟩:=iR b _ e1
  exact ⟨m1++m2,by rw [e2,Kl]⟩
 .obtain ⟨m,hn,hl⟩:=I.loc
  refine ⟨m,ns m hn,λi x v e1 e2 e3=>?_⟩
  obtain ⟨u,r,l⟩:=hl i x v e1 e2 e3
  refine ⟨u,r,?_⟩
  rcases l with l | ⟨k,c,e,z⟩
  .exact .inl l
  .exact .inr ⟨k,c,e,cellK x c e _ z⟩
 .obtain ⟨v,z⟩:=I.cell x c e
  exact ⟨v,cellK x c e v z⟩
 .obtain ⟨m,⟨o,_,_,ho,_⟩,_⟩:=I.loc
  exact free _ o (λz=>(AM _ z).2.1 rfl) ho I.free
 .obtain ⟨v,o,ho,hd⟩:=I.cell x c e
  exact free c o (λz=>(AM c z).2.2.1 x c e rfl) ho (I.d9 x c e)
 .obtain ⟨e,n,ne,nf,d⟩:=I.pin p hp
  have Iq:p.1∉ch:=λz=>(AM p.1 z).2.2.2 p hp rfl
  exact ⟨keep p.1 p.2 ne nf Iq e n,free p.1 p.2 Iq e n,ne,nf,d⟩
theorem Inv.un(I:Inv X pins σ H s)(u:Un X.fs [] H H' s.heap h')(bE:jc X.prog X.w H' h'):Inv X pins σ H' { s with heap:=h',toks:=t' }:=by
 obtain ⟨m,⟨o,es,ep,ho,r⟩,_⟩:=id I.loc
 obtain ⟨sl,hL⟩:=u.any ho I.free (by simp)
 exact I.step (g':=s.gens) (d':=s.drawn) (ch:=[]) (λ_ z=>nomatch z) (λb o _ hb _ e n=>u.keep b o e n hb (by simp)) (λb o _ hb _ e n=>u.slot b o e n hb (by simp)) (λb o _ e n=>u.free b o e n (by simp)) (λb o _ e=>u.there b o e (by simp)) u.iQ u.iF u.iR (λm' hm=>by
  obtain ⟨o',tE,MD,jA,r'⟩:=hm
  rw [ho] at jA;cases jA
  exact ⟨_,tE,MD,hL,r'⟩) bE I.bare
theorem Inv.call(I:Inv X pins σ H s)(u:Un (j8 X.stack) ch H H' s.heap h')(bE:jc X.prog X.w H' h')(hg:AllBare g')
  (AM:∀b∈ch,(b∈X.ex\/X.dF.heap.objs.size<=b)/\b≠X.env.locals/\(∀x c,X.env.cells.lookup x=some c->c≠b)/\∀p∈X.pn++pins,p.1≠b):
  Inv X pins σ H' { s with heap:=h',gens:=g',drawn:=d',toks:=t' }:=by
 obtain ⟨m,⟨o,es,ep,ho,r⟩,_⟩:=id I.loc
 obtain ⟨sl,hL⟩:=u.any ho I.free λz=>(AM _ z).2.1 rfl
 exact I.step (ch:=ch) AM (λb o hL hb hc e n=>u.keep b o e n (λz=>(ej.mp (I.ji b z)).elim hL hb) hc) (λb o _ _ hc e n=>u.any e n hc) (λb o hc e n=>u.free b o e n hc) (λb o hc e=>u.there b o e hc) u.iQ u.iF u.iR (λm' hm=>by
  obtain ⟨o',tE,MD,jA,r'⟩:=hm
  rw [ho] at jA;cases jA
  exact ⟨_,tE,MD,hL,r'⟩) bE hg
theorem Inv.turned(I:Inv X pins σ H s)(k:∀b o,b≠it->s.heap.get? b=some o->h'.get? b=some o)(hn:H it=none)(hL:it≠X.env.locals)
  (h1:it∈X.ex\/X.dF.heap.objs.size<=it)(h2:∀x c,X.env.cells.lookup x=some c->c≠it)(h3:∀p∈X.pn++pins,p.1≠it):Inv X pins σ H { s with heap:=h',toks:=t' }:=by
 have WK:∀b u,H b=some u->b≠it:=λb u e z=>by rw [z,hn] at e;cases e
 refine I.step (g':=s.gens) (d':=s.drawn) (ch:=[it]) (λb hb=>?_) (λb o _ _ hc e _=>k b o (λz=>hc (by simp [z])) e) (λb o _ _ hc e _=>⟨o.slots,k b o (λz=>hc (by simp [z])) e⟩) (λ_ _ _ _ n=>n)
  (λb o hc e=>⟨o,k b o (λz=>hc (by simp [z])) e⟩) (λ_ _ e=>e) (λ_ _ _ e=>e) (λb ps e=>⟨#[],by rw [e];simp⟩) (λm hm=>?_) (λb u e=>?_) I.bare
 .have e:b=it:=by simpa using hb
  subst e
  exact ⟨h1,hL,h2,h3⟩
 .obtain ⟨o,es,ep,ho,r⟩:=hm
  exact ⟨o,es,ep,k _ o (l5 hL) ho,r⟩
 .refine (I.bE b u e).oP (λc v hc q=>k c v ?_ q) (λ_ _ _ q=>q) λ_ _ q=>q
  rcases hc with z | z
  .rw [z];exact WK b u e
  .exact WK c _ z
theorem Inv.tok(I:Inv X pins σ H s)(t:Nat):Inv X pins σ H { s with toks:=t }:=I.un (h':=s.heap) (t':=t) Un.refl I.bE
theorem Inv.kept(I:Inv X pins σ H s)(k:∀b u,s.heap.get? b=some u->h'.get? b=some u):Inv X pins σ H { s with heap:=h',toks:=t' }:=I.un (Un.kept k) (I.bE.kept k)
theorem Inv.laid{a:Addr}{o:HO}{t':Nat}(I:Inv X pins σ H s)(k:∀b u,s.heap.get? b=some u->h'.get? b=some u)(hp:s.heap.objs.size<=a)(new:cM X.prog X.w (upd H a o) h' a o):
  Inv X pins σ (upd H a o) { s with heap:=h',toks:=t' }:=I.un (Un.laid k hp (I.bE.fresh hp)) (I.bE.laid k hp new)
theorem Inv.write(I:Inv X pins σ H s)(mu:LL (H x))(he:e=x\/H e=some (.own x))(k:∀b u,b≠e->s.heap.get? b=some u->h'.get? b=some u)(FC:∃u,h'.get? e=some u)
  (new:cM X.prog X.w (upd H x o) h' x o):Inv X pins σ (upd H x o) { s with heap:=h',toks:=t' }:=I.un (Un.write mu he k FC) (I.bE.write mu he k FC new)
theorem Inv.kE(I:Inv X pins σ H s)(h:∀p∈HR,s.heap.get? p.1=some p.2/\H p.1=none/\p.1≠X.env.locals/\p.1∉X.fs/\∀v,p.2.data≠.cell v):Inv X HR σ H s:=
 ⟨I.ok,I.os,I.bare,I.base,I.loc,I.cell,I.free,I.d9,λp hp=>(qm.mp hp).elim (λz=>I.pin p (A6 _ z)) (h p),I.bE,I.len⟩
theorem UX{N:List Str}(hN:N.Nodup){i j:Nat}{x:Str}(a:N[i]?=some x)(b:N[j]?=some x):i=j:=by
 obtain ⟨h1,e1⟩:=ni.mp a
 obtain ⟨h2,e2⟩:=ni.mp b
 exact (List.getElem_inj hN).mp (e1.trans e2.symm)
theorem U1(I:Inv X pins σ H s)(hN:X.N.Nodup)(hi:X.N[i]?=some x)(hx:Loc X.env.scope x)(r:RelV v u)
  (h:∀s',Inv X pins (σ.set i (some v)) H s'->(∃a,Aa a s.heap s'.heap/\(a=X.env.locals\/X.env.cells.lookup x=some a))->Q () s')(hf:X.fn x=true\/X.env.scope.names.lookup x=some .local:=by first | exact .inl rfl | exact .inr rfl | assumption):wpAny M A (storeName X.env x u) Q E s:=by
 obtain ⟨m,hn,hl⟩:=id I.loc
 have D5:(X.env.scope.kind==.class||(X.env.scope.kind==.module&&X.env.locals != X.env.globals))=false:=by rw [I.ok.kind];rfl
 have IZ:i<σ.length:=by rw [I.len];exact (ni.mp hi).1
 have B1:=I.B1
 have tracked:∀{a:Addr} {h':Heap},(∃o,s.heap.get? a=some o/\H a=none)->Aa a s.heap h'->jc X.prog X.w H h':=λ{a h'} ha hs b ob e=>by
  obtain ⟨_,_,iM⟩:=ha
  refine (I.bE b ob e).oP (λc w' hc q=>(hs.2 c ?_).trans q) (λ_ _ _ q=>q) λ_ _ q=>q
  rintro rfl
  rcases hc with rfl | hc
  .rw [iM] at e;cases e
  .rw [iM] at hc;cases hc
 rcases hx with hk | hk
 .refine wpAny_storeName_local hk hn (λh' hn' hs=>?_) D5
  obtain ⟨oL,_,_,hoL,_⟩:=id hn
  refine h _ ⟨I.ok,I.os,I.bare,⟨λb o e n hb hx=>?_,λb o e n hb hx=>?_,I.base.free,λb o e hx=>?_,I.base.iQ,I.base.iF,I.base.iR⟩,⟨_,hn',λj y v' e1 e2 e3=>?_⟩,λy c e=>?_,I.free,I.d9,λp hp=>?_,tracked ⟨oL,hoL,I.free⟩ hs,by simpa using I.len⟩ ⟨_,hs,.inl rfl⟩
  .exact (hs.2 b (gi (pq (eD e) I.ok.above))).trans (I.base.keep b o e n hb hx)
  .obtain ⟨sl,e1⟩:=I.base.slot b o e n hb hx
   exact ⟨sl,(hs.2 b (gi (pq (eD e) I.ok.above))).trans e1⟩
  .obtain ⟨o',e1⟩:=I.base.there b o e hx
   exact ⟨o',(hs.2 b (gi (pq (eD e) I.ok.above))).trans e1⟩
  .by_cases hj:j=i
   .subst hj
    rw [hi] at e1;cases e1
    rw [kL IZ] at e2
    cases e2
    exact ⟨u,r,.inl ⟨hk,by simp⟩⟩
   .rw [ie (l5 hj)] at e2
    obtain ⟨u',r',q⟩:=hl j y v' e1 e2 e3
    refine ⟨u',r',?_⟩
    rcases q with ⟨k,e⟩ | ⟨k,c,e,z⟩
    .refine .inl ⟨k,?_⟩
     have:y≠x:=λe=>hj (UX hN e1 (e▸hi))
     simp [this,e]
    .exact .inr ⟨k,c,e,z.sameBut hs (B1 y c e)⟩
  .obtain ⟨w',z⟩:=I.cell y c e
   exact ⟨w',z.sameBut hs (B1 y c e)⟩
  .obtain ⟨e,n,ne,nf,d⟩:=I.pin p hp
   exact ⟨(hs.2 p.1 ne).trans e,n,ne,nf,d⟩
 .have Rc:X.fn x=true:=by
   rcases hf with z | z
   .exact z
   .rw [z] at hk;cases hk
  obtain ⟨c,hc⟩:=I.ok.has x (.inl hk)
  obtain ⟨w',z⟩:=I.cell x c hc
  refine wpAny_storeName_cell I.ok.kind hk hc z (λh' AN hs=>?_)
  obtain ⟨oc,Ml,Q0⟩:=id z
  refine h { s with heap:=h' } ⟨I.ok,I.os,I.bare,⟨λb o e n hb hx=>?_,λb o e n hb hx=>?_,I.base.free,λb o e hx=>?_,I.base.iQ,I.base.iF,I.base.iR⟩,⟨m,hn.sameBut hs (l5 (B1 x c hc)),λj y v' e1 e2 e3=>?_⟩,λy c' e=>?_,I.free,I.d9,λp hp=>?_,tracked ⟨oc,Ml,I.d9 x c hc⟩ hs,by simpa using I.len⟩ ⟨c,hs,.inr hc⟩
  .exact (hs.2 b (gi (pq (eD e) (I.ok.Ei x c Rc hc)))).trans (I.base.keep b o e n hb hx)
  .obtain ⟨sl,e1⟩:=I.base.slot b o e n hb hx
   exact ⟨sl,(hs.2 b (gi (pq (eD e) (I.ok.Ei x c Rc hc)))).trans e1⟩
  .obtain ⟨o',e1⟩:=I.base.there b o e hx
   exact ⟨o',(hs.2 b (gi (pq (eD e) (I.ok.Ei x c Rc hc)))).trans e1⟩
  .by_cases hj:j=i
   .subst hj
    rw [hi] at e1;cases e1
    rw [kL IZ] at e2
    cases e2
    exact ⟨u,r,.inr ⟨.inl hk,c,hc,AN⟩⟩
   .rw [ie (l5 hj)] at e2
    obtain ⟨u',r',q⟩:=hl j y v' e1 e2 e3
    refine ⟨u',r',?_⟩
    rcases q with q | ⟨k,c',e,z'⟩
    .exact .inl q
    .refine .inr ⟨k,c',e,z'.sameBut hs ?_⟩
     rintro rfl
     exact hj (UX hN e1 (I.ok.inj _ _ _ e hc▸hi))
  .by_cases W':c'=c
   .subst W';exact ⟨_,AN⟩
   .obtain ⟨w2,z2⟩:=I.cell y c' e
    exact ⟨w2,z2.sameBut hs W'⟩
  .obtain ⟨e,n,ne,nf,d⟩:=I.pin p hp
   refine ⟨(hs.2 p.1 ?_).trans e,n,ne,nf,d⟩
   intro q
   rw [q,Ml] at e
   have q':oc=p.2:=gY e
   exact d w' (by rw [<-q'];exact Q0)
theorem UO(I:Inv X pins σ H s)(hN:X.N.Nodup)(hi:X.N[i]?=some x)(hx:Loc X.env.scope x)(r:RelV v u)
  (h:∀s',Inv X pins (σ.set i (some v)) H s'->Q () s')(hf:X.fn x=true\/X.env.scope.names.lookup x=some .local:=by first | exact .inl rfl | exact .inr rfl | assumption):wpAny M A (storeName X.env x u) Q E s:=
 U1 I hN hi hx r (λs' I' _=>h s' I') hf
theorem Inv.zY(I:Inv X pins σ H s)(ho:s'.os=s.os)(u:Un (j8 X.stack) ch H H' s.heap s'.heap)(bE:jc X.prog X.w H' s'.heap)(hg:AllBare s'.gens)
  (AM:∀b∈ch,(b∈X.ex\/X.dF.heap.objs.size<=b)/\b≠X.env.locals/\(∀x c,X.env.cells.lookup x=some c->c≠b)/\∀p∈X.pn++pins,p.1≠b):Inv X pins σ H' s':=by
 obtain ⟨h',g',d',t',o'⟩:=s'
 have e:o'=s.os:=ho
 subst e
 exact I.call (g':=g') (t':=t') (d':=d') u bE hg AM
end
abbrev XK:=Value->Option Addr->Hp->Prop
abbrev St:=List (Option V)
abbrev VK:=V->Hp->Prop
abbrev TE:=St->Hp->VK->Prop
abbrev TT:=St->Hp->(Bool->Hp->Prop)->Prop
abbrev TA:=St->Hp->(List V->Hp->Prop)->Prop
structure Ends where
 nx:St->Hp->Prop
 rt:VK
 bk:St->Hp->Prop:=λ_ _=>False
 ct:St->Hp->Prop:=λ_ _=>False
abbrev TS:=Ends->St->Hp->Prop
def EP(X:Cx)(pins:List (Addr×Obj))(σ:St)(Q:VK)(u:Value)(s':Shared):Prop:=∃v H',Inv X pins σ H' s'/\RelV v u/\Q v H'
def TP(X:Cx)(pins:List (Addr×Obj))(σ:St)(Q:Bool->Hp->Prop)(b:Bool)(s':Shared):Prop:=∃H',Inv X pins σ H' s'/\Q b H'
def AP(X:Cx)(pins:List (Addr×Obj))(σ:St)(Q:List V->Hp->Prop)(us:List Value)(s':Shared):Prop:=∃vs H',Inv X pins σ H' s'/\aF vs us/\Q vs H'
def SP(X:Cx)(pins:List (Addr×Obj))(D:Ends)(f:Flow)(s':Shared):Prop:=
 match f with
 | .next=>∃aK H',Inv X pins aK H' s'/\D.nx aK H'
 | .brk=>∃aK H',Inv X pins aK H' s'/\D.bk aK H'
 | .cont=>∃aK H',Inv X pins aK H' s'/\D.ct aK H'
 | .ret u=>∃v aK H',Inv X pins aK H' s'/\RelV v u/\D.rt v H'
def PE(X:Cx)(e:Expr)(t:TE):Prop:=
 ∀(pins:List (Addr×Obj)) (s:Shared) (σ:St) (H:Hp) (Q:VK),Inv X pins σ H s->t σ H Q->wpAny (model X.prog X.w) X.A (eval e X.env) (EP X pins σ Q) X.xe s
def PT(X:Cx)(e:Expr)(t:TT):Prop:=
 ∀(pins:List (Addr×Obj)) (s:Shared) (σ:St) (H:Hp) (Q:Bool->Hp->Prop),Inv X pins σ H s->t σ H Q->wpAny (model X.prog X.w) X.A (isTrue e X.env (eval e X.env)) (TP X pins σ Q) X.xe s
def PW(X:Cx)(e:Expr)(t:TT):Prop:=
 ∀(whole:Sem Value) (pins:List (Addr×Obj)) (s:Shared) (σ:St) (H:Hp) (Q:Bool->Hp->Prop),Inv X pins σ H s->t σ H Q->wpAny (model X.prog X.w) X.A (isTrue e X.env whole) (TP X pins σ Q) X.xe s
theorem PW.pt(h:PW X e t):PT X e t:=h _
def PA(X:Cx)(es:List Expr)(t:TA):Prop:=
 ∀(pos:Pos) (pins:List (Addr×Obj)) (s:Shared) (σ:St) (H:Hp) (Q:List V->Hp->Prop),Inv X pins σ H s->t σ H Q->wpAny (model X.prog X.w) X.A (spliced (backTo pos (starEach es X.env))) (AP X pins σ Q) X.xe s
def PS(X:Cx)(st:Stmt)(t:TS):Prop:=
 ∀(pins:List (Addr×Obj)) (s:Shared) (σ:St) (H:Hp) (D:Ends),Inv X pins σ H s->t D σ H->wpAny (model X.prog X.w) X.A (exec st X.env) (SP X pins D) X.xe s
def pO(X:Cx)(st:List Stmt)(t:TS):Prop:=
 ∀(pins:List (Addr×Obj)) (s:Shared) (σ:St) (H:Hp) (D:Ends),Inv X pins σ H s->t D σ H->wpAny (model X.prog X.w) X.A (execs st X.env) (SP X pins D) X.xe s
theorem cn{α:Type}{t:Sem α}{Q Q':α->Shared->Prop}{M:Model}{A:Around}{E:Value->Shared->Prop}{s:Shared}(h:wpAny M A t Q E s)(hQ:∀a s,Q a s->Q' a s):wpAny M A t Q' E s:=lL h hQ λ_ _ x=>x
end L2
namespace L2
open PySem PySem.Spec PyProof.Rows
section
variable {X:Cx}
theorem bin{a b:Expr}{ta tb:TE}(ha:PE X a ta)(hb:PE X b tb){pins:List (Addr×Obj)}{s:Shared}{σ:St}{H:Hp}{R:V->V->Hp->Prop}(I:Inv X pins σ H s)(h:ta σ H λx H1=>tb σ H1 λy H2=>R x y H2)
  {α:Type}{Q:α->Shared->Prop}{f:Value->Value->Sem α}
  (hf:∀v u s2 x y H2,Inv X pins σ H2 s2->RelV x v->RelV y u->R x y H2->wpAny (model X.prog X.w) X.A (f v u) Q X.xe s2):
  wpAny (model X.prog X.w) X.A (eval a X.env) (λv aT=>wpAny (model X.prog X.w) X.A (eval b X.env) (λu fF=>wpAny (model X.prog X.w) X.A (f v u) Q X.xe fF) X.xe aT) X.xe s:=by
 refine cn (ha pins s σ H _ I h) λv s1 ⟨x,H1,I1,r1,q1⟩=>?_
 refine cn (hb pins s1 σ H1 _ I1 q1) λu s2 ⟨y,H2,I2,r2,q2⟩=>?_
 exact hf v u s2 x y H2 I2 r1 r2 q2
def Hi(i:Nat):TE:=λσ H Q=>∃v,σ[i]?=some (some v)/\Q v H
def tC(v:V):TE:=λ_ H Q=>Q v H
theorem pN{i:Nat}{x:Str}{pos:Pos}(hN:X.N[i]?=some x)(hv:ib X.env.scope x)(hd:(x==("__debug__":Str))=false:=by decide)(cE:(x==("__classdict__":Str))=false:=by decide):PE X (.Name x pos) (Hi i):=by
 intro pins s σ H Q I h
 obtain ⟨v,e,h⟩:=h
 obtain ⟨m,hn,hl⟩:=I.loc
 obtain ⟨u,r,l⟩:=hl i x v hN e hv
 have fin:EP X pins σ Q u s:=⟨v,H,I,r,h⟩
 rcases l with ⟨hk,hm⟩ | ⟨hk,c,hc,mV⟩
 .exact wpAny_Name (wpAny_loadName_local I.ok.kind hk hn hm fin) hd
 .rcases hk with hk | hk
  .exact wpAny_Name (wpAny_loadName_cell I.ok.kind hk hc mV fin) hd
  .exact wpAny_Name (wpAny_loadName_free I.ok.kind hk hc mV fin cE) hd
theorem b9Y{i j pos}:PE X (.Constant (.int i) j pos) (tC (.int i)):=λ_ _ _ H _ I h=>wpAny_Constant_int ⟨.int i,H,I.tok _,⟨_,rfl⟩,h⟩
theorem HZ{b j pos}:PE X (.Constant (.bool b) j pos) (tC (.bl b)):=λ_ _ _ H _ I h=>Constant_bool ⟨.bl b,H,I,rfl,h⟩
theorem b9T{x j pos}:PE X (.Constant (.str x) j pos) (tC (.str x)):=λ_ _ _ H _ I h=>Calls.Constant_str ⟨.str x,H,I.tok _,⟨_,rfl⟩,h⟩
def Gl(X:Cx)(x:Str):Prop:=X.env.kindOf x=some .globalImplicit
theorem Df{E:Value->Shared->Prop}{pins:List (Addr×Obj)}{s:Shared}{σ:St}{H:Hp}{x:Str}{u:Value}{pos:Pos}{Q:Value->Shared->Prop}(I:Inv X pins σ H s)(hg:Gl X x)(hm:X.mg x=some u)(h:Q u s)
  (hd:(x==("__debug__":Str))=false:=by decide):wpAny (model X.prog X.w) X.A (eval (.Name x pos) X.env) Q E s:=
 X5 I.ok.kind hg (Calls.loadGlobal_global (by rw [I.ok.glob];exact I.mod.glob.keeps I.bk) hm h) hd
theorem Gr{E:Value->Shared->Prop}{pins:List (Addr×Obj)}{s:Shared}{σ:St}{H:Hp}{x:Str}{u:Value}{pos:Pos}{Q:Value->Shared->Prop}(I:Inv X pins σ H s)(hg:Gl X x)(hm:X.mg x=none)(hv:bootBuiltins x=some u)(h:Q u s)
  (hn:x ≠ "__name__":=by decide)(hd:(x==("__debug__":Str))=false:=by decide):wpAny (model X.prog X.w) X.A (eval (.Name x pos) X.env) Q E s:=by
 obtain ⟨mb,h1,h2⟩:=I.mod.blt
 exact X5 I.ok.kind hg (Calls.loadGlobal_builtin (by rw [I.ok.glob];exact I.mod.glob.keeps I.bk) hm (by rw [I.ok.blt];exact h1.keeps I.bk) ((h2 x hn).trans hv) h) hd
theorem Uq(hg:Gl X x)(hm:X.mg x=some u)(r:RelV v u)(hd:(x==("__debug__":Str))=false:=by decide):PE X (.Name x pos) (tC v):=
 λ_ _ _ H _ I h=>Df I hg hm ⟨v,H,I,r,h⟩ hd
theorem b7m{x:Str}{v:V}{u:Value}{pos:Pos}(hg:Gl X x)(hm:X.mg x=none)(hv:bootBuiltins x=some u)(r:RelV v u)(hn:x ≠ "__name__":=by decide)(hd:(x==("__debug__":Str))=false:=by decide):PE X (.Name x pos) (tC v):=
 λ_ _ _ H _ I h=>Gr I hg hm hv ⟨v,H,I,r,h⟩ hn hd
variable {a b:Expr}{ta tb:TE}{pos:Pos}
def PC(X:Cx)(op:CmpOp)(a b:Expr)(t:TE):Prop:=
 ∀(pins:List (Addr×Obj)) (s:Shared) (σ:St) (H:Hp) (Q:VK),Inv X pins σ H s->t σ H Q ->
  wpAny (model X.prog X.w) X.A (eval a X.env) (λv aT=>wpAny (model X.prog X.w) X.A (eval b X.env) (λu fF=>wpAny (model X.prog X.w) X.A (compareOp op v u) (EP X pins σ Q) X.xe fF) X.xe aT) X.xe s
theorem b4J(b:Expr)(h:op≠.In)(h2:op≠.NotIn):behindInMarks op b=false:=by
 have e1:(op==CmpOp.In)=false:=by cases op<;>first | rfl | exact absurd rfl h
 have e2:(op==CmpOp.NotIn)=false:=by cases op<;>first | rfl | exact absurd rfl h2
 cases b<;>simp [behindInMarks,e1,e2]
def tB(t:TE):TT:=λσ H Q=>t σ H λx H1=>∃c,x=.bl c/\Q c H1
theorem Zg(h:PC X op a b t)(h1:behindInMarks op b=false:=by first | exact b4J _ (by decide) (by decide) | rfl):PT X (.Compare a [op] [b] pos) (tB t):=by
 intro pins s σ H Q I hw
 refine wpAny_isTrue_Compare1 (cn (h pins s σ H _ I hw) λv s1 h1=>cn h1 λu s2 h2=>cn h2 λc s3 ⟨x,H1,I1,r1,q1⟩=>?_) h1
 obtain ⟨d,rfl,q⟩:=q1
 cases r1
 exact C3 ⟨H1,I1,q⟩
variable {tA L5:TT}{rest:List Expr}
def P'(t u:TT):TT:=λσ H Q=>t σ H λc H1=>if c=true then u σ H1 Q else Q false H1
def tOr(t u:TT):TT:=λσ H Q=>t σ H λc H1=>if c=true then Q true H1 else u σ H1 Q
def P4(t:TT):TT:=λσ H Q=>t σ H λc H1=>Q (!c) H1
theorem b7b(ha:PT X a tA):PW X (.BoolOp .And [a] pos) tA:=by
 intro wh pins s σ H Q I h
 refine isTrue_and (cn (ha pins s σ H Q I h) λc s1 e=>?_)
 cases c with
 | true=>exact isTrue_and_nil e
 | false=>exact e
theorem b9I(ha:PT X a tA):PW X (.BoolOp .Or [a] pos) tA:=by
 intro wh pins s σ H Q I h
 refine isTrue_or (cn (ha pins s σ H Q I h) λc s1 e=>?_)
 cases c with
 | false=>exact isTrue_or_nil e
 | true=>exact e
theorem b9J(ha:PT X a tA)(hb:PW X (.BoolOp .And (b::rest) pos) L5):PW X (.BoolOp .And (a::b::rest) pos) (P' tA L5):=by
 intro wh pins s σ H Q I h
 refine isTrue_and (cn (ha pins s σ H _ I h) λc s1 ⟨H1,I1,q1⟩=>?_)
 cases c with
 | true=>exact hb wh pins s1 σ H1 Q I1 q1
 | false=>exact ⟨H1,I1,q1⟩
theorem pw_or(ha:PT X a tA)(hb:PW X (.BoolOp .Or (b::rest) pos) L5):PW X (.BoolOp .Or (a::b::rest) pos) (tOr tA L5):=by
 intro wh pins s σ H Q I h
 refine isTrue_or (cn (ha pins s σ H _ I h) λc s1 ⟨H1,I1,q1⟩=>?_)
 cases c with
 | true=>exact ⟨H1,I1,q1⟩
 | false=>exact hb wh pins s1 σ H1 Q I1 q1
theorem b9L(ha:PT X a tA):PT X (.UnaryOp .Not a pos) (P4 tA):=by
 intro pins s σ H Q I h
 exact isTrue_not (ha pins s σ H (λc H1=>Q (!c) H1) I h)
def Ht(ta tb:TE):TE:=λσ H Q=>ta σ H λx H1=>∃c,x=.bl c/\if c=true then tb σ H1 Q else Q (.bl false) H1
def P0(ta tb:TE):TE:=λσ H Q=>ta σ H λx H1=>∃c,x=.bl c/\if c=true then Q (.bl true) H1 else tb σ H1 Q
theorem b9V{op}(h:PE X a t):PE X (.BoolOp op [a] pos) t:=λpins s σ H Q I hw=>BoolOp_one (h pins s σ H Q I hw)
theorem b90(ha:PE X a ta)(hb:PE X (.BoolOp .And (b::rest) pos) tb):PE X (.BoolOp .And (a::b::rest) pos) (Ht ta tb):=by
 intro pins s σ H Q I h
 refine BoolOp_and (cn (ha pins s σ H _ I h) λv s1 ⟨x,H1,I1,r1,q1⟩=>?_)
 obtain ⟨c,rfl,q1⟩:=q1
 cases r1
 refine C3 ?_
 cases c with
 | true=>exact hb pins s1 σ H1 Q I1 q1
 | false=>exact ⟨.bl false,H1,I1,rfl,q1⟩
theorem YH(ha:PE X a ta)(hb:PE X (.BoolOp .Or (b::rest) pos) tb):PE X (.BoolOp .Or (a::b::rest) pos) (P0 ta tb):=by
 intro pins s σ H Q I h
 refine BoolOp_or (cn (ha pins s σ H _ I h) λv s1 ⟨x,H1,I1,r1,q1⟩=>?_)
 obtain ⟨c,rfl,q1⟩:=q1
 cases r1
 refine C3 ?_
 cases c with
 | false=>exact hb pins s1 σ H1 Q I1 q1
 | true=>exact ⟨.bl true,H1,I1,rfl,q1⟩
end
end L2
namespace L2
open PySem PySem.Spec PyProof.Rows
def iI(K:aJ)(H:Hp)(a:Addr)(xs:List V):Prop:=
 Rd H a (.lst xs) \/
  ∃(o:Obj) (aB:Array Value) (n:Nat),K.lookup a=some o/\o.cls=.type "list" /\ o.dict=none/\o.data=.seq aB n/\aB.size<=sizeLine/\aF xs aB.toList
def jP(K:aJ)(H:Hp)(a:Addr)(xs:List V):Prop:=
 Rd H a (.tup xs) \/
  ∃(o:Obj) (aB:Array Value) (n:Nat),K.lookup a=some o/\o.cls=.type "tuple" /\ o.data=.seq aB n/\aB.size<=sizeLine/\aF xs aB.toList
def Um:Value->Option V
 | .none=>some .cD
 | .bool b=>some (.bl b)
 | .int i _=>some (.int i)
 | .str x _=>some (.str x)
 | .bytes b _=>some (.Gf b)
 | .float b _=>some (.FG b)
 | .ref a=>some (.ref a)
 | .type n=>some (.ty n)
 | _=>none
theorem RelV.abs(r:RelV x u):Um u=some x:=by
 cases x with
 | cD=>cases r;rfl
 | bl _=>cases r;rfl
 | int _=>obtain ⟨t,rfl⟩:=r;rfl
 | str _=>obtain ⟨t,rfl⟩:=r;rfl
 | Gf _=>obtain ⟨t,rfl⟩:=r;rfl
 | FG _=>obtain ⟨t,rfl⟩:=r;rfl
 | ref _=>cases r;rfl
 | ty _=>cases r;rfl
theorem RelV.inj(r:RelV x u)(q:RelV y u):x=y:=gY (r.abs.symm.trans q.abs)
theorem aF.inj:∀{xs ys:List V} {us:List Value},aF xs us->aF ys us->xs=ys
 | _,_,_,.nil,.nil=>rfl
 | _,_,_,.cons r t,.cons r' t'=>by rw [r.inj r',aF.inj t t']
section
variable {X:Cx}{pins:List (Addr×Obj)}{σ:St}{H:Hp}{s:Shared}{a:Addr}{xs ys:List V}
theorem iI.of{K:aJ}(h:H a=some (.lst xs)):iI K H a xs:=.inl (.inl h)
theorem jP.of{K:aJ}(h:H a=some (.tup xs)):jP K H a xs:=.inl (.inl h)
theorem Inv.list(I:Inv X pins σ H s)(h:iI X.K H a xs):∃aB:List Value,aF xs aB/\PlainL s.heap a aB.toArray/\xs.length<=sizeLine:=by
 rcases h with h | ⟨o,aB,n,hk,hc,hd,hs,hz,r⟩
 .obtain ⟨z,aB,n,r,e⟩:=h.ok I.bE
  exact ⟨aB,r,⟨_,n,e,rfl,rfl,rfl⟩,z⟩
 .refine ⟨aB.toList,r,⟨o,n,I.mf a o hk,hc,hd,by simpa using hs⟩,?_⟩
  have e:=r.length
  simp only [tW] at e
  omega
theorem Inv.tuple(I:Inv X pins σ H s)(h:jP X.K H a xs):∃aB:List Value,aF xs aB/\IsTup s.heap a aB.toArray/\xs.length<=sizeLine:=by
 rcases h with h | ⟨o,aB,n,hk,hc,hs,hz,r⟩
 .obtain ⟨z,aB,r,p⟩:=h.ok I.bE
  exact ⟨aB,r,p,z⟩
 .refine ⟨aB.toList,r,⟨o,I.mf a o hk,hc,n,by simpa using hs⟩,?_⟩
  have e:=r.length
  simp only [tW] at e
  omega
theorem Inv.qb(I:Inv X pins σ H s)(h:iI X.K H a xs)(h':iI X.K H a ys):xs=ys:=by
 obtain ⟨aB,r,⟨o,n,e,_,_,d⟩,_⟩:=I.list h
 obtain ⟨its',r',⟨o',n',e',_,_,d'⟩,_⟩:=I.list h'
 rw [e] at e';cases e'
 rw [d] at d'
 injection d' with d1 _
 have:aB=its':=by simpa using congrArg Array.toList d1
 subst this
 exact r.inj r'
theorem Inv.n9(I:Inv X pins σ H s)(h:jP X.K H a xs)(h':jP X.K H a ys):xs=ys:=by
 obtain ⟨aB,r,⟨o,e,_,n,d⟩,_⟩:=I.tuple h
 obtain ⟨its',r',⟨o',e',_,n',d'⟩,_⟩:=I.tuple h'
 rw [e] at e';cases e'
 rw [d] at d'
 injection d' with d1 _
 have:aB=its':=by simpa using congrArg Array.toList d1
 subst this
 exact r.inj r'
end
abbrev Cx.jU(X:Cx)(E:Value->Shared->Prop):Cx:={ X with xe:=E }
abbrev Cx.jd(X:Cx):Cx:=X.jU λ_ _=>False
theorem Cx.Ok.jU{X:Cx}(ok:X.Ok)(E:Value->Shared->Prop):(X.jU E).Ok:=
 ⟨ok.mod,ok.kind,ok.glob,ok.blt,ok.above,ok.inj,ok.has,ok.Ei,ok.hd,ok.frames,ok.Fm,ok.MB,ok.bs,ok.vG,ok.rh,ok.uZ,ok.jX,ok.AO⟩
theorem Cx.Ok.eI{X:Cx}(ok:(X.jU E).Ok):X.Ok:=
 ⟨ok.mod,ok.kind,ok.glob,ok.blt,ok.above,ok.inj,ok.has,ok.Ei,ok.hd,ok.frames,ok.Fm,ok.MB,ok.bs,ok.vG,ok.rh,ok.uZ,ok.jX,ok.AO⟩
section
variable {X:Cx}{pins:List (Addr×Obj)}{σ:St}{H:Hp}{s:Shared}{E:Value->Shared->Prop}
theorem Inv.jU(I:Inv X pins σ H s)(E:Value->Shared->Prop):Inv (X.jU E) pins σ H s:=⟨I.ok.jU E,I.os,I.bare,I.base,I.loc,I.cell,I.free,I.d9,I.pin,I.bE,I.len⟩
theorem Inv.eI(I:Inv (X.jU E) pins σ H s):Inv X pins σ H s:=⟨I.ok.eI,I.os,I.bare,I.base,I.loc,I.cell,I.free,I.d9,I.pin,I.bE,I.len⟩
theorem SP.eI(h:SP (X.jU E) pins D f s'):SP X pins D f s':=by
 cases f with
 | next=>obtain ⟨aK,H',I,q⟩:=h;exact ⟨aK,H',I.eI,q⟩
 | brk=>obtain ⟨aK,H',I,q⟩:=h;exact ⟨aK,H',I.eI,q⟩
 | cont=>obtain ⟨aK,H',I,q⟩:=h;exact ⟨aK,H',I.eI,q⟩
 | ret u=>obtain ⟨v,aK,H',I,r,q⟩:=h;exact ⟨v,aK,H',I.eI,r,q⟩
theorem PE.jd(h:PE X.jd e t):PE X e t:=λpins s σ H Q I hw =>
 lL (h pins s σ H Q (I.jU _) hw) (λ_ _ ⟨v,H',I',r,q⟩=>⟨v,H',I'.eI,r,q⟩) λ_ _ z=>gC z
theorem PT.jd(h:PT X.jd e t):PT X e t:=λpins s σ H Q I hw =>
 lL (h pins s σ H Q (I.jU _) hw) (λ_ _ ⟨H',I',q⟩=>⟨H',I'.eI,q⟩) λ_ _ z=>gC z
theorem pO.jd{st:List Stmt}{t:TS}(h:pO X.jd st t):pO X st t:=λpins s σ H D I hw =>
 lL (h pins s σ H D (I.jU _) hw) (λ_ _ q=>q.eI) λ_ _ z=>gC z
end
section
variable {X:Cx}{st:Stmt}{rest:List Stmt}{t u:TS}{e:Expr}{te:TE}{pos:Pos}
def Hm:TS:=λD σ H=>D.nx σ H
def PY(t u:TS):TS:=λD σ H=>t { D with nx:=u D } σ H
theorem Ut:pO X [] Hm:=λ_ _ σ H _ I h=>JX ⟨σ,H,I,h⟩
theorem Cm(h1:PS X st t)(h2:pO X rest u):pO X (st::rest) (PY t u):=by
 intro pins s σ H D I h
 refine wpAny_execs_cons (cn (h1 pins s σ H { D with nx:=u D } I h) λf s1 q=>?_)
 cases f with
 | next =>
  obtain ⟨aK,H',I',q⟩:=q
  exact h2 pins s1 aK H' D I' q
 | ret v=>exact q
 | brk=>exact q
 | cont=>exact q
theorem Z8(h1:PS X st t):pO X [st] t:=by
 intro pins s σ H D I h
 refine wpAny_execs_cons (cn (h1 pins s σ H D I h) λf s1 q=>?_)
 cases f with
 | next=>exact JX q
 | ret v=>exact q
 | brk=>exact q
 | cont=>exact q
theorem Inv.quiet{pins:List (Addr×Obj)}{σ:St}{H:Hp}{s:Shared}(I:Inv X pins σ H s):interactive X.env=false:=by simp [interactive,I.ok.kind]
def Ho(te:TE):TS:=λD σ H=>te σ H λ_ H1=>D.nx σ H1
theorem Bi(he:PE X e te)(hs:swapsWith e none pos.line X.env=pure false:=by rfl):PS X (.Expr e pos) (Ho te):=by
 intro pins s σ H D I h
 exact wpAny_Expr_any (cn (he pins s σ H _ I h) λv s1 ⟨x,H1,I1,r1,q1⟩=>⟨σ,H1,I1,q1⟩) I.quiet hs
def PZ(te:TE):TS:=λD σ H=>te σ H D.rt
theorem Zf(he:PE X e te):PS X (.Return (some e) pos) (PZ te):=by
 intro pins s σ H D I h
 exact wpAny_Return_some (cn (he pins s σ H _ I h) λv s1 ⟨x,H1,I1,r1,q1⟩=>⟨x,σ,H1,I1,r1,q1⟩)
def P6(c:TT)(t u:TS):TS:=λD σ H=>c σ H λb H1=>if b=true then t D σ H1 else u D σ H1
theorem YJ(hc:PT X c tc)(ha:pO X a t)(hb:pO X b u):PS X (.If c a b pos) (P6 tc t u):=by
 intro pins s σ H D I h
 refine wpAny_If (cn (hc pins s σ H _ I h) λd s1 ⟨H1,I1,q1⟩=>?_)
 cases d with
 | true=>exact ha pins s1 σ H1 D I1 q1
 | false=>exact hb pins s1 σ H1 D I1 q1
end
abbrev TG:=V->St->Hp->(St->Hp->Prop)->Prop
abbrev Dm:=List V->St->Hp->(St->Hp->Prop)->Prop
def PG(X:Cx)(target:Expr)(t:TG):Prop:=
 ∀(pins:List (Addr×Obj)) (s:Shared) (σ:St) (H:Hp) (v:V) (u:Value) (Q:St->Hp->Prop),Inv X pins σ H s->RelV v u->t v σ H Q ->
  wpAny (model X.prog X.w) X.A (assign target X.env u) (λ_ s'=>∃aK H',Inv X pins aK H' s'/\Q aK H') X.xe s
def LJ(X:Cx)(ts:List Expr)(t:Dm):Prop:=
 ∀(pins:List (Addr×Obj)) (s:Shared) (σ:St) (H:Hp) (vs:List V) (us:List Value) (Q:St->Hp->Prop),Inv X pins σ H s->aF vs us->t vs σ H Q ->
  wpAny (model X.prog X.w) X.A (assignInOrder ((assignEach ts X.env).map (·.2)) us) (λ_ s'=>∃aK H',Inv X pins aK H' s'/\Q aK H') X.xe s
abbrev E7:=V->V->V->Hp->(Hp->Prop)->Prop
def LI(X:Cx)(t:E7):Prop:=
 ∀(pins:List (Addr×Obj)) (s:Shared) (σ:St) (H:Hp) (o i v:V) (ov iv u:Value) (Q:Hp->Prop),Inv X pins σ H s->RelV o ov->RelV i iv->RelV v u->t o i v H Q ->
  wpAny (model X.prog X.w) X.A (setItem ov iv u) (λ_ s'=>∃H',Inv X pins σ H' s'/\Q H') X.xe s
section
variable {X:Cx}{pos:Pos}
def Yy(i:Nat):TG:=λv σ H Q=>Q (σ.set i (some v)) H
theorem b7j(hN:X.N.Nodup)(hi:X.N[i]?=some x)(hx:Loc X.env.scope x)(hf:X.fn x=true\/X.env.scope.names.lookup x=some .local:=by first | exact .inl rfl | exact .inr rfl | assumption):PG X (.Name x pos) (Yy i):=by
 intro pins s σ H v u Q I r h
 exact Sy (UO I hN hi hx r (λs' I'=>⟨_,H,I',h⟩) hf)
def Rx:Dm:=λvs σ H Q=>vs=[]/\Q σ H
def Js(t:TG)(u:Dm):Dm:=λvs σ H Q=>∃v r,vs=v::r/\t v σ H λaK H'=>u r aK H' Q
theorem b7i:LJ X [] Rx:=by
 intro pins s σ H vs us Q I r h
 obtain ⟨e,h⟩:=h
 subst e
 cases r
 exact assignInOrder_nil ⟨σ,H,I,h⟩
theorem b4B{e:Expr}{es:List Expr}{t:TG}{u:Dm}(h1:PG X e t)(h2:LJ X es u)
  (hs:(assignEach (e::es) X.env).map (·.2)=assign e X.env::(assignEach es X.env).map (·.2):=by rfl):LJ X (e::es) (Js t u):=by
 intro pins s σ H vs us Q I r h
 obtain ⟨v,vr,e1,h⟩:=h
 subst e1
 cases r with
 | cons r rr =>
  rw [hs]
  refine assignInOrder_cons (cn (h1 pins s σ H _ _ _ I r h) λ_ s1 ⟨lq,H1,I1,q1⟩=>?_)
  exact h2 pins s1 lq H1 _ _ Q I1 rr q1
def Rw(K:aJ)(n:Nat)(t:Dm):TG:=λv σ H Q=>∃a xs,v=.ref a/\jP K H a xs/\xs.length=n/\t xs σ H Q
theorem b9R{es:List Expr}{k:Nat}{t:Dm}{n:Nat}(hc:X.calm=true)(h:LJ X es t)
  (hn:(assignEach es X.env).length=n:=by rfl)(lW:(assignEach es X.env).findIdx? (·.1)=none:=by rfl):PG X (.Tuple es k pos) (Rw X.K n t):=by
 intro pins s σ H v u Q I r hw
 obtain ⟨a,xs,e1,hq,hl,hw⟩:=hw
 subst e1
 cases r
 obtain ⟨aB,rv,ht,hz⟩:=I.tuple hq
 refine assign_Tuple_tuple (I.ok.hd hc) ht (by simp [hn,<-hl,rv.length]) lW λh' hx=>?_
 have I1:Inv X pins σ H { s with heap:=h' }:=I.kept (t':=s.toks) λb o e=>hx b o (gi (eD e)) e
 exact h pins _ σ H xs _ Q I1 (by simpa using rv) hw
def rH(to ti:TE)(t:E7):TG:=λv σ H Q=>to σ H λo H1=>ti σ H1 λi H2=>t o i v H2 λH3=>Q σ H3
theorem b9S{o i:Expr}{to ti:TE}{t:E7}(ho:PE X o to)(hi:PE X i ti)(hs:LI X t)
  (ha:∀v,assign (.Subscript o i pos) X.env v=(do
   let ov <-holding [v] (eval o X.env)
   let iv <-holding [v,ov] (eval i X.env)
   standAt pos
   holding [v,ov,iv] (setItem ov iv v)
   release [v,ov,iv] []):=by intro _;rfl):PG X (.Subscript o i pos) (rH to ti t):=by
 intro pins s σ H v u Q I r h
 rw [ha]
 refine aI (rV (cn (ho pins s σ H _ I h) λov s1 ⟨x,H1,I1,r1,q1⟩=>?_))
 refine aI (rV (cn (hi pins s1 σ H1 _ I1 q1) λiv s2 ⟨y,H2,I2,r2,q2⟩=>?_))
 refine aI (MR (aI (rV (cn (hs pins s2 σ H2 x y v ov iv u _ I2 r1 r2 r q2) λ_ s3 ⟨H3,I3,q3⟩=>?_))))
 exact wpAny_release ⟨σ,H3,I3,q3⟩
def Hs(te:TE)(g:TG):TS:=λD σ H=>te σ H λx H1=>g x σ H1 D.nx
theorem b9N{tg e:Expr}{te:TE}{g:TG}(he:PE X e te)(hg:PG X tg g)(hs:swapsWithSole [tg] e pos.line X.env=pure false:=by rfl)(hw:swappedStores [tg] e X.env=pure none:=by rfl)
  (h1:(assignEach [tg] X.env).map (·.2)=[assign tg X.env]:=by rfl):PS X (.Assign [tg] e pos) (Hs te g):=by
 intro pins s σ H D I h
 refine wpAny_Assign_stores (cn (he pins s σ H _ I h) λv s1 ⟨x,H1,I1,r1,q1⟩=>?_) hs hw
 rw [h1]
 exact cn (hg pins s1 σ H1 x v _ I1 r1 q1) λ_ s2 q=>q
theorem T7(hN:X.N.Nodup)(hi:X.N[i]?=some x)(hx:Loc X.env.scope x)(he:PE X e te)(hs:swapsWith e (some (.Name x pos')) pos.line X.env=pure false:=by rfl)(hf:X.fn x=true\/X.env.scope.names.lookup x=some .local:=by first | exact .inl rfl | exact .inr rfl | assumption):
  PS X (.Assign [.Name x pos'] e pos) (Hs te (Yy i)):=by
 intro pins s σ H D I h
 refine wpAny_Assign_Name (cn (he pins s σ H _ I h) λv s1 ⟨y,H1,I1,r1,q1⟩=>?_) hs
 exact UO I1 hN hi hx r1 (λs2 I2=>⟨_,H1,I2,q1⟩) hf
end
section
variable {X:Cx}{pos:Pos}
def b9r(c:TT)(tb:TS):TS:=λD σ H=>∃W:Nat->St->Hp->Prop,(∃m,W m σ H)/\∀m σ H,W m σ H ->
 c σ H λb H1=>if b=true then ∃N:St->Hp->Prop,(∀aK H',N aK H'->∃m',m'<m/\W m' aK H')/\tb { D with nx:=N,ct:=N,bk:=D.nx } σ H1 else D.nx σ H1
theorem b4z(hp:PassesOwn (model X.prog X.w) X.A X.env X.xe)(hc:PT X c tc)(hb:pO X body tb):PS X (.While c body [] pos) (b9r tc tb):=by
 intro pins s σ H D I h
 obtain ⟨W,⟨m0,w0⟩,turn⟩:=h
 refine wpAny_While (codeAny_whileLoop (λn s'=>∃aK H',Inv X pins aK H' s'/\W n aK H') ?_ m0 ⟨σ,H,I,w0⟩)
 rintro n s1 ⟨lq,H1,I1,w1⟩
 refine Es hp (cn (hc pins s1 lq H1 _ I1 (turn n lq H1 w1)) λb s2 ⟨H2,I2,q2⟩=>?_)
 cases b with
 | true =>
  obtain ⟨N,hN,q2⟩:=q2
  rw [if_pos rfl]
  refine Es hp (cn (hb pins s2 lq H2 _ I2 q2) λf s3 q3=>?_)
  cases f with
  | next =>
   obtain ⟨nz,H3,I3,n3⟩:=q3
   obtain ⟨m',hm,w3⟩:=hN nz H3 n3
   exact ⟨m',hm,nz,H3,I3,w3⟩
  | cont =>
   obtain ⟨nz,H3,I3,n3⟩:=q3
   obtain ⟨m',hm,w3⟩:=hN nz H3 n3
   exact ⟨m',hm,nz,H3,I3,w3⟩
  | brk=>exact q3
  | ret v=>exact q3
 | false =>
  rw [if_neg vC]
  exact JX ⟨lq,H2,I2,q2⟩
end
structure It where
 go:Nat->Hp->Prop
 Dt:Nat->Hp->V->Hp->Prop
 stop:Nat->Hp->Prop
def md(X:Cx)(pins:List (Addr×Obj))(H:Hp)(b:Addr):Prop:=
 H b=none/\b≠X.env.locals/\b∉X.fs/\(b∈X.ex\/X.dF.heap.objs.size<=b)/\(∀x c,X.env.cells.lookup x=some c->c≠b)/\∀p∈X.pn++pins,p.1≠b
theorem Inv.qf{X:Cx}{pins:List (Addr×Obj)}{σ:St}{H H':Hp}{s:Shared}{b:Addr}(I:Inv X pins σ H s)(hb:s.heap.objs.size<=b)(hn:H' b=none):md X pins H' b:=by
 refine ⟨hn,FT (pq I.lt hb),I.Qv hb,.inr (iZ I.sz hb),λx c e z=>?_,λp hp z=>?_⟩
 .obtain ⟨v,q⟩:=I.cell x c e
  exact absurd (pq q.lt (by rw [z];exact hb)) (z7 _)
 .exact absurd (pq (eD (I.pin p hp).1) (by rw [z];exact hb)) (z7 _)
structure Turn(P:Program)(w:World)(K:aJ)(tg:Expr)(J:It)(fp:List Addr)(it:Addr)(tn:Nat->Heap->Prop):Prop where
 mem:it∈fp
 obj:∀i h,tn i h->∀b∈fp,∃o,h.get? b=some o/\∀v,o.data≠.cell v
 keep:∀i h h',tn i h->(∀b∈fp,∀o,h.get? b=some o->h'.get? b=some o)->tn i h'
 item:∀(X:Cx),X.prog=P->X.w=w->X.K=K->X.calm=true->∀(i:Nat) (pins:List (Addr×Obj)) (s:Shared) (σ:St) (H:Hp) (E:Value->Shared->Prop),Inv X pins σ H s->(∀b∈fp,md X pins H b)->tn i s.heap->J.go i H ->
  wpAny (model P w) X.A (pyNext (.ref it)) (λr s1=>∃u,r=some u /\
   wpAny (model P w) X.A (letOwnedTupleGo tg (.ref it) u) (λ_ s2=>∃x H',Inv X pins σ H' s2/\RelV x u/\J.Dt i H x H'/\tn (i+1) s2.heap/\∀b∈fp,H' b=none) E s1) E s
 done:∀(X:Cx),X.prog=P->X.w=w->X.K=K->X.calm=true->∀(i:Nat) (pins:List (Addr×Obj)) (s:Shared) (σ:St) (H:Hp) (E:Value->Shared->Prop),Inv X pins σ H s->(∀b∈fp,md X pins H b)->tn i s.heap->J.stop i H ->
  wpAny (model P w) X.A (pyNext (.ref it)) (λr s1=>r=none/\Inv X pins σ H s1) E s
 self:∀(A:Around) (i:Nat) (s:Shared) (Q:Value->Shared->Prop) (E:Value->Shared->Prop),tn i s.heap->Q (.ref it) s->wpAny (model P w) A (pyIter (.ref it)) Q E s
abbrev TI:=St->Hp->(It->Hp->Prop)->Prop
def V1(X:Cx)(pins:List (Addr×Obj))(σ:St)(tg:Expr)(R:It->Hp->Prop)(QM:Value)(s2:Shared):Prop:=
 ∃(it:Addr) (fp:List Addr) (tn:Nat->Heap->Prop) (J:It) (H':Hp),QM=.ref it/\Inv X pins σ H' s2/\Turn X.prog X.w X.K tg J fp it tn/\tn 0 s2.heap/\(∀b∈fp,md X pins H' b)/\R J H'
def PI(X:Cx)(tg iter:Expr)(wi:TI):Prop:=
 ∀(pins:List (Addr×Obj)) (s:Shared) (σ:St) (H:Hp) (R:It->Hp->Prop),Inv X pins σ H s->wi σ H R ->
  wpAny (model X.prog X.w) X.A (eval iter X.env) (λv s1=>wpAny (model X.prog X.w) X.A (pyIter v) (V1 X pins σ tg R) X.xe s1) X.xe s
theorem EG(ho:s.heap.get? it=some o)(hc:o.cls=.type n)(hd:o.data=.fields vs)
  (hn:["enumerate","zip","dict_itemiterator","dict_reverseitemiterator","odict_iterator","itertools.zip_longest","itertools.pairwise"].contains n=false)(hQ:Q () s):wpAny M A (letOwnedTupleGo tg (.ref it) u) Q E s:=by
 unfold letOwnedTupleGo
 cases tg<;>first
  | exact b9 hQ
  | (cases u<;>first
    | exact b9 hQ
    | (refine aI (MH ho ?_)
       rw [hc,hd]
       show wpAny M A (if (["enumerate","zip","dict_itemiterator","dict_reverseitemiterator","odict_iterator","itertools.zip_longest","itertools.pairwise"].contains n&&vs[0]?==some (rawInt _))=true then _ else _) Q E s
       rw [if_neg (by intro h;rw [hn,RW] at h;cases h)]
       exact b9 hQ))
def LP(K:aJ)(a:Addr):It:=
 ⟨λi H=>∃xs x,iI K H a xs/\xs[i]?=some x,λi H x H'=>H'=H/\∀xs,iI K H a xs->xs[i]?=some x,λi H=>∃xs,iI K H a xs/\xs.length<=i⟩
def LO(K:aJ)(a:Addr):It:=
 ⟨λi H=>∃xs x,jP K H a xs/\xs[i]?=some x,λi H x H'=>H'=H/\∀xs,jP K H a xs->xs[i]?=some x,λi H=>∃xs,jP K H a xs/\xs.length<=i⟩
def uc(lo:Int)(n:Nat):It:=⟨λi _=>i<n,λi H x H'=>H'=H/\x=.int (lo+i),λi _=>n<=i⟩
theorem b2b{P:Program}{w:World}{K:aJ}{tg:Expr}(a it:Addr):Turn P w K tg (LP K a) [it] it (λi h=>h.IsListIter it a i) where
 mem:=by simp
 obj:=λi h st b hb=>by
  have e:b=it:=by simpa using hb
  subst e
  obtain ⟨o,e,c,d⟩:=st
  exact ⟨o,e,λv z=>by rw [d] at z;cases z⟩
 keep:=λi h h' st k=>st.at λo e=>k it (by simp) o e
 item:=by
  intro X hP hw hK hc i pins s σ H E I hf st hg
  subst hP hw hK
  obtain ⟨xs,x,hq,hx⟩:=hg
  obtain ⟨aB,rv,p,hz⟩:=I.list hq
  obtain ⟨u,hu,ru⟩:=rv.get hx
  obtain ⟨f0,f1,f2,f3,f4,f5⟩:=hf it (by simp)
  refine wpAny_pyNext_list_item st p.isList (x:=u) (by simpa using hu) λh' j7 sb=>?_
  have I1:Inv X pins σ H { s with heap:=h' }:=I.turned (t':=s.toks) (λb o hb e=>(sb.2 b hb).trans e) f0 f1 f3 f4 f5
  obtain ⟨o,e,c,d⟩:=id j7
  exact ⟨u,rfl,EG (s:={ s with heap:=h' }) e c d (by decide) ⟨x,H,I1,ru,⟨rfl,λys hy=>by rw [I.qb hy hq];exact hx⟩,j7,λb hb=>(hf b hb).1⟩⟩
 done:=by
  intro X hP hw hK hc i pins s σ H E I hf st hg
  subst hP hw hK
  obtain ⟨xs,hq,hx⟩:=hg
  obtain ⟨aB,rv,p,hz⟩:=I.list hq
  obtain ⟨f0,f1,f2,f3,f4,f5⟩:=hf it (by simp)
  have hl:=rv.length
  exact wpAny_pyNext_list_end (I.ok.hd hc) st p.isList (by simp;omega) λh' eb=>⟨rfl,I.turned (t':=s.toks) (λb o hb e=>eb b o hb e) f0 f1 f3 f4 f5⟩
 self:=λ_ _ _ _ _ st h=>wpAny_pyIter_listiter st h
theorem b1r{P:Program}{w:World}{K:aJ}{tg:Expr}(a it:Addr):Turn P w K tg (LO K a) [it] it (λi h=>h.IsTupleIter it a i) where
 mem:=by simp
 obj:=λi h st b hb=>by
  have e:b=it:=by simpa using hb
  subst e
  obtain ⟨o,e,c,d⟩:=st
  exact ⟨o,e,λv z=>by rw [d] at z;cases z⟩
 keep:=λi h h' st k=>st.at λo e=>k it (by simp) o e
 item:=by
  intro X hP hw hK hc i pins s σ H E I hf st hg
  subst hP hw hK
  obtain ⟨xs,x,hq,hx⟩:=hg
  obtain ⟨aB,rv,p,hz⟩:=I.tuple hq
  obtain ⟨u,hu,ru⟩:=rv.get hx
  obtain ⟨f0,f1,f2,f3,f4,f5⟩:=hf it (by simp)
  refine wpAny_pyNext_tuple_item st (show s.heap.IsTuple a aB.toArray from p) (x:=u) (by simpa using hu) λh' j7 sb=>?_
  have I1:Inv X pins σ H { s with heap:=h' }:=I.turned (t':=s.toks) (λb o hb e=>(sb.2 b hb).trans e) f0 f1 f3 f4 f5
  obtain ⟨o,e,c,d⟩:=id j7
  exact ⟨u,rfl,EG (s:={ s with heap:=h' }) e c d (by decide) ⟨x,H,I1,ru,⟨rfl,λys hy=>by rw [I.n9 hy hq];exact hx⟩,j7,λb hb=>(hf b hb).1⟩⟩
 done:=by
  intro X hP hw hK hc i pins s σ H E I hf st hg
  subst hP hw hK
  obtain ⟨xs,hq,hx⟩:=hg
  obtain ⟨aB,rv,p,hz⟩:=I.tuple hq
  obtain ⟨f0,f1,f2,f3,f4,f5⟩:=hf it (by simp)
  have hl:=rv.length
  exact wpAny_pyNext_tuple_end (I.ok.hd hc) st (show s.heap.IsTuple a aB.toArray from p) (by simp;omega) λh' eb=>⟨rfl,I.turned (t':=s.toks) (λb o hb e=>eb b o hb e) f0 f1 f3 f4 f5⟩
 self:=λ_ _ _ _ _ st h=>wpAny_pyIter_tupleiter st h
theorem a7l{P:Program}{w:World}{K:aJ}{tg:Expr}(it:Addr)(lo:Int)(n:Nat):Turn P w K tg (uc lo n) [it] it (λi h=>IsRangeIter h it (lo+(i:Nat)*1) ((n:Int)-(i:Nat)) 1) where
 mem:=by simp
 obj:=λi h st b hb=>by
  have e:b=it:=by simpa using hb
  subst e
  exact ⟨_,st,λv z=>by
   have z':Data.fields _=Data.cell v:=z
   cases z'⟩
 keep:=λi h h' st k=>k it (by simp) _ st
 item:=by
  intro X hP hw hK hc i pins s σ H E I hf st hg
  subst hP hw hK
  obtain ⟨f0,f1,f2,f3,f4,f5⟩:=hf it (by simp)
  have W:=Walks.range (prog:=X.prog) (w:=X.w) (I.ok.hd hc) it lo 1 n
  refine W.item i s _ _ hg st λv h' tk hv j7 kk=>?_
  obtain ⟨t,rfl⟩:=hv
  have I1:Inv X pins σ H { s with heap:=h',toks:=tk }:=I.turned (λb o hb e=>kk b o (by simpa using hb) e) f0 f1 f3 f4 f5
  refine ⟨_,rfl,EG (s:={ s with heap:=h',toks:=tk }) (n:="range_iterator") j7 rfl rfl (by decide) ⟨.int (lo+i),H,I1,⟨t,?_⟩,⟨rfl,rfl⟩,j7,λb hb=>(hf b hb).1⟩⟩
  rw [Int.mul_one]
 done:=by
  intro X hP hw hK hc i pins s σ H E I hf st hg
  subst hP hw hK
  obtain ⟨f0,f1,f2,f3,f4,f5⟩:=hf it (by simp)
  exact wpAny_pyNext_range_end (I.ok.hd hc) st (by have:n<=i:=hg;omega) λh' eb=>⟨rfl,I.turned (t':=s.toks) (λb o hb e=>eb b o hb e) f0 f1 f3 f4 f5⟩
 self:=λ_ _ _ _ _ st h=>wpAny_pyIter_rangeiter st h
end L2
namespace L2
open PySem PySem.Spec PyProof.Rows
section
variable {X:Cx}{tg:Expr}
theorem b4w{pins:List (Addr×Obj)}{σ:St}{H:Hp}{s:Shared}{R:It->Hp->Prop}{E:Value->Shared->Prop}{lo hi:Int}{t u v:Tok}{tk:Nat}(I:Inv X pins σ H s)(h1:-(2^62)<=lo)(h2:lo<2^62)(h3:-(2^62)<=hi)(h4:hi<2^62)
  (q:R (uc lo (hi-lo).toNat) H):wpAny (model X.prog X.w) X.A (pyIter (.ref s.heap.objs.size)) (V1 X pins σ tg R) E { s with heap:=s.heap.push { cls:=.type "range",data:=.fields #[.int lo t,.int hi u,.int 1 v] },toks:=tk }:=by
 refine wpAny_pyIter_range (RZ ..) (small_one h1 h2 h3 h4) ?_
 have I1:Inv X pins σ H { s with heap:=s.heap.push { cls:=.type "range",data:=.fields #[.int lo t,.int hi u,.int 1 v] },toks:=tk }:=I.kept λb o e=>ft _ e
 refine ⟨(s.heap.push { cls:=.type "range",data:=.fields #[.int lo t,.int hi u,.int 1 v] }).objs.size,[(s.heap.push { cls:=.type "range",data:=.fields #[.int lo t,.int hi u,.int 1 v] }).objs.size],_,_,H,rfl,
  I1.kept (t':=tk) λb o e=>ft _ e,a7l _ lo (hi-lo).toNat,?_,λb hb=>?_,q⟩
 .have e1:lo+((0:Nat):Int)*1=lo:=by simp
  have e2:(((hi-lo).toNat:Nat):Int)-((0:Nat):Int)=Yg lo hi 1:=by rw [rangeSize_one];split<;>omega
  show IsRangeIter _ _ (lo+((0:Nat):Int)*1) ((((hi-lo).toNat:Nat):Int)-((0:Nat):Int)) 1
  rw [e1,e2]
  exact j' _ rfl
 .have e:b=(s.heap.push { cls:=.type "range",data:=.fields #[.int lo t,.int hi u,.int 1 v] }).objs.size:=by simpa using hb
  subst e
  exact I1.qf (cT _) (I1.bE.fresh (cT _))
def II(ta:TA):TI:=λσ H R=>ta σ H λvs H1=>∃j:Int,vs=[.int j] /\ -(2^62)<=j/\j<2^62/\R (uc 0 j.toNat) H1
theorem b2E(hg:Gl X "range")(hm:X.mg "range" = none)(ha:PA X [a] ta)(hs:starEach [a] X.env=[(false,eval a X.env)]:=by rfl):PI X tg (.Call (.Name "range" p) [a] [] pos) (II ta):=by
 intro pins s σ H R I h
 refine Call_ (Gr I hg hm boot_range (Nf (cn (ha pos pins s σ H _ I h) λus s1 ⟨vs,H1,I1,r1,q1⟩=>?_) hs rfl))
 obtain ⟨j,e,q1,q2,q⟩:=q1
 subst e
 cases r1 with
 | cons r rr =>
  cases rr
  obtain ⟨t,rfl⟩:=r
  exact call_range_1 (b4w I1 (by omega) (by omega) q1 q2 (by simpa using q))
def P7(wi:TI)(g:TG)(tb:TS):TS:=λD σ H=>wi σ H λJ H1=>∃W:Nat->Nat->St->Hp->Prop,(∃m,W 0 m σ H1)/\∀i m σ H,W i m σ H ->
 (J.stop i H/\D.nx σ H)\/(J.go i H/\∃N:St->Hp->Prop,(∀aK H',N aK H'->∃m',m'<m/\W (i+1) m' aK H')/\∀x H',J.Dt i H x H'->g x σ H' λdM H2=>tb { D with nx:=N,ct:=N,bk:=D.nx } dM H2)
def Cj(fp:List Addr)(h:Heap):List (Addr×Obj):=fp.filterMap λb=>(h.get? b).map λo=>(b,o)
theorem Lg(hb:b∈fp)(e:h.get? b=some o):(b,o)∈Cj fp h:=Xv.mpr ⟨b,hb,by rw [e];rfl⟩
theorem UY(hp:p∈Cj fp h):p.1∈fp/\h.get? p.1=some p.2:=by
 obtain ⟨b,hb,e⟩:=Xv.mp hp
 cases q:h.get? b with
 | none=>rw [q] at e;cases e
 | some o =>
  rw [q] at e
  have e':(b,o)=p:=gY e
  subst e'
  exact ⟨hb,q⟩
theorem Inv.pinned{pins:List (Addr×Obj)}{σ:St}{H:Hp}{s:Shared}{fp:List Addr}(I:Inv X pins σ H s)(hf:∀b∈fp,md X pins H b)(ho:∀b∈fp,∃o,s.heap.get? b=some o/\∀v,o.data≠.cell v):Inv X (pins++Cj fp s.heap) σ H s:=
 I.kE λp hp=>(qm.mp hp).elim (λz=>I.pin p (yv _ z)) λz=>by
  obtain ⟨hb,e⟩:=UY z
  obtain ⟨f0,f1,f2,_⟩:=hf p.1 hb
  obtain ⟨o,e',d⟩:=ho p.1 hb
  rw [e] at e';cases e'
  exact ⟨e,f0,f1,f2,d⟩
theorem Inv.mD{pins pl:List (Addr×Obj)}{σ:St}{H:Hp}{s:Shared}(I:Inv X (pins++pl) σ H s):Inv X pins σ H s:=I.kE λp hp=>I.pin p (yv _ (A6 _ hp))
theorem T6(hp:PassesOwn (model X.prog X.w) X.A X.env X.xe)(hc:X.calm=true)(hi:PI X tg iter wi)(hg:PG X tg g)(hb:pO X body tb)
  (hs:∀x,foldedSetIterable iter X.env x=pure x:=by intro _;rfl):PS X (.For tg iter body [] pos) (P7 wi g tb):=by
 intro pins s σ H D I h
 refine wpAny_For (cn (hi pins s σ H _ I h) λv s1 h1=>cn h1 λQM s2 h2=>?_) hs
 obtain ⟨it,fp,tn,J,H2,e,I2,T,Fo,f2,W,⟨m0,w0⟩,turn⟩:=h2
 subst e
 have DA:∀{H':Hp},(∀b∈fp,H' b=none)->∀b∈fp,md X pins H' b:=λhn b hb=>⟨hn b hb,(f2 b hb).2⟩
 refine codeAny_forLoop_any (λn s'=>∃i aK H',Inv X pins aK H' s'/\tn i s'.heap/\(∀b∈fp,H' b=none)/\W i n aK H') ?_ m0 ⟨0,σ,H2,I2,Fo,λb hb=>(f2 b hb).1,w0⟩
 rintro n s3 ⟨i,nz,H3,I3,Hw,Ju,w3⟩
 rcases turn i n nz H3 w3 with ⟨stop,qn⟩ | ⟨go,N,hN,step⟩
 .refine Es hp (cn (T.done X rfl rfl rfl hc i pins s3 nz H3 X.xe I3 (DA Ju) Hw stop) λr s4 ⟨hr,I4⟩=>?_)
  subst hr
  exact JX ⟨nz,H3,I4,qn⟩
 .refine Es hp (cn (T.item X rfl rfl rfl hc i pins s3 nz H3 X.xe I3 (DA Ju) Hw go) λr s4 ⟨u,hr,h4⟩=>?_)
  subst hr
  refine Es hp (cn h4 λ_ s5 ⟨x,H5,I5,r5,y5,DB,RA⟩=>?_)
  have V6:=I5.pinned (DA RA) (T.obj _ _ DB)
  refine Es hp (cn (hg _ s5 nz H5 x u _ V6 r5 (step x H5 y5)) λ_ s6 ⟨qB,H6,I6,q6⟩=>?_)
  refine Es hp (cn (hb _ s6 qB H6 _ I6 q6) λf s7 q7=>?_)
  have again:∀{yU:St} {H7:Hp},Inv X (pins++Cj fp s5.heap) yU H7 s7->N yU H7->∃m,m<n/\∃i aK H',Inv X pins aK H' s7/\tn i s7.heap/\(∀b∈fp,H' b=none)/\W i m aK H':=λ{yU H7} I7 n7=>by
   obtain ⟨m',hm,w7⟩:=hN yU H7 n7
   refine ⟨m',hm,i+1,yU,H7,I7.mD,T.keep _ _ _ DB λb hb o e=>(I7.pin (b,o) (yv _ (yv _ (Lg hb e)))).1,λb hb=>?_,w7⟩
   obtain ⟨o,e,d⟩:=T.obj _ _ DB b hb
   exact (I7.pin (b,o) (yv _ (yv _ (Lg hb e)))).2.1
  cases f with
  | next=>obtain ⟨yU,H7,I7,n7⟩:=q7;exact again I7 n7
  | cont=>obtain ⟨yU,H7,I7,n7⟩:=q7;exact again I7 n7
  | brk=>obtain ⟨yU,H7,I7,q7⟩:=q7;exact ⟨yU,H7,I7.mD,q7⟩
  | ret v=>obtain ⟨x7,yU,H7,I7,r7,q7⟩:=q7;exact ⟨x7,yU,H7,I7.mD,r7,q7⟩
end
theorem b46{K:aJ}{a:Addr}{xs:List V}{g:TG}{tb:TS}{D:Ends}{σ:St}{H:Hp}(Pv:Nat->St->Hp->Prop)(h0:Pv 0 σ H)(hl:∀i σ H,i<=xs.length->Pv i σ H->iI K H a xs)
  (hs:∀i x σ H,xs[i]?=some x->Pv i σ H->g x σ H λdM H2=>tb { D with nx:=Pv (i+1),ct:=Pv (i+1),bk:=D.nx } dM H2)(hd:∀σ H,Pv xs.length σ H->D.nx σ H):
  ∃W:Nat->Nat->St->Hp->Prop,(∃m,W 0 m σ H)/\∀i m σ H,W i m σ H ->
   ((LP K a).stop i H/\D.nx σ H)\/((LP K a).go i H/\∃N:St->Hp->Prop,(∀aK H',N aK H'->∃m',m'<m/\W (i+1) m' aK H')/\∀x H',(LP K a).Dt i H x H'->g x σ H' λdM H2=>tb { D with nx:=N,ct:=N,bk:=D.nx } dM H2):=by
 refine ⟨λi m σ H=>m=xs.length-i/\i<=xs.length/\Pv i σ H,⟨xs.length,by simp,vF _,h0⟩,?_⟩
 rintro i m σ H ⟨rfl,hi,p⟩
 have q:=hl i σ H hi p
 by_cases iw:i<xs.length
 .refine .inr ⟨⟨xs,xs[i],q,by simp [iw]⟩,Pv (i+1),λaK H' p'=>⟨xs.length-(i+1),by omega,rfl,iw,p'⟩,λx H' y=>?_⟩
  obtain ⟨e,y⟩:=y
  subst e
  exact hs i x σ _ (y xs q) p
 .have e:i=xs.length:=by omega
  subst e
  exact .inl ⟨⟨xs,q,cT _⟩,hd σ H p⟩
theorem b7V{K:aJ}{a:Addr}{xs:List V}{g:TG}{tb:TS}{D:Ends}{σ:St}{H:Hp}(Pv:Nat->St->Hp->Prop)(h0:Pv 0 σ H)(hl:∀i σ H,i<=xs.length->Pv i σ H->jP K H a xs)
  (hs:∀i x σ H,xs[i]?=some x->Pv i σ H->g x σ H λdM H2=>tb { D with nx:=Pv (i+1),ct:=Pv (i+1),bk:=D.nx } dM H2)(hd:∀σ H,Pv xs.length σ H->D.nx σ H):
  ∃W:Nat->Nat->St->Hp->Prop,(∃m,W 0 m σ H)/\∀i m σ H,W i m σ H ->
   ((LO K a).stop i H/\D.nx σ H)\/((LO K a).go i H/\∃N:St->Hp->Prop,(∀aK H',N aK H'->∃m',m'<m/\W (i+1) m' aK H')/\∀x H',(LO K a).Dt i H x H'->g x σ H' λdM H2=>tb { D with nx:=N,ct:=N,bk:=D.nx } dM H2):=by
 refine ⟨λi m σ H=>m=xs.length-i/\i<=xs.length/\Pv i σ H,⟨xs.length,by simp,vF _,h0⟩,?_⟩
 rintro i m σ H ⟨rfl,hi,p⟩
 have q:=hl i σ H hi p
 by_cases iw:i<xs.length
 .refine .inr ⟨⟨xs,xs[i],q,by simp [iw]⟩,Pv (i+1),λaK H' p'=>⟨xs.length-(i+1),by omega,rfl,iw,p'⟩,λx H' y=>?_⟩
  obtain ⟨e,y⟩:=y
  subst e
  exact hs i x σ _ (y xs q) p
 .have e:i=xs.length:=by omega
  subst e
  exact .inl ⟨⟨xs,q,cT _⟩,hd σ H p⟩
theorem b3y{lo:Int}{n:Nat}{g:TG}{tb:TS}{D:Ends}{σ:St}{H:Hp}(Pv:Nat->St->Hp->Prop)(h0:Pv 0 σ H)
  (hs:∀i σ H,i<n->Pv i σ H->g (.int (lo+i)) σ H λdM H2=>tb { D with nx:=Pv (i+1),ct:=Pv (i+1),bk:=D.nx } dM H2)(hd:∀σ H,Pv n σ H->D.nx σ H):
  ∃W:Nat->Nat->St->Hp->Prop,(∃m,W 0 m σ H)/\∀i m σ H,W i m σ H ->
   ((uc lo n).stop i H/\D.nx σ H)\/((uc lo n).go i H/\∃N:St->Hp->Prop,(∀aK H',N aK H'->∃m',m'<m/\W (i+1) m' aK H')/\∀x H',(uc lo n).Dt i H x H'->g x σ H' λdM H2=>tb { D with nx:=N,ct:=N,bk:=D.nx } dM H2):=by
 refine ⟨λi m σ H=>m=n-i/\i<=n/\Pv i σ H,⟨n,by simp,vF _,h0⟩,?_⟩
 rintro i m σ H ⟨rfl,hi,p⟩
 by_cases iw:i<n
 .refine .inr ⟨iw,Pv (i+1),λaK H' p'=>⟨n-(i+1),by omega,rfl,iw,p'⟩,λx H' y=>?_⟩
  obtain ⟨e,y⟩:=y
  subst e y
  exact hs i σ _ iw p
 .have e:i=n:=by omega
  subst e
  exact .inl ⟨cT _,hd σ H p⟩
end L2
namespace L2
open PySem PySem.Spec PyProof.Rows
abbrev R2:=V->V->Hp->VK->Prop
def ml(X:Cx)(f:Value->Value->Sem Value)(r:R2):Prop:=
 ∀(pins:List (Addr×Obj)) (s:Shared) (σ:St) (H:Hp) (x y:V) (v u:Value) (Q:VK),Inv X pins σ H s->RelV x v->RelV y u->r x y H Q ->
  wpAny (model X.prog X.w) X.A (f v u) (EP X pins σ Q) X.xe s
def VZ(X:Cx)(f:Value->Sem Value)(r:V->Hp->VK->Prop):Prop:=
 ∀(pins:List (Addr×Obj)) (s:Shared) (σ:St) (H:Hp) (x:V) (v:Value) (Q:VK),Inv X pins σ H s->RelV x v->r x H Q ->
  wpAny (model X.prog X.w) X.A (f v) (EP X pins σ Q) X.xe s
def de(X:Cx)(f:Value)(r:List V->Hp->VK->Prop):Prop:=
 ∀(pins:List (Addr×Obj)) (s:Shared) (σ:St) (H:Hp) (xs:List V) (us:List Value) (Q:VK),Inv X pins σ H s->aF xs us->r xs H Q ->
  wpAny (model X.prog X.w) X.A (call f us) (EP X pins σ Q) X.xe s
def V0(X:Cx)(r:V->Hp->(Bool->Hp->Prop)->Prop):Prop:=
 ∀(pins:List (Addr×Obj)) (s:Shared) (σ:St) (H:Hp) (x:V) (v:Value) (Q:Bool->Hp->Prop),Inv X pins σ H s->RelV x v->r x H Q ->
  wpAny (model X.prog X.w) X.A (truthy v) (TP X pins σ Q) X.xe s
def Hk(r:R2)(ta tb:TE):TE:=λσ H Q=>ta σ H λx H1=>tb σ H1 λy H2=>r x y H2 Q
def tUn(r:V->Hp->VK->Prop)(ta:TE):TE:=λσ H Q=>ta σ H λx H1=>r x H1 Q
def rI(C:Int->Int->Prop)(g:Int->Int->V):R2:=λx y H Q=>∃i j,x=.int i/\y=.int j/\C i j/\Q (g i j) H
def DG(g:Int->Int->V):R2:=λx y H Q=>∃i j,x=.int i/\y=.int j/\Q (g i j) H
def rU(g:Int->V):V->Hp->VK->Prop:=λx H Q=>∃i,x=.int i/\Q (g i) H
section
variable {X:Cx}{a b c:Expr}{ta tb tc:TE}{pos:Pos}
theorem EF(ha:PE X a ta)(hb:PE X b tb){pins:List (Addr×Obj)}{s:Shared}{σ:St}{H:Hp}{R:V->V->Hp->Prop}(I:Inv X pins σ H s)
  (h:ta σ H λx H1=>tb σ H1 λy H2=>R x y H2){Q:Value->Shared->Prop}{f:Value->Value->Sem Value}
  (hf:∀v u s2 x y H2,Inv X pins σ H2 s2->RelV x v->RelV y u->R x y H2->wpAny (model X.prog X.w) X.A (f v u) Q X.xe s2):
  wpAny (model X.prog X.w) X.A (eval a X.env) (λv aT=>wpAny (model X.prog X.w) X.A (eval b X.env) (λu fF=>wpAny (model X.prog X.w) X.A (f v u) Q X.xe fF) X.xe aT) X.xe s:=by
 refine cn (ha pins s σ H _ I h) λv s1 ⟨x,H1,I1,r1,q1⟩=>?_
 refine cn (hb pins s1 σ H1 _ I1 q1) λu s2 ⟨y,H2,I2,r2,q2⟩=>?_
 exact hf v u s2 x y H2 I2 r1 r2 q2
theorem HX(ho:ml X (binaryOp op) r)(ha:PE X a ta)(hb:PE X b tb):PE X (.BinOp a op b pos) (Hk r ta tb):=by
 intro pins s σ H Q I h
 exact wpAny_BinOp (EF ha hb I h λv u s2 x y H2 I2 rx ry q=>ho pins s2 σ H2 x y v u Q I2 rx ry q)
theorem HW(ho:VZ X (unaryOp op) r)(ha:PE X a ta):PE X (.UnaryOp op a pos) (tUn r ta):=by
 intro pins s σ H Q I h
 exact UnaryOp_ (cn (ha pins s σ H _ I h) λv s1 ⟨x,H1,I1,r1,q1⟩=>ho pins s1 σ H1 x v Q I1 r1 q1)
theorem Ih{f:Value->Value->Sem Value}{C:Int->Int->Prop}{g:Int->Int->Int}
  (rule:∀(i j:Int) (t u:Tok) (s:Shared) (Q:Value->Shared->Prop) (E:Value->Shared->Prop),C i j->Q (.int (g i j) s.toks) { s with toks:=s.toks+1 }->wpAny (model X.prog X.w) X.A (f (.int i t) (.int j u)) Q E s):
  ml X f (rI C λi j=>.int (g i j)):=by
 intro pins s σ H x y v u Q I rx ry h
 obtain ⟨i,j,rfl,rfl,hc,q⟩:=h
 obtain ⟨t,rfl⟩:=rx
 obtain ⟨t',rfl⟩:=ry
 exact rule i j t t' s _ _ hc ⟨.int (g i j),H,I.tok _,⟨_,rfl⟩,q⟩
theorem Qr{f:Value->Value->Sem Value}{g:Int->Int->Int}
  (rule:∀(i j:Int) (t u:Tok) (s:Shared) (Q:Value->Shared->Prop) (E:Value->Shared->Prop),Q (.int (g i j) s.toks) { s with toks:=s.toks+1 }->wpAny (model X.prog X.w) X.A (f (.int i t) (.int j u)) Q E s):
  ml X f (DG λi j=>.int (g i j)):=by
 intro pins s σ H x y v u Q I rx ry h
 obtain ⟨i,j,rfl,rfl,q⟩:=h
 obtain ⟨t,rfl⟩:=rx
 obtain ⟨t',rfl⟩:=ry
 exact rule i j t t' s _ _ ⟨.int (g i j),H,I.tok _,⟨_,rfl⟩,q⟩
theorem DJ{f:Value->Value->Sem Value}{g:Int->Int->Bool}
  (rule:∀(i j:Int) (t u:Tok) (s:Shared) (Q:Value->Shared->Prop) (E:Value->Shared->Prop),Q (.bool (g i j)) s->wpAny (model X.prog X.w) X.A (f (.int i t) (.int j u)) Q E s):
  ml X f (DG λi j=>.bl (g i j)):=by
 intro pins s σ H x y v u Q I rx ry h
 obtain ⟨i,j,rfl,rfl,q⟩:=h
 obtain ⟨t,rfl⟩:=rx
 obtain ⟨t',rfl⟩:=ry
 exact rule i j t t' s _ _ ⟨.bl (g i j),H,I,rfl,q⟩
def Cw(i j:Int):Prop:=(-(2^64)<i/\i<2^64)\/(-(2^64)<j/\j<2^64)
theorem Cw.ok(h:Cw i j):IntMulOk i j:=by
 rcases h with ⟨h1,h2⟩ | ⟨h1,h2⟩
 .exact .of_left (MQ h1 h2)
 .exact .of_right (MQ h1 h2)
theorem DI:ml X (binaryOp .Add) (DG λi j=>.int (i+j)):=Qr λ_ _ _ _ _ _ _ q=>add_int q
theorem unI{f:Value->Sem Value}{g:Int->Int}
  (rule:∀(i:Int) (t:Tok) (s:Shared) (Q:Value->Shared->Prop) (E:Value->Shared->Prop),Q (.int (g i) s.toks) { s with toks:=s.toks+1 }->wpAny (model X.prog X.w) X.A (f (.int i t)) Q E s):
  VZ X f (rU λi=>.int (g i)):=by
 intro pins s σ H x v Q I rx h
 obtain ⟨i,rfl,q⟩:=h
 obtain ⟨t,rfl⟩:=rx
 exact rule i t s _ _ ⟨.int (g i),H,I.tok _,⟨_,rfl⟩,q⟩
theorem b9k:VZ X (unaryOp .USub) (rU λi=>.int (-i)):=unI λ_ _ _ _ _ q=>neg_int q
end
section
variable {X:Cx}{a b c:Expr}{ta tb tc:TE}{pos:Pos}
theorem c0G{pins:List (Addr×Obj)}{σ:St}{H:Hp}{s:Shared}{Q:VK}{k k':Bool}(I:Inv X pins σ H s)(q:Q (.bl k) H)(e:k=k'):EP X pins σ Q (.bool k') s:=by
 subst e
 exact ⟨.bl k,H,I,rfl,q⟩
theorem Ic:ml X (compareOp .Lt) (DG λi j=>.bl (decide (i<j))):=DJ λ_ _ _ _ _ _ _ q=>lt_int q
theorem Ie:ml X (compareOp .LtE) (DG λi j=>.bl (decide (i<=j))):=DJ λ_ _ _ _ _ _ _ q=>le_int q
theorem Ig:ml X (compareOp .Gt) (DG λi j=>.bl (decide (j<i))):=DJ λ_ _ _ _ _ _ _ q=>gt_int q
theorem b2J:ml X (compareOp .In) (λx y H Q=>∃i j,x=.str i/\y=.str j/\Q (.bl (!(Yf j i 0 j.length 1).isEmpty)) H):=by
 intro pins s σ H x y v u Q I rx ry h
 obtain ⟨i,j,rfl,rfl,q⟩:=h
 obtain ⟨t,rfl⟩:=rx
 obtain ⟨t',rfl⟩:=ry
 exact in_str (c0G I q rfl)
theorem ml.or(h:ml X f r)(h':ml X f r'):ml X f (λx y H Q=>r x y H Q\/r' x y H Q):=by
 intro pins s σ H x y v u Q I rx ry q
 rcases q with q | q
 .exact h pins s σ H x y v u Q I rx ry q
 .exact h' pins s σ H x y v u Q I rx ry q
theorem Y7(b:Expr)(h:op≠.In:=by decide)(h2:op≠.NotIn:=by decide):behindInMarks op b=false:=by
 have e1:(op==CmpOp.In)=false:=by cases op<;>first | rfl | exact absurd rfl h
 have e2:(op==CmpOp.NotIn)=false:=by cases op<;>first | rfl | exact absurd rfl h2
 cases b<;>simp [behindInMarks,e1,e2]
theorem b7l(ho:ml X (compareOp op) r)(ha:PE X a ta)(hb:PE X b tb)(hm:behindInMarks op b=false):PE X (.Compare a [op] [b] pos) (Hk r ta tb):=by
 intro pins s σ H Q I h
 exact wpAny_Compare1 (EF ha hb I h λv u s2 x y H2 I2 rx ry q=>ho pins s2 σ H2 x y v u Q I2 rx ry q) hm
def YC(t:TE):TT:=λσ H Q=>t σ H λx H'=>∃k,x=.bl k/\Q k H'
theorem b7c(ho:ml X (compareOp op) r)(ha:PE X a ta)(hb:PE X b tb)(hm:behindInMarks op b=false):PT X (.Compare a [op] [b] pos) (YC (Hk r ta tb)):=by
 intro pins s σ H Q I h
 refine wpAny_isTrue_Compare1 (cn (ha pins s σ H _ I h) λv s1 ⟨x,H1,I1,r1,q1⟩=>cn (hb pins s1 σ H1 _ I1 q1) λu s2 ⟨y,H2,I2,r2,q2⟩ =>
  cn (ho pins s2 σ H2 x y v u _ I2 r1 r2 q2) λc s3 ⟨z,H3,I3,r3,k,e,q3⟩=>?_) hm
 subst e
 cases r3
 exact C3 ⟨H3,I3,q3⟩
def b9u(r r':R2)(ta tb tc:TE):TE:=λσ H Q=>ta σ H λx H1=>tb σ H1 λy H2=>r x y H2 λz H3=>∃k,z=.bl k /\
 (if k=true then tc σ H3 λw' H4=>r' y w' H4 Q else Q (.bl false) H3)
theorem b4y(ho:ml X (compareOp op) r)(jA:ml X (compareOp Ii) r')(ha:PE X a ta)(hb:PE X b tb)(hc:PE X c tc)
  (hm:lastMarks [op,Ii] [b,c]=false:=by with_unfolding_all rfl):PT X (.Compare a [op,Ii] [b,c] pos) (YC (b9u r r' ta tb tc)):=by
 intro pins s σ H Q I h
 refine isTrue_chain (cn (ha pins s σ H _ I h) λv s1 ⟨x,H1,I1,r1,q1⟩=>test_link (cn (hb pins s1 σ H1 _ I1 q1) λu s2 ⟨y,H2,I2,r2,q2⟩ =>
  cn (ho pins s2 σ H2 x y v u _ I2 r1 r2 q2) λd s3 ⟨z,H3,I3,r3,k,e,q3⟩=>?_)) hm
 subst e
 cases r3
 refine C3 ?_
 cases k with
 | false =>
  obtain ⟨k',e',q'⟩:=q3
  cases e'
  exact ite_ff ⟨H3,I3,q'⟩
 | true =>
  refine ite_tt (test_last (cn (hc pins s3 σ H3 _ I3 q3) λw' s4 ⟨z',H4,I4,r4,q4⟩=>cn (jA pins s4 σ H4 y z' u w' _ I4 r2 r4 q4) λd' s5 ⟨z2,H5,I5,r5,k2,e2,q5⟩=>?_))
  subst e2
  cases r5
  exact C3 ⟨H5,I5,q5⟩
def E6(K:aJ)(x:V)(H:Hp)(k:Bool):Prop:=
 match x with
 | .cD=>k=false
 | .bl b=>k=b
 | .int i=>k=(i != 0)
 | .str y=>y.length<=sizeLine/\k=((y.length:Int) != 0)
 | .Gf y=>y.size<=sizeLine/\k=((y.size:Int) != 0)
 | .ref p=>(∃xs,iI K H p xs/\k=!xs.isEmpty)\/(∃xs,jP K H p xs/\k=!xs.isEmpty)\/∃aD,H p=some (.dK aD)/\k=!aD.isEmpty
 | _=>False
theorem b1T{κ:Type}{aD:List (κ×V)}{vs:List (κ×Value)}(r:KV aD vs):(!vs.isEmpty)=!aD.isEmpty:=by
 cases r<;>rfl
theorem a7u(r:aF xs aB):(!aB.toArray.isEmpty)=!xs.isEmpty:=by
 cases r<;>simp
theorem EO:(sizeLine:Nat)<2^63:=by rw [lZ];decide
theorem b9p:V0 X (λx H Q=>∃k,E6 X.K x H k/\Q k H):=by
 intro pins s σ H x v Q I rx h
 obtain ⟨k,e,q⟩:=h
 have hl:=EO
 have hs:sizeLine=16777216:=lZ
 cases x with
 | cD =>
  cases rx
  have e':k=false:=e
  subst e'
  exact truthy_none ⟨H,I,q⟩
 | bl b =>
  cases rx
  have e':k=b:=e
  subst e'
  exact C3 ⟨H,I,q⟩
 | int i =>
  obtain ⟨t,rfl⟩:=rx
  have e':k=(i != 0):=e
  subst e'
  exact PySem.P.truthy_int ⟨H,I,q⟩
 | str y =>
  obtain ⟨t,rfl⟩:=rx
  obtain ⟨hy,e'⟩:y.length<=sizeLine/\k=((y.length:Int) != 0):=e
  subst e'
  exact PySem.P.truthy_str (by omega) ⟨H,I.tok _,q⟩
 | Gf y =>
  obtain ⟨t,rfl⟩:=rx
  obtain ⟨hy,e'⟩:y.size<=sizeLine/\k=((y.size:Int) != 0):=e
  subst e'
  exact PySem.W.truthy_bytes (by omega) ⟨H,I.tok _,q⟩
 | ref p =>
  cases rx
  have e':(∃xs,iI X.K H p xs/\k=!xs.isEmpty)\/(∃xs,jP X.K H p xs/\k=!xs.isEmpty)\/∃aD,H p=some (.dK aD)/\k=!aD.isEmpty:=e
  rcases e' with ⟨xs,hx,e'⟩ | ⟨xs,hx,e'⟩ | ⟨aD,hx,e'⟩
  .subst e'
   obtain ⟨aB,r,pl,hz⟩:=I.list hx
   have hlen:=r.length
   exact wpAny_truthy_list pl.isList (by simp only [gZ];omega) ⟨H,I.tok _,by rw [a7u r];exact q⟩
  .subst e'
   obtain ⟨aB,r,pl,hz⟩:=I.tuple hx
   have hlen:=r.length
   exact truthy_tuple pl (by simp only [gZ];omega) ⟨H,I.tok _,by rw [a7u r];exact q⟩
  .subst e'
   obtain ⟨hz,hS,vs,r,m⟩:aD.length<=sizeLine/\(p==sysModules)=false/\∃vs,KV aD vs/\s.heap.DictOf (nV X.prog X.w) p vs:=I.bE p _ hx
   have hlen:aD.length=vs.length:=Paired.length r
   exact wpAny_truthy_dict hS m (by omega) ⟨H,I.tok _,by rw [b1T r];exact q⟩
 | _=>exact (show False from e).elim
theorem b0Q(ha:PE X a ta)(he:∀whole,isTrue a X.env whole=(do let v <-whole;standAt a.pos;holding [v] (truthy v))):
  PT X a (λσ H Q=>ta σ H λx H'=>∃k,E6 X.K x H' k/\Q k H'):=by
 intro pins s σ H Q I h
 exact isTrue_plain (cn (ha pins s σ H _ I h) λv s1 ⟨x,H1,I1,r1,q1⟩=>b9p pins s1 σ H1 x v Q I1 r1 q1) (he _)
theorem q0:ml X (binaryOp .Add) (λx y H Q=>∃i j,x=.str i/\y=.str j/\i.length+j.length<=sizeLine/\Q (.str (i++j)) H):=by
 intro pins s σ H x y v u Q I rx ry h
 obtain ⟨i,j,rfl,rfl,hz,q⟩:=h
 obtain ⟨t,rfl⟩:=rx
 obtain ⟨t',rfl⟩:=ry
 exact add_str (λt' tk=>⟨.str (i++j),H,I.tok _,⟨_,rfl⟩,q⟩) hz
theorem vals1(r:aF [x] us):∃u,us=[u]/\RelV x u:=by
 cases r with
 | cons r1 r2=>cases r2;exact ⟨_,rfl,r1⟩
theorem vals2(r:aF [x,y] us):∃u w',us=[u,w']/\RelV x u/\RelV y w':=by
 cases r with
 | cons r1 r2 =>
  cases r2 with
  | cons r3 r4=>cases r4;exact ⟨_,_,rfl,r1,r3⟩
theorem kK:de X (.type "str") (λxs H Q=>∃i,xs=[.int i]/\i.natAbs.log2<1920/\Q (.str (toString i)) H):=by
 intro pins s σ H xs us Q I r h
 obtain ⟨i,rfl,hz,q⟩:=h
 obtain ⟨u,rfl,t,rfl⟩:=vals1 r
 exact PySem.P.str_of_int hz ⟨.str _,H,I.tok _,⟨_,rfl⟩,q⟩
end
end L2
namespace L2
open PySem PySem.Spec PyProof.Rows
structure si(h:Heap)(x dx C:Addr)(mA:Str->Option Value):Prop where
 obj:h.get? x=some (C4 C dx)
 ns:h.Ns1 dx mA
 ne:dx≠x
theorem b22{h:Heap}(n:h.Ns1 dx mA):∃od,h.get? dx=some od/\∀name,MO name od=some (mA name):=by
 obtain ⟨o,es,ep,ho,hd,hk,_,hm⟩:=n
 refine ⟨o,ho,λname=>?_⟩
 have e:=hm name
 unfold nsFind findBy at e
 rw [<-Array.find?_toList] at e
 unfold MO
 rw [hd]
 dsimp only
 split
 .rename_i y q
  rw [q] at e
  exact congrArg some e
 .rename_i q
  rw [q] at e
  have a:es.toList.any (·.refKey)=false:=by
   rw [List.any_eq_false]
   intro y hy
   obtain ⟨z,t,zI⟩:=hk y (Array.mem_toList_iff.mp hy)
   simp [DictEntry.refKey,zI]
  have a':¬es.toList.any (·.refKey)=true:=by rw [a];exact vC
  rw [if_neg a']
  exact congrArg some e
theorem si.look(I:si h x dx C mA):∃od,PySem.W.InstAt h x (C4 C dx) C (some od)/\∀name,MO name od=some (mA name):=
 let ⟨od,ho,hl⟩:=b22 I.ns
 ⟨od,⟨I.obj,rfl,rfl,ho⟩,hl⟩
section
variable {prog:Program}{w:World}{A:Around}{E:Value->Shared->Prop}{s:Shared}{K:aJ}{x dx C f:Addr}{mA:Str->Option Value}{name:Str}{v:Value}
theorem b7U(X:K.In s.heap)(I:si s.heap x dx C mA)(hg:M0 K C name=true)(hh:Sw K C=true)
  (ha:pk K (.ref C) name=some none)(hv:mA name=some v)(hv':XO v=true)(h:Q v { s with toks:=s.toks+1 }):
  wpAny (model prog w) A (getAttr (.ref x) name expr) Q E s:=by
 obtain ⟨od,J,hl⟩:=I.look
 exact PySem.W.get_value X J (Th hg).1 (PySem.W.findObj_own hh ha rfl (by rw [hl,hv])) hv' h
theorem b45(X:K.In s.heap)(I:si s.heap x dx C mA)(hg:M0 K C name=true)
  (hf:pk K (.ref C) name=some (some (.ref f)))(ht:Sk K (.ref f)=true)(hv:mA name=none)(h:Q (.ref f,[.ref x]) s):
  wpAny (model prog w) A (getMethod (.ref x) name pl) Q E s:=by
 obtain ⟨od,J,hl⟩:=I.look
 exact PySem.W.method_fn X J (Th hg).1 (Th hg).2 hf (beq_iff_eq.mp ht) (by show (MO name od).map (·.isSome)=some false;rw [hl,hv];rfl) h
theorem b65(X:K.In s.heap)(I:si s.heap x dx C mA)
  (hs:pk K (.ref C) "__setattr__" = some (some (.builtin "object.__setattr__")))(hp:Xs K C=true)(ht:SH K C name=some none)(hh:Sw K C=true)
  (hw:Sm mA ns)(hsz:ns.length<=sizeLine)
  (h:∀h',si h' x dx C (λy=>if y=name then some v else mA y)->Aa dx s.heap h'->Q () { s with heap:=h',toks:=s.toks+2 }):
  wpAny (model prog w) A (setAttr (.ref x) name v) Q E s:=by
 obtain ⟨od,J,hl⟩:=I.look
 refine PySem.W.set_plain X J hs (PySem.W.osa_open (s:={ s with toks:=s.toks+1 }) (r:=none) X J hp ht λb=>?_)
 obtain ⟨cd,hc,AL⟩:=PySem.W.any_some hh
 have hx:s.heap.get? x=some ⟨.ref C,some dx,.plain,#[]⟩:=I.obj
 refine aI (b9 (aI (aI (wpAny_loadPart hx (aI (PySem.W.Looks.here (s:={ s with toks:=s.toks+1 }) (PySem.W.looks_clsIn X hc) ?_))))))
 rw [AL]
 refine b9 (a:=some dx) (aI (b9 (aI ?_)))
 refine wpAny_nsSet1 (s:={ s with toks:=s.toks+1 }) I.ns λh' Mp lX=>?_
 obtain ⟨oD,esD,epD,hoD,hdD,hcD⟩:=Mp.count (PySem.Within.cons name v hw)
 refine aI (wpAny_lookBehind hoD (by rw [hdD];exact pastItsLine_dict (iZ hcD (by rw [ia];omega))) ?_)
 exact b9 (h _ ⟨(lX.2 _ (l5 I.ne)).trans I.obj,Mp,I.ne⟩ lX)
theorem b4M(X:K.In s.heap)(hm:XM K C=true)
  (hi:pk K (.ref C) "__init__" = some (some (.ref f)))(hf:PySem.W.typeIn K (.ref f)=some (.type "function"))
  (h:codeAny (model prog w) (A.under (.builtin "type.__call__" ⟨.ref C::vs,kw⟩)) (.call (.ref f) ⟨.ref (s.heap.objs.size+1)::vs,kw⟩) (PySem.W.InitBack (s.heap.objs.size+1) R)
   { s with heap:=(s.heap.push B8).push (C4 C s.heap.objs.size) }):
  codeAny (model prog w) A (.call (.ref C) ⟨vs,kw⟩) R s:=by
 obtain ⟨hh,g,d,t,os⟩:=s
 exact PySem.W.make_core (PySem.W.makes_of X hm) (MN X hi) (λself=>PySem.W.bind_fn X self hf) (.inl rfl) h
end
def iS(f:Str)(v:V):List (Str×V)->List (Str×V)
 | []=>[(f,v)]
 | (g,x)::r=>if g=f then (g,v)::r else (g,x)::iS f v r
theorem a6D(f g:Str)(v:V):∀fs:List (Str×V),(iS f v fs).lookup g=if g=f then some v else fs.lookup g
 | []=>by
  show zZ g [(f,v)]=_
  by_cases h:g=f
  .have hb:(g==f)=true:=beq_iff_eq.mpr h
   simp only [zZ,hb,if_pos h]
  .have hb:(g==f)=false:=beq_eq_false_iff_ne.mpr h
   simp only [zZ,hb,if_neg h]
 | (k,x)::r=>by
  have ih:=a6D f g v r
  rw [show iS f v ((k,x)::r)=(if k=f then (k,v)::r else (k,x)::iS f v r) from rfl]
  by_cases hk:k=f
  .rw [if_pos hk]
   by_cases h:g=k
   .have hb:(g==k)=true:=beq_iff_eq.mpr h
    simp only [zZ,hb,if_pos (h.trans hk)]
   .have hb:(g==k)=false:=beq_eq_false_iff_ne.mpr h
    simp only [zZ,hb,if_neg (λe:g=f=>h (e.trans hk.symm))]
  .rw [if_neg hk]
   by_cases h:g=k
   .have hb:(g==k)=true:=beq_iff_eq.mpr h
    simp only [zZ,hb,if_neg (λe:g=f=>hk (h.symm.trans e))]
   .have hb:(g==k)=false:=beq_eq_false_iff_ne.mpr h
    simp only [zZ,hb]
    exact ih
theorem Va(f:Str)(v:V):∀fs:List (Str×V),f∈(iS f v fs).map (·.1)/\∀g,g∈fs.map (·.1)->g∈(iS f v fs).map (·.1)
 | []=>⟨by simp [iS],λg h=>by simp at h⟩
 | (k,x)::r=>by
  obtain ⟨i1,i2⟩:=Va f v r
  rw [show iS f v ((k,x)::r)=(if k=f then (k,v)::r else (k,x)::iS f v r) from rfl]
  by_cases hk:k=f
  .rw [if_pos hk]
   subst hk
   exact ⟨by simp,λg h=>by simpa using h⟩
  .rw [if_neg hk]
   refine ⟨?_,λg h=>?_⟩
   .rw [gS]
    exact i0 _ i1
   .rw [gS] at h ⊢
    rcases ej.mp h with e | e
    .exact ej.mpr (.inl e)
    .exact i0 _ (i2 g e)
theorem a6I(f:Str)(v:V):∀fs:List (Str×V),(iS f v fs).length<=fs.length+1
 | []=>by simp [iS]
 | (k,x)::r=>by
  have ih:=a6I f v r
  rw [show iS f v ((k,x)::r)=(if k=f then (k,v)::r else (k,x)::iS f v r) from rfl]
  by_cases hk:k=f
  .rw [if_pos hk,ia,ia];omega
  .rw [if_neg hk,ia,ia];omega
theorem jb.some_of(r:jb (some v) o):∃u,o=some u/\RelV v u:=by
 cases o with
 | none=>exact (show False from r).elim
 | some u=>exact ⟨u,rfl,r⟩
theorem jb.none_of(r:jb none o):o=none:=by
 cases o with
 | none=>rfl
 | some u=>exact (show False from r).elim
theorem b3x(r:RelV v u):XO u=true:=by
 cases v with
 | cD=>cases (show u=mi from r);rfl
 | bl b=>cases (show u=qH b from r);rfl
 | int i=>obtain ⟨t,e⟩:=(show ∃t,u=MJ i t from r);cases e;rfl
 | str x=>obtain ⟨t,e⟩:=(show ∃t,u=Ek x t from r);cases e;rfl
 | Gf b=>obtain ⟨t,e⟩:=(show ∃t,u=Value.bytes b t from r);cases e;rfl
 | FG b=>obtain ⟨t,e⟩:=(show ∃t,u=Value.float b t from r);cases e;rfl
 | ref a=>cases (show u=dJ a from r);rfl
 | ty n=>cases (show u=CU n from r);rfl
section
variable {P:Program}{w:World}{H H':Hp}{h h':Heap}{a C dx:Addr}{fs xK:List (Str×V)}
theorem Ug(bE:jc P w H h)(e:H a=some (.ins C dx fs)):∃mA,si h a dx C mA/\(∀f,jb (fs.lookup f) (mA f))/\Sm mA (fs.map (·.1))/\fs.length<=1000/\H dx=some (.own a):=by
 obtain ⟨d,z,ne,ob,mA,n,r,q⟩:=(show cM P w H h a (.ins C dx fs) from bE a _ e)
 exact ⟨mA,⟨ob,n,ne⟩,r,q,z,d⟩
end
structure qz(K:aJ)(C:Addr):Prop where
 pg:M0 K C A3=true
 hd:Sw K C=true
 po:Xs K C=true
 sa:pk K (.ref C) "__setattr__" = some (some (.builtin "object.__setattr__"))
theorem qz.get{K:aJ}{C:Addr}(c:qz K C)(f:Str):M0 K C f=true:=c.pg
def ak(K:aJ)(C:Addr)(f:Str):Prop:=pk K (.ref C) f=some none
theorem ak.Hg{K:aJ}{C:Addr}{f:Str}(n:ak K C f):SH K C f=some none:=by
 unfold SH
 rw [show pk K (.ref C) f=some none from n]
 rfl
structure Con(K:aJ)(C:Addr)(f:Str)(v:V)(u:Value):Prop where
 at_:pk K (.ref C) f=some (some u)
 rel:RelV v u
 get:FZ K u "__get__" = some none
 cp:PySem.W.copiedNames.contains f=false
structure aA(K:aJ)(C:Addr)(m:Str)(f:Addr):Prop where
 at_:pk K (.ref C) m=some (some (.ref f))
 fn:Sk K (.ref f)=true
 kp:yz K (.ref f)=true
section
variable {X:Cx}{pins:List (Addr×Obj)}{σ:St}{H:Hp}{s:Shared}{a C dx:Addr}{fs:List (Str×V)}{f:Str}{v:V}{A:Around}{E:Value->Shared->Prop}
theorem b1U(I:Inv X pins σ H s)(e:H a=some (.ins C dx fs))(c:qz X.K C)(n:ak X.K C f)(l:fs.lookup f=some v)
  (h:∀u s',Inv X pins σ H s'->RelV v u->Q u s'):wpAny (model X.prog X.w) A (getAttr (.ref a) f b) Q E s:=by
 obtain ⟨mA,O,r,_,_,_⟩:=Ug I.bE e
 obtain ⟨u,hu,ru⟩:=jb.some_of (v:=v) (o:=mA f) (by rw [<-l];exact r f)
 exact b7U I.mf O (c.get f) c.hd n hu (b3x ru) (h u _ (I.tok _) ru)
theorem a7x(I:Inv X pins σ H s)(e:H a=some (.ins C dx fs))(c:qz X.K C)(k:aA X.K C m g)(l:fs.lookup m=none)
  (h:Q (.ref g,[.ref a]) s):wpAny (model X.prog X.w) A (getMethod (.ref a) m pl) Q E s:=by
 obtain ⟨mA,O,r,_,_,_⟩:=Ug I.bE e
 have hn:mA m=none:=jb.none_of (by rw [<-l];exact r m)
 exact b45 I.mf O (c.get m) k.at_ k.fn hn h
theorem b1s(I:Inv X pins σ H s)(e:H a=some (.ins C dx fs))(c:qz X.K C)(n:ak X.K C f)(hl:fs.length<1000)(ry:RelV y u)
  (h:∀s',Inv X pins σ (upd H a (.ins C dx (iS f y fs))) s'->Q () s'):wpAny (model X.prog X.w) A (setAttr (.ref a) f u) Q E s:=by
 obtain ⟨mA,O,r,wi,_,ho⟩:=Ug I.bE e
 have hz:(fs.map (·.1)).length<=sizeLine:=by rw [cP,lZ];omega
 refine b65 I.mf O c.sa c.po n.Hg c.hd wi hz λh' O' sb=>h _ ?_
 have hd:∃o,h'.get? dx=some o:=let ⟨o,_,_,e',_⟩:=O'.ns;⟨o,e'⟩
 refine I.write (x:=a) (e:=dx) (by rw [e];exact FN) (.inr ho) (λb q hb z=>(sb.2 b hb).trans z) hd ?_
 refine ⟨by rw [fm O.ne];exact ho,?_,O.ne,O'.obj,_,O'.ns,λg=>?_,λg hg=>?_⟩
 .have:=a6I f y fs;omega
 .show jb ((iS f y fs).lookup g) (if g=f then some u else mA g)
  rw [a6D]
  by_cases q:g=f
  .rw [if_pos q,if_pos q];exact ry
  .rw [if_neg q,if_neg q];exact r g
 .by_cases q:g=f
  .rw [q];exact (Va f y fs).1
  .refine (Va f y fs).2 g (wi g λz=>hg ?_)
   show (if g=f then some u else mA g)=none
   rw [if_neg q];exact z
theorem Inv.made(I:Inv X pins σ H s):Inv X pins σ (upd (upd H s.heap.objs.size (.own (s.heap.objs.size+1))) (s.heap.objs.size+1) (.ins C s.heap.objs.size []))
  { s with heap:=(s.heap.push B8).push (C4 C s.heap.objs.size) }:=by
 have e1:(s.heap.push B8).get? s.heap.objs.size=some B8:=j' s.heap rfl
 have e2:((s.heap.push B8).push (C4 C s.heap.objs.size)).get? (s.heap.objs.size+1)=some (C4 C s.heap.objs.size):=by
  have:=j' (s.heap.push B8) (o:=C4 C s.heap.objs.size) rfl
  rwa [pf] at this
 have e3:(s.heap.push B8).Ns s.heap.objs.size (λ_=>none):=⟨B8,#[],_,e1,rfl,(λe he=>absurd he (by simp)),λ_=>rfl⟩
 have I1:=I.laid (a:=s.heap.objs.size) (o:=.own (s.heap.objs.size+1)) (h':=s.heap.push B8) (t':=s.toks) (λb u q=>ft _ q) (cT _) ⟨_,e1⟩
 refine I1.laid (a:=s.heap.objs.size+1) (o:=.ins C s.heap.objs.size []) (t':=s.toks) (λb u q=>ft _ q) (Sj (pf _ _)) ?_
 have ne:s.heap.objs.size≠s.heap.objs.size+1:=gi (qo _)
 refine ⟨by rw [fm ne,lM],vF _,ne,e2,λ_=>none,(Heap.Ns1.of_empty e3).at λo q=>ft _ q,λ_=>FN,λy hy=>absurd rfl hy⟩
theorem b8i(hb:attributeBase e f env (eval e env)=eval e env)
  (h:wpAny (model prog w) A (eval e env) (λo aT=>wpAny (model prog w) A (getAttr o f true) Q E aT) E s):wpAny (model prog w) A (eval (.Attribute e f pos) env) Q E s:=
 Attribute_any_ h (by rw [arm_eval_Attribute,hb])
end
def P8(K:aJ)(ta:TE)(f:Str):TE:=λσ H Q=>ta σ H λx H1=>∃a C dx fs v,x=.ref a/\H1 a=some (.ins C dx fs)/\qz K C/\ak K C f/\fs.lookup f=some v/\Q v H1
def Qe(K:aJ)(ta tv:TE)(f:Str):TS:=λD σ H=>tv σ H λy H1=>ta σ H1 λx H2=>∃a C dx fs,x=.ref a/\H2 a=some (.ins C dx fs)/\qz K C/\ak K C f/\fs.length<1000 /\
 D.nx σ (upd H2 a (.ins C dx (iS f y fs)))
section
variable {X:Cx}{o e value:Expr}{f:Str}{pos pos' PU:Pos}{ta tv:TE}
theorem Za(he:PE X e ta)(hb:attributeBase e f X.env (eval e X.env)=eval e X.env):PE X (.Attribute e f pos) (P8 X.K ta f):=by
 intro pins s σ H Q I h
 refine b8i hb (cn (he pins s σ H _ I h) λu s1 ⟨x,H1,I1,rx,a,C,dx,fs,v,ex,ea,c,n,l,q⟩=>?_)
 subst ex
 obtain rfl:u=dJ a:=rx
 exact b1U I1 ea c n l λu' s2 I2 ru=>⟨v,H1,I2,ru,q⟩
theorem Ze(ha:PE X o ta)(hv:PE X value tv)(hs:swapsWith value (some (.Attribute o f pos')) pos.line X.env=pure false):PS X (.Assign [.Attribute o f pos'] value pos) (Qe X.K ta tv f):=by
 intro pins s σ H D I h
 refine plainObj_wpAny_Assign_Attribute (cn (hv pins s σ H _ I h) λu s1 ⟨y,H1,I1,ry,q⟩=>cn (ha pins s1 σ H1 _ I1 q) λov s2 ⟨x,H2,I2,rx,a,C,dx,fs,ex,ea,c,n,l,q2⟩=>?_) hs
 subst ex
 obtain rfl:ov=dJ a:=rx
 exact b1s I2 ea c n l ry λs3 I3=>⟨σ,_,I3,q2⟩
end
section
variable {X:Cx}{pins:List (Addr×Obj)}{σ:St}{H:Hp}{s:Shared}{A:Around}{E:Value->Shared->Prop}{Q:Value->Shared->Prop}{c:Value}{b:Bool}
inductive m8 (K:aJ) (H:Hp):V->Value->Prop where
 | cD:m8 K H .cD (.type "NoneType")
 | bl (x:Bool):m8 K H (.bl x) (.type "bool")
 | int (i:Int):m8 K H (.int i) (.type "int")
 | str (x:Str):m8 K H (.str x) (.type "str")
 | FG (x:UInt64):m8 K H (.FG x) (.type "float")
 | lst {a:Addr} {xs:List V} (e:H a=some (.lst xs)):m8 K H (.ref a) (.type "list")
 | jJ {a:Addr} {o:Obj} {xs:List V} (e:H a=some (.jJ o (.lst xs))):m8 K H (.ref a) (.type "list")
 | tup {a:Addr} {xs:List V} (e:H a=some (.tup xs)):m8 K H (.ref a) (.type "tuple")
 | dK {a:Addr} {aD:List (Key×V)} (e:H a=some (.dK aD)):m8 K H (.ref a) (.type "dict")
 | dT {a:Addr} {aD:List (List Key×V)} (e:H a=some (.dT aD)):m8 K H (.ref a) (.type "dict")
 | ins {a C dx:Addr} {fs:List (Str×V)} (e:H a=some (.ins C dx fs)) (cl:qz K C) (ha:pk K (.ref C) "__class__" = some (some (.builtin "object.__class__")))
   (hn:FZ K (.builtin "object.__class__") "__get__" = some (some (.builtin "getset_descriptor.__get__"))) (WX:SX K (.builtin "object.__class__")=some true)
   (hm:FP K C (.type "object")=some true):m8 K H (.ref a) (.ref C)
end
end L2
namespace L2
open PySem PySem.Spec PyProof.Rows
structure cF(k:Nat)(A:Around):Prop where
 hd:A.handled=none
 dp:A.depth+3*k+5<recursionLimit
 un:A.units+16*k+200<cLine
theorem cF.mono(r:cF k A)(h:j<=k):cF j A:=⟨r.hd,by have:=r.dp;omega,by have:=r.un;omega⟩
theorem cF.deeper(r:cF (k+1) A)(env:Env):cF k (A.deeper env):=
 ⟨r.hd,by have:=r.dp;show A.depth+1+3*k+5<_;omega,by have:=r.un;show A.units+3+16*k+200<_;omega⟩
theorem cF.in1(r:cF (k+1) A):cF k A.in1:=
 ⟨r.hd,by have:=r.dp;show A.depth+3*k+5<_;omega,by have:=r.un;show A.units+1+16*k+200<_;omega⟩
theorem b1O{A:Around}{kw:List (Str×Value)}:(A.under (.builtin "type.__call__" ⟨.ref C::us,kw⟩)).depth=A.depth+1:=by
 first | rfl | simp [Si,Code.weight,Code.isCreation,Code.isGuard,Code.isCaller,Code.frames,Sg,guardIds]
theorem b1N{A:Around}{kw:List (Str×Value)}:(A.under (.builtin "type.__call__" ⟨.ref C::us,kw⟩)).units=A.units+1:=by
 first | rfl | simp [Si,Code.cUnits,Code.frames,Sg]
theorem cF.make(r:cF (k+1) A)(C:Addr)(us:List Value)(kw:List (Str×Value)):cF k (A.under (.builtin "type.__call__" ⟨.ref C::us,kw⟩)):=
 ⟨r.hd,by have:=r.dp;rw [b1O];omega,by have:=r.un;rw [b1N];omega⟩
theorem cF.depth(r:cF k A):A.depth<recursionLimit:=by have:=r.dp;omega
theorem cF.units(r:cF k A):A.units+64<cLine:=by have:=r.un;omega
def Hl:TA:=λ_ H Q=>Q [] H
def Hr(ta:TE)(tr:TA):TA:=λσ H Q=>ta σ H λx H1=>tr σ H1 λxs H2=>Q (x::xs) H2
section
variable {X:Cx}{e:Expr}{es:List Expr}{te:TE}{t:TA}{pos:Pos}
theorem nv:PA X [] Hl:=λ_ _ _ _ H Q I h=>Calls.spliced_nil ⟨[],H,I,.nil,h⟩
theorem lj(ha:PE X e te)(hr:PA X es t)(hs:starEach (e::es) X.env=(false,eval e X.env)::starEach es X.env:=by rfl):PA X (e::es) (Hr te t):=by
 intro pos pins s σ H Q I h
 rw [hs]
 show wpAny _ _ (spliced ((false,eval e X.env)::backTo pos (starEach es X.env))) _ _ s
 refine Calls.spliced_cons (cn (ha pins s σ H _ I h) λu s1 ⟨x,H1,I1,r1,q1⟩=>?_)
 exact cn (hr pos pins s1 σ H1 _ I1 q1) λus s2 ⟨xs,H2,I2,r2,q2⟩=>⟨x::xs,H2,I2,.cons r1 r2,q2⟩
def PX(t:TA):TE:=λσ H Q=>t σ H λxs H1=>xs.length<=sizeLine/\∀p,H1 p=none->Q (.ref p) (upd H1 p (.tup xs))
def P5(t:TA):TE:=λσ H Q=>t σ H λxs H1=>xs.length<=sizeLine/\∀p,H1 p=none->Q (.ref p) (upd H1 p (.lst xs))
theorem Zb{x1}(h:PA X es t):PE X (.Tuple es x1 pos) (PX t):=by
 intro pins s σ H Q I hq
 refine wpAny_Tuple_spliced (cn (h pos pins s σ H _ I hq) λus s1 ⟨xs,H1,I1,r,z,q⟩=>⟨by rw [<-r.length];exact z,?_⟩)
 have hf:H1 s1.heap.objs.size=none:=I1.bE.fresh (cT _)
 refine ⟨.ref s1.heap.objs.size,upd H1 s1.heap.objs.size (.tup xs),I1.laid (t':=s1.toks) (λb u e=>ft _ e) (cT _) ?_,rfl,q _ hf⟩
 exact ⟨z,us,r,⟨_,j' _ rfl,rfl,_,rfl⟩⟩
theorem b9W(h:PA X es t):PE X (.List es pos) (P5 t):=by
 intro pins s σ H Q I hq
 refine wpAny_List_spliced (cn (h pos pins s σ H _ I hq) λus s1 ⟨xs,H1,I1,r,z,q⟩=>⟨by rw [<-r.length];exact z,?_⟩)
 have hf:H1 s1.heap.objs.size=none:=I1.bE.fresh (cT _)
 refine ⟨.ref s1.heap.objs.size,upd H1 s1.heap.objs.size (.lst xs),I1.laid (t':=s1.toks) (λb u e=>ft _ e) (cT _) ?_,rfl,q _ hf⟩
 exact ⟨z,us,0,r,j' _ rfl⟩
end
abbrev Sp:=List V->Hp->VK->XK->Prop
abbrev ud:=List Env->Hp->Shared->XK->Value->Shared->Prop
structure n6(P:Program)(w:World)(K:aJ)(mg:Str->Option Value)(base:Heap)(A:Around)(outer:List Env)(s:Shared)(H:Hp):Prop where
 frames:A.frames=some outer
 mod:Mod K mg base
 bs:∀b o,base.get? b=some o->s.heap.get? b=some o/\H b=none
 vG:base.objs.size<=s.heap.objs.size
 jX:s.heap.FunFrames base outer
 AO:∀b∈j8 outer,H b=none
 bE:jc P w H s.heap
 bare:AllBare s.gens
def CE(outer:List Env)(P:Program)(w:World)(H:Hp)(s:Shared)(Q:VK)(u:Value)(s':Shared):Prop:=
 ∃v H',s'.os=s.os/\AllBare s'.gens/\Un (j8 outer) [] H H' s.heap s'.heap/\jc P w H' s'.heap/\RelV v u/\Q v H'
def CR(CX:ud)(outer:List Env)(P:Program)(w:World)(H:Hp)(s:Shared)(Q:VK)(E:XK)(r:Result)(s':Shared):Prop:=
 match r with
 | .ok (.ret u)=>CE outer P w H s Q u s'
 | .ok _=>False
 | .error e=>CX outer H s E e s'
structure cx(P:Program)(w:World)(K:aJ)(mg:Str->Option Value)(base:Heap)(CX:ud)(k:Nat)(f:Addr)(fd:FuncData)(ps:List Str)(sp:Sp):Prop where
 len:∀vs H Q E,sp vs H Q E->vs.length=ps.length
 run:∀(A:Around) (outer:List Env) (s:Shared) (H:Hp) (args:Args) (us:List Value) (vs:List V) (Q:VK) (E:XK),cF k A->n6 P w K mg base A outer s H->BindsTo s fd args (ps.zip us)->aF vs us->sp vs H Q E ->
  codeAny (model P w) A (.call (.ref f) args) (CR CX outer P w H s Q E) s
theorem cx.mono{P:Program}{w:World}{K:aJ}{mg:Str->Option Value}{base:Heap}{CX:ud}{j k:Nat}{f:Addr}{fd:FuncData}{ps:List Str}{sp:Sp}(F:cx P w K mg base CX j f fd ps sp)(h:j<=k):
  cx P w K mg base CX k f fd ps sp:=⟨F.len,λA outer s H args us vs Q E hr=>F.run A outer s H args us vs Q E (hr.mono h)⟩
theorem cx.imp{P:Program}{w:World}{K:aJ}{mg:Str->Option Value}{base:Heap}{CX:ud}{k:Nat}{f:Addr}{fd:FuncData}{ps:List Str}{sp Ww:Sp}(F:cx P w K mg base CX k f fd ps sp)
  (h:∀vs H Q E,Ww vs H Q E->sp vs H Q E):cx P w K mg base CX k f fd ps Ww:=
 ⟨λvs H Q E q=>F.len vs H Q E (h _ _ _ _ q),λA outer s H args us vs Q E hr he hb hv hs=>F.run A outer s H args us vs Q E hr he hb hv (h _ _ _ _ hs)⟩
theorem n6.make{P:Program}{w:World}{K:aJ}{mg:Str->Option Value}{base:Heap}{A:Around}{outer:List Env}{s:Shared}{H:Hp}(e:n6 P w K mg base A outer s H)(C:Addr)(us:List Value)(kw:List (Str×Value)):
  n6 P w K mg base (A.under (.builtin "type.__call__" ⟨.ref C::us,kw⟩)) outer s H:=⟨by first | exact e.frames | (simpa [Si,Code.envs,Sg,pushEnvs] using e.frames),e.mod,e.bs,e.vG,e.jX,e.AO,e.bE,e.bare⟩
theorem n6.in1{P:Program}{w:World}{K:aJ}{mg:Str->Option Value}{base:Heap}{A:Around}{outer:List Env}{s:Shared}{H:Hp}(e:n6 P w K mg base A outer s H):
  n6 P w K mg base A.in1 outer s H:=⟨e.frames,e.mod,e.bs,e.vG,e.jX,e.AO,e.bE,e.bare⟩
section
variable {X:Cx}{pins:List (Addr×Obj)}{σ:St}{H:Hp}{s s':Shared}
theorem Inv.k9(I:Inv X pins σ H s):n6 X.prog X.w X.K X.mg X.base X.A X.stack s H:=
 ⟨I.ok.frames,I.ok.mod,I.bs,iZ I.ok.vG I.sz,I.stack,I.kn,I.bE,I.bare⟩
theorem Inv.after(I:Inv X pins σ H s)(h:CE X.stack X.prog X.w H s Q u s'):EP X pins σ Q u s':=by
 obtain ⟨v,H',os,bare,un,bE,r,q⟩:=h
 obtain ⟨hh,g,d,t,Ib⟩:=s'
 obtain rfl:Ib=s.os:=os
 exact ⟨v,H',I.call (h':=hh) (g':=g) (d':=d) (t':=t) (ch:=[]) un bE bare (λb z=>absurd z (by simp)),r,q⟩
end
def TF(sp:Sp)(dvs:List V)(E:XK)(t:TA):TE:=λσ H Q=>t σ H λvs H1=>sp (vs++dvs) H1 Q E
def Hn(C:Addr)(sp:Sp)(dvs:List V)(E:XK)(t:TA):TE:=λσ H Q=>t σ H λvs H1=>∀x dx,H1 x=none->H1 dx=none->dx≠x ->
 sp (.ref x::(vs++dvs)) (upd (upd H1 dx (.own x)) x (.ins C dx [])) (λv H2=>v=.cD/\Q (.ref x) H2) E
def Binds(K:aJ)(fd:FuncData)(ps:List Str)(ds:List Value):Prop:=
 ∀(s:Shared) (us:List Value),K.In s.heap->(us++ds).length=ps.length->BindsTo s fd ⟨us,[]⟩ (ps.zip (us++ds))
theorem Binds.all{K:aJ}{fd:FuncData}{ps:List Str}(h:∀us:List Value,us.length=ps.length->bindArgs fd ⟨us,[]⟩=pure (ps.zip us)):Binds K fd ps []:=λs us _ hl=>by
 rw [vz] at hl ⊢
 exact .of_eq (h us hl)
def KH(CX:ud)(X:Cx)(E:XK):Prop:=∀(pins:List (Addr×Obj)) (σ:St) (H:Hp) (s:Shared) (e:Value) (s':Shared),Inv X pins σ H s->CX X.stack H s E e s'->X.xe e s'
section
variable {X:Cx}{CX:ud}{k:Nat}{f C:Addr}{fd:FuncData}{ps:List Str}{sp:Sp}{dvs:List V}{ds:List Value}{E:XK}{x m:Str}{p pos apos:Pos}{e o:Expr}{es:List Expr}{ta:TE}{t:TA}
theorem NO{pins:List (Addr×Obj)}{σ:St}{H:Hp}{s:Shared}{Q:VK}{us:List Value}{vs:List V}(F:cx X.prog X.w X.K X.mg X.base CX k f fd ps sp)(hr:cF k X.A)(hb:Binds X.K fd ps ds)(hd:aF dvs ds)(hx:KH CX X E)
  (I:Inv X pins σ H s)(r:aF vs us)(h:sp (vs++dvs) H Q E):wpAny (model X.prog X.w) X.A (call (.ref f) us) (EP X pins σ Q) X.xe s:=by
 have r2:aF (vs++dvs) (us++ds):=r.append hd
 have hl:(us++ds).length=ps.length:=by rw [<-r2.length];exact F.len _ _ _ _ h
 refine FK (B4 (F.run X.A X.stack s H ⟨us,[]⟩ (us++ds) (vs++dvs) Q E hr I.k9 (hb s us I.mf hl) r2 h) λr s' hq=>?_)
 cases r with
 | error e=>exact hx pins σ H s e s' I hq
 | ok fl =>
  cases fl with
  | ret u=>exact I.after hq
  | next=>exact gC hq
  | brk=>exact gC hq
  | cont=>exact gC hq
theorem Up(F:cx X.prog X.w X.K X.mg X.base CX k f fd ps sp)(hr:cF k X.A)(hg:Gl X x)(hm:X.mg x=some (.ref f))(hk:yz X.K (.ref f)=true)(hb:Binds X.K fd ps ds)(hd:aF dvs ds)(hx:KH CX X E)
  (ha:PA X (e::es) t)(hX:(x==("__debug__":Str))=false:=by decide)(he:starEach (e::es) X.env=(false,eval e X.env)::starEach es X.env:=by rfl)(gm:(backTo pos (starEach es X.env)).any (·.1)=false:=by rfl):
  PE X (.Call (.Name x p) (e::es) [] pos) (TF sp dvs E t):=by
 intro pins s σ H Q I h
 refine Kk (Df I hg hm ?_ hX)
 refine Kj (h₀:=X.base) I.ok.mod.zy hk (cn (ha pos pins s σ H _ I h) λus s1 ⟨vs,H1,I1,r,q⟩=>⟨I1.mf,?_⟩) he gm
 exact NO F hr hb hd hx I1 r q
structure Mk(K:aJ)(C f:Addr):Prop where
 makes:XM K C=true
 init:pk K (.ref C) "__init__" = some (some (.ref f))
 fn:Sk K (.ref f)=true
 kp:yz K (.ref C)=true
theorem b4r{pins:List (Addr×Obj)}{σ:St}{H:Hp}{s:Shared}{Q:VK}{us:List Value}{vs:List V}(M:Mk X.K C f)(F:cx X.prog X.w X.K X.mg X.base CX k f fd ps sp)(hr:cF (k+1) X.A)(hb:Binds X.K fd ps ds)(hd:aF dvs ds)
  (hx:KH CX X E)(I:Inv X pins σ H s)(r:aF vs us)
  (h:∀x dx,H x=none->H dx=none->dx≠x->sp (.ref x::(vs++dvs)) (upd (upd H dx (.own x)) x (.ins C dx [])) (λv H2=>v=.cD/\Q (.ref x) H2) E):
  wpAny (model X.prog X.w) X.A (call (.ref C) us) (EP X pins σ Q) X.xe s:=by
 have hq:=h (s.heap.objs.size+1) s.heap.objs.size (I.bE.fresh (B5 _)) (I.bE.fresh (cT _)) (gi (qo _))
 have I2:=Inv.made (C:=C) I
 have r2:aF (V.ref (s.heap.objs.size+1)::(vs++dvs)) (dJ (s.heap.objs.size+1)::(us++ds)):=.cons rfl (r.append hd)
 have hl:(dJ (s.heap.objs.size+1)::us++ds).length=ps.length:=by
  have e:=r2.length
  rw [F.len _ _ _ _ hq] at e
  exact e.symm
 refine FK (b4M (f:=f) I.mf M.makes M.init (beq_iff_eq.mp M.fn) (B4 (F.run _ X.stack _ _ ⟨dJ (s.heap.objs.size+1)::us,[]⟩ (dJ (s.heap.objs.size+1)::(us++ds)) _ _ E (hr.make C us [])
  (I2.k9.make C us []) (hb _ (dJ (s.heap.objs.size+1)::us) I2.mf hl) r2 hq) λr s' iV=>?_))
 cases r with
 | error e=>exact hx pins σ _ _ e s' I2 iV
 | ok fl =>
  cases fl with
  | ret u =>
   obtain ⟨v,H',I3,rv,ev,q3⟩:=I2.after iV
   subst ev
   exact ⟨rv,⟨V.ref (s.heap.objs.size+1),H',I3,rfl,q3⟩⟩
  | next=>exact gC iV
  | brk=>exact gC iV
  | cont=>exact gC iV
theorem Z7(M:Mk X.K C f)(F:cx X.prog X.w X.K X.mg X.base CX k f fd ps sp)(hr:cF (k+1) X.A)(hg:Gl X x)(hm:X.mg x=some (.ref C))(hb:Binds X.K fd ps ds)(hd:aF dvs ds)(hx:KH CX X E)
  (ha:PA X (e::es) t)(hX:(x==("__debug__":Str))=false:=by decide)(he:starEach (e::es) X.env=(false,eval e X.env)::starEach es X.env:=by rfl)(gm:(backTo pos (starEach es X.env)).any (·.1)=false:=by rfl):
  PE X (.Call (.Name x p) (e::es) [] pos) (Hn C sp dvs E t):=by
 intro pins s σ H Q I h
 refine Kk (Df I hg hm ?_ hX)
 refine Kj (h₀:=X.base) I.ok.mod.zy M.kp (cn (ha pos pins s σ H _ I h) λus s1 ⟨vs,H1,I1,r,q⟩=>⟨I1.mf,?_⟩) he gm
 exact b4r M F hr hb hd hx I1 r q
end
section
variable {X:Cx}{CX:ud}{k:Nat}{f C:Addr}{fd:FuncData}{ps ks:List Str}{sp:Sp}{E:XK}{x m:Str}{p pos apos kpos:Pos}{e o:Expr}{es:List Expr}{kws:List Keyword}{te ta:TE}{t tk:TA}{nm:Option Str}
structure V3(K:aJ)(fd:FuncData)(ps ks:List Str)(g:List Value->List Value->List Value)(gV:List V->List V->List V):Prop where
 to:∀(s:Shared) (us ws:List Value),K.In s.heap->(g us ws).length=ps.length->BindsTo s fd ⟨us,ks.zip ws⟩ (ps.zip (g us ws))
 rel:∀{vs:List V} {us:List Value} {zs:List V} {ws:List Value},aF vs us->aF zs ws->aF (gV vs zs) (g us ws)
variable {g:List Value->List Value->List Value}{gV:List V->List V->List V}
end
structure cz(N P:List Str)(sc:Scope):Prop where
 kind:sc.kind=.function
 co:sc.isCoroutine=false
 gen:sc.isGenerator=false
 nd:N.Nodup
 pre:N.take P.length=P
 par:∀x∈P,sc.names.lookup x=some .local\/sc.names.lookup x=some .cell
 DO:∀y∈sc.names,y.2≠.free
theorem a9o{kindOf:Str->Option NameKind}{x:Str}:∀{binds:List (Str×Value)} {m:Str->Option Value},(∀v,(x,v)∉binds)->bindL kindOf binds m x=m x
 | [],_,_=>rfl
 | (n,v)::r,m,h=>by
  unfold bindL
  rw [a9o λw hw=>h w (i0 _ hw)]
  split
  .have:x≠n:=by rintro rfl;exact h v jM
   simp [this]
  .rfl
theorem a9q{kindOf:Str->Option NameKind}{x:Str}:∀{binds:List (Str×Value)} {m:Str->Option Value},(∀v,(x,v)∉binds)->bindC kindOf binds m x=m x
 | [],_,_=>rfl
 | (n,v)::r,m,h=>by
  unfold bindC
  rw [a9q λw hw=>h w (i0 _ hw)]
  split
  .rfl
  .have:x≠n:=by rintro rfl;exact h v jM
   simp [this]
theorem a9p{kindOf:Str->Option NameKind}{x:Str}{v:Value}:∀{P:List Str} {vs:List Value} {i:Nat} {m:Str->Option Value},P.Nodup->P[i]?=some x->vs[i]?=some v->kindOf x=some .local ->
  bindL kindOf (P.zip vs) m x=some v
 | [],_,_,_,_,h,_,_=>by simp at h
 | _::_,[],_,_,_,_,h,_=>by simp at h
 | p::P,w::vs,0,m,nd,h1,h2,hk=>by
  simp at h1 h2;subst h1;subst h2
  show bindL kindOf ((p,w)::P.zip vs) m p=_
  unfold bindL
  rw [a9o λv hv=>(F6.mp nd).1 (SW hv).1,if_pos hk]
  simp
 | p::P,w::vs,i+1,m,nd,h1,h2,hk=>by
  show bindL kindOf ((p,w)::P.zip vs) m x=_
  unfold bindL
  exact a9p (i:=i) (F6.mp nd).2 (by simpa using h1) (by simpa using h2) hk
theorem a9r{kindOf:Str->Option NameKind}{x:Str}{v:Value}:∀{P:List Str} {vs:List Value} {i:Nat} {m:Str->Option Value},P.Nodup->P[i]?=some x->vs[i]?=some v->kindOf x≠some .local ->
  bindC kindOf (P.zip vs) m x=some v
 | [],_,_,_,_,h,_,_=>by simp at h
 | _::_,[],_,_,_,_,h,_=>by simp at h
 | p::P,w::vs,0,m,nd,h1,h2,hk=>by
  simp at h1 h2;subst h1;subst h2
  show bindC kindOf ((p,w)::P.zip vs) m p=_
  unfold bindC
  rw [a9q λv hv=>(F6.mp nd).1 (SW hv).1,if_neg hk]
  simp
 | p::P,w::vs,i+1,m,nd,h1,h2,hk=>by
  show bindC kindOf ((p,w)::P.zip vs) m x=_
  unfold bindC
  exact a9r (i:=i) (F6.mp nd).2 (by simpa using h1) (by simpa using h2) hk
def start(N:List Str)(vs:List V):St:=vs.map some++nN (N.length-vs.length) none
def iX(CX:ud)(P:Program)(w:World)(K:aJ)(mg:Str->Option Value)(base:Heap)(N:List Str)(qual:Str)(scope:Scope)(f:Addr)(cd:Value)(A:Around)(outer:List Env)(s:Shared)(H:Hp)(E:XK):Cx where
 prog:=P
 w:=w
 K:=K
 mg:=mg
 base:=base
 A:=A.deeper (envOfC qual scope s.heap.objs.size f cd)
 N:=N
 dF:=s
 Ao:=H
 env:=envOfC qual scope s.heap.objs.size f cd
 outer:=outer
 stack:=envOfC qual scope s.heap.objs.size f cd::outer
 ex:=[]
 calm:=true
 fn:=λ_=>true
 pn:=[]
 xe:=λe s'=>wpAny (model P w) (A.deeper (envOfC qual scope s.heap.objs.size f cd)) (leaving (envOfC qual scope s.heap.objs.size f cd) e) (λ_ DD=>CX outer H s E e DD) (λe' DD=>CX outer H s E e' DD) s'
theorem b1e{sc:Scope}{n:Nat}{x:Str}(h:sc.names.lookup x=some .cell):∃c,(cellsFrom n sc.names []).lookup x=some c:=by
 have q:=Ya sc.names n [] (.inl h)
 exact S8.mp q
theorem b3n{CX:ud}{P:Program}{w:World}{K:aJ}{mg:Str->Option Value}{base:Heap}{N ps:List Str}{qual:Str}{scope:Scope}{f:Addr}{cd:Value}{A:Around}{outer:List Env}{s s1:Shared}{H:Hp}{E:XK}{us:List Value}{vs:List V}
  (S:cz N ps scope)(hd:A.handled=none)(e0:n6 P w K mg base A outer s H)(hl:vs.length=ps.length)(r:aF vs us)
  (x:InCallC s s.heap.objs.size (bindL (envOfC qual scope s.heap.objs.size f cd).kindOf (ps.zip us) λ_=>none) (cellsFrom (s.heap.objs.size+1) scope.names []) (bindC (envOfC qual scope s.heap.objs.size f cd).kindOf (ps.zip us) λ_=>none) s1):
  Inv (iX CX P w K mg base N qual scope f cd A outer s H E) [] (start N vs) H s1:=by
 have gm:ps.length<=N.length:=by have:=congrArg FV S.pre;rw [JZ] at this;omega
 obtain ⟨h1,tk,rfl,hk⟩:=x.done
 have Qy:∀b:Addr,b∉(iX CX P w K mg base N qual scope f cd A outer s H E).ex:=λb z=>absurd (show b∈([]:List Addr) from z) (by simp)
 refine ⟨⟨e0.mod,S.kind,rfl,rfl,cT _,λy z c h1 h2=>?_,λy hy=>?_,λy c _ h=>?_,λ_=>hd,Around.frames_deeper e0.frames,.inr ⟨rfl,rfl⟩,λb z=>absurd z (Qy b),e0.bs,e0.vG,λb _ _=>Qy b,λb z=>absurd z (Qy b),e0.jX,e0.AO⟩,
  rfl,e0.bare,Un.kept hk,⟨_,x.toInCall.ns,λi y v h1 h2 h3=>?_⟩,λy c h=>⟨_,x.cell y c h⟩,e0.bE.fresh (cT _),λy c h=>?_,λp hp=>absurd (show p∈([]:List (Addr×Obj)) from hp) (by simp),e0.bE.kept hk,?_⟩
 .exact name_of_addr x.apart (F3 h1) (F3 h2)
 .have hy:scope.names.lookup y=some .cell\/scope.names.lookup y=some .free:=hy
  rcases hy with hy | hy
  .exact b1e hy
  .exact absurd rfl (S.DO _ (F3 hy))
 .exact FU (x.above y c (F3 h))
 .have hi:i<vs.length:=by
   unfold start at h2
   by_cases hi:i<vs.length
   .exact hi
   .rw [Tn (by simpa using hi)] at h2
    rw [C1] at h2
    split at h2<;>cases h2
  have ha:vs[i]?=some v:=by
   unfold start at h2
   rw [Tj (by simpa using hi),nj] at h2
   cases e:vs[i]? with
   | none=>rw [e] at h2;cases h2
   | some a=>rw [e] at h2;cases h2;rfl
  obtain ⟨u,hu,rv⟩:=r.get ha
  have hp:ps[i]?=some y:=by
   rw [<-S.pre,List.getElem?_take_of_lt (by omega)];exact h1
  have WM:ps.Nodup:=by rw [<-S.pre];exact S.nd.sublist (List.take_sublist _ _)
  refine ⟨u,rv,?_⟩
  rcases S.par y (Nr hp) with k | k
  .exact .inl ⟨k,a9p WM hp hu k⟩
  .obtain ⟨c,e⟩:=b1e (n:=s.heap.objs.size+1) k
   refine .inr ⟨.inl k,c,e,?_⟩
   have q:=x.cell y c e
   rw [a9r WM hp hu (by show scope.names.lookup y≠_;rw [k];decide)] at q
   exact q
 .exact e0.bE.fresh (FU (x.above y c (F3 h)))
 .unfold start
  show _=N.length
  rw [jv,cP,Ke]
  omega
theorem Yx{CX:ud}{P:Program}{w:World}{K:aJ}{mg:Str->Option Value}{base:Heap}{k:Nat}{f:Addr}{name qual:Str}{params:Arguments}{body:List Stmt}{scope:Scope}{dV kV doc pm fE ct oc:Value}{an od:Option Addr}
  {BC:Array (Option Value)}{N ps:List Str}{sp:Sp}(lk:K.lookup f=some ⟨oc,od,.func (nM name qual params body scope dV kV doc pm an fE ct),BC⟩)(cE:J' K fE qual=true)(S:cz N ps scope)
  (len:∀vs H Q E,sp vs H Q E->vs.length=ps.length)
  (cb:∀(A:Around) (outer:List Env) (s:Shared) (H:Hp) (vs:List V) (Q:VK) (E:XK),cF k (A.deeper (envOfC qual scope s.heap.objs.size f fE))->sp vs H Q E ->
   ∃t,pO (iX CX P w K mg base N qual scope f fE A outer s H E) body t/\t { nx:=λ_ H'=>Q .cD H',rt:=Q } (start N vs) H):
  cx P w K mg base CX (k+1) f (nM name qual params body scope dV kV doc pm an fE ct) ps sp:=by
 refine ⟨len,λA outer s H args us vs Q E hr e0 hb r AI=>?_⟩
 have hl:=len _ _ _ _ AI
 have KX:K.In s.heap:=e0.mod.zy.keeps λb o e=>(e0.bs b o e).1
 have lim:s.heap.NoLimit:=e0.mod.nolimit.keeps λb o e=>(e0.bs b o e).1
 have IW:∀y∈ps.zip us,scope.names.lookup y.1=some .local\/(scope.names.lookup y.1=some .cell/\((cellsFrom (s.heap.objs.size+1) scope.names []).lookup y.1).isSome=true):=λ⟨n,v⟩ hy=>by
  rcases S.par n (SW hy).1 with q | q
  .exact .inl q
  .exact .inr ⟨q,Ya _ _ _ (.inl q)⟩
 refine codeAny_call_function hr.depth (KX _ _ lk) rfl S.co S.gen rfl (PySem.W.codeRec_of KX cE) (hb _ _ _ _ ?_)
 refine wpAny_newFunctionEnv_cells S.kind IW λenv he s1 x=>?_
 subst he
 refine ⟨lim.keeps x.toInCall.keep,codeAny_func ?_⟩
 obtain ⟨t,ht,hq⟩:=cb A outer s H vs Q E (hr.deeper _) AI
 have I:Inv (iX CX P w K mg base N qual scope f fE A outer s H E) [] (start N vs) H s1:=b3n S hr.hd e0 hl r x
 refine lL (ht [] s1 (start N vs) H _ I hq) (λfl s' hs=>?_) λe s' hs=>hs
 have fin:∀{aK:St} {H':Hp} {v:V} {u:Value},Inv (iX CX P w K mg base N qual scope f fE A outer s H E) [] aK H' s'->RelV v u->Q v H'->CE outer P w H s Q u s':=
  λ{aK H' v u} J rv q=>⟨v,H',J.os,J.bare,J.base,J.bE,rv,q⟩
 cases fl with
 | ret u =>
  obtain ⟨v,aK,H',J,rv,q⟩:=hs
  exact fin J rv q
 | next =>
  obtain ⟨aK,H',J,q⟩:=hs
  exact fin (v:=V.cD) (u:=mi) J rfl q
 | brk =>
  obtain ⟨_,_,_,q⟩:=hs
  exact gC q
 | cont =>
  obtain ⟨_,_,_,q⟩:=hs
  exact gC q
end L2
namespace L2
open PySem PySem.Spec PyProof.Rows
section
variable {X:Cx}{x:Str}{p pos:Pos}{e:Expr}{es:List Expr}{t:TA}{id T:String}{r:List V->Hp->VK->Prop}
def Wv(r:List V->Hp->VK->Prop)(t:TA):TE:=λσ H Q=>t σ H λvs H1=>r vs H1 Q
theorem Dh(hc:de X (.builtin id) r)(hg:Gl X x)(hm:X.mg x=none)(hv:bootBuiltins x=some (.builtin id))(ha:PA X (e::es) t)(hn:x ≠ "__name__":=by decide)(hX:(x==("__debug__":Str))=false:=by decide)
  (he:starEach (e::es) X.env=(false,eval e X.env)::starEach es X.env:=by rfl)(gm:(backTo pos (starEach es X.env)).any (·.1)=false:=by rfl):PE X (.Call (.Name x p) (e::es) [] pos) (Wv r t):=by
 intro pins s σ H Q I h
 refine Kk (Gr I hg hm hv ?_ hn hX)
 exact PyProof.Rows.callWith_builtin1 (cn (ha pos pins s σ H _ I h) λus s1 ⟨vs,H1,I1,r1,q1⟩=>hc pins s1 σ H1 vs us Q I1 r1 q1) he gm
theorem Dg(hc:de X (.type T) r)(hg:Gl X x)(hm:X.mg x=none)(hv:bootBuiltins x=some (.type T))(ha:PA X (e::es) t)(hn:x ≠ "__name__":=by decide)(hX:(x==("__debug__":Str))=false:=by decide)
  (he:starEach (e::es) X.env=(false,eval e X.env)::starEach es X.env:=by rfl)(gm:(backTo pos (starEach es X.env)).any (·.1)=false:=by rfl):PE X (.Call (.Name x p) (e::es) [] pos) (Wv r t):=by
 intro pins s σ H Q I h
 refine Kk (Gr I hg hm hv ?_ hn hX)
 exact Nf (cn (ha pos pins s σ H _ I h) λus s1 ⟨vs,H1,I1,r1,q1⟩=>hc pins s1 σ H1 vs us Q I1 r1 q1) he gm
end
end L2
namespace HT
open PySem PyProof.Rows
section
open PySem.SeqAt
open PySem.AutoSeq1 (wpAny_loadPart')
open PySem.MeetsSeq PySem.MeetsSeq2 PySem.MeetsSeq3
end
section
variable {prog:Program}{w:World}{A:Around}{E:Value->Shared->Prop}{s:Shared}
theorem B2(ht:IsTup s.heap t vs.toArray)(hb:IsTup s.heap b ws.toArray)(hv:vs≠[])
  (h1:ws=[]->Q (.ref t) s)(h2:ws≠[]->Q (.ref s.heap.objs.size) { s with heap:=s.heap.push { cls:=.type "tuple",data:=.seq (vs++ws).toArray } })
  (hsz:vs.length+ws.length<=sizeLine):wpAny (model prog w) A (binaryOp .Add (.ref t) (.ref b)) Q E s:=by
 obtain ⟨⟨cls,dd,data,sl⟩,ho,hc,n,hd⟩:=id ht
 obtain ⟨⟨RP,ME,data2,Hz⟩,DZ,BO,n2,hd2⟩:=id hb
 simp only at hc hd BO hd2
 subst hc hd BO hd2
 have e:vs.toArray++ws.toArray=(vs++ws).toArray:=by simp
 by_cases hw:ws=[]
 .exact concat_meets ⟨_,ho,rfl⟩ ⟨_,DZ,rfl⟩ SR RS SY S4 (S7 _ _)
   (tuple_addW1 t b vs.toArray ws.toArray n n2 dd ME sl Hz (by simpa using hv) (by simp [hw])) ⟨ho,DZ,h1 hw⟩
 .refine concat_meets ⟨_,ho,rfl⟩ ⟨_,DZ,rfl⟩ SR RS SY S4 (S7 _ _)
   (tuple_addW2 t b vs.toArray ws.toArray n n2 dd ME sl Hz (by simpa using hv) (by simpa using hw) (by rw [gZ,gZ];exact hsz)) ⟨ho,DZ,?_⟩
  rw [e]
  exact h2 hw
def df(n d:Nat):Option Int->Nat
 | none=>d
 | some v=>if v<0 then (v+(n:Int)).toNat else min v.toNat n
theorem zb(n d:Nat):df n d none=d:=rfl
theorem Bx(n d k:Nat):df n d (some (k:Int))=min k n:=by
 show (if (k:Int)<0 then ((k:Int)+(n:Int)).toNat else min (k:Int).toNat n)=min k n
 rw [if_neg (by omega),FY]
theorem b9C(n d:Nat)(hd:d<=n)(o:Option Int):df n d o<=n:=by
 cases o with
 | none=>exact hd
 | some v =>
  show (if v<0 then (v+(n:Int)).toNat else min v.toNat n)<=n
  by_cases hv:v<0
  .rw [if_pos hv];omega
  .rw [if_neg hv];exact Nat.min_le_right _ _
theorem ZH(v:Int)(n d:Nat):(if v<0 then max (v+(n:Int)) 0 else min v (n:Int))=((df n d (some v):Nat):Int):=by
 show (if v<0 then max (v+(n:Int)) 0 else min v (n:Int))=(((if v<0 then (v+(n:Int)).toNat else min v.toNat n):Nat):Int)
 by_cases hv:v<0
 .simp only [if_pos hv];omega
 .simp only [if_neg hv];omega
theorem b12(lo hi:Option Int)(n:Nat):Ti lo hi 1 (n:Int)=(((df n 0 lo:Nat):Int),((df n n hi:Nat):Int)):=by
 have h1:¬((1:Int)<0):=by omega
 unfold Ti
 simp only [h1,if_false]
 refine Prod.ext ?_ ?_
 .cases lo with
  | none=>rfl
  | some v=>exact ZH v n 0
 .cases hi with
  | none=>rfl
  | some v=>exact ZH v n n
theorem b1u(i j:Nat):Nc (i:Int) (j:Int) 1=j-i:=by
 unfold Nc
 have h1:(1:Int)>0:=by omega
 simp only [h1,if_true,Int.ediv_one]
 split<;>omega
theorem a7p(p:IsPart v o)(h:Q o s):wpAny (model prog w) A (Builtin.Slice.slicePartIndex v) Q E s:=by
 cases p with
 | none=>exact slicePart_none h
 | int i t=>exact slicePart_int h
theorem a5U{lo hi:Option Int}{n:Nat}(hs:s.heap.IsSliceOf sl vl vu .none)(pl:IsPart vl lo)(pu:IsPart vu hi)
  (h:Q (((df n 0 lo:Nat):Int),1,df n n hi-df n 0 lo) s):wpAny (model prog w) A (X4 (.ref sl) (pure (n:Int))) Q E s:=by
 obtain ⟨os,DX,W9,Mt⟩:=id hs
 unfold X4 Builtin.Slice.sliceFields
 refine aI (aI (wpAny_field DX Mt (x:=vl) rfl (aI (wpAny_field DX Mt (x:=vu) rfl (aI (wpAny_field DX Mt (x:=.none) rfl (b9 ?_)))))))
 refine aI (slicePart_none ?_)
 show wpAny _ _ (if ((1:Int)==0)=true then _ else _) _ _ s
 rw [if_neg (by decide)]
 refine aI (a7p pl (aI (a7p pu (aI (b9 ?_)))))
 show wpAny _ _ (match Ti lo hi 1 (n:Int) with | (lo,hi)=>pure (lo,(1:Int),Nc lo hi 1)) _ _ s
 rw [b12 lo hi n]
 show wpAny _ _ (pure (((df n 0 lo:Nat):Int),(1:Int),Nc ((df n 0 lo:Nat):Int) ((df n n hi:Nat):Int) 1)) _ _ s
 rw [b1u]
 exact b9 h
theorem b4A(xs:Array Value)(i k:Nat):((jB k).filterMap λ(m:Nat)=>xs[((i:Int)+(m:Int)*1).toNat]?).toArray=((xs.toList.drop i).take k).toArray:=by
 have e:(λ(m:Nat)=>xs[((i:Int)+(m:Int)*1).toNat]?)=λm=>xs[i+m]?:=by
  funext m
  have:((i:Int)+(m:Int)*1).toNat=i+m:=by omega
  rw [this]
 rw [e]
 have:=pick_run xs i k
 rw [List.filterMap_map] at this
 have e2:((λx=>xs[x]?)∘λx=>i+x)=λm=>xs[i+m]?:=rfl
 rw [e2] at this
 rw [this]
theorem kH{items:Array Value}{lo hi:Option Int}(ht:IsTup s.heap t items)(hs:s.heap.IsSliceOf sl vl vu .none)(pl:IsPart vl lo)(pu:IsPart vu hi)
  (hw:¬(df items.size 0 lo=0/\df items.size items.size hi=items.size))
  (h:Q (.ref s.heap.objs.size) { s with heap:=s.heap.push { cls:=.type "tuple",data:=.seq ((items.toList.drop (df items.size 0 lo)).take (df items.size items.size hi-df items.size 0 lo)).toArray } })
  (hsz:items.size<=sizeLine):wpAny (model prog w) A (getItem (.ref t) (.ref sl)) Q E s:=by
 have tu:sizeOk (.seq ((items.toList.drop (df items.size 0 lo)).take (df items.size items.size hi-df items.size 0 lo)).toArray):=by
  show ((items.toList.drop (df items.size 0 lo)).take (df items.size items.size hi-df items.size 0 lo)).toArray.size<=sizeLine
  rw [gZ,JZ,SQ,tW]
  omega
 have hj:df items.size items.size hi<=items.size:=b9C _ _ (cT _) hi
 obtain ⟨os,DX,W9,Mt⟩:=id hs
 have Jl:s.TypeIs (.ref sl) "slice":=⟨os,DX,W9⟩
 unfold getItem
 try with_reducible refine rV ?_
 first | refine aI (b9 ?_) | skip
 refine aI (wpAny_sequenceKey ht.typeIs (by decide) ?_)
 refine aI (Nq (name:=yw "__getitem__") ht.typeIs Nu
  (Eu Nu ht.typeIs entry_tuple_getitem ?_ (args_tuple_getitem _ _)))
 show wpAny _ _ (Builtin.Tuple.tupleItemsOf (.ref t) >>= _) _ _ s
 refine aI (tupleItemsOf_ ht ?_)
 refine aI (JR Jl ?_)
 rw [if_pos (by decide)]
 refine aI (a5U hs pl pu ?_)
 have tz:¬((((df items.size 0 lo:Nat):Int)==0&&(1:Int)==1&&(df items.size items.size hi-df items.size 0 lo)==items.size)=true):=by
  intro q
  rw [tV,tV] at q
  have q1:((df items.size 0 lo:Nat):Int)=0:=eq_of_beq q.1.1
  have q2:df items.size items.size hi-df items.size 0 lo=items.size:=eq_of_beq q.2
  exact hw ⟨by omega,by omega⟩
 show wpAny _ _ (if (((df items.size 0 lo:Nat):Int)==0&&(1:Int)==1&&(df items.size items.size hi-df items.size 0 lo)==items.size)=true then _ else _) _ _ s
 rw [if_neg tz,b4A]
 first
  | exact aI (m:=Na _) (A8 (b9 ⟨_,rfl,b9 h⟩) tu)
  | exact aI (m:=Na _) (A8 (aI (b9 (b9 ⟨_,rfl,b9 h⟩))) tu)
  | exact aI (aI (m:=Na _) (A8 (b9 (b9 ⟨_,rfl,b9 h⟩)) tu))
  | exact aI (aI (m:=Na _) (A8 (b9 ⟨_,rfl,b9 h⟩) tu))
end
end HT
namespace L2
open PySem PySem.Spec PyProof.Rows
abbrev TO:=St->Hp->(Option Int->Hp->Prop)->Prop
def PO(X:Cx)(e:Option Expr)(t:TO):Prop:=
 ∀(pins:List (Addr×Obj)) (s:Shared) (σ:St) (H:Hp) (Q:Option Int->Hp->Prop),Inv X pins σ H s->t σ H Q ->
  wpAny (model X.prog X.w) X.A (evalPart e X.env) (λu s'=>∃o H',Inv X pins σ H' s'/\IsPart u o/\Q o H') X.xe s
def b6U:TO:=λ_ H Q=>Q none H
def Hj(t:TE):TO:=λσ H Q=>t σ H λx H1=>∃i,x=.int i/\Q (some i) H1
section
variable {X:Cx}{e:Expr}{te:TE}{lo hi:Option Expr}{tl th:TO}{pos p2:Pos}
theorem b7f:PO X none b6U:=by
 intro pins s σ H Q I h
 rw [evalPart_none]
 exact b9 ⟨none,H,I,.none,h⟩
theorem b7e(h:PE X e te):PO X (some e) (Hj te):=by
 intro pins s σ H Q I hw
 rw [evalPart_some]
 refine cn (h pins s σ H _ I hw) λu s1 ⟨x,H1,I1,r1,q1⟩=>?_
 obtain ⟨i,rfl,q⟩:=q1
 obtain ⟨t,rfl⟩:=r1
 exact ⟨some i,H1,I1,.int i t,q⟩
def Dp(X:Cx)(r:V->Option Int->Option Int->Hp->VK->Prop):Prop:=
 ∀(pins:List (Addr×Obj)) (s:Shared) (σ:St) (H:Hp) (x:V) (v vl vu:Value) (lo hi:Option Int) (sl:Addr) (Q:VK),Inv X pins σ H s->RelV x v->s.heap.IsSliceOf sl vl vu .none->IsPart vl lo->IsPart vu hi->r x lo hi H Q ->
  ∃T id,typeLookup (.type T) "__getitem__" = pure (some (.builtin id))/\s.TypeIs v T/\wpAny (model X.prog X.w) X.A (getItem v (.ref sl)) (EP X pins σ Q) X.xe s
theorem Dp.or(h:Dp X r)(h':Dp X r'):Dp X (λx lo hi H Q=>r x lo hi H Q\/r' x lo hi H Q):=by
 intro pins s σ H x v vl vu lo hi sl Q I rx hs pl pu q
 rcases q with q | q
 .exact h pins s σ H x v vl vu lo hi sl Q I rx hs pl pu q
 .exact h' pins s σ H x v vl vu lo hi sl Q I rx hs pl pu q
def tSl(r:V->Option Int->Option Int->Hp->VK->Prop)(te:TE)(tl th:TO):TE:=λσ H Q=>te σ H λx H1=>tl σ H1 λl H2=>th σ H2 λu H3=>r x l u H3 Q
theorem b0R(hr:Dp X r)(he:PE X e te)(hl:PO X lo tl)(hu:PO X hi th):PE X (.Subscript e (.Slice lo hi none p2) pos) (tSl r te tl th):=by
 intro pins s σ H Q I h
 refine Subscript_ (cn (he pins s σ H _ I h) λv s1 ⟨x,H1,I1,r1,q1⟩=>?_)
 refine wpAny_Slice (cn (hl pins s1 σ H1 _ I1 q1) λvl s2 ⟨l,H2,I2,pl,q2⟩=>cn (hu pins s2 σ H2 _ I2 q2) λvu s3 ⟨u,H3,I3,pu,q3⟩=>?_)
 rw [evalPart_none]
 refine b9 ?_
 have I4:Inv X pins σ H3 { s3 with heap:=s3.heap.push { cls:=.type "slice",data:=.fields #[vl,vu,.none] } }:=I3.kept (t':=s3.toks) λb ob q=>ft _ q
 obtain ⟨T,id,hT,ht,hg⟩:=hr pins { s3 with heap:=s3.heap.push { cls:=.type "slice",data:=.fields #[vl,vu,.none] } } σ H3 x v vl vu l u s3.heap.objs.size Q I4 r1 (Heap.IsSliceOf.new ..) pl pu q3
 show wpAny (model X.prog X.w) X.A (subscriptTail e (.Slice lo hi none p2) v (.ref s3.heap.objs.size)) (EP X pins σ Q) X.xe { s3 with heap:=s3.heap.push { cls:=.type "slice",data:=.fields #[vl,vu,.none] } }
 exact tail_any (ops:=[.ref s3.heap.objs.size,v]) ht hT hg (by with_unfolding_all rfl)
def qj(xs:List V)(lo hi:Option Int):List V:=(xs.drop (HT.df xs.length 0 lo)).take (HT.df xs.length xs.length hi-HT.df xs.length 0 lo)
theorem a6T(xs:List V)(lo hi:Option Int):(qj xs lo hi).length<=xs.length:=by
 unfold qj
 rw [JZ,SQ]
 omega
def Qk(K:aJ):V->Option Int->Option Int->Hp->VK->Prop:=λx lo hi H Q=>∃a xs,x=.ref a/\jP K H a xs /\
 ¬(HT.df xs.length 0 lo=0/\HT.df xs.length xs.length hi=xs.length)/\∀p,H p=none->Q (.ref p) (upd H p (.tup (qj xs lo hi)))
theorem b9A:Dp X (Qk X.K):=by
 intro pins s σ H x v vl vu lo hi sl Q I rx hs pl pu h
 obtain ⟨a,xs,rfl,hx,hw,q⟩:=h
 cases rx
 obtain ⟨aB,r,ht,hz⟩:=I.tuple hx
 have hlen:aB.toArray.size=xs.length:=by rw [gZ];exact r.length.symm
 refine ⟨"tuple",_,Nu.lookup,ht.typeIs,?_⟩
 refine HT.kH ht hs pl pu (by rw [hlen];exact hw) ?_ (by rw [hlen];exact hz)
 rw [hlen]
 refine ⟨.ref s.heap.objs.size,_,I.laid (t':=s.toks) (o:=.tup (qj xs lo hi)) (λb ob q=>ft _ q) (cT _) ?_,rfl,q _ (I.bE.fresh (cT _))⟩
 exact ⟨iZ (a6T xs lo hi) hz,_,(r.drop (HT.df xs.length 0 lo)).take (HT.df xs.length xs.length hi-HT.df xs.length 0 lo),IsTup.new _ _⟩
def HP(K:aJ):R2:=λx y H Q=>∃a b xs ys,x=.ref a/\y=.ref b/\jP K H a xs/\jP K H b ys/\xs≠[]/\xs.length+ys.length<=sizeLine /\
 (ys=[]->Q (.ref a) H)/\(ys≠[]->∀p,H p=none->Q (.ref p) (upd H p (.tup (xs++ys))))
theorem aF.jx(r:aF xs us):us=[]↔xs=[]:=by
 cases r with
 | nil=>simp
 | cons _ _=>simp
theorem BD:ml X (binaryOp .Add) (HP X.K):=by
 intro pins s σ H x y v u Q I rx ry h
 obtain ⟨a,b,xs,ys,rfl,rfl,ha,hb,hx,hz,q1,q2⟩:=h
 cases rx
 cases ry
 obtain ⟨aB,r1,p1,_⟩:=I.tuple ha
 obtain ⟨gk,r2,p2,_⟩:=I.tuple hb
 refine HT.B2 p1 p2 (λz=>hx (r1.jx.mp z)) (λz=>⟨.ref a,H,I,rfl,q1 (r2.jx.mp z)⟩) (λz=>?_) (by rw [<-r1.length,<-r2.length];exact hz)
 refine ⟨.ref s.heap.objs.size,_,I.laid (t':=s.toks) (o:=.tup (xs++ys)) (λb ob q=>ft _ q) (cT _) ?_,rfl,q2 (λw=>z (r2.jx.mpr w)) _ (I.bE.fresh (cT _))⟩
 exact ⟨by rw [jv];exact hz,_,r1.append r2,IsTup.new _ _⟩
end
end L2
namespace L2
open PySem PySem.Spec PyProof.Rows
def mJ(n:Nat)(i:Int):Option Nat:=if 0<=i then (if i<n then some i.toNat else none) else if -(n:Int)<=i then some (i+n).toNat else none
def gf{α:Type}(xs:List α)(i:Int):Option α:=(mJ xs.length i).bind λj=>xs[j]?
theorem ZF(h:mJ n i=some j):seqIndex? i n=some j/\j<n /\ -(n:Int)<=i/\i<n:=by
 unfold mJ at h
 by_cases h0:0<=i
 .rw [if_pos h0] at h
  by_cases h1:i<n
  .rw [if_pos h1] at h
   have e:i.toNat=j:=gY h
   exact ⟨by rw [seqIndex_of h0 h1,e],by omega,by omega,h1⟩
  .rw [if_neg h1] at h;cases h
 .rw [if_neg h0] at h
  by_cases h1:-(n:Int)<=i
  .rw [if_pos h1] at h
   have e:(i+n).toNat=j:=gY h
   exact ⟨by rw [seqIndex_neg (by omega) h1,e],by omega,h1,by omega⟩
  .rw [if_neg h1] at h;cases h
theorem T'{α:Type}{xs:List α}{i:Int}{v:α}(h:gf xs i=some v):∃j,seqIndex? i xs.length=some j/\xs[j]?=some v/\j<xs.length /\ -(xs.length:Int)<=i/\i<xs.length:=by
 unfold gf at h
 cases e:mJ xs.length i with
 | none=>rw [e] at h;cases h
 | some j =>
  rw [e] at h
  obtain ⟨h1,h2,h3,h4⟩:=ZF e
  exact ⟨j,h1,h,h2,h3,h4⟩
theorem jC{α:Type}{xs:List α}{j:Nat}{v:α}(h:xs[j]?=some v):gf xs (j:Int)=some v:=by
 have hj:j<xs.length:=(ni.mp h).1
 have e:mJ xs.length (j:Int)=some j:=by
  unfold mJ
  rw [if_pos (by omega),if_pos (by omega)];simp
 unfold gf;rw [e];exact h
theorem b5w{α:Type}(xs:List α)(v:α):gf (xs++[v]) (-1)=some v:=by
 have hl:(xs++[v]).length=xs.length+1:=by simp
 have e:mJ (xs++[v]).length (-1)=some xs.length:=by
  unfold mJ
  rw [hl,if_neg (by decide),if_pos (by omega)]
  congr 1
  omega
 unfold gf
 rw [e]
 show (xs++[v])[xs.length]?=some v
 simp
def Ui(b:Expr):Prop:=∀o i,subscripted b false o i=operate [o,i] (getItem o i)
def Cv(X:Cx)(r:R2):Prop:=
 ∀(value slice:Expr) (pins:List (Addr×Obj)) (s:Shared) (σ:St) (H:Hp) (x y:V) (v u:Value) (Q:VK),Inv X pins σ H s->RelV x v->RelV y u->r x y H Q ->
  subscripted slice false v u=operate [v,u] (getItem v u)->wpAny (model X.prog X.w) X.A (subscriptTail value slice v u) (EP X pins σ Q) X.xe s
def E8(X:Cx)(id:String)(r:V->List V->Hp->VK->Prop):Prop:=
 ∀(pins:List (Addr×Obj)) (s:Shared) (σ:St) (H:Hp) (x:V) (xs:List V) (v:Value) (us:List Value) (Q:VK),Inv X pins σ H s->RelV x v->aF xs us->r x xs H Q ->
  wpAny (model X.prog X.w) X.A (call (.builtin id) (v::us)) (EP X pins σ Q) X.xe s
section
variable {X:Cx}{a b:Expr}{ta tb:TE}{pos:Pos}
theorem Cv.or(h:Cv X r)(h':Cv X r'):Cv X (λx y H Q=>r x y H Q\/r' x y H Q):=by
 intro value slice pins s σ H x y v u Q I rx ry q hs
 rcases q with q | q
 .exact h value slice pins s σ H x y v u Q I rx ry q hs
 .exact h' value slice pins s σ H x y v u Q I rx ry q hs
theorem E8.or{id:String}{r r':V->List V->Hp->VK->Prop}(h:E8 X id r)(h':E8 X id r'):E8 X id (λx xs H Q=>r x xs H Q\/r' x xs H Q):=by
 intro pins s σ H x xs v us Q I rx rs q
 rcases q with q | q
 .exact h pins s σ H x xs v us Q I rx rs q
 .exact h' pins s σ H x xs v us Q I rx rs q
theorem YG(hr:Cv X r)(ha:PE X a ta)(hb:PE X b tb)(hs:Ui b):PE X (.Subscript a b pos) (Hk r ta tb):=by
 intro pins s σ H Q I h
 exact Subscript_ (EF ha hb I h λv u s2 x y H2 I2 rx ry q=>hr a b pins s2 σ H2 x y v u Q I2 rx ry q (hs _ _))
def HN(K:aJ):R2:=λx y H Q=>∃p xs i v,x=.ref p/\y=.int i/\iI K H p xs/\gf xs i=some v/\Q v H
def HL(K:aJ):R2:=λx y H Q=>∃p xs i v,x=.ref p/\y=.int i/\jP K H p xs/\gf xs i=some v/\Q v H
def HM:R2:=λx y H Q=>∃z i c,x=.str z/\y=.int i/\z.length<=sizeLine/\gf z.cps.toList i=some c/\Q (.str ⟨#[c]⟩) H
theorem BH:Cv X (HN X.K):=by
 intro value slice pins s σ H x y v u Q I rx ry h hs
 obtain ⟨p,xs,i,z,rfl,rfl,hq,he,q⟩:=h
 cases rx
 obtain ⟨t,rfl⟩:=ry
 obtain ⟨aB,r,pl,hz⟩:=I.list hq
 obtain ⟨j,h1,h2,h3,h4,h5⟩:=T' he
 obtain ⟨w,ew,Bz⟩:=r.get h2
 have hl:=r.length
 have hn:=EO
 have fin:EP X pins σ Q w s:=⟨z,H,I,Bz,q⟩
 by_cases h0:0<=i
 .have hj:i.toNat=j:=by
   rw [seqIndex_of h0 h5] at h1
   exact gY h1
  exact item_listR pl.isList h0 (by omega) (by rw [hj];simpa using ew) fin hs
 .have hj:(i+(aB.toArray.size:Int)).toNat=j:=by
   rw [seqIndex_neg (by omega) h4] at h1
   rw [gZ,<-hl]
   exact gY h1
  exact subscriptTail_builtinR (x:=w) pl.isList.typeIs slot_list_getitem.lookup
   (wpAny_getItem_list_neg (Q:=λr s'=>r=w/\EP X pins σ Q r s') pl.isList (by omega) (by rw [gZ]<;>omega) (by omega) (by rw [hj];simpa using ew) ⟨rfl,fin⟩) hs
theorem DS:Cv X (HL X.K):=by
 intro value slice pins s σ H x y v u Q I rx ry h hs
 obtain ⟨p,xs,i,z,rfl,rfl,hq,he,q⟩:=h
 cases rx
 obtain ⟨t,rfl⟩:=ry
 obtain ⟨aB,r,pl,hz⟩:=I.tuple hq
 obtain ⟨j,h1,h2,h3,h4,h5⟩:=T' he
 obtain ⟨w,ew,Bz⟩:=r.get h2
 have hl:=r.length
 have hn:=EO
 have fin:EP X pins σ Q w s:=⟨z,H,I,Bz,q⟩
 exact subscriptTail_builtinR (x:=w) pl.typeIs Nu.lookup
  (getItem_tuple (j:=j) (Q:=λr s'=>r=w/\EP X pins σ Q r s') pl (by omega) (by omega) (by rw [gZ,<-hl];exact h1) (by simpa using ew) ⟨rfl,fin⟩) hs
theorem Y2:Cv X HM:=by
 intro value slice pins s σ H x y v u Q I rx ry h hs
 obtain ⟨z,i,c,rfl,rfl,hz,he,q⟩:=h
 obtain ⟨t,rfl⟩:=rx
 obtain ⟨t',rfl⟩:=ry
 obtain ⟨j,h1,h2,h3,h4,h5⟩:=T' he
 have hl:z.cps.toList.length=z.length:=by simp [Str.length]
 rw [hl] at h1 h4 h5
 have hn:=EO
 exact tail_any (MG s z t) slot_str_getitem.lookup (getItem_str (c:=c) (by
  have e1:decide (i < -(2^63:Int))=false:=decide_eq_false (by omega)
  have e2:decide (i≥2^63)=false:=decide_eq_false (by omega)
  rw [e1,e2,Bool.or_false]) (by rw [h1];simpa using h2) ⟨.str ⟨#[c]⟩,H,I.tok _,⟨_,rfl⟩,q⟩) hs
def rIx(K:aJ):R2:=λx y H Q=>HN K x y H Q\/HL K x y H Q\/HM x y H Q
theorem c0o:Cv X (rIx X.K):=BH.or (DS.or Y2)
theorem b1M(aB:List Value)(n j:Nat)(u:Value):rW (·.setIfInBounds j u) { cls:=.type "list",data:=.seq aB.toArray n }={ cls:=.type "list",data:=.seq (aB.set j u).toArray n }:=by
 simp [rW]
theorem Inv.lst{pins:List (Addr×Obj)}{σ:St}{H:Hp}{s:Shared}{p:Addr}{xs:List V}(I:Inv X pins σ H s)(h:H p=some (.lst xs)):
  ∃(aB:List Value) (n:Nat),aF xs aB/\s.heap.get? p=some { cls:=.type "list",data:=.seq aB.toArray n }/\xs.length<=sizeLine:=by
 obtain ⟨z,aB,n,r,e⟩:=I.bE p _ h
 exact ⟨aB,n,r,e,z⟩
theorem Inv.DR{pins:List (Addr×Obj)}{σ:St}{H:Hp}{s:Shared}{p:Addr}{xs ys:List V}{aB its':List Value}{n n':Nat}{f:Obj->Obj}(I:Inv X pins σ H s)(h:H p=some (.lst xs))
  (ho:s.heap.get? p=some { cls:=.type "list",data:=.seq aB.toArray n })(hf:f { cls:=.type "list",data:=.seq aB.toArray n }={ cls:=.type "list",data:=.seq its'.toArray n' })(r:aF ys its')(hz:ys.length<=sizeLine)(t:Nat):
  Inv X pins σ (upd H p (.lst ys)) { s with heap:=s.heap.update p f,toks:=t }:=by
 have e:(s.heap.update p f).get? p=some { cls:=.type "list",data:=.seq its'.toArray n' }:=by
  rw [Nl f ho (by rw [hf]<;>rfl),hf]
 refine I.write (x:=p) (e:=p) (by rw [h];trivial) (.inl rfl) (λb u hb q=>(Kf _ _ (l5 hb)).trans q) ⟨_,e⟩ ?_
 exact ⟨hz,its',n',r,e⟩
def HK:V->V->V->Hp->(Hp->Prop)->Prop:=λo i v H Q=>∃p xs k j,o=.ref p/\i=.int k/\H p=some (.lst xs)/\mJ xs.length k=some j/\Q (upd H p (.lst (xs.set j v)))
theorem b4p:LI X HK:=by
 intro pins s σ H o i v ov iv u Q I ro ri rv h
 obtain ⟨p,xs,k,j,rfl,rfl,hp,hj,q⟩:=h
 cases ro
 obtain ⟨t,rfl⟩:=ri
 obtain ⟨aB,n,r,ho,hz⟩:=I.lst hp
 obtain ⟨h1,h2,h3,h4⟩:=ZF hj
 have hl:=r.length
 have hn:=EO
 have I':Inv X pins σ (upd H p (.lst (xs.set j v))) { s with heap:=s.heap.update p (rW (·.setIfInBounds j u)) }:=
  I.DR hp ho (b1M aB n j u) (r.set rv j) (by rw [M9];exact hz) s.toks
 by_cases h0:0<=k
 .have hk:k.toNat=j:=by
   rw [seqIndex_of h0 h4] at h1
   exact gY h1
  exact PySem.W.ki_setAt ho h0 (by omega) (by rw [gZ,<-hl];exact h4) (by rw [hk];exact ⟨_,I',q⟩)
 .have hk:(k+(aB.toArray.size:Int)).toNat=j:=by
   rw [seqIndex_neg (by omega) h3] at h1
   rw [gZ,<-hl]
   exact gY h1
  exact PySem.W.ki_setBack ho (by omega) (by rw [gZ,<-hl];exact h3) (by omega) (by rw [hk];exact ⟨_,I',q⟩)
theorem a8C(lo hi:Option Int)(n:Nat):(sliceBounds lo hi none n).1=((HT.df n 0 lo:Nat):Int)/\(sliceBounds lo hi none n).2.1=((HT.df n n hi:Nat):Int)/\(sliceBounds lo hi none n).2.2=1:=by
 refine ⟨?_,?_,rfl⟩
 .cases lo with
  | none=>simp [sliceBounds,HT.df]
  | some i =>
   simp only [sliceBounds,HT.df,SO,show (1:Int)>0 by decide,if_true]
   by_cases h:i<0
   .simp only [h,if_true]<;>omega
   .simp only [h,if_false]<;>omega
 .cases hi with
  | none=>simp [sliceBounds,HT.df]
  | some i =>
   simp only [sliceBounds,HT.df,SO,show (1:Int)>0 by decide,if_true]
   by_cases h:i<0
   .simp only [h,if_true]<;>omega
   .simp only [h,if_false]<;>omega
theorem a7I(aB:List Value)(lo hi:Option Int):slicePick aB.toArray lo hi none=((aB.drop (HT.df aB.length 0 lo)).take (HT.df aB.length aB.length hi-HT.df aB.length 0 lo)).toArray:=by
 obtain ⟨h1,h2,h3⟩:=a8C lo hi aB.toArray.size
 unfold slicePick
 rw [h1,h2,h3]
 simp only [sliceRange_one,pick_run,gZ]<;>rfl
def Ql(K:aJ):V->Option Int->Option Int->Hp->VK->Prop:=λx lo hi H Q=>∃a xs,x=.ref a/\iI K H a xs/\∀p,H p=none->Q (.ref p) (upd H p (.lst (qj xs lo hi)))
theorem Bw:Dp X (Ql X.K):=by
 intro pins s σ H x v vl vu lo hi sl Q I rx hs pl pu h
 obtain ⟨a,xs,rfl,hx,q⟩:=h
 cases rx
 obtain ⟨aB,r,ht,hz⟩:=I.list hx
 have hlen:=r.length
 refine ⟨"list",_,slot_list_getitem.lookup,ht.isList.typeIs,?_⟩
 refine wpAny_getItem_list_slice ht.isList hs pl pu .none (by simp) ?_ (by rw [gZ]<;>omega)
 rw [a7I,<-hlen]
 refine ⟨.ref s.heap.objs.size,_,I.laid (t':=s.toks) (o:=.lst (qj xs lo hi)) (λb ob q=>ft _ q) (cT _) ?_,rfl,q _ (I.bE.fresh (cT _))⟩
 exact ⟨iZ (a6T xs lo hi) hz,_,0,(r.drop (HT.df xs.length 0 lo)).take (HT.df xs.length xs.length hi-HT.df xs.length 0 lo),j' _ rfl⟩
theorem a9m:de X (.builtin "len") (λxs H Q=>∃p ys,xs=[.ref p]/\(iI X.K H p ys\/jP X.K H p ys)/\Q (.int ys.length) H):=by
 intro pins s σ H xs us Q I r h
 obtain ⟨p,ys,rfl,hq,q⟩:=h
 obtain ⟨u,rfl,rx⟩:=vals1 r
 cases rx
 have hn:=EO
 rcases hq with hq | hq
 .obtain ⟨aB,r',pl,hz⟩:=I.list hq
  have hlen:=r'.length
  exact Calls.call_len_list pl.isList (by simp only [gZ]<;>omega) ⟨.int ys.length,H,I.tok _,⟨s.toks+1,by rw [gZ,hlen]⟩,q⟩
 .obtain ⟨aB,r',pl,hz⟩:=I.tuple hq
  have hlen:=r'.length
  exact len_tuple pl (by simp only [gZ]<;>omega) ⟨.int ys.length,H,I.tok _,⟨s.toks+1,by rw [gZ,hlen]⟩,q⟩
theorem a9l:de X (.builtin "len") (λxs H Q=>∃z,xs=[.str z]/\z.length<=sizeLine/\Q (.int z.length) H):=by
 intro pins s σ H xs us Q I r h
 obtain ⟨z,rfl,hz,q⟩:=h
 obtain ⟨u,rfl,t,rfl⟩:=vals1 r
 have hn:=EO
 exact len_str (by omega) ⟨.int z.length,H,I.tok _,⟨_,rfl⟩,q⟩
theorem de.or{f:Value}{r r':List V->Hp->VK->Prop}(h:de X f r)(h':de X f r'):de X f (λxs H Q=>r xs H Q\/r' xs H Q):=by
 intro pins s σ H xs us Q I rs q
 rcases q with q | q
 .exact h pins s σ H xs us Q I rs q
 .exact h' pins s σ H xs us Q I rs q
theorem a9k:de X (.type "list") (λxs H Q=>∃p ys,xs=[.ref p]/\(iI X.K H p ys\/jP X.K H p ys)/\∀l,H l=none->Q (.ref l) (upd H l (.lst ys))):=by
 intro pins s σ H xs us Q I r h
 obtain ⟨p,ys,rfl,hq,q⟩:=h
 obtain ⟨u,rfl,rx⟩:=vals1 r
 cases rx
 have fin:∀(aB:List Value),aF ys aB->ys.length<=sizeLine->∀(h':Heap) (c':Nat),(∀b o',s.heap.get? b=some o'->h'.get? b=some o') ->
   h'.get? s.heap.objs.size=some { cls:=.type "list",dict:=none,data:=.seq aB.toArray c',slots:=#[] }->EP X pins σ Q (.ref s.heap.objs.size) { s with heap:=h' }:=λaB r' hz h' c' kp e =>
  ⟨.ref s.heap.objs.size,_,I.laid (t':=s.toks) kp (cT _) (show cM X.prog X.w _ h' _ (.lst ys) from ⟨hz,aB,c',r',e⟩),rfl,q _ (I.bE.fresh (cT _))⟩
 rcases hq with hq | hq
 .obtain ⟨aB,r',pl,hz⟩:=I.list hq
  have hlen:=r'.length
  obtain ⟨o,ho,hc,n,hd⟩:=pl.isList
  exact call_list_seq p (.inl rfl) ho hc hd (λh' c' kp e=>fin aB r' hz h' c' kp e) (by simp only [gZ]<;>omega)
 .obtain ⟨aB,r',pl,hz⟩:=I.tuple hq
  have hlen:=r'.length
  obtain ⟨o,ho,hc,n,hd⟩:=pl
  exact call_list_seq p (.inr rfl) ho hc hd (λh' c' kp e=>fin aB r' hz h' c' kp e) (by simp only [gZ]<;>omega)
def PM(K:aJ)(T:String)(x:V)(H:Hp):Prop:=match x with
 | .str _=>T = "str"
 | .int _=>T = "int"
 | .ref p=>(T = "list" /\ ∃xs,iI K H p xs)\/(T = "tuple" /\ ∃o,K.lookup p=some o/\o.cls=.type "tuple" /\ o.dict=none) \/
   (T = "dict" /\ ((∃aD,H p=some (.dK aD))\/∃aD,H p=some (.dT aD)))\/(T = "set" /\ ∃S n,H p=some (.set S n))
 | _=>False
theorem Zn{pins:List (Addr×Obj)}{σ:St}{H:Hp}{s:Shared}{T:String}{x:V}{v:Value}(I:Inv X pins σ H s)(r:RelV x v)(ty:PM X.K T x H):
  s.TypeIs v T/\∀a,v=.ref a->∃ob,s.heap.get? a=some ob/\ob.dict=none:=by
 cases x with
 | str z =>
  obtain ⟨t,rfl⟩:=r
  cases (show T = "str" from ty)
  exact ⟨MG s z t,λ_ e=>nomatch e⟩
 | int i =>
  obtain ⟨t,rfl⟩:=r
  cases (show T = "int" from ty)
  exact ⟨typeIs_int s i t,λ_ e=>nomatch e⟩
 | ref p =>
  cases r
  rcases ty with ⟨rfl,xs,hq⟩ | ⟨rfl,o,hk,hc,hd⟩ | ⟨rfl,hk⟩ | ⟨rfl,S,n,hk⟩
  .obtain ⟨aB,_,pl,_⟩:=I.list hq
   refine ⟨pl.isList.typeIs,λa e=>?_⟩
   cases e
   obtain ⟨o,n,e,c,hd,_⟩:=pl
   exact ⟨o,e,hd⟩
  .refine ⟨⟨o,I.mf p o hk,hc⟩,λa e=>?_⟩
   cases e
   exact ⟨o,I.mf _ o hk,hd⟩
  .have z:∃o,s.heap.get? p=some o/\o.ExactDict:=by
    rcases hk with ⟨aD,hk⟩ | ⟨aD,hk⟩
    .obtain ⟨_,_,_,_,o,_,_,e,ex,_⟩:=I.bE p _ hk
     exact ⟨o,e,ex⟩
    .obtain ⟨_,_,_,_,o,_,_,e,ex,_⟩:=I.bE p _ hk
     exact ⟨o,e,ex⟩
   obtain ⟨o,e,ex⟩:=z
   refine ⟨⟨o,e,ex.1⟩,λa e2=>?_⟩
   cases e2
   exact ⟨o,e,ex.2.1⟩
  .obtain ⟨o,_,_,_,e,ex,_⟩:=I.bE p _ hk
   refine ⟨⟨o,e,ex.1⟩,λa e2=>?_⟩
   cases e2
   exact ⟨o,e,ex.2.1⟩
 | _=>exact gC ty
def P9(K:aJ)(T:String)(r:V->List V->Hp->VK->Prop)(to:TE):TE:=λσ H Q=>to σ H λx H1=>PM K T x H1/\r x [] H1 Q
def tBM(K:aJ)(T:String)(r:V->List V->Hp->VK->Prop)(to:TE)(t:TA):TE:=λσ H Q=>to σ H λx H1=>PM K T x H1/\t σ H1 λxs H2=>r x xs H2 Q
variable {o e:Expr}{es:List Expr}{to:TE}{t:TA}{name:Str}{apos au:Pos}{T id:String}{r:V->List V->Hp->VK->Prop}
theorem NM(pa:PlainAttrs T)(slot:Slot T name id)(QW:typeOf (.builtin id)=pure (.type "method_descriptor"))(hm:E8 X id r)(ho:PE X o to)
  (bA:attributeBase o name X.env (eval o X.env)=eval o X.env:=by rfl)(bz:(apos.endLine==au.line)=true:=by rfl):PE X (.Call (.Attribute o name apos) [] [] au) (P9 X.K T r to):=by
 intro pins s σ H Q I h
 refine wpAny_Call_method0_late bA bz (cn (ho pins s σ H _ I h) λv s1 ⟨x,H1,I1,r1,ty,q1⟩=>?_)
 obtain ⟨h1,h2⟩:=Zn I1 r1 ty
 exact ⟨T,id,pa,slot,QW,h1,h2,Tf rfl (PySem.evalArgs_none (hm pins s1 σ H1 x [] v [] Q I1 r1 .nil q1))⟩
theorem NI(pa:PlainAttrs T)(slot:Slot T name id)(QW:typeOf (.builtin id)=pure (.type "method_descriptor"))(hm:E8 X id r)(ho:PE X o to)(ha:PA X (e::es) t)
  (bA:attributeBase o name X.env (eval o X.env)=eval o X.env:=by rfl)
  (gF:((backTo au (starEach (e::es) X.env)).all (λx=>!x.1)&&(backToKw au (keywordEach [] X.env)).all (λx=>x.1.isSome)
   && decide ((e::es).length+([]:List Keyword).length+(if ([]:List Keyword).isEmpty then 0 else 1)<30))=true:=by rfl)
  (bz:(apos.endLine==au.line)=true:=by rfl)(hs:starEach (e::es) X.env=(false,eval e X.env)::starEach es X.env:=by rfl)(DW:(backTo au (starEach es X.env)).any (·.1)=false:=by rfl):
  PE X (.Call (.Attribute o name apos) (e::es) [] au) (tBM X.K T r to t):=by
 intro pins s σ H Q I h
 refine wpAny_Call_method_late bA gF bz rfl (cn (ho pins s σ H _ I h) λv s1 ⟨x,H1,I1,r1,ty,q1⟩=>?_)
 obtain ⟨h1,h2⟩:=Zn I1 r1 ty
 refine ⟨T,id,pa,slot,QW,h1,h2,?_⟩
 have hA:=ha au pins s1 σ H1 _ I1 q1
 rw [hs] at hA ⊢
 refine Tf (by show (false||(backTo au (starEach es X.env)).any (·.1))=false;rw [DW]<;>rfl) (XD ?_)
 exact cn hA λus s2 ⟨vs,H2,I2,r2,q2⟩=>hm pins s2 σ H2 x vs v us Q I2 r1 r2 q2
end
end L2
namespace L2
open PySem PySem.Spec PyProof.Rows
def LM(X:Cx)(id:String)(r:V->List V->Hp->VK->Prop):Prop:=
 ∀(pins:List (Addr×Obj)) (s:Shared) (σ:St) (H:Hp) (x:V) (xs:List V) (v:Value) (us:List Value) (Q:VK),Inv X pins σ H s->RelV x v->aF xs us->r x xs H Q ->
  wpAny (model X.prog X.w) X.A (call (.builtin id) (v::us)) (EP X pins σ Q) X.xe s
theorem aF.one:∀{x:V} {us:List Value},aF [x] us->∃u,us=[u]/\RelV x u
 | _,_,.cons r .nil=>⟨_,rfl,r⟩
theorem aF.two:∀{x y:V} {us:List Value},aF [x,y] us->∃u v,us=[u,v]/\RelV x u/\RelV y v
 | _,_,_,.cons r (.cons q .nil)=>⟨_,_,rfl,r,q⟩
theorem aF.zero:∀{us:List Value},aF [] us->us=[]
 | _,.nil=>rfl
theorem aF.dropLast(h:aF xs us):aF xs.dropLast us.dropLast:=by
 induction h with
 | nil=>exact .nil
 | cons r t ih =>
  cases t with
  | nil=>exact .nil
  | cons q t'=>exact .cons r ih
theorem aF.eraseIdx:∀{xs:List V} {us:List Value} (i:Nat),aF xs us->aF (xs.eraseIdx i) (us.eraseIdx i)
 | _,_,_,.nil=>.nil
 | _,_,0,.cons _ t=>t
 | _,_,i+1,.cons r t=>.cons r (aF.eraseIdx i t)
theorem aF.reverse(h:aF xs us):aF xs.reverse us.reverse:=by
 induction h with
 | nil=>exact .nil
 | cons r t ih=>rw [M6,M6];exact aF.append ih (.cons r .nil)
theorem b1V{α:Type}(l:List α):l.eraseIdx (l.length-1)=l.dropLast:=by
 induction l with
 | nil=>rfl
 | cons a r ih =>
  cases r with
  | nil=>rfl
  | cons b r =>
   have e:(a::b::r).length-1=((b::r).length-1)+1:=by
    have h1:(a::b::r).length=r.length+2:=rfl
    have h2:(b::r).length=r.length+1:=rfl
    omega
   rw [e,List.eraseIdx_cons_succ,ih]
   all_goals rfl
section
variable {X:Cx}{pins:List (Addr×Obj)}{σ:St}{H:Hp}{s:Shared}{l b:Addr}{xs ys zs:List V}
theorem Inv.zx{aB its':List Value}{n:Nat}{t':Nat}(I:Inv X pins σ H s)(hH:H l=some (.lst xs))
  (e:s.heap.get? l=some { cls:=.type "list",data:=.seq aB.toArray n })(hf:f aB.toArray=its'.toArray)(hv:aF ys its')(hz:ys.length<=sizeLine):
  Inv X pins σ (upd H l (.lst ys)) { s with heap:=s.heap.update l (rW f),toks:=t' }:=by
 have q:=PySem.IsL.update e f
 rw [hf] at q
 refine I.write (x:=l) (e:=l) (by rw [hH];exact trivial) (.inl rfl) (λb' u hb hu=>(Kf s.heap (rW f) (l5 hb)).trans hu) ⟨_,q⟩ ?_
 exact ⟨hz,its',_,hv,q⟩
theorem Inv.QE(I:Inv X pins σ H s)(hv:aF ys aB)(hz:ys.length<=sizeLine):
  Inv X pins σ (upd H s.heap.objs.size (.lst ys)) { s with heap:=s.heap.push { cls:=.type "list",data:=.seq aB.toArray },toks:=t' }:=
 I.laid (λ_ _ q=>ft _ q) (cT _) ⟨hz,aB,0,hv,j' _ rfl⟩
theorem Inv.fresh(I:Inv X pins σ H s):H s.heap.objs.size=none:=I.bE.fresh (cT _)
theorem Inv.qa(I:Inv X pins σ H s)(hH:H l=some (.lst xs)):xs.length<=sizeLine/\∃(aB:List Value) (n:Nat),aF xs aB/\xs.length=aB.length/\s.heap.get? l=some { cls:=.type "list",data:=.seq aB.toArray n }:=by
 obtain ⟨z,aB,n,r,e⟩:=I.bE l _ hH
 exact ⟨z,aB,n,r,r.length,e⟩
theorem b4I(h:n<=sizeLine):S6 n=false:=by
 unfold S6
 exact decide_eq_false (by omega)
end
section
variable {X:Cx}
def b7a:V->List V->Hp->VK->Prop:=λx vs H Q=>∃l xs y,x=.ref l/\vs=[y]/\H l=some (.lst xs)/\xs.length<sizeLine/\Q .cD (upd H l (.lst (xs++[y])))
theorem a8S:LM X "list.append" b7a:=by
 intro pins s σ H x vs v us Q I rx rv h
 obtain ⟨l,xs,y,rfl,rfl,hH,hz,q⟩:=h
 cases rx
 obtain ⟨u,rfl,ru⟩:=rv.one
 obtain ⟨z,aB,n,r,hl,e⟩:=I.qa hH
 refine Eo Te ⟨_,e,rfl⟩ F.entry_list_append (F.args_list_append_2 _ _) (PySem.list_append l aB.toArray n u (by rw [gZ];omega)) ⟨e,?_⟩
 refine ⟨.cD,_,I.zx (its':=aB++[u]) hH e (by simp) (r.append (.cons ru .nil)) ?_,rfl,q⟩
 rw [jv,z6]
 omega
def b69:V->List V->Hp->VK->Prop:=λx vs H Q=>∃l b xs zs,x=.ref l/\vs=[.ref b]/\H l=some (.lst xs)/\H b=some (.lst zs)/\xs.length+zs.length<=sizeLine/\Q .cD (upd H l (.lst (xs++zs)))
theorem b20:LM X "list.extend" b69:=by
 intro pins s σ H x vs v us Q I rx rv h
 obtain ⟨l,b,xs,zs,rfl,rfl,hH,hB,hz,q⟩:=h
 cases rx
 obtain ⟨u,rfl,ru⟩:=rv.one
 cases ru
 obtain ⟨z,aB,n,r,hl,e⟩:=I.qa hH
 obtain ⟨z2,gk,n2,r2,D1,e2⟩:=I.qa hB
 have hsz:aB.toArray.size+gk.toArray.size<=sizeLine:=by rw [gZ,gZ];omega
 have IT:¬(!aB.toArray.isEmpty&&S6 (aB.toArray.size+gk.toArray.size))=true:=by
  rw [b4I hsz,Bool.and_false]
  exact vC
 refine Eo Yl ⟨_,e,rfl⟩ F.entry_list_extend (F.args_list_extend_2 _ _)
  (AutoSeq1.list_extend_list_list_0 l aB.toArray n b gk.toArray n2 IT (by rw [gZ];omega) (by omega)) ⟨e,e2,?_⟩
 refine ⟨.cD,_,I.zx (its':=aB++gk) hH e (by simp) (r.append r2) ?_,rfl,q⟩
 rw [jv]
 omega
def Qm:V->List V->Hp->VK->Prop:=λx vs H Q=>∃l xs y,x=.ref l/\vs=[]/\H l=some (.lst xs)/\xs[xs.length-1]?=some y/\Q y (upd H l (.lst xs.dropLast))
theorem Y5:LM X "list.pop" Qm:=by
 intro pins s σ H x vs v us Q I rx rv h
 obtain ⟨l,xs,y,rfl,rfl,hH,hy,q⟩:=h
 cases rx
 have IK:=rv.zero
 subst IK
 obtain ⟨z,aB,n,r,hl,e⟩:=I.qa hH
 obtain ⟨u,hu,ru⟩:=r.get hy
 have zE:aB.toArray[aB.toArray.size-1]?=some u:=by
  show aB.toArray[aB.length-1]?=some u
  rw [<-Nk,<-hl]
  exact hu
 refine Eo Tg ⟨_,e,rfl⟩ F.entry_list_pop (F.args_list_pop_1 _) (MeetsSeq.list_pop_last l aB.toArray n u zE (by rw [gZ];omega)) ⟨e,?_⟩
 refine ⟨y,_,I.zx (its':=aB.dropLast) hH e ?_ r.dropLast ?_,ru,q⟩
 .show aB.toArray.eraseIdxIfInBounds (aB.toArray.size-1)=aB.dropLast.toArray
  rw [gZ,List.eraseIdxIfInBounds_toArray,b1V]
 .rw [List.length_dropLast]
  omega
def b4x:V->List V->Hp->VK->Prop:=λx vs H Q=>∃l xs,x=.ref l/\vs=[]/\H l=some (.lst xs)/\Q .cD (upd H l (.lst xs.reverse))
theorem b1L:LM X "list.reverse" b4x:=by
 intro pins s σ H x vs v us Q I rx rv h
 obtain ⟨l,xs,rfl,rfl,hH,q⟩:=h
 cases rx
 have IK:=rv.zero
 subst IK
 obtain ⟨z,aB,n,r,hl,e⟩:=I.qa hH
 refine Eo X9 ⟨_,e,rfl⟩ F.entry_list_reverse (F.args_list_reverse_1 _) (AutoSeq1.list_reverse_list_0 l aB.toArray n (by rw [gZ];omega)) ⟨e,?_⟩
 refine ⟨.cD,_,I.zx (its':=aB.reverse) hH e (by simp) r.reverse ?_,rfl,q⟩
 rw [List.length_reverse]
 omega
def b9H:V->List V->Hp->VK->Prop:=λx vs H Q=>∃l xs,x=.ref l/\vs=[]/\H l=some (.lst xs)/\Q .cD (upd H l (.lst []))
theorem b4L:LM X "list.clear" b9H:=by
 intro pins s σ H x vs v us Q I rx rv h
 obtain ⟨l,xs,rfl,rfl,hH,q⟩:=h
 cases rx
 have IK:=rv.zero
 subst IK
 obtain ⟨z,aB,n,r,hl,e⟩:=I.qa hH
 refine Eo XC ⟨_,e,rfl⟩ F.entry_list_clear (F.args_list_clear_1 _) (AutoSeq1.list_clear_list_0 l aB.toArray n (by rw [gZ];omega)) ⟨e,?_⟩
 exact ⟨.cD,_,I.zx (its':=[]) (ys:=[]) hH e rfl .nil (vF _),rfl,q⟩
def Qo:R2:=λx y H Q=>∃l b xs zs,x=.ref l/\y=.ref b/\H l=some (.lst xs)/\H b=some (.lst zs)/\xs.length+zs.length<=sizeLine/\∀p,H p=none->Q (.ref p) (upd H p (.lst (xs++zs)))
theorem DH:ml X (binaryOp .Add) Qo:=by
 intro pins s σ H x y v u Q I rx ry h
 obtain ⟨l,b,xs,zs,rfl,rfl,hH,hB,hz,q⟩:=h
 cases rx
 cases ry
 obtain ⟨z,aB,n,r,hl,e⟩:=I.qa hH
 obtain ⟨z2,gk,n2,r2,D1,e2⟩:=I.qa hB
 refine PySem.P.add_list e e2 ?_ (by rw [gZ,gZ];omega)
 have ea:aB.toArray++gk.toArray=(aB++gk).toArray:=by simp
 rw [ea]
 exact ⟨.ref _,_,I.QE (t':=s.toks) (r.append r2) (by rw [jv];omega),rfl,q _ I.fresh⟩
end
section
variable {prog:Program}{w:World}{A:Around}{E:Value->Shared->Prop}{s:Shared}
end
section
variable {X:Cx}
end
end L2
namespace Att
open PySem PySem.W PySem.Calls PyProof.Rows
theorem a6R:∀(ns:List Int) (vs:List Value),WellAll P h vs (ns.map WData.int)->IntsAre vs ns:=by
 intro ns
 induction ns with
 | nil =>
  intro vs w
  rw [Em] at w
  cases w
  exact .nil
 | cons n ns ih =>
  intro vs w
  rw [gS] at w
  cases w with
  | cons a b =>
   cases a
   exact .cons _ _ (ih _ b)
theorem b2t{l:OpenLaw}{n:Nat}(hn:l.most=some n){h:Heap}
  (BK:l.row.toRowW.claim.pre args=true)(DU:WellAll P h vals args):
  ∃a vs ns,vals=[dJ a]/\args=[WData.list (ns.map WData.int)]/\h.get? a=some { cls:=.type "list",data:=.seq vs.toArray }/\IntsAre vs ns/\ns.length<=n:=by
 have QY:WShape.hasAll [] args [.list .int]=true:=(pre_splitW BK).1
 have hc:l.pre.holds [] { args:=args }=true:=(pre_splitW BK).2
 obtain ⟨d,r,rfl,h1,h2⟩:=hasAllW_cons QY
 obtain rfl:=hasAllW_nil h2
 obtain ⟨xs,rfl,h3⟩:=hasW_list h1
 obtain ⟨ns,rfl⟩:=items_int h3
 have hlen:ns.length<=n:=by
  unfold OpenLaw.pre at hc
  have h4:(WTm.not (.lt (.lit (.int (n:Int))) (.len (.arg 0)))).holds [] { args:=[.list (ns.map .int)] }=true:=by
   have h4:=(holds_andW hc).1
   rw [hn] at h4
   exact h4
  have h5:=condW_of h4 (w_not (w_lt w_lit (w_len_list (w_arg rfl))))
  rw [cP] at h5
  refine Nat.le_of_not_lt λq=>?_
  have q':(n:Int)<((ns.length:Nat):Int):=by omega
  first
   | (rw [decide_eq_true q'] at h5;exact absurd h5 (by decide))
   | (simp at h5;omega)
 cases DU with
 | cons w1 w2 =>
  cases w2
  cases w1 with
  | list ho rG=>exact ⟨_,_,ns,rfl,rfl,ho,a6R ns _ rG,hlen⟩
theorem b2D(l:OpenLaw)(args:List WData):l.row.toRowW.claim.post args (.bool true) args=true:=
 postW_of (r:=l.row.toRowW) (X:=(true==true))
  (show WShape.has [] (.bool true) .bool=true by first | rfl | decide | simp [WShape.has,WShape.arms,WShape.armsAll])
  (show (WTm.eq .res (.lit (.bool true))).value [] { args:=args,res:=some (.bool true),after:=args }=some (.bool (true==true)) from w_eq_bool (w_res rfl) w_lit) rfl
theorem qp{l:OpenLaw}{n:Nat}{loose:List Str}{d:DefRec}
  (hn:l.most=some n)(Je:d.params.defaults=[])
  (call:∀(w:World) (dF aT:Shared) (mg mb:Str->Option Value) (fa:Addr) (o:Obj) (pm cd doc:Value) (a:Addr) (vs:List Value) (ns:List Int),
   Ground q loose [] XP w dF mg mb aT.heap->YP w aT.heap ->
   aT.heap.get? fa=some o->o.data=.func (docDef d.name d.params d.body d.scope pm cd doc)->aT.heap.CodeRec cd d.name->mg d.name=some (.ref fa) ->
   aT.heap.get? a=some { cls:=.type "list",data:=.seq vs.toArray }->IntsAre vs ns->ns.length<=n->aT.gens=#[] ->
   codeAny (model l.prog w) callerA (.call (.ref fa) ⟨[.ref a],[]⟩) (λr s'=>r=.ok (.ret (.bool true))/\OldK aT.heap s'.heap/\s'.os=aT.os/\AllBare s'.gens) aT):
  WalkO q loose XP YP l.row.toRowW d [] (λf vs=>Sr f vs):=by
 intro w dF aT mg mb G Y fa o pm cd doc dV kV ho hd cE hD IS hg args vals as BK hlay hrd DU Mq
 obtain rfl:dV=.none:=Dflts.none hD Je
 obtain rfl:kV=.none:=Dflts.noKw hD
 obtain ⟨a,vs,ns,rfl,rfl,DY,hints,hlen⟩:=b2t hn BK DU
 refine enter_call (B4 (call w dF aT mg mb fa o pm cd doc a vs ns G Y ho (fd_plain hd) cE IS DY hints hlen hg) λr s' hq=>?_)
 obtain ⟨rfl,h2,h3,h4⟩:=hq
 exact ⟨.inl ⟨.bool true,.bool true,[],rfl,λ_=>rfl,.bool true,b2D l _,λ_=>⟨Kg,λ_ hm=>(nomatch hm)⟩⟩,h2,h3,h4⟩
section
variable {prog:Program}{w:World}{A:Around}{E:Value->Shared->Prop}{s:Shared}{K:Frag}
def ledger(h:Heap)(L d:Addr):List (Addr×Obj):=(jB h.objs.size).filterMap λa=>if a=L\/a=d then none else (h.get? a).map λo=>(a,o)
end
end Att
namespace L2
open PySem PySem.Spec PyProof.Rows
theorem a8v:∀{vs:List Value} {ns:List Int},IntsAre vs ns->aF (ns.map V.int) vs
 | _,_,.nil=>.nil
 | _,_,.cons n t h=>.cons ⟨t,rfl⟩ (a8v h)
theorem Oa{α:Type}{c:Prop}[Decidable c]{a b:α}(h:(if c then some a else none)=some b):c/\a=b:=by
 by_cases hc:c
 .rw [if_pos hc] at h;exact ⟨hc,gY h⟩
 .rw [if_neg hc] at h;cases h
def BG:Str:="dealt.<locals>.<lambda>"
def Tb(K:aJ)(H:Hp):Prop:=∀c P,yy K "dealt" = some (c,P)->H P=some (.tab BG)
def NG(K:aJ)(ts:List Addr):Bool:=match yy K "dealt" with
 | some (c,P)=>XN K c P&&(K.lookup P).isNone&&ts.contains P
 | none=>true
theorem b4O{P:Program}{w:World}{K:aJ}{mg mb:Str->Option Value}{CX:ud}{k:Nat}{fa a:Addr}{fd:FuncData}{x:Str}{sp:Sp}{aT:Shared}{vs:List Value}{ns:List Int}{ts:List Addr}
  (KX:K.In aT.heap)(CK:aT.heap.Ns mainGlobals mg)(hb:aT.heap.Ns builtinsNs mb)(hbb:∀x:Str,x ≠ "__name__" -> mb x=bootBuiltins x)(Q5:aT.heap.NoLimit)(hg:aT.gens=#[])
  (hbm:∃bm ob,mg "__builtins__" = some (.ref bm)/\bm≠builtinsNs/\aT.heap.get? bm=some ob/\ob.cls=.type "module" /\ ob.dict=some builtinsNs/\ob.data=.plain)
  (hL:NG K ts=true)(Jl:∀P∈ts,aT.heap.get? P=some (F9 #[]))
  (ha:aT.heap.get? a=some { cls:=.type "list",data:=.seq vs.toArray })(hi:IntsAre vs ns)(hl:ns.length<=sizeLine)(hr:cF k callerA)
  (F:∀base:Heap,K.In base->base.Ns mainGlobals mg->cx P w K mg base CX k fa fd [x] sp)(Jk:∀(s:Shared) (u:Value),BindsTo s fd ⟨[u],[]⟩ [(x,u)])
  (AI:∀H:Hp,Tb K H->iI K H a (ns.map V.int)->sp [.ref a] H (λv H'=>v=.bl true/\Tb K H') λ_ _ _=>False)
  (Ru:∀H e s',CX [] H aT (λ_ _ _=>False) e s'->False):
  codeAny (model P w) callerA (.call (.ref fa) ⟨[.ref a],[]⟩) (λr s'=>r=.ok (.ret (.bool true))/\OldK aT.heap s'.heap/\s'.os=aT.os/\AllBare s'.gens) aT:=by
 have rv:=a8v hi
 have QF:=hi.length
 have tabs:∀c P,yy K "dealt" = some (c,P)->XN K c P=true/\K.lookup P=none/\aT.heap.get? P=some (F9 #[]):=λc P e=>by
  unfold NG at hL
  rw [e] at hL
  simp only [tV,Option.isNone_iff_eq_none,List.contains_iff_mem] at hL
  exact ⟨hL.1.1,hL.1.2,Jl P hL.2⟩
 have core:∀H:Hp,Tb K H->iI K H a (ns.map V.int)->jc P w H aT.heap->(∀b,H b≠none->(b=a/\∃o xs,H b=some (.jJ o (.lst xs)))\/∃c,yy K "dealt" = some (c,b))->(H a≠none->K.lookup a=none) ->
   codeAny (model P w) callerA (.call (.ref fa) ⟨[.ref a],[]⟩) (λr s'=>r=.ok (.ret (.bool true))/\OldK aT.heap s'.heap/\s'.os=aT.os/\AllBare s'.gens) aT:=by
  intro H hO hS bE hA hK
  have px:∀{b:Addr} {o:Obj},aT.heap.get? b=some o->H b=none->(o6 aT.heap H).get? b=some o:=λe n=>b44 e n
  have WJ:∀{b:Addr} {o:Obj},aT.heap.get? b=some o->(∀xs n,o.data≠.seq xs n)->(∀xs,o.data=.fields xs->o.cls≠.none)->H b=none:=λ{b o} e d d2=>by
   cases q:H b with
   | none=>rfl
   | some u =>
    rcases hA b (by rw [q];simp) with ⟨e',_⟩ | ⟨c,e'⟩
    .subst e'
     rw [ha] at e;cases e
     exact absurd rfl (d _ _)
    .rw [(tabs c b e').2.2] at e;cases e
     exact absurd rfl (d2 _ rfl)
  have Mc:∀{b:Addr} {m:Str->Option Value},aT.heap.Ns b m->(o6 aT.heap H).Ns b m:=λ{b m} ⟨o,es,ep,e,d,r⟩=>⟨o,es,ep,px e (WJ e (λ_ _ z=>by rw [d] at z;cases z) λ_ z=>by rw [d] at z;cases z),d,r⟩
  have Xh:K.In (o6 aT.heap H):=λb o e=>px (KX b o e) (by
   cases q:H b with
   | none=>rfl
   | some u =>
    rcases hA b (by rw [q];simp) with ⟨e',_⟩ | ⟨c,e'⟩
    .subst e'
     rw [hK (by rw [q];simp)] at e;cases e
    .rw [(tabs c b e').2.1] at e;cases e)
  have hM:Mod K mg (o6 aT.heap H):=⟨Xh,Mc CK,⟨mb,Mc hb,hbb⟩,let ⟨mc,h1,h2⟩:=Q5;⟨mc,Mc h1,h2⟩,let ⟨bm,ob,b1,b2,b3,b4,b5,b6⟩:=hbm;⟨bm,ob,b1,b2,px b3 (WJ b3 (λ_ _ z=>by rw [b6] at z;cases z) λ_ z=>by rw [b6] at z;cases z),b4,b5,b6⟩⟩
  have e0:n6 P w K mg (o6 aT.heap H) callerA [] aT H:=⟨rfl,hM,λb o e=>b7s e,Sj (b3v _ _),trivial,λb hb=>absurd (show b∈([]:List Addr) from hb) (by simp),bE,.of_eq hg⟩
  refine B4 ((F _ Xh (Mc CK)).run callerA [] aT H ⟨[.ref a],[]⟩ [.ref a] [.ref a] _ _ hr e0 (Jk aT (.ref a)) (.cons rfl .nil) (AI H hO hS)) λr s' h=>?_
  cases r with
  | error e=>exact (Ru H e s' h).elim
  | ok fl =>
   cases fl with
   | next=>exact gC h
   | brk=>exact gC h
   | cont=>exact gC h
   | ret u =>
    obtain ⟨v,H',os,bare,un,IQ,r',q,qT⟩:=h
    subst q
    obtain rfl:u=qH true:=r'
    have old:∀b o,aT.heap.get? b=some o->s'.heap.get? b=some o\/∃c ps,yy K "dealt" = some (c,b)/\s'.heap.get? b=some (F9 ps):=λb o e=>by
     cases q:H b with
     | none=>exact .inl (un.keep b o e q (by intro z;exact absurd (show b∈([]:List Addr) from z) (by simp)) (by simp))
     | some u =>
      rcases hA b (by rw [q];simp) with ⟨_,ob,xs,z⟩ | ⟨c,e'⟩
      .have z2:=un.iF b ob _ z
       obtain ⟨e1,_⟩:=bE b _ z
       obtain ⟨e2,_⟩:=IQ b _ z2
       rw [e] at e1;cases e1
       exact .inl e2
      .obtain ⟨ps,e2,_⟩:=IQ b _ (qT c b e')
       exact .inr ⟨c,ps,e',e2⟩
    refine ⟨rfl,⟨λb o e=>?_,λb o e=>?_⟩,os,bare⟩
    .rcases old b o e with z | ⟨c,ps,e',z⟩
     .exact .inl z
     .obtain ⟨t1,_,t3⟩:=tabs c b e'
      rw [t3] at e;cases e
      exact .inr (.inl ⟨((PySem.W.codeHd_of_K KX t1).tab t3).isCodeTable,rfl,#[],ps,rfl,by rw [Array.empty_append];exact z⟩)
    .rcases old b o e with z | ⟨c,ps,e',z⟩
     .exact ⟨o,z⟩
     .exact ⟨_,z⟩
 have WI:∀(H:Hp) (b:Addr),(∃c,yy K "dealt" = some (c,b))->cM P w H aT.heap b (.tab BG):=λH b ⟨c,e⟩=>⟨#[],(tabs c b e).2.2,trivial,λpos cv h=>by simp [codeAmong] at h⟩
 have WL:∀c b,yy K "dealt" = some (c,b)->b≠a:=λc b e z=>by
  have:=(tabs c b e).2.2
  rw [z,ha] at this
  cases this
 cases hk:K.lookup a with
 | some o =>
  have e:=KX a o hk
  rw [ha] at e
  cases e
  refine core (λb=>if (yy K "dealt").map (·.2)=some b then some (.tab BG) else none) (λc b e=>if_pos (by rw [e];rfl)) (.inr ⟨_,vs.toArray,_,hk,rfl,rfl,rfl,by rw [gZ,QF];exact hl,by simpa using rv⟩) (λb u z=>?_) (λb z=>?_) λz=>?_
  .obtain ⟨hc,rfl⟩:=(Oa z)
   obtain ⟨⟨c,b'⟩,e,rfl⟩:=F'.mp hc
   exact WI _ _ ⟨c,e⟩
  .by_cases hc:(yy K "dealt").map (·.2)=some b
   .obtain ⟨⟨c,b'⟩,e,rfl⟩:=F'.mp hc
    exact .inr ⟨c,e⟩
   .exact absurd (if_neg hc) z
  .by_cases hc:(yy K "dealt").map (·.2)=some a
   .obtain ⟨⟨c,b'⟩,e,e2⟩:=F'.mp hc
    exact absurd e2 (WL c b' e)
   .exact absurd (if_neg hc) z
 | none =>
  refine core (λb=>if b=a then some (.jJ { cls:=.type "list",data:=.seq vs.toArray } (.lst (ns.map V.int))) else if (yy K "dealt").map (·.2)=some b then some (.tab BG) else none) (λc b e=>by show (if b=a then _ else _)=_;rw [if_neg (WL c b e),if_pos (by rw [e];rfl)]) (.inl (.inr ⟨{ cls:=.type "list",data:=.seq vs.toArray },if_pos rfl⟩)) (λb u z=>?_) (λb z=>?_) λ_=>hk
  .by_cases hb:b=a
   .have z':=(if_pos hb).symm.trans z
    cases z'
    subst hb
    exact ⟨ha,by rw [cP];exact hl,vs,_,rv,ha⟩
   .obtain ⟨hc,rfl⟩:=Oa ((if_neg hb).symm.trans z)
    obtain ⟨⟨c,b'⟩,e,rfl⟩:=F'.mp hc
    exact WI _ _ ⟨c,e⟩
  .by_cases hb:b=a
   .exact .inl ⟨hb,_,_,if_pos hb⟩
   .by_cases hc:(yy K "dealt").map (·.2)=some b
    .obtain ⟨⟨c,b'⟩,e,rfl⟩:=F'.mp hc
     exact .inr ⟨c,e⟩
    .exact absurd ((if_neg hb).trans (if_neg hc)) z
end L2
namespace L2
open PySem PySem.Spec PyProof.Rows
abbrev KOf{K:aJ}{h:Heap}(_:K.In h):aJ:=K
theorem Bu{l:SU}{n k:Nat}{q:Program}{loose:List Str}{XP:(Str->Option Value)->Heap->Prop}{YP:World->Heap->Prop}{d:DefRec}{K:Params->aJ}{CX:World->ud}{sp:World->Sp}{x:Str}{ts:List Addr}
  (hn:l.most=some n)(Mp:n<=sizeLine)(Je:d.params.defaults=[])(hr:cF k callerA)
  (hY:∀(w:World) (h:Heap),YP w h->(K w.params).In h/\∀P∈ts,h.get? P=some (F9 #[]))(hL:∀w:World,NG (K w.params) ts=true)
  (F:∀(w:World) (mg:Str->Option Value) (fa:Addr) (h:Heap),(K w.params).In h->h.Ns mainGlobals mg->mg d.name=some (.ref fa) ->
   ∃fd:FuncData,(∀(s:Shared) (u:Value),BindsTo s fd ⟨[u],[]⟩ [(x,u)]) /\
    ∀base:Heap,(K w.params).In base->base.Ns mainGlobals mg->cx l.prog w (K w.params) mg base (CX w) k fa fd [x] (sp w))
  (AI:∀(w:World) (H:Hp) (a:Addr) (ns:List Int),ns.length<=n->Tb (K w.params) H->iI (K w.params) H a (ns.map V.int)->sp w [.ref a] H (λv H'=>v=.bl true/\Tb (K w.params) H') λ_ _ _=>False)
  (Ru:∀(w:World) (H:Hp) (s:Shared) (e:Value) (s':Shared),CX w [] H s (λ_ _ _=>False) e s'->False):
  PySem.W.WalkO q loose XP YP l.row.toRowW d [] (λf vs=>Sr f vs):=by
 refine Att.qp hn Je λw dF aT mg mb fa o pm cd doc a vs ns G Y ho hd cE IS DY hints hlen hg=>?_
 obtain ⟨KX,Jl⟩:=hY w _ Y
 obtain ⟨fd,hb,hF⟩:=F w mg fa _ KX G.T.g IS
 exact b4O KX G.T.g G.T.b G.T.builtins G.T.nolimit hg G.T.bmain (hL w) Jl DY hints (iZ hlen Mp) hr hF hb (λH hO hS=>AI w H a ns hlen hO hS) λH e s'=>Ru w H aT e s'
end L2
namespace L2
open PySem PySem.Spec PyProof.Rows
def jT(s:Stmt)(j:Nat):Stmt:=match s with
 | .ClassDef _ _ _ body _ _ _ _ _ _ _=>body.getD j (.Pass ⟨0,0,0,0⟩)
 | _=>.Pass ⟨0,0,0,0⟩
def pC(s:Stmt):Arguments:=match s with
 | .FunctionDef _ a _ _ _ _ _ _ _ _=>a
 | _=>{ posonlyargs:=[],args:=[],vararg:=none,kwonlyargs:=[],kw_defaults:=[],kwarg:=none,defaults:=[] }
def jD(s:Stmt):List Stmt:=match s with
 | .FunctionDef _ _ b _ _ _ _ _ _ _=>b
 | _=>[]
def eS(s:Stmt):Scope:=match s with
 | .FunctionDef _ _ _ _ _ _ sc _ _ _=>sc
 | _=>{ kind:=.function,names:=[],isGenerator:=false,isCoroutine:=false }
abbrev jw:ud:=λ_ _ _ _ _ _=>False
abbrev E0:XK:=λ_ _ _=>False
theorem Dc:KH jw X E0:=λ_ _ _ _ _ _ _ h=>h.elim
structure vZ(K:aJ)(x qual:Str)(st:Stmt)(f:Addr)(fd:FuncData):Prop where
 ex:∃(oc:Value) (od:Option Addr) (kV doc pm:Value) (an:Option Addr) (fE ct:Value) (BC:Array (Option Value)),
  fd=nM x qual (pC st) (jD st) (eS st) .none kV doc pm an fE ct/\K.lookup f=some ⟨oc,od,.func fd,BC⟩/\J' K fE qual=true
 kp:yz K (.ref f)=true
section
variable {P:Program}{w:World}{K:aJ}{mg:Str->Option Value}{base:Heap}
theorem vZ.ok{x qual:Str}{st:Stmt}{f:Addr}{fd:FuncData}{N ps:List Str}{k:Nat}{sp:Sp}(F:vZ K x qual st f fd)(S:cz N ps (eS st))(len:∀vs H Q E,sp vs H Q E->vs.length=ps.length)
  (cb:∀(fE:Value) (A:Around) (outer:List Env) (s:Shared) (H:Hp) (vs:List V) (Q:VK) (E:XK),cF k (A.deeper (envOfC qual (eS st) s.heap.objs.size f fE))->sp vs H Q E ->
   ∃t,pO (iX jw P w K mg base N qual (eS st) f fE A outer s H E).jd (jD st) t/\t { nx:=λ_ H'=>Q .cD H',rt:=Q } (start N vs) H):cx P w K mg base jw (k+1) f fd ps sp:=by
 obtain ⟨oc,od,kV,doc,pm,an,fE,ct,BC,rfl,lk,cE⟩:=F.ex
 refine Yx lk cE S len λA outer s H vs Q E hr AI=>?_
 obtain ⟨t,h,q⟩:=cb fE A outer s H vs Q E hr AI
 exact ⟨t,h.jd,q⟩
theorem vZ.binds{x qual:Str}{st:Stmt}{f:Addr}{fd:FuncData}{ps:List Str}(F:vZ K x qual st f fd)
  (h:∀(kV doc pm:Value) (an:Option Addr) (fE ct:Value) (us:List Value),us.length=ps.length->bindArgs (nM x qual (pC st) (jD st) (eS st) .none kV doc pm an fE ct) ⟨us,[]⟩=pure (ps.zip us)):Binds K fd ps []:=by
 obtain ⟨oc,od,kV,doc,pm,an,fE,ct,BC,rfl,lk,cE⟩:=F.ex
 exact .all (h kV doc pm an fE ct)
theorem NS{x qual:Str}{st:Stmt}{f:Addr}{oc:Value}{od an:Option Addr}{BC:Array (Option Value)}{kV doc pm fE ct:Value}(l:K.lookup f=some ⟨oc,od,.func (nM x qual (pC st) (jD st) (eS st) .none kV doc pm an fE ct),BC⟩)
  (c:J' K fE qual=true)(k:yz K (.ref f)=true):vZ K x qual st f (nM x qual (pC st) (jD st) (eS st) .none kV doc pm an fE ct):=⟨⟨oc,od,kV,doc,pm,an,fE,ct,BC,rfl,l,c⟩,k⟩
end
theorem Ko(hr:cF k A):A.units+1<cLine:=MW (Nat.add_le_add_left (by decide:1<=64) _) hr.units
section
variable {X:Cx}
theorem pv(i:Nat){x:Str}{pos:Pos}(hN:X.N[i]?=some x:=by rfl)(hv:ib X.env.scope x:=by first | exact cZ rfl | exact cj (cZ rfl) | exact cj (cj rfl))(hd:(x==("__debug__":Str))=false:=by decide)
  (cE:(x==("__classdict__":Str))=false:=by decide):PE X (.Name x pos) (Hi i):=pN hN hv hd cE
end
def aE(H H':Hp):Prop:=∀b o,H b=some o->H' b=some o
theorem aE.refl(H:Hp):aE H H:=λ_ _ h=>h
theorem aE.trans(a:aE H H1)(b:aE H1 H2):aE H H2:=λc o h=>b c o (a c o h)
theorem aE.free(e:aE H H')(h:H' l=Option.none):H l=Option.none:=by
 cases q:H l with
 | none=>rfl
 | some o =>
  rw [e l o q] at h
  cases h
theorem aE.seq{K:aJ}{H H':Hp}{a:Addr}{xs:List V}(e:aE H H')(h:iI K H a xs):iI K H' a xs:=by
 rcases h with (h | ⟨o,h⟩) | h
 .exact .inl (.inl (e _ _ h))
 .exact .inl (.inr ⟨o,e _ _ h⟩)
 .exact .inr h
end L2
set_option maxHeartbeats 4000000
namespace L2
open PySem PySem.Spec PyProof.Rows
section
variable {κ:Type}[DecidableEq κ]
noncomputable def km(aD:List (κ×V))(k:κ):Option V:=(aD.find? λkv=>decide (kv.1=k)).map (·.2)
noncomputable def putK(aD:List (κ×V))(k:κ)(v:V):List (κ×V):=
 if (aD.any λkv=>decide (kv.1=k))=true then aD.map (λkv=>if kv.1=k then (kv.1,v) else kv) else aD++[(k,v)]
noncomputable def Yv(aD:List (κ×V))(k:κ):List (κ×V):=aD.filter λkv=>decide (kv.1≠k)
theorem US{p:κ×V}{r:List (κ×V)}{k:κ}(e:p.1=k):km (p::r) k=some p.2:=by simp [km,Er,e]
theorem UR{p:κ×V}{r:List (κ×V)}{k:κ}(e:¬p.1=k):km (p::r) k=km r k:=by simp [km,Er,e]
theorem b0F(k:κ):∀aD:List (κ×V),(aD.any λkv=>decide (kv.1=k))=(km aD k).isSome
 | []=>rfl
 | p::r=>by
  rw [MP]
  by_cases e:p.1=k
  .simp only [US e,decide_eq_true e,Bool.true_or,Option.isSome_some]
  .rw [UR e,decide_eq_false e,Bool.false_or];exact b0F k r
theorem a6H(aD:List (κ×V))(k:κ)(v:V):(putK aD k v).length<=aD.length+1:=by
 unfold putK
 split
 .rw [cP];omega
 .rw [jv,ia,SS];omega
theorem jb.hV{o:Option V}{u:Option Value}(r:jb o u):o.isSome=u.isSome:=by
 cases o with
 | none=>cases u with
  | none=>rfl
  | some _=>exact (show False from r).elim
 | some _=>cases u with
  | none=>exact (show False from r).elim
  | some _=>rfl
theorem jb.getD{o:Option V}{u:Option Value}{d:V}{d':Value}(r:jb o u)(rd:RelV d d'):RelV (o.getD d) (u.getD d'):=by
 cases o with
 | none=>cases u with
  | none=>exact rd
  | some _=>exact (show False from r).elim
 | some _=>cases u with
  | none=>exact (show False from r).elim
  | some _=>exact r
theorem KV.val{aD:List (κ×V)}{vs:List (κ×Value)}(r:KV aD vs)(k:κ):jb (km aD k) (valueAt vs k):=by
 unfold KV at r
 induction r with
 | nil=>exact FN
 | @cons p q ps qs h t ih =>
  obtain ⟨h1,h2⟩:=h
  by_cases e:p.1=k
  .have e':q.1=k:=h1.symm.trans e
   have b:valueAt (q::qs) k=some q.2:=by simp [valueAt,Er,e']
   rw [US e,b];exact h2
  .have e':¬q.1=k:=λz=>e (h1.trans z)
   have b:valueAt (q::qs) k=valueAt qs k:=by simp [valueAt,Er,e']
   rw [UR e,b];exact ih
theorem KV.any{aD:List (κ×V)}{vs:List (κ×Value)}(r:KV aD vs)(k:κ):(aD.any λkv=>decide (kv.1=k))=vs.any λkv=>decide (kv.1=k):=by
 unfold KV at r
 induction r with
 | nil=>rfl
 | cons h t ih=>rw [MP,MP,ih,h.1]
theorem KV.DE{aD:List (κ×V)}{vs:List (κ×Value)}(r:KV aD vs)(k:κ){y:V}{u:Value}(ry:RelV y u):
  KV (aD.map λkv=>if kv.1=k then (kv.1,y) else kv) (vs.map λkv=>if kv.1=k then (kv.1,u) else kv):=by
 unfold KV at r ⊢
 induction r with
 | nil=>exact .nil
 | @cons p q ps qs h t ih =>
  rw [gS,gS]
  refine .cons ?_ ih
  obtain ⟨h1,h2⟩:=h
  by_cases e:p.1=k
  .rw [if_pos e,if_pos (h1.symm.trans e)];exact ⟨h1,ry⟩
  .rw [if_neg e,if_neg (λz=>e (h1.trans z))];exact ⟨h1,h2⟩
theorem KV.put{aD:List (κ×V)}{vs:List (κ×Value)}(r:KV aD vs)(k:κ){y:V}{u:Value}(ry:RelV y u):KV (putK aD k y) (stored vs k u):=by
 unfold putK stored
 rw [r.any k]
 by_cases e:(vs.any λkv=>decide (kv.1=k))=true
 .rw [if_pos e,if_pos e];exact r.DE k ry
 .rw [if_neg e,if_neg e];exact Paired.snoc r ⟨rfl,ry⟩
theorem KV.drop{aD:List (κ×V)}{vs:List (κ×Value)}(r:KV aD vs)(k:κ):KV (Yv aD k) (without vs k):=by
 unfold KV at r ⊢
 unfold Yv without
 induction r with
 | nil=>exact .nil
 | @cons p q ps qs h t ih =>
  obtain ⟨h1,h2⟩:=h
  rw [List.filter_cons,List.filter_cons]
  by_cases e:p.1=k
  .have a:¬decide (p.1≠k)=true:=by simp [e]
   have b:¬decide (q.1≠k)=true:=by simp [h1.symm.trans e]
   rw [if_neg a,if_neg b];exact ih
  .have e':¬q.1=k:=λz=>e (h1.trans z)
   have a:decide (p.1≠k)=true:=by simp [e]
   have b:decide (q.1≠k)=true:=by simp [e']
   rw [if_pos a,if_pos b];exact .cons ⟨h1,h2⟩ ih
theorem KV.length{aD:List (κ×V)}{vs:List (κ×Value)}(r:KV aD vs):aD.length=vs.length:=Paired.length r
end
theorem KC{P:Program}{w:World}{k:Key}{u:Value}(r:RelV (kV k) u):(nV P w).is k u=true:=by
 cases k with
 | inl i=>obtain ⟨t,e⟩:=(show ∃t,u=MJ i t from r);subst e;exact a96 P w i t
 | inr x=>obtain ⟨t,e⟩:=(show ∃t,u=Ek x t from r);subst e;exact a6A P w x t
theorem a8W{P:Program}{w:World}:∀{ks:List Key} {us:List Value},aF (ks.map kV) us->ItemsAre (nV P w) ks us
 | [],_,r=>by rw [Em] at r;cases r;exact .nil
 | k::ks,_,r=>by
  rw [gS] at r
  cases r with
  | cons h t=>exact .cons (KC h) (a8W t)
abbrev KT(H:Hp):List (List Key×V)->List (List Key×Addr×Value)->Prop:=Paired λp q=>p.1=q.1/\H q.2.1=some (.tup (p.1.map kV))/\RelV p.2 q.2.2
theorem KT.val{H:Hp}{aD:List (List Key×V)}{xs:List (List Key×Addr×Value)}(r:KT H aD xs)(k:List Key):jb (km aD k) ((atKey xs k).map (·.2)):=by
 induction r with
 | nil=>exact FN
 | @cons p q ps qs h t ih =>
  obtain ⟨h1,_,h2⟩:=h
  by_cases e:p.1=k
  .have e':q.1=k:=h1.symm.trans e
   have b:atKey (q::qs) k=some q.2:=by simp [atKey,Er,e']
   rw [US e,b];exact h2
  .have e':¬q.1=k:=λz=>e (h1.trans z)
   have b:atKey (q::qs) k=atKey qs k:=by simp [atKey,Er,e']
   rw [UR e,b];exact ih
theorem KT.DE{H:Hp}{aD:List (List Key×V)}{xs:List (List Key×Addr×Value)}(r:KT H aD xs)(k:List Key){y:V}{u:Value}(ry:RelV y u):
  KT H (aD.map λkv=>if kv.1=k then (kv.1,y) else kv) (xs.map (putAt k u)):=by
 induction r with
 | nil=>exact .nil
 | @cons p q ps qs h t ih =>
  rw [gS,gS]
  refine .cons ?_ ih
  obtain ⟨h1,h2,h3⟩:=h
  unfold putAt
  by_cases e:p.1=k
  .rw [if_pos e,if_pos (h1.symm.trans e)];exact ⟨h1,h2,ry⟩
  .rw [if_neg e,if_neg (λz=>e (h1.trans z))];exact ⟨h1,h2,h3⟩
theorem KT.put{H:Hp}{aD:List (List Key×V)}{xs:List (List Key×Addr×Value)}(r:KT H aD xs)(k:List Key){b:Addr}{y:V}{u:Value}(hb:H b=some (.tup (k.map kV)))(ry:RelV y u):
  KT H (putK aD k y) (storedH xs k b u):=by
 have e:(aD.any λkv=>decide (kv.1=k))=(atKey xs k).isSome:=by
  rw [b0F,(r.val k).hV,Sv]
 unfold putK storedH
 rw [e]
 by_cases q:(atKey xs k).isSome=true
 .rw [if_pos q,if_pos q];exact r.DE k ry
 .rw [if_neg q,if_neg q];exact Paired.snoc r ⟨rfl,hb,ry⟩
theorem KT.keeps{H H':Hp}{aD:List (List Key×V)}{xs:List (List Key×Addr×Value)}(r:KT H aD xs)(ht:∀b ys,H b=some (.tup ys)->H' b=some (.tup ys)):KT H' aD xs:=
 Paired.DQ r λ_ _ z=>⟨z.1,ht _ _ z.2.1,z.2.2⟩
section
variable {P:Program}{w:World}{H:Hp}{h:Heap}{a:Addr}
theorem YK{u:HO}(ok:jc P w H h)(e:Rd H a u):cM P w H h a u:=e.ok ok
theorem Gh{aD:List (Key×V)}(ok:jc P w H h)(e:Rd H a (.dK aD)):aD.length<=sizeLine/\(a==sysModules)=false/\∃vs,KV aD vs/\h.DictOf (nV P w) a vs:=
 show cM P w H h a (.dK aD) from YK ok e
theorem JM{aD:List (Key×V)}(ok:jc P w H h)(e:H a=some (.dK aD)):aD.length<=sizeLine/\(a==sysModules)=false/\∃vs,KV aD vs/\h.DictOf (nV P w) a vs:=Gh ok (.inl e)
theorem KO{ks:List Key}(ok:jc P w H h)(e:H a=some (.tup (ks.map kV))):(tupleKind (nV P w)).is h ks a:=by
 obtain ⟨_,aB,r,o,h1,h2,n,h3⟩:=(show cM P w H h a (.tup (ks.map kV)) from ok a _ e)
 exact ⟨o,aB.toArray,n,h1,h2,h3,by simpa using a8W r⟩
theorem Gi{aD:List (List Key×V)}(ok:jc P w H h)(e:Rd H a (.dT aD)):aD.length<=sizeLine/\(a==sysModules)=false /\
  ∃xs,KT H aD xs/\h.DictOfH (tupleKind (nV P w)) a xs:=by
 obtain ⟨z,y,xs,r,o,es,ep,h1,h2,h3,h4,h5⟩:=(show cM P w H h a (.dT aD) from YK ok e)
 refine ⟨z,y,xs,r,o,es,ep,h1,h2,h3,h4,λx hx=>?_,h5⟩
 have all:∀{l:List (List Key×V)} {m:List (List Key×Addr×Value)},KT H l m->∀x∈m,(tupleKind (nV P w)).is h x.1 x.2.1:=by
  intro l m q
  induction q with
  | nil=>intro x hx;exact nomatch hx
  | @cons p q ps qs hq t ih =>
   intro x hx
   rcases ej.mp hx with e | hx
   .subst e
    exact KO ok (by rw [<-hq.1];exact hq.2.1)
   .exact ih x hx
 exact all r x hx
theorem JL{aD:List (List Key×V)}(ok:jc P w H h)(e:H a=some (.dT aD)):aD.length<=sizeLine/\(a==sysModules)=false /\
  ∃xs,KT H aD xs/\h.DictOfH (tupleKind (nV P w)) a xs:=Gi ok (.inl e)
end
def j5(H:Hp)(a:Addr)(y:V)(r:Option V):Prop:=
 (∃aD k,Rd H a (.dK aD)/\y=kV k/\r=km aD k)\/∃aD k b,Rd H a (.dT aD)/\y=.ref b/\H b=some (.tup (k.map kV))/\r=km aD k
def sr(H:Hp)(a:Addr)(y v:V)(H':Hp):Prop:=
 (∃aD k,H a=some (.dK aD)/\y=kV k/\aD.length<sizeLine/\H'=upd H a (.dK (putK aD k v))) \/
 ∃aD k b,H a=some (.dT aD)/\y=.ref b/\H b=some (.tup (k.map kV))/\aD.length<sizeLine/\H'=upd H a (.dT (putK aD k v))
theorem j5.k{H:Hp}{a:Addr}{aD:List (Key×V)}{k:Key}(e:H a=some (.dK aD)):j5 H a (kV k) (km aD k):=.inl ⟨aD,k,.inl e,rfl,rfl⟩
theorem j5.t{H:Hp}{a b:Addr}{aD:List (List Key×V)}{k:List Key}(e:H a=some (.dT aD))(eb:H b=some (.tup (k.map kV))):j5 H a (.ref b) (km aD k):=.inr ⟨aD,k,b,.inl e,rfl,eb,rfl⟩
theorem sr.k{H:Hp}{a:Addr}{aD:List (Key×V)}{k:Key}{v:V}(e:H a=some (.dK aD))(hl:aD.length<sizeLine):sr H a (kV k) v (upd H a (.dK (putK aD k v))):=.inl ⟨aD,k,e,rfl,hl,rfl⟩
theorem sr.t{H:Hp}{a b:Addr}{aD:List (List Key×V)}{k:List Key}{v:V}(e:H a=some (.dT aD))(eb:H b=some (.tup (k.map kV)))(hl:aD.length<sizeLine):
  sr H a (.ref b) v (upd H a (.dT (putK aD k v))):=.inr ⟨aD,k,b,e,rfl,eb,hl,rfl⟩
section
variable {X:Cx}{pins:List (Addr×Obj)}{σ:St}{H:Hp}{s:Shared}{a:Addr}{y v:V}{u r:Value}{o:Option V}{A:Around}{E:Value->Shared->Prop}
theorem Inv.big(I:Inv X pins σ H s):sysModules<s.heap.objs.size:=by
 have h:mainGlobals<s.heap.objs.size:=(I.mod.glob.keeps I.bk).lt
 exact CZ (by decide) h
theorem b3S{Q:Value->Shared->Prop}(hu:A.units+1<cLine)(I:Inv X pins σ H s)(g:j5 H a y (some v))(ry:RelV y u)(h:∀w' s',Inv X pins σ H s'->RelV v w'->Q w' s'):
  wpAny (model X.prog X.w) A (getItem (.ref a) u) Q E s:=by
 rcases g with ⟨aD,k,e,ey,l⟩ | ⟨aD,k,b,e,ey,eb,l⟩
 .subst ey
  obtain ⟨z,hd,vs,rel,dd⟩:=Gh I.bE e
  obtain ⟨w',hw,Bz⟩:=jb.some_of (v:=v) (o:=valueAt vs k) (by rw [l];exact rel.val k)
  exact wpAny_getItem_of (KC ry) dd.mapOf hw (h w' _ (I.tok _) Bz)
 .subst ey
  cases (show u=dJ b from ry)
  obtain ⟨z,hd,xs,rel,dd⟩:=Gi I.bE e
  obtain ⟨w',hw,Bz⟩:=jb.some_of (v:=v) (o:=(atKey xs k).map (·.2)) (by rw [l];exact rel.val k)
  obtain ⟨p,hp,Mj⟩:=F'.mp hw
  refine wpAny_getItem_heap (MV hu) (KO I.bE eb) dd hp ?_
  rw [Mj]
  exact h w' _ (I.tok _) Bz
theorem RN{Q:Value->Shared->Prop}(hu:A.units+1<cLine)(I:Inv X pins σ H s)(g:j5 H a y o)(ry:RelV y u)(h:∀s',Inv X pins σ H s'->Q (.bool o.isSome) s'):
  wpAny (model X.prog X.w) A (compareOp .In u (.ref a)) Q E s:=by
 rcases g with ⟨aD,k,e,ey,l⟩ | ⟨aD,k,b,e,ey,eb,l⟩
 .subst ey
  obtain ⟨z,hd,vs,rel,dd⟩:=Gh I.bE e
  refine wpAny_in_of (KC ry) hd dd.mapOf ?_
  rw [<-(rel.val k).hV,<-l]
  exact h _ (I.tok _)
 .subst ey
  cases (show u=dJ b from ry)
  obtain ⟨z,hd,xs,rel,dd⟩:=Gi I.bE e
  refine wpAny_in_heap (MV hu) (KO I.bE eb) hd dd ?_
  have q:=(rel.val k).hV
  rw [Sv] at q
  rw [<-q,<-l]
  exact h _ (I.tok _)
theorem b8h{Q:Value->Shared->Prop}(hu:A.units+1<cLine)(I:Inv X pins σ H s)(g:j5 H a y o)(ry:RelV y u)(h:∀s',Inv X pins σ H s'->Q (.bool (!o.isSome)) s'):
  wpAny (model X.prog X.w) A (compareOp .NotIn u (.ref a)) Q E s:=by
 rcases g with ⟨aD,k,e,ey,l⟩ | ⟨aD,k,b,e,ey,eb,l⟩
 .subst ey
  obtain ⟨z,hd,vs,rel,dd⟩:=Gh I.bE e
  refine wpAny_notIn_of (KC ry) hd dd.mapOf ?_
  rw [<-(rel.val k).hV,<-l]
  exact h _ (I.tok _)
 .subst ey
  cases (show u=dJ b from ry)
  obtain ⟨z,hd,xs,rel,dd⟩:=Gi I.bE e
  refine wpAny_notIn_heap (MV hu) (KO I.bE eb) hd dd ?_
  have q:=(rel.val k).hV
  rw [Sv] at q
  rw [<-q,<-l]
  exact h _ (I.tok _)
theorem ZK{h':Heap}{t':Nat}{ob:HO}(I:Inv X pins σ H s)(mu:LL (H a))(hs:Aa a s.heap h')(he:∃q,h'.get? a=some q)(new:cM X.prog X.w (upd H a ob) h' a ob):
  Inv X pins σ (upd H a ob) { s with heap:=h',toks:=t' }:=
 I.write (x:=a) (e:=a) mu (.inl rfl) (λb q hb z=>(hs.2 b hb).trans z) he new
theorem c0Z{P:Program}{w:World}{H':Hp}{h':Heap}{aD:List (Key×V)}{vs:List (Key×Value)}(z:aD.length<=sizeLine)(hd:(a==sysModules)=false)(rel:KV aD vs)(dd:h'.DictOf (nV P w) a vs):
  cM P w H' h' a (.dK aD):=⟨z,hd,vs,rel,dd⟩
theorem b3R{H':Hp}{Q:Unit->Shared->Prop}(hu:A.units+1<cLine)(I:Inv X pins σ H s)(g:sr H a y v H')(ry:RelV y u)(rv:RelV v r)(h:∀s',Inv X pins σ H' s'->Q () s'):
  wpAny (model X.prog X.w) A (setItem (.ref a) u r) Q E s:=by
 rcases g with ⟨aD,k,e,ey,l,eH⟩ | ⟨aD,k,b,e,ey,eb,l,eH⟩
 .subst ey eH
  obtain ⟨z,hd,vs,rel,dd⟩:=JM I.bE e
  have hz:vs.length<=sizeLine:=by rw [<-rel.length];exact z
  have hl:(putK aD k v).length<=sizeLine:=by have:=a6H aD k v;omega
  refine wpAny_setItem_pairs (hsz:=hz) (KC ry) dd λh' MF hs=>h _ ?_
  have he:∃q,h'.get? a=some q:=let ⟨q,_,_,hq,_⟩:=MF;⟨q,hq⟩
  exact ZK I (by rw [e];exact FN) hs he (c0Z hl hd (rel.put k rv) MF)
 .subst ey eH
  cases (show u=dJ b from ry)
  obtain ⟨z,hd,xs,rel,dd⟩:=JL I.bE e
  have hz:xs.length<=sizeLine:=by rw [<-Paired.length rel];exact z
  have hl:(putK aD k v).length<=sizeLine:=by have:=a6H aD k v;omega
  refine wpAny_setItem_heap (hsz:=hz) (MV hu) (KO I.bE eb) dd λh' MF hs=>h _ ?_
  obtain ⟨q,es,ep,hq,h2,h3,h4,_,h5⟩:=MF
  refine ZK I (by rw [e];exact FN) hs ⟨q,hq⟩ ⟨hl,hd,_,(rel.put k eb rv).keeps λc ys ec=>?_,q,es,ep,hq,h2,h3,h4,h5⟩
  rw [fm (Ip ec e (λz=>nomatch z))]
  exact ec
end
section
variable {X:Cx}{pins:List (Addr×Obj)}{σ:St}{H:Hp}{s:Shared}{a:Addr}{aD:List (Key×V)}{k:Key}{u:Value}{A:Around}{E:Value->Shared->Prop}
end
def Ct(i:Expr):Prop:=∀ov iv,subscripted i false ov iv=operate [ov,iv] (getItem ov iv)
theorem b62{prog:Program}{w:World}{A:Around}{E:Value->Shared->Prop}{s:Shared}{env:Env}{value slice:Expr}{pos:Pos}{T id:String}{Q:Value->Shared->Prop}
  (hl:typeLookup (.type T) "__getitem__" = pure (some (.builtin id)))(hs:Ct slice)
  (h:wpAny (model prog w) A (eval value env) (λo aT=>wpAny (model prog w) A (eval slice env) (λi fF=>fF.TypeIs o T/\wpAny (model prog w) A (getItem o i) Q E fF) E aT) E s):
  wpAny (model prog w) A (eval (.Subscript value slice pos) env) Q E s:=by
 refine Subscript_ (lL h (λo aT h₁=>lL h₁ (λi fF zD=>?_) λ_ _ x=>x) λ_ _ x=>x)
 obtain ⟨hT,zD⟩:=zD
 unfold subscriptTail
 refine aI ?_
 rw [getitemInPython_of_ne hT.not_modules]
 refine aI (wpAny_specialOf hT hl ?_)
 have fin:wpAny (model prog w) A (subscripted slice false o i) (λr pY=>wpAny (model prog w) A (letTemporaryGo value o r >>= λ_=>pure r) Q E pY) E fF:=by
  rw [hs o i]
  exact wpAny_operating (lL zD (λr pY BI=>aI (wpAny_letTemporaryGo (b9 BI))) λ_ _ x=>x)
 first
  | exact b9 (aI fin)
  | exact aI (b9 (aI fin))
  | exact aI fin
theorem b0r{X:Cx}{pins:List (Addr×Obj)}{σ:St}{H:Hp}{s:Shared}{a:Addr}{y:V}{o:Option V}(I:Inv X pins σ H s)(g:j5 H a y o):s.TypeIs (.ref a) "dict":=by
 rcases g with ⟨aD,k,e,_,_⟩ | ⟨aD,k,b,e,_,_,_⟩
 .obtain ⟨_,_,vs,_,dd⟩:=Gh I.bE e
  exact dd.typeIs
 .obtain ⟨_,_,xs,_,dd⟩:=Gi I.bE e
  exact dd.typeIs
noncomputable def Hq(td ty:TE):TE:=λσ H Q=>td σ H λx H1=>ty σ H1 λy H2=>∃a v,x=.ref a/\j5 H2 a y (some v)/\Q v H2
noncomputable def Dz(ty td:TE):TE:=λσ H Q=>ty σ H λy H1=>td σ H1 λx H2=>∃a o,x=.ref a/\j5 H2 a y o/\Q (.bl o.isSome) H2
noncomputable def K0(ty td:TE):TE:=λσ H Q=>ty σ H λy H1=>td σ H1 λx H2=>∃a o,x=.ref a/\j5 H2 a y o/\Q (.bl (!o.isSome)) H2
noncomputable def HG(td ty tv:TE):TS:=λD σ H=>tv σ H λv H1=>td σ H1 λx H2=>ty σ H2 λy H3=>∃a H4,x=.ref a/\sr H3 a y v H4/\D.nx σ H4
section
variable {X:Cx}{o i e value:Expr}{pos pos' PU:Pos}{td ty tv:TE}
theorem b7k(hu:X.A.units+1<cLine)(ho:PE X o td)(hi:PE X i ty)(hs:Ct i):PE X (.Subscript o i pos) (Hq td ty):=by
 intro pins s σ H Q I h
 refine b62 PySem.F.slot_dict_getitem.lookup hs (cn (ho pins s σ H _ I h) λu s1 ⟨x,H1,I1,rx,q1⟩=>cn (hi pins s1 σ H1 _ I1 q1) λiv s2 ⟨y,H2,I2,ry,a,v,ex,g,q2⟩=>?_)
 subst ex
 obtain rfl:u=dJ a:=rx
 exact ⟨b0r I2 g,b3S hu I2 g ry λw' s3 I3 Bz=>⟨v,H2,I3,Bz,q2⟩⟩
theorem b91(hu:X.A.units+1<cLine)(hi:PE X i ty)(ho:PE X o td):PC X .In i o (Dz ty td):=by
 intro pins s σ H Q I h
 refine cn (hi pins s σ H _ I h) λiv s1 ⟨y,H1,I1,ry,q1⟩=>cn (ho pins s1 σ H1 _ I1 q1) λu s2 ⟨x,H2,I2,rx,a,ov,ex,g,q2⟩=>?_
 subst ex
 obtain rfl:u=dJ a:=rx
 exact RN hu I2 g ry λs3 I3=>⟨.bl ov.isSome,H2,I3,rfl,q2⟩
theorem a8H(hu:X.A.units+1<cLine)(hi:PE X i ty)(ho:PE X o td):PC X .NotIn i o (K0 ty td):=by
 intro pins s σ H Q I h
 refine cn (hi pins s σ H _ I h) λiv s1 ⟨y,H1,I1,ry,q1⟩=>cn (ho pins s1 σ H1 _ I1 q1) λu s2 ⟨x,H2,I2,rx,a,ov,ex,g,q2⟩=>?_
 subst ex
 obtain rfl:u=dJ a:=rx
 exact b8h hu I2 g ry λs3 I3=>⟨.bl (!ov.isSome),H2,I3,rfl,q2⟩
theorem b7d(hu:X.A.units+1<cLine)(ho:PE X o td)(hi:PE X i ty)(hv:PE X value tv)(hs:swapsWith value (some (.Subscript o i pos')) pos.line X.env=pure false):
  PS X (.Assign [.Subscript o i pos'] value pos) (HG td ty tv):=by
 intro pins s σ H D I h
 refine wpAny_Assign_Subscript (cn (hv pins s σ H _ I h) λr s1 ⟨v,H1,I1,rv,q1⟩=>cn (ho pins s1 σ H1 _ I1 q1) λu s2 ⟨x,H2,I2,rx,q2⟩=>cn (hi pins s2 σ H2 _ I2 q2) λiv s3 ⟨y,H3,I3,ry,a,H4,ex,g,q3⟩=>?_) hs
 subst ex
 obtain rfl:u=dJ a:=rx
 exact b3R hu I3 g ry rv λs4 I4=>⟨σ,H4,I4,q3⟩
end
theorem b5s{P:Program}{w:World}{H:Hp}(h:Heap)(hb:sysModules<h.objs.size):cM P w H (h.push { cls:=.type "dict",data:=.dict #[] }) h.objs.size (.dK []):=
 ⟨vF _,beq_eq_false_iff_ne.mpr (l5 (gi hb)),[],.nil,XJ h⟩
noncomputable def b9t:TE:=λ_ H Q=>∀p,H p=none->Q (.ref p) (upd H p (.dK []))
section
variable {X:Cx}{pos:Pos}
theorem b4D:PE X (.Dict [] [] pos) b9t:=λpins s σ H Q I h =>
 wpAny_Dict_empty ⟨.ref s.heap.objs.size,_,I.laid (a:=s.heap.objs.size) (o:=.dK []) (t':=s.toks) (λ_ _ q=>ft _ q) (cT _) (b5s s.heap I.big),rfl,h _ (I.bE.fresh (cT _))⟩
end
structure M1(X:Cx)(o:Expr)(m:Str)(apos:Pos)(e:Expr)(au:Pos):Prop where
 base:attributeBase o m X.env (eval o X.env)=eval o X.env
 JB:((backTo au (starEach [e] X.env)).all (λx=>!x.1)&&(backToKw au (keywordEach [] X.env)).all (λx=>x.1.isSome)
  && decide (([e]:List Expr).length+([]:List Keyword).length+(if ([]:List Keyword).isEmpty then 0 else 1)<30))=true
 line:(apos.endLine==au.line)=true
 trees:backTo au (starEach [e] X.env)=[(false,eval e X.env)]
structure M2(X:Cx)(o:Expr)(m:Str)(apos:Pos)(e f:Expr)(au:Pos):Prop where
 base:attributeBase o m X.env (eval o X.env)=eval o X.env
 JB:((backTo au (starEach [e,f] X.env)).all (λx=>!x.1)&&(backToKw au (keywordEach [] X.env)).all (λx=>x.1.isSome)
  && decide (([e,f]:List Expr).length+([]:List Keyword).length+(if ([]:List Keyword).isEmpty then 0 else 1)<30))=true
 line:(apos.endLine==au.line)=true
 trees:backTo au (starEach [e,f] X.env)=[(false,eval e X.env),(false,eval f X.env)]
def IsD(H:Hp)(a:Addr):Prop:=(∃aD,Rd H a (.dK aD))\/∃aD,Rd H a (.dT aD)
theorem c0u{X:Cx}{pins:List (Addr×Obj)}{σ:St}{H:Hp}{s:Shared}{a:Addr}(I:Inv X pins σ H s)(d:IsD H a):
  s.TypeIs (.ref a) "dict" /\ (∀b,dJ a=.ref b->∃ob,s.heap.get? b=some ob/\ob.dict=none)/\(a==sysModules)=false:=by
 rcases d with ⟨aD,e⟩ | ⟨aD,e⟩
 .obtain ⟨_,hd,vs,_,dd⟩:=Gh I.bE e
  refine ⟨dd.typeIs,λb q=>?_,hd⟩
  cases q
  obtain ⟨ob,_,_,h1,h2,_⟩:=dd
  exact ⟨ob,h1,h2.2.1⟩
 .obtain ⟨_,hd,xs,_,dd⟩:=Gi I.bE e
  refine ⟨dd.typeIs,λb q=>?_,hd⟩
  cases q
  obtain ⟨ob,_,_,h1,h2,_⟩:=dd
  exact ⟨ob,h1,h2.2.1⟩
section
variable {X:Cx}{pins:List (Addr×Obj)}{σ:St}{H:Hp}{s:Shared}{a:Addr}{y d:V}{u r:Value}{o:Option V}{A:Around}{E:Value->Shared->Prop}
end
section
variable {X:Cx}{o e f:Expr}{apos au:Pos}{td ty tx:TE}
end
section
variable {X:Cx}{pins:List (Addr×Obj)}{σ:St}{H:Hp}{s:Shared}{a:Addr}{aD:List (Key×V)}{A:Around}{E:Value->Shared->Prop}
end
section
variable {X:Cx}{pins:List (Addr×Obj)}{σ:St}{H:Hp}{s:Shared}{a:Addr}{y:V}{u:Value}{A:Around}{E:Value->Shared->Prop}
end
end L2
namespace DL
open PySem PySem.Spec PyProof.Rows L2
section
variable {prog:Program}{w:World}{A:Around}{E:Value->Shared->Prop}{s:Shared}
theorem b5u{ws:List Value}(ht:IsTup s.heap t #[])(hb:IsTup s.heap b ws.toArray)(h1:Q (.ref b) s):wpAny (model prog w) A (binaryOp .Add (.ref t) (.ref b)) Q E s:=by
 obtain ⟨⟨cls,dd,data,sl⟩,ho,hc,n,hd⟩:=id ht
 obtain ⟨⟨RP,ME,data2,Hz⟩,DZ,BO,n2,hd2⟩:=id hb
 simp only at hc hd BO hd2
 subst hc hd BO hd2
 exact concat_meets ⟨_,ho,rfl⟩ ⟨_,DZ,rfl⟩ SR RS SY S4 (S7 _ _)
   (tuple_addW0 t b #[] ws.toArray n n2 dd ME sl Hz rfl) ⟨ho,DZ,h1⟩
end
section
variable {X:Cx}
noncomputable def HQ(K:aJ):R2:=λx y H Q=>∃a b ys,x=.ref a/\y=.ref b/\jP K H a []/\jP K H b ys/\Q (.ref b) H
theorem b7r:ml X (binaryOp .Add) (HQ X.K):=by
 intro pins s σ H x y v u Q I rx ry h
 obtain ⟨a,b,ys,rfl,rfl,ha,hb,q1⟩:=h
 cases rx
 cases ry
 obtain ⟨aB,r1,p1,_⟩:=I.tuple ha
 obtain ⟨gk,r2,p2,_⟩:=I.tuple hb
 cases r1
 exact b5u p1 p2 ⟨.ref b,H,I,rfl,q1⟩
end
end DL
namespace DL
open PySem PySem.Spec PyProof.Rows L2
inductive D where
 | cD | bl (b:Bool) | int (i:Int) | str (x:Str) | tup (ds:List D) | lst (ro:Bool) (ds:List D) | exc (n:Str) | j9 (fz:Bool) (aD:List (Int×Int))
 | obj (c:Str) (ns:List Str) (ds:List D) | ic (ks:List Str) (ds:List D) | dq (ks:List Str) (ds:List D)
 deriving Inhabited
inductive Sl where
 | no | sh (d:D) | ow (ds:List D) | dw (aD:List (Int×Int)) | tw (ks:List Str) (ds:List D)
 deriving Inhabited
noncomputable abbrev En:=List Sl
noncomputable def Sl.d:Sl->D
 | .no=>.cD
 | .sh d=>d
 | .ow ds=>.lst false ds
 | .dw aD=>.j9 false aD
 | .tw ks ds=>.ic ks ds
def m5(p C:Addr)(h:Heap):Prop:=∃o,h.get? p=some o/\o.cls=.ref C
noncomputable abbrev nK(ks:List Str)(vs:List V):HO:=.dK ((ks.zip vs).map λq=>(.inr q.1,q.2))
mutual
inductive Is (K:aJ) (O:Addr->Prop) (H:Hp):V->D->Prop
 | cD:Is K O H .cD .cD
 | bl (b:Bool):Is K O H (.bl b) (.bl b)
 | int (i:Int):Is K O H (.int i) (.int i)
 | str (x:Str):Is K O H (.str x) (.str x)
 | tup {p:Addr} {xs:List V} {ds:List D} (ho:¬O p) (hp:Rd H p (.tup xs)) (hs:aO K O H xs ds):Is K O H (.ref p) (.tup ds)
 | lO {p:Addr} {xs:List V} {ds:List D} (hp:jP K (λ_=>none) p xs) (hs:aO K O H xs ds):Is K O H (.ref p) (.tup ds)
 | lst {p:Addr} {xs:List V} {ds:List D} (ho:¬O p) (hp:H p=some (.lst xs)) (hs:aO K O H xs ds):Is K O H (.ref p) (.lst false ds)
 | nE {p:Addr} {xs:List V} {ds:List D} (ho:¬O p) (hp:Rd H p (.lst xs)) (hs:aO K O H xs ds):Is K O H (.ref p) (.lst true ds)
 | nF {p:Addr} {xs:List V} {ds:List D} (hp:iI K (λ_=>none) p xs) (hs:aO K O H xs ds):Is K O H (.ref p) (.lst true ds)
 | exc {p C:Addr} {n:Str} (ho:¬O p) (hn:kf K mainGlobals n=some (some (.ref C))) (hp:H p=some (.ext (m5 p C))):Is K O H (.ref p) (.exc n)
 | j9 {p:Addr} {aD:List (Int×Int)} (ho:¬O p) (hp:H p=some (.dK (aD.map λq=>(.inl q.1,.int q.2)))):Is K O H (.ref p) (.j9 false aD)
 | rL {p:Addr} {aD:List (Int×Int)} {o:Obj} (ho:¬O p) (hp:H p=some (.jJ o (.dK (aD.map λq=>(.inl q.1,.int q.2))))):Is K O H (.ref p) (.j9 true aD)
 | obj {p C dx:Addr} {c:Str} {ns:List Str} {vs:List V} {ds:List D} (ho:¬O p) (hn:kf K mainGlobals c=some (some (.ref C))) (hp:H p=some (.ins C dx (ns.zip vs))) (hl:ns.length=vs.length) (hs:aO K O H vs ds):Is K O H (.ref p) (.obj c ns ds)
 | ic {p:Addr} {ks:List Str} {vs:List V} {ds:List D} (ho:¬O p) (hp:H p=some (nK ks vs)) (hl:ks.length=vs.length) (hs:aO K O H vs ds):Is K O H (.ref p) (.ic ks ds)
 | dq {p:Addr} {ks:List Str} {vs:List V} {ds:List D} {o:Obj} (ho:¬O p) (hp:H p=some (.jJ o (nK ks vs))) (hl:ks.length=vs.length) (hs:aO K O H vs ds):Is K O H (.ref p) (.dq ks ds)
inductive aO (K:aJ) (O:Addr->Prop) (H:Hp):List V->List D->Prop
 | nil:aO K O H [] []
 | cons {x:V} {d:D} {xs:List V} {ds:List D} (h:Is K O H x d) (t:aO K O H xs ds):aO K O H (x::xs) (d::ds)
end
theorem Zq{O:Addr->Prop}{H H':Hp}(hH:∀q u,H q=some u->¬O q->H' q=some u){p:Addr}{u:HO}(ho:¬O p)(h:Rd H p u):Rd H' p u:=by
 rcases h with h | ⟨o,h⟩
 .exact .inl (hH p u h ho)
 .exact .inr ⟨o,hH p _ h ho⟩
theorem ZU(h:Rd H p u):H p≠none:=by
 rcases h with h | ⟨o,h⟩<;>rw [h]<;>exact λz=>nomatch z
theorem Og{K:aJ}{H:Hp}{p:Addr}{xs:List V}(h:iI K (λ_=>none) p xs):iI K H p xs:=by
 rcases h with (h | ⟨o,h⟩) | h
 .cases h
 .cases h
 .exact .inr h
theorem Oh{K:aJ}{H:Hp}{p:Addr}{xs:List V}(h:jP K (λ_=>none) p xs):jP K H p xs:=by
 rcases h with (h | ⟨o,h⟩) | h
 .cases h
 .cases h
 .exact .inr h
section
variable {K:aJ}{O O':Addr->Prop}{H H':Hp}
mutual
theorem Is.map(hO:∀q,H q≠none->¬O q->¬O' q)(hH:∀q u,H q=some u->¬O q->H' q=some u):∀{v:V} {d:D},Is K O H v d->Is K O' H' v d
 | _,_,.cD=>.cD
 | _,_,.bl b=>.bl b
 | _,_,.int i=>.int i
 | _,_,.str x=>.str x
 | _,_,.tup ho hp hs=>.tup (hO _ (ZU hp) ho) (Zq hH ho hp) (aO.map hO hH hs)
 | _,_,.lO hp hs=>.lO hp (aO.map hO hH hs)
 | _,_,.lst ho hp hs=>.lst (hO _ (by rw [hp];exact λz=>nomatch z) ho) (hH _ _ hp ho) (aO.map hO hH hs)
 | _,_,.nE ho hp hs=>.nE (hO _ (ZU hp) ho) (Zq hH ho hp) (aO.map hO hH hs)
 | _,_,.nF hp hs=>.nF hp (aO.map hO hH hs)
 | _,_,.exc ho hn hp=>.exc (hO _ (by rw [hp];exact λz=>nomatch z) ho) hn (hH _ _ hp ho)
 | _,_,.j9 ho hp=>.j9 (hO _ (by rw [hp];exact λz=>nomatch z) ho) (hH _ _ hp ho)
 | _,_,.rL ho hp=>.rL (hO _ (by rw [hp];exact λz=>nomatch z) ho) (hH _ _ hp ho)
 | _,_,.obj ho hn hp hl hs=>.obj (hO _ (by rw [hp];exact λz=>nomatch z) ho) hn (hH _ _ hp ho) hl (aO.map hO hH hs)
 | _,_,.ic ho hp hl hs=>.ic (hO _ (by rw [hp];exact λz=>nomatch z) ho) (hH _ _ hp ho) hl (aO.map hO hH hs)
 | _,_,.dq ho hp hl hs=>.dq (hO _ (by rw [hp];exact λz=>nomatch z) ho) (hH _ _ hp ho) hl (aO.map hO hH hs)
theorem aO.map(hO:∀q,H q≠none->¬O q->¬O' q)(hH:∀q u,H q=some u->¬O q->H' q=some u):∀{v:List V} {d:List D},aO K O H v d->aO K O' H' v d
 | _,_,.nil=>.nil
 | _,_,.cons h t=>.cons (Is.map hO hH h) (aO.map hO hH t)
end
theorem Is.grow(s:aE H H')(h:Is K O H v d):Is K O H' v d:=h.map (λ_ _ z=>z) λq u e _=>s q u e
theorem aO.grow(s:aE H H')(h:aO K O H v d):aO K O H' v d:=h.map (λ_ _ z=>z) λq u e _=>s q u e
theorem Is.less(hO:∀q,O' q->O q)(h:Is K O H v d):Is K O' H v d:=h.map (λ_ _ z w=>z (hO _ w)) λ_ _ e _=>e
theorem aO.less(hO:∀q,O' q->O q)(h:aO K O H v d):aO K O' H v d:=h.map (λ_ _ z w=>z (hO _ w)) λ_ _ e _=>e
theorem aO.length:∀{v:List V} {d:List D},aO K O H v d->v.length=d.length
 | _,_,.nil=>rfl
 | _,_,.cons _ t=>by rw [ia,ia,aO.length t]
theorem aO.append:∀{v w:List V} {d e:List D},aO K O H v d->aO K O H w e->aO K O H (v++w) (d++e)
 | _,_,_,_,.nil,s=>s
 | _,_,_,_,.cons h t,s=>.cons h (aO.append t s)
theorem aO.get:∀{v:List V} {ds:List D} {i:Nat} {d:D},aO K O H v ds->ds[i]?=some d->∃x,v[i]?=some x/\Is K O H x d
 | _,_,_,_,.nil,e=>by simp at e
 | _,_,0,_,.cons h _,e=>by simp at e;subst e;exact ⟨_,rfl,h⟩
 | _,_,i+1,d,.cons _ t,e=>by
  obtain ⟨u,h1,h2⟩:=aO.get (i:=i) (d:=d) t (by simpa using e)
  exact ⟨u,by simpa using h1,h2⟩
theorem aO.D8:∀{v:List V} {ds:List D} {i:Nat} {x:V},aO K O H v ds->v[i]?=some x->∃d,ds[i]?=some d/\Is K O H x d
 | _,_,_,_,.nil,e=>by simp at e
 | _,_,0,_,.cons h _,e=>by simp at e;subst e;exact ⟨_,rfl,h⟩
 | _,_,i+1,d,.cons _ t,e=>by
  obtain ⟨u,h1,h2⟩:=aO.D8 (i:=i) (x:=d) t (by simpa using e)
  exact ⟨u,by simpa using h1,h2⟩
theorem aO.take:∀{v:List V} {d:List D} (n:Nat),aO K O H v d->aO K O H (v.take n) (d.take n)
 | _,_,0,_=>.nil
 | _,_,_+1,.nil=>.nil
 | _,_,n+1,.cons h t=>.cons h (aO.take n t)
theorem aO.drop:∀{v:List V} {d:List D} (n:Nat),aO K O H v d->aO K O H (v.drop n) (d.drop n)
 | _,_,0,h=>h
 | _,_,_+1,.nil=>.nil
 | _,_,n+1,.cons _ t=>aO.drop n t
theorem aO.set(h:Is K O H x d):∀{v:List V} {ds:List D} (n:Nat),aO K O H v ds->aO K O H (v.set n x) (ds.set n d)
 | _,_,_,.nil=>.nil
 | _,_,0,.cons _ t=>.cons h t
 | _,_,n+1,.cons h' t=>.cons h' (aO.set h n t)
theorem aO.gf(h:aO K O H v ds)(e:L2.gf ds i=some d):∃x,L2.gf v i=some x/\Is K O H x d:=by
 unfold L2.gf at e ⊢
 rw [h.length]
 cases q:mJ ds.length i with
 | none=>rw [q] at e;cases e
 | some j =>
  rw [q] at e
  exact h.get e
theorem aO.dropLast(h:aO K O H v d):aO K O H v.dropLast d.dropLast:=by
 rw [Yk,Yk,h.length]
 exact h.take _
theorem aO.ints:∀(ns:List Int),aO K O H (ns.map V.int) (ns.map D.int)
 | []=>.nil
 | n::r=>.cons (.int n) (aO.ints r)
def Sq(K:aJ)(H:Hp)(k:Bool)(p:Addr)(xs:List V):Prop:=if k=true then iI K H p xs else jP K H p xs
noncomputable def jj:D->Option (Bool×List D)
 | .tup ds=>some (false,ds)
 | .lst _ ds=>some (true,ds)
 | _=>none
theorem Is.seq(h:Is K O H v d)(e:jj d=some (k,ds)):∃p xs,v=.ref p/\Sq K H k p xs/\aO K O H xs ds:=by
 cases h with
 | tup ho hp hs=>cases e;exact ⟨_,_,rfl,.inl hp,hs⟩
 | lO hp hs=>cases e;exact ⟨_,_,rfl,Oh hp,hs⟩
 | lst ho hp hs=>cases e;exact ⟨_,_,rfl,.inl (.inl hp),hs⟩
 | nE ho hp hs=>cases e;exact ⟨_,_,rfl,.inl hp,hs⟩
 | nF hp hs=>cases e;exact ⟨_,_,rfl,Og hp,hs⟩
 | _=>cases e
end
theorem Sq.grow{K:aJ}{H H':Hp}{k:Bool}{p:Addr}{xs:List V}(s:aE H H')(h:Sq K H k p xs):Sq K H' k p xs:=by
 cases k with
 | true =>
  rcases h with (h | ⟨o,h⟩) | h
  .exact .inl (.inl (s _ _ h))
  .exact .inl (.inr ⟨o,s _ _ h⟩)
  .exact .inr h
 | false =>
  rcases h with (h | ⟨o,h⟩) | h
  .exact .inl (.inl (s _ _ h))
  .exact .inl (.inr ⟨o,s _ _ h⟩)
  .exact .inr h
noncomputable def Sl.own:Sl->Prop
 | .ow _=>True
 | .dw _=>True
 | .tw _ _=>True
 | _=>False
noncomputable abbrev RL(aD:List (Int×Int)):HO:=.dK (aD.map λq=>(.inl q.1,.int q.2))
def oG(σ:L2.St)(env:En)(p:Addr):Prop:=∃(i:Nat) (s:Sl),env[i]?=some s/\s.own/\σ[i]?=some (some (V.ref p))
abbrev OO(O:Addr->Prop)(σ:L2.St)(env:En)(q:Addr):Prop:=O q\/oG σ env q
theorem _root_.L2.Tb.grow{K:aJ}{H H':Hp}(s:aE H H')(h:Tb K H):Tb K H':=λc P e=>s _ _ (h c P e)
def Bq(K:aJ)(O:Addr->Prop)(H:Hp):Prop:=(∀q,O q->H q≠none)/\Tb K H
theorem Bq.grow{K:aJ}{O:Addr->Prop}{H H':Hp}(s:aE H H')(h:Bq K O H):Bq K O H':=⟨λq hq hn=>h.1 q hq (s.free hn),h.2.grow s⟩
structure Rel(K:aJ)(O:Addr->Prop)(B:Hp)(σ:L2.St)(H:Hp)(env:En):Prop where
 same:aE B H
 oy:Bq K O B
 len:σ.length=env.length
 sh:∀(i:Nat) (d:D),env[i]?=some (Sl.sh d)->∃v,σ[i]?=some (some v)/\Is K (OO O σ env) H v d
 ow:∀(i:Nat) (ds:List D),env[i]?=some (Sl.ow ds)->∃p xs,σ[i]?=some (some (V.ref p))/\B p=none/\H p=some (.lst xs)/\aO K (OO O σ env) H xs ds
 dw:∀(i:Nat) (aD:List (Int×Int)),env[i]?=some (Sl.dw aD)->∃p,σ[i]?=some (some (V.ref p))/\B p=none/\H p=some (RL aD)
 tw:∀(i:Nat) (ks:List Str) (ds:List D),env[i]?=some (Sl.tw ks ds)->∃p vs,σ[i]?=some (some (V.ref p))/\B p=none/\H p=some (nK ks vs)/\ks.length=vs.length/\aO K (OO O σ env) H vs ds
 sep:∀(i j:Nat) (ds es:Sl) (p:Addr),env[i]?=some ds->env[j]?=some es->σ[i]?=some (some (V.ref p))->σ[j]?=some (some (V.ref p))->ds.own->es.own->i=j
noncomputable def Res(K:aJ)(O:Addr->Prop)(B H:Hp)(v:V):Sl->Prop
 | .no=>False
 | .sh d=>Is K O H v d
 | .ow ds=>∃p xs,v=.ref p/\B p=none/\H p=some (.lst xs)/\aO K (λq=>O q\/q=p) H xs ds
 | .dw aD=>∃p,v=.ref p/\B p=none/\H p=some (RL aD)
 | .tw ks ds=>∃p vs,v=.ref p/\B p=none/\H p=some (nK ks vs)/\ks.length=vs.length/\aO K (λq=>O q\/q=p) H vs ds
section
variable {K:aJ}{O:Addr->Prop}{B H H' H1:Hp}{σ:L2.St}{env:En}{v:V}{r:Sl}
theorem Rel.ad(R:Rel K O B σ H env){i:Nat}{s:Sl}(h:env[i]?=some s)(ho:s.own):∃p u,σ[i]?=some (some (V.ref p))/\B p=none/\H p=some u:=by
 cases s with
 | ow ds=>obtain ⟨p,xs,e1,e2,e3,_⟩:=R.ow i ds h;exact ⟨p,_,e1,e2,e3⟩
 | dw aD=>obtain ⟨p,e1,e2,e3⟩:=R.dw i aD h;exact ⟨p,_,e1,e2,e3⟩
 | tw ks ds=>obtain ⟨p,vs,e1,e2,e3,_⟩:=R.tw i ks ds h;exact ⟨p,_,e1,e2,e3⟩
 | no=>exact ho.elim
 | sh d=>exact ho.elim
theorem Rel.oo(R:Rel K O B σ H env)(h:OO O σ env q):H q≠none:=by
 rcases h with h | ⟨i,s,h1,ho,h2⟩
 .intro z
  exact R.oy.1 q h (R.same.free z)
 .obtain ⟨p,u,e1,_,e3⟩:=R.ad h1 ho
  rw [h2] at e1
  cases e1
  rw [e3];exact λz=>nomatch z
theorem Rel.dm(R:Rel K O B σ H env):Bq K (OO O σ env) H:=⟨λ_=>R.oo,R.oy.2.grow R.same⟩
theorem Rel.grow(R:Rel K O B σ H env)(s:aE H H'):Rel K O B σ H' env where
 same:=R.same.trans s
 oy:=R.oy
 len:=R.len
 sh:=λi d e=>let ⟨v,e1,h⟩:=R.sh i d e;⟨v,e1,h.grow s⟩
 ow:=λi ds e=>let ⟨p,xs,e1,e2,e3,h⟩:=R.ow i ds e;⟨p,xs,e1,e2,s _ _ e3,h.grow s⟩
 dw:=λi aD e=>let ⟨p,e1,e2,e3⟩:=R.dw i aD e;⟨p,e1,e2,s _ _ e3⟩
 tw:=λi ks ds e=>let ⟨p,vs,e1,e2,e3,e4,h⟩:=R.tw i ks ds e;⟨p,vs,e1,e2,s _ _ e3,e4,h.grow s⟩
 sep:=R.sep
theorem Res.grow(s:aE H H')(h:Res K O B H v r):Res K O B H' v r:=by
 cases r with
 | no=>exact h
 | sh d=>exact Is.grow s h
 | ow ds=>obtain ⟨p,xs,e1,e2,e3,h⟩:=h;exact ⟨p,xs,e1,e2,s _ _ e3,h.grow s⟩
 | dw aD=>obtain ⟨p,e1,e2,e3⟩:=h;exact ⟨p,e1,e2,s _ _ e3⟩
 | tw ks ds=>obtain ⟨p,vs,e1,e2,e3,e4,h⟩:=h;exact ⟨p,vs,e1,e2,s _ _ e3,e4,h.grow s⟩
theorem Res.from(s:aE H1 B)(h:Res K O B H v r):Res K O H1 H v r:=by
 cases r with
 | no=>exact h
 | sh d=>exact h
 | ow ds=>obtain ⟨p,xs,e1,e2,e3,h⟩:=h;exact ⟨p,xs,e1,s.free e2,e3,h⟩
 | dw aD=>obtain ⟨p,e1,e2,e3⟩:=h;exact ⟨p,e1,s.free e2,e3⟩
 | tw ks ds=>obtain ⟨p,vs,e1,e2,e3,e4,h⟩:=h;exact ⟨p,vs,e1,s.free e2,e3,e4,h⟩
theorem Res.less(hO:∀q,O' q->O q)(h:Res K O B H v r):Res K O' B H v r:=by
 cases r with
 | no=>exact h
 | sh d=>exact Is.less hO h
 | ow ds=>obtain ⟨p,xs,e1,e2,e3,h⟩:=h;exact ⟨p,xs,e1,e2,e3,h.less λq z=>z.elim (λw=>.inl (hO _ w)) .inr⟩
 | dw aD=>exact h
 | tw ks ds=>obtain ⟨p,vs,e1,e2,e3,e4,h⟩:=h;exact ⟨p,vs,e1,e2,e3,e4,h.less λq z=>z.elim (λw=>.inl (hO _ w)) .inr⟩
theorem Res.is(hd:∀q,O q->B q≠none)(h:Res K O B H v r):Is K O H v r.d:=by
 cases r with
 | no=>exact h.elim
 | sh d=>exact h
 | ow ds =>
  obtain ⟨p,xs,rfl,e2,e3,h⟩:=h
  exact .lst (λz=>hd p z e2) e3 (h.less λ_=>.inl)
 | dw aD =>
  obtain ⟨p,rfl,e2,e3⟩:=h
  exact .j9 (λz=>hd p z e2) e3
 | tw ks ds =>
  obtain ⟨p,vs,rfl,e2,e3,e4,h⟩:=h
  exact .ic (λz=>hd p z e2) e3 e4 (h.less λ_=>.inl)
end
def EV(X:Cx)(e:Expr)(f:En->Option Sl):Prop:=
 ∃t:TE,PE X e t/\∀(O:Addr->Prop) (B:Hp) (σ:L2.St) (H:Hp) (env:En) (r:Sl) (Q:VK),Rel X.K O B σ H env->f env=some r ->
  (∀v H',aE H H'->Res X.K (OO O σ env) H H' v r->Q v H')->t σ H Q
def BV(X:Cx)(e:Expr)(f:En->Option (Bool×List D)):Prop:=
 ∃t:TE,PE X e t/\∀(O:Addr->Prop) (B:Hp) (σ:L2.St) (H:Hp) (env:En) (k:Bool) (ds:List D) (Q:VK),Rel X.K O B σ H env->f env=some (k,ds) ->
  (∀p xs H',aE H H'->Sq X.K H' k p xs->aO X.K (OO O σ env) H' xs ds->Q (.ref p) H')->t σ H Q
def AV(X:Cx)(es:List Expr)(f:En->Option (List D)):Prop:=
 ∃t:TA,PA X es t/\∀(O:Addr->Prop) (B:Hp) (σ:L2.St) (H:Hp) (env:En) (ds:List D) (Q:List V->Hp->Prop),Rel X.K O B σ H env->f env=some ds ->
  (∀vs H',aE H H'->aO X.K (OO O σ env) H' vs ds->Q vs H')->t σ H Q
def TV(X:Cx)(e:Expr)(f:En->Option Bool):Prop:=
 ∃t:TT,PT X e t/\∀(O:Addr->Prop) (B:Hp) (σ:L2.St) (H:Hp) (env:En) (b:Bool) (Q:Bool->Hp->Prop),Rel X.K O B σ H env->f env=some b ->
  (∀H',aE H H'->Q b H')->t σ H Q
def WV(X:Cx)(e:Expr)(f:En->Option Bool):Prop:=
 ∃t:TT,PW X e t/\∀(O:Addr->Prop) (B:Hp) (σ:L2.St) (H:Hp) (env:En) (b:Bool) (Q:Bool->Hp->Prop),Rel X.K O B σ H env->f env=some b ->
  (∀H',aE H H'->Q b H')->t σ H Q
inductive Fl where
 | nx | bk | ct | rt (r:Sl)
def Gd(σ:L2.St)(env:En)(H:Hp)(aK:L2.St)(af:En)(H':Hp):Prop:=∀q u,H q=some u->¬oG σ env q->H' q=some u/\¬oG aK af q
theorem Gd.trans(a:Gd σ env H lq env1 H1)(b:Gd lq env1 H1 dM bR H2):Gd σ env H dM bR H2:=λq u e n =>
 let ⟨e1,n1⟩:=a q u e n
 b q u e1 n1
theorem Gd.from(s:aE H H1)(b:Gd σ env H1 aK af H'):Gd σ env H aK af H':=λq u e n=>b q u (s _ _ e) n
theorem Gd.refl(s:aE H H'):Gd σ env H σ env H':=λq u e n=>⟨s _ _ e,n⟩
noncomputable def gD(K:aJ)(O:Addr->Prop)(B:Hp)(σ:L2.St)(H:Hp)(env:En)(D:Ends):Fl->En->Prop
 | .nx,af=>∀aK H',Rel K O B aK H' af->Gd σ env H aK af H'->D.nx aK H'
 | .bk,af=>∀aK H',Rel K O B aK H' af->Gd σ env H aK af H'->D.bk aK H'
 | .ct,af=>∀aK H',Rel K O B aK H' af->Gd σ env H aK af H'->D.ct aK H'
 | .rt r,_=>∀v H',aE B H'->Res K O B H' v r->D.rt v H'
theorem gD.from{K:aJ}{O:Addr->Prop}{B:Hp}{σ lq:L2.St}{H H1:Hp}{env env1:En}{D:Ends}{fl:Fl}{af:En}(g:Gd σ env H lq env1 H1)(h:gD K O B σ H env D fl af):gD K O B lq H1 env1 D fl af:=by
 cases fl with
 | nx=>exact λaK H' R g'=>h aK H' R (g.trans g')
 | bk=>exact λaK H' R g'=>h aK H' R (g.trans g')
 | ct=>exact λaK H' R g'=>h aK H' R (g.trans g')
 | rt r=>exact h
noncomputable abbrev SF:=En->Option (Fl×En)
def SV(X:Cx)(st:Stmt)(F:SF):Prop:=
 ∃t:TS,PS X st t/\∀(O:Addr->Prop) (B:Hp) (σ:L2.St) (H:Hp) (env:En) (fl:Fl) (af:En) (D:Ends),Rel X.K O B σ H env->F env=some (fl,af)->gD X.K O B σ H env D fl af->t D σ H
def oF(X:Cx)(st:List Stmt)(F:SF):Prop:=
 ∃t:TS,pO X st t/\∀(O:Addr->Prop) (B:Hp) (σ:L2.St) (H:Hp) (env:En) (fl:Fl) (af:En) (D:Ends),Rel X.K O B σ H env->F env=some (fl,af)->gD X.K O B σ H env D fl af->t D σ H
section
variable {X:Cx}{a b c:Expr}{pos:Pos}{fa fb fc:En->Option Sl}
noncomputable def eC(d:D):En->Option Sl:=λ_=>some (.sh d)
theorem aS{i j pos}:EV X (.Constant (.int i) j pos) (eC (.int i)):=⟨_,b9Y,λ_ _ _ _ _ _ _ _ e k=>by
 obtain rfl:=gY e
 exact k _ _ (aE.refl _) (Is.int i)⟩
theorem yL{i j pos}:EV X (.Constant (.bool i) j pos) (eC (.bl i)):=⟨_,HZ,λ_ _ _ _ _ _ _ _ e k=>by
 obtain rfl:=gY e
 exact k _ _ (aE.refl _) (Is.bl i)⟩
theorem bZ{x j pos}:EV X (.Constant (.str x) j pos) (eC (.str x)):=⟨_,b9T,λ_ _ _ _ _ _ _ _ e k=>by
 obtain rfl:=gY e
 exact k _ _ (aE.refl _) (Is.str x)⟩
noncomputable def L7:Option Sl->Option Sl
 | some (.sh d)=>some (.sh d)
 | _=>none
theorem b4o(h:L7 o=some r):∃d,o=some (Sl.sh d)/\r=.sh d:=by
 cases o with
 | none=>cases h
 | some s=>cases s with
  | sh d=>cases h;exact ⟨d,rfl,rfl⟩
  | no=>cases h
  | ow ds=>cases h
  | dw ds=>cases h
  | tw _ _=>cases h
noncomputable def eV(i:Nat):En->Option Sl:=λenv=>L7 env[i]?
theorem YS(i:Nat)(hN:X.N[i]?=some x:=by rfl)(hv:ib X.env.scope x:=by first | exact cZ rfl | exact cj (cZ rfl) | exact cj (cj rfl))(hd:(x==("__debug__":Str))=false:=by decide)
  (cE:(x==("__classdict__":Str))=false:=by decide):EV X (.Name x pos) (eV i):=⟨_,pN hN hv hd cE,λO B σ H env r Q R e k=>by
 obtain ⟨d,e1,rfl⟩:=b4o e
 obtain ⟨v,e2,h⟩:=R.sh i d e1
 exact ⟨v,e2,k v H (aE.refl _) h⟩⟩
noncomputable def DC:Option Sl->Option (Bool×List D)
 | some (.sh d)=>jj d
 | some (.ow ds)=>some (true,ds)
 | _=>none
noncomputable def bV(i:Nat):En->Option (Bool×List D):=λenv=>DC env[i]?
theorem c01(i:Nat)(hN:X.N[i]?=some x:=by rfl)(hv:ib X.env.scope x:=by first | exact cZ rfl | exact cj (cZ rfl) | exact cj (cj rfl))(hd:(x==("__debug__":Str))=false:=by decide)
  (cE:(x==("__classdict__":Str))=false:=by decide):BV X (.Name x pos) (bV i):=⟨_,pN hN hv hd cE,λO B σ H env k ds Q R e q=>by
 unfold bV at e
 cases h:env[i]? with
 | none=>rw [h] at e;cases e
 | some s =>
  rw [h] at e
  cases s with
  | no=>cases e
  | sh d =>
   obtain ⟨v,e2,hv⟩:=R.sh i d h
   obtain ⟨p,xs,rfl,h1,h2⟩:=hv.seq (show jj d=some (k,ds) from e)
   exact ⟨_,e2,q p xs H (aE.refl _) h1 h2⟩
  | dw es=>cases e
  | tw _ _=>cases e
  | ow es =>
   obtain ⟨rfl,rfl⟩:true=k/\es=ds:=Prod.mk.inj (gY e)
   obtain ⟨p,xs,e2,_,e3,h2⟩:=R.ow i es h
   exact ⟨_,e2,q p xs H (aE.refl _) (.inl (.inl e3)) h2⟩⟩
noncomputable def nk(f:En->Option Sl):En->Option (Bool×List D):=λenv=>(f env).bind λr=>jj r.d
theorem bind_some{α β:Type}{o:Option α}{f:α->Option β}{b:β}(h:o.bind f=some b):∃a,o=some a/\f a=some b:=by
 cases o with
 | none=>cases h
 | some a=>exact ⟨a,rfl,h⟩
theorem t7(h:EV X a fa):BV X a (nk fa):=by
 obtain ⟨t,ht,p⟩:=h
 refine ⟨t,ht,λO B σ H env k ds Q R e q=>?_⟩
 obtain ⟨r,e1,e2⟩:=bind_some e
 refine p O B σ H env r _ R e1 λv H' s h=>?_
 obtain ⟨p,xs,rfl,h1,h2⟩:=(h.is (λz=>R.oo)).seq e2
 exact q p xs H' s h1 h2
def n5(X:Cx)(f:Value->Value->Sem Value)(g:D->D->Option Sl):Prop:=
 ∃r:R2,ml X f r/\∀(O:Addr->Prop) (H:Hp) (x y:V) (a b:D) (s:Sl) (Q:VK),(∀q,O q->H q≠none)->Is X.K O H x a->Is X.K O H y b->g a b=some s ->
  (∀v H',aE H H'->Res X.K O H H' v s->Q v H')->r x y H Q
noncomputable def ag(g:D->D->Option Sl)(fa fb:En->Option Sl):En->Option Sl:=λenv=>(fa env).bind λx=>(fb env).bind λy=>g x.d y.d
theorem UE(hg:∀(O:Addr->Prop) (H:Hp) (x y:V) (a b:D) (s:Sl) (Q:VK),(∀q,O q->H q≠none)->Is X.K O H x a->Is X.K O H y b->g a b=some s->(∀v H',aE H H'->Res X.K O H H' v s->Q v H')->r x y H Q)(pa:∀(O:Addr->Prop) (B:Hp) (σ:L2.St) (H:Hp) (env:En) (r:Sl) (Q:VK),Rel X.K O B σ H env->fa env=some r->(∀v H',aE H H'->Res X.K (OO O σ env) H H' v r->Q v H')->ta σ H Q)
  (pb:∀(O:Addr->Prop) (B:Hp) (σ:L2.St) (H:Hp) (env:En) (r:Sl) (Q:VK),Rel X.K O B σ H env->fb env=some r->(∀v H',aE H H'->Res X.K (OO O σ env) H H' v r->Q v H')->tb σ H Q)
  (O:Addr->Prop)(B:Hp)(σ:L2.St)(H:Hp)(env:En)(s:Sl)(Q:VK)(R:Rel X.K O B σ H env)(e:ag g fa fb env=some s)
  (k:∀v H',aE H H'->Res X.K (OO O σ env) H H' v s->Q v H'):Hk r ta tb σ H Q:=by
 obtain ⟨x,e1,e⟩:=bind_some e
 obtain ⟨y,e2,e⟩:=bind_some e
 refine pa O B σ H env x _ R e1 λv H1 s1 h1=>?_
 refine pb O B σ H1 env y _ (R.grow s1) e2 λu H2 s2 h2=>?_
 have R2:=(R.grow s1).grow s2
 refine hg (OO O σ env) H2 v u x.d y.d s Q (λq=>R2.oo) ((h1.is λq=>R.oo).grow s2) (h2.is λq=>(R.grow s1).oo) e λw H3 s3 h3=>?_
 exact k w H3 ((s1.trans s2).trans s3) (h3.from (s1.trans s2))
theorem bW(ho:n5 X (binaryOp op) g)(ha:EV X a fa)(hb:EV X b fb):EV X (.BinOp a op b pos) (ag g fa fb):=by
 obtain ⟨r,hr,hg⟩:=ho
 obtain ⟨ta,pa,ka⟩:=ha
 obtain ⟨tb,pb,kb⟩:=hb
 exact ⟨_,HX hr pa pb,UE hg ka kb⟩
theorem NR(ho:n5 X (compareOp op) g)(ha:EV X a fa)(hb:EV X b fb)(hm:behindInMarks op b=false:=by exact Y7 _):EV X (.Compare a [op] [b] pos) (ag g fa fb):=by
 obtain ⟨r,hr,hg⟩:=ho
 obtain ⟨ta,pa,ka⟩:=ha
 obtain ⟨tb,pb,kb⟩:=hb
 exact ⟨_,b7l hr pa pb hm,UE hg ka kb⟩
noncomputable def nR:Option Sl->Option Bool
 | some (.sh (.bl b))=>some b
 | _=>none
theorem EU{b:Bool}(h:nR o=some b):o=some (Sl.sh (.bl b)):=by
 cases o with
 | none=>cases h
 | some s=>cases s with
  | no=>cases h
  | ow ds=>cases h
  | dw ds=>cases h
  | tw _ _=>cases h
  | sh d=>cases d<;>cases h;rfl
noncomputable def cR(f:En->Option Sl):En->Option Bool:=λenv=>nR (f env)
theorem C8{K:aJ}{O:Addr->Prop}{H:Hp}{v:V}{b:Bool}(h:Is K O H v (.bl b)):v=.bl b:=by cases h;rfl
theorem pA{K:aJ}{O:Addr->Prop}{H:Hp}{v:V}{b:Int}(h:Is K O H v (.int b)):v=.int b:=by cases h;rfl
theorem c0t{K:aJ}{O:Addr->Prop}{H:Hp}{v:V}(h:Is K O H v .cD):v=.cD:=by cases h;rfl
theorem pB{K:aJ}{O:Addr->Prop}{H:Hp}{v:V}{b:Str}(h:Is K O H v (.str b)):v=.str b:=by cases h;rfl
theorem gp(ho:n5 X (compareOp op) g)(ha:EV X a fa)(hb:EV X b fb)(hm:behindInMarks op b=false:=by exact Y7 _):TV X (.Compare a [op] [b] pos) (cR (ag g fa fb)):=by
 obtain ⟨r,hr,hg⟩:=ho
 obtain ⟨ta,pa,ka⟩:=ha
 obtain ⟨tb,pb,kb⟩:=hb
 refine ⟨_,b7c hr pa pb hm,λO B σ H env k Q R e q=>?_⟩
 exact UE hg ka kb O B σ H env _ _ R (EU e) λv H' s h=>⟨k,C8 h,q H' s⟩
noncomputable def oO:D->Option Bool
 | .cD=>some false
 | .bl b=>some b
 | .int i=>some (i != 0)
 | .str y=>if y.length<=16777216 then some ((y.length:Int) != 0) else none
 | .tup ds=>some (!ds.isEmpty)
 | .lst _ ds=>some (!ds.isEmpty)
 | .exc _=>none
 | .j9 _ _=>none
 | .obj _ _ _=>none
 | .ic _ _=>none
 | .dq _ _=>none
theorem aO.isEmpty{K:aJ}{O:Addr->Prop}{H:Hp}{xs:List V}{ds:List D}(h:aO K O H xs ds):xs.isEmpty=ds.isEmpty:=by cases h<;>rfl
theorem b6S{K:aJ}{O:Addr->Prop}{H:Hp}{v:V}{d:D}{b:Bool}(h:Is K O H v d)(e:oO d=some b):E6 K v H b:=by
 cases h with
 | cD=>cases e;rfl
 | bl b=>cases e;rfl
 | int i=>cases e;rfl
 | str x =>
  unfold oO at e
  dsimp only at e
  by_cases hl:x.length<=16777216
  .rw [if_pos hl] at e;cases e;exact ⟨by rw [lZ];exact hl,rfl⟩
  .rw [if_neg hl] at e;cases e
 | tup ho hp hs=>cases e;exact .inr (.inl ⟨_,.inl hp,by rw [hs.isEmpty]⟩)
 | lO hp hs=>cases e;exact .inr (.inl ⟨_,Oh hp,by rw [hs.isEmpty]⟩)
 | lst ho hp hs=>cases e;exact .inl ⟨_,.inl (.inl hp),by rw [hs.isEmpty]⟩
 | nE ho hp hs=>cases e;exact .inl ⟨_,.inl hp,by rw [hs.isEmpty]⟩
 | nF hp hs=>cases e;exact .inl ⟨_,Og hp,by rw [hs.isEmpty]⟩
 | exc ho hn hp=>cases e
 | j9 ho hp=>cases e
 | obj=>cases e
 | ic=>cases e
 | dq=>cases e
 | rL ho hp=>cases e
noncomputable def Dy(f:En->Option Sl):En->Option Bool:=λenv=>(f env).bind λr=>oO r.d
theorem b9n(ha:EV X a fa)(he:∀whole,isTrue a X.env whole=(do let v <-whole;standAt a.pos;holding [v] (truthy v)):=by intro _;rfl):TV X a (Dy fa):=by
 obtain ⟨ta,pa,ka⟩:=ha
 refine ⟨_,b0Q pa he,λO B σ H env k Q R e q=>?_⟩
 obtain ⟨r,e1,e2⟩:=bind_some e
 exact ka O B σ H env r _ R e1 λv H' s h=>⟨k,b6S (h.is λq=>R.oo) e2,q H' s⟩
noncomputable def ND(f:En->Option (Bool×List D)):En->Option Bool:=λenv=>(f env).bind λr=>some (!r.2.isEmpty)
theorem b6O{fa:En->Option (Bool×List D)}(ha:BV X a fa)(he:∀whole,isTrue a X.env whole=(do let v <-whole;standAt a.pos;holding [v] (truthy v)):=by intro _;rfl):TV X a (ND fa):=by
 obtain ⟨ta,pa,ka⟩:=ha
 refine ⟨_,b0Q pa he,λO B σ H env k Q R e q=>?_⟩
 obtain ⟨⟨kk,ds⟩,e1,e2⟩:=bind_some e
 cases e2
 refine ka O B σ H env kk ds _ R e1 λp xs H' s h hs=>⟨_,?_,q H' s⟩
 cases kk with
 | true=>exact .inl ⟨xs,h,by rw [hs.isEmpty]⟩
 | false=>exact .inr (.inl ⟨xs,h,by rw [hs.isEmpty]⟩)
noncomputable def Ag(f g:En->Option Bool):En->Option Bool:=λenv=>match f env with
 | some true=>g env
 | some false=>some false
 | none=>none
noncomputable def mE(f g:En->Option Bool):En->Option Bool:=λenv=>match f env with
 | some false=>g env
 | some true=>some true
 | none=>none
noncomputable def Kx(f:En->Option Bool):En->Option Bool:=λenv=>(f env).map (!·)
variable {ga gb:En->Option Bool}{rest:List Expr}
theorem Uz(ha:TV X a ga):WV X (.BoolOp .And [a] pos) ga:=let ⟨t,p,k⟩:=ha;⟨t,b7b p,k⟩
theorem Gw(ha:TV X a ga):WV X (.BoolOp .Or [a] pos) ga:=let ⟨t,p,k⟩:=ha;⟨t,b9I p,k⟩
theorem T9(ha:TV X a ga)(hb:WV X (.BoolOp .And (b::rest) pos) gb):WV X (.BoolOp .And (a::b::rest) pos) (Ag ga gb):=by
 obtain ⟨t,p,k⟩:=ha
 obtain ⟨u,p',k'⟩:=hb
 refine ⟨_,b9J p p',λO B σ H env d Q R e q=>?_⟩
 unfold Ag at e
 cases h:ga env with
 | none=>rw [h] at e;cases e
 | some x =>
  rw [h] at e
  refine k O B σ H env x _ R h λH1 s1=>?_
  cases x with
  | true =>
   rw [if_pos rfl]
   exact k' O B σ H1 env d Q (R.grow s1) e λH2 s2=>q H2 (s1.trans s2)
  | false =>
   cases e
   rw [if_neg vC]
   exact q H1 s1
theorem EI(ha:TV X a ga)(hb:WV X (.BoolOp .Or (b::rest) pos) gb):WV X (.BoolOp .Or (a::b::rest) pos) (mE ga gb):=by
 obtain ⟨t,p,k⟩:=ha
 obtain ⟨u,p',k'⟩:=hb
 refine ⟨_,pw_or p p',λO B σ H env d Q R e q=>?_⟩
 unfold mE at e
 cases h:ga env with
 | none=>rw [h] at e;cases e
 | some x =>
  rw [h] at e
  refine k O B σ H env x _ R h λH1 s1=>?_
  cases x with
  | false =>
   rw [if_neg vC]
   exact k' O B σ H1 env d Q (R.grow s1) e λH2 s2=>q H2 (s1.trans s2)
  | true =>
   cases e
   rw [if_pos rfl]
   exact q H1 s1
theorem oN(h:WV X a ga):TV X a ga:=let ⟨t,p,k⟩:=h;⟨t,p.pt,k⟩
theorem Zm(ha:TV X a ga):TV X (.UnaryOp .Not a pos) (Kx ga):=by
 obtain ⟨t,p,k⟩:=ha
 refine ⟨_,b9L p,λO B σ H env d Q R e q=>?_⟩
 unfold Kx at e
 cases h:ga env with
 | none=>rw [h] at e;cases e
 | some x =>
  rw [h] at e
  cases e
  exact k O B σ H env x _ R h λH1 s1=>q H1 s1
noncomputable def zO(f g:En->Option Sl):En->Option Sl:=λenv=>match nR (f env) with
 | some true=>g env
 | some false=>some (.sh (.bl false))
 | none=>none
theorem c0J(h:EV X a fa):EV X (.BoolOp op [a] pos) fa:=let ⟨t,p,k⟩:=h;⟨t,b9V p,k⟩
theorem c0M(ha:EV X a fa)(hb:EV X (.BoolOp .And (b::rest) pos) fb):EV X (.BoolOp .And (a::b::rest) pos) (zO fa fb):=by
 obtain ⟨t,p,k⟩:=ha
 obtain ⟨u,p',k'⟩:=hb
 refine ⟨_,b90 p p',λO B σ H env r Q R e q=>?_⟩
 unfold zO at e
 cases h:nR (fa env) with
 | none=>rw [h] at e;cases e
 | some x =>
  rw [h] at e
  refine k O B σ H env _ _ R (EU h) λv H1 s1 r1=>⟨x,C8 r1,?_⟩
  cases x with
  | true =>
   rw [if_pos rfl]
   exact k' O B σ H1 env r Q (R.grow s1) e λv2 H2 s2 r2=>q v2 H2 (s1.trans s2) (r2.from s1)
  | false =>
   obtain rfl:=gY e
   rw [if_neg vC]
   exact q _ H1 s1 (Is.bl false)
noncomputable def Jq:D->Option Sl
 | .int i=>some (.sh (.int (-i)))
 | _=>none
noncomputable def rK(f:En->Option Sl):En->Option Sl:=λenv=>(f env).bind λr=>Jq r.d
theorem Zl(ha:EV X a fa):EV X (.UnaryOp .USub a pos) (rK fa):=by
 obtain ⟨t,p,k⟩:=ha
 refine ⟨_,HW b9k p,λO B σ H env r Q R e q=>?_⟩
 obtain ⟨x,e1,e2⟩:=bind_some e
 refine k O B σ H env x _ R e1 λv H1 s1 r1=>?_
 have hi:=r1.is λq=>R.oo
 cases hd:x.d with
 | int i =>
  rw [hd] at hi e2
  obtain rfl:=pA hi
  obtain rfl:=gY e2
  exact ⟨i,rfl,q _ H1 s1 (Is.int _)⟩
 | _=>rw [hd] at e2;cases e2
variable {e:Expr}{es:List Expr}
noncomputable def ae:En->Option (List D):=λ_=>some []
noncomputable def ah(f:En->Option Sl)(g:En->Option (List D)):En->Option (List D):=λenv=>(f env).bind λr=>(g env).bind λds=>some (r.d::ds)
theorem aW:AV X [] ae:=⟨_,nv,λO B σ H env ds Q R e q=>by
 obtain rfl:=gY e
 exact q [] H (aE.refl _) .nil⟩
theorem aj(ha:EV X e fe)(hb:AV X es fs)(hs:starEach (e::es) X.env=(false,eval e X.env)::starEach es X.env:=by rfl):AV X (e::es) (ah fe fs):=by
 obtain ⟨t,p,k⟩:=ha
 obtain ⟨u,p',k'⟩:=hb
 refine ⟨_,lj p p' hs,λO B σ H env ds Q R e q=>?_⟩
 obtain ⟨r,e1,e2⟩:=bind_some e
 obtain ⟨ds',e4,e3⟩:=bind_some e2
 obtain rfl:=gY e3
 refine k O B σ H env r _ R e1 λv H1 s1 r1=>?_
 refine k' O B σ H1 env ds' _ (R.grow s1) e4 λvs H2 s2 r2=>?_
 exact q _ H2 (s1.trans s2) (.cons ((r1.is λq=>R.oo).grow s2) r2)
theorem nW(h:H p=none)(o:HO):aE H (upd H p o):=λb u q=>by rw [fm (qt q h)];exact q
noncomputable def iG(f:En->Option (List D)):En->Option Sl:=λenv=>(f env).bind λds=>if ds.length<=16777216 then some (.sh (.tup ds)) else none
noncomputable def cH(f:En->Option (List D)):En->Option Sl:=λenv=>(f env).bind λds=>if ds.length<=16777216 then some (.ow ds) else none
theorem jg{α:Type}{c:Prop}[Decidable c]{x y:α}(h:(if c then some x else none)=some y):c/\x=y:=by
 by_cases hc:c
 .rw [if_pos hc] at h;exact ⟨hc,gY h⟩
 .rw [if_neg hc] at h;cases h
theorem N6{K:aJ}{O:Addr->Prop}{H:Hp}{p:Addr}{xs:List V}{ds:List D}(hO:∀q,O q->H q≠none)(hp:H p=none)(h:aO K O H xs ds):Res K O H (upd H p (.tup xs)) (.ref p) (.sh (.tup ds)):=
 Is.tup (λz=>hO p z hp) (.inl lM) (h.grow (nW hp _))
theorem Gx{K:aJ}{O:Addr->Prop}{H:Hp}{p:Addr}{xs:List V}{ds:List D}(hp:H p=none)(h:aO K O H xs ds):Res K O H (upd H p (.lst xs)) (.ref p) (.ow ds):=
 ⟨p,xs,rfl,hp,lM,h.map (λq hq hn z=>z.elim hn λw=>hq (by rw [w];exact hp)) λq u e _=>nW hp _ q u e⟩
theorem vT{x1}(h:AV X es fs):EV X (.Tuple es x1 pos) (iG fs):=by
 obtain ⟨t,p,k⟩:=h
 refine ⟨_,Zb p,λO B σ H env r Q R e q=>?_⟩
 obtain ⟨ds,e1,e2⟩:=bind_some e
 obtain ⟨hl,rfl⟩:=jg e2
 refine k O B σ H env ds _ R e1 λvs H1 s1 r1=>⟨by rw [r1.length,lZ];exact hl,λp hp=>?_⟩
 exact q _ _ (s1.trans (nW hp _)) ((N6 (O:=OO O σ env) (H:=H1) (λ_ z=>(R.grow s1).oo z) hp r1).from s1)
theorem jS(h:AV X es fs):EV X (.List es pos) (cH fs):=by
 obtain ⟨t,p,k⟩:=h
 refine ⟨_,b9W p,λO B σ H env r Q R e q=>?_⟩
 obtain ⟨ds,e1,e2⟩:=bind_some e
 obtain ⟨hl,rfl⟩:=jg e2
 refine k O B σ H env ds _ R e1 λvs H1 s1 r1=>⟨by rw [r1.length,lZ];exact hl,λp hp=>?_⟩
 exact q _ _ (s1.trans (nW hp _)) ((Gx hp r1).from s1)
noncomputable def bY(f:En->Option (Bool×List D))(g:En->Option Sl):En->Option Sl:=λenv=>(f env).bind λx=>(g env).bind λy=>match y.d with
 | .int i=>(gf x.2 i).map .sh
 | _=>none
theorem dt{fa:En->Option (Bool×List D)}(ha:BV X a fa)(hb:EV X b fb)(hs:Ui b:=by exact λ_ _=>rfl):EV X (.Subscript a b pos) (bY fa fb):=by
 obtain ⟨t,p,k⟩:=ha
 obtain ⟨u,p',k'⟩:=hb
 refine ⟨_,YG c0o p p' hs,λO B σ H env r Q R e q=>?_⟩
 obtain ⟨⟨kk,ds⟩,e1,e2⟩:=bind_some e
 obtain ⟨y,e2,e3⟩:=bind_some e2
 refine k O B σ H env kk ds _ R e1 λl xs H1 s1 hq hx=>?_
 refine k' O B σ H1 env y _ (R.grow s1) e2 λw H2 s2 r2=>?_
 have hi:=r2.is λq=>(R.grow s1).oo
 cases hd:y.d with
 | int i =>
  rw [hd] at hi e3
  obtain rfl:=pA hi
  dsimp only at e3
  cases h:gf ds i with
  | none=>rw [h] at e3;cases e3
  | some d =>
   rw [h] at e3
   obtain rfl:=gY e3
   obtain ⟨v,h1,h2⟩:=(hx.grow s2).gf h
   have iV:=hq.grow s2
   have fin:=q v H2 (s1.trans s2) h2
   cases kk with
   | true=>exact .inl ⟨l,xs,i,v,rfl,rfl,iV,h1,fin⟩
   | false=>exact .inr (.inl ⟨l,xs,i,v,rfl,rfl,iV,h1,fin⟩)
 | _=>rw [hd] at e3;cases e3
end
noncomputable def LIM:Int:=10^250
theorem b7x(h1:-LIM<=j)(h2:j<=LIM):j.natAbs<2^900:=by
 have e:LIM<(2:Int)^900:=by unfold LIM;decide +kernel
 have e2:((2:Int)^900)=((2^900:Nat):Int):=by simp
 generalize (2^900:Nat)=m at *
 generalize LIM=l at *
 omega
theorem Z9(h1:-LIM<=j)(h2:j<=LIM):j.natAbs.log2<900:=by
 rcases SD j.natAbs with h0 | hp
 .rw [h0];decide
 .exact (Nat.log2_lt (FT hp)).mpr (b7x h1 h2)
theorem b0X(h1:-LIM<=j)(h2:j<=LIM):XA j<=900:=by
 have:=Z9 h1 h2
 unfold XA
 split<;>omega
def MulC(i j:Int):Prop:=(-(2^64)<i/\i<2^64)\/(-(2^64)<j/\j<2^64)\/((-LIM<=i/\i<=LIM)/\(-LIM<=j/\j<=LIM))
noncomputable instance (i j:Int):Decidable (MulC i j):=by unfold MulC;infer_instance
theorem MulC.ok(h:MulC i j):IntMulOk i j:=by
 rcases h with ⟨h1,h2⟩ | ⟨h1,h2⟩ | ⟨⟨h1,h2⟩,h3,h4⟩
 .exact .of_left (MQ h1 h2)
 .exact .of_right (MQ h1 h2)
 .exact mulOk_of_bits (b0X h1 h2) (b0X h3 h4) (by decide)
def DivC(_ j:Int):Prop:=0<j/\j<=LIM
noncomputable instance (i j:Int):Decidable (DivC i j):=by unfold DivC;infer_instance
def Cu(_ j:Int):Prop:=0<j
noncomputable instance (i j:Int):Decidable (Cu i j):=by unfold Cu;infer_instance
def PowC(i j:Int):Prop:=0<=j/\j<=1000000/\i.natAbs<2^64
noncomputable instance (i j:Int):Decidable (PowC i j):=by unfold PowC;infer_instance
noncomputable def gI(C:Int->Int->Prop)[∀i j,Decidable (C i j)](h:Int->Int->Int):D->D->Option Sl
 | .int i,.int j=>if C i j then some (.sh (.int (h i j))) else none
 | _,_=>none
noncomputable def gB(h:Int->Int->Bool):D->D->Option Sl
 | .int i,.int j=>some (.sh (.bl (h i j)))
 | _,_=>none
section
variable {X:Cx}
theorem KA{f:Value->Value->Sem Value}{C:Int->Int->Prop}[∀i j,Decidable (C i j)]{h:Int->Int->Int}(ho:ml X f (rI C λi j=>.int (h i j))):n5 X f (gI C h):=by
 refine ⟨_,ho,λO H x y a b s Q hO hx hy e q=>?_⟩
 cases a with
 | int i=>cases b with
  | int j =>
   obtain ⟨hc,rfl⟩:=jg (show (if C i j then some (Sl.sh (.int (h i j))) else none)=some s from e)
   exact ⟨i,j,pA hx,pA hy,hc,q _ H (aE.refl _) (Is.int _)⟩
  | _=>cases e
 | _=>cases e
theorem Tu(ho:ml X f (DG λi j=>.bl (h i j))):n5 X f (gB h):=by
 refine ⟨_,ho,λO H x y a b s Q hO hx hy e q=>?_⟩
 cases a with
 | int i=>cases b with
  | int j =>
   obtain rfl:=gY (show some (Sl.sh (.bl (h i j)))=some s from e)
   exact ⟨i,j,pA hx,pA hy,q _ H (aE.refl _) (Is.bl _)⟩
  | _=>cases e
 | _=>cases e
noncomputable def js:D->D->Option Sl:=gI MulC λi j=>i*j
noncomputable def uY:D->D->Option Sl:=gI DivC λi j=>i/j
noncomputable def iW:D->D->Option Sl:=gI Cu λi j=>i%j
noncomputable def mX:D->D->Option Sl:=gI PowC λi j=>i^j.toNat
noncomputable def rH:D->D->Option Sl:=gI (λ_ _=>True) λi j=>i-j
noncomputable def Jr:D->D->Option Sl:=gB λi j=>decide (i<j)
noncomputable def Mw:D->D->Option Sl:=gB λi j=>decide (i<=j)
noncomputable def Ed:D->D->Option Sl:=gB λi j=>decide (j<i)
theorem ua:n5 X (binaryOp .Mult) js:=KA (Ih λ_ _ _ _ _ _ _ (hc:MulC _ _) q=>mul_int q hc.ok)
theorem NL:n5 X (binaryOp .FloorDiv) uY:=KA (Ih λi j _ _ _ _ _ (hc:DivC i j) q=>by
 have h1:(0:Int)<j:=hc.1
 have h2:=Z9 (j:=j) (by have:(0:Int)<=LIM:=(by decide +kernel);omega) hc.2
 exact floordiv_int (by omega) (by rw [Int.fdiv_eq_ediv_of_nonneg i (by omega)];exact q) (.inl (PyProof.noPylong_of_log2 (by omega))))
theorem vV:n5 X (binaryOp .Mod) iW:=KA (Ih λi j _ _ _ _ _ (hc:Cu i j) q=>by
 have h1:(0:Int)<j:=hc
 exact mod_int' (by omega) (by rw [Int.fmod_eq_emod_of_nonneg i (by omega)];exact q))
theorem Cg:n5 X (binaryOp .Pow) mX:=KA (Ih λ_ _ _ _ _ _ _ (hc:PowC _ _) q=>pow_int_small hc.1 hc.2.1 hc.2.2 q)
theorem Y8:n5 X (binaryOp .Sub) rH:=KA (Ih λ_ _ _ _ _ _ _ _ q=>sub_int q)
theorem Tt:n5 X (compareOp .Lt) Jr:=Tu Ic
theorem YQ:n5 X (compareOp .LtE) Mw:=Tu Ie
theorem Kz:n5 X (compareOp .Gt) Ed:=Tu Ig
noncomputable def aQ:D->D->Option Sl
 | .int i,.int j=>some (.sh (.int (i+j)))
 | .lst false a,.lst false b=>if a.length+b.length<=16777216 then some (.ow (a++b)) else none
 | .tup a,.tup b=>if a.length+b.length<=16777216 then some (.sh (.tup (a++b))) else none
 | .str a,.str b=>if a.length+b.length<=16777216 then some (.sh (.str (a++b))) else none
 | _,_=>none
theorem EN{K:aJ}{O:Addr->Prop}{H:Hp}{v:V}{ds:List D}(h:Is K O H v (.tup ds)):∃p xs,v=.ref p/\jP K H p xs/\aO K O H xs ds:=by
 obtain ⟨p,xs,e,h1,h2⟩:=h.seq (k:=false) rfl
 exact ⟨p,xs,e,h1,h2⟩
theorem TK{K:aJ}{O:Addr->Prop}{H:Hp}{v:V}{ds:List D}(h:Is K O H v (.lst false ds)):∃p xs,v=.ref p/\¬O p/\H p=some (.lst xs)/\aO K O H xs ds:=by
 cases h with
 | lst ho hp hs=>exact ⟨_,_,rfl,ho,hp,hs⟩
theorem aO.jx{K:aJ}{O:Addr->Prop}{H:Hp}{xs:List V}{ds:List D}(h:aO K O H xs ds):xs=[]↔ds=[]:=by cases h<;>simp
theorem a8X{α:Type}{c:Prop}{d:Decidable c}{x y:α}(h:(@ite _ c d (some x) none)=some y):c/\x=y:=jg h
theorem eE:n5 X (binaryOp .Add) aQ:=by
 refine ⟨_,DI.or (DH.or (BD.or (q0.or b7r))),λO H x y a b s Q hO hx hy e q=>?_⟩
 cases a with
 | int i=>cases b with
  | int j =>
   obtain rfl:=gY (show some (Sl.sh (.int (i+j)))=some s from e)
   exact .inl ⟨i,j,pA hx,pA hy,q _ H (aE.refl _) (Is.int _)⟩
  | _=>cases e
 | lst r a=>cases r with
  | true=>cases b<;>cases e
  | false=>cases b with
   | lst r b=>cases r with
    | true=>cases e
    | false =>
     obtain ⟨hl,rfl⟩:=jg (show (if a.length+b.length<=16777216 then some (Sl.ow (a++b)) else none)=some s from e)
     obtain ⟨p1,xs,rfl,_,h1,i1⟩:=TK hx
     obtain ⟨p2,ys,rfl,_,h2,i2⟩:=TK hy
     exact .inr (.inl ⟨p1,p2,xs,ys,rfl,rfl,h1,h2,by rw [i1.length,i2.length,lZ];exact hl,λp hp=>q _ _ (nW hp _) (Gx hp (i1.append i2))⟩)
   | _=>cases e
 | tup a=>cases b with
  | tup b =>
   obtain ⟨hl,rfl⟩:=a8X (show (if a.length+b.length<=16777216 then some (Sl.sh (.tup (a++b))) else none)=some s from e)
   obtain ⟨p1,xs,rfl,h1,i1⟩:=EN hx
   obtain ⟨p2,ys,rfl,h2,i2⟩:=EN hy
   by_cases h0:a=[]
   .subst h0
    cases i1
    exact .inr (.inr (.inr (.inr ⟨p1,p2,ys,rfl,rfl,h1,h2,q _ H (aE.refl _) hy⟩)))
   refine .inr (.inr (.inl ⟨p1,p2,xs,ys,rfl,rfl,h1,h2,λz=>h0 (i1.jx.mp z),by rw [i1.length,i2.length,lZ];exact hl,λz=>?_,λz p hp=>q _ _ (nW hp _) (N6 hO hp (i1.append i2))⟩))
   have z':=i2.jx.mp z
   subst z'
   rw [vz] at q
   exact q _ H (aE.refl _) hx
  | _=>cases e
 | str a=>cases b with
  | str b =>
   obtain ⟨hl,rfl⟩:=jg (show (if a.length+b.length<=16777216 then some (Sl.sh (.str (a++b))) else none)=some s from e)
   exact .inr (.inr (.inr (.inl ⟨a,b,pB hx,pB hy,by rw [lZ];exact hl,q _ H (aE.refl _) (Is.str _)⟩)))
  | _=>cases e
 | _=>cases e
theorem map_some{α β:Type}{o:Option α}{f:α->β}{b:β}(h:o.map f=some b):∃a,o=some a/\f a=b:=by
 cases o with
 | none=>cases h
 | some a=>exact ⟨a,rfl,gY h⟩
noncomputable def D.ox:D->Bool
 | .cD=>true
 | _=>false
end
section
variable {X:Cx}{a b c:Expr}{pos p:Pos}{fa fb:En->Option Sl}{es:List Expr}{e:Expr}
theorem b3e{K:aJ}{O:Addr->Prop}{H:Hp}{xs:List V}{i j:Int}(h:aO K O H xs [.int i,.int j]):xs=[.int i,.int j]:=by
 cases h with
 | cons h t=>cases t with
  | cons h' t=>cases t;rw [pA h,pA h']
noncomputable def jK(f:En->Option (Bool×List D)):En->Option Sl:=λenv=>(f env).map λx=>.sh (.int x.2.length)
noncomputable def Kr(f:En->Option (Bool×List D)):En->Option Sl:=λenv=>(f env).map λx=>.ow x.2
variable {ba:En->Option (Bool×List D)}
theorem yN(hg:Gl X "len")(hm:X.mg "len" = none)(ha:BV X a ba)(hs:starEach [a] X.env=[(false,eval a X.env)]:=by rfl):EV X (.Call (.Name "len" p) [a] [] pos) (jK ba):=by
 obtain ⟨t,pt,k⟩:=ha
 refine ⟨_,Dh a9m hg hm RV (lj pt nv hs) (by decide) (by decide) hs rfl,λO B σ H env s Q R e q=>?_⟩
 obtain ⟨⟨kk,ds⟩,e1,rfl⟩:=map_some e
 refine k O B σ H env kk ds _ R e1 λl xs H1 s1 hq hx=>⟨l,xs,rfl,?_,?_⟩
 .cases kk with
  | true=>exact .inl hq
  | false=>exact .inr hq
 .rw [hx.length]
  exact q _ H1 s1 (Is.int _)
theorem ZP(hg:Gl X "list")(hm:X.mg "list" = none)(ha:BV X a ba)(hs:starEach [a] X.env=[(false,eval a X.env)]:=by rfl):EV X (.Call (.Name "list" p) [a] [] pos) (Kr ba):=by
 obtain ⟨t,pt,k⟩:=ha
 refine ⟨_,Dg a9k hg hm (by decide +kernel) (lj pt nv hs) (by decide) (by decide) hs rfl,λO B σ H env s Q R e q=>?_⟩
 obtain ⟨⟨kk,ds⟩,e1,rfl⟩:=map_some e
 refine k O B σ H env kk ds _ R e1 λl xs H1 s1 hq hx=>⟨l,xs,rfl,?_,λp hp=>?_⟩
 .cases kk with
  | true=>exact .inl hq
  | false=>exact .inr hq
 .exact q _ _ (s1.trans (nW hp _)) ((Gx hp hx).from s1)
end
section
variable {K:aJ}{O:Addr->Prop}{B H H1:Hp}{σ:L2.St}{env:En}{v:V}{r:Sl}{i:Nat}
theorem b7o(h:oG (σ.set i (some v)) (env.set i r) q):oG σ env q\/(r.own/\v=.ref q):=by
 obtain ⟨j,t,h1,ho,h2⟩:=h
 by_cases hj:i=j
 .subst hj
  rw [M5] at h1 h2
  rw [if_pos rfl] at h1 h2
  split at h1
  .cases h1
   split at h2
   .cases h2;exact .inr ⟨ho,rfl⟩
   .cases h2
  .cases h1
 .rw [ie hj] at h1 h2
  exact .inl ⟨j,t,h1,ho,h2⟩
theorem Res.fresh(h:Res K O B H v r)(ho:r.own):∃p,v=.ref p/\B p=none/\H p≠none:=by
 cases r with
 | no=>exact ho.elim
 | sh d=>exact ho.elim
 | ow ds=>obtain ⟨p,xs,e1,e2,e3,_⟩:=h;exact ⟨p,e1,e2,by rw [e3];exact λz=>nomatch z⟩
 | dw aD=>obtain ⟨p,e1,e2,e3⟩:=h;exact ⟨p,e1,e2,by rw [e3];exact λz=>nomatch z⟩
 | tw ks ds=>obtain ⟨p,vs,e1,e2,e3,_⟩:=h;exact ⟨p,e1,e2,by rw [e3];exact λz=>nomatch z⟩
theorem Rel.set(R:Rel K O B σ H env)(s:aE H H1)(h:Res K (OO O σ env) H H1 v r)(hi:i<env.length):
  Rel K O B (σ.set i (some v)) H1 (env.set i r)/\Gd σ env H (σ.set i (some v)) (env.set i r) H1:=by
 have new:∀q,oG (σ.set i (some v)) (env.set i r) q->oG σ env q\/(H q=none/\r.own/\v=.ref q):=λq z=>by
  rcases b7o z with z | ⟨ho,rfl⟩
  .exact .inl z
  .obtain ⟨p,e1,e2,_⟩:=h.fresh ho
   cases e1
   exact .inr ⟨e2,ho,rfl⟩
 have hO:∀q,H q≠none->¬OO O σ env q->¬OO O (σ.set i (some v)) (env.set i r) q:=λq hq hn z=>by
  rcases z with z | z
  .exact hn (.inl z)
  .rcases new q z with z | ⟨z,_⟩
   .exact hn (.inr z)
   .exact hq z
 have hH:∀q u,H q=some u->¬OO O σ env q->H1 q=some u:=λq u e _=>s q u e
 have zH:i<σ.length:=by rw [R.len];exact hi
 refine ⟨⟨R.same.trans s,R.oy,by simp [R.len],λj d e=>?_,λj ds e=>?_,λj aD e=>?_,λj ks ds e=>?_,λj k ds es p e1 e2 e3 e4 o1 o2=>?_⟩,λq u e n=>⟨s q u e,λz=>?_⟩⟩
 .by_cases hj:i=j
  .subst hj
   rw [kL hi] at e
   cases e
   refine ⟨v,by rw [kL zH],Is.less (O:=OO O σ env) (λq z=>z.elim .inl λz=>?_) h⟩
   rcases new q z with z | ⟨_,z,_⟩
   .exact .inr z
   .exact z.elim
  .rw [ie hj] at e
   obtain ⟨w,e1,h1⟩:=R.sh j d e
   exact ⟨w,by rw [ie hj];exact e1,h1.map hO hH⟩
 .by_cases hj:i=j
  .subst hj
   rw [kL hi] at e
   cases e
   obtain ⟨p,xs,rfl,e2,e3,h1⟩:=h
   refine ⟨p,xs,by rw [kL zH],R.same.free e2,e3,h1.less λq z=>?_⟩
   rcases z with z | z
   .exact .inl (.inl z)
   .rcases new q z with z | ⟨_,_,z⟩
    .exact .inl (.inr z)
    .cases z;exact .inr rfl
  .rw [ie hj] at e
   obtain ⟨p,xs,e1,e2,e3,h1⟩:=R.ow j ds e
   exact ⟨p,xs,by rw [ie hj];exact e1,e2,s _ _ e3,h1.map hO hH⟩
 .by_cases hj:i=j
  .subst hj
   rw [kL hi] at e
   cases e
   obtain ⟨p,rfl,e2,e3⟩:=h
   exact ⟨p,by rw [kL zH],R.same.free e2,e3⟩
  .rw [ie hj] at e
   obtain ⟨p,e1,e2,e3⟩:=R.dw j aD e
   exact ⟨p,by rw [ie hj];exact e1,e2,s _ _ e3⟩
 .by_cases hj:i=j
  .subst hj
   rw [kL hi] at e
   cases e
   obtain ⟨p,vs,rfl,e2,e3,e4,h1⟩:=h
   refine ⟨p,vs,by rw [kL zH],R.same.free e2,e3,e4,h1.less λq z=>?_⟩
   rcases z with z | z
   .exact .inl (.inl z)
   .rcases new q z with z | ⟨_,_,z⟩
    .exact .inl (.inr z)
    .cases z;exact .inr rfl
  .rw [ie hj] at e
   obtain ⟨p,vs,e1,e2,e3,e4,h1⟩:=R.tw j ks ds e
   exact ⟨p,vs,by rw [ie hj];exact e1,e2,s _ _ e3,e4,h1.map hO hH⟩
 .have other:∀j t,j≠i->env[j]?=some t->t.own->σ[j]?=some (some (V.ref p))->r.own->v≠.ref p:=λj t hj e ho e' hr z=>by
   obtain ⟨p',rfl,e2,_⟩:=h.fresh hr
   cases z
   obtain ⟨p2,u,e5,_,e6⟩:=R.ad e ho
   rw [e'] at e5
   cases e5
   rw [e2] at e6
   cases e6
  by_cases hj:i=j
  .by_cases hk:i=k
   .rw [<-hj,<-hk]
   .subst hj
    rw [kL hi] at e1
    rw [kL zH] at e3
    rw [ie hk] at e2 e4
    cases e1
    cases e3
    exact absurd rfl (other k es (l5 hk) e2 o2 e4 o1)
  .by_cases hk:i=k
   .subst hk
    rw [kL hi] at e2
    rw [kL zH] at e4
    rw [ie hj] at e1 e3
    cases e2
    cases e4
    exact absurd rfl (other j ds (l5 hj) e1 o1 e3 o2)
   .rw [ie hj] at e1 e3
    rw [ie hk] at e2 e4
    exact R.sep j k ds es p e1 e2 e3 e4 o1 o2
 .rcases new q z with z | ⟨z,_⟩
  .exact n z
  .rw [e] at z;cases z
theorem Rel.V7{p:Addr}{u':HO}{t t':Sl}(R:Rel K O B σ H env)(he:env[i]?=some t)(ho:t.own)(jA:t'.own)(hs:σ[i]?=some (some (V.ref p)))
  (hx:(∀ds',t'=.ow ds'->∃m9,u'=.lst m9/\aO K (OO O σ env) H m9 ds')/\(∀Iw,t'=.dw Iw->u'=RL Iw)/\∀ks' ds',t'=.tw ks' ds'->∃vs',u'=nK ks' vs'/\ks'.length=vs'.length/\aO K (OO O σ env) H vs' ds'):
  Rel K O B σ (upd H p u') (env.set i t')/\Gd σ env H σ (env.set i t') (upd H p u'):=by
 have hi:i<env.length:=(ni.mp he).1
 have own:∀q,oG σ (env.set i t') q->oG σ env q:=λq ⟨j,es,e1,e3,e2⟩=>by
  by_cases hj:i=j
  .subst hj;exact ⟨i,t,he,ho,e2⟩
  .rw [ie hj] at e1;exact ⟨j,es,e1,e3,e2⟩
 have Ia:oG σ env p:=⟨i,t,he,ho,hs⟩
 obtain ⟨p0,u0,f1,f2,f3⟩:=R.ad he ho
 rw [hs] at f1
 cases f1
 have hO:∀q,H q≠none->¬OO O σ env q->¬OO O σ (env.set i t') q:=λq _ hn z=>hn (z.elim .inl λz=>.inr (own q z))
 have hH:∀q u,H q=some u->¬OO O σ env q->upd H p u' q=some u:=λq u e n=>by
  rw [fm (λz=>n (.inr (by rw [z];exact Ia)))]
  exact e
 refine ⟨⟨λq u e=>?_,R.oy,by simp [R.len],λj d e=>?_,λj es e=>?_,λj aD e=>?_,λj ks es e=>?_,λj k es fs q e1 e2 e3 e4 o1 o2=>?_⟩,λq u e n=>⟨?_,λz=>n (own q z)⟩⟩
 .rw [fm (qt e f2)];exact R.same q u e
 .by_cases hj:i=j
  .subst hj;rw [kL hi] at e;cases e;exact jA.elim
  .rw [ie hj] at e
   obtain ⟨w,e1,h1⟩:=R.sh j d e
   exact ⟨w,e1,h1.map hO hH⟩
 .by_cases hj:i=j
  .subst hj
   rw [kL hi] at e
   cases e
   obtain ⟨m9,hu,qd⟩:=hx.1 _ rfl
   exact ⟨p,m9,hs,f2,by rw [lM,hu],qd.map hO hH⟩
  .rw [ie hj] at e
   obtain ⟨p2,Du,e1,e2,e3,h1⟩:=R.ow j es e
   refine ⟨p2,Du,e1,e2,?_,h1.map hO hH⟩
   rw [fm (λz=>hj (R.sep i j t _ p he e hs (by rw [e1,z]) ho trivial))]
   exact e3
 .by_cases hj:i=j
  .subst hj
   rw [kL hi] at e
   cases e
   exact ⟨p,hs,f2,by rw [lM,hx.2.1 _ rfl]⟩
  .rw [ie hj] at e
   obtain ⟨p2,e1,e2,e3⟩:=R.dw j aD e
   refine ⟨p2,e1,e2,?_⟩
   rw [fm (λz=>hj (R.sep i j t _ p he e hs (by rw [e1,z]) ho trivial))]
   exact e3
 .by_cases hj:i=j
  .subst hj
   rw [kL hi] at e
   cases e
   obtain ⟨vs',hu,hl,qd⟩:=hx.2.2 _ _ rfl
   exact ⟨p,vs',hs,f2,by rw [lM,hu],hl,qd.map hO hH⟩
  .rw [ie hj] at e
   obtain ⟨p2,Du,e1,e2,e3,e4,h1⟩:=R.tw j ks es e
   refine ⟨p2,Du,e1,e2,?_,e4,h1.map hO hH⟩
   rw [fm (λz=>hj (R.sep i j t _ p he e hs (by rw [e1,z]) ho trivial))]
   exact e3
 .have fix:∀(j:Nat) (es:Sl),(env.set i t')[j]?=some es->es.own->∃gs:Sl,env[j]?=some gs/\gs.own:=λj es e o=>by
   by_cases hj:i=j
   .subst hj;exact ⟨t,he,ho⟩
   .rw [ie hj] at e;exact ⟨es,e,o⟩
  obtain ⟨g1,h1,q1⟩:=fix j es e1 o1
  obtain ⟨g2,h2,q2⟩:=fix k fs e2 o2
  exact R.sep j k g1 g2 q h1 h2 e3 e4 q1 q2
 .rw [fm (λz=>n (by rw [z];exact Ia))];exact e
theorem Rel.wr(R:Rel K O B σ H env)(he:env[i]?=some (Sl.ow ds))(hs:σ[i]?=some (some (V.ref p)))(hx:aO K (OO O σ env) H m9 ds'):
  Rel K O B σ (upd H p (.lst m9)) (env.set i (.ow ds'))/\Gd σ env H σ (env.set i (.ow ds')) (upd H p (.lst m9)):=
 R.V7 (t':=.ow ds') he trivial trivial hs ⟨λ_ e=>by cases e;exact ⟨m9,rfl,hx⟩,λ_ e=>(nomatch e),λ_ _ e=>(nomatch e)⟩
theorem Rel.wrT{p:Addr}{ks ks':List Str}{ds ds':List D}{vs':List V}(R:Rel K O B σ H env)(he:env[i]?=some (Sl.tw ks ds))(hs:σ[i]?=some (some (V.ref p)))(hl:ks'.length=vs'.length)(hx:aO K (OO O σ env) H vs' ds'):
  Rel K O B σ (upd H p (nK ks' vs')) (env.set i (.tw ks' ds'))/\Gd σ env H σ (env.set i (.tw ks' ds')) (upd H p (nK ks' vs')):=
 R.V7 (t':=.tw ks' ds') he trivial trivial hs ⟨λ_ e=>(nomatch e),λ_ e=>(nomatch e),λ_ _ e=>by cases e;exact ⟨vs',rfl,hl,hx⟩⟩
theorem Rel.Rz{t:Sl}(R:Rel K O B σ H env)(he:env[i]?=some t)(ho:t.own):Rel K O B σ H (env.set i (.sh t.d))/\Gd σ env H σ (env.set i (.sh t.d)) H:=by
 have hi:i<env.length:=(ni.mp he).1
 obtain ⟨p,u0,f1,f2,f3⟩:=R.ad he ho
 have own:∀q,oG σ (env.set i (.sh t.d)) q->oG σ env q/\q≠p:=λq ⟨j,es,e1,o,e2⟩=>by
  by_cases hj:i=j
  .subst hj;rw [kL hi] at e1;cases e1;exact o.elim
  .rw [ie hj] at e1
   exact ⟨⟨j,es,e1,o,e2⟩,λz=>hj (R.sep i j t es p he e1 f1 (by rw [e2,z]) ho o)⟩
 have less:∀q,OO O σ (env.set i (.sh t.d)) q->OO O σ env q:=λq z=>z.elim .inl λz=>.inr (own q z).1
 have np:¬OO O σ (env.set i (.sh t.d)) p:=λz=>z.elim (λz=>R.oy.1 p z f2) λz=>(own p z).2 rfl
 refine ⟨⟨R.same,R.oy,by simp [R.len],λj d e=>?_,λj es e=>?_,λj aD e=>?_,λj ks es e=>?_,λj k es fs q e1 e2 e3 e4 o1 o2=>?_⟩,λq u e n=>⟨e,λz=>n (own q z).1⟩⟩
 .by_cases hj:i=j
  .subst hj
   rw [kL hi] at e
   cases e
   refine ⟨.ref p,f1,?_⟩
   cases t with
   | no=>exact ho.elim
   | sh d=>exact ho.elim
   | ow ds =>
    obtain ⟨p',xs,g1,g2,g3,g4⟩:=R.ow i ds he
    rw [f1] at g1;cases g1
    exact .lst np g3 (g4.less less)
   | dw aD =>
    obtain ⟨p',g1,g2,g3⟩:=R.dw i aD he
    rw [f1] at g1;cases g1
    exact .j9 np g3
   | tw ks ds =>
    obtain ⟨p',vs,g1,g2,g3,g4,g5⟩:=R.tw i ks ds he
    rw [f1] at g1;cases g1
    exact .ic np g3 g4 (g5.less less)
  .rw [ie hj] at e
   obtain ⟨w,e1,h1⟩:=R.sh j d e
   exact ⟨w,e1,h1.less less⟩
 .by_cases hj:i=j
  .subst hj;rw [kL hi] at e;cases e
  .rw [ie hj] at e
   obtain ⟨p2,Du,e1,e2,e3,h1⟩:=R.ow j es e
   exact ⟨p2,Du,e1,e2,e3,h1.less less⟩
 .by_cases hj:i=j
  .subst hj;rw [kL hi] at e;cases e
  .rw [ie hj] at e
   exact R.dw j aD e
 .by_cases hj:i=j
  .subst hj;rw [kL hi] at e;cases e
  .rw [ie hj] at e
   obtain ⟨p2,Du,e1,e2,e3,e4,h1⟩:=R.tw j ks es e
   exact ⟨p2,Du,e1,e2,e3,e4,h1.less less⟩
 .have fix:∀(j:Nat) (es:Sl),(env.set i (.sh t.d))[j]?=some es->es.own->env[j]?=some es:=λj es e o=>by
   by_cases hj:i=j
   .subst hj;rw [kL hi] at e;cases e;exact o.elim
   .rw [ie hj] at e;exact e
  exact R.sep j k es fs q (fix j es e1 o1) (fix k fs e2 o2) e3 e4 o1 o2
theorem Rel.jJ{ds:List D}(R:Rel K O B σ H env)(he:env[i]?=some (Sl.ow ds)):Rel K O B σ H (env.set i (.sh (.lst false ds)))/\Gd σ env H σ (env.set i (.sh (.lst false ds))) H:=R.Rz he trivial
end
section
variable {X:Cx}{st:Stmt}{rest:List Stmt}{F G:SF}{a b c e:Expr}{fa:En->Option Sl}{ga:En->Option Bool}{pos:Pos}
noncomputable def fG:SF:=λenv=>some (.nx,env)
noncomputable def sBk:SF:=λenv=>some (.bk,env)
noncomputable def sCt:SF:=λenv=>some (.ct,env)
noncomputable def aM(F G:SF):SF:=λenv=>match F env with
 | some (.nx,env1)=>G env1
 | r=>r
theorem iP:oF X [] fG:=⟨_,Ut,λO B σ H env fl af D R e q=>by
 cases (show some (Fl.nx,env)=some (fl,af) from e)
 exact q σ H R (Gd.refl (aE.refl _))⟩
theorem b7(h:SV X st F):oF X [st] F:=let ⟨t,p,k⟩:=h;⟨t,Z8 p,k⟩
theorem cJ(h:SV X st F)(h2:oF X rest G):oF X (st::rest) (aM F G):=by
 obtain ⟨t,p,k⟩:=h
 obtain ⟨u,p',k'⟩:=h2
 refine ⟨_,Cm p p',λO B σ H env fl af D R e q=>?_⟩
 unfold aM at e
 cases hF:F env with
 | none=>rw [hF] at e;cases e
 | some x =>
  obtain ⟨f1,env1⟩:=x
  rw [hF] at e
  refine k O B σ H env f1 env1 _ R hF ?_
  cases f1 with
  | nx=>exact λaK H' R' g'=>k' O B aK H' env1 fl af D R' e (q.from g')
  | bk=>cases e;exact q
  | ct=>cases e;exact q
  | rt r=>cases e;exact q
noncomputable def eF(c:En->Option Bool)(F G:SF):SF:=λenv=>match c env with
 | some true=>F env
 | some false=>G env
 | none=>none
theorem ig(hc:TV X c ga)(ha:oF X sa F)(hb:oF X sb G):SV X (.If c sa sb pos) (eF ga F G):=by
 obtain ⟨tc,pc,kc⟩:=hc
 obtain ⟨t,p,k⟩:=ha
 obtain ⟨u,p',k'⟩:=hb
 refine ⟨_,YJ pc p p',λO B σ H env fl af D R e q=>?_⟩
 unfold eF at e
 cases h:ga env with
 | none=>rw [h] at e;cases e
 | some x =>
  rw [h] at e
  refine kc O B σ H env x _ R h λH1 s1=>?_
  cases x with
  | true =>
   rw [if_pos rfl]
   exact k O B σ H1 env fl af D (R.grow s1) e (q.from (Gd.refl s1))
  | false =>
   rw [if_neg vC]
   exact k' O B σ H1 env fl af D (R.grow s1) e (q.from (Gd.refl s1))
noncomputable def bb(f:En->Option Sl):SF:=λenv=>(f env).map λr=>(.rt r,env)
theorem dI(h:EV X e fa):SV X (.Return (some e) pos) (bb fa):=by
 obtain ⟨t,p,k⟩:=h
 refine ⟨_,Zf p,λO B σ H env fl af D R e q=>?_⟩
 obtain ⟨r,e1,e2⟩:=map_some e
 cases e2
 exact k O B σ H env r _ R e1 λv H1 s1 r1=>q v H1 (R.same.trans s1) ((r1.from R.same).less λq z=>.inl z)
noncomputable def HE:SF:=λenv=>some (.rt (.sh .cD),env)
noncomputable def Be(i:Nat):SF:=λenv=>match env[i]? with
 | some (.ow ds)=>some (.rt (.ow ds),env)
 | some (.dw ds)=>some (.rt (.dw ds),env)
 | some (.tw ks ds)=>some (.rt (.tw ks ds),env)
 | some (.sh d)=>some (.rt (.sh d),env)
 | _=>none
theorem b6Y(i:Nat){x:Str}{p2:Pos}(hN:X.N[i]?=some x:=by rfl)(hv:ib X.env.scope x:=by first | exact cZ rfl | exact cj (cZ rfl) | exact cj (cj rfl))(hd:(x==("__debug__":Str))=false:=by decide)
  (cE:(x==("__classdict__":Str))=false:=by decide):SV X (.Return (some (.Name x p2)) pos) (Be i):=by
 refine ⟨_,Zf (pN hN hv hd cE),λO B σ H env fl af D R e q=>?_⟩
 unfold Be at e
 cases h:env[i]? with
 | none=>rw [h] at e;cases e
 | some s =>
  rw [h] at e
  cases s with
  | no=>cases e
  | sh d =>
   cases e
   obtain ⟨v,e2,hv⟩:=R.sh i d h
   exact ⟨v,e2,q v H R.same (Is.less (λq z=>.inl z) hv)⟩
  | ow ds =>
   cases e
   obtain ⟨p,xs,e1,e2,e3,h1⟩:=R.ow i ds h
   exact ⟨_,e1,q _ H R.same ⟨p,xs,rfl,e2,e3,h1.less λq z=>z.elim .inl λz=>.inr ⟨i,.ow ds,h,trivial,by rw [z];exact e1⟩⟩⟩
  | dw aD =>
   cases e
   obtain ⟨p,e1,e2,e3⟩:=R.dw i aD h
   exact ⟨_,e1,q _ H R.same ⟨p,rfl,e2,e3⟩⟩
  | tw ks ds =>
   cases e
   obtain ⟨p,vs,e1,e2,e3,e4,h1⟩:=R.tw i ks ds h
   exact ⟨_,e1,q _ H R.same ⟨p,vs,rfl,e2,e3,e4,h1.less λq z=>z.elim .inl λz=>.inr ⟨i,.tw ks ds,h,trivial,by rw [z];exact e1⟩⟩⟩
noncomputable def jV(i:Nat)(f:En->Option Sl):SF:=λenv=>(f env).bind λr=>if i<env.length then some (.nx,env.set i r) else none
theorem Zv(hN:X.N.Nodup)(hi:X.N[i]?=some x)(hx:Loc X.env.scope x)(he:EV X e fa)(hs:swapsWith e (some (.Name x pos')) pos.line X.env=pure false:=by rfl)(hf:X.fn x=true\/X.env.scope.names.lookup x=some .local:=by first | exact .inl rfl | exact .inr rfl | assumption):
  SV X (.Assign [.Name x pos'] e pos) (jV i fa):=by
 obtain ⟨t,p,k⟩:=he
 refine ⟨_,T7 hN hi hx p hs hf,λO B σ H env fl af D R e q=>?_⟩
 obtain ⟨r,e1,e2⟩:=bind_some e
 obtain ⟨hl,e3⟩:=jg e2
 cases e3
 refine k O B σ H env r _ R e1 λv H1 s1 r1=>?_
 obtain ⟨R',g'⟩:=R.set s1 r1 hl
 exact q _ H1 R' g'
noncomputable def gU(i:Nat)(f:En->Option Sl):SF:=λenv=>(f env).bind λr=>if i<env.length then some (.nx,env.set i (.sh r.d)) else none
theorem ZX(hN:X.N.Nodup)(hi:X.N[i]?=some x)(hx:Loc X.env.scope x)(he:EV X e fa)(hs:swapsWith e (some (.Name x pos')) pos.line X.env=pure false:=by rfl)(hf:X.fn x=true\/X.env.scope.names.lookup x=some .local:=by first | exact .inl rfl | exact .inr rfl | assumption):
  SV X (.Assign [.Name x pos'] e pos) (gU i fa):=by
 obtain ⟨t,p,k⟩:=he
 refine ⟨_,T7 hN hi hx p hs hf,λO B σ H env fl af D R e q=>?_⟩
 obtain ⟨r,e1,e2⟩:=bind_some e
 obtain ⟨hl,e3⟩:=jg e2
 cases e3
 refine k O B σ H env r _ R e1 λv H1 s1 r1=>?_
 obtain ⟨R',g'⟩:=R.set (r:=.sh r.d) s1 (r1.is λq=>R.oo) hl
 exact q _ H1 R' g'
noncomputable def Dd(f:En->Option Sl):SF:=λenv=>(f env).map λ_=>(.nx,env)
theorem b60(he:EV X e fa)(hs:swapsWith e none pos.line X.env=pure false:=by rfl):SV X (.Expr e pos) (Dd fa):=by
 obtain ⟨t,p,k⟩:=he
 refine ⟨_,Bi p hs,λO B σ H env fl af D R e q=>?_⟩
 obtain ⟨r,e1,e2⟩:=map_some e
 cases e2
 exact k O B σ H env r _ R e1 λv H1 s1 r1=>q σ H1 (R.grow s1) (Gd.refl s1)
noncomputable def nD(i:Nat)(f:En->Option Sl):SF:=λenv=>match env[i]? with
 | some (.ow ds)=>(f env).bind λr=>if ds.length<16777216 then some (.nx,env.set i (.ow (ds++[r.d]))) else none
 | _=>none
theorem a8x{i:Nat}{x:Str}{p1 p2 au:Pos}(ha:EV X e fa)(hN:X.N[i]?=some x:=by rfl)(hv:ib X.env.scope x:=by first | exact cZ rfl | exact cj (cZ rfl) | exact cj (cj rfl))(hd:(x==("__debug__":Str))=false:=by decide)
  (cE:(x==("__classdict__":Str))=false:=by decide)(hs:starEach [e] X.env=[(false,eval e X.env)]:=by rfl)
  (bA:attributeBase (.Name x p1) "append" X.env (eval (.Name x p1) X.env)=eval (.Name x p1) X.env:=by rfl)
  (gF:((backTo au (starEach [e] X.env)).all (λx=>!x.1)&&(backToKw au (keywordEach [] X.env)).all (λx=>x.1.isSome)
   && decide ([e].length+([]:List Keyword).length+(if ([]:List Keyword).isEmpty then 0 else 1)<30))=true:=by rfl)
  (bz:(p2.endLine==au.line)=true:=by rfl)
  (nJ:swapsWith (.Call (.Attribute (.Name x p1) "append" p2) [e] [] au) none pos.line X.env=pure false:=by rfl):
  SV X (.Expr (.Call (.Attribute (.Name x p1) "append" p2) [e] [] au) pos) (nD i fa):=by
 obtain ⟨t,p,k⟩:=ha
 refine ⟨_,Bi (NI ED Te XY a8S (pN hN hv hd cE) (lj p nv hs) bA gF bz hs rfl) nJ,λO B σ H env fl af D R e q=>?_⟩
 unfold nD at e
 cases h:env[i]? with
 | none=>rw [h] at e;cases e
 | some s =>
  rw [h] at e
  cases s with
  | no=>cases e
  | sh d=>cases e
  | dw aD=>cases e
  | tw _ _=>cases e
  | ow ds =>
   obtain ⟨r,e1,e2⟩:=bind_some e
   obtain ⟨hl,e3⟩:=jg e2
   cases e3
   obtain ⟨l,xs,f1,f2,f3,f4⟩:=R.ow i ds h
   refine ⟨_,f1,.inl ⟨rfl,_,iI.of f3⟩,?_⟩
   refine k O B σ H env r _ R e1 λv H1 s1 r1=>⟨l,xs,v,rfl,rfl,s1 _ _ f3,by rw [f4.length,lZ];exact hl,?_⟩
   obtain ⟨R',g'⟩:=(R.grow s1).wr h f1 ((f4.grow s1).append (.cons (r1.is λq=>R.oo) .nil))
   exact q _ _ R' (g'.from s1)
end
section
variable {X:Cx}{st:Stmt}{F:SF}{a b c e tg it:Expr}{fa:En->Option Sl}{ba:En->Option (Bool×List D)}{ga:En->Option Bool}{pos:Pos}
noncomputable abbrev GF:=D->En->Option En
def GV(X:Cx)(tg:Expr)(g:GF):Prop:=
 ∃t:TG,PG X tg t/\∀(O:Addr->Prop) (B:Hp) (σ:L2.St) (H:Hp) (env af:En) (v:V) (d:D) (Q:L2.St->Hp->Prop),Rel X.K O B σ H env->Is X.K (OO O σ env) H v d->g d env=some af ->
  (∀aK H',Rel X.K O B aK H' af->Gd σ env H aK af H'->Q aK H')->t v σ H Q
noncomputable def gN(i:Nat):GF:=λd env=>if i<env.length then some (env.set i (.sh d)) else none
theorem b7S(hN:X.N.Nodup)(hi:X.N[i]?=some x)(hx:Loc X.env.scope x)(hf:X.fn x=true\/X.env.scope.names.lookup x=some .local:=by first | exact .inl rfl | exact .inr rfl | assumption):GV X (.Name x pos) (gN i):=by
 refine ⟨_,b7j hN hi hx hf,λO B σ H env af v d Q R h e q=>?_⟩
 obtain ⟨hl,rfl⟩:=jg e
 obtain ⟨R',g'⟩:=R.set (r:=.sh d) (aE.refl _) h hl
 exact q _ H R' g'
noncomputable abbrev Fe:=List D->En->Option En
def Pp(X:Cx)(tg:List Expr)(g:Fe):Prop:=
 ∃t:Dm,LJ X tg t/\∀(O:Addr->Prop) (B:Hp) (σ:L2.St) (H:Hp) (env af:En) (v:List V) (d:List D) (Q:L2.St->Hp->Prop),Rel X.K O B σ H env->aO X.K (OO O σ env) H v d->g d env=some af ->
  (∀aK H',Rel X.K O B aK H' af->Gd σ env H aK af H'->Q aK H')->t v σ H Q
noncomputable def yM:Fe:=λds env=>match ds with
 | []=>some env
 | _::_=>none
noncomputable def nu(g:GF)(u:Fe):Fe:=λds env=>match ds with
 | d::r=>(g d env).bind (u r)
 | []=>none
theorem GA:Pp X [] yM:=by
 refine ⟨_,b7i,λO B σ H env af v d Q R h e q=>?_⟩
 cases h with
 | nil=>cases e;exact ⟨rfl,q σ H R (Gd.refl (aE.refl _))⟩
 | cons _ _=>cases e
theorem Gd.ID{K:aJ}{O:Addr->Prop}{σ aK:L2.St}{env af:En}{H H':Hp}(g:Gd σ env H aK af H'){v:List V}{d:List D}(h:aO K (OO O σ env) H v d):aO K (OO O aK af) H' v d:=
 h.map (λq hq hn z=>by
  cases e:H q with
  | none=>exact hq e
  | some u =>
   obtain ⟨_,n'⟩:=g q u e λw=>hn (.inr w)
   exact z.elim (λw=>hn (.inl w)) n') λq u e n=>(g q u e λw=>n (.inr w)).1
theorem yQ{es:List Expr}{g:GF}{u:Fe}(h1:GV X e g)(h2:Pp X es u)
  (hs:(assignEach (e::es) X.env).map (·.2)=assign e X.env::(assignEach es X.env).map (·.2):=by rfl):Pp X (e::es) (nu g u):=by
 obtain ⟨t,p,k⟩:=h1
 obtain ⟨t',p',k'⟩:=h2
 refine ⟨_,b4B p p' hs,λO B σ H env af v d Q R h e q=>?_⟩
 cases h with
 | nil=>cases e
 | cons h ht =>
  obtain ⟨env1,e1,e2⟩:=bind_some (show (g _ env).bind (u _)=some af from e)
  refine ⟨_,_,rfl,k O B σ H env env1 _ _ _ R h e1 λlq H1 R1 g1=>?_⟩
  exact k' O B lq H1 env1 af _ _ Q R1 (g1.ID ht) e2 λdM H2 R2 g2=>q dM H2 R2 (g1.trans g2)
noncomputable def gT(n:Nat)(u:Fe):GF:=λd env=>match d with
 | .tup ds=>if ds.length=n then u ds env else none
 | _=>none
theorem Gq{es:List Expr}{k n:Nat}{u:Fe}(hc:X.calm=true)(h:Pp X es u)(hn:(assignEach es X.env).length=n:=by rfl)(lW:(assignEach es X.env).findIdx? (·.1)=none:=by rfl):GV X (.Tuple es k pos) (gT n u):=by
 obtain ⟨t,p,k'⟩:=h
 refine ⟨_,b9R hc p hn lW,λO B σ H env af v d Q R h e q=>?_⟩
 cases d with
 | tup ds =>
  have e':(if ds.length=n then u ds env else none)=some af:=e
  by_cases hl:ds.length=n
  .rw [if_pos hl] at e'
   obtain ⟨a,xs,rfl,h1,h2⟩:=EN h
   exact ⟨a,xs,rfl,h1,by rw [h2.length];exact hl,k' O B σ H env af xs ds Q R h2 e' q⟩
  .rw [if_neg hl] at e';cases e'
 | _=>cases e
noncomputable def forL(g:GF)(F:SF):List D->SF
 | [],env=>some (.nx,env)
 | d::ds,env=>match g d env with
  | none=>none
  | some env1=>match F env1 with
   | some (.nx,bR)=>forL g F ds bR
   | some (.ct,bR)=>forL g F ds bR
   | some (.bk,bR)=>some (.nx,bR)
   | some (.rt r,bR)=>some (.rt r,bR)
   | none=>none
structure Left(K:aJ)(O:Addr->Prop)(B:Hp)(Br:L2.St)(H0:Hp)(k9:En)(g:GF)(F:SF)(ds:List D)(fl:Fl)(af:En)(i:Nat)(σ:L2.St)(H:Hp):Prop where
 ex:∃env,Rel K O B σ H env/\Gd Br k9 H0 σ env H/\forL g F (ds.drop i) env=some (fl,af)
theorem UH{g:GF}{Bv:TG}{tb:TS}{O:Addr->Prop}{B:Hp}{Br:L2.St}{H0:Hp}{k9 af:En}{fl:Fl}{D:Ends}{ds:List DL.D}{xs:List V}{i:Nat}{x:V}{σ:L2.St}{H:Hp}
  (kg:∀(O:Addr->Prop) (B:Hp) (σ:L2.St) (H:Hp) (env af:En) (v:V) (d:DL.D) (Q:L2.St->Hp->Prop),Rel X.K O B σ H env->Is X.K (OO O σ env) H v d->g d env=some af ->
   (∀aK H',Rel X.K O B aK H' af->Gd σ env H aK af H'->Q aK H')->Bv v σ H Q)
  (kb:∀(O:Addr->Prop) (B:Hp) (σ:L2.St) (H:Hp) (env:En) (fl:Fl) (af:En) (D:Ends),Rel X.K O B σ H env->F env=some (fl,af)->gD X.K O B σ H env D fl af->tb D σ H)
  (hx:aO X.K (OO O Br k9) H0 xs ds)(hi:xs[i]?=some x)(q:gD X.K O B Br H0 k9 D fl af)(h:Left X.K O B Br H0 k9 g F ds fl af i σ H):
  Bv x σ H λdM H2=>tb { D with nx:=Left X.K O B Br H0 k9 g F ds fl af (i+1),ct:=Left X.K O B Br H0 k9 g F ds fl af (i+1),bk:=D.nx } dM H2:=by
 obtain ⟨env,R,gd,e⟩:=h
 obtain ⟨d,hd,_⟩:=hx.D8 hi
 have CM:i<ds.length:=(ni.mp hd).1
 have rF:ds.drop i=d::ds.drop (i+1):=by
  rw [Nb CM]
  rw [je CM] at hd
  rw [gY hd]
 obtain ⟨x',qd,hxd⟩:=(gd.ID hx).get hd
 rw [hi] at qd
 cases qd
 rw [rF,forL] at e
 cases hg:g d env with
 | none=>rw [hg] at e;cases e
 | some env1 =>
  rw [hg] at e
  refine kg O B σ H env env1 x d _ R hxd hg λlq H1 R1 g1=>?_
  dsimp only at e
  cases hF:F env1 with
  | none=>rw [hF] at e;cases e
  | some y =>
   obtain ⟨f2,bR⟩:=y
   rw [hF] at e
   have go:=gd.trans g1
   refine kb O B lq H1 env1 f2 bR _ R1 hF ?_
   cases f2 with
   | nx=>exact λdM H2 R2 g2=>⟨bR,R2,go.trans g2,e⟩
   | ct=>exact λdM H2 R2 g2=>⟨bR,R2,go.trans g2,e⟩
   | bk=>cases e;exact λdM H2 R2 g2=>q dM H2 R2 (go.trans g2)
   | rt r=>cases e;exact q
theorem Oc{D:Ends}{ds:List DL.D}{n:Nat}(hn:ds.length<=n)
  (q:gD X.K O B Br H0 k9 D fl af)(h:Left X.K O B Br H0 k9 g F ds fl af n σ H):D.nx σ H:=by
 obtain ⟨env,R,gd,e⟩:=h
 rw [X8 hn,forL] at e
 cases e
 exact q σ H R gd
noncomputable def oS(f:En->Option Sl)(g:GF)(F:SF):SF:=λenv=>(f env).bind λr=>(jj r.d).bind λx=>forL g F x.2 env
theorem Gd.sq{K:aJ}{σ aK:L2.St}{env af:En}{H H':Hp}(gd:Gd σ env H aK af H'){k:Bool}{p:Addr}{xs:List V}(h:Sq K H k p xs)(hp:¬oG σ env p\/H p=none):Sq K H' k p xs:=by
 have rd:∀u,Rd H p u->Rd H' p u:=λu z=>by
  rcases z with z | ⟨o,z⟩
  .rcases hp with hp | hp
   .exact .inl (gd p _ z hp).1
   .rw [hp] at z;cases z
  .rcases hp with hp | hp
   .exact .inr ⟨o,(gd p _ z hp).1⟩
   .rw [hp] at z;cases z
 cases k with
 | true =>
  rcases h with h | h
  .exact .inl (rd _ h)
  .exact .inr h
 | false =>
  rcases h with h | h
  .exact .inl (rd _ h)
  .exact .inr h
theorem Is.HC{K:aJ}{O:Addr->Prop}{H:Hp}{v:V}{d:D}{k:Bool}{ds:List D}(h:Is K O H v d)(e:jj d=some (k,ds)):∃p xs,v=.ref p/\Sq K H k p xs/\aO K O H xs ds/\(¬O p\/∀H',Sq K H' k p xs):=by
 cases h with
 | tup ho hp hs=>cases e;exact ⟨_,_,rfl,.inl hp,hs,.inl ho⟩
 | lO hp hs=>cases e;exact ⟨_,_,rfl,Oh hp,hs,.inr λ_=>Oh hp⟩
 | lst ho hp hs=>cases e;exact ⟨_,_,rfl,.inl (.inl hp),hs,.inl ho⟩
 | nE ho hp hs=>cases e;exact ⟨_,_,rfl,.inl hp,hs,.inl ho⟩
 | nF hp hs=>cases e;exact ⟨_,_,rfl,Og hp,hs,.inr λ_=>Og hp⟩
 | _=>cases e
noncomputable def QO(K:aJ)(tl:TE):TI:=λσ H R=>tl σ H λx H1=>∃a,x=.ref a/\(((∃xs,iI K H1 a xs)/\R (LP K a) H1)\/((∃xs,jP K H1 a xs)/\R (LO K a) H1))
theorem Zc(hl:PE X l tl):PI X tg l (QO X.K tl):=by
 intro pins s σ H R I h
 refine cn (hl pins s σ H _ I h) λv s1 ⟨x,H1,I1,r1,q1⟩=>?_
 obtain ⟨a,e,q1⟩:=q1
 subst e
 cases r1
 rcases q1 with ⟨⟨xs,hq⟩,q⟩ | ⟨⟨xs,hq⟩,q⟩
 .obtain ⟨aB,rv,p,hz⟩:=I1.list hq
  refine M4 p.isList ?_
  refine ⟨s1.heap.objs.size,[s1.heap.objs.size],_,_,H1,rfl,I1.kept (t':=s1.toks) λb o e=>ft _ e,b2b a _,⟨_,j' _ rfl,rfl,rfl⟩,λb hb=>?_,q⟩
  have e:b=s1.heap.objs.size:=by simpa using hb
  subst e
  exact I1.qf (cT _) (I1.bE.fresh (cT _))
 .obtain ⟨aB,rv,p,hz⟩:=I1.tuple hq
  refine wpAny_pyIter_tuple (show s1.heap.IsTuple a aB.toArray from p) ?_
  refine ⟨s1.heap.objs.size,[s1.heap.objs.size],_,_,H1,rfl,I1.kept (t':=s1.toks) λb o e=>ft _ e,b1r a _,⟨_,j' _ rfl,rfl,rfl⟩,λb hb=>?_,q⟩
  have e:b=s1.heap.objs.size:=by simpa using hb
  subst e
  exact I1.qf (cT _) (I1.bE.fresh (cT _))
theorem KN(hp:PassesOwn (model X.prog X.w) X.A X.env X.xe)(hc:X.calm=true)(hi:EV X it fa)(hg:GV X tg g)(hb:oF X body F)
  (hs:∀x,foldedSetIterable it X.env x=pure x:=by intro _;rfl):SV X (.For tg it body [] pos) (oS fa g F):=by
 obtain ⟨ti,pi,ki⟩:=hi
 obtain ⟨Bv,pg,kg⟩:=hg
 obtain ⟨tb,pb,kb⟩:=hb
 refine ⟨_,T6 hp hc (Zc pi) pg pb hs,λO B σ H env fl af D R e q=>?_⟩
 obtain ⟨r,e1,e2⟩:=bind_some e
 obtain ⟨⟨k,ds⟩,e4,e5⟩:=bind_some e2
 refine ki O B σ H env r _ R e1 λv H1 s1 r1=>?_
 obtain ⟨p,xs,rfl,h1,h2,h3⟩:=(r1.is λq=>R.oo).HC e4
 refine ⟨p,rfl,?_⟩
 have q':gD X.K O B σ H1 env D fl af:=q.from (Gd.refl s1)
 have keep:∀i dM H2,Left X.K O B σ H1 env g F ds fl af i dM H2->Sq X.K H2 k p xs:=λi dM H2 L=>by
  rcases h3 with h3 | h3
  .obtain ⟨bR,_,gd,_⟩:=L
   exact gd.sq h1 (.inl λz=>h3 (.inr z))
  .exact h3 H2
 cases k with
 | true =>
  refine .inl ⟨⟨xs,h1⟩,?_⟩
  exact b46 (xs:=xs) (Left X.K O B σ H1 env g F ds fl af) ⟨env,R.grow s1,Gd.refl (aE.refl _),e5⟩ (λi dM H2 _ L=>keep i dM H2 L) (λi x dM H2 hx L=>UH kg kb h2 hx q' L) (λdM H2 L=>Oc (by rw [h2.length];exact cT _) q' L)
 | false =>
  refine .inr ⟨⟨xs,h1⟩,?_⟩
  exact b7V (xs:=xs) (Left X.K O B σ H1 env g F ds fl af) ⟨env,R.grow s1,Gd.refl (aE.refl _),e5⟩ (λi dM H2 _ L=>keep i dM H2 L) (λi x dM H2 hx L=>UH kg kb h2 hx q' L) (λdM H2 L=>Oc (by rw [h2.length];exact cT _) q' L)
noncomputable def fS(lo:Int)(n:Nat):List D:=(jB n).map λ(k:Nat)=>D.int (lo+(k:Int))
def R62(i:Int):Prop:=-(2^62)<=i/\i<2^62
noncomputable instance (i:Int):Decidable (R62 i):=by unfold R62;infer_instance
noncomputable def zd:List D->Option (List D)
 | [.int j]=>if R62 j then some (fS 0 j.toNat) else none
 | _=>none
noncomputable def Ku(h:List D->Option (List D))(f:En->Option (List D))(g:GF)(F:SF):SF:=λenv=>(f env).bind λds=>(h ds).bind λis=>forL g F is env
theorem b68{K:aJ}{O:Addr->Prop}{H:Hp}(lo:Int)(n:Nat):aO K O H ((jB n).map λ(k:Nat)=>V.int (lo+(k:Int))) (fS lo n):=by
 have h:=aO.ints (K:=K) (O:=O) (H:=H) ((jB n).map λ(k:Nat)=>lo+(k:Int))
 rw [vD,vD] at h
 exact h
theorem b01{K:aJ}{O:Addr->Prop}{H:Hp}{xs:List V}{i:Int}(h:aO K O H xs [.int i]):xs=[.int i]:=by
 cases h with
 | cons h t=>cases t;rw [pA h]
theorem b7W{tb:TS}{Bv:TG}{g:GF}{lo:Int}{n:Nat}{O:Addr->Prop}{B:Hp}{σ:L2.St}{H:Hp}{env af:En}{fl:Fl}{D:Ends}
  (kg:∀(O:Addr->Prop) (B:Hp) (σ:L2.St) (H:Hp) (env af:En) (v:V) (d:DL.D) (Q:L2.St->Hp->Prop),Rel X.K O B σ H env->Is X.K (OO O σ env) H v d->g d env=some af ->
   (∀aK H',Rel X.K O B aK H' af->Gd σ env H aK af H'->Q aK H')->Bv v σ H Q)
  (kb:∀(O:Addr->Prop) (B:Hp) (σ:L2.St) (H:Hp) (env:En) (fl:Fl) (af:En) (D:Ends),Rel X.K O B σ H env->F env=some (fl,af)->gD X.K O B σ H env D fl af->tb D σ H)
  (R:Rel X.K O B σ H env)(e:forL g F (fS lo n) env=some (fl,af))(q:gD X.K O B σ H env D fl af):
  ∃W:Nat->Nat->L2.St->Hp->Prop,(∃m,W 0 m σ H)/\∀i m σ H,W i m σ H ->
   ((uc lo n).stop i H/\D.nx σ H)\/((uc lo n).go i H/\∃N:L2.St->Hp->Prop,(∀aK H',N aK H'->∃m',m'<m/\W (i+1) m' aK H')/\∀x H',(uc lo n).Dt i H x H'->Bv x σ H' λdM H2=>tb { D with nx:=N,ct:=N,bk:=D.nx } dM H2):=by
 refine b3y (Left X.K O B σ H env g F (fS lo n) fl af) ⟨env,R,Gd.refl (aE.refl _),e⟩ (λi dM H2 hi L=>?_) (λdM H2 L=>Oc (by simp [fS]) q L)
 exact UH kg kb (b68 lo n) (by simp [hi]) q L
theorem b0J{body:List Stmt}{g:GF}{fs:En->Option (List D)}{p:Pos}(hp:PassesOwn (model X.prog X.w) X.A X.env X.xe)(hc:X.calm=true)(Ja:Gl X "range")(hm:X.mg "range" = none)(ha:AV X [a] fs)(hg:GV X tg g)(hb:oF X body F)
  (h1:starEach [a] X.env=[(false,eval a X.env)]:=by rfl)(hs:∀x,foldedSetIterable (.Call (.Name "range" p) [a] [] pos) X.env x=pure x:=by intro _;rfl){lN:Pos}:
  SV X (.For tg (.Call (.Name "range" p) [a] [] pos) body [] lN) (Ku zd fs g F):=by
 obtain ⟨ti,pi,ki⟩:=ha
 obtain ⟨Bv,pg,kg⟩:=hg
 obtain ⟨tb,pb,kb⟩:=hb
 refine ⟨_,T6 hp hc (b2E Ja hm pi h1) pg pb hs,λO B σ H env fl af D R e q=>?_⟩
 obtain ⟨ds,e1,e2⟩:=bind_some e
 obtain ⟨is,e2,e3⟩:=bind_some e2
 refine ki O B σ H env ds _ R e1 λvs H1 s1 r1=>?_
 unfold zd at e2
 split at e2
 .obtain ⟨⟨h1,h2⟩,rfl⟩:=jg e2
  exact ⟨_,b01 r1,h1,h2,b7W kg kb (R.grow s1) e3 (q.from (Gd.refl s1))⟩
 .cases e2
noncomputable def Bt(c:En->Option Bool)(F:SF):Nat->SF
 | 0,_=>none
 | n+1,env=>match c env with
  | none=>none
  | some false=>some (.nx,env)
  | some true=>match F env with
   | some (.nx,bR)=>Bt c F n bR
   | some (.ct,bR)=>Bt c F n bR
   | some (.bk,bR)=>some (.nx,bR)
   | some (.rt r,bR)=>some (.rt r,bR)
   | none=>none
noncomputable def NP(m:En->Nat)(c:En->Option Bool)(F:SF):SF:=λenv=>Bt c F (m env) env
theorem b0I(m:En->Nat)(hp:PassesOwn (model X.prog X.w) X.A X.env X.xe)(hc:TV X c ga)(hb:oF X body F):SV X (.While c body [] pos) (NP m ga F):=by
 obtain ⟨tc,pc,kc⟩:=hc
 obtain ⟨tb,pb,kb⟩:=hb
 refine ⟨_,b4z hp pc pb,λO B σ H env fl af D R e q=>?_⟩
 refine ⟨λn lq H1=>∃env1,Rel X.K O B lq H1 env1/\Gd σ env H lq env1 H1/\Bt ga F n env1=some (fl,af),⟨m env,env,R,Gd.refl (aE.refl _),e⟩,?_⟩
 rintro n lq H1 ⟨env1,R1,g1,e1⟩
 cases n with
 | zero=>cases e1
 | succ n =>
  rw [Bt] at e1
  cases h:ga env1 with
  | none=>rw [h] at e1;cases e1
  | some x =>
   rw [h] at e1
   refine kc O B lq H1 env1 x _ R1 h λH2 s2=>?_
   cases x with
   | false =>
    rw [if_neg vC]
    cases e1
    exact q lq H2 (R1.grow s2) (g1.trans (Gd.refl s2))
   | true =>
    rw [if_pos rfl]
    refine ⟨λaK H'=>∃bR,Rel X.K O B aK H' bR/\Gd σ env H aK bR H'/\Bt ga F n bR=some (fl,af),λaK H' ⟨bR,a1,a2,a3⟩=>⟨n,qo n,bR,a1,a2,a3⟩,?_⟩
    dsimp only at e1
    cases hF:F env1 with
    | none=>rw [hF] at e1;cases e1
    | some y =>
     obtain ⟨f2,bR⟩:=y
     rw [hF] at e1
     have go:=g1.trans (Gd.refl s2)
     refine kb O B lq H2 env1 f2 bR _ (R1.grow s2) hF ?_
     cases f2 with
     | nx=>exact λdM H3 R2 g2=>⟨bR,R2,go.trans g2,e1⟩
     | ct=>exact λdM H3 R2 g2=>⟨bR,R2,go.trans g2,e1⟩
     | bk=>cases e1;exact λdM H3 R2 g2=>q dM H3 R2 (go.trans g2)
     | rt r=>cases e1;exact q
end
noncomputable def qR(K:aJ)(n:Nat)(φ:List D->Option Sl):Sp:=λvs H Q _=>∃(O:Addr->Prop) (ds:List D) (r:Sl),Bq K O H/\aO K O H vs ds/\vs.length=n/\φ ds=some r /\
 ∀v H',aE H H'->Res K O H H' v r->Q v H'
noncomputable def lg(N:Nat)(ds:List D):En:=ds.map Sl.sh++nN (N-ds.length) Sl.no
noncomputable def bQ(F:SF)(N:Nat)(ds:List D):Option Sl:=match F (lg N ds) with
 | some (.rt r,_)=>some r
 | some (.nx,_)=>some (.sh .cD)
 | _=>none
theorem Ll{K:aJ}{O:Addr->Prop}{H:Hp}{N:List Str}{vs:List V}{ds:List D}(hO:Bq K O H)(h:aO K O H vs ds):Rel K O H (start N vs) H (lg N.length ds):=by
 have hl:=h.length
 have Il:∀(i:Nat) (s:Sl),(lg N.length ds)[i]?=some s->s.own->False:=λi s e1 o=>by
  unfold lg at e1
  rw [Kb] at e1
  split at e1
  .rw [nj] at e1
   obtain ⟨d,_,e⟩:=map_some e1
   cases e
   exact o
  .rw [C1] at e1
   split at e1
   .cases e1;exact o
   .cases e1
 have no:∀p,¬oG (start N vs) (lg N.length ds) p:=λp ⟨i,es,e1,o,_⟩=>Il i es e1 o
 refine ⟨aE.refl _,hO,?_,λi d e=>?_,λi es e=>(Il i _ e trivial).elim,λi es e=>(Il i _ e trivial).elim,λi ks es e=>(Il i _ e trivial).elim,λi j es fs p e _ _ _ o _=>(Il i _ e o).elim⟩
 .simp [L2.start,lg,hl]
 .unfold lg at e
  rw [Kb] at e
  split at e
  .rename_i hi
   rw [cP] at hi
   rw [nj] at e
   obtain ⟨d',e1,e2⟩:=map_some e
   cases e2
   obtain ⟨x,hx,hd⟩:=h.get e1
   refine ⟨x,?_,hd.less λq z=>z.elim id λz=>(no q z).elim⟩
   unfold L2.start
   rw [Tj (by rw [cP,hl];exact hi),nj,hx]
   rfl
  .rw [C1] at e
   split at e
   .cases e
   .cases e
section
variable {P:Program}{w:World}{K:aJ}{mg:Str->Option Value}{base:Heap}
theorem RC{x qual:Str}{st:Stmt}{f:Addr}{fd:FuncData}{N ps:List Str}{k:Nat}{F:SF}(Fn:vZ K x qual st f fd)(S:cz N ps (eS st))
  (cb:∀(fE:Value) (A:Around) (outer:List Env) (s:Shared) (H:Hp) (E:XK),cF k (A.deeper (envOfC qual (eS st) s.heap.objs.size f fE)) ->
   oF (iX jw P w K mg base N qual (eS st) f fE A outer s H E).jd (jD st) F):cx P w K mg base jw (k+1) f fd ps (qR K ps.length (bQ F N.length)):=by
 refine Fn.ok S (λvs H Q E h=>?_) (λfE A outer s H vs Q E hr h=>?_)
 .obtain ⟨O,ds,r,_,_,hl,_⟩:=h
  exact hl
 obtain ⟨O,ds,r,hO,hi,hl,e,q⟩:=h
 obtain ⟨t,p,kk⟩:=cb fE A outer s H E hr
 refine ⟨t,p,?_⟩
 unfold bQ at e
 cases hF:F (lg N.length ds) with
 | none=>rw [hF] at e;cases e
 | some y =>
  obtain ⟨fl,af⟩:=y
  rw [hF] at e
  refine kk O H (start N vs) H (lg N.length ds) fl af _ (Ll hO hi) hF ?_
  cases fl with
  | nx=>cases e;exact λaK H' R' _=>q .cD H' R'.same Is.cD
  | bk=>cases e
  | ct=>cases e
  | rt r=>cases e;exact λv H' s h=>q v H' s h
end
section
variable {X:Cx}{k:Nat}{f:Addr}{fd:FuncData}{ps:List Str}{φ:List D->Option Sl}{x:Str}{p pos:Pos}{e:Expr}{es:List Expr}{fs:En->Option (List D)}
noncomputable def bT(n:Nat)(φ:List D->Option Sl)(fs:En->Option (List D)):En->Option Sl:=λenv=>(fs env).bind λds=>if ds.length=n then φ ds else none
theorem b3Y(ka:∀(O:Addr->Prop) (B:Hp) (σ:L2.St) (H:Hp) (env:En) (ds:List D) (Q:List V->Hp->Prop),Rel X.K O B σ H env->fs env=some ds->(∀vs H',aE H H'->aO X.K (OO O σ env) H' vs ds->Q vs H')->t σ H Q)
  (O:Addr->Prop)(B:Hp)(σ:L2.St)(H:Hp)(env:En)(r:Sl)(Q:VK)(R:Rel X.K O B σ H env)(e:bT n φ fs env=some r)(q:∀v H',aE H H'->Res X.K (OO O σ env) H H' v r->Q v H'):TF (qR X.K n φ) [] E t σ H Q:=by
 obtain ⟨ds,e1,e2⟩:=bind_some e
 refine ka O B σ H env ds _ R e1 λvs H1 s1 r1=>?_
 by_cases hn:ds.length=n
 .rw [if_pos hn] at e2
  rw [vz]
  refine ⟨OO O σ env,ds,r,(R.grow s1).dm,r1,by rw [r1.length,hn],e2,λv H2 s2 r2=>q v H2 (s1.trans s2) (r2.from s1)⟩
 .rw [if_neg hn] at e2;cases e2
theorem b79(F:cx X.prog X.w X.K X.mg X.base jw k f fd ps (qR X.K ps.length φ))(hr:cF k X.A)(hg:Gl X x)(hm:X.mg x=some (.ref f))(hk:yz X.K (.ref f)=true)(hb:Binds X.K fd ps [])
  (ha:AV X (e::es) fs)(hX:(x==("__debug__":Str))=false:=by decide)(he:starEach (e::es) X.env=(false,eval e X.env)::starEach es X.env:=by rfl)(gm:(backTo pos (starEach es X.env)).any (·.1)=false:=by rfl):
  EV X (.Call (.Name x p) (e::es) [] pos) (bT ps.length φ fs):=by
 obtain ⟨t,pt,ka⟩:=ha
 exact ⟨_,Up F hr hg hm hk hb .nil Dc pt hX he gm,λO B σ H env r Q R e q=>b3Y ka O B σ H env r Q R e q⟩
end
noncomputable def spT(K:aJ):Sp:=λvs H Q _=>∃(a:Addr) (ns:List Int),vs=[.ref a]/\iI K H a (ns.map V.int)/\ns.length<=63/\Tb K H/\∀H',aE H H'->Q (.bl true) H'
theorem c0i{P:Program}{w:World}{K:aJ}{mg:Str->Option Value}{base:Heap}{k:Nat}{f:Addr}{fd:FuncData}{φ:List D->Option Sl}(F:cx P w K mg base jw k f fd ["script"] (qR K 1 φ))
  (h:∀ns:List Int,ns.length<=63->φ [.lst true (ns.map D.int)]=some (Sl.sh (.bl true))):cx P w K mg base jw k f fd ["script"] (spT K):=by
 refine F.imp λvs H Q E q=>?_
 obtain ⟨a,ns,rfl,hs,hl,tb,q⟩:=q
 refine ⟨λ_=>False,[.lst true (ns.map D.int)],_,⟨λ_ z=>z.elim,tb⟩,.cons ?_ .nil,rfl,h ns hl,λv H' sm r=>?_⟩
 .rcases hs with hs | hs
  .exact .nE id hs (aO.ints ns)
  .exact .nF (.inr hs) (aO.ints ns)
 .have r':Is K (λ_=>False) H' v (.bl true):=r
  rw [C8 r']
  exact q H' sm
theorem yW{l:SU}{q:Program}{loose:List Str}{XP:(Str->Option Value)->Heap->Prop}{YP:World->Heap->Prop}{d:DefRec}{K:Params->aJ}{k:Nat}(hk:cF k callerA)(hn:l.most=some 63)(Je:d.params.defaults=[])
  {ts:List Addr}(hY:∀(w:World) (h:Heap),YP w h->(K w.params).In h/\∀P∈ts,h.get? P=some (F9 #[]))(hL:∀w:World,NG (K w.params) ts=true)
  (F:∀(w:World) (mg:Str->Option Value) (fa:Addr) (h:Heap),(K w.params).In h->h.Ns mainGlobals mg->mg d.name=some (.ref fa) ->
   ∃fd:FuncData,(∀(s:Shared) (u:Value),BindsTo s fd ⟨[u],[]⟩ [("script",u)])/\∀base:Heap,(K w.params).In base->base.Ns mainGlobals mg->cx l.prog w (K w.params) mg base jw k fa fd ["script"] (spT (K w.params))):
  PySem.W.WalkO q loose XP YP l.row.toRowW d [] (λf vs=>Sr f vs):=
 L2.Bu (n:=63) (k:=k) (x:="script") (CX:=λ_=>jw) (sp:=λw=>spT (K w.params)) hn (by decide) Je hk hY hL F (λw _ a ns hl tb hS=>⟨a,ns,rfl,hS,hl,tb,λ_ sm=>⟨rfl,tb.grow sm⟩⟩) λ_ _ _ _ _ z=>z
section
variable {X:Cx}{a:Expr}{pos p p2:Pos}{fa:En->Option Sl}
noncomputable def cN(T:String):D->Bool
 | .cD=>false
 | .bl _=>(T == "bool" || T == "int")
 | .int _=>(T == "int")
 | .str _=>(T == "str")
 | .tup _=>(T == "tuple")
 | .lst _ _=>(T == "list")
 | .exc _=>false
 | .j9 _ _=>false
 | .obj _ _ _=>false
 | .ic _ _=>false
 | .dq _ _=>false
noncomputable def D.isExc:D->Bool
 | .exc _=>true
 | .j9 _ _=>true
 | .obj _ _ _=>true
 | .ic _ _=>true
 | .dq _ _=>true
 | _=>false
noncomputable def uT(T:String)(d:D):Option Sl:=if d.isExc=true then none else some (.sh (.bl (cN T d)))
end
section
variable {X:Cx}{a b c e:Expr}{fa fb:En->Option Sl}{pos:Pos}
noncomputable def qX(i:Nat)(f:En->Option Sl):SF:=λenv=>match env[i]? with
 | some (.ow ds)=>(f env).bind λr=>match r.d with
  | .lst false es=>if ds.length+es.length<=16777216 then some (.nx,env.set i (.ow (ds++es))) else none
  | _=>none
 | _=>none
theorem b2l{i:Nat}{x:Str}{p1 p2 au:Pos}(ha:EV X e fa)(hN:X.N[i]?=some x:=by rfl)(hv:ib X.env.scope x:=by first | exact cZ rfl | exact cj (cZ rfl) | exact cj (cj rfl))(hd:(x==("__debug__":Str))=false:=by decide)
  (cE:(x==("__classdict__":Str))=false:=by decide)(hs:starEach [e] X.env=[(false,eval e X.env)]:=by rfl)
  (bA:attributeBase (.Name x p1) "extend" X.env (eval (.Name x p1) X.env)=eval (.Name x p1) X.env:=by rfl)
  (gF:((backTo au (starEach [e] X.env)).all (λx=>!x.1)&&(backToKw au (keywordEach [] X.env)).all (λx=>x.1.isSome)
   && decide ([e].length+([]:List Keyword).length+(if ([]:List Keyword).isEmpty then 0 else 1)<30))=true:=by rfl)
  (bz:(p2.endLine==au.line)=true:=by rfl)
  (nJ:swapsWith (.Call (.Attribute (.Name x p1) "extend" p2) [e] [] au) none pos.line X.env=pure false:=by rfl):
  SV X (.Expr (.Call (.Attribute (.Name x p1) "extend" p2) [e] [] au) pos) (qX i fa):=by
 obtain ⟨t,p,k⟩:=ha
 refine ⟨_,Bi (NI ED Yl PySem.F.type_list_extend b20 (pN hN hv hd cE) (lj p nv hs) bA gF bz hs rfl) nJ,λO B σ H env fl af D R e q=>?_⟩
 unfold qX at e
 cases h:env[i]? with
 | none=>rw [h] at e;cases e
 | some s =>
  rw [h] at e
  cases s with
  | no=>cases e
  | sh d=>cases e
  | dw ds=>cases e
  | tw _ _=>cases e
  | ow ds =>
   obtain ⟨r,e1,e2⟩:=bind_some e
   obtain ⟨l,xs,f1,f2,f3,f4⟩:=R.ow i ds h
   refine ⟨_,f1,.inl ⟨rfl,_,iI.of f3⟩,?_⟩
   refine k O B σ H env r _ R e1 λv H1 s1 r1=>?_
   have hi:=r1.is λq=>R.oo
   cases hd:r.d with
   | lst ro es =>
    rw [hd] at hi e2
    cases ro with
    | true=>cases e2
    | false =>
     obtain ⟨hl,e3⟩:=jg (show (if ds.length+es.length<=16777216 then some (Fl.nx,env.set i (.ow (ds++es))) else none)=some (fl,af) from e2)
     cases e3
     obtain ⟨b,zs,rfl,hb,g1,g2⟩:=TK hi
     refine ⟨l,b,xs,zs,rfl,rfl,s1 _ _ f3,g1,by rw [f4.length,g2.length,lZ];exact hl,?_⟩
     obtain ⟨R',g'⟩:=(R.grow s1).wr h f1 ((f4.grow s1).append g2)
     exact q _ _ R' (g'.from s1)
   | _=>rw [hd] at e2;cases e2
noncomputable def qW(i j:Nat):SF:=λenv=>match env[j]? with
 | some (.ow ds)=>(ds[ds.length-1]?).bind λd=>if i<env.length/\i≠j then some (.nx,(env.set j (.ow ds.dropLast)).set i (.sh d)) else none
 | _=>none
theorem b2j{i j:Nat}{x y:Str}{pos' p1 p2 au:Pos}(hN:X.N.Nodup)(hi:X.N[i]?=some x)(hx:Loc X.env.scope x)
  (Rp:X.N[j]?=some y:=by rfl)(hv:ib X.env.scope y:=by first | exact cZ rfl | exact cj (cZ rfl) | exact cj (cj rfl))(hd:(y==("__debug__":Str))=false:=by decide)
  (cE:(y==("__classdict__":Str))=false:=by decide)
  (bA:attributeBase (.Name y p1) "pop" X.env (eval (.Name y p1) X.env)=eval (.Name y p1) X.env:=by rfl)
  (bz:(p2.endLine==au.line)=true:=by rfl)
  (hs:swapsWith (.Call (.Attribute (.Name y p1) "pop" p2) [] [] au) (some (.Name x pos')) pos.line X.env=pure false:=by rfl)(hf:X.fn x=true\/X.env.scope.names.lookup x=some .local:=by first | exact .inl rfl | exact .inr rfl | assumption):
  SV X (.Assign [.Name x pos'] (.Call (.Attribute (.Name y p1) "pop" p2) [] [] au) pos) (qW i j):=by
 refine ⟨_,T7 hN hi hx (NM ED Tg Yj Y5 (pN Rp hv hd cE) bA bz) hs hf,λO B σ H env fl af D R e q=>?_⟩
 unfold qW at e
 cases h:env[j]? with
 | none=>rw [h] at e;cases e
 | some s =>
  rw [h] at e
  cases s with
  | no=>cases e
  | sh d=>cases e
  | dw ds=>cases e
  | tw _ _=>cases e
  | ow ds =>
   obtain ⟨d,e1,e2⟩:=bind_some e
   obtain ⟨⟨hl,tD⟩,e3⟩:=a8X e2
   cases e3
   obtain ⟨l,xs,f1,f2,f3,f4⟩:=R.ow j ds h
   obtain ⟨v,QV,QU⟩:=f4.get e1
   obtain ⟨R',g'⟩:=R.wr h f1 f4.dropLast
   refine ⟨_,f1,.inl ⟨rfl,_,iI.of f3⟩,l,xs,v,rfl,rfl,f3,by rw [f4.length];exact QV,?_⟩
   have QT:aO X.K (OO O σ (env.set j (.ow ds.dropLast))) (upd H l (.lst xs.dropLast)) [v] [d]:=g'.ID (.cons QU .nil)
   cases QT with
   | cons QT _ =>
    obtain ⟨R2,g2⟩:=R'.set (r:=.sh d) (i:=i) (aE.refl _) QT (by simp;exact hl)
    exact q _ _ R2 (g'.trans g2)
noncomputable def Gg(i:Nat)(f g:En->Option Sl):SF:=λenv=>match env[i]? with
 | some (.ow ds)=>(f env).bind λr=>(g env).bind λk=>match k.d with
  | .int n=>(mJ ds.length n).bind λj=>some (.nx,env.set i (.ow (ds.set j r.d)))
  | _=>none
 | _=>none
theorem b6Z{i:Nat}{x:Str}{p1 p2:Pos}(ha:EV X e fa)(hb:EV X b fb)(hN:X.N[i]?=some x:=by rfl)(hv:ib X.env.scope x:=by first | exact cZ rfl | exact cj (cZ rfl) | exact cj (cj rfl))(hd:(x==("__debug__":Str))=false:=by decide)
  (cE:(x==("__classdict__":Str))=false:=by decide)
  (uU:∀v,assign (.Subscript (.Name x p1) b p2) X.env v=(do
   let ov <-holding [v] (eval (.Name x p1) X.env)
   let iv <-holding [v,ov] (eval b X.env)
   standAt p2
   holding [v,ov,iv] (setItem ov iv v)
   release [v,ov,iv] []):=by intro _;rfl)
  (hs:swapsWithSole [.Subscript (.Name x p1) b p2] e pos.line X.env=pure false:=by rfl)(hw:swappedStores [.Subscript (.Name x p1) b p2] e X.env=pure none:=by rfl)
  (h1:(assignEach [.Subscript (.Name x p1) b p2] X.env).map (·.2)=[assign (.Subscript (.Name x p1) b p2) X.env]:=by rfl):
  SV X (.Assign [.Subscript (.Name x p1) b p2] e pos) (Gg i fa fb):=by
 obtain ⟨t,p,k⟩:=ha
 obtain ⟨t',p',k'⟩:=hb
 refine ⟨_,b9N p (b9S (pN hN hv hd cE) p' b4p uU) hs hw h1,λO B σ H env fl af D R e q=>?_⟩
 unfold Gg at e
 cases h:env[i]? with
 | none=>rw [h] at e;cases e
 | some s =>
  rw [h] at e
  cases s with
  | no=>cases e
  | sh d=>cases e
  | dw ds=>cases e
  | tw _ _=>cases e
  | ow ds =>
   obtain ⟨r,e1,e2⟩:=bind_some e
   obtain ⟨kk,e2,e3⟩:=bind_some e2
   obtain ⟨l,xs,f1,f2,f3,f4⟩:=R.ow i ds h
   refine k O B σ H env r _ R e1 λv H1 s1 r1=>⟨_,f1,?_⟩
   refine k' O B σ H1 env kk _ (R.grow s1) e2 λw H2 s2 r2=>?_
   have hi:=r2.is λq=>(R.grow s1).oo
   cases hd:kk.d with
   | int n =>
    rw [hd] at hi e3
    obtain rfl:=pA hi
    obtain ⟨j,e4,e5⟩:=bind_some (show (mJ ds.length n).bind (λj=>some (Fl.nx,env.set i (.ow (ds.set j r.d))))=some (fl,af) from e3)
    cases e5
    have sG:=s1.trans s2
    refine ⟨l,xs,n,j,rfl,rfl,sG _ _ f3,by rw [f4.length];exact e4,?_⟩
    obtain ⟨R',g'⟩:=(R.grow sG).wr h f1 ((f4.grow sG).set ((r1.is λq=>R.oo).grow s2) j)
    exact q _ _ R' (g'.from sG)
   | _=>rw [hd] at e3;cases e3
def PP(X:Cx)(e:Option Expr)(f:En->Option (Option Int)):Prop:=
 ∃t:TO,PO X e t/\∀(O:Addr->Prop) (B:Hp) (σ:L2.St) (H:Hp) (env:En) (o:Option Int) (Q:Option Int->Hp->Prop),Rel X.K O B σ H env->f env=some o->(∀H',aE H H'->Q o H')->t σ H Q
noncomputable def BB:En->Option (Option Int):=λ_=>some none
noncomputable def Ax(f:En->Option Sl):En->Option (Option Int):=λenv=>(f env).bind λr=>match r.d with
 | .int i=>some (some i)
 | _=>none
theorem N2:PP X none BB:=⟨_,b7f,λO B σ H env o Q R e q=>by
 obtain rfl:=gY e
 exact q H (aE.refl _)⟩
theorem N3(h:EV X e fa):PP X (some e) (Ax fa):=by
 obtain ⟨t,p,k⟩:=h
 refine ⟨_,b7e p,λO B σ H env o Q R e q=>?_⟩
 obtain ⟨r,e1,e2⟩:=bind_some e
 refine k O B σ H env r _ R e1 λv H1 s1 r1=>?_
 have hi:=r1.is λq=>R.oo
 cases hd:r.d with
 | int i =>
  rw [hd] at hi e2
  obtain rfl:=gY e2
  exact ⟨i,pA hi,q H1 s1⟩
 | _=>rw [hd] at e2;cases e2
noncomputable def cutD(xs:List D)(lo hi:Option Int):List D:=(xs.drop (HT.df xs.length 0 lo)).take (HT.df xs.length xs.length hi-HT.df xs.length 0 lo)
theorem aO.cut{K:aJ}{O:Addr->Prop}{H:Hp}{xs:List V}{ds:List D}(h:aO K O H xs ds)(lo hi:Option Int):aO K O H (qj xs lo hi) (cutD ds lo hi):=by
 unfold qj cutD
 rw [h.length]
 exact (h.drop _).take _
noncomputable def JJ(f:En->Option (Bool×List D))(lo hi:En->Option (Option Int)):En->Option Sl:=λenv=>(f env).bind λx=>(lo env).bind λl=>(hi env).bind λh =>
 if x.1=true then some (.ow (cutD x.2 l h)) else if ¬(HT.df x.2.length 0 l=0/\HT.df x.2.length x.2.length h=x.2.length) then some (.sh (.tup (cutD x.2 l h))) else none
theorem b05{ba:En->Option (Bool×List D)}{lo hi:Option Expr}{fl fh:En->Option (Option Int)}{p2:Pos}(ha:BV X a ba)(hl:PP X lo fl)(hh:PP X hi fh):EV X (.Subscript a (.Slice lo hi none p2) pos) (JJ ba fl fh):=by
 obtain ⟨t,p,k⟩:=ha
 obtain ⟨tl,pl,kl⟩:=hl
 obtain ⟨th,ph,kh⟩:=hh
 refine ⟨_,b0R (Bw.or b9A) p pl ph,λO B σ H env r Q R e q=>?_⟩
 obtain ⟨⟨kk,ds⟩,e1,e2⟩:=bind_some e
 obtain ⟨l,e2,e3⟩:=bind_some e2
 obtain ⟨h,e3,e4⟩:=bind_some e3
 refine k O B σ H env kk ds _ R e1 λpp xs H1 s1 hq hx=>?_
 refine kl O B σ H1 env l _ (R.grow s1) e2 λH2 s2=>?_
 refine kh O B σ H2 env h _ ((R.grow s1).grow s2) e3 λH3 s3=>?_
 have sG:=s1.trans (s2.trans s3)
 have iV:=hq.grow (s2.trans s3)
 have qd:=hx.grow (s2.trans s3)
 dsimp only at e4
 cases kk with
 | true =>
  rw [if_pos rfl] at e4
  obtain rfl:=gY e4
  exact .inl ⟨pp,xs,rfl,iV,λp hp=>q _ _ (sG.trans (nW hp _)) ((Gx hp (qd.cut l h)).from sG)⟩
 | false =>
  rw [if_neg vC] at e4
  obtain ⟨hw,rfl⟩:=jg e4
  exact .inr ⟨pp,xs,rfl,iV,by rw [qd.length];exact hw,λp hp=>q _ _ (sG.trans (nW hp _)) ((N6 (O:=OO O σ env) (H:=H3) (λ_ z=>(R.grow sG).oo z) hp (qd.cut l h)).from sG)⟩
end
structure Def(K:aJ)(mg:Str->Option Value)(x:Str)(st:Stmt)(ps:List Str)(f:Addr)(fd:FuncData):Prop where
 fn:vZ K x x st f fd
 bd:Binds K fd ps []
 m:mg x=some (.ref f)
end DL
namespace DL
open PySem PySem.Spec PyProof.Rows L2
structure Fx(X:Cx)(N:List Str)(sc:Scope)(k:Nat)(full:Bool:=true):Prop where
 n:X.N=N
 sc:X.env.scope=sc
 calm:X.calm=true
 fn:full=true->∀x,X.fn x=true
 own:PassesOwn (model X.prog X.w) X.A X.env X.xe
 room:cF k X.A
 nd:N.Nodup
 top:full=true->X.stack=X.env::X.outer/\X.env.frame=some X.env.locals/\X.ex=[]
section
variable {X:Cx}{N:List Str}{sc:Scope}{k:Nat}{full:Bool}{pos p p1 p2 pos' au:Pos}{e a b:Expr}{fa fb:En->Option Sl}
theorem Fx.pT(h:Fx X N sc k full)(hv:ib sc x):ib X.env.scope x:=by rw [h.sc];exact hv
theorem Fx.loc(h:Fx X N sc k full)(hv:Loc sc x):Loc X.env.scope x:=by rw [h.sc];exact hv
theorem Fx.ix(h:Fx X N sc k full){i:Nat}{x:Str}(hN:N[i]?=some x):X.N[i]?=some x:=by rw [h.n];exact hN
theorem Fx.Fk(h:Fx X N sc k full)(hf:full=true\/sc.names.lookup x=some .local):X.fn x=true\/X.env.scope.names.lookup x=some .local:=hf.elim (λe=>.inl (h.fn e x)) λe=>.inr (by rw [h.sc];exact e)
theorem Fx.zu(h:Fx X N sc k full):X.N.Nodup:=by rw [h.n];exact h.nd
theorem Fx.g(h:Fx X N sc k full)(hg:sc.names.lookup x=some .globalImplicit:=by rfl):Gl X x:=by
 show X.env.kindOf x=some .globalImplicit
 unfold JO
 rw [h.sc]
 exact hg
theorem Fx.v(h:Fx X N sc k full)(i:Nat)(hN:N[i]?=some x:=by rfl)(hv:ib sc x:=by first | exact cZ rfl | exact cj (cZ rfl) | exact cj (cj rfl))(hd:(x==("__debug__":Str))=false:=by rfl)
  (cE:(x==("__classdict__":Str))=false:=by rfl):EV X (.Name x pos) (eV i):=YS i (h.ix hN) (h.pT hv) hd cE
theorem Fx.bv(h:Fx X N sc k full)(i:Nat)(hN:N[i]?=some x:=by rfl)(hv:ib sc x:=by first | exact cZ rfl | exact cj (cZ rfl) | exact cj (cj rfl))(hd:(x==("__debug__":Str))=false:=by rfl)
  (cE:(x==("__classdict__":Str))=false:=by rfl):BV X (.Name x pos) (bV i):=c01 i (h.ix hN) (h.pT hv) hd cE
theorem Fx.tg(h:Fx X N sc k full)(i:Nat)(hN:N[i]?=some x:=by rfl)(hv:Loc sc x:=by first | exact cZ rfl | exact cj rfl)(hf:full=true\/sc.names.lookup x=some .local:=by first | exact cZ rfl | exact cj rfl):GV X (.Name x pos) (gN i):=b7S h.zu (h.ix hN) (h.loc hv) (h.Fk hf)
theorem Fx.set(h:Fx X N sc k full)(i:Nat)(he:EV X e fa)(hN:N[i]?=some x:=by rfl)(hv:Loc sc x:=by first | exact cZ rfl | exact cj rfl)
  (hs:swapsWith e (some (.Name x pos')) pos.line X.env=pure false:=by rfl)(hf:full=true\/sc.names.lookup x=some .local:=by first | exact cZ rfl | exact cj rfl):SV X (.Assign [.Name x pos'] e pos) (jV i fa):=Zv h.zu (h.ix hN) (h.loc hv) he hs (h.Fk hf)
theorem Fx.dG(h:Fx X N sc k full)(i:Nat)(he:EV X e fa)(hN:N[i]?=some x:=by rfl)(hv:Loc sc x:=by first | exact cZ rfl | exact cj rfl)
  (hs:swapsWith e (some (.Name x pos')) pos.line X.env=pure false:=by rfl)(hf:full=true\/sc.names.lookup x=some .local:=by first | exact cZ rfl | exact cj rfl):SV X (.Assign [.Name x pos'] e pos) (gU i fa):=ZX h.zu (h.ix hN) (h.loc hv) he hs (h.Fk hf)
theorem Fx.ze(h:Fx X N sc k full)(i:Nat)(hN:N[i]?=some x:=by rfl)(hv:ib sc x:=by first | exact cZ rfl | exact cj (cZ rfl) | exact cj (cj rfl))(hd:(x==("__debug__":Str))=false:=by rfl)
  (cE:(x==("__classdict__":Str))=false:=by rfl):SV X (.Return (some (.Name x p2)) pos) (Be i):=b6Y i (h.ix hN) (h.pT hv) hd cE
theorem Fx.app(h:Fx X N sc k full)(i:Nat)(ha:EV X e fa)(hN:N[i]?=some x:=by rfl)(hv:ib sc x:=by first | exact cZ rfl | exact cj (cZ rfl) | exact cj (cj rfl))(hd:(x==("__debug__":Str))=false:=by rfl)
  (cE:(x==("__classdict__":Str))=false:=by rfl)(hs:starEach [e] X.env=[(false,eval e X.env)]:=by rfl)
  (bA:attributeBase (.Name x p1) "append" X.env (eval (.Name x p1) X.env)=eval (.Name x p1) X.env:=by rfl)
  (gF:((backTo au (starEach [e] X.env)).all (λx=>!x.1)&&(backToKw au (keywordEach [] X.env)).all (λx=>x.1.isSome)
   && decide ([e].length+([]:List Keyword).length+(if ([]:List Keyword).isEmpty then 0 else 1)<30))=true:=by rfl)
  (bz:(p2.endLine==au.line)=true:=by rfl)
  (nJ:swapsWith (.Call (.Attribute (.Name x p1) "append" p2) [e] [] au) none pos.line X.env=pure false:=by rfl):
  SV X (.Expr (.Call (.Attribute (.Name x p1) "append" p2) [e] [] au) pos) (nD i fa):=a8x ha (h.ix hN) (h.pT hv) hd cE hs bA gF bz nJ
theorem Fx.ext(h:Fx X N sc k full)(i:Nat)(ha:EV X e fa)(hN:N[i]?=some x:=by rfl)(hv:ib sc x:=by first | exact cZ rfl | exact cj (cZ rfl) | exact cj (cj rfl))(hd:(x==("__debug__":Str))=false:=by rfl)
  (cE:(x==("__classdict__":Str))=false:=by rfl)(hs:starEach [e] X.env=[(false,eval e X.env)]:=by rfl)
  (bA:attributeBase (.Name x p1) "extend" X.env (eval (.Name x p1) X.env)=eval (.Name x p1) X.env:=by rfl)
  (gF:((backTo au (starEach [e] X.env)).all (λx=>!x.1)&&(backToKw au (keywordEach [] X.env)).all (λx=>x.1.isSome)
   && decide ([e].length+([]:List Keyword).length+(if ([]:List Keyword).isEmpty then 0 else 1)<30))=true:=by rfl)
  (bz:(p2.endLine==au.line)=true:=by rfl)
  (nJ:swapsWith (.Call (.Attribute (.Name x p1) "extend" p2) [e] [] au) none pos.line X.env=pure false:=by rfl):
  SV X (.Expr (.Call (.Attribute (.Name x p1) "extend" p2) [e] [] au) pos) (qX i fa):=b2l ha (h.ix hN) (h.pT hv) hd cE hs bA gF bz nJ
theorem Fx.pop(h:Fx X N sc k full)(i j:Nat){x y:Str}(hN:N[i]?=some x:=by rfl)(hx:Loc sc x:=by first | exact cZ rfl | exact cj rfl)(Rp:N[j]?=some y:=by rfl)(hv:ib sc y:=by first | exact cZ rfl | exact cj (cZ rfl) | exact cj (cj rfl))
  (hd:(y==("__debug__":Str))=false:=by rfl)(cE:(y==("__classdict__":Str))=false:=by rfl)
  (bA:attributeBase (.Name y p1) "pop" X.env (eval (.Name y p1) X.env)=eval (.Name y p1) X.env:=by rfl)
  (bz:(p2.endLine==au.line)=true:=by rfl)
  (hs:swapsWith (.Call (.Attribute (.Name y p1) "pop" p2) [] [] au) (some (.Name x pos')) pos.line X.env=pure false:=by rfl)(hf:full=true\/sc.names.lookup x=some .local:=by first | exact cZ rfl | exact cj rfl):
  SV X (.Assign [.Name x pos'] (.Call (.Attribute (.Name y p1) "pop" p2) [] [] au) pos) (qW i j):=b2j h.zu (h.ix hN) (h.loc hx) (h.ix Rp) (h.pT hv) hd cE bA bz hs (h.Fk hf)
theorem Fx.item(h:Fx X N sc k full)(i:Nat){x:Str}(ha:EV X e fa)(hb:EV X b fb)(hN:N[i]?=some x:=by rfl)(hv:ib sc x:=by first | exact cZ rfl | exact cj (cZ rfl) | exact cj (cj rfl))(hd:(x==("__debug__":Str))=false:=by rfl)
  (cE:(x==("__classdict__":Str))=false:=by rfl)
  (uU:∀v,assign (.Subscript (.Name x p1) b p2) X.env v=(do
   let ov <-holding [v] (eval (.Name x p1) X.env)
   let iv <-holding [v,ov] (eval b X.env)
   standAt p2
   holding [v,ov,iv] (setItem ov iv v)
   release [v,ov,iv] []):=by intro _;rfl)
  (hs:swapsWithSole [.Subscript (.Name x p1) b p2] e pos.line X.env=pure false:=by rfl)(hw:swappedStores [.Subscript (.Name x p1) b p2] e X.env=pure none:=by rfl)
  (h1:(assignEach [.Subscript (.Name x p1) b p2] X.env).map (·.2)=[assign (.Subscript (.Name x p1) b p2) X.env]:=by rfl):
  SV X (.Assign [.Subscript (.Name x p1) b p2] e pos) (Gg i fa fb):=b6Z ha hb (h.ix hN) (h.pT hv) hd cE uU hs hw h1
end
theorem Iv{us:List Value}(h:us.length=0):us=[]:=by
 exact Np.mp h
theorem b7B{us:List Value}(h:us.length=1):∃a0,us=[a0]:=by
 cases us with
 | nil=>cases h
 | cons a r =>
  have:=Iv (us:=r) (by simpa using h)
  exact ⟨a,by rw [this]⟩
theorem b7A{us:List Value}(h:us.length=2):∃a0 a1,us=[a0,a1]:=by
 cases us with
 | nil=>cases h
 | cons a r =>
  have:=b7B (us:=r) (by simpa using h)
  obtain ⟨b0,e⟩:=this
  exact ⟨a,b0,by rw [e]⟩
theorem b7z{us:List Value}(h:us.length=3):∃a0 a1 a2,us=[a0,a1,a2]:=by
 cases us with
 | nil=>cases h
 | cons a r =>
  have:=b7A (us:=r) (by simpa using h)
  obtain ⟨b0,b1,e⟩:=this
  exact ⟨a,b0,b1,by rw [e]⟩
theorem c0h{us:List Value}(h:us.length=4):∃a0 a1 a2 a3,us=[a0,a1,a2,a3]:=by
 cases us with
 | nil=>cases h
 | cons a r =>
  have:=b7z (us:=r) (by simpa using h)
  obtain ⟨b0,b1,b2,e⟩:=this
  exact ⟨a,b0,b1,b2,by rw [e]⟩
section
variable {P:Program}{w:World}{K:aJ}{mg:Str->Option Value}{base:Heap}
theorem Jx{x qual:Str}{st:Stmt}{f:Addr}{fd:FuncData}{N ps:List Str}{k:Nat}{F:SF}(Fn:vZ K x qual st f fd)(S:cz N ps (eS st))
  (cb:∀X:Cx,X.prog=P->X.w=w->X.K=K->X.mg=mg->X.base=base->Fx X N (eS st) k->oF X (jD st) F):cx P w K mg base jw (k+1) f fd ps (qR K ps.length (bQ F N.length)):=
 RC Fn S λfE A outer s H E hr=>cb _ rfl rfl rfl rfl rfl ⟨rfl,rfl,rfl,λ_ _=>rfl,B7,hr,S.nd,λ_=>⟨rfl,rfl,rfl⟩⟩
end
def Oz(P:Program)(w:World)(K:aJ)(mg:Str->Option Value)(base:Heap)(x:Str)(st:Stmt)(ps:List Str)(j:Nat)(φ:List D->Option Sl):Prop:=∃f fd,Def K mg x st ps f fd/\cx P w K mg base jw j f fd ps (qR K ps.length φ)
inductive Sx:Cx->Program->World->aJ->(Str->Option Value)->Heap->Prop
 | mk (X:Cx):Sx X X.prog X.w X.K X.mg X.base
theorem Jw{P:Program}{w:World}{K:aJ}{mg:Str->Option Value}{base:Heap}{x:Str}{st:Stmt}{f:Addr}{fd:FuncData}{N ps:List Str}{k:Nat}{F:SF}(D':Def K mg x st ps f fd)
  (cb:∀X:Cx,Sx X P w K mg base->Fx X N (eS st) k->oF X (jD st) F)(S:cz N ps (eS st):=by exact ⟨rfl,rfl,rfl,by decide +kernel,rfl,by decide +kernel,by decide +kernel⟩):cx P w K mg base jw (k+1) f fd ps (qR K ps.length (bQ F N.length)):=
 Jx D'.fn S λX e1 e2 e3 e4 e5=>by subst e1 e2 e3 e4 e5;exact cb X (.mk X)
theorem h7{P:Program}{w:World}{K:aJ}{mg:Str->Option Value}{base:Heap}{x:Str}{st:Stmt}{f:Addr}{fd:FuncData}{N ps:List Str}{k:Nat}{F:SF}(D':Def K mg x st ps f fd)
  (cb:∀X:Cx,Sx X P w K mg base->Fx X N (eS st) k->oF X (jD st) F)(S:cz N ps (eS st):=by exact ⟨rfl,rfl,rfl,by decide +kernel,rfl,by decide +kernel,by decide +kernel⟩):Oz P w K mg base x st ps (k+1) (bQ F N.length):=
 ⟨f,fd,D',Jw D' cb S⟩
theorem zo{X X':Cx}{x:Str}{st:Stmt}{ps:List Str}{j:Nat}{φ:List D->Option Sl}(e1:X'.prog=X.prog)(e2:X'.w=X.w)(e3:X'.K=X.K)(e4:X'.mg=X.mg)(e5:X'.base=X.base)(O:Oz X.prog X.w X.K X.mg X.base x st ps j φ):Oz X'.prog X'.w X'.K X'.mg X'.base x st ps j φ:=by
 rw [e1,e2,e3,e4,e5];exact O
theorem Fx.cl{X:Cx}{N:List Str}{sc:Scope}{k j:Nat}{full:Bool}{x:Str}{st:Stmt}{ps:List Str}{φ:List D->Option Sl}{e:Expr}{es:List Expr}{fs:En->Option (List D)}{p pos:Pos}(h:Fx X N sc k full)(O:Oz X.prog X.w X.K X.mg X.base x st ps j φ)(ha:AV X (e::es) fs)(hj:j<=k:=by decide)(hg:sc.names.lookup x=some .globalImplicit:=by rfl)(hX:(x==("__debug__":Str))=false:=by decide)(he:starEach (e::es) X.env=(false,eval e X.env)::starEach es X.env:=by rfl)(gm:(backTo pos (starEach es X.env)).any (·.1)=false:=by rfl):
  EV X (.Call (.Name x p) (e::es) [] pos) (bT ps.length φ fs):=by
 obtain ⟨f,fd,D',F⟩:=O
 exact b79 F (h.room.mono hj) (h.g hg) D'.m D'.fn.kp D'.bd ha hX he gm
structure FI(K:aJ)(n:Str)(t:Stmt)(f:Addr)(od an:Option Addr)(sl:Array (Option Value))(oc kV dc pm cd ct:Value):Prop where
 a:kf K mainGlobals n=some (some (.ref f))
 l:K.lookup f=some ⟨oc,od,.func (nM n n (pC t) (jD t) (eS t) .none kV dc pm an cd ct),sl⟩
 c:J' K cd n=true
 k:yz K (.ref f)=true
section
variable {K:aJ}{mg:Str->Option Value}{h:Heap}{n:Str}{t:Stmt}{f:Addr}{od an:Option Addr}{sl:Array (Option Value)}{oc kV dc pm cd ct:Value}{ps:List Str}
theorem Me(X:K.In h)(G:h.Ns mainGlobals mg)(i:FI K n t f od an sl oc kV dc pm cd ct)(hb:∀(kV doc pm:Value) (an:Option Addr) (fE ct:Value) (us:List Value),us.length=ps.length->bindArgs (nM n n (pC t) (jD t) (eS t) .none kV doc pm an fE ct) ⟨us,[]⟩=pure (ps.zip us)):Def K mg n t ps f (nM n n (pC t) (jD t) (eS t) .none kV dc pm an cd ct):=
 ⟨NS i.l i.c i.k,(NS i.l i.c i.k).binds hb,nh X G i.a⟩
theorem mG(X:K.In h)(G:h.Ns mainGlobals mg)(i:FI K n t f od an sl oc kV dc pm cd ct)(hb:∀(kV doc pm:Value) (an:Option Addr) (fE ct a0:Value),bindArgs (nM n n (pC t) (jD t) (eS t) .none kV doc pm an fE ct) ⟨[a0],[]⟩=pure (ps.zip [a0]):=by intros;rfl)(hl:ps.length=1:=by rfl):Def K mg n t ps f (nM n n (pC t) (jD t) (eS t) .none kV dc pm an cd ct):=
 Me X G i λ_ _ _ _ _ _ us hu=>by obtain ⟨_,rfl⟩:=b7B (hu.trans hl);exact hb ..
theorem p9(X:K.In h)(G:h.Ns mainGlobals mg)(i:FI K n t f od an sl oc kV dc pm cd ct)(hb:∀(kV doc pm:Value) (an:Option Addr) (fE ct a0 a1:Value),bindArgs (nM n n (pC t) (jD t) (eS t) .none kV doc pm an fE ct) ⟨[a0,a1],[]⟩=pure (ps.zip [a0,a1]):=by intros;rfl)(hl:ps.length=2:=by rfl):Def K mg n t ps f (nM n n (pC t) (jD t) (eS t) .none kV dc pm an cd ct):=
 Me X G i λ_ _ _ _ _ _ us hu=>by obtain ⟨_,_,rfl⟩:=b7A (hu.trans hl);exact hb ..
theorem BF(X:K.In h)(G:h.Ns mainGlobals mg)(i:FI K n t f od an sl oc kV dc pm cd ct)(hb:∀(kV doc pm:Value) (an:Option Addr) (fE ct a0 a1 a2:Value),bindArgs (nM n n (pC t) (jD t) (eS t) .none kV doc pm an fE ct) ⟨[a0,a1,a2],[]⟩=pure (ps.zip [a0,a1,a2]):=by intros;rfl)(hl:ps.length=3:=by rfl):Def K mg n t ps f (nM n n (pC t) (jD t) (eS t) .none kV dc pm an cd ct):=
 Me X G i λ_ _ _ _ _ _ us hu=>by obtain ⟨_,_,_,rfl⟩:=b7z (hu.trans hl);exact hb ..
theorem QC(X:K.In h)(G:h.Ns mainGlobals mg)(i:FI K n t f od an sl oc kV dc pm cd ct)(hb:∀(kV doc pm:Value) (an:Option Addr) (fE ct a0 a1 a2 a3:Value),bindArgs (nM n n (pC t) (jD t) (eS t) .none kV doc pm an fE ct) ⟨[a0,a1,a2,a3],[]⟩=pure (ps.zip [a0,a1,a2,a3]):=by intros;rfl)(hl:ps.length=4:=by rfl):Def K mg n t ps f (nM n n (pC t) (jD t) (eS t) .none kV dc pm an cd ct):=
 Me X G i λ_ _ _ _ _ _ us hu=>by obtain ⟨_,_,_,_,rfl⟩:=c0h (hu.trans hl);exact hb ..
end
end DL
namespace DL
open PySem L2
theorem c0B(i j:Int):rH (.int i) (.int j)=some (.sh (.int (i-j))):=rfl
end DL
namespace DL
open PySem PySem.Spec PyProof.Rows L2
def EM(K:aJ)(O:Addr->Prop)(J:It)(H:Hp)(ds:List D):Prop:=
 ∀(O':Addr->Prop) (H2:Hp),(∀q u,H q=some u->¬O q->H2 q=some u/\¬O' q)->(∀q,O' q->H2 q≠none) ->
  ∀i:Nat,(∀d,ds[i]?=some d->J.go i H2/\∀x H3,J.Dt i H2 x H3->aE H2 H3/\Is K O' H3 x d)/\(ds.length<=i->J.stop i H2)
def IV(X:Cx)(tg it:Expr)(f:En->Option (List D)):Prop:=
 ∃wi:TI,PI X tg it wi/\∀(O:Addr->Prop) (B:Hp) (σ:L2.St) (H:Hp) (env:En) (ds:List D) (R:It->Hp->Prop),Rel X.K O B σ H env->f env=some ds ->
  (∀J H',aE H H'->EM X.K (OO O σ env) J H' ds->R J H')->wi σ H R
theorem b63{K:aJ}{O:Addr->Prop}{H H2:Hp}{k:Bool}{p:Addr}{xs:List V}(kp:∀q u,H q=some u->¬O q->H2 q=some u)(h:Sq K H k p xs)(hp:¬O p):Sq K H2 k p xs:=by
 cases k with
 | true =>
  rcases h with (h | ⟨o,h⟩) | h
  .exact .inl (.inl (kp _ _ h hp))
  .exact .inl (.inr ⟨o,kp _ _ h hp⟩)
  .exact .inr h
 | false =>
  rcases h with (h | ⟨o,h⟩) | h
  .exact .inl (.inl (kp _ _ h hp))
  .exact .inl (.inr ⟨o,kp _ _ h hp⟩)
  .exact .inr h
noncomputable def fM(f:En->Option Sl):En->Option (List D):=λenv=>(f env).bind λr=>(jj r.d).map (·.2)
section
variable {X:Cx}{tg it:Expr}{fa:En->Option Sl}
theorem Ai(hi:EV X it fa):IV X tg it (fM fa):=by
 obtain ⟨ti,pi,ki⟩:=hi
 refine ⟨_,Zc pi,λO B σ H env ds R Rl e q=>?_⟩
 obtain ⟨r,e1,e2⟩:=bind_some e
 obtain ⟨⟨k,ds'⟩,e4,e5⟩:=map_some e2
 cases e5
 refine ki O B σ H env r _ Rl e1 λv H1 s1 r1=>?_
 obtain ⟨p,xs,rfl,h1,h2,h3⟩:=(r1.is λq=>Rl.oo).HC e4
 refine ⟨p,rfl,?_⟩
 have key:∀(O':Addr->Prop) (H2:Hp),(∀q u,H1 q=some u->¬OO O σ env q->H2 q=some u/\¬O' q)->Sq X.K H2 k p xs/\aO X.K O' H2 xs ds':=λO' H2 kp=>by
  refine ⟨?_,h2.map (λq hq hn=>?_) λq u e n=>(kp q u e n).1⟩
  .rcases h3 with h3 | h3
   .exact b63 (λq u e n=>(kp q u e n).1) h1 h3
   .exact h3 H2
  .cases e:H1 q with
   | none=>exact (hq e).elim
   | some u=>exact (kp q u e hn).2
 cases k with
 | true =>
  refine .inl ⟨⟨xs,h1⟩,q _ H1 s1 λO' H2 kp hO i=>⟨λd hd=>?_,λhl=>?_⟩⟩
  .obtain ⟨hq,hs⟩:=key O' H2 kp
   obtain ⟨x,hx,AL⟩:=hs.get hd
   refine ⟨⟨xs,x,hq,hx⟩,λy H3 hy=>?_⟩
   obtain ⟨rfl,hy⟩:=hy
   have:=hy xs hq
   rw [hx] at this
   cases this
   exact ⟨aE.refl _,AL⟩
  .obtain ⟨hq,hs⟩:=key O' H2 kp
   exact ⟨xs,hq,by rw [hs.length];exact hl⟩
 | false =>
  refine .inr ⟨⟨xs,h1⟩,q _ H1 s1 λO' H2 kp hO i=>⟨λd hd=>?_,λhl=>?_⟩⟩
  .obtain ⟨hq,hs⟩:=key O' H2 kp
   obtain ⟨x,hx,AL⟩:=hs.get hd
   refine ⟨⟨xs,x,hq,hx⟩,λy H3 hy=>?_⟩
   obtain ⟨rfl,hy⟩:=hy
   have:=hy xs hq
   rw [hx] at this
   cases this
   exact ⟨aE.refl _,AL⟩
  .obtain ⟨hq,hs⟩:=key O' H2 kp
   exact ⟨xs,hq,by rw [hs.length];exact hl⟩
theorem b0N{K:aJ}{O:Addr->Prop}{H:Hp}(lo:Int)(n:Nat):EM K O (uc lo n) H (fS lo n):=λO' H2 _ _ i=>by
 refine ⟨λd hd=>?_,λhl=>show n<=i by simpa [fS] using hl⟩
 unfold fS at hd
 rw [nj] at hd
 obtain ⟨k,hk,rfl⟩:=map_some hd
 obtain ⟨hi,rfl⟩:=ni.mp hk
 rw [FX] at hi
 refine ⟨hi,λx H3 hy=>?_⟩
 obtain ⟨rfl,rfl⟩:=hy
 rw [List.getElem_range]
 exact ⟨aE.refl _,Is.int _⟩
noncomputable def mY(h:List D->Option (List D))(f:En->Option (List D)):En->Option (List D):=λenv=>(f env).bind h
noncomputable def Kt(f:En->Option (List D))(g:GF)(F:SF):SF:=λenv=>(f env).bind λds=>forL g F ds env
theorem Ux(hp:PassesOwn (model X.prog X.w) X.A X.env X.xe)(hc:X.calm=true)(hi:IV X tg it fi)(hg:GV X tg g)(hb:oF X body F)
  (hs:∀x,foldedSetIterable it X.env x=pure x:=by intro _;rfl):SV X (.For tg it body [] pos) (Kt fi g F):=by
 obtain ⟨wi,pi,ki⟩:=hi
 obtain ⟨Bv,pg,kg⟩:=hg
 obtain ⟨tb,pb,kb⟩:=hb
 refine ⟨_,T6 hp hc pi pg pb hs,λO B σ H env fl af D R e q=>?_⟩
 obtain ⟨ds,e1,e2⟩:=bind_some e
 refine ki O B σ H env ds _ R e1 λJ H1 s1 wk=>?_
 have q':gD X.K O B σ H1 env D fl af:=q.from (Gd.refl s1)
 refine ⟨λi m dM H2=>m=ds.length-i/\i<=ds.length/\Left X.K O B σ H1 env g F ds fl af i dM H2,⟨ds.length,by simp,vF _,⟨env,R.grow s1,Gd.refl (aE.refl _),e2⟩⟩,?_⟩
 rintro i m dM H2 ⟨rfl,hi,L⟩
 obtain ⟨bR,R2,gd,ee⟩:=id L
 have w:=wk (OO O dM bR) H2 (λa u ea na=>by
  obtain ⟨h1,h2⟩:=gd a u ea λz=>na (.inr z)
  exact ⟨h1,λz=>z.elim (λz=>na (.inl z)) h2⟩) (λa=>R2.oo) i
 by_cases iw:i<ds.length
 .obtain ⟨go,yl⟩:=w.1 ds[i] (by simp [iw])
  refine .inr ⟨go,Left X.K O B σ H1 env g F ds fl af (i+1),λaK H' p'=>⟨ds.length-(i+1),by omega,rfl,iw,p'⟩,λx H3 hy=>?_⟩
  obtain ⟨s3,hx⟩:=yl x H3 hy
  have rF:ds.drop i=ds[i]::ds.drop (i+1):=Nb iw
  rw [rF,forL] at ee
  cases Ra:g ds[i] bR with
  | none=>rw [Ra] at ee;cases ee
  | some rJ =>
   rw [Ra] at ee
   refine kg O B dM H3 bR rJ x ds[i] _ (R2.grow s3) hx Ra λσ4 H4 R4 g4=>?_
   dsimp only at ee
   cases hF:F rJ with
   | none=>rw [hF] at ee;cases ee
   | some y =>
    obtain ⟨f2,k8⟩:=y
    rw [hF] at ee
    have Rv:=gd.trans ((Gd.refl s3).trans g4)
    refine kb O B σ4 H4 rJ f2 k8 _ R4 hF ?_
    cases f2 with
    | nx=>exact λPu H5 R5 g5=>⟨k8,R5,Rv.trans g5,ee⟩
    | ct=>exact λPu H5 R5 g5=>⟨k8,R5,Rv.trans g5,ee⟩
    | bk=>cases ee;exact λPu H5 R5 g5=>q' Pu H5 R5 (Rv.trans g5)
    | rt r=>cases ee;exact q'
 .exact .inl ⟨w.2 (by omega),Oc (by omega) q' L⟩
end
noncomputable def rl(dH sc:Scope):Scope:=
 { dH with names:=dH.names.map λ(n,k)=>if (k==.free&&sc.kind==.function&&sc.names.lookup n==some .cell) then (n,.cell) else (n,k) }
theorem Vb{sc:Scope}:∀{names:List (Str×NameKind)} {x:Str} {k:NameKind},names.lookup x=some k ->
  (names.map λ(n,k)=>if (k==vE&&sc.kind==.function&&sc.names.lookup n==some .cell) then (n,Ez) else (n,k)).lookup x=some (if (k==vE&&sc.kind==.function&&sc.names.lookup x==some .cell) then Ez else k)
 | [],_,_,h=>by simp at h
 | (n,k')::r,x,k,h=>by
  have ih:=@Vb sc r x k
  show zZ x ((if (k'==vE&&sc.kind==.function&&sc.names.lookup n==some .cell)=true then (n,Ez) else (n,k'))::_)=_
  cases hx:x==n with
  | true =>
   simp only [qG,hx] at h
   cases h
   have e:x=n:=by simpa using hx
   subst e
   split<;>simp [qG]
  | false =>
   simp only [qG,hx] at h
   split
   .simp only [qG,hx];exact ih h
   .simp only [qG,hx];exact ih h
theorem b1P{sc:Scope}:∀{names:List (Str×NameKind)} {x:Str} {k:NameKind},
  (names.map λ(n,k)=>if (k==vE&&sc.kind==.function&&sc.names.lookup n==some .cell) then (n,Ez) else (n,k)).lookup x=some k->∃k',names.lookup x=some k'/\k=if (k'==vE&&sc.kind==.function&&sc.names.lookup x==some .cell) then Ez else k'
 | names,x,k,h=>by
  cases e:names.lookup x with
  | some k'=>have:=Vb (sc:=sc) e;rw [h] at this;exact ⟨k',rfl,gY this⟩
  | none =>
   exfalso
   induction names with
   | nil=>simp at h
   | cons y r ih =>
    obtain ⟨n,k'⟩:=y
    have h':zZ x ((if (k'==vE&&sc.kind==.function&&sc.names.lookup n==some .cell)=true then (n,Ez) else (n,k'))::(r.map λ(n,k)=>if (k==vE&&sc.kind==.function&&sc.names.lookup n==some .cell) then (n,Ez) else (n,k)))=some k:=h
    cases hx:x==n with
    | true=>simp [qG,hx] at e
    | false =>
     simp only [qG,hx] at e
     apply ih _ e
     split at h'
     .simpa only [qG,hx] using h'
     .simpa only [qG,hx] using h'
noncomputable def jY(cells:List (Str×Addr)):List (Str×NameKind)->List (Str×Addr)->List (Str×Addr)
 | [],acc=>acc
 | (n,k)::r,acc=>jY cells r (if k==.free then (n,(cells.lookup n).getD 0)::acc else acc)
theorem Vo:∀(names:List (Str×NameKind)) (acc:List (Str×Addr)),(∀y∈names,y.2=.free->∃c,env.cells.lookup y.1=some c) ->
  (forIn names acc λ(x:Str×NameKind) r=>(if (x.2==.free)=true then do let a <-cellOf env x.1;pure (F5 ((x.1,a)::r)) else pure (F5 r):Sem (ForInStep (List (Str×Addr)))))=pure (jY env.cells names acc)
 | [],acc,_=>rfl
 | (n,k)::r,acc,h=>by
  rw [List.forIn_cons]
  have hr:∀y∈r,y.2=.free->∃c,env.cells.lookup y.1=some c:=λy hy=>h y (i0 _ hy)
  cases hk:k==vE with
  | true =>
   have ek:k=.free:=by simpa using hk
   obtain ⟨c,hc⟩:=h (n,k) jM ek
   replace hc:env.cells.lookup n=some c:=hc
   have Ri:cellOf env n=pure c:=by unfold cellOf;rw [hc]
   simp only [if_true]
   rw [Ri]
   simp only [pure_bind]
   rw [Vo r _ hr]
   conv=>rhs;unfold jY
   rw [hk,hc]
   rfl
  | false =>
   simp only [B9,if_false,pure_bind]
   rw [Vo r _ hr]
   conv=>rhs;unfold jY
   rw [hk]
   rfl
theorem a8m(h:∀y∈sc.names,y.2=.free->∃c,env.cells.lookup y.1=some c):closureFor sc env=pure (jY env.cells sc.names []):=by
 unfold closureFor
 rw [<-Vo sc.names [] h]
 show (forIn sc.names [] _ >>= λcs=>pure cs)=_
 rw [bind_pure]
theorem b1c:∀(names:List (Str×NameKind)) (acc:List (Str×Addr)) {c:Addr},(jY cells names acc).lookup x=some c->acc.lookup x=some c\/((x,vE)∈names/\c=(cells.lookup x).getD 0)
 | [],acc,c,h=>.inl h
 | (n,k)::r,acc,c,h=>by
  unfold jY at h
  rcases b1c r _ h with h1 | ⟨h,e⟩
  .clear h
   have h:=h1
   clear h1
   cases hk:k==vE with
   | false=>rw [hk] at h;exact .inl (by simpa using h)
   | true =>
    rw [hk] at h
    simp only [if_true] at h
    have ek:k=.free:=by simpa using hk
    cases hx:x==n with
    | true =>
     simp only [qG,hx] at h
     have e:x=n:=by simpa using hx
     subst e ek
     exact .inr ⟨jM,(gY h).symm⟩
    | false =>
     simp only [qG,hx] at h
     exact .inl h
  .exact .inr ⟨i0 _ h,e⟩
theorem a9i:∀(names:List (Str×NameKind)) (acc:List (Str×Addr)),((∃c,acc.lookup x=some c)\/(x,vE)∈names)->∃c,(jY cells names acc).lookup x=some c
 | [],acc,h=>h.elim id λz=>nomatch z
 | (n,k)::r,acc,h=>by
  unfold jY
  refine a9i r _ ?_
  cases hk:k==vE with
  | false =>
   rcases h with h | h
   .exact .inl (by simpa using h)
   .rcases ej.mp h with e | h
    .cases e;simp at hk
    .exact .inr h
  | true =>
   simp only [if_true]
   cases hx:x==n with
   | true=>exact .inl ⟨_,by simp only [qG,hx];rfl⟩
   | false =>
    rcases h with ⟨c,h⟩ | h
    .exact .inl ⟨c,by simp only [qG,hx];exact h⟩
    .rcases ej.mp h with e | h
     .cases e;simp at hx
     .exact .inr h
structure eW(N:List Str)(sc:Scope)(N':List Str)(caps:List Nat)(nt:Nat)(dH:Scope):Prop where
 kind:dH.kind=.function
 loc:∀y∈dH.names,y.2=.local->dH.names.lookup y.1=some .local
 zv:∀y∈dH.names,y.2≠.cell
 free:∀y∈dH.names,y.2=.free->sc.names.lookup y.1=some .cell\/sc.names.lookup y.1=some .free
 nd:N'.Nodup
 len:N'.length=nt+caps.length
 cap:caps.map (λi=>N[i]?)=(N'.drop nt).map some
 fr:∀x∈N'.drop nt,dH.names.lookup x=some .free
theorem Vz{names:List (Str×NameKind)}{x:Str}(h:names.lookup x=some k):(x,k)∈names:=F3 h
noncomputable def lY:List Nat->En->Option En
 | [],_=>some []
 | i::is,env=>match env[i]? with
  | some (.sh d)=>(lY is env).map (Sl.sh d::·)
  | _=>none
noncomputable def l6(g:GF)(fc:En->Option Bool)(fe:En->Option Sl):List D->En->Option (List D)
 | [],_=>some []
 | d::ds,e=>(g d e).bind λe1=>(fc e1).bind λb=>if b=true then (fe e1).bind λr=>(l6 g fc fe ds e1).bind λrs=>some (r.d::rs) else l6 g fc fe ds e1
noncomputable def g7(fi:En->Option (List D))(caps:List Nat)(nt:Nat)(g:GF)(fc:En->Option Bool)(fe:En->Option Sl):En->Option Sl:=λenv =>
 (fi env).bind λds=>(lY caps env).bind λcs=>if ds.length<=16777216 then (l6 g fc fe ds (nN nt Sl.no++cs)).map Sl.ow else none
noncomputable def iY:List Nat->L2.St->L2.St
 | [],_=>[]
 | i::is,σ=>(σ[i]?).getD none::iY is σ
theorem ZG{K:aJ}{O:Addr->Prop}{B:Hp}{σ:L2.St}{H:Hp}{env:En}(R:Rel K O B σ H env):∀{caps:List Nat} {cs:En},lY caps env=some cs->cs.length=caps.length/\(iY caps σ).length=caps.length /\
  ∀(j:Nat) (s:Sl),cs[j]?=some s->∃(d:D) (v:V) (i:Nat),s=Sl.sh d/\(iY caps σ)[j]?=some (some v)/\Is K (OO O σ env) H v d/\caps[j]?=some i/\σ[i]?=some (some v)
 | [],cs,e=>by cases e;exact ⟨rfl,rfl,λj s h=>by simp at h⟩
 | i::is,cs,e=>by
  unfold lY at e
  cases h:env[i]? with
  | none=>rw [h] at e;cases e
  | some s =>
   rw [h] at e
   cases s with
   | no=>cases e
   | ow ds=>cases e
   | dw ds=>cases e
   | tw _ _=>cases e
   | sh d =>
    obtain ⟨cs',e1,rfl⟩:=map_some (show (lY is env).map (Sl.sh d::·)=some cs from e)
    obtain ⟨l1,l2,ih⟩:=ZG R e1
    obtain ⟨v,hv,hi⟩:=R.sh i d h
    refine ⟨by simp [l1],by simp [iY,l2],λj s hj=>?_⟩
    cases j with
    | zero=>simp at hj;subst hj;exact ⟨d,v,i,rfl,by simp [iY,hv],hi,rfl,hv⟩
    | succ j =>
     obtain ⟨d',v',i',a1,a2,a3,a4,a5⟩:=ih j s (by simpa using hj)
     exact ⟨d',v',i',a1,by simpa [iY] using a2,a3,by simpa using a4,a5⟩
def G2(X:Cx)(ifs:List Expr)(f:En->Option Bool):Prop:=
 ∃t:TT,(∀(pins:List (Addr×Obj)) (s:Shared) (σ:L2.St) (H:Hp) (Q:Bool->Hp->Prop),Inv X pins σ H s->t σ H Q ->
   wpAny (model X.prog X.w) X.A (forIn ifs true λc r=>if r=true then do let ok <-isTrue c X.env (eval c X.env);pure (F5 ok) else pure (F5 r)) (TP X pins σ Q) X.xe s) /\
  ∀(O:Addr->Prop) (B:Hp) (σ:L2.St) (H:Hp) (env:En) (b:Bool) (Q:Bool->Hp->Prop),Rel X.K O B σ H env->f env=some b->(∀H',aE H H'->Q b H')->t σ H Q
noncomputable def iN:En->Option Bool:=λ_=>some true
theorem r6:G2 X [] iN:=⟨λ_ H Q=>Q true H,λpins s σ H Q I h=>wpAny_tests_nil ⟨H,I,h⟩,λO B σ H env b Q R e q=>by cases e;exact q H (aE.refl _)⟩
theorem c0w(h:TV X c f):G2 X [c] f:=by
 obtain ⟨t,p,k⟩:=h
 exact ⟨t,λpins s σ H Q I h=>wpAny_tests_one (p pins s σ H Q I h),k⟩
section
variable {prog:Program}{w:World}{A:Around}{R:Result->Shared->Prop}{s:Shared}
theorem b0v{elt target iter:Expr}{ifs:List Expr}{scope:Scope}{pos:Pos}{it acc:Value}{env:Env}(I:Nat->Shared->Prop){N:Value->Shared->Prop}(hN:∀x s',N x s'->False)
  (turn:∀n s,I n s->wpAny (model prog w) A (pyNext it) (λr aT=>match r with
   | none=>R (.ok .next) aT
   | some v=>wpAny (model prog w) A (letOwnedTupleGo target it v) (λ_ CB=>wpAny (model prog w) A (assign target env v) (λ_ fF =>
     wpAny (model prog w) A (forIn ifs true λc r=>if r=true then do let ok <-isTrue c env (eval c env);pure (F5 ok) else pure (F5 r)) (λok pY =>
      if ok=true then wpAny (model prog w) A (eval elt env) (λx Hv =>
       wpAny (model prog w) A (call (.builtin "list.append") [acc,x]) (λ_ Hu=>∃m,m<n/\I m Hu) N Hv) N pY
      else ∃m,m<n/\I m pY) N fF) N CB) N aT) N s)
  (n:Nat)(h:I n s):
  codeAny (model prog w) A (.compLoop (.ListComp elt [⟨target,iter,ifs,0⟩] scope pos) 0 it acc env) R s:=by
 refine codeAny_loop rfl I (λn s hI=>?_) n h
 show wpAny _ A ((compTurn (.ListComp elt [⟨target,iter,ifs,0⟩] scope pos) 0 it acc env).onRaise (λx=>do noteFrame x env;theTreesLotGoes x)) _ _ s
 refine wpAny_noted ?_
 rw [compTurn_list]
 have no:∀{P:Value->Shared->Prop} (x:Value) (s':Shared),N x s'->P x s':=λx s' z=>(hN x s' z).elim
 refine aI (MR (aI (lL (turn n s hI) (λr aT h₁=>?_) no)))
 cases r with
 | none=>exact b9 h₁
 | some v =>
  refine aI (lL h₁ (λ_ CB IJ=>?_) no)
  refine aI (lL IJ (λ_ fF zD=>aI (lL zD (λok pY BI=>?_) no)) no)
  cases ok with
  | false=>exact b9 ⟨rfl,BI⟩
  | true =>
   exact aI (aI (lL BI (λx Hv QS=>aI (lL QS (λ_ Hu QR=>b9 (b9 ⟨rfl,QR⟩)) no)) no))
end
section
variable {X:Cx}{N N':List Str}{sc dH:Scope}{k:Nat}{full:Bool}{elt iter tg:Expr}{ifs:List Expr}{pos:Pos}{fi:En->Option (List D)}{caps:List Nat}{nt:Nat}{g:GF}{fc:En->Option Bool}{fe:En->Option Sl}
noncomputable def CP(X:Cx)(N':List Str)(dH:Scope)(ex:List Addr)(s:Shared)(H:Hp):Cx where
 prog:=X.prog
 w:=X.w
 K:=X.K
 mg:=X.mg
 base:=X.base
 A:=X.A
 N:=N'
 dF:=s
 Ao:=H
 env:=compEnvC dH (jY X.env.cells dH.names []) s.heap.objs.size X.env
 outer:=X.stack
 stack:=X.stack
 ex:=ex
 fn:=λ_=>false
 calm:=true
 pn:=[]
 xe:=λ_ _=>False
theorem De(C:eW N sc N' caps nt dH)(rB:X.env.scope=sc){pins:List (Addr×Obj)}{σ:L2.St}{H:Hp}{s:Shared}(I:Inv X pins σ H s){x:Str}{c:Addr}(h:(jY X.env.cells dH.names []).lookup x=some c):X.env.cells.lookup x=some c:=by
 rcases b1c _ _ h with h | ⟨h,e⟩
 .simp at h
 .obtain ⟨c',AN⟩:=I.ok.has x (by
   show X.env.scope.names.lookup x=_\/X.env.scope.names.lookup x=_
   rw [rB]
   exact C.free _ h rfl)
  rw [AN] at e
  rw [e];exact AN
theorem Zj(h:dH.names.lookup x=some .free):∃c,(jY X.env.cells dH.names []).lookup x=some c:=a9i _ _ (.inr (Vz h))
theorem b5v(C:eW N sc N' caps nt dH)(rB:X.env.scope=sc)(hc:X.calm=true){pins:List (Addr×Obj)}{σ:L2.St}{H:Hp}{s s3:Shared}{fp:List Addr}(I:Inv X pins σ H s)(I3:Inv X pins σ H s3)
  (hf:∀b∈fp,md X pins H b)(Jc:∀b∈fp,∃o,s3.heap.get? b=some o)(hs:s3.heap.objs.size=s.heap.objs.size+1):(CP X N' dH (s.heap.objs.size::fp) s3 H).Ok:=by
 have small:∀x c,X.env.cells.lookup x=some c->c<s.heap.objs.size:=λx c e=>by
  obtain ⟨v,z⟩:=I.cell x c e
  exact z.lt
 have kd:∀x,((CP X N' dH (s.heap.objs.size::fp) s3 H).env.kindOf x=some .cell\/(CP X N' dH (s.heap.objs.size::fp) s3 H).env.kindOf x=some .free)->dH.names.lookup x=some .free:=λx h=>by
  have h':∃k,(rl dH X.env.scope).names.lookup x=some k/\(k=.cell\/k=.free):=h.elim (λz=>⟨_,z,.inl rfl⟩) λz=>⟨_,z,.inr rfl⟩
  obtain ⟨k,e,hk⟩:=h'
  obtain ⟨k',e1,e2⟩:=b1P e
  have nc:k'≠.cell:=C.zv _ (Vz e1)
  by_cases CO:(k'==vE&&X.env.scope.kind==.function&&X.env.scope.names.lookup x==some .cell)=true
  .have:k'=.free:=by
    have:=(tV _ _▸(tV _ _▸CO).1).1
    simpa using this
   rw [e1,this]
  .rw [if_neg CO] at e2
   subst e2
   rcases hk with rfl | rfl
   .exact (nc rfl).elim
   .exact e1
 refine ⟨I.ok.mod,C.kind,I.ok.glob,I.ok.blt,cT _,λx y c h1 h2=>I.ok.inj x y c (De C rB I h1) (De C rB I h2),λx h=>Zj (kd x h),λ_ _ (z:false=true) _=>(nomatch z),λ_=>I.ok.hd hc,I.ok.frames,.inl rfl,λb hb=>⟨?_,λx c e=>?_⟩,λb o e=>?_,?_,λb o e hb=>?_,λb hb AK=>?_,I3.stack,λb hb=>I.kn b hb⟩
 .show b≠s3.heap.objs.size
  rcases ej.mp hb with rfl | hb
  .rw [hs];exact gi (qo _)
  .obtain ⟨o,e⟩:=Jc b hb
   exact gi (eD e)
 .have e':=De C rB I e
  rcases ej.mp hb with rfl | hb
  .exact gi (small x c e')
  .exact (hf b hb).2.2.2.2.1 x c e'
 .exact I3.bs b o e
 .exact iZ I.ok.vG I3.sz
 .have lt:b<X.base.objs.size:=eD e
  have h0:=I.ok.vG
  have h1:=I.sz
  rcases ej.mp hb with rfl | hb
  .exact absurd (pq lt (iZ h0 h1)) (z7 _)
  .rcases (hf b hb).2.2.2.1 with z | z
   .exact I.ok.rh b o e z
   .exact absurd (pq lt (iZ h0 z)) (z7 _)
 .rcases ej.mp hb with rfl | hb
  .obtain ⟨_,o,ho,_⟩:=I.stack.mem AK
   exact absurd (eD ho) (z7 _)
  .rcases ej.mp (I.ji b AK) with z | z
   .exact (hf b hb).2.1 z
   .exact (hf b hb).2.2.1 z
theorem N4{α:Type}{n j:Nat}{x y:α}{l:List α}(h:(nN n x++l)[j]?=some y):y=x\/(n<=j/\l[j-n]?=some y):=by
 by_cases hj:j<n
 .rw [Tj (by simpa using hj),C1,if_pos hj] at h
  exact .inl (gY h).symm
 .rw [Tn (by simpa using hj),Ke] at h
  exact .inr ⟨by omega,h⟩
theorem b32(C:eW N sc N' caps nt dH)(rB:X.env.scope=sc)(hN:X.N=N)(hc:X.calm=true){pins:List (Addr×Obj)}{σ:L2.St}{H:Hp}{s s3 s4:Shared}{fp:List Addr}(I:Inv X pins σ H s)(I3:Inv X pins σ H s3)
  (hf:∀b∈fp,md X pins H b)(Jc:∀b∈fp,∃o,s3.heap.get? b=some o)(hs:s3.heap.objs.size=s.heap.objs.size+1)
  (DX:s4.os=s3.os)(hg:s4.gens=s3.gens)(hk:∀b o,s3.heap.get? b=some o->s4.heap.get? b=some o)(CK:s4.heap.Ns s3.heap.objs.size λ_=>none):
  Inv (CP X N' dH (s.heap.objs.size::fp) s3 H) [] (nN nt none++iY caps σ) H s4:=by
 have sl:∀(caps:List Nat) (σ:L2.St),(iY caps σ).length=caps.length:=λcaps σ=>by
  induction caps with
  | nil=>rfl
  | cons i r ih=>simp [iY,ih]
 have sg:∀(caps:List Nat) (σ:L2.St) (j:Nat) (v:V),(iY caps σ)[j]?=some (some v)->∃i,caps[j]?=some i/\σ[i]?=some (some v):=λcaps σ=>by
  induction caps with
  | nil=>intro j v h;simp [iY] at h
  | cons i r ih =>
   intro j v h
   cases j with
   | zero =>
    have h':(σ[i]?).getD none=some v:=by simpa [iY] using h
    refine ⟨i,rfl,?_⟩
    cases e:σ[i]? with
    | none=>rw [e] at h';cases h'
    | some o=>rw [e] at h';exact congrArg some h'
   | succ j =>
    obtain ⟨i',e1,e2⟩:=ih j v (by simpa [iY] using h)
    exact ⟨i',by simpa using e1,e2⟩
 refine ⟨b5v C rB hc I I3 hf Jc hs,DX,by rw [hg];exact I3.bare,Un.kept hk,⟨_,CK,λi x v h1 h2 h3=>?_⟩,λx c e=>?_,I3.bE.fresh (cT _),λx c e=>I3.d9 x c (De C rB I e),λp hp=>absurd (show p∈([]:List (Addr×Obj)) from hp) (by simp),I3.bE.kept hk,?_⟩
 .have h1:N'[i]?=some x:=h1
  rcases N4 h2 with z | ⟨hi,h2⟩
  .cases z
  .obtain ⟨i',e1,e2⟩:=sg caps σ _ v h2
   have hd:(N'.drop nt)[i-nt]?=some x:=by rw [List.getElem?_drop,Nat.add_sub_cancel' hi];exact h1
   have hm:=congrArg (λl=>l[i-nt]?) C.cap
   simp only [nj,e1,hd,Option.map_some] at hm
   have hN':X.N[i']?=some x:=by rw [hN];exact gY hm
   have Jb:=C.fr x (Nr hd)
   have mV:=C.free _ (Vz Jb) rfl
   obtain ⟨m,hn,hl⟩:=I3.loc
   obtain ⟨u,r,l⟩:=hl i' x v hN' e2 (by rw [rB];exact .inr mV)
   refine ⟨u,r,.inr ⟨?_,?_⟩⟩
   .have e:=Vb (sc:=X.env.scope) Jb
    show (rl dH X.env.scope).names.lookup x=_\/(rl dH X.env.scope).names.lookup x=_
    have e':(rl dH X.env.scope).names.lookup x=_:=e
    rw [e']
    split
    .exact .inl rfl
    .exact .inr rfl
   .rcases l with ⟨k,_⟩ | ⟨k,c,e,z⟩
    .exfalso
     have k:X.env.scope.names.lookup x=some .local:=k
     rw [rB] at k
     dsimp only at mV
     rw [k] at mV
     rcases mV with z | z<;>cases z
    .obtain ⟨c',AN⟩:=Zj (X:=X) Jb
     have:=De C rB I AN
     rw [e] at this
     cases this
     exact ⟨c,AN,z.keeps hk⟩
 .obtain ⟨v,z⟩:=I3.cell x c (De C rB I e)
  exact ⟨v,z.keeps hk⟩
 .show (nN nt none++iY caps σ).length=N'.length
  rw [jv,Ke,sl,C.len]
theorem b4c(r:aF xs us):xs.length=us.length:=r.length
theorem b31{pins pl:List (Addr×Obj)}{σ aK:L2.St}{H2 H':Hp}{s2 s3 s1:Shared}{fp:List Addr}{h':Heap}{xs:List V}{ys:List Value}(I2:Inv X pins σ H2 s2)(hs3:s3.os=s2.os)(Jm:∀b o,s2.heap.get? b=some o->s3.heap.get? b=some o)
  (hsz:s3.heap.objs.size=s2.heap.objs.size+1)(f2:∀b∈fp,md X pins H2 b)(I':Inv (CP X N' dH (s2.heap.objs.size::fp) s3 H2) pl aK H' s1)(sb:Aa s3.heap.objs.size s1.heap h')
  (hn:H' s2.heap.objs.size=none)(hl:∃n,s1.heap.get? s2.heap.objs.size=some { cls:=.type "list",data:=.seq ys.toArray n })(hv:aF xs ys)(hz:xs.length<=sizeLine):
  Inv X pins σ (upd H' s2.heap.objs.size (.lst xs)) { s1 with heap:=h' }:=by
 have ltC:∀b,b<s3.heap.objs.size->b≠s3.heap.objs.size:=λb h=>gi h
 have WQ:∀b,b<s2.heap.objs.size->b≠s2.heap.objs.size:=λb h=>gi h
 have out:∀b o,s2.heap.get? b=some o->b∉fp->b∉s2.heap.objs.size::fp:=λb o e n z=>(ej.mp z).elim (WQ b (eD e)) n
 have hC:H' s3.heap.objs.size=none:=I'.free
 have up:∀b o,s2.heap.get? b=some o->∀o',s1.heap.get? b=some o'->h'.get? b=some o':=λb o e o' e'=>(sb.2 b (ltC b (eD (Jm b o e)))).trans e'
 have CF:∀b u,H' b=some u->b≠s2.heap.objs.size:=λb u e z=>by rw [z,hn] at e;cases e
 have u:=I'.base
 refine I2.zY (s':={ s1 with heap:=h' }) (ch:=fp) (I'.os.trans hs3) ⟨λb o e n hb hx=>?_,λb o e n hb hx=>?_,λb o e n hx=>?_,λb o e hx=>?_,λb zs e=>?_,λb o v e=>?_,λb ps e=>?_⟩ (λb v e=>?_) I'.bare (λb hb=>?_)
 .exact up b o e o (u.keep b o (Jm b o e) n hb (out b o e hx))
 .obtain ⟨sl,e1⟩:=u.slot b o (Jm b o e) n hb (out b o e hx)
  exact ⟨sl,up b o e _ e1⟩
 .rw [fm (WQ b (eD e))]
  exact u.free b o (Jm b o e) n (out b o e hx)
 .obtain ⟨o',e1⟩:=u.there b o (Jm b o e) (out b o e hx)
  exact ⟨o',up b o e _ e1⟩
 .have:=u.iQ b zs e
  rw [fm (CF b _ this)];exact this
 .have:=u.iF b o v e
  rw [fm (CF b _ this)];exact this
 .obtain ⟨more,this⟩:=u.iR b ps e
  exact ⟨more,by rw [fm (CF b _ this)];exact this⟩
 .by_cases hb:b=s2.heap.objs.size
  .subst hb
   rw [lM] at e
   cases e
   obtain ⟨n,e1⟩:=hl
   exact ⟨hz,ys,n,hv,(sb.2 _ (by rw [hsz];exact gi (qo _))).trans e1⟩
  .rw [fm hb] at e
   refine (I'.bE b v e).oP (λc w hc q=>(sb.2 c ?_).trans q) (λc _ _ q=>by rw [fm (CF c _ q)];exact q) λc zs q=>by rw [fm (CF c _ q)];exact q
   rintro rfl
   rcases hc with z | z
   .rw [<-z,hC] at e;cases e
   .rw [hC] at z;cases z
 .obtain ⟨_,g1,_,g3,g4,g5⟩:=f2 b hb
  exact ⟨g3,g1,g4,g5⟩
theorem U7(h:Fx X N sc k full)(C:eW N sc N' caps nt dH){wi:TI}(pi:PI X tg iter wi)(ki:∀(O:Addr->Prop) (B:Hp) (σ:L2.St) (H:Hp) (env:En) (ds:List D) (R:It->Hp->Prop),Rel X.K O B σ H env->fi env=some ds->(∀J H',aE H H'->EM X.K (OO O σ env) J H' ds->R J H')->wi σ H R)
  (hb:∀X':Cx,X'.prog=X.prog->X'.w=X.w->X'.K=X.K->X'.mg=X.mg->X'.base=X.base->Fx X' N' (rl dH sc) k false->GV X' tg g/\G2 X' ifs fc/\EV X' elt fe)
  (AK:∀x,foldedSetIterable iter X.env x=pure x){pins:List (Addr×Obj)}{s:Shared}{σ:L2.St}{H:Hp}(I:Inv X pins σ H s){O:Addr->Prop}{B:Hp}{env:En}{r:Sl}(R:Rel X.K O B σ H env)(e:g7 fi caps nt g fc fe env=some r)
  {use:Option (Value->Sem Unit)}{QQ:Value->Shared->Prop}
  (fin:∀(C0 p:Addr) (H':Hp) (s':Shared),(∃m,s'.heap.Ns C0 m)->md X pins H' C0->(∀h',Aa C0 s'.heap h'->Inv X pins σ H' { s' with heap:=h' })->aE H H'->Res X.K (OO O σ env) H H' (.ref p) r ->
   compPost (model X.prog X.w) X.A X.xe use QQ (.ref p) C0 (.ok .next) s'):
  wpAny (model X.prog X.w) X.A (comprehension (.ListComp elt [⟨tg,iter,ifs,0⟩] dH pos) dH X.env (firstIterPos [⟨tg,iter,ifs,0⟩] pos) (newList []) (firstAsync [⟨tg,iter,ifs,0⟩]) (firstIter [⟨tg,iter,ifs,0⟩] X.env) use) QQ X.xe s:=by
 obtain ⟨ds,e1,e2⟩:=bind_some e
 obtain ⟨cs,e3,e4⟩:=bind_some e2
 by_cases hlen:ds.length<=16777216
 case neg=>rw [if_neg hlen] at e4;cases e4
 rw [if_pos hlen] at e4
 obtain ⟨rs,e5,rfl⟩:=map_some e4
 have Jh:closureFor dH X.env=pure (jY X.env.cells dH.names []):=a8m λy hy hf=>I.ok.has y.1 (by
  show X.env.scope.names.lookup y.1=_\/X.env.scope.names.lookup y.1=_
  rw [h.sc]
  exact C.free y hy hf)
 have hpi:=pi pins s σ H (λJ H'=>aE H H'/\EM X.K (OO O σ env) J H' ds) I (ki O B σ H env ds _ R e1 λJ H' s' wk=>⟨s',wk⟩)
 refine wpAny_comprehension_free (use:=use) rfl AK Jh C.kind C.loc (cn hpi λxv s1 h1=>cn h1 λQM s2 h2=>?_)
 obtain ⟨it,fp,tn,J,H2,rfl,I2,T,Fo,f2,sG,wk⟩:=h2
 refine A8 (wpAny_newFunctionEnv C.zv (by intro y hy;simp at hy) (λh₁ rD rC=>?_) C.kind)
 dsimp only at rD rC ⊢
 generalize Rr:s2.heap.push { cls:=.type "list",dict:=none,data:=.seq ([]:List Value).toArray }=H3 at rD rC ⊢
 have hsz:H3.objs.size=s2.heap.objs.size+1:=by rw [<-Rr,pf]
 have Iy:∀b o,s2.heap.get? b=some o->H3.get? b=some o:=λb o e=>by rw [<-Rr];exact ft _ e
 have Mf:∀b o,H3.get? b=some o->h₁.get? b=some o:=λb o e=>rC.extBut b o (gi (eD e)) (ft _ e)
 have I3:Inv X pins σ H2 { s2 with heap:=H3 }:=I2.kept (t':=s2.toks) Iy
 have Im:∀b∈fp,b<s2.heap.objs.size:=λb hb=>by obtain ⟨o,eo,_⟩:=T.obj 0 _ Fo b hb;exact eD eo
 have CF:∀b∈fp,b≠s2.heap.objs.size:=λb hb=>gi (Im b hb)
 have Jc:∀b∈fp,∃o,H3.get? b=some o:=λb hb=>by obtain ⟨o,eo,_⟩:=T.obj 0 _ Fo b hb;exact ⟨o,Iy b o eo⟩
 have R2:=R.grow sG
 obtain ⟨lc,ls,cg⟩:=ZG R2 e3
 generalize qE:CP X N' dH (s2.heap.objs.size::fp) { s2 with heap:=H3 } H2=X'
 have I4:∀t,Inv X' [] (nN nt none++iY caps σ) H2 { s2 with heap:=h₁,toks:=t }:=λt=>by
  rw [<-qE]
  exact b32 (s3:={ s2 with heap:=H3 }) (s4:={ s2 with heap:=h₁,toks:=t }) C h.sc h.n h.calm I2 I3 f2 Jc hsz rfl rfl Mf (by simpa using rD)
 have hP:X'.prog=X.prog:=by rw [<-qE];rfl
 have hW:X'.w=X.w:=by rw [<-qE];rfl
 have hK:X'.K=X.K:=by rw [<-qE];rfl
 have hE:X'.env=compEnvC dH (jY X.env.cells dH.names []) H3.objs.size X.env:=by rw [<-qE];rfl
 have hA:X'.A=X.A:=by rw [<-qE];rfl
 have hx:X'.xe=λ_ _=>False:=by rw [<-qE];rfl
 have Rh:X'.calm=true:=by rw [<-qE];rfl
 have hbd:=hb X' hP hW hK (by rw [<-qE];rfl) (by rw [<-qE];rfl) ⟨by rw [<-qE];rfl,by rw [hE];show rl dH X.env.scope=_;rw [h.sc],Rh,λz=>(nomatch z),by rw [hx];exact B7,by rw [hA];exact h.room,C.nd,λz=>(nomatch z)⟩
 obtain ⟨⟨Bv,pg,kg⟩,⟨tc,pc,kc⟩,te,pe,ke⟩:=hbd
 have RB:∀{H':Hp} {pl:List (Addr×Obj)},(∀b∈fp,H' b=none)->(∀p∈pl,∀b∈fp,p.1≠b)->∀b∈fp,md X' pl H' b:=λ{H' pl} hn gm b hb=>by
  obtain ⟨_,g1,g2,g3,g4,g5⟩:=f2 b hb
  rw [<-qE]
  refine ⟨hn b hb,gi (pq (Im b hb) (by show s2.heap.objs.size<=H3.objs.size;rw [hsz];exact B5 _)),λz=>?_,.inl (i0 _ hb),λx c e=>g4 x c (De C h.sc I2 e),λp hp=>gm p (by simpa [CP] using hp) b hb⟩
  rcases ej.mp (I2.ji b z) with z | z
  .exact g1 z
  .exact g2 z
 have R0:Rel X'.K (OO O σ env) H2 (nN nt none++iY caps σ) H2 (nN nt Sl.no++cs):=by
  have rj:∀(i:Nat) (es:Sl),(nN nt Sl.no++cs)[i]?=some es->es.own->False:=λi es e o=>by
   rcases N4 e with z | ⟨_,z⟩
   .cases z;exact o
   .obtain ⟨d,_,_,z,_⟩:=cg _ _ z
    cases z;exact o
  have EL:∀p,¬oG (nN nt none++iY caps σ) (nN nt Sl.no++cs) p:=λp ⟨i,es,e,o,_⟩=>rj i es e o
  rw [hK]
  refine ⟨aE.refl _,R2.dm,by simp [lc,ls],λi d e=>?_,λi es e=>(rj i _ e trivial).elim,λi es e=>(rj i _ e trivial).elim,λi ks es e=>(rj i _ e trivial).elim,λi j es fs p e _ _ _ o=>(rj i es e o).elim⟩
  rcases N4 e with z | ⟨hi,z⟩
  .cases z
  .obtain ⟨d',v,i',z1,z2,z3,_⟩:=cg _ _ z
   cases z1
   refine ⟨v,?_,z3.less λp hp=>hp.elim id λz=>(EL p z).elim⟩
   rw [Tn (by simpa using hi),Ke]
   exact z2
 have loop:∀t,codeAny (model X.prog X.w) X.A (.compLoop (.ListComp elt [⟨tg,iter,ifs,0⟩] dH pos) 0 (.ref it) (.ref s2.heap.objs.size) (compEnvC dH (jY X.env.cells dH.names []) H3.objs.size X.env))
   (compPost (model X.prog X.w) X.A X.xe use QQ (.ref s2.heap.objs.size) H3.objs.size) { s2 with heap:=h₁,toks:=t }:=λt=>by
  refine b0v (N:=λ_ _=>False) (λn s'=>∃(i:Nat) (aK:L2.St) (H':Hp) (af:En) (ys:List Value) (xs:List V) (CD L9:List D),n=ds.length-i/\i<=ds.length/\Inv X' [] aK H' s'/\tn i s'.heap/\(∀b∈fp,H' b=none)/\H' s2.heap.objs.size=none /\
    s'.heap.PlainList s2.heap.objs.size ys.toArray/\aF xs ys/\Rel X'.K (OO O σ env) H2 aK H' af/\Gd (nN nt none++iY caps σ) (nN nt Sl.no++cs) H2 aK af H' /\
    aO X'.K (OO (OO O σ env) aK af) H' xs CD/\l6 g fc fe (ds.drop i) af=some L9/\CD++L9=rs/\CD.length<=i) (λ_ _ z=>z) ?_ ds.length
   ⟨0,_,H2,_,[],[],[],rs,by simp,vF _,I4 t,T.keep _ _ _ Fo (λb _ o e=>Mf b o (Iy b o e)),λb hb=>(f2 b hb).1,I2.bE.fresh (cT _),⟨_,Mf _ _ (by rw [<-Rr];exact j' _ rfl)⟩,.nil,R0,Gd.refl (aE.refl _),.nil,by simpa using e5,rfl,cT _⟩
  rintro n s3 ⟨i,nz,G3,rJ,ys,xs,CD,L9,rfl,hi,J3,Hw,Ju,ha3,Wz,vx,R3,Xj,IG,JN,Mi,hr1⟩
  have HS:Inv X' (Cj [s2.heap.objs.size] s3.heap) nz G3 s3:=by
   refine J3.kE λp hp=>?_
   obtain ⟨hb,e⟩:=UY hp
   have hb:p.1=s2.heap.objs.size:=by simpa using hb
   obtain ⟨n,en⟩:=Wz
   rw [hb,en] at e
   refine ⟨by rw [hb,en];exact e,by rw [hb];exact ha3,?_,λz=>?_,λv z=>?_⟩
   .rw [hb,hE]
    show s2.heap.objs.size≠H3.objs.size
    rw [hsz]
    exact gi (qo _)
   .rw [hb,<-qE] at z
    obtain ⟨_,o,ho,_⟩:=I2.stack.mem z
    exact absurd (eD ho) (z7 _)
   .rw [<-gY e] at z;cases z
  have apart:∀p∈Cj [s2.heap.objs.size] s3.heap,∀b∈fp,p.1≠b:=λp hp b hb z=>by
   have e:p.1=s2.heap.objs.size:=by simpa using (UY hp).1
   exact CF b hb (z.symm.trans e)
  have Ae:∀{pl:List (Addr×Obj)} {aK:L2.St} {H':Hp} {s':Shared},Inv X' pl aK H' s'->(∀p∈Cj [s2.heap.objs.size] s3.heap,p∈pl)->s'.heap.PlainList s2.heap.objs.size ys.toArray/\H' s2.heap.objs.size=none:=λ{pl aK H' s'} J uU=>by
   obtain ⟨n,en⟩:=Wz
   obtain ⟨q1,q2,_⟩:=J.pin _ (yv _ (uU _ (Lg (fp:=[s2.heap.objs.size]) (by simp) en)))
   exact ⟨⟨n,q1⟩,q2⟩
  have w:=wk (OO (OO O σ env) nz rJ) G3 (λa u ea na=>by
   obtain ⟨h1,h2⟩:=Xj a u ea λ⟨i,es,e,o,_⟩=>by
    rcases N4 e with z | ⟨_,z⟩
    .cases z;exact o
    .obtain ⟨d,_,_,z,_⟩:=cg _ _ z
     cases z;exact o
   exact ⟨h1,λz=>z.elim na h2⟩) (λa=>R3.oo) i
  by_cases iw:i<ds.length
  .obtain ⟨go,yl⟩:=w.1 ds[i] (by simp [iw])
   have rF:ds.drop i=ds[i]::ds.drop (i+1):=Nb iw
   rw [rF,l6] at JN
   obtain ⟨k8,c1,c2⟩:=bind_some JN
   obtain ⟨b,c2,c3⟩:=bind_some c2
   have ti:=T.item X' hP hW hK Rh i _ s3 nz G3 (λ_ _=>False) HS (RB Ju apart) Hw go
   rw [hA] at ti
   refine cn ti λr s4 ⟨u,hr,h4⟩=>?_
   subst hr
   refine cn h4 λ_ s5 ⟨x,H5,I5,r5,y5,DB,RA⟩=>?_
   obtain ⟨Qh,hx5⟩:=yl x H5 y5
   have V6:=I5.pinned (RB RA apart) (T.obj _ _ DB)
   have CJ:∀{aK:L2.St} {H':Hp} {s':Shared},Inv X' (Cj [s2.heap.objs.size] s3.heap++Cj fp s5.heap) aK H' s'->tn (i+1) s'.heap/\∀b∈fp,H' b=none:=λ{aK H' s'} J=>by
    refine ⟨T.keep _ _ _ DB λb hb o e=>(J.pin (b,o) (yv _ (yv _ (Lg hb e)))).1,λb hb=>?_⟩
    obtain ⟨o,e,_⟩:=T.obj _ _ DB b hb
    exact (J.pin (b,o) (yv _ (yv _ (Lg hb e)))).2.1
   have WB:=pg _ s5 nz H5 x u _ V6 r5 (kg (OO O σ env) H2 nz H5 rJ k8 x ds[i] (λqB H6=>Rel X'.K (OO O σ env) H2 qB H6 k8/\Gd nz rJ H5 qB k8 H6) (R3.grow Qh) (hK▸hx5) c1 λqB H6 R6 g6=>⟨R6,g6⟩)
   rw [hP,hW,hA,hE,hx] at WB
   refine cn WB λ_ s6 ⟨qB,H6,I6,R6,g6⟩=>?_
   have WD:=pc _ s6 qB H6 (λb' H'=>b'=b/\aE H6 H') I6 (kc (OO O σ env) H2 qB H6 k8 b _ R6 c2 λH' s'=>⟨rfl,s'⟩)
   rw [hP,hW,hA,hE,hx] at WD
   refine cn WD λok s7 ⟨H7,I7,bE,Qg⟩=>?_
   subst bE
   have R7:=R6.grow Qg
   have Xi:=Xj.trans ((Gd.refl Qh).trans (g6.trans (Gd.refl Qg)))
   have WS:aO X'.K (OO (OO O σ env) qB k8) H7 xs CD:=((Gd.refl Qh).trans (g6.trans (Gd.refl Qg))).ID IG
   cases ok with
   | false =>
    rw [if_neg vC] at c3 ⊢
    obtain ⟨st7,fr7⟩:=CJ I7
    obtain ⟨pl7,ha7⟩:=Ae I7 λp hp=>A6 _ hp
    exact ⟨ds.length-(i+1),by omega,i+1,qB,H7,k8,ys,xs,CD,L9,rfl,iw,I7.kE (λ_ z=>nomatch z),st7,fr7,ha7,pl7,vx,R7,Xi,WS,c3,Mi,by omega⟩
   | true =>
    rw [if_pos rfl] at c3 ⊢
    obtain ⟨r,d3,d4⟩:=bind_some c3
    obtain ⟨rs3,d5,d6⟩:=bind_some d4
    clear c3 d4 JN
    obtain rfl:=gY d6
    have WC:=pe _ s7 qB H7 (λv H'=>aE H7 H'/\Is X'.K (OO (OO O σ env) qB k8) H' v r.d) I7 (ke (OO O σ env) H2 qB H7 k8 r _ R7 d3 λv H' s' rr=>⟨s',rr.is λp=>R7.oo⟩)
    rw [hP,hW,hA,hE,hx] at WC
    refine cn WC λy s8 ⟨v,H8,I8,ry,Qf,hv⟩=>?_
    obtain ⟨st8,fr8⟩:=CJ I8
    obtain ⟨pl8,Xb⟩:=Ae I8 λp hp=>A6 _ hp
    have hyl:ys.length=CD.length:=by rw [<-b4c vx,IG.length]
    refine wpAny_list_append_plain (hsz:=by rw [gZ,hyl,lZ];omega) pl8 λh' pl9 Wy=>?_
    have J8:Inv X' [] qB H8 s8:=I8.kE λ_ z=>nomatch z
    have J9:Inv X' [] qB H8 { s8 with heap:=h' }:=J8.turned (t':=s8.toks) (it:=s2.heap.objs.size) (λb o hb e=>(Wy.2 b hb).trans e) Xb
     (by rw [hE];show s2.heap.objs.size≠H3.objs.size;rw [hsz];exact gi (qo _)) (.inl (by rw [<-qE];exact jM))
     (λx c e=>by
      rw [hE] at e
      obtain ⟨_,z⟩:=I2.cell x c (De C h.sc I2 e)
      exact gi z.lt) (λp hp=>by rw [<-qE] at hp;exact absurd hp (by simp [CP]))
    refine ⟨ds.length-(i+1),by omega,i+1,qB,H8,k8,ys++[y],xs++[v],CD++[r.d],rs3,rfl,iw,J9,T.keep _ _ _ st8 λb hb o e=>(Wy.2 b (CF b hb)).trans e,fr8,Xb,by simpa using pl9,vx.append (.cons ry .nil),R7.grow Qf,Xi.trans (Gd.refl Qf),(WS.grow Qf).append (.cons hv .nil),d5,by rw [<-Mi];simp,by simp;omega⟩
  .have CM:i=ds.length:=by omega
   have td:=T.done X' hP hW hK Rh i _ s3 nz G3 (λ_ _=>False) HS (RB Ju apart) Hw (w.2 (by omega))
   rw [hA] at td
   refine cn td λr s4 ⟨hr,LR⟩=>?_
   subst hr
   obtain ⟨pl4,Rm⟩:=Ae LR λp hp=>hp
   rw [X8 (by omega),l6] at JN
   obtain rfl:=gY JN
   rw [vz] at Mi
   subst Mi
   obtain ⟨m4,WZ,_⟩:=LR.loc
   rw [hE] at WZ
   obtain ⟨n4,en4⟩:=pl4
   rw [<-qE] at LR
   have Xa:H2 s2.heap.objs.size=none:=I2.bE.fresh (cT _)
   have W3:s2.heap.objs.size<=H3.objs.size:=by rw [hsz];exact B5 _
   have hC0:G3 H3.objs.size=none:=LR.free
   have ng:H3.objs.size≠s2.heap.objs.size:=by rw [hsz];exact Nat.succ_ne_self _
   refine fin H3.objs.size s2.heap.objs.size (upd G3 s2.heap.objs.size (.lst xs)) s4 ⟨m4,WZ⟩ (I2.qf W3 (by rw [fm ng];exact hC0)) (λh' sb=>b31 (s3:={ s2 with heap:=H3 }) (ys:=ys) I2 rfl Iy hsz f2 LR sb Rm ⟨n4,en4⟩ vx (by rw [IG.length,lZ];omega)) ?_ ⟨_,xs,rfl,sG.free Xa,lM,?_⟩
   .intro b o e
    have e2:=sG b o e
    rw [fm (qt e2 Xa)]
    exact R3.same b o e2
   .rw [hK] at IG
    refine IG.map (λp hp hn z=>hn (.inl (z.elim id λz=>?_))) λp u e _=>by rw [fm (qt e Rm)];exact e
    rw [z,Rm] at hp
    exact (hp rfl).elim
 exact codeAny_compStart_list (loop _) (T.self _ 0 _ _ _ (T.keep _ _ _ Fo (λb _ o e=>Mf b o (Iy b o e))) (loop _))
theorem t9(h:Fx X N sc k full)(C:eW N sc N' caps nt dH)(hi:IV X tg iter fi)
  (hb:∀X':Cx,X'.prog=X.prog->X'.w=X.w->X'.K=X.K->X'.mg=X.mg->X'.base=X.base->Fx X' N' (rl dH sc) k false->GV X' tg g/\G2 X' ifs fc/\EV X' elt fe)
  (AK:∀x,foldedSetIterable iter X.env x=pure x:=by intro _;rfl):EV X (.ListComp elt [⟨tg,iter,ifs,0⟩] dH pos) (g7 fi caps nt g fc fe):=by
 obtain ⟨wi,pi,ki⟩:=hi
 refine ⟨λσ H Q=>∃O B env r,Rel X.K O B σ H env/\g7 fi caps nt g fc fe env=some r/\∀v H',aE H H'->Res X.K (OO O σ env) H H' v r->Q v H',?_,λO B σ H env r Q R e q=>⟨O,B,env,r,R,e,q⟩⟩
 rintro pins s σ H Q I ⟨O,B,env,r,R,e,q⟩
 rw [eval_ListComp]
 exact U7 h C pi ki hb AK I R e (use:=none) λC0 p H' s' ⟨m,hn⟩ _ hI sm rr=>⟨m,hn,λh' sb=>⟨.ref p,H',hI h' sb,rfl,q _ H' sm rr⟩⟩
theorem b6X{i:Nat}{x:Str}{pos' y7:Pos}(b:Bool)(h:Fx X N sc k full)(C:eW N sc N' caps nt dH)(hi:IV X tg iter fi)
  (hb:∀X':Cx,X'.prog=X.prog->X'.w=X.w->X'.K=X.K->X'.mg=X.mg->X'.base=X.base->Fx X' N' (rl dH sc) k false->GV X' tg g/\G2 X' ifs fc/\EV X' elt fe)
  (hN:N[i]?=some x:=by rfl)(hv:Loc sc x:=by first | exact cZ rfl | exact cj rfl)(hf:full=true\/sc.names.lookup x=some .local:=by first | exact cZ rfl | exact cj rfl)(h1:(sc.names.lookup x==some .local)=true:=by rfl)(h2:(pos'.line==pos.line)=true:=by rfl)(h3:(dH.names.any λ(n,k)=>n==x&&(k==.local||k==.cell))=false:=by rfl)
  (AK:∀x,foldedSetIterable iter X.env x=pure x:=by intro _;rfl):SV X (.Assign [.Name x pos'] (.ListComp elt [⟨tg,iter,ifs,0⟩] dH pos) y7) (bif b then jV i (g7 fi caps nt g fc fe) else gU i (g7 fi caps nt g fc fe)):=by
 obtain ⟨wi,pi,ki⟩:=hi
 refine ⟨λD σ H=>∃O B env fl af,Rel X.K O B σ H env/\(bif b then jV i (g7 fi caps nt g fc fe) else gU i (g7 fi caps nt g fc fe)) env=some (fl,af)/\gD X.K O B σ H env D fl af,?_,λO B σ H env fl af D R e q=>⟨O,B,env,fl,af,R,e,q⟩⟩
 rintro pins s σ H D I ⟨O,B,env,fl,af,R,e,q⟩
 obtain ⟨r,e1,hl,W5,t,rfl,ht⟩:∃r,g7 fi caps nt g fc fe env=some r/\i<env.length/\fl=.nx/\∃t,af=env.set i t/\(t=r\/t=.sh r.d):=by
  cases b with
  | true =>
   dsimp only [cond] at e
   obtain ⟨r,e1,e2⟩:=bind_some e
   obtain ⟨hl,e3⟩:=jg e2
   cases e3
   exact ⟨r,e1,hl,rfl,_,rfl,.inl rfl⟩
  | false =>
   dsimp only [cond] at e
   obtain ⟨r,e1,e2⟩:=bind_some e
   obtain ⟨hl,e3⟩:=jg e2
   cases e3
   exact ⟨r,e1,hl,rfl,_,rfl,.inr rfl⟩
 subst W5
 have hs:swapsWith (.ListComp elt [⟨tg,iter,ifs,0⟩] dH pos) (some (.Name x pos')) y7.line X.env=pure true:=by
  have hk:X.env.blockKind=.function:=by unfold Env.blockKind;rw [I.ok.kind];rfl
  have Q7:X.env.kindOf x=sc.names.lookup x:=by unfold JO;rw [h.sc]
  unfold swapsWith
  dsimp only
  rw [hk,Q7,h1,show (pos'.line==(Expr.ListComp elt [⟨tg,iter,ifs,0⟩] dH pos).pos.line)=true from h2,h3]
  rfl
 rw [exec_Assign_Name_used _ _ _ _ hs]
 refine aI (MR (aI ?_))
 show wpAny _ _ (comprehension _ dH X.env _ (newList []) _ _ (some (assign (.Name x pos') X.env)) >>= λ_=>pure ()) _ _ _
 refine aI (U7 h C pi ki hb AK I R e1 (use:=some (assign (.Name x pos') X.env)) λC0 p H' s' ⟨m,hn⟩ qD hI sm rr=>?_)
 have I':Inv X pins σ H' s':=hI s'.heap (Su _ _)
 refine Sy (U1 (v:=.ref p) I' h.zu (h.ix hN) (h.loc hv) rfl (λs2 I2 ⟨a,sb,ha⟩=>?_) (h.Fk hf))
 have Rj:C0≠a:=λz=>by
  rcases ha with ha | ha
  .exact qD.2.1 (z.trans ha)
  .exact qD.2.2.2.2.1 x a ha z.symm
 obtain ⟨o,es,ep,ho,rest⟩:=hn
 refine ⟨m,⟨o,es,ep,(sb.2 C0 Rj).trans ho,rest⟩,λh' Qd=>?_⟩
 refine b9 (b9 ?_)
 have I3:Inv X pins (σ.set i (some (.ref p))) H' { s2 with heap:=h' }:=I2.turned (t':=s2.toks) (it:=C0) (λb o hb e=>(Qd.2 b hb).trans e) qD.1 qD.2.1 qD.2.2.2.1 qD.2.2.2.2.1 qD.2.2.2.2.2
 have hr:Res X.K (OO O σ env) H H' (.ref p) t:=by
  rcases ht with rfl | rfl
  .exact rr
  .exact rr.is λq=>R.oo
 obtain ⟨R',g'⟩:=R.set sm hr hl
 exact ⟨_,H',I3,q _ H' R' g'⟩
end
end DL
namespace DL
open PySem PySem.Spec PyProof.Rows L2
section
variable {X:Cx}{pins:List (Addr×Obj)}{σ:L2.St}{H:Hp}{s:Shared}
theorem b4q(I:Inv X pins σ H s)(hA:A'.handled=none)(hq:Sq X.K H k p xs)
  (h:∀(aB:List Value) (h2:Heap) (St:Nat->Heap->Prop),aF xs aB->Walks X.prog X.w A' s.heap.objs.size [s.heap.objs.size,p] [s.heap.objs.size] aB.length (λi v=>aB[i]?=some v) St->St 0 h2 ->
   (∀b o,s.heap.get? b=some o->h2.get? b=some o)->(∀b∈[s.heap.objs.size,p],b<h2.objs.size)->Q (.ref s.heap.objs.size) { s with heap:=h2 }):wpAny (model X.prog X.w) A' (pyIter (.ref p)) Q E s:=by
 cases k with
 | true =>
  obtain ⟨aB,rv,pl,hz⟩:=I.list (show iI X.K H p xs from hq)
  have iw:p<s.heap.objs.size:=by obtain ⟨o,n,e,_⟩:=pl;exact eD e
  refine M4 pl.isList ?_
  have W:=So (prog:=X.prog) (w:=X.w) hA s.heap.objs.size p (gi iw) aB.toArray
  refine h aB _ (λi h=>h.IsListIter s.heap.objs.size p i/\h.IsList p aB.toArray) rv (by simpa using W) ⟨⟨_,j' _ rfl,rfl,rfl⟩,pl.isList.push _⟩ (λb o e=>ft _ e) λb hb=>?_
  rw [pf]
  rcases ej.mp hb with rfl | hb
  .exact qo _
  .rw [nP.mp hb];exact yu iw
 | false =>
  obtain ⟨aB,rv,pl,hz⟩:=I.tuple (show jP X.K H p xs from hq)
  have cS:s.heap.IsTuple p aB.toArray:=pl
  have iw:p<s.heap.objs.size:=by obtain ⟨o,e,_⟩:=pl;exact eD e
  refine wpAny_pyIter_tuple cS ?_
  have W:=Walks.tuple (prog:=X.prog) (w:=X.w) hA s.heap.objs.size p (gi iw) aB.toArray
  refine h aB _ (λi h=>h.IsTupleIter s.heap.objs.size p i/\h.IsTuple p aB.toArray) rv (by simpa using W) ⟨⟨_,j' _ rfl,rfl,rfl⟩,?_⟩ (λb o e=>ft _ e) λb hb=>?_
  .obtain ⟨o,e,r⟩:=cS
   exact ⟨o,ft _ e,r⟩
  .rw [pf]
   rcases ej.mp hb with rfl | hb
   .exact qo _
   .rw [nP.mp hb];exact yu iw
theorem b11(I:Inv X pins σ H s){h2 h':Heap}{tk:Nat}(k1:∀b o,s.heap.get? b=some o->h2.get? b=some o)(k2:∀b o,b∉[s.heap.objs.size]->h2.get? b=some o->h'.get? b=some o):Inv X pins σ H { s with heap:=h',toks:=tk }:=
 I.kept λb o e=>k2 b o (λz=>absurd (eD e) (by rw [nP.mp z];exact z7 _)) (k1 b o e)
end
noncomputable def yK:List D->Option (List Int)
 | []=>some []
 | .int i::ds=>(yK ds).map (i::·)
 | _::_=>none
noncomputable def kM:List D->Option (List Bool)
 | []=>some []
 | .bl i::ds=>(kM ds).map (i::·)
 | _::_=>none
theorem a9b:∀(ns:List Int),yK (ns.map D.int)=some ns
 | []=>rfl
 | n::r=>by rw [gS,yK,a9b r];rfl
theorem b1g:∀(ns:List Bool),kM (ns.map D.bl)=some ns
 | []=>rfl
 | n::r=>by rw [gS,kM,b1g r];rfl
theorem a7v:∀{ds:List D} {ns:List Int},yK ds=some ns->ds=ns.map D.int
 | [],ns,e=>by cases e;rfl
 | .int i::ds,ns,e=>by
  obtain ⟨r,e1,rfl⟩:=map_some (show (yK ds).map (i::·)=some ns from e)
  rw [a7v e1];rfl
 | .cD::_,_,e=>by cases e
 | .bl _::_,_,e=>by cases e
 | .str _::_,_,e=>by cases e
 | .tup _::_,_,e=>by cases e
 | .lst _ _::_,_,e=>by cases e
theorem a9n:∀{ds:List D} {ns:List Bool},kM ds=some ns->ds=ns.map D.bl
 | [],ns,e=>by cases e;rfl
 | .bl i::ds,ns,e=>by
  obtain ⟨r,e1,rfl⟩:=map_some (show (kM ds).map (i::·)=some ns from e)
  rw [a9n e1];rfl
 | .cD::_,_,e=>by cases e
 | .int _::_,_,e=>by cases e
 | .str _::_,_,e=>by cases e
 | .tup _::_,_,e=>by cases e
 | .lst _ _::_,_,e=>by cases e
theorem a8Y{K:aJ}{O:Addr->Prop}{H:Hp}:∀{xs:List V} {ns:List Int},aO K O H xs (ns.map D.int)->xs=ns.map V.int
 | _,[],.nil=>rfl
 | _,n::r,.cons h t=>by rw [pA h,a8Y t];rfl
theorem b02{K:aJ}{O:Addr->Prop}{H:Hp}:∀{xs:List V} {ns:List Bool},aO K O H xs (ns.map D.bl)->xs=ns.map V.bl
 | _,[],.nil=>rfl
 | _,n::r,.cons h t=>by rw [C8 h,b02 t];rfl
theorem b6M{ns:List Bool}(r:aF (ns.map V.bl) aB){i:Nat}(h:aB[i]?=some v):v=.bool (ns.getD i false):=by
 have hl:=r.length
 have hi:=(ni.mp h).1
 have mU:i<ns.length:=by rw [cP] at hl;omega
 obtain ⟨u,hu,ru⟩:=r.get (show (ns.map V.bl)[i]?=some (.bl ns[i]) by simp [mU])
 rw [h] at hu
 cases hu
 obtain rfl:v=qH ns[i]:=ru
 simp [mU]
section
variable {X:Cx}{a:Expr}{p pos:Pos}{ba:En->Option (Bool×List D)}
theorem a8F(ns:List Bool):(jB ns.length).all (λi=>ns.getD i false)=ns.all id:=by
 rw [JW,SN,SN]
 constructor
 .intro h x hx
  obtain ⟨i,hi,rfl⟩:=Gc.mp hx
  have:=h i (z9.mpr hi)
  simpa [hi] using this
 .intro h i hi
  have hi:=z9.mp hi
  have:=h ns[i] (pL hi)
  simpa [hi] using this
theorem b30(hc:X.calm=true):de X (.builtin "all") (λxs H Q=>∃p k ns,xs=[.ref p]/\Sq X.K H k p (vy V.bl ns)/\Q (.bl (ns.all id)) H):=by
 intro pins s σ H xs us Q I r h
 obtain ⟨p,k,ns,rfl,hq,q⟩:=h
 obtain ⟨u,rfl,ru⟩:=r.one
 cases ru
 refine call_all_walk (b4q (A':=X.A.in1) I (I.ok.hd hc) hq λaB h2 St rv W st0 k1 qD=>?_)
 refine ⟨_,_,_,_,_,_,λi=>ns.getD i false,rfl,W,st0,λi v s Q E hP hQ=>?_,λh' tk hk=>?_⟩
 .rw [b6M rv hP]
  exact C3 hQ
 .have hl:aB.length=ns.length:=by rw [<-rv.length];simp
  rw [hl,a8F]
  exact ⟨.bl _,H,b11 I k1 hk,rfl,q⟩
noncomputable def BZ(f:En->Option (Bool×List D)):En->Option Sl:=λenv=>(f env).bind λx=>(kM x.2).map λns=>.sh (.bl (ns.all id))
theorem c0N(hg:Gl X "all")(hm:X.mg "all" = none)(hc:X.calm=true)(ha:BV X a ba)(hs:starEach [a] X.env=[(false,eval a X.env)]:=by rfl):EV X (.Call (.Name "all" p) [a] [] pos) (BZ ba):=by
 obtain ⟨t,pt,k⟩:=ha
 refine ⟨_,Dh (b30 hc) hg hm (by decide +kernel) (lj pt nv hs) (by decide) (by decide) hs rfl,λO B σ H env s Q R e q=>?_⟩
 obtain ⟨⟨kk,ds⟩,e1,e2⟩:=bind_some e
 obtain ⟨ns,e3,rfl⟩:=map_some e2
 have Xq:=a9n e3
 dsimp only at Xq
 subst Xq
 refine k O B σ H env kk _ _ R e1 λl xs H1 s1 hq hx=>⟨l,kk,ns,rfl,?_,q _ H1 s1 (Is.bl _)⟩
 rw [<-b02 hx];exact hq
end
end DL
namespace DL
open PySem PySem.Spec PyProof.Rows L2
noncomputable def jZ:List (Option Bool)->Option (List Bool)
 | []=>some []
 | some b::r=>(jZ r).map (b::·)
 | none::_=>none
noncomputable def bO:Nat->D->D->Option Bool
 | _,.int i,.int j=>some (decide (i=j))
 | _,.bl i,.bl j=>some (decide (i=j))
 | _,.str i,.str j=>some (decide (i=j))
 | _,.cD,.cD=>some true
 | _,.bl i,.int j=>some (decide ((if i then 1 else 0)=j))
 | _,.int i,.bl j=>some (decide (i=(if j then 1 else 0)))
 | n+1,.tup a,.tup b=>(jZ (B3 (bO n) a b)).map λbs=>bs.all id&&decide (a.length=b.length)
 | n+1,.lst _ a,.lst _ b=>if a.length=b.length then (jZ (B3 (bO n) a b)).map λbs=>bs.all id else some false
 | 0,.tup _,.tup _=>none
 | 0,.lst _ _,.lst _ _=>none
 | _,.exc _,_=>none
 | _,_,.exc _=>none
 | _,.j9 _ _,_=>none
 | _,.obj _ _ _,_=>none
 | _,.ic _ _,_=>none
 | _,.dq _ _,_=>none
 | _,_,.j9 _ _=>none
 | _,_,.obj _ _ _=>none
 | _,_,.ic _ _=>none
 | _,_,.dq _ _=>none
 | _,_,_=>some false
theorem ET:∀{os:List (Option Bool)} {bs:List Bool},jZ os=some bs->os.length=bs.length/\∀(i:Nat) (b:Bool),bs[i]?=some b->os[i]?=some (some b)
 | [],bs,e=>by cases e;exact ⟨rfl,λi b h=>by simp at h⟩
 | some b::r,bs,e=>by
  obtain ⟨bs',e1,rfl⟩:=map_some (show (jZ r).map (b::·)=some bs from e)
  obtain ⟨l,ih⟩:=ET e1
  refine ⟨by simp [l],λi c h=>?_⟩
  cases i with
  | zero=>simpa using h
  | succ i=>simpa using ih i c (by simpa using h)
 | none::_,bs,e=>by cases e
theorem all_range{bs:List Bool}{n:Nat}(h:bs.length=n):(jB n).all (λi=>bs.getD i false)=bs.all id:=by rw [<-h];exact a8F bs
section
variable {X:Cx}{pins:List (Addr×Obj)}{σ:L2.St}{H:Hp}{s:Shared}{O O':Addr->Prop}
noncomputable def LQ(K:aJ)(O:Addr->Prop)(H:Hp)(v:V):D->Prop
 | .cD=>v=.cD
 | .bl b=>v=.bl b
 | .int i=>v=.int i
 | .str x=>v=.str x
 | .tup ds=>∃p xs,v=.ref p/\jP K H p xs/\aO K O H xs ds
 | .lst _ ds=>∃p xs,v=.ref p/\iI K H p xs/\aO K O H xs ds
 | .exc _=>True
 | .j9 _ _=>True
 | .obj _ _ _=>True
 | .ic _ _=>True
 | .dq _ _=>True
theorem Is.xH{K:aJ}{v:V}{d:D}(h:Is K O H v d):LQ K O H v d:=by
 cases d with
 | cD=>exact c0t h
 | bl b=>exact C8 h
 | int i=>exact pA h
 | str x=>exact pB h
 | tup ds=>exact EN h
 | lst r ds =>
  obtain ⟨p,xs,e,h1,h2⟩:=h.seq (k:=true) (ds:=ds) rfl
  exact ⟨p,xs,e,h1,h2⟩
 | exc n=>trivial
 | j9 n m=>trivial
 | obj n1 m1 o1=>trivial
 | ic n1 m1=>trivial
 | dq n1 m1=>trivial
theorem Oi(I:Inv X pins σ H s)(h:jP X.K H p xs)(h':iI X.K H p ys):False:=by
 obtain ⟨_,_,⟨o,e1,c1,_⟩,_⟩:=I.tuple h
 obtain ⟨_,_,⟨o',_,e2,c2,_⟩,_⟩:=I.list h'
 rw [e1] at e2
 cases e2
 rw [c1] at c2
 injection c2 with c3
 exact absurd c3 (by decide)
theorem zip_get{n:Nat}{i:Nat}{o:Option Bool}(h:(B3 (bO n) a b)[i]?=some o):∃x y,a[i]?=some x/\b[i]?=some y/\bO n x y=o:=by
 rw [Yi] at h
 cases ha:a[i]? with
 | none=>rw [ha] at h;simp at h
 | some x =>
  cases hb:b[i]? with
  | none=>rw [ha,hb] at h;simp at h
  | some y=>rw [ha,hb] at h;exact ⟨x,y,rfl,rfl,by simpa using h⟩
theorem b08(I:Inv X pins σ H s):∀(n:Nat) {v:V} {d d':D} {b:Bool},Is X.K O H v d->Is X.K O' H v d'->bO n d d'=some b->b=true:=by
 intro n
 induction n with
 | zero =>
  intro v d d' b h h' e
  have h:=h.xH
  have h':=h'.xH
  cases d<;>cases d'<;>simp only [LQ] at h h'<;>simp only [bO,iH,reduceCtorEq] at e<;>first
   | (subst h;cases h';exact e.symm)
   | (subst h;cases h';rw [<-e];simp;done)
   | (subst h;cases h';done)
   | (subst h;obtain ⟨_,_,h',_⟩:=h';cases h';done)
   | (subst h';obtain ⟨_,_,h,_⟩:=h;cases h;done)
   | (obtain ⟨_,_,rfl,h,_⟩:=h;obtain ⟨_,_,hr,h',_⟩:=h';cases hr;first | exact (Oi I h h').elim | exact (Oi I h' h).elim)
 | succ n ih =>
  intro v d d' b h h' e
  have key:∀{xs:List V} {ds ds':List D} {bs:List Bool},aO X.K O H xs ds->aO X.K O' H xs ds'->jZ (B3 (bO n) ds ds')=some bs->bs.all id=true:=λ{xs ds ds' bs} a1 a2 ea=>by
   obtain ⟨_,g⟩:=ET ea
   rw [SN]
   intro c hc
   obtain ⟨i,hi,rfl⟩:=Gc.mp hc
   obtain ⟨x,y,ex,ey,exy⟩:=zip_get (g i _ (je hi))
   obtain ⟨z,ez,iz⟩:=a1.get ex
   obtain ⟨z',Xn,iz'⟩:=a2.get ey
   rw [ez] at Xn
   cases Xn
   exact ih iz iz' exy
  have h:=h.xH
  have h':=h'.xH
  cases d<;>cases d'<;>simp only [LQ] at h h'<;>simp only [bO,iH,reduceCtorEq] at e<;>first
   | (subst h;cases h';exact e.symm)
   | (subst h;cases h';rw [<-e];simp;done)
   | (subst h;cases h';done)
   | (subst h;obtain ⟨_,_,h',_⟩:=h';cases h';done)
   | (subst h';obtain ⟨_,_,h,_⟩:=h;cases h;done)
   | (obtain ⟨_,_,rfl,h,_⟩:=h;obtain ⟨_,_,hr,h',_⟩:=h';cases hr;first | exact (Oi I h h').elim | exact (Oi I h' h).elim)
   | skip
  .obtain ⟨_,xs,rfl,h,a1⟩:=h
   obtain ⟨_,ys,hr,h',a2⟩:=h'
   cases hr
   cases I.n9 h h'
   obtain ⟨bs,e1,rfl⟩:=map_some e
   rw [key a1 a2 e1,<-a1.length,<-a2.length]
   simp
  .obtain ⟨_,xs,rfl,h,a1⟩:=h
   obtain ⟨_,ys,hr,h',a2⟩:=h'
   cases hr
   cases I.qb h h'
   rw [if_pos (by rw [<-a1.length,<-a2.length])] at e
   obtain ⟨bs,e1,rfl⟩:=map_some e
   exact key a1 a2 e1
theorem b17{xs:List V}{aB:List Value}{O:Addr->Prop}{K:aJ}{ds:List D}(r:aF xs aB)(a:aO K O H xs ds){j:Nat}(h:j<aB.toArray.size):∃d v,ds[j]?=some d/\Is K O H v d/\RelV v aB.toArray[j]:=by
 have hj:j<aB.length:=by simpa using h
 have hl:=r.length
 obtain ⟨d,hd,hv⟩:=a.D8 (i:=j) (x:=xs[j]'(by omega)) (je (by omega))
 obtain ⟨u,hu,ru⟩:=r.get (i:=j) (x:=xs[j]'(by omega)) (je (by omega))
 rw [je hj] at hu
 refine ⟨d,_,hd,hv,?_⟩
 rw [List.getElem_toArray,gY hu]
 exact ru
open PySem.SeqAt in
theorem YT(I:Inv X pins σ H s)(hu:A.units<cLine)(h:LQ X.K O H v d)(h':LQ X.K O' H v' d')(r:RelV v u)(r':RelV v' u')(e:bO n d d'=some b)
  (hn:(∀a c,d=.tup a->d'=.tup c->False)/\∀a c r r',d=.lst r a->d'=.lst r' c->False):EqAt A s u u' b/\RcAt A s u u' b/\RcNeAt A s u u' (!b):=by
 cases d with
 | cD =>
  cases d' with
  | cD =>
   subst h;obtain rfl:u=mi:=r
   subst h';obtain rfl:u'=mi:=r'
   simp only [bO,iH] at e
   subst e
   exact ⟨EqAt.same _,RcAt.none_none,RcNeAt.none_none⟩
  | bl k' =>
   subst h;obtain rfl:u=mi:=r
   subst h';obtain rfl:u'=qH k':=r'
   simp only [bO,iH] at e
   subst e
   exact ⟨EqAt.none_bool k',RcAt.none_bool k',RcNeAt.none_bool k'⟩
  | int k' =>
   subst h;obtain rfl:u=mi:=r
   subst h';obtain ⟨t',rfl⟩:=r'
   simp only [bO,iH] at e
   subst e
   exact ⟨EqAt.none_int k' t',RcAt.none_int k' t',RcNeAt.none_int k' t'⟩
  | str k' =>
   subst h;obtain rfl:u=mi:=r
   subst h';obtain ⟨t',rfl⟩:=r'
   simp only [bO,iH] at e
   subst e
   exact ⟨EqAt.none_str k' t',RcAt.none_str k' t',RcNeAt.none_str k' t'⟩
  | tup ds' =>
   subst h;obtain rfl:u=mi:=r
   obtain ⟨p',m9,rfl,iV,_⟩:=h';obtain ⟨its',_,cS,_⟩:=I.tuple iV;obtain rfl:u'=dJ p':=r';replace cS:s.heap.IsTuple p' its'.toArray:=cS
   simp only [bO,iH] at e
   subst e
   exact ⟨EqAt.none_tuple cS hu,RcAt.none_tuple cS hu,RcNeAt.none_tuple cS hu⟩
  | lst zc ds' =>
   subst h;obtain rfl:u=mi:=r
   obtain ⟨p',m9,rfl,iV,_⟩:=h';obtain ⟨its',_,cS,_⟩:=I.list iV;obtain rfl:u'=dJ p':=r';replace cS:=cS.isList
   simp only [bO,iH] at e
   subst e
   exact ⟨EqAt.none_list cS hu,RcAt.none_list cS hu,RcNeAt.none_list cS hu⟩
  | exc n'=>simp [bO] at e
  | j9 n' m'=>simp [bO] at e
  | obj n1 m1 o1=>simp [bO] at e
  | ic n1 m1=>simp [bO] at e
  | dq n1 m1=>simp [bO] at e
 | bl k =>
  cases d' with
  | cD =>
   subst h;obtain rfl:u=qH k:=r
   subst h';obtain rfl:u'=mi:=r'
   simp only [bO,iH] at e
   subst e
   exact ⟨EqAt.bool_none k,RcAt.bool_none k,RcNeAt.bool_none k⟩
  | bl k' =>
   subst h;obtain rfl:u=qH k:=r
   subst h';obtain rfl:u'=qH k':=r'
   simp only [bO,iH] at e
   subst e
   exact ⟨EqAt.bool_bool k k',RcAt.bool_bool k k',RcNeAt.bool_bool k k'⟩
  | int k' =>
   subst h;obtain rfl:u=qH k:=r
   subst h';obtain ⟨t',rfl⟩:=r'
   simp only [bO,iH] at e
   subst e
   exact ⟨EqAt.bool_int k k' t',RcAt.bool_int k k' t',RcNeAt.bool_int k k' t'⟩
  | str k' =>
   subst h;obtain rfl:u=qH k:=r
   subst h';obtain ⟨t',rfl⟩:=r'
   simp only [bO,iH] at e
   subst e
   exact ⟨EqAt.bool_str k k' t',RcAt.bool_str k k' t',RcNeAt.bool_str k k' t'⟩
  | tup ds' =>
   subst h;obtain rfl:u=qH k:=r
   obtain ⟨p',m9,rfl,iV,_⟩:=h';obtain ⟨its',_,cS,_⟩:=I.tuple iV;obtain rfl:u'=dJ p':=r';replace cS:s.heap.IsTuple p' its'.toArray:=cS
   simp only [bO,iH] at e
   subst e
   exact ⟨EqAt.bool_tuple k cS hu,RcAt.bool_tuple k cS hu,RcNeAt.bool_tuple k cS hu⟩
  | lst zc ds' =>
   subst h;obtain rfl:u=qH k:=r
   obtain ⟨p',m9,rfl,iV,_⟩:=h';obtain ⟨its',_,cS,_⟩:=I.list iV;obtain rfl:u'=dJ p':=r';replace cS:=cS.isList
   simp only [bO,iH] at e
   subst e
   exact ⟨EqAt.bool_list k cS hu,RcAt.bool_list k cS hu,RcNeAt.bool_list k cS hu⟩
  | exc n'=>simp [bO] at e
  | j9 n' m'=>simp [bO] at e
  | obj n1 m1 o1=>simp [bO] at e
  | ic n1 m1=>simp [bO] at e
  | dq n1 m1=>simp [bO] at e
 | int k =>
  cases d' with
  | cD =>
   subst h;obtain ⟨t,rfl⟩:=r
   subst h';obtain rfl:u'=mi:=r'
   simp only [bO,iH] at e
   subst e
   exact ⟨EqAt.int_none k t,RcAt.int_none k t,RcNeAt.int_none k t⟩
  | bl k' =>
   subst h;obtain ⟨t,rfl⟩:=r
   subst h';obtain rfl:u'=qH k':=r'
   simp only [bO,iH] at e
   subst e
   exact ⟨EqAt.int_bool k t k',RcAt.int_bool k t k',RcNeAt.int_bool k t k'⟩
  | int k' =>
   subst h;obtain ⟨t,rfl⟩:=r
   subst h';obtain ⟨t',rfl⟩:=r'
   simp only [bO,iH] at e
   subst e
   exact ⟨EqAt.int_int k t k' t',RcAt.int_int k t k' t',RcNeAt.int_int k t k' t'⟩
  | str k' =>
   subst h;obtain ⟨t,rfl⟩:=r
   subst h';obtain ⟨t',rfl⟩:=r'
   simp only [bO,iH] at e
   subst e
   exact ⟨EqAt.int_str k t k' t',RcAt.int_str k t k' t',RcNeAt.int_str k t k' t'⟩
  | tup ds' =>
   subst h;obtain ⟨t,rfl⟩:=r
   obtain ⟨p',m9,rfl,iV,_⟩:=h';obtain ⟨its',_,cS,_⟩:=I.tuple iV;obtain rfl:u'=dJ p':=r';replace cS:s.heap.IsTuple p' its'.toArray:=cS
   simp only [bO,iH] at e
   subst e
   exact ⟨EqAt.int_tuple k t cS hu,RcAt.int_tuple k t cS hu,RcNeAt.int_tuple k t cS hu⟩
  | lst zc ds' =>
   subst h;obtain ⟨t,rfl⟩:=r
   obtain ⟨p',m9,rfl,iV,_⟩:=h';obtain ⟨its',_,cS,_⟩:=I.list iV;obtain rfl:u'=dJ p':=r';replace cS:=cS.isList
   simp only [bO,iH] at e
   subst e
   exact ⟨EqAt.int_list k t cS hu,RcAt.int_list k t cS hu,RcNeAt.int_list k t cS hu⟩
  | exc n'=>simp [bO] at e
  | j9 n' m'=>simp [bO] at e
  | obj n1 m1 o1=>simp [bO] at e
  | ic n1 m1=>simp [bO] at e
  | dq n1 m1=>simp [bO] at e
 | str k =>
  cases d' with
  | cD =>
   subst h;obtain ⟨t,rfl⟩:=r
   subst h';obtain rfl:u'=mi:=r'
   simp only [bO,iH] at e
   subst e
   exact ⟨EqAt.str_none k t,RcAt.str_none k t,RcNeAt.str_none k t⟩
  | bl k' =>
   subst h;obtain ⟨t,rfl⟩:=r
   subst h';obtain rfl:u'=qH k':=r'
   simp only [bO,iH] at e
   subst e
   exact ⟨EqAt.str_bool k t k',RcAt.str_bool k t k',RcNeAt.str_bool k t k'⟩
  | int k' =>
   subst h;obtain ⟨t,rfl⟩:=r
   subst h';obtain ⟨t',rfl⟩:=r'
   simp only [bO,iH] at e
   subst e
   exact ⟨EqAt.str_int k t k' t',RcAt.str_int k t k' t',RcNeAt.str_int k t k' t'⟩
  | str k' =>
   subst h;obtain ⟨t,rfl⟩:=r
   subst h';obtain ⟨t',rfl⟩:=r'
   simp only [bO,iH] at e
   subst e
   exact ⟨EqAt.str_str k t k' t',RcAt.str_str k t k' t',RcNeAt.str_str k t k' t'⟩
  | tup ds' =>
   subst h;obtain ⟨t,rfl⟩:=r
   obtain ⟨p',m9,rfl,iV,_⟩:=h';obtain ⟨its',_,cS,_⟩:=I.tuple iV;obtain rfl:u'=dJ p':=r';replace cS:s.heap.IsTuple p' its'.toArray:=cS
   simp only [bO,iH] at e
   subst e
   exact ⟨EqAt.str_tuple k t cS hu,RcAt.str_tuple k t cS hu,RcNeAt.str_tuple k t cS hu⟩
  | lst zc ds' =>
   subst h;obtain ⟨t,rfl⟩:=r
   obtain ⟨p',m9,rfl,iV,_⟩:=h';obtain ⟨its',_,cS,_⟩:=I.list iV;obtain rfl:u'=dJ p':=r';replace cS:=cS.isList
   simp only [bO,iH] at e
   subst e
   exact ⟨EqAt.str_list k t cS hu,RcAt.str_list k t cS hu,RcNeAt.str_list k t cS hu⟩
  | exc n'=>simp [bO] at e
  | j9 n' m'=>simp [bO] at e
  | obj n1 m1 o1=>simp [bO] at e
  | ic n1 m1=>simp [bO] at e
  | dq n1 m1=>simp [bO] at e
 | tup ds =>
  cases d' with
  | cD =>
   obtain ⟨p,xs,rfl,hq,_⟩:=h;obtain ⟨aB,_,pl,_⟩:=I.tuple hq;obtain rfl:u=dJ p:=r;replace pl:s.heap.IsTuple p aB.toArray:=pl
   subst h';obtain rfl:u'=mi:=r'
   simp only [bO,iH] at e
   subst e
   exact ⟨EqAt.tuple_none pl hu,RcAt.tuple_none pl hu,RcNeAt.tuple_none pl hu⟩
  | bl k' =>
   obtain ⟨p,xs,rfl,hq,_⟩:=h;obtain ⟨aB,_,pl,_⟩:=I.tuple hq;obtain rfl:u=dJ p:=r;replace pl:s.heap.IsTuple p aB.toArray:=pl
   subst h';obtain rfl:u'=qH k':=r'
   simp only [bO,iH] at e
   subst e
   exact ⟨EqAt.tuple_bool k' pl hu,RcAt.tuple_bool k' pl hu,RcNeAt.tuple_bool k' pl hu⟩
  | int k' =>
   obtain ⟨p,xs,rfl,hq,_⟩:=h;obtain ⟨aB,_,pl,_⟩:=I.tuple hq;obtain rfl:u=dJ p:=r;replace pl:s.heap.IsTuple p aB.toArray:=pl
   subst h';obtain ⟨t',rfl⟩:=r'
   simp only [bO,iH] at e
   subst e
   exact ⟨EqAt.tuple_int k' t' pl hu,RcAt.tuple_int k' t' pl hu,RcNeAt.tuple_int k' t' pl hu⟩
  | str k' =>
   obtain ⟨p,xs,rfl,hq,_⟩:=h;obtain ⟨aB,_,pl,_⟩:=I.tuple hq;obtain rfl:u=dJ p:=r;replace pl:s.heap.IsTuple p aB.toArray:=pl
   subst h';obtain ⟨t',rfl⟩:=r'
   simp only [bO,iH] at e
   subst e
   exact ⟨EqAt.tuple_str k' t' pl hu,RcAt.tuple_str k' t' pl hu,RcNeAt.tuple_str k' t' pl hu⟩
  | tup ds'=>exact (hn.1 _ _ rfl rfl).elim
  | lst zc ds' =>
   obtain ⟨p,xs,rfl,hq,_⟩:=h;obtain ⟨aB,_,pl,_⟩:=I.tuple hq;obtain rfl:u=dJ p:=r;replace pl:s.heap.IsTuple p aB.toArray:=pl
   obtain ⟨p',m9,rfl,iV,_⟩:=h';obtain ⟨its',_,cS,_⟩:=I.list iV;obtain rfl:u'=dJ p':=r';replace cS:=cS.isList
   simp only [bO,iH] at e
   subst e
   exact ⟨EqAt.tuple_list pl cS hu,RcAt.tuple_list pl cS hu,RcNeAt.tuple_list pl cS hu⟩
  | exc n'=>simp [bO] at e
  | j9 n' m'=>simp [bO] at e
  | obj n1 m1 o1=>simp [bO] at e
  | ic n1 m1=>simp [bO] at e
  | dq n1 m1=>simp [bO] at e
 | lst ro ds =>
  cases d' with
  | cD =>
   obtain ⟨p,xs,rfl,hq,_⟩:=h;obtain ⟨aB,_,pl,_⟩:=I.list hq;obtain rfl:u=dJ p:=r;replace pl:=pl.isList
   subst h';obtain rfl:u'=mi:=r'
   simp only [bO,iH] at e
   subst e
   exact ⟨EqAt.list_none pl hu,RcAt.list_none pl hu,RcNeAt.list_none pl hu⟩
  | bl k' =>
   obtain ⟨p,xs,rfl,hq,_⟩:=h;obtain ⟨aB,_,pl,_⟩:=I.list hq;obtain rfl:u=dJ p:=r;replace pl:=pl.isList
   subst h';obtain rfl:u'=qH k':=r'
   simp only [bO,iH] at e
   subst e
   exact ⟨EqAt.list_bool k' pl hu,RcAt.list_bool k' pl hu,RcNeAt.list_bool k' pl hu⟩
  | int k' =>
   obtain ⟨p,xs,rfl,hq,_⟩:=h;obtain ⟨aB,_,pl,_⟩:=I.list hq;obtain rfl:u=dJ p:=r;replace pl:=pl.isList
   subst h';obtain ⟨t',rfl⟩:=r'
   simp only [bO,iH] at e
   subst e
   exact ⟨EqAt.list_int k' t' pl hu,RcAt.list_int k' t' pl hu,RcNeAt.list_int k' t' pl hu⟩
  | str k' =>
   obtain ⟨p,xs,rfl,hq,_⟩:=h;obtain ⟨aB,_,pl,_⟩:=I.list hq;obtain rfl:u=dJ p:=r;replace pl:=pl.isList
   subst h';obtain ⟨t',rfl⟩:=r'
   simp only [bO,iH] at e
   subst e
   exact ⟨EqAt.list_str k' t' pl hu,RcAt.list_str k' t' pl hu,RcNeAt.list_str k' t' pl hu⟩
  | tup ds' =>
   obtain ⟨p,xs,rfl,hq,_⟩:=h;obtain ⟨aB,_,pl,_⟩:=I.list hq;obtain rfl:u=dJ p:=r;replace pl:=pl.isList
   obtain ⟨p',m9,rfl,iV,_⟩:=h';obtain ⟨its',_,cS,_⟩:=I.tuple iV;obtain rfl:u'=dJ p':=r';replace cS:s.heap.IsTuple p' its'.toArray:=cS
   simp only [bO,iH] at e
   subst e
   exact ⟨EqAt.list_tuple pl cS hu,RcAt.list_tuple pl cS hu,RcNeAt.list_tuple pl cS hu⟩
  | lst zc ds'=>exact (hn.2 _ _ _ _ rfl rfl).elim
  | exc n'=>simp [bO] at e
  | j9 n' m'=>simp [bO] at e
  | obj n1 m1 o1=>simp [bO] at e
  | ic n1 m1=>simp [bO] at e
  | dq n1 m1=>simp [bO] at e
 | exc n=>cases d'<;>simp [bO] at e
 | j9 n m=>cases d'<;>simp [bO] at e
 | obj n1 m1 o1=>cases d'<;>simp [bO] at e
 | ic n1 m1=>cases d'<;>simp [bO] at e
 | dq n1 m1=>cases d'<;>simp [bO] at e
open PySem.SeqAt in
theorem NQ(I:Inv X pins σ H s):∀(n:Nat) {A:Around} {u u':Value} {v v':V} {d d':D} {b:Bool},A.units+n<cLine->Is X.K O H v d->Is X.K O' H v' d'->RelV v u->RelV v' u'->bO n d d'=some b ->
  EqAt A s u u' b/\RcAt A s u u' b/\RcNeAt A s u u' (!b):=by
 intro n
 induction n with
 | zero =>
  intro A u u' v v' d d' b hu h h' r r' e
  refine YT I (by omega) h.xH h'.xH r r' e ⟨?_,?_⟩
  .rintro a c rfl rfl;simp [bO] at e
  .rintro a c ro zc rfl rfl;simp [bO] at e
 | succ n ih =>
  intro A u u' v v' d d' b hu h h' r r' e
  have elems:∀{xs ys:List V} {aB gk:List Value} {ds es:List D} {bs:List Bool},aF xs aB->aF ys gk->aO X.K O H xs ds->aO X.K O' H ys es->jZ (B3 (bO n) ds es)=some bs ->
    ∀j (h1:j<aB.toArray.size) (h2:j<gk.toArray.size),EqAt A.in1 s aB.toArray[j] gk.toArray[j] (bs.getD j false):=λ{xs ys aB gk ds es bs} rx ry ax ay ea j h1 h2=>by
   obtain ⟨d1,v1,e1,i1,r1⟩:=b17 rx ax h1
   obtain ⟨d2,v2,e2,i2,r2⟩:=b17 ry ay h2
   obtain ⟨hl,g⟩:=ET ea
   have hz:(B3 (bO n) ds es)[j]?=some (bO n d1 d2):=by rw [Yi,e1,e2]
   have hj:j<bs.length:=by rw [<-hl];exact (ni.mp hz).1
   have:=g j bs[j] (je hj)
   rw [hz] at this
   have e3:bs.getD j false=bs[j]:=by simp [hj]
   rw [e3]
   exact (ih (A:=A.in1) (by show A.units+1+n<_;omega) i1 i2 r1 r2 (gY this)).1
  by_cases ht:∃a c,d=.tup a/\d'=.tup c
  .obtain ⟨ds,es,rfl,rfl⟩:=ht
   simp only [bO] at e
   obtain ⟨bs,e1,rfl⟩:=map_some e
   obtain ⟨p,xs,rfl,hq,ax⟩:=h.xH
   obtain ⟨p',ys,rfl,iV,ay⟩:=h'.xH
   obtain ⟨aB,rx,pl,_⟩:=I.tuple hq
   obtain ⟨gk,ry,cS,_⟩:=I.tuple iV
   obtain rfl:u=dJ p:=r
   obtain rfl:u'=dJ p':=r'
   have pl:s.heap.IsTuple p aB.toArray:=pl
   have cS:s.heap.IsTuple p' gk.toArray:=cS
   have hlen:bs.length=min ds.length es.length:=by rw [<-(ET e1).1,Xy]
   have l1:aB.toArray.size=ds.length:=by rw [gZ,<-rx.length,ax.length]
   have l2:gk.toArray.size=es.length:=by rw [gZ,<-ry.length,ay.length]
   have val:((jB (min aB.toArray.size gk.toArray.size)).all (λj=>bs.getD j false)&&aB.toArray.size==gk.toArray.size)=(bs.all id&&decide (ds.length=es.length)):=by
    rw [l1,l2,all_range hlen]
    rfl
   have rc:=RcAt.tuples pl cS (by omega) (elems rx ry ax ay e1)
   have rn:=RcNeAt.tuples pl cS (by omega) (elems rx ry ax ay e1)
   rw [val] at rc rn
   refine ⟨?_,rc,rn⟩
   by_cases hp:p=p'
   .subst hp
    have:=b08 I (n+1) h h' (show bO (n+1) (.tup ds) (.tup es)=some (bs.all id&&decide (ds.length=es.length)) by simp only [bO];rw [e1];rfl)
    rw [this]
    exact EqAt.same _
   .exact .of_refs hp rc
  by_cases hl:∃a c ro zc,d=.lst ro a/\d'=.lst zc c
  .obtain ⟨ds,es,ro,zc,rfl,rfl⟩:=hl
   have e0:=e
   simp only [bO] at e
   obtain ⟨p,xs,rfl,hq,ax⟩:=h.xH
   obtain ⟨p',ys,rfl,iV,ay⟩:=h'.xH
   obtain ⟨aB,rx,pl,_⟩:=I.list hq
   obtain ⟨gk,ry,cS,_⟩:=I.list iV
   obtain rfl:u=dJ p:=r
   obtain rfl:u'=dJ p':=r'
   have l1:aB.toArray.size=ds.length:=by rw [gZ,<-rx.length,ax.length]
   have l2:gk.toArray.size=es.length:=by rw [gZ,<-ry.length,ay.length]
   have fin:RcAt A s (.ref p) (.ref p') b->RcNeAt A s (.ref p) (.ref p') (!b)->EqAt A s (.ref p) (.ref p') b/\RcAt A s (.ref p) (.ref p') b/\RcNeAt A s (.ref p) (.ref p') (!b):=λrc rn=>by
    refine ⟨?_,rc,rn⟩
    by_cases hp:p=p'
    .subst hp
     rw [b08 I (n+1) h h' e0]
     exact EqAt.same _
    .exact .of_refs hp rc
   by_cases hlen:ds.length=es.length
   .rw [if_pos hlen] at e
    obtain ⟨bs,e1,rfl⟩:=map_some e
    have Jj:bs.length=ds.length:=by rw [<-(ET e1).1,Xy];omega
    have rc:=RcAt.lists pl.isList cS.isList (by omega) (by omega) (elems rx ry ax ay e1)
    have rn:=RcNeAt.lists pl.isList cS.isList (by omega) (by omega) (elems rx ry ax ay e1)
    rw [l1,all_range Jj] at rc rn
    exact fin rc rn
   .rw [if_neg hlen] at e
    cases e
    have ng:(aB.toArray.size != gk.toArray.size)=true:=by rw [l1,l2];simpa using hlen
    exact fin (RcAt.lists_lengths pl.isList cS.isList ng (by omega)) (RcNeAt.lists_lengths pl.isList cS.isList ng (by omega))
  refine YT I (by omega) h.xH h'.xH r r' e ⟨λa c e1 e2=>ht ⟨a,c,e1,e2⟩,λa c ro zc e1 e2=>hl ⟨a,c,ro,zc,e1,e2⟩⟩
noncomputable def cw:D->D->Option Sl:=λa b=>(bO 8 a b).map λk=>.sh (.bl k)
noncomputable def gn:D->D->Option Sl:=λa b=>(bO 8 a b).map λk=>.sh (.bl !k)
theorem jN(hu:X.A.units+8<cLine):n5 X (compareOp .Eq) cw:=by
 refine ⟨λx y H Q=>∃O O' a b k,Is X.K O H x a/\Is X.K O' H y b/\bO 8 a b=some k/\Q (.bl k) H,?_,λO H x y a b s Q hO hx hy e q=>?_⟩
 .intro pins s σ H x y v u Q I rx ry h
  obtain ⟨O,O',a,b,k,hx,hy,e,q⟩:=h
  exact (NQ I 8 hu hx hy rx ry e).2.1 _ _ _ _ ⟨.bl k,H,I,rfl,q⟩
 .obtain ⟨k,e1,rfl⟩:=map_some e
  exact ⟨O,O,a,b,k,hx,hy,e1,q _ H (aE.refl _) (Is.bl _)⟩
theorem KR(hu:X.A.units+8<cLine):n5 X (compareOp .NotEq) gn:=by
 refine ⟨λx y H Q=>∃O O' a b k,Is X.K O H x a/\Is X.K O' H y b/\bO 8 a b=some k/\Q (.bl !k) H,?_,λO H x y a b s Q hO hx hy e q=>?_⟩
 .intro pins s σ H x y v u Q I rx ry h
  obtain ⟨O,O',a,b,k,hx,hy,e,q⟩:=h
  exact (NQ I 8 hu hx hy rx ry e).2.2 _ _ _ _ ⟨.bl _,H,I,rfl,q⟩
 .obtain ⟨k,e1,rfl⟩:=map_some e
  exact ⟨O,O,a,b,k,hx,hy,e1,q _ H (aE.refl _) (Is.bl _)⟩
end
theorem Fx.u8{X:Cx}{N:List Str}{sc:Scope}{k:Nat}{full:Bool}(h:Fx X N sc k full):X.A.units+8<cLine:=by have:=h.room.un;omega
theorem uf{X X':Cx}{x:Str}(e4:X'.mg=X.mg)(h:X.mg x=none):X'.mg x=none:=by rw [e4];exact h
end DL
namespace DL
open PySem PySem.Spec PyProof.Rows L2
theorem b2a{P:Program}{w:World}{K:aJ}{tg:Expr}(it:Addr)(lo:Int)(n:Nat):Turn P w K tg (uc lo n) [it] it (λi h=>IsLongIter h it (lo+(i:Nat)*1) ((n:Int)-(i:Nat)) 1) where
 mem:=by simp
 obj:=λi h st b hb=>by
  have e:b=it:=by simpa using hb
  subst e
  exact ⟨_,st,λv z=>by
   have z':Data.fields _=Data.cell v:=z
   cases z'⟩
 keep:=λi h h' st k=>k it (by simp) _ st
 item:=by
  intro X hP hw hK hc i pins s σ H E I hf st hg
  subst hP hw hK
  obtain ⟨f0,f1,f2,f3,f4,f5⟩:=hf it (by simp)
  have W:=Walks.longrange (prog:=X.prog) (w:=X.w) (I.ok.hd hc) it lo 1 n
  refine W.item i s _ _ hg st λv h' tk hv j7 kk=>?_
  obtain ⟨t,rfl⟩:=hv
  have I1:Inv X pins σ H { s with heap:=h',toks:=tk }:=I.turned (λb o hb e=>kk b o (by simpa using hb) e) f0 f1 f3 f4 f5
  refine ⟨_,rfl,EG (s:={ s with heap:=h',toks:=tk }) (n:="longrange_iterator") j7 rfl rfl (by decide) ⟨.int (lo+i),H,I1,⟨t,?_⟩,⟨rfl,rfl⟩,j7,λb hb=>(hf b hb).1⟩⟩
  rw [Int.mul_one]
 done:=by
  intro X hP hw hK hc i pins s σ H E I hf st hg
  subst hP hw hK
  obtain ⟨f0,f1,f2,f3,f4,f5⟩:=hf it (by simp)
  exact wpAny_pyNext_long_end (I.ok.hd hc) st (by have:n<=i:=hg;omega) λh' eb=>⟨rfl,I.turned (t':=s.toks) (λb o hb e=>eb b o hb e) f0 f1 f3 f4 f5⟩
 self:=λ_ _ _ _ _ st h=>wpAny_pyIter_longiter st h
section
variable {X:Cx}{tg:Expr}
theorem a8E{pins:List (Addr×Obj)}{σ:L2.St}{H:Hp}{s:Shared}{R:It->Hp->Prop}{E:Value->Shared->Prop}{lo hi:Int}{t u v:Tok}{tk:Nat}(I:Inv X pins σ H s)
  (q:R (uc lo (hi-lo).toNat) H):wpAny (model X.prog X.w) X.A (pyIter (.ref s.heap.objs.size)) (V1 X pins σ tg R) E { s with heap:=s.heap.push { cls:=.type "range",data:=.fields #[.int lo t,.int hi u,.int 1 v] },toks:=tk }:=by
 have I1:Inv X pins σ H { s with heap:=s.heap.push { cls:=.type "range",data:=.fields #[.int lo t,.int hi u,.int 1 v] },toks:=tk }:=I.kept λb o e=>ft _ e
 have e1:lo+((0:Nat):Int)*1=lo:=by simp
 have e2:(((hi-lo).toNat:Nat):Int)-((0:Nat):Int)=Yg lo hi 1:=by rw [rangeSize_one];split<;>omega
 have fin:∀b∈[(s.heap.push { cls:=.type "range",data:=.fields #[.int lo t,.int hi u,.int 1 v] }).objs.size],md X pins H b:=λb hb=>by
  have e:b=(s.heap.push { cls:=.type "range",data:=.fields #[.int lo t,.int hi u,.int 1 v] }).objs.size:=by simpa using hb
  subst e
  exact I1.qf (cT _) (I1.bE.fresh (cT _))
 by_cases IL:Builtin.Range.small lo hi 1=true
 .refine wpAny_pyIter_range (RZ ..) IL ?_
  refine ⟨_,[(s.heap.push { cls:=.type "range",data:=.fields #[.int lo t,.int hi u,.int 1 v] }).objs.size],_,_,H,rfl,I1.kept (t':=tk) λb o e=>ft _ e,a7l _ lo (hi-lo).toNat,?_,fin,q⟩
  show IsRangeIter _ _ (lo+((0:Nat):Int)*1) ((((hi-lo).toNat:Nat):Int)-((0:Nat):Int)) 1
  rw [e1,e2]
  exact j' _ rfl
 .refine wpAny_pyIter_longrange (RZ ..) (by simpa using IL) ?_
  refine ⟨_,[(s.heap.push { cls:=.type "range",data:=.fields #[.int lo t,.int hi u,.int 1 v] }).objs.size],_,_,H,rfl,I1.kept (t':=tk) λb o e=>ft _ e,b2a _ lo (hi-lo).toNat,?_,fin,q⟩
  show IsLongIter _ _ (lo+((0:Nat):Int)*1) ((((hi-lo).toNat:Nat):Int)-((0:Nat):Int)) 1
  rw [e1,e2]
  exact j' _ rfl
noncomputable def c0y(ta:TA):TI:=λσ H R=>ta σ H λvs H1=>∃j:Int,vs=[.int j]/\R (uc 0 j.toNat) H1
noncomputable def c0x(ta:TA):TI:=λσ H R=>ta σ H λvs H1=>∃i j:Int,vs=[.int i,.int j]/\R (uc i (j-i).toNat) H1
theorem b1w(hg:Gl X "range")(hm:X.mg "range" = none)(ha:PA X [a] ta)(hs:starEach [a] X.env=[(false,eval a X.env)]:=by rfl):PI X tg (.Call (.Name "range" p) [a] [] pos) (c0y ta):=by
 intro pins s σ H R I h
 refine Call_ (Gr I hg hm boot_range (Nf (cn (ha pos pins s σ H _ I h) λus s1 ⟨vs,H1,I1,r1,q1⟩=>?_) hs rfl))
 obtain ⟨j,e,q⟩:=q1
 subst e
 cases r1 with
 | cons r rr =>
  cases rr
  obtain ⟨t,rfl⟩:=r
  exact call_range_1 (a8E I1 (by simpa using q))
theorem b1v{a b:Expr}{ta:TA}{p pos:Pos}(hg:Gl X "range")(hm:X.mg "range" = none)(ha:PA X [a,b] ta)(hs:starEach [a,b] X.env=[(false,eval a X.env),(false,eval b X.env)]:=by rfl)(lX:starEach [b] X.env=[(false,eval b X.env)]:=by rfl):
  PI X tg (.Call (.Name "range" p) [a,b] [] pos) (c0x ta):=by
 intro pins s σ H R I h
 refine Call_ (Gr I hg hm boot_range (Nf (cn (ha pos pins s σ H _ I h) λus s1 ⟨vs,H1,I1,r1,q1⟩=>?_) (by rw [hs,lX]) (by rw [lX];rfl)))
 obtain ⟨i,j,e,q⟩:=q1
 subst e
 cases r1 with
 | cons r rr =>
  cases rr with
  | cons r' rr =>
   cases rr
   obtain ⟨t,rfl⟩:=r
   obtain ⟨t',rfl⟩:=r'
   exact call_range_2 (a8E I1 q)
noncomputable def Bd:List D->Option (List D)
 | [.int j]=>some (fS 0 j.toNat)
 | _=>none
noncomputable def NC:List D->Option (List D)
 | [.int i,.int j]=>some (fS i (j-i).toNat)
 | _=>none
theorem Oe(Ja:Gl X "range")(hm:X.mg "range" = none)(ha:AV X [a] fs)(h1:starEach [a] X.env=[(false,eval a X.env)]:=by rfl):IV X tg (.Call (.Name "range" p) [a] [] pos) (mY Bd fs):=by
 obtain ⟨ti,pi,ki⟩:=ha
 refine ⟨_,b1w Ja hm pi h1,λO B σ H env ds R Rl e q=>?_⟩
 obtain ⟨as,e1,e2⟩:=bind_some e
 refine ki O B σ H env as _ Rl e1 λvs H1 s1 r1=>?_
 unfold Bd at e2
 split at e2
 .cases e2
  exact ⟨_,b01 r1,q _ H1 s1 (b0N _ _)⟩
 .cases e2
theorem b4Q{a b:Expr}{fs:En->Option (List D)}{p pos:Pos}(Ja:Gl X "range")(hm:X.mg "range" = none)(ha:AV X [a,b] fs)(h1:starEach [a,b] X.env=[(false,eval a X.env),(false,eval b X.env)]:=by rfl)
  (h2:starEach [b] X.env=[(false,eval b X.env)]:=by rfl):IV X tg (.Call (.Name "range" p) [a,b] [] pos) (mY NC fs):=by
 obtain ⟨ti,pi,ki⟩:=ha
 refine ⟨_,b1v Ja hm pi h1 h2,λO B σ H env ds R Rl e q=>?_⟩
 obtain ⟨as,e1,e2⟩:=bind_some e
 refine ki O B σ H env as _ Rl e1 λvs H1 s1 r1=>?_
 unfold NC at e2
 split at e2
 .cases e2
  exact ⟨_,_,b3e r1,q _ H1 s1 (b0N _ _)⟩
 .cases e2
end
end DL
namespace DL
open PySem PySem.Spec PyProof.Rows L2
def HF(b:Bool)(h:Heap)(it l:Addr)(k:Nat):Prop:=match b with
 | true=>h.IsListIter it l k
 | false=>h.IsTupleIter it l k
def CC(b:Bool)(h:Heap)(l:Addr)(items:Array Value):Prop:=match b with
 | true=>h.IsList l items
 | false=>h.IsTuple l items
theorem HF.keep(x:HF b h it l k)(e:∀o,h.get? it=some o->h'.get? it=some o):HF b h' it l k:=by
 cases b with
 | true=>obtain ⟨o,ho,r⟩:=x;exact ⟨o,e _ ho,r⟩
 | false=>obtain ⟨o,ho,r⟩:=x;exact ⟨o,e _ ho,r⟩
theorem CC.keep(x:CC b h l items)(e:∀o,h.get? l=some o->h'.get? l=some o):CC b h' l items:=by
 cases b with
 | true=>obtain ⟨o,ho,r⟩:=x;exact ⟨o,e _ ho,r⟩
 | false=>obtain ⟨o,ho,r⟩:=x;exact ⟨o,e _ ho,r⟩
theorem HF.lt(x:HF b h it l k):it<h.objs.size:=by
 cases b with
 | true=>obtain ⟨o,ho,r⟩:=x;exact eD ho
 | false=>obtain ⟨o,ho,r⟩:=x;exact eD ho
theorem CC.lt(x:CC b h l items):l<h.objs.size:=by
 cases b with
 | true=>obtain ⟨o,ho,r⟩:=x;exact eD ho
 | false=>obtain ⟨o,ho,r⟩:=x;exact eD ho
section
variable {prog:Program}{w:World}{A:Around}{E:Value->Shared->Prop}{s:Shared}
structure ZAp(z TI TO i1 i2 l1 l2:Addr):Prop where
 a1:TI≠z
 a2:TO≠z
 a3:i1≠z
 a4:i2≠z
 a6:TO≠i1
 a7:TO≠i2
 a8:i1≠i2
 b1:l1≠z
 b2:l1≠TO
 b3:l1≠i1
 b4:l1≠i2
 c1:l2≠z
 c2:l2≠TO
 c3:l2≠i1
 c4:l2≠i2
end
end DL
namespace DL
open PySem PySem.Spec PyProof.Rows L2
section
variable {X:Cx}{pins:List (Addr×Obj)}{σ:L2.St}{H:Hp}{s:Shared}
theorem Kw(I:Inv X pins σ H s)(h:Sq X.K H b l xs):∃aB:List Value,aF xs aB/\CC b s.heap l aB.toArray:=by
 cases b with
 | true=>obtain ⟨aB,r,p,_⟩:=I.list h;exact ⟨aB,r,p.isList⟩
 | false=>obtain ⟨aB,r,p,_⟩:=I.tuple h;exact ⟨aB,r,p⟩
end
section
variable {prog:Program}{w:World}{A:Around}{E:Value->Shared->Prop}{s:Shared}
end
section
variable {X:Cx}{elts:List Expr}{kk:Nat}{tp:Pos}
end
end DL
namespace DL
open PySem PySem.Spec PyProof.Rows L2
section
variable {X:Cx}
theorem b3Z:de X (.type "int") (λxs H Q=>∃b:Bool,xs=[.bl b]/\Q (.int (if b then 1 else 0)) H):=by
 intro pins s σ H xs vs Q I r h
 obtain ⟨b,rfl,q⟩:=h
 obtain ⟨u,rfl,ru⟩:=r.one
 cases ru
 exact call_int_bool ⟨.int _,H,I.tok _,⟨_,rfl⟩,q⟩
noncomputable def Nv(f:En->Option Sl):En->Option Sl:=λenv=>(nR (f env)).map λb=>.sh (.int (if b then 1 else 0))
theorem b78(hg:Gl X "int")(hm:X.mg "int" = none)(he:EV X e fa)(hs:starEach [e] X.env=[(false,eval e X.env)]:=by rfl):EV X (.Call (.Name "int" p) [e] [] pos) (Nv fa):=by
 obtain ⟨t,pt,k⟩:=he
 refine ⟨_,Dg b3Z hg hm (by decide +kernel) (lj pt nv hs) (by decide) (by decide) hs rfl,λO B σ H env s Q R e q=>?_⟩
 obtain ⟨b,e1,rfl⟩:=map_some e
 refine k O B σ H env _ _ R (EU e1) λv H1 s1 r1=>?_
 obtain rfl:=C8 r1
 exact ⟨b,rfl,q _ H1 s1 (Is.int _)⟩
end
end DL
namespace DL
open PySem PySem.Spec PyProof.Rows L2 PySem.SeqAt
section
variable {X:Cx}{pins:List (Addr×Obj)}{s:Shared}{σ:L2.St}{H:Hp}
theorem IH(e:Value->Bool)(hl:CC b s.heap l items)(he:∀y,y∈items->EqAt A.in1 s y x (e y))
  (h:Q (.bool (items.any e)) s):wpAny (model prog w) A (compareOp .In x (.ref l)) Q E s:=by
 cases b with
 | true=>exact in_listAt e hl he h
 | false=>exact in_tupleAt e hl he h
noncomputable def inD(a:D)(ds:List D):Option Bool:=(jZ (ds.map λd=>bO 7 d a)).map λbs=>bs.any id
noncomputable def Mx:D->D->Option Sl:=λa d=>(jj d).bind λx=>(inD a x.2).map λk=>.sh (.bl k)
theorem Ik(hu:X.A.units+8<cLine):n5 X (compareOp .In) Mx:=by
 refine ⟨λx y H Q=>∃O p k xs a ds bs,y=.ref p/\Sq X.K H k p xs/\aO X.K O H xs ds/\Is X.K O H x a/\jZ (ds.map λd=>bO 7 d a)=some bs/\Q (.bl (bs.any id)) H,?_,λO H x y a b s Q hO hx hy e q=>?_⟩
 .intro pins s σ H x y v u Q I rx ry h
  obtain ⟨O,p,k,xs,a,ds,bs,rfl,hq,hs,ha,hb,q⟩:=h
  cases ry
  obtain ⟨aB,rv,hl⟩:=Kw I hq
  obtain ⟨l1,g1⟩:=ET hb
  have hlen:aB.length=bs.length:=by rw [<-rv.length,hs.length,<-l1,cP]
  have at_:∀(j:Nat) (y:Value) (b:Bool),aB[j]?=some y->bs[j]?=some b->EqAt X.A.in1 s y v b:=λj y b h1 h2=>by
   have h3:=g1 j b h2
   rw [nj] at h3
   cases hd:ds[j]? with
   | none=>rw [hd] at h3;cases h3
   | some d =>
    rw [hd] at h3
    have h4:bO 7 d a=some b:=gY h3
    obtain ⟨z,hz,iz⟩:=hs.get hd
    obtain ⟨y',zE,rz⟩:=rv.get hz
    rw [h1] at zE;cases zE
    exact (NQ I 7 (A:=X.A.in1) (by show X.A.units+1+7<cLine;omega) iz ha rz rx h4).1
  classical
  have e1:aB.toArray.any (λy=>decide (∃j:Nat,aB[j]?=some y/\bs[j]?=some true))=bs.any id:=by
   rw [JW]
   simp only [List.any_toArray,MZ,decide_eq_true_eq,id]
   constructor
   .rintro ⟨y,hy,j,h1,h2⟩
    exact ⟨true,Nr h2,rfl⟩
   .rintro ⟨b,hb,rfl⟩
    obtain ⟨j,hj⟩:=Nj.mp hb
    have zJ:j<aB.length:=by rw [hlen];exact (ni.mp hj).1
    exact ⟨aB[j],pL zJ,j,je zJ,hj⟩
  refine IH (λy=>decide (∃j:Nat,aB[j]?=some y/\bs[j]?=some true)) hl (λy hy=>?_) ?_
  .by_cases ht:∃j:Nat,aB[j]?=some y/\bs[j]?=some true
   .rw [decide_eq_true ht]
    obtain ⟨j,h1,h2⟩:=ht
    exact at_ j y true h1 h2
   .rw [decide_eq_false ht]
    obtain ⟨j,hj⟩:=Nj.mp (List.mem_toArray.mp hy)
    have zJ:j<bs.length:=by rw [<-hlen];exact (ni.mp hj).1
    refine at_ j y false hj ?_
    rw [je zJ]
    cases Mu:bs[j] with
    | false=>rfl
    | true=>exact absurd ⟨j,hj,by rw [je zJ,Mu]⟩ ht
  .rw [e1]
   exact ⟨.bl (bs.any id),H,I,rfl,q⟩
 .obtain ⟨⟨k,ds⟩,e1,e2⟩:=bind_some e
  obtain ⟨b1,e3,rfl⟩:=map_some e2
  obtain ⟨bs,e4,rfl⟩:=map_some e3
  obtain ⟨p,xs,rfl,hq,hs⟩:=hy.seq e1
  exact ⟨O,p,k,xs,a,ds,bs,rfl,hq,hs,hx,e4,q _ H (aE.refl _) (Is.bl _)⟩
end
end DL
namespace DL
open PySem PySem.Spec PyProof.Rows L2
section
variable {X:Cx}{N:List Str}{sc:Scope}{k:Nat}{full:Bool}{pos pos' p1 p2 p3 p4:Pos}{e c:Expr}{fa:En->Option Sl}{ga:En->Option Bool}
noncomputable def YM(i j:Nat)(c:En->Option Bool)(f:En->Option Sl):SF:=λenv=>match env[i]? with
 | some (.ow ds)=>forL (gN j) (eF c (bb f) fG) ds env
 | _=>none
end
end DL
namespace DL
open PySem L2
def Wo{α:Type}(o:Option α)(Q:α->Prop):Prop:=∃a,o=some a/\Q a
section
variable {α β:Type}
theorem a0c{a:α}{Q:α->Prop}:Wo (some a) Q↔Q a:=⟨λ⟨_,e,h⟩=>by cases e;exact h,λh=>⟨a,rfl,h⟩⟩
theorem Wo_none:Wo (none:Option α) Q↔False:=⟨λ⟨_,e,_⟩=>(nomatch e),gC⟩
theorem a0n{o:Option α}{f:α->Option β}{Q:β->Prop}:Wo (o.bind f) Q↔Wo o λa=>Wo (f a) Q:=by
 cases o with
 | none=>simp [Wo]
 | some a=>simp [Wo]
theorem a1z{o:Option α}{f:α->β}{Q:β->Prop}:Wo (o.map f) Q↔Wo o λa=>Q (f a):=by
 cases o with
 | none=>simp [Wo]
 | some a=>simp [Wo]
theorem qr{c:Prop}[Decidable c]{a:α}{Q:α->Prop}:Wo (if c then some a else none) Q↔c/\Q a:=by
 by_cases h:c
 .rw [if_pos h,a0c];exact ⟨λz=>⟨h,z⟩,λz=>z.2⟩
 .rw [if_neg h,Wo_none];exact ⟨gC,λz=>h z.1⟩
theorem Wo.mono{o:Option α}{P Q:α->Prop}(h:Wo o P)(k:∀a,P a->Q a):Wo o Q:=let ⟨a,e,p⟩:=h;⟨a,e,k a p⟩
theorem Wo.eq{o:Option α}{a:α}(h:Wo o λx=>x=a):o=some a:=let ⟨_,e,p⟩:=h;by rw [e,p]
theorem jR{o:Option α}{P Q:α->Prop}(k:∀a,P a↔Q a):Wo o P↔Wo o Q:=⟨λh=>h.mono λa=>(k a).mp,λh=>h.mono λa=>(k a).mpr⟩
end
noncomputable def oR(G:SF)(Q:Fl×En->Prop):Fl×En->Prop
 | (.nx,e)=>Wo (G e) Q
 | p=>Q p
theorem a12:oR G Q (.nx,e)↔Wo (G e) Q:=ju
theorem b2s:oR G Q (.bk,e)↔Q (.bk,e):=ju
theorem b2r:oR G Q (.ct,e)↔Q (.ct,e):=ju
theorem b2q:oR G Q (.rt r,e)↔Q (.rt r,e):=ju
theorem Wo_seq:Wo (aM F G env) Q↔Wo (F env) (oR G Q):=by
 unfold aM
 cases h:F env with
 | none=>simp [Wo]
 | some p =>
  obtain ⟨fl,e⟩:=p
  rw [a0c]
  cases fl with
  | nx=>exact ju
  | bk=>rw [b2s];exact a0c
  | ct=>rw [b2r];exact a0c
  | rt r=>rw [b2q];exact a0c
theorem a4e:Wo (eF c F G env) Q↔Wo (c env) λb=>(b=true->Wo (F env) Q)/\(b=false->Wo (G env) Q):=by
 unfold eF
 cases h:c env with
 | none=>simp [Wo]
 | some b=>cases b<;>simp [a0c]
theorem b8H:Wo (fG env) Q↔Q (.nx,env):=a0c
theorem Wo_bk:Wo (sBk env) Q↔Q (.bk,env):=a0c
theorem Wo_ct:Wo (sCt env) Q↔Q (.ct,env):=a0c
theorem Wo_ret:Wo (bb f env) Q↔Wo (f env) λr=>Q (.rt r,env):=a1z
theorem b8F:Wo (HE env) Q↔Q (.rt (.sh .cD),env):=a0c
theorem b6E:Wo (jV i f env) Q↔Wo (f env) λr=>i<env.length/\Q (.nx,env.set i r):=by
 unfold jV;rw [a0n];simp only [qr]
theorem a2T:Wo (gU i f env) Q↔Wo (f env) λr=>i<env.length/\Q (.nx,env.set i (.sh r.d)):=by
 unfold gU;rw [a0n];simp only [qr]
theorem b88{f:En->Option Sl}{env:En}{Q:Fl×En->Prop}:Wo (Dd f env) Q↔Wo (f env) λ_=>Q (.nx,env):=a1z
noncomputable def rX:Option Sl->(Sl->Prop)->Prop
 | some (.sh d),Q=>Q (.sh d)
 | _,_=>False
theorem b8k:rX (some (.sh d)) Q↔Q (.sh d):=ju
theorem Wo_eV:Wo (eV i env) Q↔rX env[i]? Q:=by
 unfold eV
 cases env[i]? with
 | none=>simp [L7,rX,Wo]
 | some s=>cases s<;>simp [L7,rX,Wo]
theorem Wo_eC:Wo (eC d env) Q↔Q (.sh d):=a0c
theorem b1p:Wo (ag g fa fb env) Q↔Wo (fa env) λx=>Wo (fb env) λy=>Wo (g x.d y.d) Q:=by
 unfold ag;rw [a0n];simp only [a0n]
theorem c1g:Wo (rK f env) Q↔Wo (f env) λx=>Wo (Jq x.d) Q:=a0n
theorem b8U:Wo (aQ (.int i) (.int j)) Q↔Q (.sh (.int (i+j))):=a0c
theorem b8M:Wo (rH (.int i) (.int j)) Q↔Q (.sh (.int (i-j))):=by rw [c0B,a0c]
theorem b8P:Wo (js (.int i) (.int j)) Q↔MulC i j/\Q (.sh (.int (i*j))):=qr
theorem b8T:Wo (uY (.int i) (.int j)) Q↔DivC i j/\Q (.sh (.int (i/j))):=qr
theorem c1k:Wo (Mx a d) Q↔Wo (jj d) λx=>Wo (inD a x.2) λk=>Q (.sh (.bl k)):=by
 unfold Mx
 rw [a0n]
 simp only [a1z]
theorem b8Q:Wo (iW (.int i) (.int j)) Q↔0<j/\Q (.sh (.int (i%j))):=qr
theorem b8N:Wo (mX (.int i) (.int j)) Q↔PowC i j/\Q (.sh (.int (i^j.toNat))):=qr
theorem c1i:Wo (Jr (.int i) (.int j)) Q↔Q (.sh (.bl (decide (i<j)))):=a0c
theorem c1j:Wo (Mw (.int i) (.int j)) Q↔Q (.sh (.bl (decide (i<=j)))):=a0c
theorem c1l:Wo (Ed (.int i) (.int j)) Q↔Q (.sh (.bl (decide (j<i)))):=a0c
theorem c1m:Wo (cw (.int i) (.int j)) Q↔Q (.sh (.bl (decide (i=j)))):=a0c
theorem c1h:Wo (gn (.int i) (.int j)) Q↔Q (.sh (.bl (!decide (i=j)))):=a0c
theorem b8S:Wo (cw (.bl i) (.bl j)) Q↔Q (.sh (.bl (decide (i=j)))):=a0c
theorem b8O:Wo (gn (.bl i) (.bl j)) Q↔Q (.sh (.bl (!decide (i=j)))):=a0c
theorem b5J:Wo (cw (.int i) .cD) Q↔Q (.sh (.bl false)):=a0c
theorem b5G:Wo (gn (.int i) .cD) Q↔Q (.sh (.bl true)):=a0c
theorem b5I:Wo (cw .cD (.int i)) Q↔Q (.sh (.bl false)):=a0c
theorem b5F:Wo (gn .cD (.int i)) Q↔Q (.sh (.bl true)):=a0c
theorem b5H:Wo (cw .cD .cD) Q↔Q (.sh (.bl true)):=a0c
theorem b5E:Wo (gn .cD .cD) Q↔Q (.sh (.bl false)):=a0c
theorem b1l:Wo (cR f env) Q↔Wo (f env) λr=>Wo (nR (some r)) Q:=by
 unfold cR
 cases f env with
 | none=>simp [nR,Wo]
 | some r=>rw [a0c]
theorem c1w:Wo (nR (some (.sh (.bl b)))) Q↔Q b:=a0c
theorem b8z:Wo (Dy f env) Q↔Wo (f env) λr=>Wo (oO r.d) Q:=a0n
theorem b8y:Wo (oO (.bl b)) Q↔Q b:=a0c
theorem b8x:Wo (oO (.int b)) Q↔Q (b != 0):=a0c
theorem b8u:Wo (oO (.tup ds)) Q↔Q (!ds.isEmpty):=a0c
theorem b8w:Wo (oO (.lst r ds)) Q↔Q (!ds.isEmpty):=a0c
theorem b8v:Wo (oO .cD) Q↔Q false:=a0c
theorem b5y:Wo (ND f env) Q↔Wo (f env) λr=>Q (!r.2.isEmpty):=by
 unfold ND;rw [a0n];simp only [a0c]
theorem b8B:Wo (Ag f g env) Q↔Wo (f env) λb=>(b=true->Wo (g env) Q)/\(b=false->Q false):=by
 unfold Ag
 cases f env with
 | none=>simp [Wo]
 | some b=>cases b<;>simp [a0c]
theorem c08:Wo (mE f g env) Q↔Wo (f env) λb=>(b=true->Q true)/\(b=false->Wo (g env) Q):=by
 unfold mE
 cases f env with
 | none=>simp [Wo]
 | some b=>cases b<;>simp [a0c]
theorem b8A:Wo (Kx f env) Q↔Wo (f env) λb=>Q (!b):=a1z
theorem b86:Wo (zO f g env) Q↔Wo (f env) λr=>Wo (nR (some r)) λb=>(b=true->Wo (g env) Q)/\(b=false->Q (.sh (.bl false))):=by
 unfold zO
 cases f env with
 | none=>simp [Wo,nR]
 | some r =>
  rw [a0c]
  cases nR (some r) with
  | none=>simp [Wo]
  | some b=>cases b<;>simp [a0c]
theorem b9e:Wo (ae env) Q↔Q []:=a0c
theorem b5V:Wo (ah f g env) Q↔Wo (f env) λr=>Wo (g env) λds=>Q (r.d::ds):=by
 unfold ah;rw [a0n];simp only [a0n,a0c]
theorem b80:Wo (iG f env) Q↔Wo (f env) λds=>ds.length<=16777216/\Q (.sh (.tup ds)):=by
 unfold iG;rw [a0n];simp only [qr]
theorem b82:Wo (cH f env) Q↔Wo (f env) λds=>ds.length<=16777216/\Q (.ow ds):=by
 unfold cH;rw [a0n];simp only [qr]
noncomputable def nQ:Option Sl->(Bool×List D->Prop)->Prop
 | some (.sh (.tup ds)),Q=>Q (false,ds)
 | some (.sh (.lst _ ds)),Q=>Q (true,ds)
 | some (.ow ds),Q=>Q (true,ds)
 | _,_=>False
theorem c03:nQ (some (.sh (.tup ds))) Q↔Q (false,ds):=ju
theorem c05:nQ (some (.sh (.lst r ds))) Q↔Q (true,ds):=ju
theorem c04:nQ (some (.ow ds)) Q↔Q (true,ds):=ju
theorem Wo_bV:Wo (bV i env) Q↔nQ env[i]? Q:=by
 unfold bV
 cases env[i]? with
 | none=>simp [DC,nQ,Wo]
 | some s=>cases s with
  | no=>simp [DC,nQ,Wo]
  | dw ds=>simp [DC,nQ,Wo]
  | tw _ _=>simp [DC,nQ,Wo]
  | ow ds=>simp [DC,nQ,Wo]
  | sh d=>cases d<;>simp [DC,nQ,Wo,jj]
theorem c1u:Wo (nk f env) Q↔Wo (f env) λr=>Wo (jj r.d) Q:=a0n
theorem c09:Wo (jj (.tup ds)) Q↔Q (false,ds):=a0c
theorem c1a:Wo (jj (.lst r ds)) Q↔Q (true,ds):=a0c
theorem b83:Wo (jK f env) Q↔Wo (f env) λx=>Q (.sh (.int x.2.length)):=a1z
theorem b5R:Wo (Kr f env) Q↔Wo (f env) λx=>Q (.ow x.2):=a1z
def QK(xs:List D)(d:D)(Q:Sl->Prop):Prop:=match d with
 | .int i=>Wo (gf xs i) λd=>Q (.sh d)
 | _=>False
theorem ixQ_i:QK xs (.int i) Q↔Wo (gf xs i) λd=>Q (.sh d):=ju
theorem b6F:Wo (bY f g env) Q↔Wo (f env) λx=>Wo (g env) λy=>QK x.2 y.d Q:=by
 unfold bY
 rw [a0n]
 refine jR λx=>?_
 rw [a0n]
 refine jR λy=>?_
 unfold QK
 cases y.d<;>simp [a1z,Wo_none]
theorem jC{α:Type}{xs:List α}{n:Nat}:gf xs (n:Int)=xs[n]?:=by
 unfold gf mJ
 rw [if_pos (by omega)]
 by_cases h:n<xs.length
 .rw [if_pos (by omega)];simp
 .rw [if_neg (by omega),EB (by omega)];rfl
theorem b8o{α:Type}{x:α}{xs:List α}:gf (x::xs) 0=some x:=jC (n:=0)
theorem atI_1{α:Type}{x y:α}{xs:List α}:gf (x::y::xs) 1=some y:=jC (n:=1)
theorem atI_2{α:Type}{x y z:α}{xs:List α}:gf (x::y::z::xs) 2=some z:=jC (n:=2)
theorem atI_3{α:Type}{x y z u:α}{xs:List α}:gf (x::y::z::u::xs) 3=some u:=jC (n:=3)
theorem b5T:Wo (bT n φ fs env) Q↔Wo (fs env) λds=>ds.length=n/\Wo (φ ds) Q:=by
 unfold bT
 rw [a0n]
 have h:∀ds:List D,Wo (if ds.length=n then φ ds else none) Q↔ds.length=n/\Wo (φ ds) Q:=λds=>by
  by_cases h:ds.length=n<;>simp [h,Wo_none]
 simp only [h]
theorem b4W:Wo (uT T (.cD)) Q↔Q (.sh (.bl (cN T (.cD)))):=a0c
theorem b7L:Wo (uT T (.bl b)) Q↔Q (.sh (.bl (cN T (.bl b)))):=a0c
theorem b4Y:Wo (uT T (.int i)) Q↔Q (.sh (.bl (cN T (.int i)))):=a0c
theorem b4V:Wo (uT T (.str x)) Q↔Q (.sh (.bl (cN T (.str x)))):=a0c
theorem b4U:Wo (uT T (.tup ds)) Q↔Q (.sh (.bl (cN T (.tup ds)))):=a0c
theorem b4X:Wo (uT T (.lst r ds)) Q↔Q (.sh (.bl (cN T (.lst r ds)))):=a0c
noncomputable def dC(Q:Sl->Prop):Fl×En->Prop
 | (.rt r,_)=>Q r
 | (.nx,_)=>Q (.sh .cD)
 | _=>False
theorem b3I:dC Q (.rt r,e)↔Q r:=ju
theorem b8b:dC Q (.nx,e)↔Q (.sh .cD):=ju
theorem mj:Wo (bQ F N ds) Q↔Wo (F (lg N ds)) (dC Q):=by
 unfold bQ
 cases F (lg N ds) with
 | none=>simp [Wo]
 | some p =>
  obtain ⟨fl,e⟩:=p
  rw [a0c]
  cases fl<;>simp [a0c,Wo_none,dC]
theorem c1n:Wo (oS f g F env) Q↔Wo (f env) λr=>Wo (jj r.d) λx=>Wo (forL g F x.2 env) Q:=by
 unfold oS;rw [a0n];simp only [a0n]
theorem b8V:Wo (Ku h f g F env) Q↔Wo (f env) λds=>Wo (h ds) λis=>Wo (forL g F is env) Q:=by
 unfold Ku;rw [a0n];simp only [a0n]
theorem b8D:Wo (zd [.int j]) Q↔R62 j/\Q (fS 0 j.toNat):=qr
noncomputable def Cb(I:En->Prop)(Q:Fl×En->Prop):Fl×En->Prop
 | (.nx,e)=>I e
 | (.ct,e)=>I e
 | (.bk,e)=>Q (.nx,e)
 | (.rt r,e)=>Q (.rt r,e)
theorem b4g:Cb I Q (.nx,e)↔I e:=ju
theorem b4h:Cb I Q (.ct,e)↔I e:=ju
theorem b4i:Cb I Q (.bk,e)↔Q (.nx,e):=ju
theorem b4f:Cb I Q (.rt r,e)↔Q (.rt r,e):=ju
theorem ES{α:Type}(enc:α->D)(I:List α->En->Prop)(xs:List α)(turn:∀pre a post env,xs=pre++a::post->I pre env->Wo (g (enc a) env) λe=>Wo (F e) (Cb (I (pre++[a])) Q))
  (done:∀env,I xs env->Q (.nx,env)):∀{env:En},I [] env->Wo (forL g F (xs.map enc) env) Q:=by
 have key:∀(post pre:List α) (env:En),xs=pre++post->I pre env->Wo (forL g F (post.map enc) env) Q:=by
  intro post
  induction post with
  | nil =>
   intro pre env e h
   rw [vz] at e
   subst e
   exact ⟨_,rfl,done env h⟩
  | cons a post ih =>
   intro pre env e h
   obtain ⟨e1,h1,p,h2,h3⟩:=turn pre a post env e h
   rw [gS]
   unfold forL
   rw [h1]
   dsimp only
   rw [h2]
   obtain ⟨fl,e2⟩:=p
   cases fl with
   | nx=>exact ih (pre++[a]) e2 (by rw [e,EE];rfl) h3
   | ct=>exact ih (pre++[a]) e2 (by rw [e,EE];rfl) h3
   | bk=>exact ⟨_,rfl,h3⟩
   | rt r=>exact ⟨_,rfl,h3⟩
 exact λ{env} h=>key xs [] env rfl h
theorem Uv(lo:Int)(n:Nat)(I:Nat->En->Prop)(turn:∀(k:Nat) env,k<n->I k env->Wo (g (.int (lo+k)) env) λe=>Wo (F e) (Cb (I (k+1)) Q))
  (done:∀env,I n env->Q (.nx,env))(h:I 0 env):Wo (forL g F (fS lo n) env) Q:=by
 unfold fS
 refine ES (λ(k:Nat)=>D.int (lo+(k:Int))) (λpre env=>I pre.length env) (jB n) (λpre a post env e h=>?_) (λenv h=>done env (by simpa using h)) h
 have hl:=congrArg FV e
 have ha:(jB n)[pre.length]?=some a:=by rw [e];simp
 simp at hl
 rw [Xx (by omega)] at ha
 cases ha
 simpa using turn pre.length env (by omega) h
theorem b13:Wo (gN i d env) Q↔i<env.length/\Q (env.set i (.sh d)):=qr
theorem Wo_gT:Wo (gT n u (.tup ds) env) Q↔ds.length=n/\Wo (u ds env) Q:=by
 unfold gT
 by_cases h:ds.length=n<;>simp [h,Wo_none]
theorem b5D:Wo (yM [] env) Q↔Q env:=a0c
theorem b36:Wo (nu g u (d::ds) env) Q↔Wo (g d env) λe=>Wo (u ds e) Q:=a0n
noncomputable def cC:Option Sl->(List D->Prop)->Prop
 | some (.ow ds),Q=>Q ds
 | _,_=>False
theorem b1i:cC (some (.ow ds)) Q↔Q ds:=ju
theorem c1x:Wo (nD i f env) Q↔cC env[i]? λds=>Wo (f env) λr=>ds.length<16777216/\Q (.nx,env.set i (.ow (ds++[r.d]))):=by
 unfold nD
 cases env[i]? with
 | none=>simp [Wo_none,cC]
 | some s=>cases s with
  | no=>simp [Wo_none,cC]
  | dw d=>simp [Wo_none,cC]
  | tw _ _=>simp [Wo_none,cC]
  | sh d=>simp [Wo_none,cC]
  | ow ds=>dsimp only [cC];rw [a0n];simp only [qr]
def Ef(env:En)(i:Nat)(ds:List D)(d:D)(Q:Fl×En->Prop):Prop:=match d with
 | .lst false es=>ds.length+es.length<=16777216/\Q (.nx,env.set i (.ow (ds++es)))
 | _=>False
theorem c0H:Ef env i ds (.lst false es) Q↔ds.length+es.length<=16777216/\Q (.nx,env.set i (.ow (ds++es))):=ju
theorem c1o:Wo (qX i f env) Q↔cC env[i]? λds=>Wo (f env) λr=>Ef env i ds r.d Q:=by
 unfold qX
 cases env[i]? with
 | none=>simp [Wo_none,cC]
 | some s=>cases s with
  | no=>simp [Wo_none,cC]
  | dw d=>simp [Wo_none,cC]
  | tw _ _=>simp [Wo_none,cC]
  | sh d=>simp [Wo_none,cC]
  | ow ds =>
   dsimp only [cC];rw [a0n]
   refine jR λr=>?_
   unfold Ef
   cases r.d with
   | lst ro es=>cases ro<;>simp [qr,Wo_none]
   | _=>simp [Wo_none]
theorem c1d:Wo (qW i j env) Q↔cC env[j]? λds=>Wo ds[ds.length-1]? λd=>(i<env.length/\i≠j)/\Q (.nx,(env.set j (.ow ds.dropLast)).set i (.sh d)):=by
 unfold qW
 cases env[j]? with
 | none=>simp [Wo_none,cC]
 | some s=>cases s with
  | no=>simp [Wo_none,cC]
  | dw d=>simp [Wo_none,cC]
  | tw _ _=>simp [Wo_none,cC]
  | sh d=>simp [Wo_none,cC]
  | ow ds=>dsimp only [cC];rw [a0n];simp only [qr]
def Tz(env:En)(i:Nat)(ds:List D)(d:D)(k:D)(Q:Fl×En->Prop):Prop:=match k with
 | .int n=>Wo (mJ ds.length n) λj=>Q (.nx,env.set i (.ow (ds.set j d)))
 | _=>False
theorem b7J:Tz env i ds d (.int n) Q↔Wo (mJ ds.length n) λj=>Q (.nx,env.set i (.ow (ds.set j d))):=ju
theorem b8K:Wo (Gg i f g env) Q↔cC env[i]? λds=>Wo (f env) λr=>Wo (g env) λk=>Tz env i ds r.d k.d Q:=by
 unfold Gg
 cases env[i]? with
 | none=>simp [Wo_none,cC]
 | some s=>cases s with
  | no=>simp [Wo_none,cC]
  | dw d=>simp [Wo_none,cC]
  | tw _ _=>simp [Wo_none,cC]
  | sh d=>simp [Wo_none,cC]
  | ow ds =>
   dsimp only [cC];rw [a0n]
   refine jR λr=>?_
   rw [a0n]
   refine jR λk=>?_
   unfold Tz
   cases k.d<;>simp [a0n,a0c,Wo_none]
noncomputable def Gk(env:En):Option Sl->(Fl×En->Prop)->Prop
 | some (.ow ds),Q=>Q (.rt (.ow ds),env)
 | some (.dw ds),Q=>Q (.rt (.dw ds),env)
 | some (.tw ks ds),Q=>Q (.rt (.tw ks ds),env)
 | some (.sh d),Q=>Q (.rt (.sh d),env)
 | _,_=>False
theorem b8n:Gk env (some (.ow ds)) Q↔Q (.rt (.ow ds),env):=ju
theorem b8m:Gk env (some (.sh d)) Q↔Q (.rt (.sh d),env):=ju
theorem b8E:Wo (Be i env) Q↔Gk env env[i]? Q:=by
 unfold Be
 cases env[i]? with
 | none=>simp [Wo_none,Gk]
 | some s=>cases s<;>simp [Wo_none,a0c,Gk]
theorem c1f:Wo (BB env) Q↔Q none:=a0c
def pQ(d:D)(Q:Option Int->Prop):Prop:=match d with
 | .int i=>Q (some i)
 | _=>False
theorem pQ_i:pQ (.int i) Q↔Q (some i):=ju
theorem c1e:Wo (Ax f env) Q↔Wo (f env) λr=>pQ r.d Q:=by
 unfold Ax
 rw [a0n]
 refine jR λr=>?_
 unfold pQ
 cases r.d<;>simp [a0c,Wo_none]
theorem c1q:Wo (JJ f lo hi env) Q↔Wo (f env) λx=>Wo (lo env) λl=>Wo (hi env) λh =>
  (x.1=true->Q (.ow (cutD x.2 l h)))/\(x.1=false->¬(HT.df x.2.length 0 l=0/\HT.df x.2.length x.2.length h=x.2.length)/\Q (.sh (.tup (cutD x.2 l h)))):=by
 unfold JJ
 rw [a0n]
 simp only [a0n]
 have h:∀(x:Bool×List D) (l h:Option Int),Wo (if x.1=true then some (Sl.ow (cutD x.2 l h)) else if ¬(HT.df x.2.length 0 l=0/\HT.df x.2.length x.2.length h=x.2.length) then some (.sh (.tup (cutD x.2 l h))) else none) Q ↔
   (x.1=true->Q (.ow (cutD x.2 l h)))/\(x.1=false->¬(HT.df x.2.length 0 l=0/\HT.df x.2.length x.2.length h=x.2.length)/\Q (.sh (.tup (cutD x.2 l h)))):=λx l h=>by
  obtain ⟨k,ds⟩:=x
  cases k
  .simp only [B9,if_false,qr];simp
  .simp [a0c]
 simp only [h]
theorem Sl_sh:Sl.d (.sh d)=d:=rfl
theorem Sl_ow:Sl.d (.ow ds)=.lst false ds:=rfl
theorem b5M:Wo (aQ (.lst false a) (.lst false b)) Q↔a.length+b.length<=16777216/\Q (.ow (a++b)):=qr
theorem b5K:Wo (aQ (.tup a) (.tup b)) Q↔a.length+b.length<=16777216/\Q (.sh (.tup (a++b))):=qr
theorem b5L:Wo (aQ (.str a) (.str b)) Q↔a.length+b.length<=16777216/\Q (.sh (.str (a++b))):=qr
theorem b0i :cN "int" .cD=false:=rfl
theorem b1S:cN "int" (.bl b)=true:=rfl
theorem b0k:cN "int" (.int i)=true:=rfl
theorem b0h:cN "int" (.str x)=false:=rfl
theorem b0g:cN "int" (.tup ds)=false:=rfl
theorem b0j:cN "int" (.lst r ds)=false:=rfl
theorem a87 :cN "bool" .cD=false:=rfl
theorem b0l:cN "bool" (.bl b)=true:=rfl
theorem a89:cN "bool" (.int i)=false:=rfl
theorem a86:cN "bool" (.str x)=false:=rfl
theorem a85:cN "bool" (.tup ds)=false:=rfl
theorem a88:cN "bool" (.lst r ds)=false:=rfl
theorem b0c :cN "str" .cD=false:=rfl
theorem b1R:cN "str" (.bl b)=false:=rfl
theorem b0e:cN "str" (.int i)=false:=rfl
theorem b0b:cN "str" (.str x)=true:=rfl
theorem b0a:cN "str" (.tup ds)=false:=rfl
theorem b0d:cN "str" (.lst r ds)=false:=rfl
theorem a82 :cN "list" .cD=false:=rfl
theorem b0f:cN "list" (.bl b)=false:=rfl
theorem a84:cN "list" (.int i)=false:=rfl
theorem a81:cN "list" (.str x)=false:=rfl
theorem a80:cN "list" (.tup ds)=false:=rfl
theorem a83:cN "list" (.lst r ds)=true:=rfl
theorem a79 :cN "tuple" .cD=false:=rfl
theorem a8Z:cN "tuple" (.bl b)=false:=rfl
theorem a8b:cN "tuple" (.int i)=false:=rfl
theorem a78:cN "tuple" (.str x)=false:=rfl
theorem a77:cN "tuple" (.tup ds)=true:=rfl
theorem a8a:cN "tuple" (.lst r ds)=false:=rfl
theorem GB{α β:Type}{f:α->β}{xs:List α}{i:Int}(z:α)(h0:0<=i)(h:i<xs.length):gf (xs.map f) i=some (f (xs.getD i.toNat z)):=by
 unfold gf mJ
 rw [cP,if_pos h0,if_pos h]
 have:i.toNat<xs.length:=by omega
 simp [this]
theorem b0z:Wo (forL g F [] env) Q↔Q (.nx,env):=a0c
theorem a9s:Wo (forL g F (d::ds) env) Q↔Wo (g d env) λe=>Wo (F e) (Cb (λe=>Wo (forL g F ds e) Q) Q):=by
 rw [forL]
 cases g d env with
 | none=>simp [Wo_none]
 | some e =>
  rw [a0c]
  dsimp only
  cases F e with
  | none=>simp [Wo_none]
  | some p =>
   obtain ⟨fl,e2⟩:=p
   rw [a0c]
   cases fl<;>simp [Cb,a0c]
theorem b3i:D.ox .cD=true:=rfl
theorem b40:D.ox (.bl b)=false:=rfl
theorem b3k:D.ox (.int i)=false:=rfl
theorem b3h:D.ox (.str x)=false:=rfl
theorem b3g:D.ox (.tup ds)=false:=rfl
theorem b3j:D.ox (.lst r ds)=false:=rfl
theorem ZS(xs:List Int){i:Int}(h0:0<=i)(h1:i<xs.length)(h:∀v∈xs,Q (.int v))(e:ds=xs.map D.int:=by rfl):Wo (gf ds i) Q:=by
 have hi:i.toNat<xs.length:=by omega
 rw [e,GB 0 h0 h1,a0c,show xs.getD i.toNat 0=xs[i.toNat] by simp [hi]]
 exact h _ (pL hi)
theorem b89:Wo (g7 fi caps nt g fc fe env) Q↔Wo (fi env) λds=>Wo (lY caps env) λcs=>ds.length<=16777216/\Wo (l6 g fc fe ds (nN nt Sl.no++cs)) λrs=>Q (.ow rs):=by
 unfold g7
 rw [a0n]
 refine jR λds=>?_
 rw [a0n]
 refine jR λcs=>?_
 by_cases h:ds.length<=16777216
 .rw [if_pos h,a1z];exact ⟨λz=>⟨h,z⟩,λz=>z.2⟩
 .rw [if_neg h,Wo_none];exact ⟨gC,λz=>h z.1⟩
theorem b9b:Wo (lY [] env) Q↔Q []:=a0c
theorem b9a:Wo (lY (i::is) env) Q↔rX env[i]? λs=>Wo (lY is env) λcs=>Q (s::cs):=by
 rw [lY]
 cases h:env[i]? with
 | none=>simp [Wo_none,rX]
 | some s=>cases s<;>simp [Wo_none,rX,a1z]
theorem rep0{l:En}:nN 0 Sl.no++l=l:=rfl
theorem rep1{l:En}:nN 1 Sl.no++l=Sl.no::l:=rfl
theorem rep2{l:En}:nN 2 Sl.no++l=Sl.no::Sl.no::l:=rfl
theorem rep3{l:En}:nN 3 Sl.no++l=Sl.no::Sl.no::Sl.no::l:=rfl
theorem rep4{l:En}:nN 4 Sl.no++l=Sl.no::Sl.no::Sl.no::Sl.no::l:=rfl
theorem b5x:Wo (iN env) Q↔Q true:=a0c
theorem b5U:Wo (l6 g fc fe [] e) Q↔Q []:=a0c
theorem Wo_compC:Wo (l6 g fc fe (d::ds) e) Q↔Wo (g d e) λe1=>Wo (fc e1) λb =>
  (b=true->Wo (fe e1) λr=>Wo (l6 g fc fe ds e1) λrs=>Q (r.d::rs))/\(b=false->Wo (l6 g fc fe ds e1) Q):=by
 rw [l6,a0n]
 refine jR λe1=>?_
 rw [a0n]
 refine jR λb=>?_
 cases b
 .rw [if_neg vC];simp
 .rw [if_pos rfl,a0n];simp only [a0n,a0c];simp
theorem b8Y:Wo (fM f env) Q↔Wo (f env) λr=>Wo (jj r.d) λx=>Q x.2:=by
 unfold fM;rw [a0n];simp only [a1z]
theorem b8Z:Wo (mY h f env) Q↔Wo (f env) λds=>Wo (h ds) Q:=a0n
theorem b0A:Wo (Kt f g F env) Q↔Wo (f env) λds=>Wo (forL g F ds env) Q:=a0n
theorem comp_map{α:Type}(enc:α->D)(f:α->D)(P:En->Prop)(xs:List α)
  (h:∀a∈xs,∀e,P e->Wo (g (enc a) e) λe1=>P e1/\Wo (fc e1) λb=>b=true/\Wo (fe e1) λr=>r.d=f a):∀{e:En},P e->l6 g fc fe (xs.map enc) e=some (xs.map f):=by
 induction xs with
 | nil=>intro e _;rfl
 | cons a xs ih =>
  intro e he
  obtain ⟨e1,g1,p1,b,c1,rfl,r,f1,f2⟩:=h a jM e he
  rw [gS,l6,g1,F8,c1,F8,if_pos rfl,f1,F8,ih (λb hb=>h b (i0 _ hb)) p1,f2]
  rfl
theorem b87:Wo (BZ f env) Q↔Wo (f env) λx=>Wo (kM x.2) λns=>Q (.sh (.bl (ns.all id))):=by
 unfold BZ;rw [a0n];simp only [a1z]
theorem b8L:Wo (yK (ns.map D.int)) Q↔Q ns:=by rw [a9b,a0c]
theorem c1t:Wo (kM (ns.map D.bl)) Q↔Q ns:=by rw [b1g,a0c]
theorem b5B:Wo (yK []) Q↔Q []:=a0c
theorem b5C:Wo (yK (.int i::ds)) Q↔Wo (yK ds) λns=>Q (i::ns):=by
 show Wo ((yK ds).map (i::·)) Q↔_
 rw [a1z]
theorem b9c:Wo (kM []) Q↔Q []:=a0c
theorem b9d:Wo (kM (.bl i::ds)) Q↔Wo (kM ds) λns=>Q (i::ns):=by
 show Wo ((kM ds).map (i::·)) Q↔_
 rw [a1z]
theorem b5w{α:Type}{xs:List α}{x:α}:gf (xs++[x]) (-1)=some x:=by
 unfold gf mJ
 rw [if_neg (by omega),if_pos (by rw [jv,z6];omega),jv,z6]
 have:(-1+((xs.length+1:Nat):Int)).toNat=xs.length:=by omega
 rw [this]
 simp
theorem OE(I:Nat->En->Prop)(turn:∀n env,I n env->Wo (c env) λb=>(b=true->Wo (F env) (Cb (λe=>∃m,m<n/\I m e) Q))/\(b=false->Q (.nx,env))):
  ∀(fuel n:Nat) {env:En},n<fuel->I n env->Wo (Bt c F fuel env) Q
 | 0,n,env,h,_=>absurd h (M8 _)
 | fuel+1,n,env,h,hI=>by
  obtain ⟨b,e1,h1,h2⟩:=turn n env hI
  rw [Bt,e1]
  cases b with
  | false=>exact ⟨_,rfl,h2 rfl⟩
  | true =>
   obtain ⟨⟨fl,e2⟩,e3,h3⟩:=h1 rfl
   dsimp only
   rw [e3]
   cases fl with
   | nx=>obtain ⟨m,hm,Rq⟩:=h3;exact OE I turn fuel m (by omega) Rq
   | ct=>obtain ⟨m,hm,Rq⟩:=h3;exact OE I turn fuel m (by omega) Rq
   | bk=>exact ⟨_,rfl,h3⟩
   | rt r=>exact ⟨_,rfl,h3⟩
theorem b1k:Wo (NP m c F env) Q↔Wo (Bt c F (m env) env) Q:=ju
noncomputable def B0{α:Type}(xs:List α)(lo hi:Option Int):List α:=(xs.drop (HT.df xs.length 0 lo)).take (HT.df xs.length xs.length hi-HT.df xs.length 0 lo)
theorem b1a{α:Type}{f:α->D}(xs:List α)(lo hi:Option Int):cutD (xs.map f) lo hi=(B0 xs lo hi).map f:=by
 unfold cutD B0
 rw [cP,<-List.map_drop,<-List.map_take]
theorem ZJ{α:Type}(xs:List α){n:Nat}:B0 xs none (some (n:Int))=xs.take n:=by
 unfold B0
 rw [HT.Bx,HT.zb]
 simp only [Nat.sub_zero,List.drop_zero]
 by_cases h:n<=xs.length
 .rw [Nat.min_eq_left h]
 .rw [Nat.min_eq_right (by omega),X7 (cT _),X7 (by omega)]
theorem b5A:Wo (Bd [.int j]) Q↔Q (fS 0 j.toNat):=a0c
theorem b5z:Wo (NC [.int i,.int j]) Q↔Q (fS i (j-i).toNat):=a0c
def slQ(d:D)(l h:Option Int)(Q:Sl->Prop):Prop:=match d with
 | .tup ds=>Q (.sh (.tup (cutD ds l h)))
 | _=>False
theorem slQ_t:slQ (.tup ds) l h Q↔Q (.sh (.tup (cutD ds l h))):=ju
def Uk(i:Nat)(env:En)(a b:Sl)(Q:Fl×En->Prop):Prop:=match a,b with
 | .sh (.int m),.sh (.int n)=>Q (.nx,env.set i (.sh (.int (m+n))))
 | _,_=>False
theorem c02:Uk i env (.sh (.int m)) (.sh (.int n)) Q↔Q (.nx,env.set i (.sh (.int (m+n)))):=ju
theorem b8W:Wo (YM i j c f env) Q↔cC env[i]? λds=>Wo (forL (gN j) (eF c (bb f) fG) ds env) Q:=by
 unfold YM
 cases h:env[i]? with
 | none=>simp [Wo_none,cC]
 | some s=>cases s<;>simp [Wo_none,cC]
theorem b5S:Wo (Nv f env) Q↔Wo (f env) λr=>Wo (nR (some r)) λb=>Q (.sh (.int (if b=true then 1 else 0))):=by
 unfold Nv
 cases f env with
 | none=>simp [Wo,nR]
 | some r=>rw [a0c,a1z]
end DL
namespace DL
theorem Z1(h:-(10^250)<=i)(h2:i<=10^250)(h3:-(10^250)<=j)(h4:j<=10^250):MulC i j:=.inr (.inr ⟨⟨h,h2⟩,h3,h4⟩)
theorem b8g(h:0<j)(h2:j<=10^250):DivC i j:=⟨h,h2⟩
end DL
namespace DL
open PySem PySem.Spec PyProof.Rows L2
def Tr(h:Heap)(e T:Addr)(c:Value):Prop:=∃oe vs a0 oT ts,h.get? e=some oe/\(oe.cls=c/\vs[0]?=some a0)/\oe.data=.fields vs/\vs[1]?=some (.ref T)/\T≠e/\h.get? T=some oT/\oT.data=.fields ts/\ts[3]?=some .none
structure Lies(h0:Heap)(H:Hp)(h:Heap)(e:Addr)(c:Value):Prop where
 new:h0.get? e=none
 un:H e=none
 tr:∃T,h0.get? T=none/\H T=none/\Tr h e T c
theorem b4H(x:cM P w H h a o):∃u,h.get? a=some u:=by
 induction o with
 | lst xs=>obtain ⟨_,_,_,_,e⟩:=x;exact ⟨_,e⟩
 | tup xs=>obtain ⟨_,_,_,ob,e,_⟩:=x;exact ⟨_,e⟩
 | dK aD=>obtain ⟨_,_,_,_,o,_,_,e,_⟩:=x;exact ⟨_,e⟩
 | dT aD=>obtain ⟨_,_,_,_,o,_,_,e,_⟩:=x;exact ⟨_,e⟩
 | set S n=>obtain ⟨o,_,_,_,e,_⟩:=x;exact ⟨_,e⟩
 | tab q=>obtain ⟨_,e,_⟩:=x;exact ⟨_,e⟩
 | ins C dx fs=>obtain ⟨_,_,_,e,_⟩:=x;exact ⟨_,e⟩
 | own y=>obtain ⟨ob,e⟩:=x;exact ⟨_,e⟩
 | xd fs=>obtain ⟨_,⟨_,_,_,e,_⟩,_⟩:=x;exact ⟨_,e⟩
 | Ma lo hi=>obtain ⟨_,_,_,e⟩:=x;exact ⟨_,e⟩
 | jJ ob u ih=>obtain ⟨e,_⟩:=x;exact ⟨_,e⟩
 | CA ps=>exact ⟨_,x⟩
 | met f y=>exact ⟨_,x⟩
 | ext φ=>obtain ⟨_,⟨o,e⟩,_⟩:=x;exact ⟨_,e⟩
theorem YW(x:jc P w H h)(e:H a=some o):∃u,h.get? a=some u:=b4H (x a o e)
theorem b41(x:jc P w H h)(e:h.get? a=none):H a=none:=by
 cases q:H a with
 | none=>rfl
 | some o=>obtain ⟨u,z⟩:=YW x q;rw [e] at z;cases z
theorem Vy{h b0 b1:Heap}:∀{l:List Env},h.FunFrames b0 l->(∀L∈j8 l,b1.get? L=none)->h.FunFrames b1 l
 | [],_,_=>trivial
 | env::r,⟨k,⟨L,o,hf,_,ho,hd⟩,t⟩,hb =>
  ⟨k,⟨L,o,hf,hb L (by unfold j8;rw [Gb,hf];exact jM),ho,hd⟩,
   Vy t λL' m=>hb L' (by unfold j8 at m ⊢;rw [Gb,hf];exact i0 _ m)⟩
noncomputable def BN(h:Heap)(e T:Addr)(l:List Env):Heap:=SI h (e::T::j8 l)
theorem YU(t:Tr h e T c)(hl:h.FunFrames b0 l):∃a0,Heap.FlyingW (BN h e T l) l e c a0 h:=by
 obtain ⟨oe,vs,a0,oT,ts,he,hc,hd,h1,hT,FF,FE,h3⟩:=t
 refine ⟨a0,λb o q=>SG _ q,Kc _ jM,Vy hl λL m=>Kc _ (i0 _ (i0 _ m)),?_⟩
 exact ⟨oe,vs,T,oT,ts,he,hc,hd,h1,Kc _ (i0 _ jM),hT,FF,FE,h3⟩
structure Moved(H:Hp)(l:List Env)(ex:List Addr)(h h':Heap):Prop where
 un:Un (j8 l) ex H H h h'
theorem UW{h h1 h' b0 B:Heap}(hl:h.FunFrames b0 l)(hB:∀b o,h.get? b=some o->b∉j8 l->b∉ex->B.get? b=some o)(st:B.StaysIn h')(k1:∀b o,h.get? b=some o->h1.get? b=some o)(up:h1.UpToSlots h'):Un (j8 l) ex H H h h':=by
 have sl:∀b o,h.get? b=some o->b∈j8 l->∃s,h'.get? b=some { o with slots:=s }:=λb o e m=>by
  obtain ⟨_,o',jA,hd⟩:=hl.mem m
  rw [e] at jA;cases jA
  exact up b o (k1 b o e) hd
 refine ⟨λb o e _ n1 n2=>st b o (hB b o e n1 n2),λb o e _ m _=>sl b o e m,λ_ _ _ n _=>n,λb o e n2=>?_,λ_ _ q=>q,λ_ _ _ q=>q,λ_ ps q=>⟨#[],by rw [q];simp⟩⟩
 by_cases m:b∈j8 l
 .obtain ⟨s,q⟩:=sl b o e m;exact ⟨_,q⟩
 .exact ⟨o,st b o (hB b o e m n2)⟩
theorem Uy(a:Un fs [] H0 H h0 h)(b:Un fs2 MC H H' h h')(hf:∀x∈fs2,x∈fs\/h0.get? x=none)(hx:∀x∈MC,h0.get? x=none):Un fs [] H0 H' h0 h' where
 keep:=λc o q n hc _=>b.keep c o (a.keep c o q n hc (by simp)) (a.free c o q n (by simp)) (λz=>(hf c z).elim hc λy=>by rw [q] at y;cases y) λz=>by rw [hx c z] at q;cases q
 slot:=λc o q n hc _=>by
  obtain ⟨sl,e1⟩:=a.slot c o q n hc (by simp)
  have nx:c∉MC:=λz=>by rw [hx c z] at q;cases q
  obtain ⟨s2,e2⟩:=b.any e1 (a.free c o q n (by simp)) nx
  exact ⟨s2,e2⟩
 free:=λc o q n _=>by
  obtain ⟨o',e1⟩:=a.there c o q (by simp)
  exact b.free c o' e1 (a.free c o q n (by simp)) λz=>by rw [hx c z] at q;cases q
 there:=λc o q _=>by
  obtain ⟨o',e1⟩:=a.there c o q (by simp)
  exact b.there c o' e1 λz=>by rw [hx c z] at q;cases q
 iQ:=λc xs q=>b.iQ c xs (a.iQ c xs q)
 iF:=λc o u q=>b.iF c o u (a.iF c o u q)
 iR:=λc ps q=>by
  obtain ⟨m1,e1⟩:=a.iR c ps q
  obtain ⟨m2,e2⟩:=b.iR c _ e1
  exact ⟨m1++m2,by rw [e2,Kl]⟩
theorem U8{P:Program}{w:World}{H:Hp}{fs ex:List Addr}{h h':Heap}(ok:jc P w H h)(B:Heap)(hB:∀b o,h.get? b=some o->b∉fs->b∉ex->B.get? b=some o)(st:B.StaysIn h')(hf:∀b∈fs,H b=none)(hx:∀b∈ex,H b=none):jc P w H h':=λa o e=>by
 refine (ok a o e).oP (λb u hb q=>st b u (hB b u q ?_ ?_)) (λ_ _ _ q=>q) λ_ _ q=>q
 .intro z
  rcases hb with rfl | hb
  .rw [hf _ z] at e;cases e
  .rw [hf _ z] at hb;cases hb
 .intro z
  rcases hb with rfl | hb
  .rw [hx _ z] at e;cases e
  .rw [hx _ z] at hb;cases hb
theorem Zy{P:Program}{w:World}{H:Hp}{h0 h h' b0 B:Heap}{l l':List Env}{ex:List Addr}{e:Addr}{c a0:Value}(ok:jc P w H h)(hl:h.FunFrames b0 l)(hB:∀b o,h.get? b=some o->b∉j8 l->b∉ex->B.get? b=some o)(fl:Heap.FlyingW B l' e c a0 h')
  (up:∀b o,h.get? b=some o->b∈j8 l->∃sl,h'.get? b=some { o with slots:=sl })(hf:∀b∈j8 l,H b=none)(hx:∀b∈ex,H b=none)(t0:∀b o,h0.get? b=some o->∃o',h.get? b=some o')(x0:∀b∈ex,h0.get? b=none):
  ∃T,h0.get? T=none/\H T=none/\Tr h' e T c:=by
 obtain ⟨_,_,_,oe,vs,T,oT,ts,he,hc,hd,h1,hn,hT,FF,FE,h3⟩:=fl
 have key:∀o,h.get? T=some o->T∈ex:=λo q=>by
  by_cases m:T∈j8 l
  .exfalso
   obtain ⟨_,o',jA,Mo⟩:=hl.mem m
   rw [q] at jA;cases jA
   obtain ⟨sl,q'⟩:=up T o q m
   rw [FF] at q';cases q'
   exact Mo ts FE
  .by_cases n:T∈ex
   .exact n
   .have:=hB T o q m n
    rw [hn] at this;cases this
 refine ⟨T,?_,?_,oe,vs,a0,oT,ts,he,hc,hd,h1,hT,FF,FE,h3⟩
 .cases q:h0.get? T with
  | none=>rfl
  | some o =>
   obtain ⟨o',q'⟩:=t0 T o q
   rw [x0 T (key o' q')] at q;cases q
 .cases q:H T with
  | none=>rfl
  | some o =>
   obtain ⟨u,q'⟩:=YW ok q
   rw [hx T (key u q')] at q;cases q
noncomputable def v3(P:Program)(w:World):ud:=λouter H s E e s'=>∃ea c H',e=.ref ea/\s'.os=s.os/\AllBare s'.gens/\Un (j8 outer) [] H H' s.heap s'.heap/\jc P w H' s'.heap/\Lies s.heap H' s'.heap ea c/\E c none H'
def Xk(X:Cx)(W:L2.St->Hp->Value->Prop):Prop:=∀(pins:List (Addr×Obj)) (σ:L2.St) (H:Hp) (s:Shared) (e:Value) (s':Shared),Inv X pins σ H s->v3 X.prog X.w X.stack H s (λc _ H'=>W σ H' c) e s'->X.xe e s'
def Xr(X:Cx)(W:L2.St->Hp->Value->Prop):Prop:=∀(pins:List (Addr×Obj)) (σ:L2.St) (H:Hp) (s:Shared) (h':Heap) (e:Addr) (c:Value) (vs:List Value),Inv X pins σ H s->Heap.MadeExcOf s.heap h' e c vs->W σ H c->X.xe (.ref e) { s with heap:=h' }
section
variable {P:Program}{w:World}{K:aJ}{mg:Str->Option Value}{base:Heap}{N:List Str}{qual:Str}{scope:Scope}{f:Addr}{cd:Value}{A:Around}{outer:List Env}{s:Shared}{H:Hp}{E:XK}
theorem NZ{X:Cx}{pins:List (Addr×Obj)}{σ:L2.St}{H':Hp}{s1:Shared}(I:Inv X pins σ H' s1)(hx:X.ex=[]){a:Addr}(h:s1.heap.get? a=none):X.dF.heap.get? a=none:=by
 cases q:X.dF.heap.get? a with
 | none=>rfl
 | some o =>
  obtain ⟨o',e⟩:=I.base.there a o q (by rw [hx];simp)
  rw [h] at e;cases e
theorem G9:Xk (iX (v3 P w) P w K mg base N qual scope f cd A outer s H E) λ_ H' c=>E c none H':=by
 intro pins σ H1 s1 e s' I hc
 obtain ⟨ea,c,H',rfl,os,bare,un,bE,⟨new,DV,T,DP,hT,tr⟩,hE⟩:=hc
 have J:Inv (iX (v3 P w) P w K mg base N qual scope f cd A outer s H E) pins σ H' s':=I.zY os un bE bare (by simp)
 have hl:=J.stack
 have iM:=J.kn
 obtain ⟨a0,fl⟩:=YU tr hl
 show wpAny _ _ (leaving _ _) _ _ s'
 have ne:s.heap.get? ea=none:=NZ I rfl new
 have nT:s.heap.get? T=none:=NZ I rfl DP
 have hB:∀b o,s'.heap.get? b=some o->b∉j8 (iX (v3 P w) P w K mg base N qual scope f cd A outer s H E).stack->b∉[ea,T]->(BN s'.heap ea T (iX (v3 P w) P w K mg base N qual scope f cd A outer s H E).stack).get? b=some o:=λb o q n1 n2 =>
  MX _ q λz=>by
   rcases ej.mp z with z | z
   .exact n2 (by simp [z])
   .rcases ej.mp z with z | z
    .exact n2 (by simp [z])
    .exact n1 z
 refine wpAny_leaves_onW (outer:=outer) J.ok.frames rfl fl λh' Ee up=>?_
 have U:=UW (H:=H') hl hB Ee.1 (λ_ _ q=>q) up
 have hx:∀b∈[ea,T],H' b=none:=λb z=>by
  rcases ej.mp z with z | z
  .rw [z];exact DV
  .rw [nP.mp z];exact hT
 have x0:∀b∈[ea,T],s.heap.get? b=none:=λb z=>by
  rcases ej.mp z with z | z
  .rw [z];exact ne
  .rw [nP.mp z];exact nT
 refine ⟨ea,c,H',rfl,J.os,bare,?_,U8 bE _ hB Ee.1 iM hx,⟨ne,DV,?_⟩,hE⟩
 .refine Uy J.base U (λx z=>?_) x0
  rcases ej.mp (J.ji x z) with z | z
  .exact .inr (by rw [z];exact Nt J.ok.above)
  .exact .inl z
 .exact Zy bE hl hB Ee (λb o q m=>U.any q (iM b m) λz=>by
    obtain ⟨_,o',jA,Mo⟩:=hl.mem m
    obtain ⟨oe,vs,a0',oT,ts,he,_,hd,_,_,FF,FE,_⟩:=tr
    rcases ej.mp z with z | z
    .rw [z,he] at jA;cases jA;exact Mo vs hd
    .rw [nP.mp z,FF] at jA;cases jA;exact Mo ts FE) iM hx (λb o q=>J.base.there b o q (by show b∉[];simp)) x0
theorem G8:Xr (iX (v3 P w) P w K mg base N qual scope f cd A outer s H E) λ_ H' c=>E c none H':=by
 intro pins σ H1 s1 h1 ea c vs J hx hE
 have hl:=J.stack
 have iM:=J.kn
 have ne:s.heap.get? ea=none:=NZ J rfl hx.new
 have hB:∀b o,s1.heap.get? b=some o->b∉j8 (iX (v3 P w) P w K mg base N qual scope f cd A outer s H E).stack->b∉([]:List Addr)->(SI s1.heap (j8 (iX (v3 P w) P w K mg base N qual scope f cd A outer s H E).stack)).get? b=some o:=λb o q n1 _=>MX _ q n1
 show wpAny _ _ (leaving _ _) _ _ _
 refine wpAny_leaves_madeW (s:={ s1 with heap:=h1 }) (outer:=outer) J.ok.frames rfl (λb o q=>SG _ q) (Vy hl λL m=>Kc _ m) hx λh' t Ee _ _ up=>?_
 have U:=UW (H:=H1) hl hB Ee.1 hx.keeps up
 refine ⟨ea,c,H1,rfl,J.os,J.bare,?_,U8 J.bE _ hB Ee.1 iM (by simp),⟨ne,b41 J.bE hx.new,?_⟩,hE⟩
 .refine Uy J.base U (λx z=>?_) (by simp)
  rcases ej.mp (J.ji x z) with z | z
  .exact .inr (by rw [z];exact Nt J.ok.above)
  .exact .inl z
 .exact Zy J.bE hl hB Ee (λb o q m=>U.any q (iM b m) (by simp)) iM (by simp) (λb o q=>J.base.there b o q (by show b∉[];simp)) (by simp)
end
end DL
namespace DL
open PySem PySem.Spec PyProof.Rows L2
noncomputable def L6(K:aJ)(mg:Str->Option Value)(n:Nat)(ρ:List D->Option Str):Sp:=λvs H _ E=>∃(O:Addr->Prop) (ds:List D) (nm:Str),Bq K O H/\aO K O H vs ds/\vs.length=n/\ρ ds=some nm/\∀c H',mg nm=some c->aE H H'->E c none H'
def EX(X:Cx)(W:L2.St->Hp->Value->Prop)(e:Expr)(r:En->Option Str):Prop:=
 ∃t:TE,PE X e t/\∀(O:Addr->Prop) (B:Hp) (σ:L2.St) (H:Hp) (env:En) (nm:Str) (Q:VK),Rel X.K O B σ H env->r env=some nm->(∀c H',X.mg nm=some c->aE H H'->W σ H' c)->t σ H Q
noncomputable abbrev RF:=En->Option (Str×En)
def XV(X:Cx)(W:L2.St->Hp->Value->Prop)(st:Stmt)(r:RF):Prop:=
 ∃t:TS,PS X st t/\∀(O:Addr->Prop) (B:Hp) (σ:L2.St) (H:Hp) (env:En) (nm:Str) (af:En) (D:Ends),Rel X.K O B σ H env->r env=some (nm,af) ->
  (∀aK H' c,X.mg nm=some c->Rel X.K O B aK H' af->Gd σ env H aK af H'->W aK H' c)->t D σ H
def Cq(X:Cx)(W:L2.St->Hp->Value->Prop)(st:List Stmt)(r:RF):Prop:=
 ∃t:TS,pO X st t/\∀(O:Addr->Prop) (B:Hp) (σ:L2.St) (H:Hp) (env:En) (nm:Str) (af:En) (D:Ends),Rel X.K O B σ H env->r env=some (nm,af) ->
  (∀aK H' c,X.mg nm=some c->Rel X.K O B aK H' af->Gd σ env H aK af H'->W aK H' c)->t D σ H
section
variable {X:Cx}{W:L2.St->Hp->Value->Prop}{e a b c:Expr}{es:List Expr}{st:Stmt}{rest sa sb:List Stmt}{F G:SF}{r r':RF}{re:En->Option Str}{fa:En->Option Sl}{ga:En->Option Bool}{fs:En->Option (List D)}{pos p au np:Pos}
noncomputable def DF:RF:=λ_=>none
noncomputable def Cf:SF:=λ_=>none
theorem EW:SV X st Cf:=⟨λ_ _ _=>False,λ_ _ _ _ _ _ h=>h.elim,λ_ _ _ _ _ _ _ _ _ e _=>by cases e⟩
theorem G6:XV X W st DF:=⟨λ_ _ _=>False,λ_ _ _ _ _ _ h=>h.elim,λ_ _ _ _ _ _ _ _ _ e _=>by cases e⟩
theorem EV.jd(h:EV X.jd e fa):EV X e fa:=let ⟨t,p,k⟩:=h;⟨t,p.jd,k⟩
theorem TV.jd(h:TV X.jd e ga):TV X e ga:=let ⟨t,p,k⟩:=h;⟨t,p.jd,k⟩
theorem oF.jd(h:oF X.jd rest F):oF X rest F:=let ⟨t,p,k⟩:=h;⟨t,p.jd,k⟩
theorem SV.jd(h:SV X.jd st F):SV X st F:=let ⟨t,p,k⟩:=h;⟨t,λpins s σ H D I hw=>lL (p pins s σ H D (I.jU _) hw) (λ_ _ q=>q.eI) λ_ _ z=>gC z,k⟩
theorem AV.jd(h:AV X.jd es fs):AV X es fs:=let ⟨t,p,k⟩:=h;⟨t,λpo pins s σ H Q I hw=>lL (p po pins s σ H Q (I.jU _) hw) (λ_ _ ⟨v,H',I',r,q⟩=>⟨v,H',I'.eI,r,q⟩) λ_ _ z=>gC z,k⟩
theorem b6H:Cq X W [] DF:=⟨λ_ _ _=>False,λ_ _ _ _ _ _ h=>h.elim,λ_ _ _ _ _ _ _ _ _ e _=>by cases e⟩
noncomputable def zf(r:RF)(F:SF)(r':RF):RF:=λenv=>match r env with
 | some x=>some x
 | none=>match F env with
  | some (.nx,env1)=>r' env1
  | _=>none
theorem Uo(h:XV X W st r):Cq X W [st] r:=let ⟨t,p,k⟩:=h;⟨t,Z8 p,k⟩
theorem b4a(h:XV X W st r)(hv:SV X st F)(h2:Cq X W rest r'):Cq X W (st::rest) (zf r F r'):=by
 obtain ⟨t,p,k⟩:=h
 obtain ⟨v,pv,kv⟩:=hv
 obtain ⟨u,p',k'⟩:=h2
 refine ⟨λD σ H=>t { D with nx:=u D } σ H\/v { D with nx:=u D } σ H,λpins s σ H D I hw=>?_,λO B σ H env nm af D R e q=>?_⟩
 .rcases hw with hw | hw
  .exact Cm p p' pins s σ H D I hw
  .exact Cm pv p' pins s σ H D I hw
 .unfold zf at e
  cases hr:r env with
  | some x =>
   rw [hr] at e
   obtain rfl:=gY e
   exact .inl (k O B σ H env nm af _ R hr q)
  | none =>
   rw [hr] at e
   cases hF:F env with
   | none=>rw [hF] at e;cases e
   | some x =>
    obtain ⟨fl,env1⟩:=x
    rw [hF] at e
    cases fl with
    | nx=>exact .inr (kv O B σ H env .nx env1 _ R hF λaK H' R' g'=>k' O B aK H' env1 nm af D R' e λdM H2 c hc R2 g2=>q dM H2 c hc R2 (g'.trans g2))
    | bk=>cases e
    | ct=>cases e
    | rt z=>cases e
noncomputable def Fs(c:En->Option Bool)(r r':RF):RF:=λenv=>match c env with
 | some true=>r env
 | some false=>r' env
 | none=>none
theorem G7(hc:TV X c ga)(ha:Cq X W sa r)(hb:Cq X W sb r'):XV X W (.If c sa sb pos) (Fs ga r r'):=by
 obtain ⟨tc,pc,kc⟩:=hc
 obtain ⟨t,p,k⟩:=ha
 obtain ⟨u,p',k'⟩:=hb
 refine ⟨_,YJ pc p p',λO B σ H env nm af D R e q=>?_⟩
 unfold Fs at e
 cases h:ga env with
 | none=>rw [h] at e;cases e
 | some x =>
  rw [h] at e
  refine kc O B σ H env x _ R h λH1 s1=>?_
  cases x with
  | true =>
   rw [if_pos rfl]
   exact k O B σ H1 env nm af D (R.grow s1) e λdM H2 c hc R2 g2=>q dM H2 c hc R2 ((Gd.refl s1).trans g2)
  | false =>
   rw [if_neg vC]
   exact k' O B σ H1 env nm af D (R.grow s1) e λdM H2 c hc R2 g2=>q dM H2 c hc R2 ((Gd.refl s1).trans g2)
noncomputable def rE(re:En->Option Str):RF:=λenv=>(re env).map λnm=>(nm,env)
theorem b6I(h:EX X W e re)(hs:swapsWith e none pos.line X.env=pure false:=by rfl):XV X W (.Expr e pos) (rE re):=by
 obtain ⟨t,p,k⟩:=h
 refine ⟨_,Bi p hs,λO B σ H env nm af D R e q=>?_⟩
 obtain ⟨n1,e1,e2⟩:=map_some e
 cases e2
 exact k O B σ H env nm _ R e1 λc H' hc s=>q σ H' c hc (R.grow s) (Gd.refl s)
noncomputable def TU(n:Nat)(ρ:List D->Option Str)(fs:En->Option (List D)):En->Option Str:=λenv=>(fs env).bind λds=>if ds.length=n then ρ ds else none
theorem HH{k:Nat}{f:Addr}{fd:FuncData}{ps:List Str}{sp:Sp}{pins:List (Addr×Obj)}{σ:L2.St}{H:Hp}{s:Shared}{Q:VK}{us:List Value}{vs:List V}(F:cx X.prog X.w X.K X.mg X.base (v3 X.prog X.w) k f fd ps sp)(hr:cF k X.A)(hb:Binds X.K fd ps [])(hx:Xk X W)
  (I:Inv X pins σ H s)(rv:aF vs us)(h:sp (vs++[]) H Q λc _ H'=>W σ H' c):wpAny (model X.prog X.w) X.A (call (.ref f) us) (EP X pins σ Q) X.xe s:=by
 have r2:aF (vs++[]) (us++[]):=rv.append .nil
 have hl:(us++[]).length=ps.length:=by rw [<-r2.length];exact F.len _ _ _ _ h
 refine FK (B4 (F.run X.A X.stack s H ⟨us,[]⟩ (us++[]) (vs++[]) Q _ hr I.k9 (hb s us I.mf hl) r2 h) λz s' hq=>?_)
 cases z with
 | error e=>exact hx pins σ H s e s' I hq
 | ok fl =>
  cases fl with
  | ret u=>exact I.after hq
  | next=>exact gC hq
  | brk=>exact gC hq
  | cont=>exact gC hq
theorem b70{k:Nat}{f:Addr}{fd:FuncData}{ps:List Str}{ρ:List D->Option Str}{x:Str}(F:cx X.prog X.w X.K X.mg X.base (v3 X.prog X.w) k f fd ps (L6 X.K X.mg ps.length ρ))(hr:cF k X.A)(hg:Gl X x)(hm:X.mg x=some (.ref f))(hk:yz X.K (.ref f)=true)(hb:Binds X.K fd ps [])
  (hx:Xk X W)(ha:AV X (e::es) fs)(hX:(x==("__debug__":Str))=false:=by decide)(he:starEach (e::es) X.env=(false,eval e X.env)::starEach es X.env:=by rfl)(gm:(backTo pos (starEach es X.env)).any (·.1)=false:=by rfl):
  EX X W (.Call (.Name x p) (e::es) [] pos) (TU ps.length ρ fs):=by
 obtain ⟨t,pt,ka⟩:=ha
 refine ⟨λσ H Q=>t σ H λvs H1=>L6 X.K X.mg ps.length ρ (vs++[]) H1 Q λc _ H'=>W σ H' c,λpins s σ H Q I h=>?_,λO B σ H env nm Q R e q=>?_⟩
 .refine Kk (Df I hg hm ?_ hX)
  refine Kj (h₀:=X.base) I.ok.mod.zy hk (cn (pt pos pins s σ H _ I h) λus s1 ⟨vs,H1,I1,r,q⟩=>⟨I1.mf,?_⟩) he gm
  exact HH F hr hb hx I1 r q
 .obtain ⟨ds,e1,e2⟩:=bind_some e
  refine ka O B σ H env ds _ R e1 λvs H1 s1 r1=>?_
  by_cases hn:ds.length=ps.length
  .rw [if_pos hn] at e2
   rw [vz]
   exact ⟨OO O σ env,ds,nm,(R.grow s1).dm,r1,by rw [r1.length,hn],e2,λc H' hc s=>q c H' hc (s1.trans s)⟩
  .rw [if_neg hn] at e2;cases e2
end
noncomputable abbrev YF:List Value:=[.type "ValueError",.type "Exception",.type "BaseException",.type "object"]
structure LW(K:aJ)(C:Addr):Prop where
 ob:∃(bm:List Value) (N:Addr) (nm q:Str) (bs:List Value) (hdct:Bool) (sn:List Str) (sub:List Value) (ab:Bool) (col:Option Bool) (dd:Option Addr) (k0 k1 k2 k3 k5:Option Value),K.lookup C=some (excClassObj nm q C N bs bm hdct sn sub ab col dd k0 k1 k2 k3 k5 "ValueError.__new__") /\
  PySem.W.nsOkIn K N=true/\kf K N "__init__" = some none/\PySem.W.tailIn K YF bm=true
section
variable {X:Cx}{W:L2.St->Hp->Value->Prop}{e:Expr}{es:List Expr}{fs:En->Option (List D)}{pos p au np:Pos}{x:Str}{C:Addr}
noncomputable def NN(nm:Str)(fs:En->Option (List D)):RF:=λenv=>(fs env).bind λds=>if ds.length<=16777216 then some (nm,env) else none
theorem b4b(hc:X.calm=true)(hx:Xr X W)(ec:LW X.K C)(hg:Gl X x)(hm:X.mg x=some (.ref C))(ha:AV X (e::es) fs)(hX:(x==("__debug__":Str))=false:=by decide)
  (he:starEach (e::es) X.env=(false,eval e X.env)::starEach es X.env:=by rfl)(gm:(backTo au (starEach es X.env)).any (·.1)=false:=by rfl):XV X W (.Raise (some (.Call (.Name x np) (e::es) [] au)) none pos) (NN x fs):=by
 obtain ⟨t,pt,ka⟩:=ha
 refine ⟨λD σ H=>t σ H λvs H1=>vs.length<=sizeLine/\W σ H1 (.ref C),λpins s σ H D I h=>?_,λO B σ H env nm af D R e q=>?_⟩
 .obtain ⟨bm,N,nm,q,bs,hdct,sn,sub,ab,col,dd,k0,k1,k2,k3,k5,lk,n1,n2,tl⟩:=ec.ob
  have T:=Xu I.mf tl
  refine wpAny_Raise_call_subT (C:=C) (nm:=nm) (q:=q) (N:=N) (bs:=bs) (bm:=bm) (hdct:=hdct) (sn:=sn) (sub:=sub) (ab:=ab) (col:=col) (dd:=dd) (k0:=k0) (k1:=k1) (k2:=k2) (k3:=k3) (k5:=k5)
   PySem.F.excBase_ValueError (mN:=X.base.nsMap N) (T.hasType (by decide +kernel)) (I.ok.hd hc) (by rw [he];show (false||(backTo au (starEach es X.env)).any (·.1))=false;rw [gm];rfl) (PySem.W.nsMap_none_of_in I.mod.zy n1 n2) (Df I hg hm ⟨rfl,?_⟩ hX)
  have h1:=pt au pins s σ H _ I h
  rw [he] at h1 ⊢
  refine XD (lL h1 (λus s2 ⟨vs,H2,I2,r2,hl,q2⟩=>?_) λ_ _ y=>y)
  exact ⟨rfl,by show us.length<=_;rw [<-r2.length];exact hl,I2.mf _ _ lk,(Heap.Ns.of_isNs (PySem.W.isNs_of_in I2.mod.zy n1)).keeps I2.bk,Xu I2.mf tl,λh' ea hm=>hx pins σ H2 s2 h' ea _ _ I2 hm q2⟩
 .obtain ⟨ds,e1,e2⟩:=bind_some e
  obtain ⟨hl,e3⟩:=jg e2
  cases e3
  exact ka O B σ H env ds _ R e1 λvs H1 s1 r1=>⟨by rw [r1.length,lZ];exact hl,q σ H1 _ hm (R.grow s1) (Gd.refl s1)⟩
end
section
variable {P:Program}{w:World}{K:aJ}{mg:Str->Option Value}{base:Heap}
noncomputable def BA(r:RF)(N:Nat)(ds:List D):Option Str:=(r (lg N ds)).map (·.1)
theorem Jy{x qual:Str}{st:Stmt}{f:Addr}{fd:FuncData}{N ps:List Str}{k:Nat}{r:RF}(Fn:vZ K x qual st f fd)(S:cz N ps (eS st))
  (cb:∀(X:Cx) (W:L2.St->Hp->Value->Prop),X.prog=P->X.w=w->X.K=K->X.mg=mg->X.base=base->Fx X.jd N (eS st) k->Xk X W->Xr X W->Cq X W (jD st) r):cx P w K mg base (v3 P w) (k+1) f fd ps (L6 K mg ps.length (BA r N.length)):=by
 obtain ⟨oc,od,kV,doc,pm,an,fE,ct,BC,rfl,lk,cE⟩:=Fn.ex
 refine Yx lk cE S (λvs H Q E h=>?_) λA outer s H vs Q E hr AI=>?_
 .obtain ⟨O,ds,nm,_,_,hl,_⟩:=h
  exact hl
 obtain ⟨O,ds,nm,hO,hi,hl,e,q⟩:=AI
 obtain ⟨t,p,kk⟩:=cb (iX (v3 P w) P w K mg base N qual (eS st) f fE A outer s H E) (λ_ H' c=>E c none H') rfl rfl rfl rfl rfl ⟨rfl,rfl,rfl,λ_ _=>rfl,B7,hr,S.nd,λ_=>⟨rfl,rfl,rfl⟩⟩ G9 G8
 obtain ⟨⟨nm',af⟩,e1,e2⟩:=map_some e
 cases e2
 exact ⟨t,p,kk O H (start N vs) H (lg N.length ds) nm' af _ (Ll hO hi) e1 λaK H' c hc R' _=>q c H' hc R'.same⟩
end
def Xz(P:Program)(w:World)(K:aJ)(mg:Str->Option Value)(base:Heap)(x:Str)(st:Stmt)(ps:List Str)(j:Nat)(ρ:List D->Option Str):Prop:=∃f fd,Def K mg x st ps f fd/\cx P w K mg base (v3 P w) j f fd ps (L6 K mg ps.length ρ)
theorem Jv{P:Program}{w:World}{K:aJ}{mg:Str->Option Value}{base:Heap}{x:Str}{st:Stmt}{f:Addr}{fd:FuncData}{N ps:List Str}{k:Nat}{r:RF}(D':Def K mg x st ps f fd)
  (cb:∀(X:Cx) (W:L2.St->Hp->Value->Prop),Sx X P w K mg base->Fx X.jd N (eS st) k->Xk X W->Xr X W->Cq X W (jD st) r)(S:cz N ps (eS st):=by exact ⟨rfl,rfl,rfl,by decide +kernel,rfl,by decide +kernel,by decide +kernel⟩):Xz P w K mg base x st ps (k+1) (BA r N.length):=
 ⟨f,fd,D',Jy D'.fn S λX W e1 e2 e3 e4 e5=>by subst e1 e2 e3 e4 e5;exact cb X W (.mk X)⟩
theorem PD{X X':Cx}{x:Str}{st:Stmt}{ps:List Str}{j:Nat}{ρ:List D->Option Str}(e1:X'.prog=X.prog)(e2:X'.w=X.w)(e3:X'.K=X.K)(e4:X'.mg=X.mg)(e5:X'.base=X.base)(O:Xz X.prog X.w X.K X.mg X.base x st ps j ρ):Xz X'.prog X'.w X'.K X'.mg X'.base x st ps j ρ:=by
 rw [e1,e2,e3,e4,e5];exact O
theorem Fx.xcl{X:Cx}{W:L2.St->Hp->Value->Prop}{N:List Str}{sc:Scope}{k j:Nat}{full:Bool}{x:Str}{st:Stmt}{ps:List Str}{ρ:List D->Option Str}{e:Expr}{es:List Expr}{fs:En->Option (List D)}{p pos:Pos}(h:Fx X.jd N sc k full)(O:Xz X.prog X.w X.K X.mg X.base x st ps j ρ)(hx:Xk X W)(ha:AV X (e::es) fs)(hj:j<=k:=by decide)(hg:sc.names.lookup x=some .globalImplicit:=by rfl)(hX:(x==("__debug__":Str))=false:=by decide)(he:starEach (e::es) X.env=(false,eval e X.env)::starEach es X.env:=by rfl)(gm:(backTo pos (starEach es X.env)).any (·.1)=false:=by rfl):
  EX X W (.Call (.Name x p) (e::es) [] pos) (TU ps.length ρ fs):=by
 obtain ⟨f,fd,D',F⟩:=O
 exact b70 F (h.room.mono hj) (h.g hg) D'.m D'.fn.kp D'.bd hx ha hX he gm
end DL
namespace DL
open PySem PySem.Spec PyProof.Rows L2
section
variable {X:Cx}{pins:List (Addr×Obj)}{σ:L2.St}{H:Hp}{s:Shared}{h':Heap}
theorem b7O(J:Inv X pins σ H s)(hx:X.ex=[])(U:Un (j8 X.stack) MC H H s.heap h')(bE:jc X.prog X.w H h')
  (n0:∀b∈MC,X.dF.heap.get? b=none/\b≠X.env.locals/\(∀x c,X.env.cells.lookup x=some c->c≠b)/\∀p∈X.pn++pins,p.1≠b):Inv X pins σ H { s with heap:=h' }:=by
 have cellK:∀x c v,X.env.cells.lookup x=some c->s.heap.IsCell c v->h'.IsCell c v:=λx c v e ⟨o,ho,hd⟩=>by
  obtain ⟨sl,q⟩:=U.any ho (J.d9 x c e) λz=>(n0 c z).2.2.1 x c e rfl
  exact ⟨_,q,hd⟩
 have hb:=J.base
 rw [hx] at hb
 refine ⟨J.ok,J.os,J.bare,?_,?_,λx c e=>?_,J.free,J.d9,λp hp=>?_,bE,J.len⟩
 .rw [hx]
  refine Uy hb U (λx z=>?_) λb z=>(n0 b z).1
  rcases ej.mp (J.ji x z) with z | z
  .exact .inr (by rw [z];exact Nt J.ok.above)
  .exact .inl z
 .obtain ⟨m,⟨o,es,ep,ho,r⟩,hl⟩:=J.loc
  obtain ⟨sl,q⟩:=U.any ho J.free λz=>(n0 _ z).2.1 rfl
  refine ⟨m,⟨_,es,ep,q,r⟩,λi x v e1 e2 e3=>?_⟩
  obtain ⟨u,ru,l⟩:=hl i x v e1 e2 e3
  refine ⟨u,ru,?_⟩
  rcases l with l | ⟨k,c,e,z⟩
  .exact .inl l
  .exact .inr ⟨k,c,e,cellK x c _ e z⟩
 .obtain ⟨v,z⟩:=J.cell x c e
  exact ⟨v,cellK x c v e z⟩
 .obtain ⟨e,n,ne,nf,d⟩:=J.pin p hp
  exact ⟨U.keep p.1 p.2 e n (λz=>(ej.mp (J.ji _ z)).elim ne nf) λz=>(n0 p.1 z).2.2.2 p hp rfl,n,ne,nf,d⟩
theorem b3m(J:Inv X pins σ H s)(h1:H e=none)(h0:X.dF.heap.get? e=none)(h2:m5 e C s.heap)(h3:e≠X.env.locals)(h4:∀x c,X.env.cells.lookup x=some c->c≠e)(h5:∀p∈X.pn++pins,p.1≠e):
  Inv X pins σ (upd H e (.ext (m5 e C))) s:=by
 have ne:∀{b:Addr} {u:HO},H b=some u->b≠e:=λq=>qt q h1
 refine ⟨J.ok,J.os,J.bare,⟨J.base.keep,J.base.slot,λb o q n hx=>?_,J.base.there,λb xs q=>?_,λb o u q=>?_,λb ps q=>?_⟩,J.loc,J.cell,?_,λx c q=>?_,λp hp=>?_,λb u q=>?_,J.len⟩
 .rw [fm (λz=>by rw [z,h0] at q;cases q)];exact J.base.free b o q n hx
 .have:=J.base.iQ b xs q;rw [fm (ne this)];exact this
 .have:=J.base.iF b o u q;rw [fm (ne this)];exact this
 .obtain ⟨m,q'⟩:=J.base.iR b ps q;exact ⟨m,by rw [fm (ne q')];exact q'⟩
 .rw [fm (l5 h3)];exact J.free
 .rw [fm (h4 x c q)];exact J.d9 x c q
 .obtain ⟨a,n,r⟩:=J.pin p hp
  exact ⟨a,by rw [fm (h5 p hp)];exact n,r⟩
 .by_cases hb:b=e
  .subst hb
   rw [lM] at q;cases q
   obtain ⟨o,ho,hc⟩:=h2
   exact ⟨⟨o,ho,hc⟩,⟨o,ho⟩,λg1 g2 ⟨o1,e1,e2⟩ k=>⟨o1,k o1 e1,e2⟩⟩
  .rw [fm hb] at q
   exact (J.bE b u q).oP (λ_ _ _ z=>z) (λc _ _ z=>by rw [fm (ne z)];exact z) λc xs z=>by rw [fm (ne z)];exact z
noncomputable abbrev Jg(X:Cx)(v:Value):Cx:={ X with A:=X.A.mark (some v),calm:=false,xe:=λ_ _=>False }
theorem b03(J:Inv X pins σ H s)(v:Value):Inv (Jg X v) pins σ H s:=
 ⟨⟨J.ok.mod,J.ok.kind,J.ok.glob,J.ok.blt,J.ok.above,J.ok.inj,J.ok.has,J.ok.Ei,λz=>(nomatch z),J.ok.frames,J.ok.Fm,J.ok.MB,J.ok.bs,J.ok.vG,J.ok.rh,J.ok.uZ,J.ok.jX,J.ok.AO⟩,J.os,J.bare,J.base,J.loc,J.cell,J.free,J.d9,J.pin,J.bE,J.len⟩
theorem Oy(ok:X.Ok)(J:Inv (Jg X v) pins σ H s):Inv X pins σ H s:=⟨ok,J.os,J.bare,J.base,J.loc,J.cell,J.free,J.d9,J.pin,J.bE,J.len⟩
noncomputable abbrev Mb(X:Cx)(pins:List (Addr×Obj))(E:Value->Shared->Prop):Cx:={ X with xe:=E,pn:=X.pn++pins }
theorem b7N(J:Inv X pins σ H s)(E:Value->Shared->Prop):Inv (Mb X pins E) [] σ H s:=
 ⟨⟨J.ok.mod,J.ok.kind,J.ok.glob,J.ok.blt,J.ok.above,J.ok.inj,J.ok.has,J.ok.Ei,J.ok.hd,J.ok.frames,J.ok.Fm,J.ok.MB,J.ok.bs,J.ok.vG,J.ok.rh,J.ok.uZ,J.ok.jX,J.ok.AO⟩,J.os,J.bare,J.base,J.loc,J.cell,J.free,J.d9,λp hp=>J.pin p (by simpa using hp),J.bE,J.len⟩
theorem b3l(ok:X.Ok)(J:Inv (Mb X pins E) more σ H s):Inv X pins σ H s:=
 ⟨ok,J.os,J.bare,J.base,J.loc,J.cell,J.free,J.d9,λp hp=>J.pin p (A6 _ hp),J.bE,J.len⟩
theorem name_goes{M:Model}{A:Around}{E:Value->Shared->Prop}{i:Nat}{n:Str}{pos:Pos}{Q:Unit->Shared->Prop}(J:Inv X pins σ H s)(hN:X.N.Nodup)(hi:X.N[i]?=some n)(hl:X.env.kindOf n=some .local)
  (q:∀s',Inv X pins (σ.set i none) H s'->Q () s'):wpAny M A (do bindName X.env n .none;unbindBehindTheSuite X.env n pos) Q E s:=by
 obtain ⟨m,hn,Mq⟩:=id J.loc
 have D5:(X.env.scope.kind==.class||(X.env.scope.kind==.module&&X.env.locals != X.env.globals))=false:=by rw [J.ok.kind];rfl
 refine wpAny_nameGoes_keeps hl hn D5 λh1 v hn1 sb=>q _ ?_
 have sm:∀b o,b≠X.env.locals->s.heap.get? b=some o->h1.get? b=some o:=λb o hb e=>(sb.2 b hb).trans e
 have Fu:∀b o,X.dF.heap.get? b=some o->b≠X.env.locals:=λb o e=>gi (pq (eD e) J.ok.above)
 refine ⟨J.ok,J.os,J.bare,⟨λb o e k f x=>sm b o (Fu b o e) (J.base.keep b o e k f x),λb o e k f x=>?_,J.base.free,λb o e x=>?_,J.base.iQ,J.base.iF,J.base.iR⟩,⟨_,hn1,λj y w e1 e2 e3=>?_⟩,λx c e=>?_,J.free,J.d9,λp hp=>?_,λb u e=>?_,by rw [M9];exact J.len⟩
 .obtain ⟨sl,e1⟩:=J.base.slot b o e k f x
  exact ⟨sl,sm b _ (Fu b o e) e1⟩
 .obtain ⟨o',e1⟩:=J.base.there b o e x
  exact ⟨o',sm b _ (Fu b o e) e1⟩
 .have hj:j≠i:=λz=>by
   subst z
   rw [kL (by rw [J.len];exact (ni.mp hi).1)] at e2
   cases e2
  rw [ie (l5 hj)] at e2
  obtain ⟨u',r',q'⟩:=Mq j y w e1 e2 e3
  refine ⟨u',r',?_⟩
  rcases q' with ⟨k,e⟩ | ⟨k,c,e,z⟩
  .refine .inl ⟨k,?_⟩
   have:y≠n:=λe=>hj (UX hN e1 (e▸hi))
   simp [this,e]
  .exact .inr ⟨k,c,e,z.sameBut sb (J.B1 y c e)⟩
 .obtain ⟨w',z⟩:=J.cell x c e
  exact ⟨w',z.sameBut sb (J.B1 x c e)⟩
 .obtain ⟨e,n,ne,nf,d⟩:=J.pin p hp
  exact ⟨sm p.1 p.2 ne e,n,ne,nf,d⟩
 .refine (J.bE b u e).oP (λc w hc z=>sm c w ?_ z) (λ_ _ _ z=>z) λ_ _ z=>z
  rintro rfl
  rcases hc with hc | hc
  .rw [<-hc,J.free] at e;cases e
  .rw [J.free] at hc;cases hc
end
theorem Rel.drop{K:aJ}{O:Addr->Prop}{B H:Hp}{σ:L2.St}{env:En}(R:Rel K O B σ H env)(i:Nat):Rel K O B (σ.set i none) H (env.set i .no)/\Gd σ env H (σ.set i none) (env.set i .no) H:=by
 have own:∀q,oG (σ.set i none) (env.set i .no) q->oG σ env q:=λq ⟨j,ds,e1,o,e2⟩=>by
  by_cases hj:j=i
  .subst hj
   rw [M5] at e1
   simp at e1
   rw [<-e1.2] at o
   exact o.elim
  .rw [ie (l5 hj)] at e1 e2
   exact ⟨j,ds,e1,o,e2⟩
 have oo:∀q,OO O (σ.set i none) (env.set i .no) q->OO O σ env q:=λq z=>z.elim .inl λz=>.inr (own q z)
 have at_:∀{j:Nat} {x:Sl},(env.set i .no)[j]?=some x->x≠.no->j≠i/\env[j]?=some x:=λ{j x} e hx=>by
  by_cases hj:j=i
  .subst hj
   rw [M5] at e
   simp at e
   exact absurd e.2.symm hx
  .rw [ie (l5 hj)] at e
   exact ⟨hj,e⟩
 refine ⟨⟨R.same,R.oy,by simp [R.len],λj d e=>?_,λj ds e=>?_,λj ds e=>?_,λj ks ds e=>?_,λj k ds es p e1 e2 e3 e4 o1 o2=>?_⟩,λq u e n=>⟨e,λz=>n (own q z)⟩⟩
 .obtain ⟨hj,e⟩:=at_ e (λz=>nomatch z)
  obtain ⟨v,e1,h⟩:=R.sh j d e
  exact ⟨v,by rw [ie (l5 hj)];exact e1,h.less oo⟩
 .obtain ⟨hj,e⟩:=at_ e (λz=>nomatch z)
  obtain ⟨p,xs,e1,e2,e3,h⟩:=R.ow j ds e
  exact ⟨p,xs,by rw [ie (l5 hj)];exact e1,e2,e3,h.less oo⟩
 .obtain ⟨hj,e⟩:=at_ e (λz=>nomatch z)
  obtain ⟨p,e1,e2,e3⟩:=R.dw j ds e
  exact ⟨p,by rw [ie (l5 hj)];exact e1,e2,e3⟩
 .obtain ⟨hj,e⟩:=at_ e (λz=>nomatch z)
  obtain ⟨p,xs,e1,e2,e3,e4,h⟩:=R.tw j ks ds e
  exact ⟨p,xs,by rw [ie (l5 hj)];exact e1,e2,e3,e4,h.less oo⟩
 .obtain ⟨hj,e1⟩:=at_ e1 (λz=>by rw [z] at o1;exact o1)
  obtain ⟨hk,e2⟩:=at_ e2 (λz=>by rw [z] at o2;exact o2)
  rw [ie (l5 hj)] at e3
  rw [ie (l5 hk)] at e4
  exact R.sep j k ds es p e1 e2 e3 e4 o1 o2
end DL
namespace DL
open PySem PySem.Spec PyProof.Rows L2
structure Hx(X:Cx)(N:List Str)(sc:Scope):Prop where
 n:X.N=N
 sc:X.env.scope=sc
 fn:∀x,X.fn x=true
 nd:N.Nodup
noncomputable def uo(i:Nat)(hit:Str->Bool)(Fb:SF)(rb:RF)(Fh:SF):SF:=λenv=>match Fb env with
 | some x=>some x
 | none=>match rb env with
  | none=>none
  | some (nm,env1)=>if hit nm=true/\i<env1.length then (match Fh (env1.set i (.sh (.exc nm))) with
    | some (fl,bR)=>some (fl,bR.set i .no)
    | none=>none) else none
section
variable {X:Cx}{N:List Str}{sc:Scope}{k i:Nat}{n Cn:Str}{hc:Value}{body y6:List Stmt}{b0:Stmt}{Fb Fh:SF}{rb:RF}{hit:Str->Bool}{np IP pos:Pos}
theorem b9v(h:Fx X N sc k)(hi:N[i]?=some n)(Mq:sc.names.lookup n=some .local)(hg:Gl X Cn)(hm:X.mg Cn=some hc)
  (Ji:∀nm c,hit nm=true->X.mg nm=some c->∃C,c=.ref C/\kf X.K mainGlobals nm=some (some (.ref C))/\RU X.K (.ref C) hc=some true)
  (hb:∀X':Cx,X'.prog=X.prog->X'.w=X.w->X'.K=X.K->X'.mg=X.mg->X'.base=X.base->Fx X' N sc k->oF X' body Fb)
  (hx:∀(X':Cx) (W:L2.St->Hp->Value->Prop),X'.prog=X.prog->X'.w=X.w->X'.K=X.K->X'.mg=X.mg->X'.base=X.base->Fx X'.jd N sc k->Xk X' W->Cq X' W body rb)
  (hh:∀X':Cx,X'.prog=X.prog->X'.w=X.w->X'.K=X.K->X'.mg=X.mg->X'.base=X.base->Hx X' N sc->oF X' (b0::y6) Fh)
  (hX:(Cn==("__debug__":Str))=false:=by decide):
  SV X (.Try body [.ExceptHandler (some (.Name Cn np)) (some n) (b0::y6) IP] [] [] pos) (uo i hit Fb rb Fh):=by
 refine ⟨λD σ H=>∃(O:Addr->Prop) (B:Hp) (env:En) (fl:Fl) (af:En),Rel X.K O B σ H env/\uo i hit Fb rb Fh env=some (fl,af)/\gD X.K O B σ H env D fl af,λpins s σ H D I hw=>?_,λO B σ H env fl af D R e q=>⟨O,B,env,fl,af,R,e,q⟩⟩
 obtain ⟨O,B,env,fl,af,R,e,q⟩:=hw
 refine wpAny_Try_except ?_
 unfold uo at e
 cases hF:Fb env with
 | some x =>
  obtain ⟨f1,env1⟩:=x
  rw [hF] at e
  cases e
  obtain ⟨t,p,kk⟩:=hb X.jd rfl rfl rfl rfl rfl ⟨h.n,h.sc,h.calm,h.fn,B7,h.room,h.nd,h.top⟩
  refine lL (p pins s σ H D (I.jU _) (kk O B σ H env fl af D R hF q)) (λf s1 hq=>?_) λ_ _ z=>gC z
  have hq:=hq.eI
  cases f with
  | next=>exact JX hq
  | brk=>exact hq
  | cont=>exact hq
  | ret u=>exact hq
 | none =>
  rw [hF] at e
  dsimp only at e
  cases hr:rb env with
  | none=>rw [hr] at e;cases e
  | some y =>
  obtain ⟨nm,env1⟩:=y
  rw [hr] at e
  dsimp only at e
  obtain ⟨⟨Q9,CM⟩,e⟩:(hit nm=true/\i<env1.length)/\(match Fh (env1.set i (.sh (.exc nm))) with
    | some (fl,bR)=>some (fl,bR.set i .no)
    | none=>none)=some (fl,af):=by
   split at e
   .rename_i hh;exact ⟨hh,e⟩
   .cases e
  cases hH:Fh (env1.set i (.sh (.exc nm))) with
  | none=>rw [hH] at e;cases e
  | some z =>
  obtain ⟨f2,bR⟩:=z
  rw [hH] at e
  cases e
  obtain ⟨lW,Jb,hex⟩:=h.top rfl
  have xk:Xk (Mb X pins λe aT=>wpAny (model X.prog X.w) X.A (noteFrame e X.env) (λ_ fF=>wpAny (model X.prog X.w) X.A (setFlight e none) (λ_ pY=>wpAny (model X.prog X.w) X.A (handleBy e X.env [.ExceptHandler (some (.Name Cn np)) (some n) (b0::y6) IP]) (SP X pins D) X.xe pY) X.xe fF) X.xe aT)
    (λaK H' c=>X.mg nm=some c/\Rel X.K O B aK H' env1/\Gd σ env H aK env1 H'):=by
   intro WA lq H1 s1 e1 s' I1 D6
   obtain ⟨ea,c,H',rfl,os,bare,un,bE,⟨new,DV,T,DP,hT,tr⟩,hmc,R1,g1⟩:=D6
   obtain ⟨C,rfl,CK,Rf⟩:=Ji nm c Q9 hmc
   have LS:Inv X pins lq H1 s1:=b3l I.ok I1
   have J:Inv X pins lq H' s':=LS.zY os un bE bare (by simp)
   have hl:=J.stack
   have iM:=J.kn
   obtain ⟨a0,fly⟩:=YU tr hl
   have fresh:∀a,s1.heap.get? a=none->X.dF.heap.get? a=none/\a≠X.env.locals/\(∀x c,X.env.cells.lookup x=some c->c≠a)/\∀p∈X.pn++pins,p.1≠a:=λa ha=>by
    refine ⟨NZ LS hex ha,λz=>?_,λx c e z=>?_,λp hp z=>?_⟩
    .obtain ⟨m,⟨o,_,_,ho,_⟩,_⟩:=LS.loc
     rw [<-z,ha] at ho;cases ho
    .obtain ⟨v,o,ho,_⟩:=LS.cell x c e
     rw [z,ha] at ho;cases ho
    .have:=(LS.pin p hp).1
     rw [z,ha] at this;cases this
   have n0:∀b∈[ea,T],X.dF.heap.get? b=none/\b≠X.env.locals/\(∀x c,X.env.cells.lookup x=some c->c≠b)/\∀p∈X.pn++pins,p.1≠b:=λb z=>by
    rcases ej.mp z with z | z
    .rw [z];exact fresh ea new
    .rw [nP.mp z];exact fresh T DP
   have hx0:∀b∈[ea,T],H' b=none:=λb z=>by
    rcases ej.mp z with z | z
    .rw [z];exact DV
    .rw [nP.mp z];exact hT
   have hB:∀b o,s'.heap.get? b=some o->b∉j8 X.stack->b∉[ea,T]->(BN s'.heap ea T X.stack).get? b=some o:=λb o q n1 n2 =>
    MX _ q λz=>by
     rcases ej.mp z with z | z
     .exact n2 (by simp [z])
     .rcases ej.mp z with z | z
      .exact n2 (by simp [z])
      .exact n1 z
   have land:∀h5:Heap,(BN s'.heap ea T X.stack).StaysIn h5->s'.heap.UpToSlots h5->Inv X pins lq H' { s' with heap:=h5 }:=λh5 st up =>
    b7O J hex (UW (H:=H') hl hB st (λ_ _ q=>q) up) (U8 bE _ hB st iM hx0) n0
   show wpAny (model X.prog X.w) X.A (noteFrame (.ref ea) X.env) _ X.xe s'
   have JA:=fly
   rw [lW] at JA
   refine wpAny_looks_onW (env:=X.env) (outer:=X.outer) (by rw [J.ok.frames,lW]) Jb JA λh4 held Wr=>?_
   refine wpAny_landsW held λh5 RD Wq=>?_
   have J5:=land h5 (by rw [lW];exact RD.1) (Wr.trans Wq)
   obtain ⟨ob,hob,Ml⟩:=RD.there
   refine wpAny_handleBy_cons (codeAny_handlers_test ?_) (by intro q;cases q)
   refine Df (X:=Jg X (.ref ea)) (b03 J5 _) hg hm ?_ hX
   refine PySem.W.exm_one (e:=ea) (h:=h5) J5.mf (Ml▸(PySem.W.Looks.ld hob).andThen .now) Rf _ _ _ _ (λ_ _ q=>q) ?_
   refine codeAny_handlers_suite_as ?_
   refine lands_againW RD λh6 Xm up6=>?_
   have J6:=land h6 (by rw [lW];exact Xm.1) ((Wr.trans Wq).trans up6)
   obtain ⟨ob6,Q2,Q1⟩:=Xm.there
   obtain ⟨f0,f1,f2',f3⟩:=fresh ea new
   have J7:=b3m (C:=C) J6 DV f0 ⟨ob6,Q2,Q1⟩ (l5 λz=>f1 z.symm) f2' f3
   have I0:X.N[i]?=some n:=h.ix hi
   have D3:X.env.kindOf n=some .local:=by unfold JO;rw [h.sc];exact Mq
   refine UO (X:=Jg X (.ref ea)) (v:=.ref ea) (b03 J7 _) h.zu I0 (cZ D3) rfl (λs8 J8=>?_) (cZ (h.fn rfl n))
   have sm:aE H' (upd H' ea (.ext (m5 ea C))):=λb o q=>by rw [fm (qt q DV)];exact q
   have R7:=R1.grow sm
   obtain ⟨R8,g8⟩:=R7.set (r:=.sh (.exc nm)) (aE.refl _) (Is.exc (p:=ea) (C:=C) (λz=>R1.oo z DV) CK lM) CM
   have Ry:=(g1.trans (Gd.refl sm)).trans g8
   obtain ⟨th,ph,kh⟩:=hh (Jg X (.ref ea)) rfl rfl rfl rfl rfl ⟨h.n,h.sc,h.fn rfl,h.nd⟩
   cases fl with
   | nx =>
    refine lL (ph pins s8 _ _ { nx:=λaK H2=>Rel X.K O B aK H2 bR/\Gd σ env H aK bR H2,rt:=λ_ _=>False } J8 (kh O B _ _ _ .nx bR _ R8 hH λaK H2 R' g'=>⟨R',Ry.trans g'⟩)) (λf s9 hq=>?_) λ_ _ z=>gC z
    cases f with
    | next =>
     obtain ⟨Pt,H9,J9,R9,g9⟩:=hq
     obtain ⟨LH,Jt⟩:=R9.drop i
     exact name_goes (Oy J.ok J9) h.zu I0 D3 λQi E9=>⟨_,H9,E9,q _ _ LH (g9.trans Jt)⟩
    | brk=>obtain ⟨_,_,_,z⟩:=hq;exact gC z
    | cont=>obtain ⟨_,_,_,z⟩:=hq;exact gC z
    | ret u=>obtain ⟨_,_,_,_,_,z⟩:=hq;exact gC z
   | bk =>
    refine lL (ph pins s8 _ _ { nx:=λ_ _=>False,bk:=λaK H2=>Rel X.K O B aK H2 bR/\Gd σ env H aK bR H2,rt:=λ_ _=>False } J8 (kh O B _ _ _ .bk bR _ R8 hH λaK H2 R' g'=>⟨R',Ry.trans g'⟩)) (λf s9 hq=>?_) λ_ _ z=>gC z
    cases f with
    | brk =>
     obtain ⟨Pt,H9,J9,R9,g9⟩:=hq
     obtain ⟨LH,Jt⟩:=R9.drop i
     exact name_goes (Oy J.ok J9) h.zu I0 D3 λQi E9=>⟨_,H9,E9,q _ _ LH (g9.trans Jt)⟩
    | next=>obtain ⟨_,_,_,z⟩:=hq;exact gC z
    | cont=>obtain ⟨_,_,_,z⟩:=hq;exact gC z
    | ret u=>obtain ⟨_,_,_,_,_,z⟩:=hq;exact gC z
   | ct =>
    refine lL (ph pins s8 _ _ { nx:=λ_ _=>False,ct:=λaK H2=>Rel X.K O B aK H2 bR/\Gd σ env H aK bR H2,rt:=λ_ _=>False } J8 (kh O B _ _ _ .ct bR _ R8 hH λaK H2 R' g'=>⟨R',Ry.trans g'⟩)) (λf s9 hq=>?_) λ_ _ z=>gC z
    cases f with
    | cont =>
     obtain ⟨Pt,H9,J9,R9,g9⟩:=hq
     obtain ⟨LH,Jt⟩:=R9.drop i
     exact name_goes (Oy J.ok J9) h.zu I0 D3 λQi E9=>⟨_,H9,E9,q _ _ LH (g9.trans Jt)⟩
    | next=>obtain ⟨_,_,_,z⟩:=hq;exact gC z
    | brk=>obtain ⟨_,_,_,z⟩:=hq;exact gC z
    | ret u=>obtain ⟨_,_,_,_,_,z⟩:=hq;exact gC z
   | rt r =>
    refine lL (ph pins s8 _ _ { nx:=λ_ _=>False,rt:=D.rt } J8 (kh O B _ _ _ (.rt r) bR _ R8 hH λv H2 s2 r2=>q v H2 s2 r2)) (λf s9 hq=>?_) λ_ _ z=>gC z
    cases f with
    | ret u =>
     obtain ⟨v,Pt,H9,J9,rv,z⟩:=hq
     exact name_goes (Oy J.ok J9) h.zu I0 D3 λQi E9=>⟨v,_,H9,E9,rv,z⟩
    | next=>obtain ⟨_,_,_,z⟩:=hq;exact gC z
    | brk=>obtain ⟨_,_,_,z⟩:=hq;exact gC z
    | cont=>obtain ⟨_,_,_,z⟩:=hq;exact gC z
  obtain ⟨t,p,kk⟩:=hx (Mb X pins _) _ rfl rfl rfl rfl rfl ⟨h.n,h.sc,h.calm,h.fn,B7,h.room,h.nd,h.top⟩ xk
  refine lL (p [] s σ H { nx:=λ_ _=>False,rt:=λ_ _=>False } (b7N I _) (kk O B σ H env nm env1 _ R hr λaK H' c D6 R' g'=>⟨D6,R',g'⟩)) (λf s1 hq=>?_) λ_ _ z=>z
  cases f with
  | next=>obtain ⟨_,_,_,z⟩:=hq;exact gC z
  | brk=>obtain ⟨_,_,_,z⟩:=hq;exact gC z
  | cont=>obtain ⟨_,_,_,z⟩:=hq;exact gC z
  | ret u=>obtain ⟨_,_,_,_,_,z⟩:=hq;exact gC z
end
end DL
namespace DL
open PySem PySem.W PySem.Spec PySem.Calls PyProof.Rows L2 PySem.Builtin.ObjectAttr PySem.Builtin PySem.Builtin.Getset_descriptor
section
variable {prog:Program}{w:World}{A:Around}{E:Value->Shared->Prop}{s:Shared}{K:Frag}{x C:Addr}
theorem NV(p:m5 x C h)(M:Model):Looks M h (typeOf (.ref x)) (.ref C):=by
 obtain ⟨o,h1,h2⟩:=p
 exact h2▸(Looks.ld h1).andThen .now
structure n8(K:Frag)(C:Addr):Prop where
 ga:findIn K (.ref C) "__getattribute__" = some (some (.builtin "BaseException.__getattribute__"))
 no:findIn K (.ref C) "__getattr__" = some none
 at_:findIn K (.ref C) "__class__" = some (some (.builtin "object.__class__"))
 get:specialIn K (.builtin "object.__class__") "__get__" = some (some (.builtin "getset_descriptor.__get__"))
 tk:takesIn K (.builtin "object.__class__")=some true
 mro:mroIn K C (.type "object")=some true
 mrB:mroIn K C (.type "BaseException")=some true
theorem b1Q(k:n8 K C)(X:K.In h):Looks M h (find (.ref x) (.ref C) "__class__") (.bind (.builtin "getset_descriptor.__get__") (.builtin "object.__class__")):=by
 have d:Looks M h (dataDescriptor? (some (.builtin "object.__class__")) (some (.builtin "getset_descriptor.__get__"))) (some (.builtin "getset_descriptor.__get__",.builtin "object.__class__")):=
  (looks_takesIn X k.tk).andThen .now
 exact (MN X k.at_).andThen ((show Looks M h (getOf (some (.builtin "object.__class__"))) (some (.builtin "getset_descriptor.__get__")) from looks_specialIn X k.get).andThen (d.andThen (Looks.tag .now)))
theorem b7Z(k:n8 K C)(X:K.In s.heap)(p:m5 x C s.heap)(q:R (.ok (.ret (.ref C))) s):
  codeAny (model prog w) A (.call (.builtin "getset_descriptor.__get__") ⟨[.builtin "object.__class__",.ref x,tp],[]⟩) R s:=by
 obtain ⟨hp,gs,dr,tk,os⟩:=s
 have T0:=NV p (model prog w)
 have T1:=looks_mroIn (M:=model prog w) X k.mro
 refine Ta KF.slot_gs.plain KF.entry_gs ?_
 refine KF.slot_gs.check _ _ _ _ _ _ _ _ KF.type_class (KF.args_gs _ _ _) ?_
 unfold Builtin.«getset_descriptor.__get__» descrGet
 rw [dga_obj]
 apply aI
 apply b9
 unfold descrGetter descrCheckInstance descrNameAndClass isInstance
 simp only [KF.owner_class]
 repeat lk
 refine ⟨Xt _ (by decide +kernel),?_⟩
 apply B6 KF.entry_class
 unfold Builtin.«object.__class__» shownTypeOf
 repeat lk
 exact q
theorem c0I(k:n8 K C)(X:K.In s.heap)(p:m5 x C s.heap)(q:R (.ok (.ret (.ref C))) s):
  codeAny (model prog w) A (.call (.builtin "BaseException.__getattribute__") ⟨[.ref x,.str "__class__" tk],[]⟩) R s:=by
 obtain ⟨hp,gs,dr,tt,os⟩:=s
 have T0:=NV p (model prog w)
 have T2:=b1Q (M:=model prog w) (x:=x) k X
 have T4:=looks_mroIn (M:=model prog w) X k.mrB
 have kd:builtinKind "BaseException.__getattribute__" = some .slot:=by decide +kernel
 have sp:splitId "BaseException.__getattribute__" = some ("BaseException","__getattribute__"):=by decide +kernel
 have ar:=F.args_bexc_ga (.ref x) (.str "__class__" tk)
 refine Ta F.attr_ValueError.ga.plain F.entry_bexc_ga ?_
 have ti:Looks (model prog w) hp (isInstance (.ref x) (.type "BaseException")) true:=T0.andThen T4
 simp only [checkBuiltinCall,kd,sp]
 refine aI (ti.at ?_)
 simp only [Bool.not_true,B9,if_false]
 refine A4 ar ?_
 unfold Builtin.«object.__getattribute__»
 apply aI
 refine A4 (a:=(dJ x,[Ek "__class__" tk])) rfl ?_
 apply aI
 apply b9
 refine aI (T0.at ?_)
 refine aI (T2.at ?_)
 show wpAny _ _ (holding [.builtin "object.__class__"] (call (.builtin "getset_descriptor.__get__") [.builtin "object.__class__",.ref x,.ref C]) >>= ret) _ _ _
 apply aI
 apply rV
 apply FK
 refine b7Z (s:=⟨hp,gs,dr,tt,os⟩) k X p ?_
 apply b9
 exact q
theorem b3C(k:n8 K C)(X:K.In s.heap)(p:m5 x C s.heap)(q:Q (some (.ref C)) { s with toks:=s.toks+1 }):wpAny (model prog w) A (getAttr? (.ref x) "__class__") Q E s:=by
 obtain ⟨hp,gs,dr,tk,os⟩:=s
 have T0:=NV p (model prog w)
 have T1:=MN (M:=model prog w) X k.ga
 have T3:=MN (M:=model prog w) X k.no
 have b:=F.attr_ValueError.ga.bind (.ref x)
 unfold getAttr? getAttrBy? getAttrBy
 apply aI
 apply wpAny_mkText
 apply aI
 apply J2
 apply rV
 refine aI (T0.at ?_)
 refine aI (T1.at ?_)
 have ne:(J1 "BaseException.__getattribute__" == J1 "object.__getattribute__")=false:=by decide +kernel
 have ne':(onTheHeap (dJ C)&&J1 "BaseException.__getattribute__" == J1 "object.__getattribute__")=false:=by rw [ne];rfl
 dsimp only
 rw [ne']
 simp only [B9,if_false]
 unfold getAttrByItsOwn hookBefore
 have oh:onTheHeap (dJ C)=true:=rfl
 rw [oh,if_pos rfl]
 refine aI (T3.at ?_)
 apply aI
 apply J2
 apply rV
 unfold callGetattribute boundAndCalled
 simp only [RW,B9,if_false]
 refine aI (A4 b ?_)
 apply FK
 refine c0I (s:=⟨hp,gs,dr,tk+1,os⟩) k X p ?_
 refine handed_on rfl ?_
 exact b9 q
theorem b7D(k:n8 K C)(cd:(clsIn K C).isSome=true):KitX K (.ref x) (.ref C) (m5 x C) where
 ty:=λM h _ p=>NV p M
 it:=λM h X p=>by
  unfold clsIn at cd
  split at cd
  .rename_i ho
   intro A' Q' E' s' kp q
   unfold isType loadHead
   apply aI
   exact wpAny_loadPart (kp _ _ (X _ _ ho)) (b9 q)
  .cases cd
 ne:=λh tp dd aB n sl X htp=>by
  rw [Bool.eq_false_iff]
  intro q
  obtain rfl:C=tp:=Value.ref.inj (beq_iff_eq.mp q)
  unfold clsIn at cd
  split at cd
  .rename_i ho
   have z:=(X _ _ ho).symm.trans htp
   cases z
  .cases cd
 ca:=λX p q=>b3C k X p q
end
section
variable {X:Cx}{a:Expr}{pos p p2:Pos}{fa:En->Option Sl}
def Qn(K:Frag)(c:Value)(cv:V):List V->Hp->VK->Prop:=λxs H Q=>∃p C b,xs=[.ref p,cv]/\H p=some (.ext (m5 p C))/\n8 K C/\(clsIn K C).isSome=true/\kitOne K (.ref C) c=some b/\Q (.bl b) H
theorem b1f(hr:∀u,RelV cv u->u=c):de X (.builtin "isinstance") (Qn X.K c cv):=by
 intro pins s σ H xs us Q I r h
 obtain ⟨p,C,b,rfl,hp,k,cd,e,q⟩:=h
 obtain ⟨u,w',rfl,r1,r2⟩:=vals2 r
 obtain rfl:=hr w' r2
 obtain rfl:u=dJ p:=r1
 obtain ⟨hc,_,_⟩:=I.bE p _ hp
 exact kia_one (b7D k cd) I.mf hc e (by intro z;cases z) λtk=>⟨.bl b,H,I.tok _,rfl,q⟩
noncomputable def BY(tab:Str->Option Bool)(f:En->Option Sl):En->Option Sl:=λenv=>(f env).bind λr=>match r.d with
 | .exc n=>(tab n).map λb=>.sh (.bl b)
 | _=>none
theorem YZ{K:Frag}{O:Addr->Prop}{H:Hp}{v:V}{n:Str}(h:Is K O H v (.exc n)):∃p C,v=.ref p/\nsIn K mainGlobals n=some (some (.ref C))/\H p=some (.ext (m5 p C)):=by
 cases h with
 | exc ho hn hp=>exact ⟨_,_,rfl,hn,hp⟩
theorem c0L(hg:Gl X "isinstance")(hm:X.mg "isinstance" = none)(CN:Gl X x)(CL:X.mg x=some (.ref C2))
  (ht:∀n b C,tab n=some b->nsIn X.K mainGlobals n=some (some (.ref C))->n8 X.K C/\(clsIn X.K C).isSome=true/\kitOne X.K (.ref C) (.ref C2)=some b)(ha:EV X a fa)
  (hd:(x==("__debug__":Str))=false:=by decide)
  (hs:starEach [a,.Name x p2] X.env=[(false,eval a X.env),(false,eval (.Name x p2) X.env)]:=by rfl)(lX:starEach [.Name x p2] X.env=[(false,eval (.Name x p2) X.env)]:=by rfl):
  EV X (.Call (.Name "isinstance" p) [a,.Name x p2] [] pos) (BY tab fa):=by
 obtain ⟨t,pt,k⟩:=ha
 have pn:PE X (.Name x p2) (λ_ H Q=>Q (.ref C2) H):=λpins s σ H Q I h=>Df I CN CL ⟨.ref C2,H,I,rfl,h⟩ hd
 refine ⟨_,Dh (b1f (c:=.ref C2) (cv:=.ref C2) λu r=>r) hg hm (by decide +kernel) (lj pt (lj pn nv lX) (by rw [hs,lX])) (by decide) (by decide) (by rw [hs,lX]) (by rw [lX];rfl),λO B σ H env s Q R e q=>?_⟩
 obtain ⟨r,e1,e2⟩:=bind_some e
 refine k O B σ H env r _ R e1 λv H1 s1 r1=>?_
 have hi:=r1.is λq=>R.oo
 cases hd:r.d with
 | exc n =>
  rw [hd] at e2 hi
  obtain ⟨b,e3,e4⟩:=map_some e2
  subst e4
  obtain ⟨pp,C,rfl,hn,hp⟩:=YZ hi
  obtain ⟨c1,c2,c3⟩:=ht n b C e3 hn
  exact ⟨pp,C,b,rfl,hp,c1,c2,c3,q _ H1 s1 (Is.bl _)⟩
 | _=>rw [hd] at e2;cases e2
theorem b77(hg:Gl X "isinstance")(hm:X.mg "isinstance" = none)(CN:Gl X x)(CL:X.mg x=none)(hv:bootBuiltins x=some (.type T))
  (ht:∀n b C,tab n=some b->nsIn X.K mainGlobals n=some (some (.ref C))->n8 X.K C/\(clsIn X.K C).isSome=true/\kitOne X.K (.ref C) (.type T)=some b)(ha:EV X a fa)
  (hn:x ≠ "__name__":=by decide)(hd:(x==("__debug__":Str))=false:=by decide)
  (hs:starEach [a,.Name x p2] X.env=[(false,eval a X.env),(false,eval (.Name x p2) X.env)]:=by rfl)(lX:starEach [.Name x p2] X.env=[(false,eval (.Name x p2) X.env)]:=by rfl):
  EV X (.Call (.Name "isinstance" p) [a,.Name x p2] [] pos) (BY tab fa):=by
 obtain ⟨t,pt,k⟩:=ha
 refine ⟨_,Dh (b1f (c:=.type T) (cv:=.ty T) λu r=>r) hg hm (by decide +kernel) (lj pt (lj (b7m (v:=.ty T) CN CL hv rfl hn hd) nv lX) (by rw [hs,lX])) (by decide) (by decide) (by rw [hs,lX]) (by rw [lX];rfl),λO B σ H env s Q R e q=>?_⟩
 obtain ⟨r,e1,e2⟩:=bind_some e
 refine k O B σ H env r _ R e1 λv H1 s1 r1=>?_
 have hi:=r1.is λq=>R.oo
 cases hd:r.d with
 | exc n =>
  rw [hd] at e2 hi
  obtain ⟨b,e3,e4⟩:=map_some e2
  subst e4
  obtain ⟨pp,C,rfl,hn,hp⟩:=YZ hi
  obtain ⟨c1,c2,c3⟩:=ht n b C e3 hn
  exact ⟨pp,C,b,rfl,hp,c1,c2,c3,q _ H1 s1 (Is.bl _)⟩
 | _=>rw [hd] at e2;cases e2
end
section
variable {X:Cx}{N:List Str}{sc:Scope}{pos p p1 p2 pos' au:Pos}{e a b:Expr}{fa fb:En->Option Sl}
theorem Hx.v(h:Hx X N sc)(i:Nat)(hN:N[i]?=some x:=by rfl)(hv:ib sc x:=by first | exact cZ rfl | exact cj (cZ rfl) | exact cj (cj rfl))(hd:(x==("__debug__":Str))=false:=by rfl)
  (cE:(x==("__classdict__":Str))=false:=by rfl):EV X (.Name x pos) (eV i):=YS i (by rw [h.n];exact hN) (by rw [h.sc];exact hv) hd cE
theorem Hx.g(h:Hx X N sc)(hg:sc.names.lookup x=some .globalImplicit:=by rfl):Gl X x:=by
 show X.env.kindOf x=some .globalImplicit
 unfold JO
 rw [h.sc]
 exact hg
theorem Hx.set(h:Hx X N sc)(i:Nat)(he:EV X e fa)(hN:N[i]?=some x:=by rfl)(hv:Loc sc x:=by first | exact cZ rfl | exact cj rfl)
  (hs:swapsWith e (some (.Name x pos')) pos.line X.env=pure false:=by rfl):SV X (.Assign [.Name x pos'] e pos) (jV i fa):=Zv (by rw [h.n];exact h.nd) (by rw [h.n];exact hN) (by rw [h.sc];exact hv) he hs (.inl (h.fn x))
theorem Hx.app(h:Hx X N sc)(i:Nat)(ha:EV X e fa)(hN:N[i]?=some x:=by rfl)(hv:ib sc x:=by first | exact cZ rfl | exact cj (cZ rfl) | exact cj (cj rfl))(hd:(x==("__debug__":Str))=false:=by rfl)
  (cE:(x==("__classdict__":Str))=false:=by rfl)(hs:starEach [e] X.env=[(false,eval e X.env)]:=by rfl)
  (bA:attributeBase (.Name x p1) "append" X.env (eval (.Name x p1) X.env)=eval (.Name x p1) X.env:=by rfl)
  (gF:((backTo au (starEach [e] X.env)).all (λx=>!x.1)&&(backToKw au (keywordEach [] X.env)).all (λx=>x.1.isSome)
   && decide ([e].length+([]:List Keyword).length+(if ([]:List Keyword).isEmpty then 0 else 1)<30))=true:=by rfl)
  (bz:(p2.endLine==au.line)=true:=by rfl)
  (nJ:swapsWith (.Call (.Attribute (.Name x p1) "append" p2) [e] [] au) none pos.line X.env=pure false:=by rfl):
  SV X (.Expr (.Call (.Attribute (.Name x p1) "append" p2) [e] [] au) pos) (nD i fa):=a8x ha (by rw [h.n];exact hN) (by rw [h.sc];exact hv) hd cE hs bA gF bz nJ
end
structure Cl(K:Frag)(mg:Str->Option Value)(x:Str)(C:Addr):Prop where
 ns:nsIn K mainGlobals x=some (some (.ref C))
 m:mg x=some (.ref C)
 ck:n8 K C
 cd:(clsIn K C).isSome=true
def Tq(K:Frag)(c:Value)(tab:Str->Option Bool):Prop:=∀n b C,tab n=some b->nsIn K mainGlobals n=some (some (.ref C))->n8 K C/\(clsIn K C).isSome=true/\kitOne K (.ref C) c=some b
noncomputable def TH:Str->Option Bool:=λ_=>none
noncomputable def NF(x:Str)(b:Bool)(tab:Str->Option Bool):Str->Option Bool:=λn=>if n=x then some b else tab n
theorem ZY{K:Frag}{c:Value}:Tq K c TH:=λn b C e _=>by cases e
theorem b0H{K:Frag}{mg:Str->Option Value}{c:Value}{x:Str}{C:Addr}{b:Bool}{tab:Str->Option Bool}(k:Cl K mg x C)(s:kitOne K (.ref C) c=some b)(r:Tq K c tab):Tq K c (NF x b tab):=λn b' C' e hn=>by
 unfold NF at e
 split at e
 .rename_i h
  subst h
  cases e
  obtain rfl:C=C':=by have:=k.ns.symm.trans hn;cases this;rfl
  exact ⟨k.ck,k.cd,s⟩
 .exact r n b' C' e hn
def Tp(K:Frag)(mg:Str->Option Value)(hc:Value)(hit:Str->Bool):Prop:=∀nm c,hit nm=true->mg nm=some c->∃C,c=.ref C/\nsIn K mainGlobals nm=some (some (.ref C))/\exmOne K (.ref C) hc=some true
noncomputable def Yq:Str->Bool:=λ_=>false
noncomputable def Tx(x:Str)(hit:Str->Bool):Str->Bool:=λn=>decide (n=x)||hit n
theorem b7Q{K:Frag}{mg:Str->Option Value}{hc:Value}:Tp K mg hc Yq:=λn c e _=>by cases e
theorem b42{K:Frag}{mg:Str->Option Value}{hc:Value}{x:Str}{C:Addr}{hit:Str->Bool}(k:Cl K mg x C)(s:exmOne K (.ref C) hc=some true)(r:Tp K mg hc hit):Tp K mg hc (Tx x hit):=λn c e hm=>by
 unfold Tx at e
 by_cases h:n=x
 .subst h
  obtain rfl:c=.ref C:=by have:=hm.symm.trans k.m;cases this;rfl
  exact ⟨C,rfl,k.ns,s⟩
 .exact r n c (by simpa [h] using e) hm
theorem Fx.jd{X:Cx}{N:List Str}{sc:Scope}{k:Nat}{full:Bool}(h:Fx X N sc k full):Fx X.jd N sc k full:=⟨h.n,h.sc,h.calm,h.fn,B7,h.room,h.nd,h.top⟩
theorem Hx.dG{X:Cx}{N:List Str}{sc:Scope}{pos pos':Pos}{e:Expr}{fa:En->Option Sl}(h:Hx X N sc)(i:Nat){x:Str}(he:EV X e fa)(hN:N[i]?=some x:=by rfl)(hv:Loc sc x:=by first | exact cZ rfl | exact cj rfl)
  (hs:swapsWith e (some (.Name x pos')) pos.line X.env=pure false:=by rfl):SV X (.Assign [.Name x pos'] e pos) (gU i fa):=ZX (by rw [h.n];exact h.nd) (by rw [h.n];exact hN) (by rw [h.sc];exact hv) he hs (.inl (h.fn x))
theorem b33:Wo (Cf env) Q↔False:=Wo_none
end DL
namespace DL
open PySem PySem.Spec PyProof.Rows L2
theorem b7X{P:Program}{w:World}{K:aJ}{mg:Str->Option Value}{base:Heap}{k n:Nat}{f:Addr}{fd:FuncData}{ps:List Str}{φ:List D->Option Sl}(h:∀ds r,φ ds=some r->False):cx P w K mg base jw k f fd ps (qR K n φ):=
 ⟨λvs H Q E q=>by obtain ⟨O,ds,r,_,_,_,e,_⟩:=q;exact (h ds r e).elim,λA outer s H args us vs Q E _ _ _ _ q=>by obtain ⟨O,ds,r,_,_,_,e,_⟩:=q;exact (h ds r e).elim⟩
section
variable {X:Cx}{W:L2.St->Hp->Value->Prop}{it tg:Expr}{re:En->Option Str}{pos:Pos}
end
theorem Z6{P:Program}{w:World}{K:aJ}{mg:Str->Option Value}{base:Heap}{x:Str}{st:Stmt}{ps:List Str}{j:Nat}{f:Addr}{fd:FuncData}(D':Def K mg x st ps f fd):Oz P w K mg base x st ps j λ_=>none:=⟨f,fd,D',b7X λ_ _ z=>nomatch z⟩
end DL
namespace DL
open PySem PySem.Spec PyProof.Rows L2
section
variable {X:Cx}{a b c:Expr}{pos:Pos}{fa fb fc:En->Option Sl}
theorem b4e(ho:n5 X (compareOp op) g)(jA:n5 X (compareOp Ii) g')(ha:EV X a fa)(hb:EV X b fb)(hc:EV X c fc)(hm:lastMarks [op,Ii] [b,c]=false:=by with_unfolding_all rfl):
  TV X (.Compare a [op,Ii] [b,c] pos) (Ag (cR (ag g fa fb)) (cR (ag g' fb fc))):=by
 obtain ⟨r,hr,hg⟩:=ho
 obtain ⟨r',hr',Rb⟩:=jA
 obtain ⟨ta,pa,ka⟩:=ha
 obtain ⟨tb,pb,kb⟩:=hb
 obtain ⟨tc,pc,kc⟩:=hc
 refine ⟨_,b4y hr hr' pa pb pc hm,λO B σ H env k Q R e q=>?_⟩
 unfold Ag at e
 cases e1:cR (ag g fa fb) env with
 | none=>rw [e1] at e;cases e
 | some b1 =>
  rw [e1] at e
  obtain ⟨x,ex,e3⟩:=bind_some (EU e1)
  obtain ⟨y,ey,e4⟩:=bind_some e3
  refine ka O B σ H env x _ R ex λv H1 s1 h1=>?_
  refine kb O B σ H1 env y _ (R.grow s1) ey λu H2 s2 h2=>?_
  have R2:=(R.grow s1).grow s2
  refine hg (OO O σ env) H2 v u x.d y.d _ _ (λq=>R2.oo) ((h1.is λq=>R.oo).grow s2) (h2.is λq=>(R.grow s1).oo) e4 λw H3 s3 h3=>?_
  refine ⟨b1,C8 h3,?_⟩
  cases b1 with
  | false =>
   cases e
   rw [if_neg (by decide)]
   exact ⟨false,rfl,q H3 ((s1.trans s2).trans s3)⟩
  | true =>
   rw [if_pos rfl]
   obtain ⟨y',Xo,e5⟩:=bind_some (EU e)
   rw [ey] at Xo
   cases Xo
   obtain ⟨z,ez,e6⟩:=bind_some e5
   have R3:=R2.grow s3
   refine kc O B σ H3 env z _ R3 ez λw' H4 s4 h4=>?_
   have R4:=R3.grow s4
   refine Rb (OO O σ env) H4 u w' y.d z.d _ _ (λq=>R4.oo) (((h2.is λq=>(R.grow s1).oo).grow s3).grow s4) (h4.is λq=>R3.oo) e6 λw2 H5 s5 h5=>?_
   exact ⟨k,C8 h5,q H5 ((((s1.trans s2).trans s3).trans s4).trans s5)⟩
end
end DL
namespace DL
open PySem PySem.Spec PyProof.Rows L2
section
variable {X:Cx}
noncomputable def nr(f:En->Option Sl):En->Option Sl:=λenv=>(f env).bind λr=>match r with
 | .sh (.int i)=>if i.natAbs.log2<1920 then some (.sh (.str (toString i))) else none
 | _=>none
theorem Al(hg:Gl X "str")(hm:X.mg "str" = none)(he:EV X e fa)(hs:starEach [e] X.env=[(false,eval e X.env)]:=by rfl):EV X (.Call (.Name "str" p) [e] [] pos) (nr fa):=by
 obtain ⟨t,pt,k⟩:=he
 refine ⟨_,Dg kK hg hm (by decide +kernel) (lj pt nv hs) (by decide) (by decide) hs rfl,λO B σ H env s Q R e q=>?_⟩
 obtain ⟨r,e1,e2⟩:=bind_some e
 split at e2
 .obtain ⟨hz,rfl⟩:=jg e2
  refine k O B σ H env _ _ R e1 λv H1 s1 r1=>?_
  obtain rfl:=pA r1
  exact ⟨_,rfl,hz,q _ H1 s1 (Is.str _)⟩
 .cases e2
def PJ(X:Cx)(es:List Expr)(tj:Str->L2.St->Hp->VK->Prop):Prop:=
 ∀(out:Str) (pins:List (Addr×Obj)) (s:Shared) (σ:L2.St) (H:Hp) (Q:VK),Inv X pins σ H s->tj out σ H Q->wpAny (model X.prog X.w) X.A (joinParts out (evalEach es X.env)) (EP X pins σ Q) X.xe s
theorem b9P:PJ X [] (λout _ H Q=>out.length<=sizeLine/\Q (.str out) H):=by
 intro out pins s σ H Q I h
 exact joinParts_nil ⟨.str out,H,I.tok _,⟨_,rfl⟩,h.2⟩ h.1
theorem b7g(he:PE X e t)(hs:PJ X es tj):PJ X (e::es) (λout σ H Q=>t σ H λx H1=>∃y,x=.str y/\(out++y).length<=sizeLine/\tj (out++y) σ H1 Q):=by
 intro out pins s σ H Q I h
 show wpAny _ _ (joinParts out (eval e X.env::evalEach es X.env)) _ _ s
 refine joinParts_cons (cn (he pins s σ H _ I h) λv s1 ⟨x,H1,I1,r1,q1⟩=>?_)
 obtain ⟨y,rfl,hz,q⟩:=q1
 obtain ⟨u,rfl⟩:=r1
 exact ⟨hz,hs _ pins s1 σ H1 Q I1 q⟩
theorem HY(h:PE X a t):PE X (.FormattedValue a (-1) none pos) (λσ H Q=>t σ H λx H1=>∃y,x=.str y/\y.length<=sizeLine/\Q x H1):=by
 intro pins s σ H Q I hw
 refine FormattedValue_plain (cn (h pins s σ H _ I hw) λv s1 ⟨x,H1,I1,r1,q1⟩=>?_)
 obtain ⟨y,rfl,hz,q⟩:=q1
 obtain ⟨u,rfl⟩:=r1
 exact formatField_str (λt' tk=>⟨.str y,H1,I1.tok tk,⟨_,rfl⟩,q⟩) hz
noncomputable def nC:Option Sl->Option Str
 | some (.sh (.str y))=>some y
 | _=>none
theorem EZ(h:nC o=some y):o=some (.sh (.str y)):=by
 unfold nC at h
 split at h
 .cases h;rfl
 .cases h
def JV(X:Cx)(es:List Expr)(f:En->Option Str):Prop:=
 ∃tj,PJ X es tj/\∀(O:Addr->Prop) (B:Hp) (σ:L2.St) (H:Hp) (env:En) (y out:Str) (Q:VK),Rel X.K O B σ H env->f env=some y->(out++y).length<=sizeLine->(∀H',aE H H'->Q (.str (out++y)) H')->tj out σ H Q
noncomputable def rA:En->Option Str:=λ_=>some A3
noncomputable def pM(fe:En->Option Sl)(f:En->Option Str):En->Option Str:=λenv=>(nC (fe env)).bind λy=>(f env).map λz=>y++z
noncomputable def FH(fa:En->Option Sl):En->Option Sl:=λenv=>(nC (fa env)).bind λy=>if y.length<=16777216 then some (.sh (.str y)) else none
theorem Y3:JV X [] rA:=by
 refine ⟨_,b9P,λO B σ H env y out Q R e hz q=>?_⟩
 cases e
 have:=q H (aE.refl _)
 rw [Str.append_empty] at this hz
 exact ⟨hz,this⟩
theorem K3(he:EV X e fe)(hs:JV X es f):JV X (e::es) (pM fe f):=by
 obtain ⟨t,pt,kt⟩:=he
 obtain ⟨tj,pj,kj⟩:=hs
 refine ⟨_,b7g pt pj,λO B σ H env y out Q R e hz q=>?_⟩
 obtain ⟨y1,e1,e2⟩:=bind_some e
 obtain ⟨z,e3,rfl⟩:=map_some e2
 refine kt O B σ H env _ _ R (EZ e1) λv H1 s1 r1=>?_
 obtain rfl:=pB r1
 rw [<-Str.append_assoc] at hz q
 refine ⟨y1,rfl,?_,kj O B σ H1 env z (out++y1) Q (R.grow s1) e3 hz λH' s'=>q H' (s1.trans s')⟩
 rw [yx] at hz
 omega
theorem JF(h:EV X a fa):EV X (.FormattedValue a (-1) none pos) (FH fa):=by
 obtain ⟨t,pt,k⟩:=h
 refine ⟨_,HY pt,λO B σ H env s Q R e q=>?_⟩
 obtain ⟨y,e1,e2⟩:=bind_some e
 obtain ⟨hz,rfl⟩:=jg e2
 refine k O B σ H env _ _ R (EZ e1) λv H1 s1 r1=>?_
 obtain rfl:=pB r1
 exact ⟨y,rfl,by rw [lZ];exact hz,q _ H1 s1 (Is.str _)⟩
noncomputable def B'(f:En->Option Str):En->Option Sl:=λenv=>(f env).bind λy=>if y.length<=16777216 then some (.sh (.str y)) else none
theorem ZO(h:JV X (e::e'::es) f):EV X (.JoinedStr (e::e'::es) pos) (B' f):=by
 obtain ⟨tj,pj,k⟩:=h
 refine ⟨λσ H Q=>tj A3 σ H Q,λpins s σ H Q I hw=>JoinedStr_many (pj A3 pins s σ H Q I hw),λO B σ H env s Q R e q=>?_⟩
 obtain ⟨y,e1,e2⟩:=bind_some e
 obtain ⟨hz,rfl⟩:=jg e2
 refine k O B σ H env y A3 Q R e1 (by rw [Str.empty_append,lZ];exact hz) λH' s'=>?_
 rw [Str.empty_append]
 exact q _ H' s' (Is.str _)
theorem b9B:Dp X (λx l u H Q=>∃z,x=.str z/\z.length<=sizeLine/\Q (.str (CV z l u)) H):=by
 intro pins s σ H x v vl vu lo hi sl Q I r hs pl pu h
 obtain ⟨z,rfl,hz,q⟩:=h
 obtain ⟨t,rfl⟩:=r
 have go:∀(l u:Option (Int×Tok)),s.heap.IsSlice sl l u none->Q (.str (CV z (l.map (·.1)) (u.map (·.1)))) H->∃T id,typeLookup (.type T) "__getitem__" = pure (some (.builtin id))/\s.TypeIs (.str z t) T/\wpAny (model X.prog X.w) X.A (getItem (.str z t) (.ref sl)) (EP X pins σ Q) X.xe s:=λl u hs q =>
  ⟨"str",_,F.slot_str_getitem.lookup,MG _ _ _,wpAny_getItem_str_slice (l:=l) (u:=u) (st:=none) hs rfl (post_val_or_str ⟨iZ (Txt.slice_le z _ _) hz,λt' k=>⟨.str _,H,I.tok k,⟨_,rfl⟩,q⟩⟩)⟩
 cases pl with
 | none=>cases pu with
  | none=>exact go none none hs q
  | int j u=>exact go none (some (j,u)) hs q
 | int i t'=>cases pu with
  | none=>exact go (some (i,t')) none hs q
  | int j u=>exact go (some (i,t')) (some (j,u)) hs q
noncomputable def qg(f:En->Option Sl)(lo hi:En->Option (Option Int)):En->Option Sl:=λenv=>(nC (f env)).bind λy=>(lo env).bind λl=>(hi env).bind λh=>if y.length<=16777216 then some (.sh (.str (CV y l h))) else none
theorem a9c{a:Expr}{fa:En->Option Sl}{lo hi:Option Expr}{fl fh:En->Option (Option Int)}{p2 pos:Pos}(ha:EV X a fa)(hl:PP X lo fl)(hh:PP X hi fh):EV X (.Subscript a (.Slice lo hi none p2) pos) (qg fa fl fh):=by
 obtain ⟨t,p,k⟩:=ha
 obtain ⟨tl,pl,kl⟩:=hl
 obtain ⟨th,ph,kh⟩:=hh
 refine ⟨_,b0R b9B p pl ph,λO B σ H env r Q R e q=>?_⟩
 obtain ⟨y,e1,e2⟩:=bind_some e
 obtain ⟨l,el,e3⟩:=bind_some e2
 obtain ⟨h,eh,e4⟩:=bind_some e3
 obtain ⟨hz,rfl⟩:=jg e4
 refine k O B σ H env _ _ R (EZ e1) λv H1 s1 r1=>?_
 obtain rfl:=pB r1
 refine kl O B σ H1 env l _ (R.grow s1) el λH2 s2=>?_
 refine kh O B σ H2 env h _ ((R.grow s1).grow s2) eh λH3 s3=>?_
 exact ⟨y,rfl,by rw [lZ];exact hz,q _ H3 ((s1.trans s2).trans s3) (Is.str _)⟩
noncomputable def V4(x:Str):It:=⟨λi _=>i<x.cps.size,λi H v H'=>H'=H/\∃c,x.cps[i]?=some c/\v=.str ⟨#[c]⟩,λi _=>x.cps.size<=i⟩
theorem b19{P:Program}{w:World}{K:aJ}{tg:Expr}(it:Addr)(x:Str)(t:Tok):Turn P w K tg (V4 x) [it] it (λi h=>h.IsStrIter it "str_ascii_iterator" x t i) where
 mem:=by simp
 obj:=λi h st b hb=>by
  have e:b=it:=by simpa using hb
  subst e
  obtain ⟨o,ho,hc,hd⟩:=st
  exact ⟨o,ho,λv z=>by rw [hd] at z;cases z⟩
 keep:=λi h h' st k=>by
  obtain ⟨o,ho,r⟩:=st
  exact ⟨o,k it (by simp) o ho,r⟩
 item:=by
  intro X hP hw hK hc i pins s σ H E I hf st hg
  subst hP hw hK
  obtain ⟨f0,f1,f2,f3,f4,f5⟩:=hf it (by simp)
  have W:=Walks.strAscii (prog:=X.prog) (w:=X.w) (I.ok.hd hc) it x t
  refine W.item i s _ _ hg st λv h' tk hv j7 kk=>?_
  obtain ⟨c,u,hx,rfl⟩:=hv
  have I1:Inv X pins σ H { s with heap:=h',toks:=tk }:=I.turned (λb o hb e=>kk b o (by simpa using hb) e) f0 f1 f3 f4 f5
  obtain ⟨o,ho,AN,hd⟩:=id j7
  exact ⟨_,rfl,EG (s:={ s with heap:=h',toks:=tk }) (n:="str_ascii_iterator") ho AN hd (by decide) ⟨.str ⟨#[c]⟩,H,I1,⟨u,rfl⟩,⟨rfl,c,hx,rfl⟩,j7,λb hb=>(hf b hb).1⟩⟩
 done:=by
  intro X hP hw hK hc i pins s σ H E I hf st hg
  subst hP hw hK
  obtain ⟨f0,f1,f2,f3,f4,f5⟩:=hf it (by simp)
  exact wpAny_pyNext_ascii_end (I.ok.hd hc) st (by have Rb:x.cps.size<=i:=hg;simpa using Rb) λh' eb=>⟨rfl,I.turned (t':=s.toks) (λb o hb e=>eb b o hb e) f0 f1 f3 f4 f5⟩
 self:=λ_ _ _ _ _ st h=>wpAny_pyIter_striter_ascii st h
theorem b7h{tg e:Expr}{t:TE}(h:PE X e t):PI X tg e (λσ H R=>t σ H λx H1=>∃z,x=.str z/\z.cps.all (·<128)=true/\R (V4 z) H1):=by
 intro pins s σ H R I hw
 refine cn (h pins s σ H _ I hw) λv s1 ⟨x,H1,I1,r1,q1⟩=>?_
 obtain ⟨z,rfl,ha,q⟩:=q1
 obtain ⟨u,rfl⟩:=r1
 refine wpAny_pyIter_ascii ha ?_
 refine ⟨s1.heap.objs.size,[s1.heap.objs.size],_,_,H1,rfl,I1.kept (t':=s1.toks) λb o e=>ft _ e,b19 _ z u,⟨_,j' _ rfl,rfl,rfl⟩,λb hb=>?_,q⟩
 have e:b=s1.heap.objs.size:=by simpa using hb
 subst e
 exact I1.qf (cT _) (I1.bE.fresh (cT _))
noncomputable def yZ(x:Str):List D:=x.cps.toList.map λc=>.str ⟨#[c]⟩
theorem b4d{K:aJ}{O:Addr->Prop}{H:Hp}(x:Str):EM K O (V4 x) H (yZ x):=λO' H2 _ _ i=>by
 refine ⟨λd hd=>?_,λhl=>show x.cps.size<=i by simpa [yZ] using hl⟩
 unfold yZ at hd
 rw [nj] at hd
 obtain ⟨c,hc,rfl⟩:=map_some hd
 have hi:i<x.cps.size:=by simpa using (ni.mp hc).1
 refine ⟨hi,λv H3 hy=>?_⟩
 obtain ⟨rfl,c',hx,rfl⟩:=hy
 have:c'=c:=by
  rw [<-Nk,hc] at hx
  exact (gY hx).symm
 subst this
 exact ⟨aE.refl _,Is.str _⟩
noncomputable def zN(f:En->Option Sl):En->Option (List D):=λenv=>(nC (f env)).bind λy=>if y.cps.all (·<128)=true then some (yZ y) else none
theorem b7I(h:EV X e fa):IV X tg e (zN fa):=by
 obtain ⟨t,p,k⟩:=h
 refine ⟨_,b7h p,λO B σ H env ds R Rl e q=>?_⟩
 obtain ⟨y,e1,e2⟩:=bind_some e
 obtain ⟨ha,rfl⟩:=jg e2
 refine k O B σ H env _ _ Rl (EZ e1) λv H1 s1 r1=>?_
 obtain rfl:=pB r1
 exact ⟨y,rfl,ha,q _ H1 s1 (b4d y)⟩
noncomputable def By(i:Nat):SF:=λenv=>match env[i]? with
 | some (.ow _)=>some (.nx,env.set i (.ow []))
 | _=>none
theorem b4n(hN:X.N[i]?=some x)(hv:ib X.env.scope x)(hd:(x==("__debug__":Str))=false)(cE:(x==("__classdict__":Str))=false)
  (bA:attributeBase (.Name x p1) "clear" X.env (eval (.Name x p1) X.env)=eval (.Name x p1) X.env)(bz:(p2.endLine==au.line)=true)
  (nJ:swapsWith (.Call (.Attribute (.Name x p1) "clear" p2) [] [] au) none pos.line X.env=pure false):SV X (.Expr (.Call (.Attribute (.Name x p1) "clear" p2) [] [] au) pos) (By i):=by
 refine ⟨_,Bi (NM ED XC PySem.F.type_list_clear b4L (pN hN hv hd cE) bA bz) nJ,λO B σ H env fl af D R e q=>?_⟩
 unfold By at e
 cases h:env[i]? with
 | none=>rw [h] at e;cases e
 | some s =>
  rw [h] at e
  cases s with
  | no=>cases e
  | sh d=>cases e
  | dw d=>cases e
  | tw _ _=>cases e
  | ow ds =>
   cases e
   obtain ⟨l,xs,f1,f2,f3,f4⟩:=R.ow i ds h
   refine ⟨_,f1,.inl ⟨rfl,_,iI.of f3⟩,⟨l,xs,rfl,rfl,f3,?_⟩⟩
   obtain ⟨R',g'⟩:=R.wr h f1 .nil
   exact q _ _ R' g'
theorem Fx.clr{N:List Str}{sc:Scope}{k:Nat}{full:Bool}{p1 p2 au pos:Pos}(h:Fx X N sc k full)(i:Nat){x:Str}(hN:N[i]?=some x:=by rfl)(hv:ib sc x:=by first | exact cZ rfl | exact cj (cZ rfl) | exact cj (cj rfl))(hd:(x==("__debug__":Str))=false:=by rfl)
  (cE:(x==("__classdict__":Str))=false:=by rfl)(bA:attributeBase (.Name x p1) "clear" X.env (eval (.Name x p1) X.env)=eval (.Name x p1) X.env:=by rfl)(bz:(p2.endLine==au.line)=true:=by rfl)
  (nJ:swapsWith (.Call (.Attribute (.Name x p1) "clear" p2) [] [] au) none pos.line X.env=pure false:=by rfl):
  SV X (.Expr (.Call (.Attribute (.Name x p1) "clear" p2) [] [] au) pos) (By i):=b4n (h.ix hN) (h.pT hv) hd cE bA bz nJ
noncomputable def Gj(f:En->Option Sl):En->Option Sl:=λenv=>(nC (f env)).bind λy=>if y.length<=16777216 then some (.sh (.int y.length)) else none
theorem b76(hg:Gl X "len")(hm:X.mg "len" = none)(ha:EV X a fa)(hs:starEach [a] X.env=[(false,eval a X.env)]:=by rfl):EV X (.Call (.Name "len" p) [a] [] pos) (Gj fa):=by
 obtain ⟨t,pt,k⟩:=ha
 refine ⟨_,Dh a9l hg hm RV (lj pt nv hs) (by decide) (by decide) hs rfl,λO B σ H env s Q R e q=>?_⟩
 obtain ⟨y,e1,e2⟩:=bind_some e
 obtain ⟨hz,rfl⟩:=jg e2
 refine k O B σ H env _ _ R (EZ e1) λv H1 s1 r1=>?_
 obtain rfl:=pB r1
 exact ⟨y,rfl,by rw [lZ];exact hz,q _ H1 s1 (Is.int _)⟩
end
end DL
namespace DL
open PySem PySem.Spec PyProof.Rows L2
section
variable {X X':Cx}
def LV(mg:Str->Option Value)(x:Str)(n:Int):Prop:=∃t,mg x=some (.int n t)
def LU(mg:Str->Option Value)(x y:Str):Prop:=∃t,mg x=some (.str y t)
theorem b06(hg:Gl X x)(hm:LV X.mg x n)(hd:(x==("__debug__":Str))=false:=by decide):EV X (.Name x pos) (eC (.int n)):=by
 obtain ⟨t,hm⟩:=hm
 refine ⟨_,Uq (v:=.int n) hg hm ⟨t,rfl⟩ hd,λO B σ H env s Q R e q=>?_⟩
 cases e
 exact q _ H (aE.refl _) (Is.int _)
theorem b5d(hg:Gl X x)(hm:LU X.mg x y)(hd:(x==("__debug__":Str))=false:=by decide):EV X (.Name x pos) (eC (.str y)):=by
 obtain ⟨t,hm⟩:=hm
 refine ⟨_,Uq (v:=.str y) hg hm ⟨t,rfl⟩ hd,λO B σ H env s Q R e q=>?_⟩
 cases e
 exact q _ H (aE.refl _) (Is.str _)
theorem Jn(e4:X'.mg=X.mg)(h:LU X.mg x y):LU X'.mg x y:=by rw [e4];exact h
end
section
variable {X:Cx}{N:List Str}{sc:Scope}{k:Nat}{full:Bool}{pos pos':Pos}{e:Expr}{fa:En->Option Sl}
noncomputable instance (i j:Int):Decidable (Cw i j):=by unfold Cw;infer_instance
end
end DL
namespace DL
open PySem PySem.Spec PyProof.Rows L2
section
variable {X X':Cx}
theorem Oa{α:Type}{c:Prop}[Decidable c]{o:Option α}{y:α}(h:(if c then o else none)=some y):c/\o=some y:=by
 split at h
 .exact ⟨‹c›,h⟩
 .cases h
noncomputable def uX:D->D->Option Sl
 | .str i,.str j=>some (.sh (.bl (!(Yf j i 0 j.length 1).isEmpty)))
 | _,_=>none
theorem b96:n5 X (compareOp .In) uX:=by
 refine ⟨_,b2J,λO H x y a b s Q hO hx hy e q=>?_⟩
 unfold uX at e
 split at e
 .cases e
  exact ⟨_,_,pB hx,pB hy,q _ H (aE.refl _) (Is.bl _)⟩
 .cases e
noncomputable def qh(fa fb:En->Option Sl):En->Option Sl:=λenv=>(nC (fa env)).bind λz=>match fb env with
 | some (.sh (.int i))=>if z.length<=16777216 then (gf z.cps.toList i).map λc=>.sh (.str ⟨#[c]⟩) else none
 | _=>none
theorem TN(ha:EV X a fa)(hb:EV X b fb)(hs:Ui b:=by exact λ_ _=>rfl):EV X (.Subscript a b pos) (qh fa fb):=by
 obtain ⟨t,p,k⟩:=ha
 obtain ⟨u,p',k'⟩:=hb
 refine ⟨_,YG Y2 p p' hs,λO B σ H env r Q R e q=>?_⟩
 obtain ⟨z,e1,e2⟩:=bind_some e
 split at e2
 .rename_i i e3
  obtain ⟨hz,e4⟩:=Oa e2
  obtain ⟨c,e5,rfl⟩:=map_some e4
  refine k O B σ H env _ _ R (EZ e1) λv H1 s1 r1=>?_
  obtain rfl:=pB r1
  refine k' O B σ H1 env _ _ (R.grow s1) e3 λw H2 s2 r2=>?_
  obtain rfl:=pA r2
  exact ⟨z,i,c,rfl,rfl,by rw [lZ];exact hz,e5,q _ H2 (s1.trans s2) (Is.str _)⟩
 .cases e2
def Po(K:aJ)(mg:Str->Option Value)(x:Str)(ys:List Str):Prop:=∃a:Addr,mg x=some (.ref a)/\jP K (λ_=>none) a (ys.map V.str)
theorem b00{K:aJ}{O:Addr->Prop}{H:Hp}:∀ys:List Str,aO K O H (ys.map V.str) (ys.map D.str)
 | []=>.nil
 | y::ys=>.cons (.str y) (b00 ys)
theorem b5c(hg:Gl X x)(hm:Po X.K X.mg x ys)(hd:(x==("__debug__":Str))=false:=by decide):EV X (.Name x pos) (eC (.tup (ys.map D.str))):=by
 obtain ⟨a,hm,hs⟩:=hm
 refine ⟨_,Uq (v:=.ref a) hg hm rfl hd,λO B σ H env s Q R e q=>?_⟩
 cases e
 exact q _ H (aE.refl _) (Is.lO hs (b00 ys))
theorem a8u:∀(ys:List (Str×Tok)),aF ((ys.map (·.1)).map V.str) (ys.map λp=>Ek p.1 p.2)
 | []=>.nil
 | y::ys=>.cons ⟨y.2,rfl⟩ (a8u ys)
theorem c0A{K:aJ}{mg:Str->Option Value}{x:Str}{a:Addr}{ys:List (Str×Tok)}{o:Obj}{n:Nat}(hm:mg x=some (.ref a))(hk:K.lookup a=some o)(hc:o.cls=.type "tuple")(hd:o.data=.seq (ys.map λp=>Ek p.1 p.2).toArray n)(hl:ys.length<=1000):Po K mg x (ys.map (·.1)):=
 ⟨a,hm,.inr ⟨o,_,n,hk,hc,hd,by rw [gZ,cP,lZ];omega,a8u ys⟩⟩
end
end DL
namespace TS
open PySem PyProof.Rows
section
variable {prog:Program}{w:World}{A:Around}{E:Value->Shared->Prop}{s:Shared}
theorem Hy{l0:Addr}{vs:List Value}{n:Nat}{P:PySem.Fin->Shared->Prop}{κ:SortKind}{R:Array Value->Prop}(Fz:s.heap.get? l0=some (seqObj "list" vs.toArray n))(hZ:vs.length<=sizeLine)(hR:vs.length<2->R vs.toArray)(hz:∀out,R out->out.size=vs.length)
  (run:∀S:Shared,(∀b o,b≠l0->s.heap.get? b=some o->S.heap.get? b=some o)->2<=vs.length->(∀{A:Around} {E:Value->Shared->Prop} {Q:SortKind->Shared->Prop},Q κ S->wpAny (model prog w) A (keyKind' vs.toArray) Q E S)/\∀{A:Around} {E:Value->Shared->Prop},wpS (model prog w) A E S sortRuns' (λ_ j7=>R ((arrOf j7).map (·.2))/\failedOf j7=none) (Sn κ (pairsOf vs) #[] 7 none))
  (h:∀out:Array Value,R out->P (.done (.ret .none)) { s with heap:=sortedHeap s.heap l0 vs out }):wpAny (model prog w) A (Builtin.«list.sort» ⟨[.ref l0],[]⟩) P E s:=by
 have iw:l0<s.heap.objs.size:=eD Fz
 obtain ⟨k1,W0⟩:∃k1,(s.heap.update l0 (rW λ_=>#[])).get? l0=some (seqObj "list" #[] k1):=⟨_,get?_update_seq Fz λ_=>#[]⟩
 rw [list_sort_plain]
 have Xc:vs.toArray.size<=sizeLine:=by rw [gZ];exact hZ
 have hZ2:vs.toArray.toList.length<=sizeLine:=Xc
 refine aI (listItems_at Fz rfl (aI (listUpdate_at (hsz:=Xc) Fz rfl (aI (seqEpoch_at W0 rfl (aI (wpAny_newTuple (hsz:=hZ2) (aI (wpAny_newList (rV ?_))))))))))
 have AJ:(((s.heap.update l0 (rW λ_=>#[])).push (seqObj "tuple" vs.toArray 0)).push (seqObj "list" #[] 0)).get? l0=some (seqObj "list" #[] k1):=ft _ (ft _ W0)
 have up:∀b o,b≠l0->s.heap.get? b=some o->(((s.heap.update l0 (rW λ_=>#[])).push (seqObj "tuple" vs.toArray 0)).push (seqObj "list" #[] 0)).get? b=some o:=λb o hb e =>
  ft _ (ft _ ((Kf _ _ (l5 hb)).trans e))
 dsimp only
 show wpAny _ _ _ _ _ { s with heap:=((s.heap.update l0 (rW λ_=>#[])).push (seqObj "tuple" vs.toArray 0)).push (seqObj "list" #[] 0) }
 generalize hS:({ s with heap:=((s.heap.update l0 (rW λ_=>#[])).push (seqObj "tuple" vs.toArray 0)).push (seqObj "list" #[] 0) }:Shared)=S
 have Xe:S.heap=((s.heap.update l0 (rW λ_=>#[])).push (seqObj "tuple" vs.toArray 0)).push (seqObj "list" #[] 0):=by rw [<-hS]
 have D1:S.heap.get? l0=some (seqObj "list" #[] k1):=by rw [Xe];exact AJ
 have ends:∀st:SortSt,R ((arrOf st).map (·.2))->failedOf st=none ->
   wpAny (model prog w) A (do
    let touched:=(<-seqEpoch l0) != k1
    Builtin.List.listUpdate (.ref l0) λ_=>(arrOf st).map (·.2)
    if let some e:=failedOf st then rule "list.sort.comparison-raised";throw e
    if touched then rule "list.sort.modified";raiseError "ValueError" "list modified during sort"
    ret .none) P E S:=λst hr hf=>by
  refine aI (seqEpoch_at D1 rfl (aI (listUpdate_at D1 rfl ?_ (hsz2:=?_))))
  .rw [hf]
   simp only [bne_self_eq_false,B9,if_false]
   refine b9 ?_
   have:=h _ hr
   rw [<-hS]
   exact this
  .rw [hz _ hr];omega
 have hsz:vs.toArray.size=vs.length:=by simp
 by_cases h2:vs.toArray.size<2
 .rw [if_pos h2]
  refine aI (b9 ?_)
  rw [if_pos h2,StateT.run_pure]
  refine aI (b9 ?_)
  refine ends (Sn general' (pairsOf vs) #[] 7 none) ?_ rfl
  have e:(pairsOf vs).map (·.2)=vs.toArray:=by
   apply SM.mp
   rw [Array.toList_map,pairsOf_toList,List.map_snd_zip (cT _)]
  show R ((pairsOf vs).map (·.2))
  rw [e]
  exact hR (by omega)
 .rw [if_neg h2]
  obtain ⟨r1,r2⟩:=run S (λb o hb e=>by rw [Xe];exact up b o hb e) (by omega)
  refine aI (r1 ?_)
  rw [if_neg h2]
  refine aI (lL r2 (λr s' hr=>?_) λ_ _ z=>z)
  obtain ⟨rfl,p1,p2⟩:=hr
  exact ends r.2 p1 p2
end
end TS
namespace KS
open PySem PySem.W PyProof.Rows
noncomputable def go{α:Type}(cmp:Nat->Nat->Bool):KasT α->α
 | .ret a=>a
 | .ask i j k=>go cmp (k (cmp i j))
theorem Gz{α β:Type}(cmp:Nat->Nat->Bool)(f:α->KasT β):∀t:KasT α,go cmp (t.bind f)=go cmp (f (go cmp t))
 | .ret a=>rfl
 | .ask i j k=>Gz cmp f (k (cmp i j))
section
variable (K:Nat->Int)
noncomputable def kI(p:Array Nat)(i:Nat):Int:=K (p.getD i 0)
def Cs(p:Array Nat)(k:Nat):Prop:=∀i j,i<=j->j<k->kI K p i<=kI K p j
def LK(p:Array Nat)(k:Nat):Prop:=∀i j,i<=j->j<k->kI K p j<=kI K p i
noncomputable abbrev jL(i j:Nat):Bool:=decide (K i<K j)
variable {K}
theorem Kq(h:p[i]?=q[j]?):kI K p i=kI K q j:=by
 unfold kI
 rw [Yo,Yo,h]
theorem TM(hj:j<=p.size)(k:Nat):kI K (mirror p i j ((j-i)/2)) k=if i<=k/\k<j then kI K p (i+j-1-k) else kI K p k:=by
 have e:=getElem?_mirror_all (i:=i) hj k
 by_cases h1:i<=k/\k<j
 .rw [if_pos h1] at e ⊢;exact Kq e
 .rw [if_neg h1] at e ⊢;exact Kq e
theorem K4(hj:j<=p.size)(he:∀k,i<=k->k<j->kI K p k=kI K p (j-1))(k:Nat):kI K (mirror p i j ((j-i)/2)) k=kI K p k:=by
 rw [TM hj]
 split
 .rw [he _ (by omega) (by omega),he k (by omega) (by omega)]
 .rfl
theorem A9:∀(f n:Nat),1<=n->Cs K p n->∃m,go (jL K) (kas_asc p f n)=m/\n<=m/\m<=n+f/\Cs K p m/\(m=n+f\/kI K p m<kI K p (m-1))
 | 0,n,_,hs=>⟨n,rfl,by lia,by lia,hs,.inl rfl⟩
 | f+1,n,hn,hs=>by
  unfold kas_asc
  show ∃m,go (jL K) (if decide (kI K p n<kI K p (n-1))=true then .ret n else kas_asc p f (n+1))=m/\_
  by_cases c:kI K p n<kI K p (n-1)
  .rw [if_pos (decide_eq_true c)]
   exact ⟨n,rfl,by lia,by lia,hs,.inr c⟩
  .rw [if_neg (by simpa using c)]
   obtain ⟨m,e,m1,m2,m3,m4⟩:=A9 f (n+1) (by lia) λi j tD hj=>by
    by_cases d:j<n
    .exact hs i j tD d
    .obtain rfl:j=n:=by lia
     by_cases d2:i=j
     .subst d2;exact Ep _
     .have:=hs i (j-1) (by lia) (by lia);lia
   exact ⟨m,e,by lia,by lia,m3,m4.elim (λz=>.inl (by lia)) .inr⟩
theorem desc:∀(f:Nat) (p:Array Nat) (n q:Nat),1<=n->n+f<=p.size->LK K p n->q+1<=n->(∀i,n-(q+1)<=i->i<n->kI K p i=kI K p (n-1)) ->
  ∃p' m q',go (jL K) (CS f p n q)=(p',m,q')/\p'.Perm p/\n<=m/\m<=n+f/\LK K p' m/\q'+1<=m/\∀i,m-(q'+1)<=i->i<m->kI K p' i=kI K p' (m-1)
 | 0,p,n,q,_,_,hs,hq,he=>⟨p,n,q,rfl,JU _,by lia,by lia,hs,hq,he⟩
 | f+1,p,n,q,hn,hz,hs,hq,he=>by
  have next:∀p':Array Nat,(∀k,kI K p' k=kI K p k)->kI K p n<=kI K p (n-1)->LK K p' (n+1):=λp' hk hl i j tD hj=>by
   rw [hk,hk]
   by_cases d:j<n
   .exact hs i j tD d
   .obtain rfl:j=n:=by lia
    by_cases d2:i=j
    .subst d2;exact Ep _
    .have:=hs i (j-1) (by lia) (by lia);lia
  unfold CS
  show ∃p' m q',go (jL K) (if decide (kI K p n<kI K p (n-1))=true then (if q>0 then CS f (tU p (n-(q+1)) n) (n+1) 0 else CS f p (n+1) 0) else .ask (p.getD (n-1) 0) (p.getD n 0) λd=>if d=true then .ret (p,n,q) else CS f p (n+1) (q+1))=(p',m,q')/\_
  by_cases c:kI K p n<kI K p (n-1)
  .rw [if_pos (decide_eq_true c)]
   by_cases cq:q>0
   .rw [if_pos cq]
    obtain ⟨p',m,q',e,k1,k2,k3,k4,k5,k6⟩:=desc f (tU p (n-(q+1)) n) (n+1) 0 (by lia) (by unfold tU;rw [mirror_size];lia) (next _ (K4 (by lia) he) (by lia)) (by lia) λi h1 h2=>by congr 1;lia
    exact ⟨p',m,q',e,k1.trans (CT _ _ _ _),by lia,by lia,k4,k5,k6⟩
   .rw [if_neg cq]
    obtain ⟨p',m,q',e,k1,k2,k3,k4,k5,k6⟩:=desc f p (n+1) 0 (by lia) (by lia) (next _ (λ_=>rfl) (by lia)) (by lia) λi h1 h2=>by congr 1;lia
    exact ⟨p',m,q',e,k1,by lia,by lia,k4,k5,k6⟩
  .rw [if_neg (by simpa using c)]
   show ∃p' m q',go (jL K) (if decide (kI K p (n-1)<kI K p n)=true then .ret (p,n,q) else CS f p (n+1) (q+1))=(p',m,q')/\_
   by_cases c2:kI K p (n-1)<kI K p n
   .rw [if_pos (decide_eq_true c2)]
    exact ⟨p,n,q,rfl,JU _,by lia,by lia,hs,hq,he⟩
   .rw [if_neg (by simpa using c2)]
    have heq:kI K p n=kI K p (n-1):=by lia
    obtain ⟨p',m,q',e,k1,k2,k3,k4,k5,k6⟩:=desc f p (n+1) (q+1) (by lia) (by lia) (next _ (λ_=>rfl) (by lia)) (by lia) λi h1 h2=>by
     rw [show n+1-1=n by lia]
     by_cases d:i=n
     .subst d;rfl
     .rw [heq];exact he i (by lia) (by lia)
    exact ⟨p',m,q',e,k1,by lia,by lia,k4,k5,k6⟩
theorem Zw(h1:1<=n)(hn:n<=nrem)(hz:nrem<=p.size)(hs:LK K p n):∃m p',go (jL K) (kas_tail3 n nrem p)=(m,p')/\p'.Perm p/\1<=m/\m<=nrem/\Cs K p' m:=by
 unfold kas_tail3
 rw [Gz]
 obtain ⟨m,e,m1,m2,m3,_⟩:=A9 (K:=K) (p:=tU p 0 n) (nrem-n) n h1 λi j tD hj=>by
  unfold tU
  rw [TM (by lia),TM (by lia),if_pos (by lia),if_pos (by lia)]
  exact hs _ _ (by lia) (by lia)
 rw [e]
 exact ⟨m,_,rfl,CT _ _ _ _,by lia,by lia,m3⟩
theorem Yu(hn:n+1<=nrem)(hz:nrem<=p.size)(hs:LK K p (n+1)):∃m p',go (jL K) (JQ n nrem p)=(m,p')/\p'.Perm p/\1<=m/\m<=nrem/\Cs K p' m:=by
 unfold JQ
 rw [Gz]
 obtain ⟨p',m,q',e,k1,k2,k3,k4,k5,k6⟩:=desc (K:=K) (nrem-(n+1)) p (n+1) 0 (by lia) (by lia) hs (by lia) λi h1 h2=>by congr 1;lia
 have Fy:p'.size=p.size:=k1.size_eq
 rw [e]
 dsimp only
 by_cases c:q'>0
 .rw [if_pos c]
  obtain ⟨a,b,e2,j1,j2,j3,j4⟩:=Zw (K:=K) (p:=tU p' (m-(q'+1)) m) (n:=m) (nrem:=nrem) (by lia) (by lia) (by unfold tU;rw [mirror_size];lia) λi j tD hj=>by
   unfold tU
   rw [K4 (by lia) k6,K4 (by lia) k6]
   exact k4 i j tD hj
  exact ⟨a,b,e2,j1.trans ((CT _ _ _ _).trans k1),j2,j3,j4⟩
 .rw [if_neg c]
  obtain ⟨a,b,e2,j1,j2,j3,j4⟩:=Zw (K:=K) (p:=p') (n:=m) (nrem:=nrem) (by lia) (by lia) (by lia) k4
  exact ⟨a,b,e2,j1.trans k1,j2,j3,j4⟩
theorem cnt(h1:1<=nrem)(hz:nrem<=p.size):∃m p',go (jL K) (kas_count nrem p)=(m,p')/\p'.Perm p/\1<=m/\m<=nrem/\Cs K p' m:=by
 unfold kas_count
 rw [Gz]
 obtain ⟨n,e,n1,n2,n3,n4⟩:=A9 (K:=K) (p:=p) (nrem-1) 1 (by lia) λi j tD hj=>by
  obtain rfl:i=j:=by lia
  exact Ep _
 rw [e]
 by_cases c:n=nrem
 .rw [if_pos (by simpa using c)]
  exact ⟨n,p,rfl,JU _,n1,by lia,n3⟩
 rw [if_neg (by simpa using c)]
 have iw:kI K p n<kI K p (n-1):=n4.resolve_left (by lia)
 by_cases c2:n>1
 .rw [if_pos c2]
  show ∃m p',go (jL K) (if decide (kI K p 0<kI K p (n-1))=true then .ret (n,p) else JQ n nrem (tU p 0 n))=(m,p')/\_
  by_cases c3:kI K p 0<kI K p (n-1)
  .rw [if_pos (decide_eq_true c3)]
   exact ⟨n,p,rfl,JU _,n1,by lia,n3⟩
  .rw [if_neg (by simpa using c3)]
   have rG:∀k,0<=k->k<n->kI K p k=kI K p (n-1):=λk _ hk=>by
    have:=n3 0 k (by lia) hk
    have:=n3 k (n-1) (by lia) (by lia)
    lia
   obtain ⟨a,b,e2,j1,j2,j3,j4⟩:=Yu (K:=K) (p:=tU p 0 n) (n:=n) (nrem:=nrem) (by lia) (by unfold tU;rw [mirror_size];lia) λi j tD hj=>by
    unfold tU
    rw [K4 (by lia) rG,K4 (by lia) rG]
    by_cases d:j<n
    .rw [rG i (by lia) (by lia),rG j (by lia) d];exact Ep _
    .obtain rfl:j=n:=by lia
     by_cases d2:i=j
     .subst d2;exact Ep _
     .rw [rG i (by lia) (by lia)];lia
   exact ⟨a,b,e2,j1.trans (CT _ _ _ _),j2,j3,j4⟩
 .rw [if_neg c2]
  obtain rfl:n=1:=by lia
  exact Yu (K:=K) (by lia) hz λi j tD hj=>by
   by_cases d:i=j
   .subst d;exact Ep _
   .obtain ⟨rfl,rfl⟩:i=0/\j=1:=by lia
    exact Int.le_of_lt iw
theorem place(hs:Cs K p k):∀(f l r:Nat),l<=r->r<=k->r-l<=f->(∀i,i<l->kI K p i<=kI K p k)->(∀i,r<=i->i<k->kI K p k<kI K p i) ->
  ∃m,go (jL K) (FO p k f l r)=m/\m<=k/\(∀i,i<m->kI K p i<=kI K p k)/\∀i,m<=i->i<k->kI K p k<kI K p i
 | 0,l,r,h1,h2,h3,h4,h5=>by
  obtain rfl:l=r:=by lia
  exact ⟨l,rfl,h2,h4,h5⟩
 | f+1,l,r,h1,h2,h3,h4,h5=>by
  unfold FO
  by_cases c:l≥r
  .rw [if_pos c]
   obtain rfl:l=r:=by lia
   exact ⟨l,rfl,h2,h4,h5⟩
  .rw [if_neg c]
   show ∃m,go (jL K) (if decide (kI K p k<kI K p ((l+r)/2))=true then FO p k f l ((l+r)/2) else FO p k f ((l+r)/2+1) r)=m/\_
   by_cases c2:kI K p k<kI K p ((l+r)/2)
   .rw [if_pos (decide_eq_true c2)]
    exact place hs f l _ (by lia) (by lia) (by lia) h4 λi z1 z2=>by
     have:=hs ((l+r)/2) i z1 z2;lia
   .rw [if_neg (by simpa using c2)]
    exact place hs f _ r (by lia) (by lia) (by lia) (λi z=>by
     have:=hs i ((l+r)/2) (by lia) (by lia);lia) h5
theorem bin:∀(f:Nat) (p:Array Nat) (k:Nat),1<=k->k+f<=p.size->Cs K p k->∃p',go (jL K) (kas_bin f p k)=p'/\p'.Perm p/\Cs K p' (k+f)
 | 0,p,k,_,_,hs=>⟨p,rfl,JU _,hs⟩
 | f+1,p,k,hk,hz,hs=>by
  unfold kas_bin
  rw [Gz]
  obtain ⟨l,e,l1,l2,l3⟩:=place (K:=K) hs k 0 k (by lia) (by lia) (by lia) (λi z=>by lia) λi z1 z2=>by lia
  rw [e]
  have hb:=getElem?_bubble (xs:=p) (src:=k) (by lia) (k-l) (by lia)
  rw [show k-(k-l)=l by lia] at hb
  have kb:∀m,kI K (bubble p k (k-l)) m=if m=l then kI K p k else if l<m/\m<=k then kI K p (m-1) else kI K p m:=λm=>by
   have e:=hb m
   by_cases c1:m=l
   .rw [if_pos c1] at e ⊢;exact Kq e
   .rw [if_neg c1] at e ⊢
    by_cases c2:l<m/\m<=k
    .rw [if_pos c2] at e ⊢;exact Kq e
    .rw [if_neg c2] at e ⊢;exact Kq e
  obtain ⟨p',e',j1,j2⟩:=bin f (bubble p k (k-l)) (k+1) (by lia) (by rw [bubble_size];lia) λi j tD hj=>by
   rw [kb,kb]
   repeat' split
   all_goals first
    | (exfalso;lia)
    | exact Ep _
    | exact l2 _ (by lia)
    | exact Int.le_of_lt (l3 _ (by lia) (by lia))
    | exact hs _ _ (by lia) (by lia)
  exact ⟨p',e',j1.trans (bubble_perm _ _ _),by rw [show k+(f+1)=k+1+f by lia];exact j2⟩
noncomputable def ord(K:Nat->Int)(n:Nat):List Nat:=(go (jL K) (JP n)).toList
theorem zj(K:Nat->Int)(n:Nat)(h:1<=n):(ord K n).Perm (jB n)/\(ord K n).Pairwise λi j=>K i<=K j:=by
 have key:∃p',go (jL K) (JP n)=p'/\p'.Perm (Sf (jB n))/\Cs K p' n:=by
  unfold JP
  rw [Gz]
  obtain ⟨m,p,e,k1,k2,k3,k4⟩:=cnt (K:=K) (p:=Sf (jB n)) (nrem:=n) h (by simp)
  rw [e]
  dsimp only
  have hz:p.size=n:=by rw [k1.size_eq];simp
  by_cases c:m<n
  .rw [if_pos c]
   obtain ⟨p',e',j1,j2⟩:=bin (K:=K) (n-max m 1) p (max m 1) (by lia) (by lia) (by rw [show max m 1=m by lia];exact k4)
   exact ⟨p',e',j1.trans k1,by rw [show max m 1+(n-max m 1)=n by lia] at j2;exact j2⟩
  .rw [if_neg c]
   obtain rfl:m=n:=by lia
   exact ⟨p,rfl,k1,k4⟩
 obtain ⟨p,e,k1,k2⟩:=key
 unfold ord
 rw [e]
 refine ⟨X3.mp k1,XZ.mpr λi j hi hj tD=>?_⟩
 have hz:p.size=n:=by rw [k1.size_eq];simp
 simp only [tW] at hi hj
 have:=k2 i j (by lia) (by lia)
 unfold kI at this
 simpa [hi,hj] using this
end
end KS
namespace KS
open PySem PySem.W PyProof.Rows
noncomputable def Ok{α:Type}(n:Nat)(R:α->Prop):KasT α->Prop
 | .ret a=>R a
 | .ask i j k=>i<n/\j<n/\∀b,Ok n R (k b)
theorem Ok.bind{α β:Type}{n:Nat}{R:α->Prop}{S:β->Prop}{f:α->KasT β}(hf:∀a,R a->Ok n S (f a)):∀{t:KasT α},Ok n R t->Ok n S (t.bind f)
 | .ret a,h=>hf a h
 | .ask i j k,h=>⟨h.1,h.2.1,λb=>Ok.bind hf (h.2.2 b)⟩
theorem Cy{α:Type}{n:Nat}{cm:Nat->Nat->(Bool->Shared->Prop)->Shared->Prop}{cmp:Nat->Nat->Bool}{s:Shared}(h:∀i j,i<n->j<n->∀Q,Q (cmp i j) s->cm i j Q s){R:α->Prop}{Q:α->Shared->Prop}:∀{t:KasT α},Ok n R t->Q (go cmp t) s->t.kasWp cm Q s
 | .ret _,_,q=>q
 | .ask i j k,o,q=>h i j o.1 o.2.1 _ (Cy h (o.2.2 (cmp i j)) q)
section
variable {n:Nat}
def En(n:Nat)(p:Array Nat):Prop:=∀k,p.getD k 0<n
theorem En.perm(h0:0<n)(h:En n p)(e:q.Perm p):En n q:=λk=>by
 by_cases hk:k<q.size
 .have hm:q[k]∈p.toList:=(X3.mp e).mem_iff.mp (by simp)
  obtain ⟨i,hi,e2⟩:=Gc.mp hm
  have:=h i
  rw [tW] at hi
  simp only [A5,hi,hk,dite_true] at this ⊢
  simp at e2
  have e3:q[k]=p[i]:=e2.symm
  show q[k]<n
  rw [e3]
  exact this
 .simp [A5,hk,h0]
theorem T5{p:Array Nat}(h:En n p):∀f m,Ok n (λ_=>True) (kas_asc p f m)
 | 0,m=>trivial
 | f+1,m=>by
  unfold kas_asc
  refine ⟨h _,h _,λb=>?_⟩
  dsimp only
  split
  .trivial
  .exact T5 h f (m+1)
theorem N0(h0:0<n):∀f (p:Array Nat) m q,En n p->Ok n (λr=>En n r.1) (CS f p m q)
 | 0,p,m,q,h=>h
 | f+1,p,m,q,h=>by
  unfold CS
  refine ⟨h _,h _,λb=>?_⟩
  dsimp only
  split
  .split
   .exact N0 h0 f _ _ _ (h.perm h0 (CT _ _ _ _))
   .exact N0 h0 f _ _ _ h
  .refine ⟨h _,h _,λb=>?_⟩
   dsimp only
   split
   .exact h
   .exact N0 h0 f _ _ _ h
theorem b0U(h0:0<n)(h:En n p)(a b:Nat):Ok n (λr=>En n r.2) (kas_tail3 a b p):=by
 unfold kas_tail3
 have e:En n (tU p 0 a):=h.perm h0 (CT _ _ _ _)
 exact (T5 e _ _).bind λm _=>(show Ok n (λr:Nat×Array Nat=>En n r.2) (.ret (m,tU p 0 a)) from e)
theorem b0V(h0:0<n)(h:En n p)(a b:Nat):Ok n (λr=>En n r.2) (JQ a b p):=by
 unfold JQ
 refine (N0 h0 _ _ _ _ h).bind λr hr=>?_
 split
 .exact b0U h0 (hr.perm h0 (CT _ _ _ _)) _ _
 .exact b0U h0 hr _ _
theorem b4G(h0:0<n)(h:En n p)(b:Nat):Ok n (λr=>En n r.2) (kas_count b p):=by
 unfold kas_count
 refine (T5 h _ _).bind λm _=>?_
 split
 .exact h
 .split
  .refine ⟨h _,h _,λb=>?_⟩
   dsimp only
   split
   .exact h
   .exact b0V h0 (h.perm h0 (CT _ _ _ _)) _ _
  .exact b0V h0 h _ _
theorem UJ{p:Array Nat}(h:En n p)(k:Nat):∀f l r,Ok n (λ_=>True) (FO p k f l r)
 | 0,l,r=>trivial
 | f+1,l,r=>by
  unfold FO
  split
  .trivial
  .refine ⟨h _,h _,λb=>?_⟩
   dsimp only
   split
   .exact UJ h k f _ _
   .exact UJ h k f _ _
theorem Y9(h0:0<n):∀f (p:Array Nat) k,En n p->Ok n (λ_=>True) (kas_bin f p k)
 | 0,p,k,h=>trivial
 | f+1,p,k,h=>by
  unfold kas_bin
  exact (UJ h k _ _ _).bind λl _=>Y9 h0 f _ _ (h.perm h0 (bubble_perm _ _ _))
theorem BE(h0:0<n):Ok n (λ_=>True) (JP n):=by
 unfold JP
 have e:En n (Sf (jB n)):=λk=>by
  by_cases hk:k<n
  .simp [A5,hk]
  .simp [A5,hk,h0]
 refine (b4G h0 e n).bind λr hr=>?_
 split
 .exact Y9 h0 _ _ _ hr
 .trivial
end
end KS
namespace SE
open PySem PyProof.Rows
def ma(l:List Nat):Prop:=l.Pairwise (·<·)
theorem ma.lt{xs:Array Nat}(h:ma xs.toList){a b d:Nat}(Rk:a<b)(hb:b<xs.size):xs.getD a d<xs.getD b d:=by
 have ha:a<xs.size:=CZ Rk hb
 have:=(XZ.mp h) a b (by simpa using ha) (by simpa using hb) Rk
 simp only [S'] at this
 simpa [A5,ha,hb] using this
structure Bl(xs:Array Nat)(j r:Nat):Prop where
 le:r<=xs.size
 lo:∀k,k<r->xs.getD k j<j
 hi:∀k,r<=k->k<xs.size->j<=xs.getD k j
theorem Tw{xs:Array Nat}{j:Nat}(hr:ma xs.toList):∀(n lo hi:Nat),hi-lo<=n->lo<=hi->hi<=xs.size->(∀k,k<lo->xs.getD k j<j)->(∀k,hi<=k->k<xs.size->j<=xs.getD k j)->Bl xs j (XT xs j n lo hi)
 | 0,lo,hi,a,b,c,d,e=>by
  have:lo=hi:=by omega
  subst this
  exact ⟨c,d,e⟩
 | n+1,lo,hi,a,b,c,d,e=>by
  unfold XT
  split
  .rename_i iw
   dsimp only
   split
   .rename_i hm
    refine Tw hr n _ _ (by omega) (by omega) c (λk hk=>?_) e
    rcases MS k ((lo+hi)/2) with q | q
    .exact CZ (hr.lt q (by omega)) hm
    .rw [show k=(lo+hi)/2 by omega];exact hm
   .rename_i hm
    refine Tw hr n _ _ (by omega) (by omega) (by omega) d (λk hk hs=>?_)
    rcases MS ((lo+hi)/2) k with q | q
    .exact FU (MW (Nat.not_lt.mp hm) (hr.lt q hs))
    .rw [show k=(lo+hi)/2 by omega];exact Nat.not_lt.mp hm
  .have:lo=hi:=by omega
   subst this
   exact ⟨c,d,e⟩
theorem b1h{xs:Array Nat}(hr:ma xs.toList)(j:Nat):Bl xs j (z8 xs j):=
 Tw hr _ _ _ (cT _) (vF _) (cT _) (λ_ h=>absurd h (M8 _)) λk h h'=>absurd h' (by omega)
theorem b4v{xs:Array Nat}(hr:ma xs.toList){j:Nat}(hj:(xs[z8 xs j]?==some j)=false):ma (SetTable.insertAt xs (z8 xs j) j).toList:=by
 have B:=b1h hr j
 generalize z8 xs j=r at B hj
 rw [SetTable.toList_insertAt]
 have e1:xs.toList=xs.toList.take r++xs.toList.drop r:=(XF r _).symm
 have p:=hr
 unfold ma at p
 rw [e1,XB] at p
 have lo:∀a∈xs.toList.take r,a<j:=λa ha=>by
  obtain ⟨k,hk,e⟩:=Gc.mp ha
  rw [JZ] at hk
  rw [List.getElem_take] at e
  have FA:k<xs.size:=by simp at hk;omega
  have:=B.lo k (by omega)
  simp only [S'] at e
  simp only [A5,FA,dif_pos] at this
  rw [<-e];exact this
 have hi:∀a∈xs.toList.drop r,j<a:=λa ha=>by
  obtain ⟨k,hk,e⟩:=Gc.mp ha
  rw [SQ] at hk
  rw [List.getElem_drop] at e
  have FA:r+k<xs.size:=by simp at hk;omega
  have h1:=B.hi (r+k) (by omega) FA
  simp only [S'] at e
  simp only [A5,FA,dif_pos] at h1
  have h1:j<=a:=by rw [<-e];exact h1
  rcases Nat.lt_or_eq_of_le h1 with q | q
  .exact q
  .exfalso
   rcases SD k with z | z
   .subst z
    rw [Ga (by omega:r<xs.size)] at hj
    have e':xs[r]'(by omega)=j:=by rw [q];exact e
    rw [e'] at hj
    simp at hj
   .have:=hr.lt (d:=j) (show r<r+k by omega) FA
    have h2:=B.hi r (cT _) (by omega)
    have h3:xs.getD (r+k) j=a:=by simp only [A5,FA,dif_pos];exact e
    omega
 show RR _ _
 first
 | (refine XB.mpr ⟨p.1,F2.mpr ⟨hi,p.2.1⟩,λa ha b hb=>?_⟩
    rcases ej.mp hb with q | q
    .rw [q];exact lo a ha
    .exact p.2.2 a ha b q)
structure Tb(bt:Bool)(t:SetTable):Prop where
 led:t.led=true\/bt=true
 RJ:t.dummies=#[]
 rise:t.plain=true->ma t.place.toList
theorem b4k(bt:Bool):Tb bt (.fresh 0 0 (!bt)):=⟨by cases bt<;>simp [SetTable.fresh],rfl,λ_=>Kg⟩
theorem Tb.sv{bt:Bool}{t:SetTable}(h:Tb bt t)(n:Nat):Tb bt (t.standIn n):=⟨h.led,rfl,λz=>absurd z (by simp [SetTable.standIn])⟩
theorem Tb.off{bt:Bool}{t:SetTable}(h:Tb bt t):Tb bt { t with plain:=false }:=⟨h.led,h.RJ,λz=>absurd z (by simp)⟩
theorem Zz(j:Nat):SetTable.has #[] j=false:=by simp [SetTable.has]
theorem a7q{t:SetTable}(hd:t.dummies=#[])(f:Nat->Int)(h:Int):∀(n:Nat) (p:XG) (j:Nat) (q:Option Nat),p.dummy=none->Ss t f h n p=some (.empty j q)->q=none/\(t.place[z8 t.place j]?==some j)=false
 | 0,p,j,q,_,e=>by simp [Ss] at e
 | n+1,p,j,q,hp,e=>by
  have ad:∀p:XG,(t.advance p).dummy=p.dummy:=λp=>by unfold SetTable.advance;split<;>rfl
  unfold Ss at e
  unfold SetTable.slot at e
  rw [hd,Zz] at e
  dsimp only at e
  by_cases hl:(t.place[z8 t.place p.j]?==some p.j)=true
  .rw [if_pos hl] at e
   dsimp only at e
   split at e
   .simp at e
   .exact a7q hd f h n _ j q (by rw [ad];exact hp) e
  .rw [if_neg hl] at e
   simp only [B9,if_false,iH,SetTable.Met.empty.injEq] at e
   obtain ⟨rfl,rfl⟩:=e
   exact ⟨hp,Bool.eq_false_iff.mpr hl⟩
theorem Tb.lay{bt:Bool}{t:SetTable}(T:Tb bt t)(es:Array (Int×Value))(h:Int)(x:Value):Tb bt (layNew t es h x).2.1:=by
 unfold layNew
 cases hf:t.freeSlot h with
 | none=>exact T.sv _
 | some z =>
  obtain ⟨slot,wd⟩:=z
  dsimp only
  have key:wd=false/\(t.place[z8 t.place slot]?==some slot)=false:=by
   unfold SetTable.freeSlot SetTable.probe at hf
   split at hf
   .rename_i j q e
    obtain ⟨rfl,b⟩:=a7q T.RJ _ _ _ _ j q rfl e
    simp only [SO,Option.isSome_none,iH,Prod.mk.injEq] at hf
    obtain ⟨rfl,rfl⟩:=hf
    exact ⟨rfl,b⟩
   .cases hf
  show Tb bt ((t.put slot).1.orStandIn _)
  have hp:Tb bt (t.put slot).1:=by
   unfold SetTable.put
   refine ⟨T.led,?_,λz=>?_⟩
   .dsimp only;rw [T.RJ,Zz];rfl
   .exact b4v (T.rise z) key.2
  unfold SetTable.orStandIn
  split
  .exact hp
  .exact hp.sv _
theorem Tb.HI{bt:Bool}{t:SetTable}(T:Tb bt t)(es:Array (Int×Value))(n:Nat):Tb bt (relayAll t es n).2.1:=by
 unfold relayAll
 cases hf:t.relaid (es.map (·.1)) n with
 | none=>exact T.sv _
 | some z =>
  obtain ⟨t',order⟩:=z
  dsimp only
  split
  .show Tb bt t'
   unfold SetTable.relaid SetTable.laid at hf
   simp only [Option.bind_eq_bind,Option.bind_eq_some_iff] at hf
   obtain ⟨ow,_,e⟩:=hf
   simp only [Option.pure_def,iH,Prod.mk.injEq] at e
   obtain ⟨rfl,_⟩:=e
   refine ⟨T.led,rfl,λ_=>?_⟩
   show ma _
   unfold ma
   dsimp only
   have sub:List.Sublist (((jB (SA n-1+1)).filterMap λj=>(ow.getD j none).map (j,·)).map (·.1)) (jB (SA n-1+1)):=by
    generalize jB (SA n-1+1)=l
    induction l with
    | nil=>exact List.Sublist.slnil
    | cons a l ih =>
     rw [Gb]
     cases ow.getD a none with
     | none=>exact ih.cons _
     | some k=>exact ih.cons₂ _
   exact List.Pairwise.sublist sub List.pairwise_lt_range
  .exact T.sv _
end SE
namespace SE
open PySem PyProof.Rows PySem.Calls
theorem Ob{α β:Type}{f:α->β}{l m:List β}(h:l.Perm m):∀ts:List α,m=ts.map f->∃us:List α,us.Perm ts/\l=us.map f:=by
 induction h with
 | nil=>intro ts e;exact ⟨[],by rw [List.map_eq_nil_iff.mp e.symm],rfl⟩
 | cons a _ ih =>
  intro ts e
  obtain ⟨b,Ws,rfl,rfl,rfl⟩:=S9.mp e.symm
  obtain ⟨us,p,rfl⟩:=ih Ws rfl
  exact ⟨b::us,p.cons _,rfl⟩
 | swap a b l =>
  intro ts e
  obtain ⟨x,Ws,rfl,rfl,e'⟩:=S9.mp e.symm
  obtain ⟨y,PQ,rfl,rfl,rfl⟩:=S9.mp e'
  exact ⟨y::x::PQ,XU ..,rfl⟩
 | trans _ _ i1 i2 =>
  intro ts e
  obtain ⟨us,p,e1⟩:=i2 ts e
  obtain ⟨vs,q,e2⟩:=i1 us e1
  exact ⟨vs,q.trans p,e2⟩
section
variable {prog:Program}{w:World}{K:Type}[DecidableEq K]{knd:KeyKind prog w K}{A:Around}{E:Value->Shared->Prop}{s:Shared}
noncomputable def tX(w:World):Bool:=w.params.followText "set-order"
def El(knd:KeyKind prog w K)(q:K×Int×Value):Prop:=knd.is q.1 q.2.2=true/\q.2.1=knd.hash q.1/\q.2.2.scannable=true
structure Sd(knd:KeyKind prog w K)(es:Array (Int×Value))(t:SetTable)(ff:List (K×Int×Value)):Prop where
 BX:es.toList=ff.map (·.2)
 el:∀q∈ff,El knd q
 fits:t.fits es.size=true
 tb:Tb (tX w) t
 lt:es.size<scanBound
theorem Sd.of{es:Array (Int×Value)}{t:SetTable}{ff:List (K×Int×Value)}(S:Sd knd es t ff):ElemsOf knd es.toList:=by
 rw [S.BX]
 intro e he
 obtain ⟨q,hq,rfl⟩:=pd.mp he
 obtain ⟨a,b,c⟩:=S.el q hq
 exact ⟨⟨q.1,a,b⟩,c⟩
theorem Sd.len{es:Array (Int×Value)}{t:SetTable}{ff:List (K×Int×Value)}(S:Sd knd es t ff):es.size=ff.length:=by
 rw [<-tW,S.BX,cP]
def Sa(knd:KeyKind prog w K)(o:Obj)(ks:List K):Prop:=o.ExactSet/\∃es ep t ff,o.data=.set es ep t/\Sd knd es t ff/\ks=ff.map (·.1)
theorem Zp{a:Addr}{o:Obj}{es:Array (Int×Value)}{ep:Nat}{t:SetTable}(ho:s.heap.get? a=some o)(hd:o.data=.set es ep t)(tE:Array (Int×Value))(t':SetTable):
  (s.heap.update a (ML tE t')).get? a=some { o with data:=.set tE (ep+1) t' }:=by
 have:=Nl (ML tE t') ho (by rw [putSet_of tE t' hd];rfl)
 rwa [putSet_of tE t' hd] at this
theorem ZZ{g:Bool->Sem Unit}(hg:∀(b:Bool) (aT:Shared) (Q':Unit->Shared->Prop),Q' () aT->wpAny (model prog w) A (g b) Q' E aT)
  {a:Addr}{o:Obj}{es:Array (Int×Value)}{ep:Nat}{t:SetTable}(ho:s.heap.get? a=some o)(hex:o.ExactSet)(hd:o.data=.set es ep t)
  {mh:Array (Int×Value)}{t2:SetTable}{ff:List (K×Int×Value)}(S:Sd knd mh t2 ff){wd:Bool}{R:Option Bool->Shared->Prop}
  (h:∀h' o' ks',Aa a s.heap h'->h'.get? a=some o'->Sa knd o' ks'->ks'.Perm (ff.map (·.1))->R (some true) { s with heap:=h' }):
  wpAny (model prog w) A (storeSet a mh t2 >>= λ_=>if (!wd&&t2.tooFull)=true then (g (relayAll t2 mh (Ex mh.size)).2.2 >>= λ_=>storeSet a (relayAll t2 mh (Ex mh.size)).1 (relayAll t2 mh (Ex mh.size)).2.1 >>= λ_=>pure (some true)) else pure (some true)) R E s:=by
 refine aI (wpAny_storeSet_of ho hd ?_ (FW S.lt))
 have o1:=Zp ho hd mh t2
 have sb:=Xw s.heap a (ML mh t2)
 split
 .have p:=relayAll_perm t2 mh (Ex mh.size)
  have f:=relayAll_fits t2 mh (Ex mh.size)
  have T:=S.tb.HI mh (Ex mh.size)
  generalize relayAll t2 mh (Ex mh.size)=rl at p f T ⊢
  obtain ⟨RE,t3,gv⟩:=rl
  dsimp only at p f T ⊢
  obtain ⟨us,pu,eu⟩:=Ob p ff S.BX
  have z:RE.size=mh.size:=by rw [<-tW,p.length_eq,tW]
  have S2:Sd knd RE t3 us:=⟨eu,λq hq=>S.el q (pu.mem_iff.mp hq),f,T,by rw [z];exact S.lt⟩
  refine aI (hg _ _ _ ?_)
  refine aI (wpAny_storeSet_of o1 rfl ?_ (FW S2.lt))
  exact b9 (h _ _ _ (sb.trans (Xw _ a _)) (Zp (s:={ s with heap:=s.heap.update a (ML mh t2) }) o1 rfl RE t3) ⟨hex,_,_,_,us,rfl,S2,rfl⟩ (pu.map _))
 .exact b9 (h _ _ _ sb o1 ⟨hex,_,_,_,ff,rfl,S,rfl⟩ (Ew _))
theorem c07{a:Addr}{o:Obj}{ks:List K}{k:K}{x:Value}{Q:Bool->Shared->Prop}(ho:s.heap.get? a=some o)(S:Sa knd o ks)(hk:knd.is k x=true)(hx:x.scannable=true)(room:ks.length+1<scanBound)
  (h:∀b h' o' ks',Aa a s.heap h'->h'.get? a=some o'->Sa knd o' ks'->ks'.Perm (if k∈ks then ks else ks++[k])->Q b { s with heap:=h' }):
  wpAny (model prog w) A (setAddHashed a x (knd.hash k)) Q E s:=by
 obtain ⟨hex,es,ep,t,ff,hd,D,rfl⟩:=S
 rw [cP] at room
 have W7:=D.of
 unfold setAddHashed setAddHashedIn
 refine rV (aI (Kn ho hd D.fits ?_))
 dsimp only
 rw [byScan_of hx D.lt W7,if_pos rfl]
 unfold setAddByScan
 refine aI (aI (MK (aI (wpAny_setScan_of hk ho hd D.fits W7 ?_))))
 have mem:∀e∈es.toList,knd.is k e.2=true->k∈ff.map (·.1):=λe he hp=>by
  rw [D.BX] at he
  obtain ⟨q,hq,rfl⟩:=pd.mp he
  exact pd.mpr ⟨q,hq,knd.inj _ _ _ (D.el q hq).1 hp⟩
 cases hr:List.findIdx? (λe=>knd.is k e.2) es.toList with
 | some j =>
  obtain ⟨hj,hp,_⟩:=List.findIdx?_eq_some_iff_getElem.mp hr
  have hm:=mem _ (pL hj) hp
  refine b9 (b9 ?_)
  have:=h false s.heap o (ff.map (·.1)) (Su a s.heap) ho ⟨hex,es,ep,t,ff,hd,D,rfl⟩ (by rw [if_pos hm])
  exact this
 | none =>
  have hm:k∉ff.map (·.1):=λz=>by
   obtain ⟨q,hq,e⟩:=pd.mp z
   have:=List.findIdx?_eq_none_iff.mp hr q.2 (by rw [D.BX];exact pd.mpr ⟨q,hq,rfl⟩)
   rw [<-e,(D.el q hq).1] at this
   exact Et this
  rw [if_neg hm] at h
  have p:=layNew_perm t es (knd.hash k) x
  have f:=layNew_fits t es (knd.hash k) x
  have T:=D.tb.lay es (knd.hash k) x
  dsimp only
  generalize layNew t es (knd.hash k) x=ly at p f T ⊢
  obtain ⟨mh,t1,wd,gv⟩:=ly
  dsimp only at p f T ⊢
  rw [XS] at p
  obtain ⟨us,pu,eu⟩:=Ob p (ff++[(k,knd.hash k,x)]) (by rw [D.BX,rT];rfl)
  have z:mh.size=ff.length+1:=by rw [<-tW,p.length_eq,jv,tW,D.len];rfl
  have el1:∀q∈us,El knd q:=λq hq=>by
   rcases qm.mp (pu.mem_iff.mp hq) with m | m
   .exact D.el q m
   .rw [nP.mp m];exact ⟨hk,rfl,hx⟩
  have mk:∀t2:SetTable,t2.fits mh.size=true->Tb (tX w) t2->Sd knd mh t2 us:=λt2 a b=>⟨eu,el1,a,b,by rw [z];exact room⟩
  have fin:∀h' o' ks',Aa a s.heap h'->h'.get? a=some o'->Sa knd o' ks'->ks'.Perm (us.map (·.1))->Q true { s with heap:=h' }:=λh' o' ks' c1 c2 c3 c4 =>
   h true h' o' ks' c1 c2 c3 (c4.trans (by simpa using pu.map (·.1)))
  have hg:∀(b:Bool) (aT:Shared) (Q':Unit->Shared->Prop),Q' () aT->wpAny (model prog w) A (match b with | true=>rule "set.scan.the-table-gave-way" | false=>pure ()) Q' E aT:=λb aT Q' hq=>by
   cases b
   .exact b9 hq
   .exact MK hq
  refine aI (hg _ _ _ ?_)
  split
  .refine aI ?_
   rw [hashByValue_scannable 8 hx]
   refine b9 (ZZ hg ho hex hd (mk _ ?_ ?_) λh' o' ks' c1 c2 c3 c4=>b9 (fin h' o' ks' c1 c2 c3 c4))
   .split
    .exact f
    .exact SetTable.fits_plain_off f
   .split
    .exact T
    .exact T.off
  .refine aI (b9 ?_)
   rw [if_pos rfl]
   exact ZZ hg ho hex hd (mk _ f T) λh' o' ks' c1 c2 c3 c4=>b9 (fin h' o' ks' c1 c2 c3 c4)
end
end SE
namespace SE
open PySem PyProof.Rows PySem.Calls
section
variable {prog:Program}{w:World}{K:Type}[DecidableEq K]{knd:KeyKind prog w K}{A:Around}{E:Value->Shared->Prop}{s:Shared}{R:Result->Shared->Prop}{I:Addr}{fp wr:List Addr}{G:Array GenState->Array GenState->Prop}{n:Nat}{P:Nat->Value->Prop}{St:Nat->Shared->Prop}
structure Kd(val:Nat->K)(i:Nat)(ks:List K):Prop where
 nd:ks.Nodup
 mem:∀x,x∈ks↔∃j,j<i/\val j=x
 len:ks.length<=i
theorem Kd.nil(val:Nat->K):Kd val 0 []:=⟨List.nodup_nil,λx=>⟨λz=>(nomatch z),λ⟨j,hj,_⟩=>absurd hj (M8 _)⟩,cT _⟩
theorem Kd.succ{val:Nat->K}{i:Nat}{ks ks':List K}(D:Kd val i ks)(p:ks'.Perm (if val i∈ks then ks else ks++[val i])):Kd val (i+1) ks':=by
 have m:∀x,(∃j,j<i+1/\val j=x)↔x∈ks\/x=val i:=λx=>by
  rw [D.mem]
  constructor
  .rintro ⟨j,hj,e⟩
   rcases Nat.lt_succ_iff_lt_or_eq.mp hj with q | q
   .exact .inl ⟨j,q,e⟩
   .exact .inr (by rw [<-e,q])
  .rintro (⟨j,hj,e⟩ | e)
   .exact ⟨j,yu hj,e⟩
   .exact ⟨i,qo _,e.symm⟩
 by_cases h:val i∈ks
 .rw [if_pos h] at p
  exact ⟨p.nodup_iff.mpr D.nd,λx=>by rw [m,p.mem_iff];exact ⟨.inl,λz=>z.elim id λe=>e▸h⟩,by rw [p.length_eq];exact Nat.le_succ_of_le D.len⟩
 .rw [if_neg h] at p
  refine ⟨p.nodup_iff.mpr (List.nodup_append.mpr ⟨D.nd,by simp,?_⟩),λx=>by rw [m,p.mem_iff,qm,nP],by rw [p.length_eq,jv];exact Nat.succ_le_succ D.len⟩
  intro a ha b hb
  rw [nP.mp hb]
  exact λe=>h (e▸ha)
theorem Lb(W:WalksS prog w A.in1 I fp wr G n P St)(S:Addr)(qF:S∉fp)(val:Nat->K)(BJ:∀i v,P i v->knd.is (val i) v=true/\v.scannable=true)(hb:n+1<scanBound):
  ∀(m i:Nat) (s:Shared) (o:Obj) (ks:List K),n-i=m->i<=n->St i s->s.heap.get? S=some o->Sa knd o ks->Kd val i ks ->
   (∀s' o' ks',Moved (S::wr) G s s'->s'.heap.get? S=some o'->Sa knd o' ks'->Kd val n ks'->R (.ok (.ret .none)) s') ->
   codeAny (model prog w) A (.builtin "set.update.loop" ⟨[.ref S,.ref I],[]⟩) R s
 | 0,i,s,o,ks,hm,hi,st,ho,Z,D,hR=>by
  have e:i=n:=by omega
  subst e
  refine B6 Ye ?_
  rw [EA S3 _]
  show wpAny _ A.in1 (pyNext (.ref I) >>= _) _ _ s
  exact aI (W.done s _ _ st λs' mv=>b9 (hR s' o ks (mv.mono λb hb=>i0 _ hb) (mv.heap S _ (λh=>qF (W.sub _ h)) ho) Z D))
 | m+1,i,s,o,ks,hm,hi,st,ho,Z,D,hR=>by
  have iw:i<n:=by omega
  refine B6 Ye ?_
  rw [EA S3 _]
  show wpAny _ A.in1 (pyNext (.ref I) >>= _) _ _ s
  refine aI (W.item i s _ _ iw st λv s' hP j7 mv=>?_)
  obtain ⟨hv,hs⟩:=BJ i v hP
  have jA:=mv.heap S _ (λh=>qF (W.sub _ h)) ho
  show wpAny _ A.in1 (holding [v] (setAdd S v) >>= _) _ _ s'
  refine aI (rV ?_)
  unfold setAdd
  refine rV (aI (knd.pyHash (k:=val i) hv ?_))
  have len:=D.len
  refine c07 (s:={ s' with toks:=s'.toks+1 }) jA Z hv hs (by omega) λb h' o' ks' sb o2 Z' pm=>?_
  refine b9 ⟨Ey S3 _,Lb W S qF val BJ hb m (i+1) _ o' ks' (by omega) iw (W.frame _ s' _ _ j7 (B5 _) λb hb o e=>?_) o2 Z' (D.succ pm) λDD o'' QG QA=>?_⟩
  .rw [sb.2 b (λh:b=S=>qF (by rw [<-h];exact hb))];exact e
  .refine hR DD o'' QG (Moved.trans W.gtrans ((mv.mono λb hb=>i0 _ hb).then_heap (B5 _) λb o hb e=>?_) QA)
   rw [sb.2 b (λh:b=S=>hb (by rw [h];exact jM))];exact e
noncomputable def mF(w:World):Obj:={ cls:=.type "set",dict:=none,data:=.set #[] 0 (.fresh 0 0 (!tX w)) }
theorem b7u:Sa knd (mF w) []:=⟨⟨rfl,rfl,rfl⟩,#[],0,_,[],rfl,⟨rfl,λ_ z=>(nomatch z),by rfl,b4k _,by decide⟩,rfl⟩
theorem b5t(a:Value){Q₁:Value->Shared->Prop}(h:Q₁ (.ref s.heap.objs.size) { s with heap:=s.heap.push (mF w) }):
  codeAny (model prog w) A (.call (.builtin "set.__new__") ⟨[.type "set",a],[]⟩) (wants Q₁ E) s:=by
 refine codeAny_of_tree ?_
 show wpAny _ A.in1 (checkBuiltinCall "set.__new__" ⟨[.type "set",a],[]⟩ >>= λ_=>again (.builtin "set.__new__" ⟨[.type "set",a],[]⟩)) _ _ s
 refine aI (A4 (F.newCall_set_1 a) (b9 ⟨Ey F.plain_set_new _,B6 F.entry_set_new ?_⟩))
 rw [EA F.plain_set_new _]
 unfold Builtin.«set.__new__» Builtin.Frozenset.newClass
 have uU:=sub_set_self
 obtain ⟨hp,g,d,tk,os⟩:=s
 dsimp only
 wp_walk
 refine JY (b9 ?_)
 dsimp only
 simp only [newObj]
 exact aI (wpAny_alloc (b9 (b9 h)))
theorem jt{l:Addr}{items:Array Value}{Q:Value->Shared->Prop}(hh:A.handled=none)(hl:s.heap.IsList l items)(val:Nat->K)(BJ:∀(i:Nat) (v:Value),items[i]?=some v->knd.is (val i) v=true/\v.scannable=true)(hb:items.size+1<scanBound)
  (h:∀(h':Heap) (tk:Nat) o ks,(∀b o,b<s.heap.objs.size->s.heap.get? b=some o->h'.get? b=some o)->h'.get? s.heap.objs.size=some o->Sa knd o ks->Kd val items.size ks->Q (.ref s.heap.objs.size) { s with heap:=h',toks:=tk }):
  wpAny (model prog w) A (call (.type "set") [.ref l]) Q E s:=by
 obtain ⟨c,tl,hmro⟩:=CY.mro
 have a1:=CY.made
 have a2:=CY.sub
 have a3:=CY.notType
 have a4:=CY.canCreate
 have a5:=F.typeCall_set_1 (.ref l)
 have hS:(s.heap.push (mF w)).get? s.heap.objs.size=some (mF w):=j' _ rfl
 have hT:({ s with heap:=s.heap.push (mF w) }:Shared).TypeIs (.ref s.heap.objs.size) "set":=⟨_,hS,rfl⟩
 refine FK (codeAny_of_tree (show wpAny _ _ (callAny (.type "set") _) _ _ _ from b9 ⟨Xt _ (by decide +kernel),B6 F.entry_type_call ?_⟩))
 rw [Around.under_plain (weight_type_call_type "set" [.ref l] []) rfl]
 repeat (any_goals (first | assumption | wp_step))
 refine B4 (b5t (.ref l) (E:=E) (Q₁:=λobj aT=>obj=.ref s.heap.objs.size/\aT={ s with heap:=s.heap.push (mF w) }) ⟨rfl,rfl⟩) λr aT hr=>?_
 cases r with
 | error e=>exact hr
 | ok fl =>
  cases fl with
  | ret obj =>
   obtain ⟨rfl,rfl⟩:=hr
   have a6:=CY.init.lookup
   have a7:=CY.init.bind (.ref s.heap.objs.size)
   repeat (any_goals (first | assumption | wp_step))
   refine B4 (Ta (R:=wants (λr fF=>r=.none/\Q (.ref s.heap.objs.size) fF) E) CY.init.plain F.entry_set_init (check_set_init_1 hT ?_)) λQj fF zG=>?_
   .obtain ⟨ol,hol,Ji,nl,hdl⟩:=id hl
    have AJ:(s.heap.push (mF w)).IsList l items:=hl.push _
    have Xd:({ s with heap:=s.heap.push (mF w) }:Shared).TypeIs (.ref l) "list":=AJ.typeIs
    have zH:l<s.heap.objs.size:=eD hol
    have n1:=F.sub_list_set
    have n2:=F.sub_list_frozenset
    have n3:(CU "list" == CU "dict")=false:=by decide
    unfold Builtin.«set.__init__» noKeywords Builtin.Frozenset.updateFrom
    generalize hPI:pyIter=PI
    wp_walk
    subst hPI
    refine M4 AJ (aI (wpAny_runValue ?_))
    have ng:l≠(s.heap.push (mF w)).objs.size:=by rw [pf];exact gi (yu zH)
    have qF:s.heap.objs.size∉[(s.heap.push (mF w)).objs.size,l]:=by
     rw [pf];simp only [ej,yt,or_false,not_or]
     exact ⟨gi (qo _),FT zH⟩
    refine Lb (knd:=knd) ((So (by simp [hh]) _ l ng items).toS) s.heap.objs.size qF val BJ hb (items.size-0) 0 _ (mF w) [] (by omega) (vF _) ⟨⟨_,j' _ rfl,rfl,rfl⟩,(AJ.push _)⟩ (ft _ hS) b7u (Kd.nil val) λs' o' ks' hm jA Z D=>?_
    obtain ⟨h',g',d',qC,Ib⟩:=s'
    have e1:g'=s.gens:=hm.gens
    have e2:d'=s.drawn:=hm.drawn
    have e3:Ib=s.os:=hm.os
    subst e1;subst e2;subst e3
    show wpAny _ _ (pure _ >>= _) _ _ _
    refine b9 (show wpAny _ _ (ret mi) _ _ _ from b9 ⟨rfl,h h' qC o' ks' (λb o hb e=>hm.heap b o ?_ (ft _ (ft _ e))) jA Z D⟩)
    simp only [ej,yt,or_false,not_or]
    exact ⟨gi hb,gi (by rw [pf];exact yu hb)⟩
   .cases Qj with
    | error e=>exact zG
    | ok Jz =>
     cases Jz with
     | ret r =>
      obtain ⟨rfl,hq⟩:=zG
      repeat (any_goals (first | assumption | wp_step))
     | _=>exact zG.elim
  | _=>exact hr.elim
end
end SE
namespace SE
open PySem PyProof.Rows PySem.Calls
section
variable {prog:Program}{w:World}{K:Type}[DecidableEq K]{knd:KeyKind prog w K}{A:Around}{E:Value->Shared->Prop}{s:Shared}
noncomputable def nx(w:World)(a:Addr)(es:Array (Int×Value))(ep:Nat)(t:SetTable)(slot given:Nat):Option (Value×Nat):=
 if tX w=true then ((pickOrder (w.params.setOrder a ep) es)[given]?).map λe=>(e.2,slot)
 else match es[z8 t.place slot]?,t.place[z8 t.place slot]? with
  | some (_,x),some j=>some (x,j+1)
  | _,_=>none
theorem Z3{a:Addr}{o:Obj}{es:Array (Int×Value)}{ep:Nat}{t:SetTable}{ff:List (K×Int×Value)}(ho:s.heap.get? a=some o)(hd:o.data=.set es ep t)(S:Sd knd es t ff)(rF:tX w=false->t.plain=true\/es.size<=1){slot given:Nat}
  {Q:Option (Value×Nat)->Shared->Prop}(h:Q (nx w a es ep t slot given) s):wpAny (model prog w) A (setNext a slot given ep) Q E s:=by
 unfold setNext
 refine aI (Kn ho hd S.fits ?_)
 dsimp only
 unfold setsByText
 refine aI (aI (JY (b9 ?_)))
 unfold nx at h
 by_cases hb:tX w=true
 .rw [if_pos hb] at h
  have BP:(model prog w).w.params.followText "set-order" = true:=hb
  dsimp only
  rw [if_pos BP]
  rw [if_neg (by simp)]
  refine aI ?_
  unfold setWalk setsByText
  refine aI (Kn ho hd S.fits ?_)
  dsimp only
  refine aI (aI (JY (b9 ?_)))
  dsimp only
  rw [if_pos BP]
  refine aI (JY (b9 (b9 h)))
 .rw [if_neg hb] at h
  have BP:¬((model prog w).w.params.followText "set-order" = true):=hb
  dsimp only
  rw [if_neg BP]
  have hl:t.led=true:=S.tb.led.resolve_right hb
  refine JT (λhz=>?_) (λ_=>?_)
  .exfalso
   have hz:(!t.plain&&decide (es.size>1))=true:=hz
   simp only [tV,Bool.not_eq_true',decide_eq_true_eq] at hz
   rcases rF (by simpa using hb) with q | q
   .rw [q] at hz;exact Et hz.1
   .omega
  .show wpAny _ _ ((if (!t.led&&!es.isEmpty)=true then unsupported "set:maker-not-led" else pure ()) >>= _) _ _ _
   rw [hl]
   simp only [Bool.not_true,RW,B9,if_false]
   exact aI (b9 (b9 h))
noncomputable def Ah(first:Value)(i:Nat)(a:Addr)(n ep:Nat):Obj:={ cls:=.type "set_iterator",data:=.fields #[first,rawInt i,.ref a,rawInt n,rawInt ep] }
theorem slot_next:Slot "set_iterator" "__next__" "set_iterator.__next__":=
 .of (owner:="set_iterator") (n:="__next__") (by rw [RX,Td];kernel_rfl) (by decide +kernel) (by decide +kernel) (by decide +kernel)
  (by first | exact .inl (by decide +kernel) | exact .inr (by decide +kernel)) (by rw [isSubtype_type];kernel_rfl)
theorem Vq:entryFor table "set_iterator.__next__" = some Builtin.«set_iterator.__next__»:=entryFor_of_tree (by kernel_rfl)
theorem Y':Manifest.owners.lookup (String.ofList ['r','o','t','a','r','e','t','i','_','t','e','s'].reverse)=some Manifest.sig_set_iterator:=by kernel_rfl
theorem U6(a:Value):argsOk "set_iterator.__next__" ⟨[a],[]⟩:=by
 unfold argsOk;rw [signature?_of (id:="set_iterator.__next__") (n:=['_','_','t','x','e','n','_','_']) (o:=['r','o','t','a','r','e','t','i','_','t','e','s']) (by kernel_rfl) Y'];kernel_rfl
theorem YN{I a:Addr}{i slot:Nat}{o:Obj}{es:Array (Int×Value)}{ep:Nat}{t:SetTable}{ff:List (K×Int×Value)}{Q:Option Value->Shared->Prop}(hI:s.heap.get? I=some (Ah (rawInt slot) i a es.size ep))(ho:s.heap.get? a=some o)(hd:o.data=.set es ep t)(S:Sd knd es t ff)(rF:tX w=false->t.plain=true\/es.size<=1)
  {x:Value}{j:Nat}(hx:nx w a es ep t slot i=some (x,j))(hQ:∀h',h'.get? I=some (Ah (rawInt j) (i+1) a es.size ep)->Aa I s.heap h'->Q (some x) { s with heap:=h' }):wpAny (model prog w) A (pyNext (.ref I)) Q E s:=by
 have hT:s.TypeIs (.ref I) "set_iterator":=⟨_,hI,rfl⟩
 unfold pyNext
 refine aI (J2 (Nq (name:=yw "__next__") hT slot_next (Eu slot_next hT Vq ?_ (U6 _))))
 unfold Builtin.«set_iterator.__next__»
 refine aI (A4 (a:=(dJ I,[])) rfl ?_)
 dsimp only
 refine aI (MM hI rfl ?_)
 show wpAny _ _ (setEntries a >>= _) _ _ _
 refine aI (Km ho hd S.fits ?_)
 rw [if_neg (by simp)]
 show wpAny _ _ (setNext a (slot:Int).toNat (i:Int).toNat (ep:Int).toNat >>= _) _ _ _
 simp only [FY]
 refine aI (Z3 ho hd S rF ?_)
 rw [hx]
 dsimp only
 refine aI (F1 hI (by simp) λh1 e1 b1=>?_)
 refine aI (F1 e1 (by simp) λh2 e2 b2=>?_)
 exact b9 ⟨x,rfl,b9 (hQ _ (by rw [e2];rfl) (b1.trans b2))⟩
end
end SE
namespace SE
open PySem PyProof.Rows PySem.Calls
section
variable {prog:Program}{w:World}{K:Type}[DecidableEq K]{knd:KeyKind prog w K}{A:Around}{E:Value->Shared->Prop}{s:Shared}
theorem a8y{I:Addr}{Q:Option Value->Shared->Prop}(hT:s.TypeIs (.ref I) "set_iterator")(hm:wpAny (model prog w) A.in1 (Builtin.«set_iterator.__next__» ⟨[.ref I],[]⟩) (λ_ _=>False) (λe s'=>∃h',s'={ s with heap:=h' }/\MI I s.heap h'/\s'.TypeIs e "StopIteration") s)
  (hQ:∀h',MI I s.heap h'->Q none { s with heap:=h' }):wpAny (model prog w) A (pyNext (.ref I)) Q E s:=by
 unfold pyNext
 refine aI (J2 (Nq (name:=yw "__next__") hT slot_next (Eu slot_next hT Vq (lL hm (λ_ _ z=>z.elim) λe s' z=>?_) (U6 _))))
 obtain ⟨h',rfl,k,t⟩:=z
 exact aI (wpAny_isInstance (T:="StopIteration") (b:=true) t isSubtype_stop (b9 (hQ _ k)))
theorem YA{Q:PySem.Fin->Shared->Prop}(hh:A.handled=none)(h:∀e h',(∀b o,s.heap.get? b=some o->h'.get? b=some o)->({ s with heap:=h' }:Shared).TypeIs e "StopIteration" -> E e { s with heap:=h' }):
  wpAny (model prog w) A (newExc (.type "StopIteration") [] >>= λe=>raiseNew e) Q E s:=by
 refine aI ?_
 simp only [newExc,newTuple]
 refine aI (A8 ?_ (by size_fits))
 refine aI (m:=firstArgMember _ _) (A4 (a:=mi) (by first | rfl | (simp only [firstArgMember];rfl)) (A8 ?_ (by size_fits)))
 simp only [raiseNew]
 refine aI (wpAny_handled ?_)
 rw [hh]
 refine aI (b9 (wpAny_throw ?_))
 refine h _ _ (λb o e=>ft _ (ft _ e)) ?_
 exact ⟨_,j' _ rfl,rfl⟩
theorem Y6{I a:Addr}{i slot:Nat}{o:Obj}{es:Array (Int×Value)}{ep:Nat}{t:SetTable}{ff:List (K×Int×Value)}{Q:Option Value->Shared->Prop}(hh:A.handled=none)(hI:s.heap.get? I=some (Ah (rawInt slot) i a es.size ep))(ho:s.heap.get? a=some o)(hd:o.data=.set es ep t)(S:Sd knd es t ff)(rF:tX w=false->t.plain=true\/es.size<=1)
  (hx:nx w a es ep t slot i=none)(hQ:∀h',MI I s.heap h'->Q none { s with heap:=h' }):wpAny (model prog w) A (pyNext (.ref I)) Q E s:=by
 refine a8y ⟨_,hI,rfl⟩ ?_ hQ
 unfold Builtin.«set_iterator.__next__»
 refine aI (A4 (a:=(dJ I,[])) rfl ?_)
 dsimp only
 refine aI (MM hI rfl ?_)
 show wpAny _ _ (setEntries a >>= _) _ _ _
 refine aI (Km ho hd S.fits ?_)
 rw [if_neg (by simp)]
 show wpAny _ _ (setNext a (slot:Int).toNat (i:Int).toNat (ep:Int).toNat >>= _) _ _ _
 simp only [FY]
 refine aI (Z3 ho hd S rF ?_)
 rw [hx]
 dsimp only
 refine aI (F1 hI (by simp) λh1 e1 b1=>?_)
 exact YA (by simp [hh]) λe h' k t=>⟨h',rfl,λb o hb eo=>k b o (b1.extBut b o hb eo),t⟩
theorem Io{I a tp:Addr}{i:Nat}{o ot:Obj}{es:Array (Int×Value)}{ep nt:Nat}{t:SetTable}{ff:List (K×Int×Value)}{ps:List Nat}{Q:Option Value->Shared->Prop}(hI:s.heap.get? I=some (Ah (.ref tp) i a es.size ep))(ho:s.heap.get? a=some o)(hd:o.data=.set es ep t)(S:Sd knd es t ff)
  (ht:s.heap.get? tp=some ot)(FD:ot.data=.seq (ps.map λ(p:Nat)=>rawInt p).toArray nt){x:Value}{p:Nat}{hv:Int}(hp:ps[i]?=some p)(hx:es[p]?=some (hv,x))(hQ:∀h',h'.get? I=some (Ah (.ref tp) (i+1) a es.size ep)->Aa I s.heap h'->Q (some x) { s with heap:=h' }):wpAny (model prog w) A (pyNext (.ref I)) Q E s:=by
 have hT:s.TypeIs (.ref I) "set_iterator":=⟨_,hI,rfl⟩
 unfold pyNext
 refine aI (J2 (Nq (name:=yw "__next__") hT slot_next (Eu slot_next hT Vq ?_ (U6 _))))
 unfold Builtin.«set_iterator.__next__»
 refine aI (A4 (a:=(dJ I,[])) rfl ?_)
 dsimp only
 refine aI (MM hI rfl ?_)
 show wpAny _ _ (setEntries a >>= _) _ _ _
 refine aI (Km ho hd S.fits ?_)
 rw [if_neg (by simp)]
 show wpAny _ _ (seqItems? (.ref tp) >>= _) _ _ _
 refine aI (wpAny_seqItems ht FD ?_)
 dsimp only
 have e1:((ps.map λ(p:Nat)=>rawInt p).toArray)[((i:Int)).toNat]?=some (rawInt p):=by rw [FY,Ni,nj,hp];rfl
 rw [e1]
 show wpAny _ _ (setNextDrawn a (p:Int).toNat (ep:Int).toNat >>= _) _ _ _
 simp only [FY]
 unfold setNextDrawn
 refine aI (aI (Kn ho hd S.fits ?_))
 dsimp only
 rw [if_neg (by simp),hx]
 refine b9 (aI (F1 hI (by simp) λh2 e2 b2=>?_))
 exact b9 ⟨x,rfl,b9 (hQ _ (by rw [e2];rfl) b2)⟩
theorem c0a{I a tp:Addr}{i:Nat}{o ot:Obj}{es:Array (Int×Value)}{ep nt:Nat}{t:SetTable}{ff:List (K×Int×Value)}{ps:List Nat}{Q:Option Value->Shared->Prop}(hh:A.handled=none)(hI:s.heap.get? I=some (Ah (.ref tp) i a es.size ep))(ho:s.heap.get? a=some o)(hd:o.data=.set es ep t)(S:Sd knd es t ff)
  (ht:s.heap.get? tp=some ot)(FD:ot.data=.seq (ps.map λ(p:Nat)=>rawInt p).toArray nt)(hp:ps[i]?=none)(hQ:∀h',MI I s.heap h'->Q none { s with heap:=h' }):wpAny (model prog w) A (pyNext (.ref I)) Q E s:=by
 refine a8y ⟨_,hI,rfl⟩ ?_ hQ
 unfold Builtin.«set_iterator.__next__»
 refine aI (A4 (a:=(dJ I,[])) rfl ?_)
 dsimp only
 refine aI (MM hI rfl ?_)
 show wpAny _ _ (setEntries a >>= _) _ _ _
 refine aI (Km ho hd S.fits ?_)
 rw [if_neg (by simp)]
 show wpAny _ _ (seqItems? (.ref tp) >>= _) _ _ _
 refine aI (wpAny_seqItems ht FD ?_)
 dsimp only
 have e1:((ps.map λ(p:Nat)=>rawInt p).toArray)[((i:Int)).toNat]?=none:=by rw [FY,Ni,nj,hp];rfl
 rw [e1]
 refine aI (F1 hI (by simp) λh1 e1 b1=>?_)
 refine aI (F1 e1 (by simp) λh2 e2 b2=>?_)
 exact YA (by simp [hh]) λe h' k t=>⟨h',rfl,λb o hb eo=>k b o ((b1.trans b2).extBut b o hb eo),t⟩
theorem ZW:Slot "set_iterator" "__iter__" "set_iterator.__iter__":=
 .of (owner:="set_iterator") (n:="__iter__") (by rw [RX,Td];kernel_rfl) (by decide +kernel) (by decide +kernel) (by decide +kernel)
  (by first | exact .inl (by decide +kernel) | exact .inr (by decide +kernel)) (by rw [isSubtype_type];kernel_rfl)
theorem b8p(a:Value):argsOk "set_iterator.__iter__" ⟨[a],[]⟩:=by
 unfold argsOk;rw [signature?_of (id:="set_iterator.__iter__") (n:=['_','_','r','e','t','i','_','_']) (o:=['r','o','t','a','r','e','t','i','_','t','e','s']) (by kernel_rfl) Y'];kernel_rfl
theorem b5h:entryFor table "set_iterator.__iter__" = some Builtin.«dict_keyiterator.__iter__»:=
 entryFor_alias (id':="dict_keyiterator.__iter__") (by kernel_rfl) (by first | rfl | decide +kernel | (unfold String.splitOn;simp +decide [XR])) (by decide +kernel) (by kernel_rfl)
theorem b5g:entryFor table "set.__iter__" = some Builtin.«frozenset.__iter__»:=
 entryFor_alias (id':="frozenset.__iter__") (by kernel_rfl) (by first | rfl | decide +kernel | (unfold String.splitOn;simp +decide [XR])) (by decide +kernel) (by kernel_rfl)
theorem Uw{I:Addr}{Q:Value->Shared->Prop}(hT:s.TypeIs (.ref I) "set_iterator")(h:Q (.ref I) s):wpAny (model prog w) A (pyIter (.ref I)) Q E s:=by
 refine wpAny_pyIter_slot hT ZW (Eu ZW hT b5h ?_ (b8p _))
 show wpAny _ _ (ret (.ref I)) _ _ s
 exact b9 ⟨_,rfl,"set_iterator",_,hT,slot_next.lookup,h⟩
end
end SE
namespace SE
open PySem PyProof.Rows PySem.Calls
theorem Vp{α:Type}:∀{l:List α} {i:Nat} (h:i<l.length),(l[i]::l.eraseIdx i).Perm l
 | _::_,0,_=>Ew _
 | x::l,i+1,h=>by
  have h':i<l.length:=EC h
  show (l[i]::x::l.eraseIdx i).Perm (x::l)
  exact (XU x _ _).trans ((Vp h').cons x)
theorem a8G{α:Type}(next:Nat->Nat):∀(n k:Nat) (left:List α) (out:Array α),n=left.length->(pickOrder.go next n k left out).toList.Perm (out.toList++left)
 | 0,k,left,out,e=>by
  rw [Np.mp e.symm,vz]
  exact Ew _
 | n+1,k,left,out,e=>by
  unfold pickOrder.go
  have hp:0<left.length:=by omega
  have hi:next k%left.length<left.length:=Nat.mod_lt _ hp
  rw [je hi]
  dsimp only
  refine (a8G next n (k+1) _ _ (by rw [X2 hi];omega)).trans ?_
  rw [XS,EE]
  refine List.Perm.append_left _ ?_
  exact Vp hi
section
variable {prog:Program}{w:World}{K:Type}[DecidableEq K]{knd:KeyKind prog w K}{A:Around}{E:Value->Shared->Prop}{s:Shared}
theorem b6J{src:Source}{n:Nat}{Q:Nat->Shared->Prop}(hn:n≠0)(h:∀i d',i<n->Q i { s with drawn:=d' }):wpAny (model prog w) A (choose src n) Q E s:=λΓ p hΓ=>by
 unfold choose
 rw [Sem.wp_choose]
 exact ⟨hn,h _ _ (Nat.mod_lt _ (Nat.pos_of_ne_zero hn))⟩
theorem b16{α:Type}:∀(n:Nat) (xs:List α) (s:Shared) (Q:List α->Shared->Prop),n=xs.length->(∀ys d',ys.Perm xs->Q ys { s with drawn:=d' })->wpAny (model prog w) A (drawOrder n xs) Q E s
 | 0,xs,s,Q,e,h=>by
  unfold drawOrder
  rw [Np.mp e.symm] at h
  exact b9 (h [] s.drawn (Ew _))
 | n+1,[],s,Q,e,h=>by simp at e
 | n+1,x::xs,s,Q,e,h=>by
  unfold drawOrder
  refine aI (b6J (by simp) λi d' hi=>?_)
  rw [je hi]
  dsimp only
  refine aI (b16 n _ _ _ (by rw [X2 hi,<-e];rfl) λys d'' p=>b9 ?_)
  exact h _ d'' ((p.cons _).trans (Vp hi))
def Pv(us:List (K×Int×Value))(i:Nat)(v:Value):Prop:=(us[i]?).map (·.2.2)=some v
theorem Nx{es:Array (Int×Value)}{us:List (K×Int×Value)}(e:es.toList=us.map (·.2))(i:Nat):es[i]?=(us[i]?).map (·.2):=by
 rw [<-Nk,e,nj]
theorem Ha{I a:Addr}{o:Obj}{es:Array (Int×Value)}{ep:Nat}{t:SetTable}{ff:List (K×Int×Value)}(hh:A.handled=none)(ng:a≠I)(hd:o.data=.set es ep t)(S:Sd knd es t ff)(hb:tX w=false)(rF:t.plain=true\/es.size<=1):
  Walks prog w A I [I,a] [I] ff.length (Pv ff) (λi h=>h.get? I=some (Ah (rawInt ((if i=0 then 0 else t.place.getD (i-1) 0+1:Nat))) i a es.size ep)/\h.get? a=some o):=by
 have hz:t.place.size=es.size:=by
  have:=S.fits
  simp only [SetTable.fits,tV,beq_iff_eq] at this
  exact this.1
 have hr:ma t.place.toList:=by
  rcases rF with q | q
  .exact S.tb.rise q
  .unfold ma
   have:t.place.toList.length<=1:=by rw [tW,hz];exact q
   generalize t.place.toList=l at this
   cases l with
   | nil=>exact Kg
   | cons x l=>cases l with
    | nil=>exact S1 _ _
    | cons y l=>simp at this
 have key:∀i,i<=es.size->z8 t.place (if i=0 then 0 else t.place.getD (i-1) 0+1)=i:=λi hi=>by
  have B:=b1h hr (if i=0 then 0 else t.place.getD (i-1) 0+1)
  generalize z8 t.place (if i=0 then 0 else t.place.getD (i-1) 0+1)=r at B
  have le:=B.le
  by_cases Mr:i=0
  .subst Mr
   rw [if_pos rfl] at B
   rcases SD r with q | q
   .exact q
   .exact absurd (B.lo 0 q) (M8 _)
  .rw [if_neg Mr] at B
   have gd:∀k d d',k<es.size->t.place.getD k d=t.place.getD k d':=λk d d' hk=>by simp [A5,hz,hk]
   rcases Nat.lt_trichotomy r i with q | q | q
   .have:=B.hi r (cT _) (by omega)
    exfalso
    rw [gd r _ 0 (by omega)] at this
    rcases MS r (i-1) with z | z
    .have:=hr.lt (d:=0) z (by omega);omega
    .rw [show r=i-1 by omega] at this;omega
   .exact q
   .have:=B.lo i q
    rw [gd i _ 0 (by omega)] at this
    have:=hr.lt (d:=0) (show i-1<i by omega) (by omega)
    omega
 have len:=S.len
 have nxt:∀i,i<es.size->nx w a es ep t (if i=0 then 0 else t.place.getD (i-1) 0+1) i=(ff[i]?).map λq=>(q.2.2,t.place.getD i 0+1):=λi hi=>by
  unfold nx
  rw [if_neg (by simp [hb]),key i (FU hi),Nx S.BX,je (by omega),Ga (by omega)]
  simp [A5,hz,hi]
 exact {
  sub:=λb hb=>by simp at hb;simp [hb]
  frame:=λi h h' st k=>⟨k I (by simp) _ st.1,k a (by simp) _ st.2⟩
  item:=λi s Q E hi st hQ=>by
   have mU:i<es.size:=by omega
   have e:=nxt i mU
   rw [je hi] at e
   refine YN st.1 st.2 hd S (λ_=>rF) e λh' g sb=>hQ _ h' s.toks (by unfold Pv;rw [je hi];rfl) ⟨?_,(sb.2 a ng).trans st.2⟩ λb o hb eo=>sb.extBut b o (λh=>hb (by simp [h])) eo
   rw [g,if_neg (Nat.succ_ne_zero i)];rfl
  done:=λs Q E st hQ=>by
   refine Y6 hh st.1 st.2 hd S (λ_=>rF) ?_ λh' g=>hQ h' s.toks λb o hb eo=>g b o (λh=>hb (by simp [h])) eo
   unfold nx
   rw [if_neg (by simp [hb]),<-len,key es.size (cT _),Array.getElem?_eq_none (cT _)]
  self:=λi s Q E st hQ=>Uw ⟨_,st.1,rfl⟩ hQ }
theorem G'{I a:Addr}{o:Obj}{es:Array (Int×Value)}{ep:Nat}{t:SetTable}{ff us:List (K×Int×Value)}(hh:A.handled=none)(ng:a≠I)(hd:o.data=.set es ep t)(S:Sd knd es t ff)(hb:tX w=true)(hu:(pickOrder (w.params.setOrder a ep) es).toList=us.map (·.2)):
  Walks prog w A I [I,a] [I] us.length (Pv us) (λi h=>h.get? I=some (Ah (rawInt (0:Nat)) i a es.size ep)/\h.get? a=some o) where
 sub:=λb hb=>by simp at hb;simp [hb]
 frame:=λi h h' st k=>⟨k I (by simp) _ st.1,k a (by simp) _ st.2⟩
 item:=λi s Q E hi st hQ=>by
  refine YN st.1 st.2 hd S (λz=>by rw [hb] at z;exact Et z) (x:=(us[i]).2.2) (j:=0) ?_ λh' g sb=>hQ _ h' s.toks (by unfold Pv;rw [je hi];rfl) ⟨g,(sb.2 a ng).trans st.2⟩ λb o hb eo=>sb.extBut b o (λh=>hb (by simp [h])) eo
  unfold nx
  rw [if_pos hb,Nx hu,je hi];rfl
 done:=λs Q E st hQ=>by
  refine Y6 hh st.1 st.2 hd S (λz=>by rw [hb] at z;exact Et z) ?_ λh' g=>hQ h' s.toks λb o hb eo=>g b o (λh=>hb (by simp [h])) eo
  unfold nx
  rw [if_pos hb,Nx hu,EB (cT _)];rfl
 self:=λi s Q E st hQ=>Uw ⟨_,st.1,rfl⟩ hQ
theorem yW{I a tp:Addr}{o ot:Obj}{es:Array (Int×Value)}{ep nt:Nat}{t:SetTable}{ff:List (K×Int×Value)}{ps:List Nat}(hh:A.handled=none)(ng:a≠I)(hnt:tp≠I)(hd:o.data=.set es ep t)(S:Sd knd es t ff)(FD:ot.data=.seq (ps.map λ(p:Nat)=>rawInt p).toArray nt)(hp:∀p∈ps,p<es.size):
  Walks prog w A I [I,a,tp] [I] ps.length (λi v=>((ps[i]?).bind λp=>es[p]?).map (·.2)=some v) (λi h=>h.get? I=some (Ah (.ref tp) i a es.size ep)/\h.get? a=some o/\h.get? tp=some ot) where
 sub:=λb hb=>by simp at hb;simp [hb]
 frame:=λi h h' st k=>⟨k I (by simp) _ st.1,k a (by simp) _ st.2.1,k tp (by simp) _ st.2.2⟩
 item:=λi s Q E hi st hQ=>by
  have h1:=hp _ (pL hi)
  refine Io st.1 st.2.1 hd S st.2.2 FD (je hi) (Ga h1) λh' g sb=>hQ _ h' s.toks ?_ ⟨g,(sb.2 a ng).trans st.2.1,(sb.2 tp hnt).trans st.2.2⟩ λb o hb eo=>sb.extBut b o (λh=>hb (by simp [h])) eo
  rw [je hi,F8,Ga h1];rfl
 done:=λs Q E st hQ=>c0a hh st.1 st.2.1 hd S st.2.2 FD (EB (cT _)) λh' g=>hQ h' s.toks λb o hb eo=>g b o (λh=>hb (by simp [h])) eo
 self:=λi s Q E st hQ=>Uw ⟨_,st.1,rfl⟩ hQ
end
end SE
namespace SE
open PySem PyProof.Rows PySem.Calls
theorem Yw{α β:Type}{f:α->Option β}:∀(l:List α),(∀x∈l,(f x).isSome=true)->∀i:Nat,(l.filterMap f)[i]?=(l[i]?).bind f
 | [],_,i=>rfl
 | x::l,h,i=>by
  obtain ⟨y,e⟩:=S8.mp (h x jM)
  rw [XX e]
  cases i with
  | zero=>simp [e]
  | succ i=>simpa using Yw l (λx hx=>h x (i0 _ hx)) i
theorem YV{α β:Type}{f:α->Option β}:∀(l:List α),(∀x∈l,(f x).isSome=true)->(l.filterMap f).length=l.length
 | [],_=>rfl
 | x::l,h=>by
  obtain ⟨y,e⟩:=S8.mp (h x jM)
  rw [XX e,ia,ia,YV l λx hx=>h x (i0 _ hx)]
section
variable {prog:Program}{w:World}{K:Type}[DecidableEq K]{knd:KeyKind prog w K}{A A2:Around}{E:Value->Shared->Prop}{s:Shared}
theorem b4R{a:Addr}{o:Obj}{es:Array (Int×Value)}{ep:Nat}{t:SetTable}{ff:List (K×Int×Value)}{Q:Value->Shared->Prop}(hh:A2.handled=none)(ho:s.heap.get? a=some o)(hex:o.ExactSet)(hd:o.data=.set es ep t)(S:Sd knd es t ff)
  (h:∀(h':Heap) d' (I:Addr) (fp:List Addr) St us,s.heap.objs.size<=I->(∀b o,s.heap.get? b=some o->h'.get? b=some o)->us.Perm ff->Walks prog w A2 I fp [I] us.length (Pv us) St->St 0 h'->(∀b∈fp,b=a\/s.heap.objs.size<=b)->(∀b,b=I\/b∈fp->b<h'.objs.size)->Q (.ref I) { s with heap:=h',drawn:=d' }):
  wpAny (model prog w) A (pyIter (.ref a)) Q E s:=by
 have hT:s.TypeIs (.ref a) "set":=⟨o,ho,hex.1⟩
 have ha:a<s.heap.objs.size:=eD ho
 refine wpAny_pyIter_slot hT F.slot_set_iter (Eu F.slot_set_iter hT b5g ?_ (F.args_set_iter_1 _))
 unfold Builtin.«frozenset.__iter__»
 refine aI (m:=Builtin.Frozenset.slot0 "__iter__" _) (A4 (a:=a) rfl ?_)
 refine aI ?_
 unfold Builtin.Frozenset.sizeOf
 refine aI (Km ho hd S.fits (b9 ?_))
 refine aI ?_
 unfold setDrawn setsByText
 refine aI (Kn ho hd S.fits ?_)
 dsimp only
 refine aI (aI (JY (b9 (b9 ?_))))
 have oj:∀(c:Bool),c=false->(∀us St,us.Perm ff->Walks prog w A2 s.heap.objs.size [s.heap.objs.size,a] [s.heap.objs.size] us.length (Pv us) St->St 0 (s.heap.push (Ah (rawInt (0:Nat)) 0 a es.size ep))->Q (.ref s.heap.objs.size) { s with heap:=s.heap.push (Ah (rawInt (0:Nat)) 0 a es.size ep) }):=λc _ us St pu W st =>
  h _ s.drawn _ _ St us (cT _) (λb o e=>ft _ e) pu W st (λb hb=>by
   simp only [ej,yt,or_false] at hb
   rcases hb with q | q
   .exact .inr (by rw [q];exact cT _)
   .exact .inl q) λb hb=>by
    rw [pf]
    simp only [ej,yt,or_false] at hb
    rcases hb with q | q | q
    .rw [q];exact qo _
    .rw [q];exact qo _
    .rw [q];exact yu ha
 refine JT (λhz=>?_) (λhz=>?_)
 .have hz:(!(tX w)&&(!t.plain&&decide (es.size>1)))=true:=hz
  simp only [tV,Bool.not_eq_true',decide_eq_true_eq] at hz
  refine aI (b16 _ _ _ _ (by simp) λps d' pp=>?_)
  have iw:∀p∈ps,p<es.size:=λp hp=>z9.mp (pp.mem_iff.mp hp)
  have hsz:(ps.map λ(p:Nat)=>rawInt p).length<=sizeLine:=by
   rw [cP,pp.length_eq,FX]
   exact FW S.lt
  refine aI (wpAny_newTuple ?_ hsz)
  have len:=S.len
  refine aI (m:=setEpoch a) (wpAny_setEpoch_of (ft _ ho) hd S.fits ?_)
  refine aI (A8 (b9 ⟨_,rfl,"set_iterator",_,⟨_,j' _ rfl,rfl⟩,slot_next.lookup,?_⟩) (by size_fits))
  have Wx:∀p∈ps,(ff[p]?).isSome=true:=λp hp=>by
   rw [je (by have:=iw p hp;omega)];rfl
  have W:=yW (prog:=prog) (w:=w) (A:=A2) (I:=(s.heap.push { cls:=.type "tuple",data:=.seq (ps.map λ(p:Nat)=>rawInt p).toArray }).objs.size) (tp:=s.heap.objs.size) (ot:={ cls:=.type "tuple",data:=.seq (ps.map λ(p:Nat)=>rawInt p).toArray }) (nt:=0) (ps:=ps) hh (by rw [pf];exact gi (yu ha)) (by rw [pf];exact gi (qo _)) hd S rfl iw
  have eP:(λ(i:Nat) (v:Value)=>((ps[i]?).bind λp=>es[p]?).map (·.2)=some v)=Pv (ps.filterMap λp=>ff[p]?):=by
   funext i v
   unfold Pv
   rw [Yw ps Wx i]
   cases ps[i]? with
   | none=>rfl
   | some p=>rw [F8,F8,Nx S.BX,Option.map_map];rfl
  rw [eP,<-YV ps Wx] at W
  refine h _ d' _ _ _ (ps.filterMap λp=>ff[p]?) (by rw [pf];exact B5 _) (λb o e=>ft _ (ft _ e)) ?_ W ⟨j' _ rfl,ft _ (ft _ ho),ft _ (j' _ rfl)⟩ (λb hb=>?_) λb hb=>?_
  .have:=pp.filterMap λp=>ff[p]?
   rw [len,List.filterMap_getElem?_range_length] at this
   exact this
  .simp only [ej,yt,or_false,pf] at hb
   rcases hb with q | q | q
   .exact .inr (by rw [q];exact B5 _)
   .exact .inl q
   .exact .inr (by rw [q];exact cT _)
  .rw [pf,pf]
   simp only [ej,yt,or_false,pf] at hb
   rcases hb with q | q | q | q
   .rw [q];exact qo _
   .rw [q];exact qo _
   .rw [q];exact yu (yu ha)
   .rw [q];exact yu (qo _)
 .have hz:¬((!(tX w)&&(!t.plain&&decide (es.size>1)))=true):=hz
  rw [SK] at hz
  refine aI (b9 ?_)
  refine aI (m:=setEpoch a) (wpAny_setEpoch_of ho hd S.fits ?_)
  refine aI (A8 (b9 ⟨_,rfl,"set_iterator",_,⟨_,j' _ rfl,rfl⟩,slot_next.lookup,?_⟩) (by size_fits))
  by_cases hb:tX w=true
  .obtain ⟨us,pu,eu⟩:=Ob (f:=λq:K×Int×Value=>q.2) (a8G (w.params.setOrder a ep) es.size 0 es.toList #[] (tW).symm) ff (by simpa using S.BX)
   exact oj _ hz us _ pu (G' hh (gi ha) hd S hb eu) ⟨j' _ rfl,ft _ ho⟩
  .refine oj _ hz ff _ (Ew _) (Ha hh (gi ha) hd S (by simpa using hb) ?_) ⟨j' _ rfl,ft _ ho⟩
   have BP:tX w=false:=by simpa using hb
   rw [BP] at hz
   simp only [Bool.not_false,Bool.true_and,Bool.and_eq_false_iff,Bool.not_eq_false',decide_eq_false_iff_not] at hz
   exact hz.imp id λq=>by omega
end
end SE
namespace SE
open PySem PyProof.Rows PySem.Calls PySem.W
section
variable {prog:Program}{w:World}{K:Type}[DecidableEq K]{knd:KeyKind prog w K}{A:Around}{E:Value->Shared->Prop}{s:Shared}
theorem b43{r:Addr}{Q:Bool->Shared->Prop}(hT:s.TypeIs (.ref r) "set")(h:Q false s):wpAny (model prog w) A (Yn (.ref r)) Q E s:=by
 unfold Yn
 refine aI (wpAny_specialOf hT F.slot_set_len.lookup ?_)
 generalize W2:("set.__len__":String)=id0
 wp_delta
 rw [show splitId id0=some ("set","__len__") from by subst W2;decide +kernel]
 subst W2
 refine aI (wpAny_isInstance (T:="set") (b:=true) hT sub_set_self ?_)
 refine JT (λz=>absurd z (by decide)) (λ_=>JT (λ_=>?_) (λz=>absurd (by decide +kernel) z))
 exact aI (JR hT (b9 h))
theorem b4S{us:List (K×Int×Value)}{acc:Array Value}(h:ItemsOf (Pv us) acc us.length):acc.toList=us.map (·.2.2):=by
 refine List.ext_getElem? λi=>?_
 rw [nj]
 rcases MS i us.length with q | q
 .have hs:i<acc.size:=by rw [h.1];exact q
  have:=h.2 i acc[i] (Ga hs)
  unfold Pv at this
  rw [this,Nk,Ga hs]
 .rw [EB q,EB (by rw [tW,h.1];exact q)];rfl
theorem b0w{a:Addr}{o:Obj}{ks:List K}{R:List Value->Shared->Prop}(hh:A.handled=none)(ho:s.heap.get? a=some o)(Z:Sa knd o ks)
  (h:∀(h':Heap) d' tk (us:List (K×Int×Value)),(∀b o,s.heap.get? b=some o->h'.get? b=some o)->s.heap.objs.size<=h'.objs.size->(us.map (·.1)).Perm ks->(∀q∈us,knd.is q.1 q.2.2=true)->us.length<scanBound->R (us.map (·.2.2)) { s with heap:=h',drawn:=d',toks:=tk }):
  wpAny (model prog w) A (collect (.ref a)) R E s:=by
 obtain ⟨hex,es,ep,t,ff,hd,S,rfl⟩:=Z
 have ha:a<s.heap.objs.size:=eD ho
 unfold collect
 refine aI (wpAny_runValue (B6 entry_proto_collect' ?_))
 rw [EA F.plain_proto_collect _]
 show wpAny _ A.in1 (newList [] >>= λl=>again (.builtin "list.__iadd__" ⟨[l,.ref a],[]⟩)) _ _ s
 refine aI (A8 (b9 ⟨Ey F.plain_list_iadd _,B6 entry_list_iadd' ?_⟩))
 rw [EA F.plain_list_iadd _]
 show wpAny _ A.in1 (Ym (.ref s.heap.objs.size) (.ref a) (.ref s.heap.objs.size)) _ _ _
 generalize hg:s.heap.push { cls:=.type "list",data:=.seq ([]:List Value).toArray }=g
 have gs:g.objs.size=s.heap.objs.size+1:=by rw [<-hg];exact pf ..
 have gl:g.get? s.heap.objs.size=some { cls:=.type "list",data:=.seq #[] }:=by rw [<-hg];exact j' _ rfl
 have up:∀b o,s.heap.get? b=some o->g.get? b=some o:=λb o e=>by rw [<-hg];exact ft _ e
 have ga:=up a o ho
 have hT:({ s with heap:=g }:Shared).TypeIs (.ref a) "set":=⟨o,ga,hex.1⟩
 unfold Ym
 refine aI (JR hT ?_)
 have h1:XW (.ref s.heap.objs.size) (.ref a)=false:=by simp [XW,FT ha]
 have h2:(CU "set" == CU "list")=false:=by decide
 have h3:(CU "set" == CU "tuple")=false:=by decide
 simp only [h1,h2,h3,Bool.or_false,B9,if_false]
 refine aI (b4R (A2:=A.in1) (s:={ s with heap:=g }) (by simp [hh]) ga hex hd S λh' d' I fp St us hI k pu W st hf W5=>?_)
 have qF:s.heap.objs.size∉fp:=λz=>by
  rcases hf _ z with q | q
  .exact absurd q (FT ha)
  .simp only [gs] at q;omega
 have hSI:s.heap.objs.size≠I:=by simp only [gs] at hI;omega
 have end_:∀(h1:Heap) (c1 tk:Nat),St 0 h1->(∀b o,b≠s.heap.objs.size->s.heap.get? b=some o->h1.get? b=some o)->h1.get? s.heap.objs.size=some { cls:=.type "list",data:=.seq #[] c1 } ->
   codeAny (model prog w) A (.builtin "list.extend.loop" ⟨[.ref s.heap.objs.size,.ref I,.ref s.heap.objs.size],[]⟩) (λr s'=>∃(h':Heap) (qC:Nat) (acc:Array Value) (c':Nat),r=.ok (.ret (.ref s.heap.objs.size))/\s'={ s with heap:=h',drawn:=d',toks:=qC }/\(∀b o,s.heap.get? b=some o->h'.get? b=some o)/\h'.get? s.heap.objs.size=some { cls:=.type "list",dict:=none,data:=.seq acc c',slots:=#[] }/\acc.toList=us.map (·.2.2)) { s with heap:=h1,drawn:=d',toks:=tk }:=λh1 c1 tk st1 k1 g1=>by
  refine codeAny_extend_loopS W.toS ?_ _ qF _ us.length 0 _ #[] c1 rfl (vF _) st1 g1 (ItemsOf.nil _) λs' acc c' mv g' it=>?_
  .rw [pu.length_eq,<-S.len];exact FW S.lt
  .have e:=Moved.eq_with mv
   refine ⟨s'.heap,s'.toks,acc,c',rfl,e,λb o eo=>mv.heap b o (λz=>?_) (k1 b o (gi (eD eo)) eo),g',b4S it⟩
   have hb:=eD eo
   simp only [ej,yt,or_false] at z
   simp only [gs] at hI
   rcases z with z | z
   .exact gi hb z
   .exact gi (pq hb (vA hI)) z
 refine aI (rV (b43 ⟨o,k a o ga,hex.1⟩ ?_))
 have g1:=k _ _ gl
 have fin:∀(fF:Shared) (h':Heap) (qC:Nat) (acc:Array Value) (c':Nat) (f:Array Value->Sem (List Value)),(∀xs,f xs=pure xs.toList)->fF={ s with heap:=h',drawn:=d',toks:=qC }->(∀b o,s.heap.get? b=some o->h'.get? b=some o)->s.heap.objs.size<h'.objs.size->acc.toList=us.map (·.2.2)->wpAny (model prog w) A (f acc) R E fF:=λfF h' qC acc c' f hf e2 e3 e6 e5=>by
  subst e2
  rw [hf,e5]
  exact b9 (h h' d' qC us e3 (FU e6) (pu.map _) (λq hq=>(S.el q (pu.mem_iff.mp hq)).1) (by rw [pu.length_eq,<-S.len];exact S.lt))
 refine JT (λ_=>?_) (λ_=>?_)
 rotate_left
 .refine b9 ⟨Ey F.plain_extend_loop _,B4 (end_ _ 0 s.toks st (λb o hb e=>k b o (up b o e)) g1) λq fF ⟨h',qC,acc,c',e1,e2,e3,e4,e5⟩=>?_⟩
  subst e1;subst e2
  show wpAny _ A (load s.heap.objs.size >>= _) _ _ _
  exact aI (MH e4 (fin _ h' qC acc c' (λxs=>pure xs.toList) (λ_=>rfl) rfl e3 (eD e4) e5))
 refine aI (MK (aI ?_))
 show wpAny _ _ (updateSeq s.heap.objs.size (·.push .none) >>= λ_=>updateSeq s.heap.objs.size (·.pop)) _ _ _
 refine aI (wpAny_updateSeq g1 rfl ?_)
 have g2:=Nl (rW (·.push mi)) g1 rfl
 refine wpAny_updateSeq (hz:=by seq_fits) g2 rfl ?_
 have g3:=Nl (rW (·.pop)) g2 rfl
 have WG:∀b o,b≠s.heap.objs.size->h'.get? b=some o->((h'.update s.heap.objs.size (rW (·.push mi))).update s.heap.objs.size (rW (·.pop))).get? b=some o:=λb o hb e =>
  (Kf _ _ (l5 hb)).trans ((Kf _ _ (l5 hb)).trans e)
 refine b9 ⟨Ey F.plain_extend_loop _,B4 (end_ _ _ s.toks (W.frame 0 _ _ st λb hb o e=>WG b o (λz=>qF (z▸hb)) e) (λb o hb e=>WG b o hb (k b o (up b o e))) g3) λq fF ⟨h',qC,acc,c',e1,e2,e3,e4,e5⟩=>?_⟩
 subst e1;subst e2
 show wpAny _ A (load s.heap.objs.size >>= _) _ _ _
 exact aI (MH e4 (fin _ h' qC acc c' (λxs=>pure xs.toList) (λ_=>rfl) rfl e3 (eD e4) e5))
end
end SE
namespace SE
open PySem PyProof.Rows PySem.Calls
theorem rQ{α:Type}{p q:α->Bool}:∀(l:List α),(∀x∈l,p x=true->q x=true)->(∃x∈l,q x=true/\p x=false)->l.countP p<l.countP q
 | [],_,⟨_,z,_⟩=>nomatch z
 | a::l,h,⟨x,hx,h1,h2⟩=>by
  have mono:l.countP p<=l.countP q:=List.countP_mono_left λy hy=>h y (i0 _ hy)
  rcases ej.mp hx with e | hx
  .subst e
   rw [Nn h1,S0 (by rw [h2];exact vC)]
   exact Nat.lt_succ_of_le mono
  .have ih:=rQ l (λy hy=>h y (i0 _ hy)) ⟨x,hx,h1,h2⟩
   by_cases ha:p a=true
   .rw [Nn ha,Nn (h a jM ha)]
    exact SJ ih
   .rw [S0 ha]
    by_cases hb:q a=true
    .rw [Nn hb];exact yu ih
    .rw [S0 hb];exact ih
structure Ol{K:Type}(lt:K->K->Bool):Prop where
 DT:∀a,lt a a=false
 tr:∀{a b c},lt a b=true->lt b c=true->lt a c=true
 He:∀{a b},a≠b->lt a b=true\/lt b a=true
section
variable {prog:Program}{w:World}{K:Type}[DecidableEq K]{knd:CW prog w K}{lt:K->K->Bool}{A:Around}{E:Value->Shared->Prop}{s:Shared}
structure Od(knd:CW prog w K)(lt:K->K->Bool):Prop where
 ol:Ol lt
 one:∀{a b:K} {u v:Value} {A:Around} {E:Value->Shared->Prop} {s:Shared} {Q:Bool->Shared->Prop},knd.is a u=true->knd.is b v=true->Q (lt a b) s->wpAny (model prog w) A (oneLt' true u v) Q E s
 kind:∀{us:List (K×Value)},(∀q∈us,knd.is q.1 q.2=true)->2<=us.length->keyKind' (us.map (·.2)).toArray=pure oneType'
noncomputable def rk(lt:K->K->Bool)(ks:List K)(k:K):Int:=(ks.countP λx=>lt x k:Nat)
theorem NB(O:Od knd lt){ks:List K}{a b:K}(ha:a∈ks)(h:lt a b=true):rk lt ks a<rk lt ks b:=by
 unfold rk
 have:=rQ (p:=λx=>lt x a) (q:=λx=>lt x b) ks (λx _ z=>O.ol.tr z h) ⟨a,ha,h,O.ol.DT a⟩
 omega
theorem Zs(O:Od knd lt){ks:List K}{a b:K}(ha:a∈ks)(hb:b∈ks):rk lt ks a<rk lt ks b↔lt a b=true:=by
 refine ⟨λz=>?_,NB O ha⟩
 by_cases e:a=b
 .subst e;omega
 .rcases O.ol.He e with q | q
  .exact q
  .have:=NB O hb q;omega
noncomputable def ky(knd:CW prog w K)(lt:K->K->Bool)(ks:List K)(v:Value):Int:=match ks.find? λk=>knd.is k v with
 | some k=>rk lt ks k
 | none=>0
theorem TC{ks:List K}{k:K}{v:Value}(hk:k∈ks)(h:knd.is k v=true):ky knd lt ks v=rk lt ks k:=by
 unfold ky
 cases hf:ks.find? λk=>knd.is k v with
 | none=>exact absurd h (by simpa using List.find?_eq_none.mp hf k hk)
 | some k'=>rw [knd.inj v k' k (List.find?_some (p:=λk=>knd.is k v) hf) h]
theorem zw:∀{ks ns:List K},ks.Nodup->(∀x∈ks,x∈ns)->ks.length<=ns.length
 | [],_,_,_=>vF _
 | x::ks,ns,h,m=>by
  have hx:=m x jM
  have h':=F6.mp h
  have:=zw (ns:=ns.erase x) h'.2 λy hy=>(List.mem_erase_of_ne (show y≠x from λz=>h'.1 (z▸hy))).mpr (m y (i0 _ hy))
  have e:=List.length_erase_of_mem hx
  have:=List.length_pos_of_mem hx
  rw [ia]
  omega
theorem b64(O:Od knd lt){ks:List K}{us:List (K×Value)}(IU:ks.Nodup)(hu:(us.map (·.1)).Perm ks)(hi:∀q∈us,knd.is q.1 q.2=true)(S:Shared)(h2:2<=us.length)(xJ:us.length<64):
  (∀{A:Around} {E:Value->Shared->Prop} {Q:SortKind->Shared->Prop},Q oneType' S->wpAny (model prog w) A (keyKind' (us.map (·.2)).toArray) Q E S) /\
  ∀{A:Around} {E:Value->Shared->Prop},wpS (model prog w) A E S sortRuns' (λ_ j7=>((((arrOf j7).map (·.2)).toList.Perm (us.map (·.2)))/\((arrOf j7).map (·.2)).toList.Pairwise λx y=>ky knd lt ks x<ky knd lt ks y)/\failedOf j7=none) (Sn oneType' (pairsOf (us.map (·.2))) #[] 7 none):=by
 have mem:∀q∈us,q.1∈ks:=λq hq=>hu.mem_iff.mp (pd.mpr ⟨q,hq,rfl⟩)
 have kq:∀q∈us,ky knd lt ks q.2=rk lt ks q.1:=λq hq=>TC (mem q hq) (hi q hq)
 refine ⟨λ{A E Q} hQ=>by rw [O.kind hi h2];exact b9 hQ,λ{A E}=>?_⟩
 have hl:(us.map (·.2)).length=us.length:=cP ..
 have ga:∀i (h:i<us.length),(us.map (·.2)).getD i mi=(us[i]).2:=λi h=>by simp [h]
 generalize hK:(λi:Nat=>ky knd lt ks ((us.map (·.2)).getD i mi))=K
 have Ki:∀i (h:i<us.length),K i=rk lt ks (us[i]).1:=λi h=>by
  rw [<-hK]
  show ky knd lt ks _=_
  rw [ga i h,kq _ (pL h)]
 have nd:(us.map (·.1)).Nodup:=hu.nodup_iff.mpr IU
 obtain ⟨o1,o2⟩:=KS.zj K us.length (by omega)
 unfold wpS
 refine lL (PySem.W.kat_run (ks:=us.map (·.2)) (vs:=us.map (·.2)) (κ:=oneType') (Q:=λj7 s'=>s'=S/\((((arrOf j7).map (·.2)).toList.Perm (us.map (·.2)))/\((arrOf j7).map (·.2)).toList.Pairwise λx y=>ky knd lt ks x<ky knd lt ks y)/\failedOf j7=none) (G:=λp s'=>s'=S/\p.toList=KS.ord K us.length) rfl (by rw [hl];exact h2) (by rw [hl];exact xJ) (λp j7 s' hz ha hf hp=>⟨hp.1,?_,hf⟩) ?_) (λr s' h=>h) λ_ _ z=>z
 .rw [PySem.W.kat_snds rfl ha,hp.2]
  constructor
  .refine (o1.map λi=>(us.map (·.2)).getD i mi).trans ?_
   have:(jB us.length).map (λi=>(us.map (·.2)).getD i mi)=us.map (·.2):=by
    refine List.ext_getElem (by simp) λi h1 h2=>?_
    simp at h1
    simp [h1]
   rw [this]
  .show RR _ ((KS.ord K us.length).map λi=>(us.map (·.2)).getD i mi)
   rw [M3]
   have od:(KS.ord K us.length).Nodup:=o1.nodup_iff.mpr List.nodup_range
   refine (List.Pairwise.and o2 od).imp_of_mem λ{i j} mU BL h=>?_
   have I9:=z9.mp (o1.mem_iff.mp mU)
   have IY:=z9.mp (o1.mem_iff.mp BL)
   have e1:=Ki i I9
   have e2:=Ki j IY
   rw [ga i I9,ga j IY,kq _ (pL I9),kq _ (pL IY),<-e1,<-e2]
   have ng:(us[i]).1≠(us[j]).1:=λz=>h.2 (by
    have:=(List.getElem_inj (xs:=us.map (·.1)) (i:=i) (j:=j) (h₀:=by simpa using I9) (h₁:=by simpa using IY) nd).mp (by simpa using z)
    exact this)
   have hle:=h.1
   have m1:=mem _ (pL I9)
   have m2:=mem _ (pL IY)
   rcases O.ol.He ng with q | q
   .have:=NB O m1 q;omega
   .have:=NB O m2 q;omega
 .rw [hl]
  refine KS.Cy (n:=us.length) (cmp:=KS.jL K) (λi j mU BL Q hQ=>?_) (KS.BE (by omega)) ⟨rfl,rfl⟩
  unfold PySem.W.kas_ask
  rw [ga i mU,ga j BL,keyLt'_oneType]
  refine O.one (hi _ (pL mU)) (hi _ (pL BL)) ?_
  have:KS.jL K i j=lt (us[i]).1 (us[j]).1:=by
   show decide (K i<K j)=_
   rw [Ki i mU,Ki j BL,JW,decide_eq_true_eq]
   exact Zs O (mem _ (pL mU)) (mem _ (pL BL))
  rwa [this] at hQ
theorem qS(O:Od knd lt){a:Addr}{o:Obj}{ks:List K}{Q:Value->Shared->Prop}(hh:A.handled=none)(ho:s.heap.get? a=some o)(Z:Sa knd o ks)(Q3:ks.Nodup)(xJ:ks.length<64)
  (h:∀(h':Heap) d' tk D e (us:List (K×Value)),(∀b o,s.heap.get? b=some o->h'.get? b=some o)->s.heap.objs.size<=D->h'.get? D=some (seqObj "list" (us.map (·.2)).toArray e)->(us.map (·.1)).Perm ks->(us.map (·.1)).Pairwise (λx y=>lt x y=true)->(∀q∈us,knd.is q.1 q.2=true)->us.length<scanBound->Q (.ref D) { s with heap:=h',drawn:=d',toks:=tk }):
  wpAny (model prog w) A (call (.builtin "sorted") [.ref a]) Q E s:=by
 refine Calls.call_function_entry kind_sorted plain_sorted entry_sorted (args_sorted1 _) ?_
 unfold Builtin.«sorted»
 refine aI (m:=checkCount "sorted" 1 1 _) (b9 (aI (b0w (by simp [hh]) ho Z λh1 d' tk us k1 sz pu iu lu=>?_)))
 generalize hv:us.map (λq=>(q.1,q.2.2))=vs
 have e1:us.map (·.2.2)=vs.map (·.2):=by rw [<-hv,vD];rfl
 have e2:us.map (·.1)=vs.map (·.1):=by rw [<-hv,vD];rfl
 have iv:∀q∈vs,knd.is q.1 q.2=true:=λq hq=>by
  rw [<-hv] at hq
  obtain ⟨r,hr,rfl⟩:=pd.mp hq
  exact iu r hr
 have lv:vs.length<scanBound:=by rw [<-hv,cP];exact lu
 rw [e2] at pu
 rw [e1]
 have hZ:(vs.map (·.2)).length<=sizeLine:=by rw [cP];exact FW lv
 refine aI (wpAny_newList (hsz:=hZ) ?_)
 have z2:(h1.push (seqObj "list" (vs.map (·.2)).toArray 0)).get? h1.objs.size=some (seqObj "list" (vs.map (·.2)).toArray 0):=j' _ rfl
 have mem:∀q∈vs,q.1∈ks:=λq hq=>pu.mem_iff.mp (pd.mpr ⟨q,hq,rfl⟩)
 refine aI (rV (Eu slot_list_sort ⟨_,z2,rfl⟩ entry_list_sort (TS.Hy (κ:=oneType') (R:=λout=>out.toList.Perm (vs.map (·.2))/\out.toList.Pairwise λx y=>ky knd lt ks x<ky knd lt ks y) z2 hZ (λhl=>?_) (λout ho=>?_) (λS _ h2=>b64 O Q3 pu iv S (by rwa [cP] at h2) (by have:=pu.length_eq;rw [cP] at this;omega)) λout o1=>⟨_,rfl,?_⟩) (args_list_sort _)))
 .refine ⟨Ew _,?_⟩
  rw [cP] at hl
  show RR _ (vs.map (·.2))
  cases vs with
  | nil=>exact Kg
  | cons x l=>cases l with
   | nil=>exact S1 _ _
   | cons y l=>simp at hl;omega
 .rw [<-tW,ho.1.length_eq]
 .refine b9 ⟨_,rfl,?_⟩
  obtain ⟨ws,pw,ew⟩:=Ob o1.1 vs rfl
  obtain ⟨e,he⟩:=sortedHeap_at (out:=out) z2
  have k2:∀b o,s.heap.get? b=some o->(sortedHeap (h1.push (seqObj "list" (vs.map (·.2)).toArray 0)) h1.objs.size (vs.map (·.2)) out).get? b=some o:=λb o eb=>by
   have hb:b<h1.objs.size:=eD (k1 b o eb)
   rw [sortedHeap_old (gi hb) (by rw [pf];exact yu hb)]
   exact ft _ (k1 b o eb)
  refine h _ d' tk _ e ws k2 sz (by rw [he];congr 1;congr 1;rw [<-ew]) ((pw.map _).trans pu) ?_ (λq hq=>iv q (pw.mem_iff.mp hq)) (by rw [pw.length_eq];exact lv)
  have p:=o1.2
  rw [ew,M3] at p
  rw [M3]
  refine p.imp_of_mem λ{x y} hx hy z=>?_
  have qd:=pw.mem_iff.mp hx
  have zE:=pw.mem_iff.mp hy
  rw [TC (mem x qd) (iv x qd),TC (mem y zE) (iv y zE)] at z
  exact (Zs O (mem x qd) (mem y zE)).mp z
end
end SE
namespace SE
open PySem PyProof.Rows
noncomputable def ltI:Int->Int->Bool:=λa b=>decide (a<b)
noncomputable def oY:Str->Str->Bool:=λa b=>decide (a.cps.toList<b.cps.toList)
theorem oV:Ol ltI where
 DT:=λa=>by simp [ltI]
 tr:=λh1 h2=>by simp [ltI] at *;omega
 He:=λh=>by simp [ltI];omega
theorem DM{prog:Program}{w:World}:Od (intKind prog w) ltI where
 ol:=oV
 one:=λ{a b u v A E s Q} ha hb hQ=>by
  obtain ⟨t,rfl⟩:=Kh ha
  obtain ⟨t',rfl⟩:=Kh hb
  exact oneLt_int hQ
 kind:=λ{us} h h2=>by
  have key:∀us:List (Int×Value),(∀q∈us,(intKind prog w).is q.1 q.2=true)->IntsAre (us.map (·.2)) (us.map (·.1)):=λus=>by
   induction us with
   | nil=>intro _;exact .nil
   | cons q us ih =>
    intro h
    obtain ⟨t,e⟩:=Kh (h q jM)
    rw [gS,gS,e]
    exact .cons _ t (ih λq hq=>h q (i0 _ hq))
  have k:=key us h
  match us,h2,k with
  | a::b::us,_,k=>exact keyKind_ints k
theorem a6F:∀{a b:List Nat},a≠b->a<b\/b<a
 | [],[],h=>absurd rfl h
 | [],_::_,_=>.inl List.Lex.nil
 | _::_,[],_=>.inr List.Lex.nil
 | x::a,y::b,h=>by
  rcases Nat.lt_trichotomy x y with q | q | q
  .exact .inl (List.Lex.rel q)
  .subst q
   rcases a6F (a:=a) (b:=b) (λe=>h (by rw [e])) with z | z
   .exact .inl (List.Lex.cons z)
   .exact .inr (List.Lex.cons z)
  .exact .inr (List.Lex.rel q)
theorem jk:Ol oY where
 DT:=λa=>by simp [oY,List.lt_irrefl]
 tr:=λh1 h2=>by
  unfold oY at *
  rw [decide_eq_true_eq] at *
  exact List.lt_trans h1 h2
 He:=λ{a b} h=>by
  unfold oY
  rw [decide_eq_true_eq,decide_eq_true_eq]
  refine a6F λe=>h ?_
  obtain ⟨x⟩:=a
  obtain ⟨y⟩:=b
  have e':x=y:=SM.mp e
  rw [e']
theorem DK{prog:Program}{w:World}:Od (J0 prog w) oY where
 ol:=jk
 one:=λ{a b u v A E s Q} ha hb hQ=>by
  obtain ⟨t,rfl⟩:=Ka ha
  obtain ⟨t',rfl⟩:=Ka hb
  exact oneLt_str hQ
 kind:=λ{us} h h2=>by
  have key:∀us:List (Str×Value),(∀q∈us,(J0 prog w).is q.1 q.2=true)->StrsAre (us.map (·.2)) (us.map (·.1)):=λus=>by
   induction us with
   | nil=>intro _;exact .nil
   | cons q us ih =>
    intro h
    obtain ⟨t,e⟩:=Ka (h q jM)
    rw [gS,gS,e]
    exact .cons _ t (ih λq hq=>h q (i0 _ hq))
  have k:=key us h
  match us,h2,k with
  | a::b::us,_,k=>exact keyKind_strs k
noncomputable def ins{K:Type}(lt:K->K->Bool)(x:K):List K->List K
 | []=>[x]
 | y::l=>if lt x y=true then x::y::l else if lt y x=true then y::ins lt x l else y::l
noncomputable def oa{K:Type}(lt:K->K->Bool):List K->List K
 | []=>[]
 | x::l=>ins lt x (oa lt l)
section
variable {K:Type}[DecidableEq K]{lt:K->K->Bool}
theorem Uh(O:Ol lt)(x z:K):∀l:List K,z∈ins lt x l↔z=x\/z∈l
 | []=>by simp [ins]
 | y::l=>by
  unfold ins
  split
  .simp
  .split
   .rw [ej,Uh O x z l,ej]
    constructor
    .rintro (q | q | q)
     .exact .inr (.inl q)
     .exact .inl q
     .exact .inr (.inr q)
    .rintro (q | q | q)
     .exact .inr (.inl q)
     .exact .inl q
     .exact .inr (.inr q)
   .rename_i h1 h2
    have e:x=y:=Classical.byContradiction λz=>(O.He z).elim h1 h2
    subst e
    simp
theorem ZD(O:Ol lt)(x:K):∀l:List K,l.Pairwise (λa b=>lt a b=true)->(ins lt x l).Pairwise (λa b=>lt a b=true)
 | [],_=>S1 _ _
 | y::l,h=>by
  obtain ⟨h1,h2⟩:=F2.mp h
  unfold ins
  split
  .rename_i q
   refine F2.mpr ⟨λz hz=>?_,h⟩
   rcases ej.mp hz with e | e
   .rw [e];exact q
   .exact O.tr q (h1 z e)
  .split
   .rename_i q
    refine F2.mpr ⟨λz hz=>?_,ZD O x l h2⟩
    rcases (Uh O x z l).mp hz with e | e
    .rw [e];exact q
    .exact h1 z e
   .exact h
theorem kr(O:Ol lt)(z:K):∀l:List K,z∈oa lt l↔z∈l
 | []=>ju
 | x::l=>by unfold oa;rw [Uh O,kr O z l,ej]
theorem me(O:Ol lt):∀l:List K,(oa lt l).Pairwise (λa b=>lt a b=true)
 | []=>Kg
 | x::l=>ZD O x _ (me O l)
theorem rY(O:Ol lt):∀{l m:List K},l.Pairwise (λa b=>lt a b=true)->m.Pairwise (λa b=>lt a b=true)->(∀z,z∈l↔z∈m)->l=m
 | [],[],_,_,_=>rfl
 | [],b::m,_,_,h=>absurd ((h b).mpr jM) (λz=>nomatch z)
 | a::l,[],_,_,h=>absurd ((h a).mp jM) (λz=>nomatch z)
 | a::l,b::m,hl,hm,h=>by
  obtain ⟨l1,l2⟩:=F2.mp hl
  obtain ⟨m1,m2⟩:=F2.mp hm
  have no:∀{x y:K},lt x y=true->lt y x=true->False:=λ{x y} p q=>by
   have:=O.tr p q
   rw [O.DT] at this
   exact Et this
  have e:a=b:=by
   rcases ej.mp ((h a).mp jM) with q | q
   .exact q
   .rcases ej.mp ((h b).mpr jM) with r | r
    .exact r.symm
    .exact (no (m1 a q) (l1 b r)).elim
  subst e
  rw [rY O l2 m2 λz=>?_]
  constructor
  .intro hz
   rcases ej.mp ((h z).mp (i0 _ hz)) with q | q
   .subst q
    have:=l1 z hz
    rw [O.DT] at this
    exact Et this
   .exact q
  .intro hz
   rcases ej.mp ((h z).mpr (i0 _ hz)) with q | q
   .subst q
    have:=m1 z hz
    rw [O.DT] at this
    exact Et this
   .exact q
end
end SE
namespace DL
open PySem PySem.Spec PyProof.Rows L2
theorem _root_.L2.Inv.drawn{X:Cx}{pins:List (Addr×Obj)}{σ:List (Option V)}{H:Hp}{s:Shared}(I:Inv X pins σ H s)(d':Drawn):Inv X pins σ H { s with drawn:=d' }:=
 ⟨I.ok,I.os,I.bare,I.base,I.loc,I.cell,I.free,I.d9,I.pin,I.bE,I.len⟩
section
variable {X:Cx}{K:Type}[DecidableEq K]{knd:CW X.prog X.w K}{lt:K->K->Bool}{mk:K->V}
structure Kv(knd:CW X.prog X.w K)(mk:K->V):Prop where
 to:∀{k:K} {u:Value},RelV (mk k) u->knd.is k u=true/\u.scannable=true
 of:∀{k:K} {u:Value},knd.is k u=true->RelV (mk k) u
noncomputable def sE(knd:CW X.prog X.w K)(a:Addr)(ks:List K):HO:=.ext λh=>∃o,h.get? a=some o/\SE.Sa knd o ks
theorem jt(T:Kv knd mk)(dk:K)(hc:X.calm=true):de X (.type "set") (λxs H Q=>∃(p:Addr) (ns:List K),xs=[.ref p]/\Sq X.K H true p (ns.map mk)/\ns.length+1<scanBound /\
  ∀(a:Addr) (ks:List K),ks.Nodup->(∀x,x∈ks↔x∈ns)->H a=none->Q (.ref a) (upd H a (sE knd a ks))):=by
 intro pins s σ H xs us Q I r h
 obtain ⟨p,ns,rfl,hq,hb,q⟩:=h
 obtain ⟨u,rfl,ru⟩:=r.one
 cases ru
 obtain ⟨aB,rv,pl⟩:=Kw (b:=true) I hq
 have hl:aB.length=ns.length:=by rw [<-rv.length,cP]
 refine SE.jt (knd:=knd) (items:=aB.toArray) (I.ok.hd hc) pl (λi=>ns.getD i dk) (λi v hv=>?_) (by rw [gZ,hl];exact hb) λh' tk o ks k ho Z D=>?_
 .rw [Ni] at hv
  have hi:i<ns.length:=by
   have:=(ni.mp hv).1
   omega
  obtain ⟨u,e1,e2⟩:=aF.get (x:=mk ns[i]) rv (i:=i) (by rw [nj,je hi];rfl)
  rw [hv] at e1
  cases e1
  rw [Nd,je hi]
  exact T.to e2
 .have fr:H s.heap.objs.size=none:=I.bE.fresh (cT _)
  refine ⟨.ref s.heap.objs.size,_,I.laid (o:=sE knd s.heap.objs.size ks) (t':=tk) (λb o e=>k b o (eD e) e) (cT _) ⟨⟨o,ho,Z⟩,⟨o,ho⟩,λh1 h2 ⟨o,e,z⟩ kk=>⟨o,kk _ e,z⟩⟩,rfl,q _ ks D.nd (λx=>?_) fr⟩
  rw [D.mem,gZ,hl]
  constructor
  .rintro ⟨j,hj,e⟩
   rw [<-e,Nd,je hj]
   exact pL hj
  .intro hx
   obtain ⟨j,hj,e⟩:=Gc.mp hx
   exact ⟨j,hj,by rw [Nd,je hj];exact e⟩
theorem a5S(T:Kv knd mk)(O:SE.Od knd lt)(hc:X.calm=true):de X (.builtin "sorted") (λxs H Q=>∃(p:Addr) (ks:List K),xs=[.ref p]/\H p=some (sE knd p ks)/\ks.Nodup/\ks.length<64 /\
  ∀(ms:List K) (a:Addr),ms.Perm ks->ms.Pairwise (λx y=>lt x y=true)->H a=none->Q (.ref a) (upd H a (.lst (ms.map mk)))):=by
 intro pins s σ H xs vs Q I r h
 obtain ⟨p,ks,rfl,hp,Q3,xJ,q⟩:=h
 obtain ⟨u,rfl,ru⟩:=r.one
 cases ru
 obtain ⟨⟨o,ho,Z⟩,_⟩:=I.bE p _ hp
 refine SE.qS O (I.ok.hd hc) ho Z Q3 xJ λh' d' tk D e us k sz hD pu A9 iu lu=>?_
 have fr:H D=none:=I.bE.fresh sz
 refine ⟨.ref D,_,(I.laid (o:=.lst ((us.map (·.1)).map mk)) (t':=tk) k sz ⟨?_,us.map (·.2),e,?_,hD⟩).drawn d',rfl,q _ D pu A9 fr⟩
 .rw [cP,cP];exact FW lu
 .clear hD pu A9 lu
  induction us with
  | nil=>exact .nil
  | cons x us ih=>exact .cons (T.of (iu x jM)) (ih λq hq=>iu q (i0 _ hq))
theorem Y4:Kv (intKind X.prog X.w) V.int:=⟨λ{k u} ⟨t,e⟩=>by subst e;exact ⟨by simp [intKind,Sb],rfl⟩,λh=>Kh h⟩
theorem T8:Kv (J0 X.prog X.w) V.str:=⟨λ{k u} ⟨t,e⟩=>by subst e;exact ⟨by simp [J0,RT],rfl⟩,λh=>Ka h⟩
theorem YH{e:Expr}{t1 t2:TE}(h1:PE X e t1)(h2:PE X e t2):PE X e (λσ H Q=>t1 σ H Q\/t2 σ H Q):=λpins s σ H Q I h=>h.elim (h1 pins s σ H Q I) (h2 pins s σ H Q I)
theorem Y0{K:aJ}{O:Addr->Prop}{H:Hp}:∀ws:List Int,aO K O H (ws.map V.int) (ws.map D.int)
 | []=>.nil
 | _::ws=>.cons (Is.int _) (Y0 ws)
theorem Y1{K:aJ}{O:Addr->Prop}{H:Hp}:∀ws:List Str,aO K O H (ws.map V.str) (ws.map D.str)
 | []=>.nil
 | _::ws=>.cons (Is.str _) (Y1 ws)
noncomputable def t8:List D->Option (List Str)
 | []=>some []
 | .str x::ds=>(t8 ds).map (x::·)
 | _::_=>none
theorem Ve:∀{ds:List D} {ss:List Str},t8 ds=some ss->ds=ss.map D.str
 | [],ss,h=>by cases h;rfl
 | .str x::ds,ss,h=>by
  obtain ⟨s',h1,rfl⟩:=map_some (show (t8 ds).map (x::·)=some ss from h)
  rw [Ve h1];rfl
theorem U'{K:aJ}{O:Addr->Prop}{H:Hp}:∀{xs:List V} {ns:List Str},aO K O H xs (ns.map D.str)->xs=ns.map V.str
 | _,[],h=>by cases h;rfl
 | _,n::ns,h=>by
  cases h with
  | cons a t =>
   cases a
   rw [U' t];rfl
noncomputable def sset(ds:List D):Option (List D):=match yK ds with
 | some ns=>if ns.length<64 then some ((SE.oa SE.ltI ns).map D.int) else none
 | none=>(t8 ds).bind λss=>if ss.length<64 then some ((SE.oa SE.oY ss).map D.str) else none
noncomputable def Nw(f:En->Option Sl):En->Option Sl:=λenv=>(f env).bind λr=>match r.d with
 | .lst _ ds=>(sset ds).map Sl.ow
 | _=>none
theorem b74{e:Expr}{fa:En->Option Sl}{p pos p2 lN:Pos}(hc:X.calm=true)(hg:Gl X "sorted")(hm:X.mg "sorted" = none)(CN:Gl X "set")(CL:X.mg "set" = none)(he:EV X e fa)(hs:starEach [e] X.env=[(false,eval e X.env)]:=by rfl)
  (lX:starEach [.Call (.Name "set" p2) [e] [] lN] X.env=[(false,eval (.Call (.Name "set" p2) [e] [] lN) X.env)]:=by rfl):EV X (.Call (.Name "sorted" p) [.Call (.Name "set" p2) [e] [] lN] [] pos) (Nw fa):=by
 obtain ⟨t,pt,k⟩:=he
 have P1:=Dh (p:=p) (pos:=pos) (a5S Y4 SE.DM hc) hg hm (by decide +kernel) (lj (Dg (p:=p2) (pos:=lN) (jt Y4 (0:Int) hc) CN CL (by decide +kernel) (lj pt nv hs) (by decide) (by decide) hs rfl) nv lX) (by decide) (by decide) lX rfl
 have P2:=Dh (p:=p) (pos:=pos) (a5S T8 SE.DK hc) hg hm (by decide +kernel) (lj (Dg (p:=p2) (pos:=lN) (jt T8 ("":Str) hc) CN CL (by decide +kernel) (lj pt nv hs) (by decide) (by decide) hs rfl) nv lX) (by decide) (by decide) lX rfl
 refine ⟨_,YH P1 P2,λO B σ H env s Q R e q=>?_⟩
 obtain ⟨r,e1,e2⟩:=bind_some e
 cases hd:r.d with
 | lst b ds =>
  rw [hd] at e2
  obtain ⟨rs,e3,rfl⟩:=map_some (show (sset ds).map Sl.ow=some s from e2)
  unfold sset at e3
  split at e3
  .rename_i ns e4
   obtain ⟨xJ,rfl⟩:=jg e3
   refine .inl (k O B σ H env r _ R e1 λv H1 s1 r1=>?_)
   have hi:=r1.is λq=>R.oo
   rw [hd] at hi
   have JK:=a7v e4
   subst JK
   obtain ⟨a,xs,rfl,h2,h3⟩:=hi.seq (k:=true) rfl
   have ex:=a8Y h3
   subst ex
   refine ⟨a,ns,rfl,h2,CZ (SJ xJ) (by decide),λc ks nd mem hc=>⟨c,ks,rfl,lM,nd,MW (SE.zw nd λx hx=>(mem x).mp hx) xJ,λms d pm A9 hd=>?_⟩⟩
   have zF:ms=SE.oa SE.ltI ns:=SE.rY SE.oV A9 (SE.me SE.oV ns) λz=>by rw [pm.mem_iff,mem,SE.kr SE.oV]
   have AL:H1 d=none:=by
    by_cases z:d=c
    .rw [z,lM] at hd;cases hd
    .rwa [fm z] at hd
   rw [<-zF] at q
   refine q _ _ ((s1.trans (nW hc _)).trans (nW hd _)) ((Gx hd ?_).from (s1.trans (nW hc _)))
   exact Y0 _
  .rename_i e4
   obtain ⟨ss,e5,e6⟩:=bind_some e3
   obtain ⟨xJ,rfl⟩:=jg e6
   refine .inr (k O B σ H env r _ R e1 λv H1 s1 r1=>?_)
   have hi:=r1.is λq=>R.oo
   rw [hd] at hi
   have JK:=Ve e5
   subst JK
   obtain ⟨a,xs,rfl,h2,h3⟩:=hi.seq (k:=true) rfl
   have ex:=U' h3
   subst ex
   refine ⟨a,ss,rfl,h2,CZ (SJ xJ) (by decide),λc ks nd mem hc=>⟨c,ks,rfl,lM,nd,MW (SE.zw nd λx hx=>(mem x).mp hx) xJ,λms d pm A9 hd=>?_⟩⟩
   have zF:ms=SE.oa SE.oY ss:=SE.rY SE.jk A9 (SE.me SE.jk ss) λz=>by rw [pm.mem_iff,mem,SE.kr SE.jk]
   rw [<-zF] at q
   refine q _ _ ((s1.trans (nW hc _)).trans (nW hd _)) ((Gx hd ?_).from (s1.trans (nW hc _)))
   exact Y1 _
 | _=>rw [hd] at e2;cases e2
end
end DL
namespace DL
open PySem L2
def Qc(d:D)(Q:Sl->Prop):Prop:=match d with
 | .lst _ ds=>Wo (sset ds) λrs=>Q (.ow rs)
 | _=>False
theorem HD{r:Bool}{ds:List D}{Q:Sl->Prop}:Qc (.lst r ds) Q↔Wo (sset ds) λrs=>Q (.ow rs):=ju
theorem b5P{f:En->Option Sl}{env:En}{Q:Sl->Prop}:Wo (Nw f env) Q↔Wo (f env) λr=>Qc r.d Q:=by
 unfold Nw
 rw [a0n]
 refine jR λr=>?_
 cases r.d<;>simp [Qc,Wo_none,a1z]
end DL
namespace DL
open PySem PySem.Spec PyProof.Rows L2
mutual
noncomputable def l8:D->Bool
 | .tup ds=>Gp ds
 | .lst _ _=>false
 | .exc _=>false
 | .j9 _ _=>false
 | .obj _ _ _=>false
 | .ic _ _=>false
 | .dq _ _=>false
 | .cD=>true
 | .bl _=>true
 | .int _=>true
 | .str _=>true
noncomputable def Gp:List D->Bool
 | []=>true
 | d::r=>l8 d&&Gp r
end
section
variable {K:aJ}{O O':Addr->Prop}{H:Hp}{p:Addr}{ys:List V}
theorem HJ(hp:H p=some (.lst ys))(h:Rd H q (.tup xs)):q≠p:=λz=>by
 subst z
 rcases h with h | ⟨o,h⟩
 .rw [hp] at h;cases h
 .rw [hp] at h;cases h
mutual
theorem b7M(hp:H p=some (.lst ys))(hO:∀q,O q->O' q\/q=p):∀{v:V} {d:D},Is K O' H v d->l8 d=true->Is K O H v d
 | _,_,.cD,_=>.cD
 | _,_,.bl b,_=>.bl b
 | _,_,.int i,_=>.int i
 | _,_,.str x,_=>.str x
 | _,_,.tup ho h1 hs,f=>.tup (λz=>(hO _ z).elim ho (HJ hp h1)) h1 (UU hp hO hs (by simpa [l8] using f))
 | _,_,.lO h1 hs,f=>.lO h1 (UU hp hO hs (by simpa [l8] using f))
 | _,_,.lst _ _ _,f=>by simp [l8] at f
 | _,_,.nE _ _ _,f=>by simp [l8] at f
 | _,_,.nF _ _,f=>by simp [l8] at f
 | _,_,.exc _ _ _,f=>by simp [l8] at f
 | _,_,.j9 _ _,f=>by simp [l8] at f
 | _,_,.obj _ _ _ _ _,f=>by simp [l8] at f
 | _,_,.ic _ _ _ _,f=>by simp [l8] at f
 | _,_,.dq _ _ _ _,f=>by simp [l8] at f
 | _,_,.rL _ _,f=>by simp [l8] at f
theorem UU(hp:H p=some (.lst ys))(hO:∀q,O q->O' q\/q=p):∀{v:List V} {d:List D},aO K O' H v d->Gp d=true->aO K O H v d
 | _,_,.nil,_=>.nil
 | _,_,.cons h t,f=>by
  simp only [Gp,tV] at f
  exact .cons (b7M hp hO h f.1) (UU hp hO t f.2)
end
end
end DL
namespace DL
open PySem PySem.Spec PyProof.Rows L2
theorem UT{K:aJ}{O:Addr->Prop}{H:Hp}{f:Str}{d:D}:∀{ns:List Str} {vs:List V} {ds:List D},aO K O H vs ds->(ns.zip ds).lookup f=some d->∃v,(ns.zip vs).lookup f=some v/\Is K O H v d
 | [],_,_,_,e=>by cases e
 | n::ns,_,_,.nil,e=>by cases e
 | n::ns,_,_,.cons h t,e=>by
  rw [F0,qG] at e ⊢
  by_cases z:(f==n)=true
  .rw [z] at e ⊢
   cases e
   exact ⟨_,rfl,h⟩
  .rw [SK] at z
   rw [z] at e ⊢
   exact UT t e
theorem b0D{m:Str}:∀{ns:List Str} {vs:List V},m∉ns->(ns.zip vs).lookup m=none
 | [],_,_=>rfl
 | n::ns,[],_=>rfl
 | n::ns,v::vs,h=>by
  rw [F0,qG]
  have:(m==n)=false:=by
   rw [beq_eq_false_iff_ne]
   exact λe=>h (by rw [e];exact jM)
  rw [this]
  exact b0D λz=>h (i0 _ z)
theorem Uu{f:Str}{y:V}:∀{ns:List Str} {us:List V},f∉ns->ns.length=us.length->iS f y (ns.zip us)=(ns++[f]).zip (us++[y])
 | [],[],_,_=>rfl
 | [],_::_,_,h=>by cases h
 | _::_,[],_,h=>by cases h
 | n::ns,u::us,h,hl=>by
  show (if n=f then _ else (n,u)::iS f y (ns.zip us))=(n,u)::(ns++[f]).zip (us++[y])
  rw [if_neg (λe=>h (by rw [e];exact jM)),Uu (λz=>h (i0 _ z)) (by simpa using hl)]
theorem Cc{α:Type}{c:Prop}[Decidable c]{x:Option α}{y:α}(h:(if c then x else none)=some y):c/\x=some y:=by
 by_cases hc:c
 .rw [if_pos hc] at h;exact ⟨hc,h⟩
 .rw [if_neg hc] at h;cases h
theorem b4F{σ:L2.St}{env:En}{x:Option V}{q:Addr}(h:oG (x::σ) (.no::env) q):oG σ env q:=by
 obtain ⟨i,s,e1,o,e2⟩:=h
 cases i with
 | zero=>cases e1;exact o.elim
 | succ i=>exact ⟨i,s,by simpa using e1,o,by simpa using e2⟩
theorem UN{K:aJ}{O:Addr->Prop}{B H:Hp}{σ:L2.St}{env:En}(x:Option V)(R:Rel K O B σ H env):Rel K O B (x::σ) H (.no::env):=by
 have oo:∀q,OO O (x::σ) (.no::env) q->OO O σ env q:=λq z=>z.elim .inl λz=>.inr (b4F z)
 refine ⟨R.same,R.oy,by simp [R.len],λi d e=>?_,λi ds e=>?_,λi ks e=>?_,λi ks ds e=>?_,λi j ds es p e1 e2 e3 e4 o1 o2=>?_⟩
 .cases i with
  | zero=>cases e
  | succ i=>obtain ⟨v,f1,f2⟩:=R.sh i d (by simpa using e);exact ⟨v,by simpa using f1,f2.less oo⟩
 .cases i with
  | zero=>cases e
  | succ i=>obtain ⟨p,xs,f1,f2,f3,f4⟩:=R.ow i ds (by simpa using e);exact ⟨p,xs,by simpa using f1,f2,f3,f4.less oo⟩
 .cases i with
  | zero=>cases e
  | succ i=>obtain ⟨p,f1,f2,f3⟩:=R.dw i ks (by simpa using e);exact ⟨p,by simpa using f1,f2,f3⟩
 .cases i with
  | zero=>cases e
  | succ i=>obtain ⟨p,xs,f1,f2,f3,f4,f5⟩:=R.tw i ks ds (by simpa using e);exact ⟨p,xs,by simpa using f1,f2,f3,f4,f5.less oo⟩
 .cases i with
  | zero=>cases e1;exact o1.elim
  | succ i =>
   cases j with
   | zero=>cases e2;exact o2.elim
   | succ j=>rw [R.sep i j ds es p (by simpa using e1) (by simpa using e2) (by simpa using e3) (by simpa using e4) o1 o2]
def Ap(K:aJ)(c:Str)(P:Addr->Prop):Prop:=∀C,kf K mainGlobals c=some (some (.ref C))->qz K C/\P C
noncomputable def zM(cs:List Str)(f:Str):D->Option D
 | .obj c ns ds=>if c∈cs then (ns.zip ds).lookup f else none
 | _=>none
noncomputable def cI(cs:List Str)(f:Str)(fo:En->Option Sl):En->Option Sl:=λenv=>(fo env).bind λr=>(zM cs f r.d).map Sl.sh
section
variable {X:Cx}{e o:Expr}{es:List Expr}{f m:Str}{pos apos p:Pos}{fo:En->Option Sl}{fs:En->Option (List D)}{cs:List Str}
theorem lb(ho:EV X o fo)(hc:∀c∈cs,Ap X.K c λC=>ak X.K C f)(hb:attributeBase o f X.env (eval o X.env)=eval o X.env:=by rfl):EV X (.Attribute o f pos) (cI cs f fo):=by
 obtain ⟨t,pt,k⟩:=ho
 refine ⟨_,Za pt hb,λO B σ H env s Q R e q=>?_⟩
 obtain ⟨r,e1,e2⟩:=bind_some e
 obtain ⟨d,e3,rfl⟩:=map_some e2
 refine k O B σ H env r _ R e1 λv H1 s1 r1=>?_
 have hi:=r1.is λq=>R.oo
 cases hd:r.d with
 | obj c ns ds =>
  rw [hd] at hi e3
  obtain ⟨hm,e4⟩:=Cc (show (if c∈cs then (ns.zip ds).lookup f else none)=some d from e3)
  cases hi with
  | obj ho hn hp hl hs =>
   obtain ⟨u,hu,iu⟩:=UT hs e4
   obtain ⟨c1,c2⟩:=hc c hm _ hn
   exact ⟨_,_,_,_,u,rfl,hp,c1,c2,hu,q u H1 s1 iu⟩
 | _=>rw [hd] at e3;cases e3
noncomputable def b2i(X:Cx)(m:Str)(j:Nat)(ta:TE)(t:TA):TE:=λσ H Q=>ta σ H λx H1=>∃a C dx fs f fd ps sp,x=.ref a/\H1 a=some (.ins C dx fs)/\qz X.K C/\aA X.K C m f/\fs.lookup m=none/\Binds X.K fd ps []/\cx X.prog X.w X.K X.mg X.base jw j f fd ps sp /\
 t σ H1 λvs H2=>sp (x::vs) H2 Q E0
theorem b4C{pl:Sem Bool}{j:Nat}{ta:TE}{t:TA}(he:PE X o ta)(hr:cF j X.A)(ha:PA X (e::es) t)
  (lW:starEach (e::es) X.env=(false,eval e X.env)::starEach es X.env:=by rfl)(gm:(backTo pos (starEach es X.env)).any (·.1)=false:=by rfl)
  (ht:eval (.Call (.Attribute o m apos) (e::es) [] pos) X.env=(eval o X.env >>= λov=>standAt apos.atName >>= λ_=>holding [ov] (getMethod ov m pl) >>= λz=>callWith pos z.1 z.2 (backTo pos (starEach (e::es) X.env)) (backToKw pos (keywordEach [] X.env))):=by rfl):
  PE X (.Call (.Attribute o m apos) (e::es) [] pos) (b2i X m j ta t):=by
 intro pins s σ H Q I h
 refine Tc (pl:=pl) (cn (he pins s σ H _ I h) λu s1 ⟨x,H1,I1,rx,a,C,dx,fs,f,fd,ps,sp,ex,ea,c,hm,l,hb,F,q⟩=>?_) ht
 subst ex
 obtain rfl:u=dJ a:=rx
 refine a7x I1 ea c hm l (Kj (first:=[.ref a]) (h₀:=X.base) I.ok.mod.zy hm.kp (cn (ha pos pins s1 σ H1 _ I1 q) λus s2 ⟨vs,H2,I2,r,q2⟩=>⟨I2.mf,?_⟩) lW gm)
 exact NO (us:=.ref a::us) (vs:=.ref a::vs) (dvs:=[]) (E:=E0) F hr hb .nil Dc I2 (.cons rfl r) (by rw [vz];exact q2)
theorem b2F{pl:Sem Bool}{j:Nat}{ta:TE}(he:PE X o ta)(hr:cF j X.A)
  (ht:eval (.Call (.Attribute o m apos) [] [] pos) X.env=(eval o X.env >>= λov=>standAt apos.atName >>= λ_=>holding [ov] (getMethod ov m pl) >>= λz=>callWith pos z.1 z.2 (backTo pos (starEach [] X.env)) (backToKw pos (keywordEach [] X.env))):=by rfl):
  PE X (.Call (.Attribute o m apos) [] [] pos) (b2i X m j ta Hl):=by
 intro pins s σ H Q I h
 refine Tc (pl:=pl) (cn (he pins s σ H _ I h) λu s1 ⟨x,H1,I1,rx,a,C,dx,fs,f,fd,ps,sp,ex,ea,c,hm,l,hb,F,q⟩=>?_) ht
 subst ex
 obtain rfl:u=dJ a:=rx
 exact a7x I1 ea c hm l (PySem.W.callWith_K0 (first:=[.ref a]) I1.mf hm.kp (NO (us:=[.ref a]) (vs:=[.ref a]) (dvs:=[]) (E:=E0) F hr hb .nil Dc I1 (.cons rfl .nil) q))
noncomputable abbrev bq:=List (Str×(List D->Option Sl))
def MT(X:Cx)(m:Str)(n j:Nat)(tab:bq):Prop:=∀c φ,tab.lookup c=some φ->Ap X.K c λC=>∃f fd ps,aA X.K C m f/\ps.length=n/\Binds X.K fd ps []/\cx X.prog X.w X.K X.mg X.base jw j f fd ps (qR X.K n φ)
noncomputable def vS(m:Str)(n:Nat)(tab:bq)(d:D)(as:List D):Option Sl:=match d with
 | .obj c ns ds=>if m∈ns\/as.length+1≠n then none else (tab.lookup c).bind λφ=>φ (.obj c ns ds::as)
 | _=>none
noncomputable def jQ(m:Str)(n:Nat)(tab:bq)(fo:En->Option Sl)(fa:En->Option (List D)):En->Option Sl:=λenv=>(fo env).bind λr=>(fa env).bind λas=>vS m n tab r.d as
theorem a8T{t:TE}{u:TA}{n j:Nat}{tab:bq}(T:MT X m n j tab)
  (k:∀(O:Addr->Prop) (B:Hp) (σ:L2.St) (H:Hp) (env:En) (r:Sl) (Q:VK),Rel X.K O B σ H env->fo env=some r->(∀v H',aE H H'->Res X.K (OO O σ env) H H' v r->Q v H')->t σ H Q)
  (ka:∀(O:Addr->Prop) (B:Hp) (σ:L2.St) (H:Hp) (env:En) (ds:List D) (Q:List V->Hp->Prop),Rel X.K O B σ H env->fs env=some ds->(∀vs H',aE H H'->aO X.K (OO O σ env) H' vs ds->Q vs H')->u σ H Q)
  (O:Addr->Prop)(B:Hp)(σ:L2.St)(H:Hp)(env:En)(s:Sl)(Q:VK)(R:Rel X.K O B σ H env)(e:jQ m n tab fo fs env=some s)(q:∀v H',aE H H'->Res X.K (OO O σ env) H H' v s->Q v H'):b2i X m j t u σ H Q:=by
 obtain ⟨r,e1,e2⟩:=bind_some e
 obtain ⟨as,e3,e4⟩:=bind_some e2
 refine k O B σ H env r _ R e1 λv H1 s1 r1=>?_
 have hi:=r1.is λq=>R.oo
 cases hd:r.d with
 | obj c ns ds =>
  rw [hd] at hi e4
  unfold vS at e4
  dsimp only at e4
  split at e4
  .cases e4
  .rename_i tz
   rw [not_or] at tz
   obtain ⟨φ,e5,e6⟩:=bind_some e4
   have mU:=hi
   cases hi with
   | obj ho hn hp hl hs =>
    obtain ⟨c1,f,fd,ps,c2,c3,c4,c5⟩:=T c φ e5 _ hn
    refine ⟨_,_,_,_,f,fd,ps,_,rfl,hp,c1,c2,b0D tz.1,c4,c5,?_⟩
    refine ka O B σ H1 env as _ (R.grow s1) e3 λvs H2 s2 r2=>?_
    have nl:as.length+1=n:=XQ.mp tz.2
    exact ⟨OO O σ env,_,s,((R.grow s1).grow s2).dm,.cons (mU.grow s2) r2,by rw [ia,r2.length];exact nl,e6,λv H3 s3 r3=>q v H3 ((s1.trans s2).trans s3) (r3.from (s1.trans s2))⟩
 | _=>rw [hd] at e4;cases e4
theorem b75{n j:Nat}{tab:bq}{pl:Sem Bool}(ho:EV X o fo)(ha:AV X (e::es) fs)(hr:cF j X.A)(T:MT X m n j tab)
  (lW:starEach (e::es) X.env=(false,eval e X.env)::starEach es X.env:=by rfl)(gm:(backTo pos (starEach es X.env)).any (·.1)=false:=by rfl)
  (ht:eval (.Call (.Attribute o m apos) (e::es) [] pos) X.env=(eval o X.env >>= λov=>standAt apos.atName >>= λ_=>holding [ov] (getMethod ov m pl) >>= λz=>callWith pos z.1 z.2 (backTo pos (starEach (e::es) X.env)) (backToKw pos (keywordEach [] X.env))):=by rfl):
  EV X (.Call (.Attribute o m apos) (e::es) [] pos) (jQ m n tab fo fs):=by
 obtain ⟨t,pt,k⟩:=ho
 obtain ⟨u,pu,ka⟩:=ha
 exact ⟨_,b4C pt hr pu lW gm ht,λO B σ H env s Q R e q=>a8T T k ka O B σ H env s Q R e q⟩
theorem b5a{n j:Nat}{tab:bq}{pl:Sem Bool}(ho:EV X o fo)(hr:cF j X.A)(T:MT X m n j tab)
  (ht:eval (.Call (.Attribute o m apos) [] [] pos) X.env=(eval o X.env >>= λov=>standAt apos.atName >>= λ_=>holding [ov] (getMethod ov m pl) >>= λz=>callWith pos z.1 z.2 (backTo pos (starEach [] X.env)) (backToKw pos (keywordEach [] X.env))):=by rfl):
  EV X (.Call (.Attribute o m apos) [] [] pos) (jQ m n tab fo ae):=by
 obtain ⟨t,pt,k⟩:=ho
 refine ⟨_,b2F pt hr ht,λO B σ H env s Q R e q=>a8T T k (λO B σ H env ds Q R e q=>?_) O B σ H env s Q R e q⟩
 obtain rfl:=gY (show some []=some ds from e)
 exact q [] H (aE.refl _) .nil
noncomputable def Fp(K:aJ)(C:Addr)(n:Nat)(ns:List Str)(ψ:List D->Option (List D)):Sp:=λvs H Q _=>∃(O:Addr->Prop) (p dx:Addr) (ws:List V) (ds fs:List D),vs=.ref p::ws/\ws.length=n/\H p=some (.ins C dx [])/\Bq K O H/\O p/\aO K O H ws ds/\ψ ds=some fs /\
 ∀(us:List V) (H':Hp),ns.length=us.length->(∀q u,H q=some u->q≠p->H' q=some u)->H' p=some (.ins C dx (ns.zip us))->aO K O H' us fs->Q .cD H'
noncomputable def pK(c:Str)(n:Nat)(ns:List Str)(ψ:List D->Option (List D))(fa:En->Option (List D)):En->Option Sl:=λenv=>(fa env).bind λas=>if as.length=n then (ψ as).map λds=>Sl.sh (.obj c ns ds) else none
theorem JE{c:Str}{C f:Addr}{fd:FuncData}{ps:List Str}{n j:Nat}{ns:List Str}{ψ:List D->Option (List D)}(M:Mk X.K C f)(F:cx X.prog X.w X.K X.mg X.base jw j f fd ps (Fp X.K C n ns ψ))(hr:cF (j+1) X.A)(hg:Gl X c)(hm:X.mg c=some (.ref C))(hn:kf X.K mainGlobals c=some (some (.ref C)))(hb:Binds X.K fd ps [])
  (ha:AV X (e::es) fs)(hX:(c==("__debug__":Str))=false:=by decide)(he:starEach (e::es) X.env=(false,eval e X.env)::starEach es X.env:=by rfl)(gm:(backTo pos (starEach es X.env)).any (·.1)=false:=by rfl):
  EV X (.Call (.Name c p) (e::es) [] pos) (pK c n ns ψ fs):=by
 obtain ⟨t,pt,ka⟩:=ha
 refine ⟨_,Z7 M F hr hg hm hb .nil (Dc (X:=X)) pt hX he gm,λO B σ H env r Q R e q=>?_⟩
 obtain ⟨as,e1,e2⟩:=bind_some e
 obtain ⟨hl,e3⟩:=Cc e2
 obtain ⟨gs,e4,rfl⟩:=map_some e3
 refine ka O B σ H env as _ R e1 λvs H1 s1 r1=>?_
 intro x dx nx Qz ne
 have nO:¬OO O σ env x:=λz=>(R.grow s1).oo z nx
 have up1:∀q u,H1 q=some u->upd (upd H1 dx (.own x)) x (.ins C dx []) q=some u:=λq u e=>by rw [fm (qt e nx),fm (qt e Qz)];exact e
 refine ⟨λq=>OO O σ env q\/q=x,x,dx,vs,as,gs,by rw [vz],by rw [r1.length];exact hl,lM,⟨λq hq=>?_,(R.grow s1).dm.2.grow λq u e=>up1 q u e⟩,.inr rfl,r1.map (λq hq hn z=>z.elim hn λe=>hq (by rw [e];exact nx)) λq u e _=>up1 q u e,e4,λus H' mT kp hp hs=>⟨rfl,?_⟩⟩
 .rcases hq with hq | rfl
  .cases hz:H1 q with
   | none=>exact absurd hz ((R.grow s1).oo hq)
   | some u=>rw [up1 q u hz];exact λz=>nomatch z
  .rw [lM];exact λz=>nomatch z
 .have sm:aE H1 H':=λq u e=>kp q u (up1 q u e) (qt e nx)
  exact q _ H' (s1.trans sm) (Is.obj nO hn hp mT (hs.less λq z=>.inl z))
def Dr(X:Cx)(j6:List Stmt)(C:Addr)(F:En->List Str->List D->Option (List Str×List D)):Prop:=
 ∃t:TS,pO X j6 t/\∀(O:Addr->Prop) (σ:L2.St) (H:Hp) (env:En) (p dx:Addr) (ns:List Str) (us:List V) (ds:List D) (gX:List Str) (ds':List D) (Dn:Ends),Rel X.K O H σ H env->(∀(i:Nat) s,env[i]?=some s->¬s.own)->O p->σ[0]?=some (some (V.ref p))->H p=some (.ins C dx (ns.zip us))->ns.length=us.length->aO X.K O H us ds->F env ns ds=some (gX,ds') ->
  (∀(H':Hp) (nB:List V),(∀q u,H q=some u->q≠p->H' q=some u)->H' p=some (.ins C dx (gX.zip nB))->gX.length=nB.length->aO X.K O H' nB ds'->Dn.nx σ H')->t Dn σ H
noncomputable def jm:En->List Str->List D->Option (List Str×List D):=λ_ ns ds=>some (ns,ds)
noncomputable def dg(f:Str)(fe:En->Option Sl)(F:En->List Str->List D->Option (List Str×List D)):En->List Str->List D->Option (List Str×List D):=λenv ns ds=>(fe env).bind λr=>if f∈ns\/900<ns.length then none else F env (ns++[f]) (ds++[r.d])
theorem yO{C:Addr}:Dr X [] C jm:=⟨_,Ut,λO σ H env p dx ns us ds gX ds' Dn R no op hs hp hl hi e q=>by
 cases (show some (ns,ds)=some (gX,ds') from e)
 exact q H us (λ_ _ e _=>e) hp hl hi⟩
theorem c0r{C:Addr}{fe:En->Option Sl}{F:En->List Str->List D->Option (List Str×List D)}{j6:List Stmt}{x:Str}{p1 pos':Pos}(hv:EV X e fe)(hr:Dr X j6 C F)(c:qz X.K C)(n:ak X.K C f)
  (hN:X.N[0]?=some x)(jW:ib X.env.scope x)(hd:(x==("__debug__":Str))=false:=by rfl)(cE:(x==("__classdict__":Str))=false:=by rfl)
  (hs:swapsWith e (some (.Attribute (.Name x p1) f pos')) pos.line X.env=pure false:=by rfl):Dr X (.Assign [.Attribute (.Name x p1) f pos'] e pos::j6) C (dg f fe F):=by
 obtain ⟨t,pt,k⟩:=hv
 obtain ⟨u,pu,ku⟩:=hr
 refine ⟨_,Cm (Ze (pN hN jW hd cE) pt hs) pu,λO σ H env p dx ns us ds gX ds' Dn R no op hs hp hl hi e q=>?_⟩
 obtain ⟨r,e1,e2⟩:=bind_some e
 split at e2
 .cases e2
 rename_i tz
 rw [not_or] at tz
 have rj:∀q,oG σ env q->False:=λq ⟨i,s,h1,h2,_⟩=>no i s h1 h2
 refine k O H σ H env r _ R e1 λv H1 s1 r1=>?_
 have iv:=(r1.is λq=>R.oo).less (O':=O) λq z=>.inl z
 refine ⟨.ref p,hs,p,C,dx,ns.zip us,rfl,s1 _ _ hp,c,n,by rw [A7];omega,?_⟩
 rw [Uu tz.1 hl]
 have kp:∀q u,H1 q=some u->q≠p->upd H1 p (.ins C dx ((ns++[f]).zip (us++[v]))) q=some u:=λq u e ne=>by rw [fm ne];exact e
 have mp:∀{w:V} {d:D},Is X.K O H1 w d->Is X.K O (upd H1 p (.ins C dx ((ns++[f]).zip (us++[v])))) w d:=λh=>h.map (λ_ _ z=>z) λq u e nq=>kp q u e λz=>nq (by rw [z];exact op)
 have QB:∀{w:List V} {d:List D},aO X.K O H1 w d->aO X.K O (upd H1 p (.ins C dx ((ns++[f]).zip (us++[v])))) w d:=λh=>h.map (λ_ _ z=>z) λq u e nq=>kp q u e λz=>nq (by rw [z];exact op)
 refine ku O σ _ env p dx (ns++[f]) (us++[v]) (ds++[r.d]) gX ds' Dn ⟨aE.refl _,⟨λq hq=>?_,λc' P e'=>?_⟩,R.len,λi d e=>?_,λi es e=>(no i _ e trivial).elim,λi es e=>(no i _ e trivial).elim,λi ks es e=>(no i _ e trivial).elim,λi j es fs q e1 _ _ _ o _=>(no i _ e1 o).elim⟩ no op hs lM (by rw [jv,jv,hl];rfl) ((QB (hi.grow s1)).append (.cons (mp iv) .nil)) e2 λH' nB kq uV mT mU=>q H' nB (λq u e ne=>kq q u (kp q u (s1 _ _ e) ne) ne) uV mT mU
 .by_cases z:q=p
  .rw [z,lM];exact λz=>nomatch z
  .rw [fm z]
   cases hz:H q with
   | none=>exact absurd hz (R.oy.1 q hq)
   | some u=>rw [s1 _ _ hz];exact λz=>nomatch z
 .have e3:=R.oy.2 c' P e'
  exact kp _ _ (s1 _ _ e3) λz=>by rw [z,hp] at e3;cases e3
 .obtain ⟨w,f1,f2⟩:=R.sh i d e
  refine ⟨w,f1,(mp ((f2.grow s1).less λq z=>.inl z)).less λq z=>z.elim id λz=>(rj q z).elim⟩
end
section
variable {P:Program}{w:World}{K:aJ}{mg:Str->Option Value}{base:Heap}
noncomputable def eJ(F:En->List Str->List D->Option (List Str×List D))(N:Nat)(ns:List Str)(ds:List D):Option (List D):=match F (.no::lg (N-1) ds) [] [] with
 | some (gX,fs)=>if gX=ns then some fs else none
 | none=>none
theorem ZR{qual:Str}{st:Stmt}{f C:Addr}{fd:FuncData}{N ps:List Str}{k n:Nat}{ns:List Str}{F:En->List Str->List D->Option (List Str×List D)}(Fn:vZ K "__init__" qual st f fd)(S:cz N ps (eS st))(qe:ps.length=n+1)(hN:1<=N.length)
  (cb:∀X:Cx,X.prog=P->X.w=w->X.K=K->X.mg=mg->X.base=base->Fx X N (eS st) k->Dr X (jD st) C F):cx P w K mg base jw (k+1) f fd ps (Fp K C n ns (eJ F N.length ns)):=by
 refine Fn.ok S (λvs H Q E h=>?_) (λfE A outer s H vs Q E hr h=>?_)
 .obtain ⟨O,p,dx,ws,ds,fs,rfl,hl,_⟩:=h
  rw [ia,hl,qe]
 obtain ⟨O,p,dx,ws,ds,fs,rfl,hl,hp,dm,op,hi,e,q⟩:=h
 obtain ⟨t,pt,kk⟩:=cb (iX jw P w K mg base N qual (eS st) f fE A outer s H E).jd rfl rfl rfl rfl rfl ⟨rfl,rfl,rfl,λ_ _=>rfl,B7,hr,S.nd,λ_=>⟨rfl,rfl,rfl⟩⟩
 refine ⟨t,pt,?_⟩
 have R0:=Ll (N:=N.tail) dm hi
 have R1:=UN (some (V.ref p)) R0
 have es:some (V.ref p)::start N.tail ws=start N (V.ref p::ws):=by
  unfold L2.start
  rw [gS,MY,F7,ia,RY,Se 1]
 rw [es,F7] at R1
 unfold eJ at e
 cases hF:F (.no::lg (N.length-1) ds) [] [] with
 | none=>rw [hF] at e;cases e
 | some y =>
  obtain ⟨gX,xK⟩:=y
  rw [hF] at e
  obtain ⟨rfl,rfl⟩:=jg (show (if gX=ns then some xK else none)=some fs from e)
  refine kk O _ H _ p dx [] [] [] gX xK _ R1 (λi s h1 h2=>?_) op rfl hp rfl .nil hF λH' nB kp uV mT mU=>q nB H' mT kp uV mU
  cases i with
  | zero=>cases h1;exact h2
  | succ i =>
   have h1:(lg (N.length-1) ds)[i]?=some s:=by simpa using h1
   unfold lg at h1
   rw [Kb] at h1
   split at h1
   .rw [nj] at h1
    obtain ⟨d,_,e⟩:=map_some h1
    cases e
    exact h2
   .rw [C1] at h1
    split at h1
    .cases h1;exact h2
    .cases h1
end
end DL
namespace DL
open PySem PySem.Spec PyProof.Rows L2
structure dj(K:aJ)(c:Str)(C:Addr):Prop where
 a:kf K mainGlobals c=some (some (.ref C))
 c:qz K C
theorem dj.n{K:aJ}{c:Str}{C:Addr}{P:Addr->Prop}(h:dj K c C)(p:P C):Ap K c P:=λC' e=>by
 rw [h.a] at e
 cases e
 exact ⟨h.c,p⟩
def FL(K:aJ)(f:Str)(cs:List Str):Prop:=∀c∈cs,Ap K c λC=>ak K C f
theorem vU{K:aJ}{f:Str}:FL K f []:=λ_ h=>nomatch h
theorem lh{K:aJ}{f c:Str}{C:Addr}{cs:List Str}(h:dj K c C)(n:ak K C f)(T:FL K f cs):FL K f (c::cs):=λc' hc=>by
 rcases ej.mp hc with rfl | hc
 .exact h.n n
 .exact T c' hc
structure cA(K:aJ)(f:Addr)(x qual:Str)(st:Stmt)(ps:List Str)(fd:FuncData):Prop where
 fn:vZ K x qual st f fd
 bd:Binds K fd ps []
def Om(P:Program)(w:World)(K:aJ)(mg:Str->Option Value)(base:Heap)(f:Addr)(x qual:Str)(st:Stmt)(ps:List Str)(j:Nat)(φ:List D->Option Sl):Prop:=∃fd,cA K f x qual st ps fd/\cx P w K mg base jw j f fd ps (qR K ps.length φ)
theorem nS{P:Program}{w:World}{K:aJ}{mg:Str->Option Value}{base:Heap}{x qual:Str}{st:Stmt}{f:Addr}{fd:FuncData}{N ps:List Str}{k:Nat}{F:SF}(D':cA K f x qual st ps fd)
  (cb:∀X:Cx,Sx X P w K mg base->Fx X N (eS st) k->oF X (jD st) F)(S:cz N ps (eS st):=by exact ⟨rfl,rfl,rfl,by decide +kernel,rfl,by decide +kernel,by decide +kernel⟩):Om P w K mg base f x qual st ps (k+1) (bQ F N.length):=
 ⟨fd,D',Jx D'.fn S λX e1 e2 e3 e4 e5=>by subst e1 e2 e3 e4 e5;exact cb X (.mk X)⟩
def ll(P:Program)(w:World)(K:aJ)(mg:Str->Option Value)(base:Heap)(m:Str)(n j:Nat)(tab:bq):Prop:=∀c φ,tab.lookup c=some φ->Ap K c λC=>∃f fd ps,aA K C m f/\ps.length=n/\Binds K fd ps []/\cx P w K mg base jw j f fd ps (qR K n φ)
section
variable {P:Program}{w:World}{K:aJ}{mg:Str->Option Value}{base:Heap}{m c:Str}{n j:Nat}{tab:bq}
theorem Ce:ll P w K mg base m n j []:=λc φ e=>nomatch e
theorem eG{C f:Addr}{x qual:Str}{st:Stmt}{ps:List Str}{i:Nat}{φ:List D->Option Sl}(h:dj K c C)(hm:aA K C m f)(O:Om P w K mg base f x qual st ps i φ)(T:ll P w K mg base m n j tab)(hj:i<=j:=by decide)(hl:ps.length=n:=by rfl):ll P w K mg base m n j ((c,φ)::tab):=λc' φ' e=>by
 rw [qG] at e
 by_cases z:(c'==c)=true
 .rw [z] at e
  cases e
  obtain rfl:c'=c:=by simpa using z
  obtain ⟨fd,D',F⟩:=O
  exact h.n ⟨f,fd,ps,hm,hl,D'.bd,by rw [<-hl];exact F.mono hj⟩
 .rw [SK] at z
  rw [z] at e
  exact T c' φ' e
end
structure FM(K:aJ)(n q:Str)(t:Stmt)(f:Addr)(od an:Option Addr)(sl:Array (Option Value))(oc kV dc pm cd ct:Value):Prop where
 l:K.lookup f=some ⟨oc,od,.func (nM n q (pC t) (jD t) (eS t) .none kV dc pm an cd ct),sl⟩
 c:J' K cd q=true
 k:yz K (.ref f)=true
theorem iT{K:aJ}{n q:Str}{t:Stmt}{f:Addr}{od an:Option Addr}{sl:Array (Option Value)}{oc kV dc pm cd ct:Value}{ps:List Str}(i:FM K n q t f od an sl oc kV dc pm cd ct)(hb:∀(kV doc pm:Value) (an:Option Addr) (fE ct:Value) (us:List Value),us.length=ps.length->bindArgs (nM n q (pC t) (jD t) (eS t) .none kV doc pm an fE ct) ⟨us,[]⟩=pure (ps.zip us)):
  cA K f n q t ps (nM n q (pC t) (jD t) (eS t) .none kV dc pm an cd ct):=⟨NS i.l i.c i.k,(NS i.l i.c i.k).binds hb⟩
def lp(P:Program)(w:World)(K:aJ)(mg:Str->Option Value)(base:Heap)(c:Str)(n:Nat)(ns:List Str)(j:Nat)(ψ:List D->Option (List D)):Prop:=∃C f fd ps,Mk K C f/\cx P w K mg base jw j f fd ps (Fp K C n ns ψ)/\mg c=some (.ref C)/\kf K mainGlobals c=some (some (.ref C))/\Binds K fd ps []
theorem Ca{P:Program}{w:World}{K:aJ}{mg:Str->Option Value}{base:Heap}{c qual:Str}{st:Stmt}{f C:Addr}{fd:FuncData}{N ps:List Str}{k n:Nat}{ns:List Str}{F:En->List Str->List D->Option (List Str×List D)}(h:dj K c C)(hm:mg c=some (.ref C))(M:Mk K C f)(D':cA K f "__init__" qual st ps fd)
  (cb:∀X:Cx,Sx X P w K mg base->Fx X N (eS st) k->Dr X (jD st) C F)(qe:ps.length=n+1:=by rfl)(hN:1<=N.length:=by decide)(S:cz N ps (eS st):=by exact ⟨rfl,rfl,rfl,by decide +kernel,rfl,by decide +kernel,by decide +kernel⟩):lp P w K mg base c n ns (k+1) (eJ F N.length ns):=
 ⟨C,f,fd,ps,M,ZR D'.fn S qe hN λX e1 e2 e3 e4 e5=>by subst e1 e2 e3 e4 e5;exact cb X (.mk X),hm,h.a,D'.bd⟩
section
variable {X:Cx}{N:List Str}{sc:Scope}{k j n:Nat}{full:Bool}{e o:Expr}{es:List Expr}{m c f:Str}{pos p apos pos' p1:Pos}{fo fe:En->Option Sl}{fs:En->Option (List D)}{tab:bq}
theorem Fx.mt(h:Fx X N sc k full)(T:ll X.prog X.w X.K X.mg X.base m n j tab)(ho:EV X o fo)(ha:AV X (e::es) fs)(hj:j<=k:=by decide){pl:Sem Bool}
  (lW:starEach (e::es) X.env=(false,eval e X.env)::starEach es X.env:=by rfl)(gm:(backTo pos (starEach es X.env)).any (·.1)=false:=by rfl)
  (ht:eval (.Call (.Attribute o m apos) (e::es) [] pos) X.env=(eval o X.env >>= λov=>standAt apos.atName >>= λ_=>holding [ov] (getMethod ov m pl) >>= λz=>callWith pos z.1 z.2 (backTo pos (starEach (e::es) X.env)) (backToKw pos (keywordEach [] X.env))):=by rfl):
  EV X (.Call (.Attribute o m apos) (e::es) [] pos) (jQ m n tab fo fs):=b75 (pl:=pl) ho ha (h.room.mono hj) T lW gm ht
theorem Fx.w4(h:Fx X N sc k full)(T:ll X.prog X.w X.K X.mg X.base m n j tab)(ho:EV X o fo)(hj:j<=k:=by decide){pl:Sem Bool}
  (ht:eval (.Call (.Attribute o m apos) [] [] pos) X.env=(eval o X.env >>= λov=>standAt apos.atName >>= λ_=>holding [ov] (getMethod ov m pl) >>= λz=>callWith pos z.1 z.2 (backTo pos (starEach [] X.env)) (backToKw pos (keywordEach [] X.env))):=by rfl):
  EV X (.Call (.Attribute o m apos) [] [] pos) (jQ m n tab fo ae):=b5a (pl:=pl) ho (h.room.mono hj) T ht
theorem Fx.w5{ns:List Str}{ψ:List D->Option (List D)}(h:Fx X N sc k full)(T:lp X.prog X.w X.K X.mg X.base c n ns j ψ)(ha:AV X (e::es) fs)(hj:j+1<=k:=by decide)(hg:sc.names.lookup c=some .globalImplicit:=by rfl)(hX:(c==("__debug__":Str))=false:=by rfl)
  (he:starEach (e::es) X.env=(false,eval e X.env)::starEach es X.env:=by rfl)(gm:(backTo pos (starEach es X.env)).any (·.1)=false:=by rfl):EV X (.Call (.Name c p) (e::es) [] pos) (pK c n ns ψ fs):=by
 obtain ⟨C,f,fd,ps,M,F,hm,hn,hb⟩:=T
 exact JE M F (h.room.mono hj) (h.g hg) hm hn hb ha hX he gm
theorem Fx.gE{C:Addr}{j6:List Stmt}{F:En->List Str->List D->Option (List Str×List D)}{x:Str}(h:Fx X N sc k full)(c:qz X.K C)(n:ak X.K C f)(hv:EV X e fe)(hr:Dr X j6 C F)(hN:N[0]?=some x:=by rfl)(jW:ib sc x:=by first | exact cZ rfl | exact cj (cZ rfl) | exact cj (cj rfl))(hd:(x==("__debug__":Str))=false:=by rfl)(cE:(x==("__classdict__":Str))=false:=by rfl)
  (hs:swapsWith e (some (.Attribute (.Name x p1) f pos')) pos.line X.env=pure false:=by rfl):Dr X (.Assign [.Attribute (.Name x p1) f pos'] e pos::j6) C (dg f fe F):=c0r hv hr c n (h.ix hN) (h.pT jW) hd cE hs
end
structure IsF(K:aJ)(C R:Addr)(b:Bool):Prop where
 ha:pk K (.ref C) "__class__" = some (some (.builtin "object.__class__"))
 hn:FZ K (.builtin "object.__class__") "__get__" = some (some (.builtin "getset_descriptor.__get__"))
 ht:SX K (.builtin "object.__class__")=some true
 hm:FP K C (.type "object")=some true
 k:J4 K (.ref C) (.ref R)=some b
noncomputable def IE(tab:List (Str×Bool)):D->Option Sl
 | .obj c _ _=>(tab.lookup c).map λb=>.sh (.bl b)
 | _=>none
noncomputable def RI(tab:List (Str×Bool))(fo:En->Option Sl):En->Option Sl:=λenv=>(fo env).bind λr=>IE tab r.d
section
variable {X:Cx}{a:Expr}{p p2 pos:Pos}{fa:En->Option Sl}
end
end DL
namespace DL
open PySem PySem.Spec PyProof.Rows L2
noncomputable def jf{α:Type}:List Str->List α->Str->Option α
 | k::ks,x::xs,y=>if k=y then some x else jf ks xs y
 | _,_,_=>none
noncomputable def jH{α:Type}:List Str->List α->Str->α->List α
 | k::ks,x::xs,y,z=>(if k=y then z else x)::jH ks xs y z
 | _,xs,_,_=>xs
noncomputable def vQ(ks:List Str)(y:Str):List Str:=if y∈ks then ks else ks++[y]
noncomputable def vR{α:Type}(ks:List Str)(xs:List α)(y:Str)(z:α):List α:=if y∈ks then jH ks xs y z else xs++[z]
theorem Gv:∀(ks:List Str) (vs:List V) (k:Str),km ((ks.zip vs).map λq=>((.inr q.1:Key),q.2)) (.inr k)=jf ks vs k
 | [],_,_=>rfl
 | _::_,[],_=>rfl
 | n::ks,v::vs,k=>by
  unfold km
  rw [F0,gS,Er,jf]
  by_cases h:n=k
  .simp [h]
  .have:¬((yr n:Key)=.inr k):=λz=>h (JS z)
   simp only [this,decide_false,if_neg h]
   exact Gv ks vs k
theorem Yz:∀(ks:List Str) (vs:List V) (k:Str),ks.length=vs.length->(((ks.zip vs).map λq=>((.inr q.1:Key),q.2)).any λkv=>decide (kv.1=(.inr k:Key)))=decide (k∈ks)
 | [],_,_,_=>by simp
 | _::_,[],_,h=>by cases h
 | n::ks,v::vs,k,h=>by
  rw [F0,gS,MP,Yz ks vs k (by simpa using h)]
  by_cases e:n=k
  .simp [e]
  .have:¬((yr n:Key)=.inr k):=λz=>e (JS z)
   have e':¬(k=n):=λz=>e z.symm
   simp [this,e']
theorem Ys:∀(ks:List Str) (vs:List V) (k:Str) (v:V),((ks.zip vs).map λq=>((.inr q.1:Key),q.2)).map (λkv=>if kv.1=(.inr k:Key) then (kv.1,v) else kv)=(ks.zip (jH ks vs k v)).map λq=>((.inr q.1:Key),q.2)
 | [],_,_,_=>rfl
 | _::_,[],_,_=>rfl
 | n::ks,x::vs,k,v=>by
  rw [jH,F0,F0,gS,gS,gS,Ys ks vs k v]
  by_cases e:n=k
  .have:(yr n:Key)=.inr k:=by rw [e]
   simp [this,e]
  .have:¬((yr n:Key)=.inr k):=λz=>e (JS z)
   simp [this,e]
theorem b0K{α:Type}:∀(ks:List Str) (xs:List α) (y:Str) (z:α),(jH ks xs y z).length=xs.length
 | [],xs,_,_=>by cases xs<;>rfl
 | _::_,[],_,_=>rfl
 | k::ks,x::xs,y,z=>by rw [jH,ia,ia,b0K ks xs y z]
theorem b0P{α:Type}{ks:List Str}{xs:List α}(h:ks.length=xs.length)(y:Str)(z:α):(vQ ks y).length=(vR ks xs y z).length:=by
 unfold vQ vR
 split
 .rw [b0K];exact h
 .rw [jv,jv,h];rfl
theorem b9K{ks:List Str}{vs:List V}(h:ks.length=vs.length)(k:Str)(v:V):HO.dK (putK ((ks.zip vs).map λq=>((.inr q.1:Key),q.2)) (.inr k) v)=nK (vQ ks k) (vR ks vs k v):=by
 unfold putK vQ vR
 rw [Yz ks vs k h]
 by_cases e:k∈ks
 .simp only [e,decide_true,if_true]
  congr 1
  exact Ys ks vs k v
 .simp only [e,decide_false,if_false]
  congr 1
  rw [List.zip_append h,rT]
  rfl
theorem aO.jH{K:aJ}{O:Addr->Prop}{H:Hp}{y:Str}{v:V}{d:D}(h:Is K O H v d):∀{ks:List Str} {vs:List V} {ds:List D},aO K O H vs ds->aO K O H (DL.jH ks vs y v) (DL.jH ks ds y d)
 | [],_,_,.nil=>.nil
 | [],_,_,.cons a t=>.cons a t
 | _::_,_,_,.nil=>.nil
 | k::ks,_,_,.cons a t=>by
  unfold DL.jH
  refine .cons ?_ (aO.jH h t)
  split
  .exact h
  .exact a
theorem aO.Qp{K:aJ}{O:Addr->Prop}{H:Hp}{y:Str}{v:V}{d:D}(h:Is K O H v d){ks:List Str}{vs:List V}{ds:List D}(t:aO K O H vs ds):aO K O H (vR ks vs y v) (vR ks ds y d):=by
 unfold vR
 split
 .exact aO.jH h t
 .exact t.append (.cons h .nil)
theorem Gs{K:aJ}{O:Addr->Prop}{H:Hp}{y:Str}:∀{ks:List Str} {vs:List V} {ds:List D},aO K O H vs ds->(jf ks ds y=none/\jf ks vs y=none)\/∃v d,jf ks ds y=some d/\jf ks vs y=some v/\Is K O H v d
 | [],_,_,_=>.inl ⟨by cases ‹List D›<;>rfl,by cases ‹List V›<;>rfl⟩
 | _::_,_,_,.nil=>.inl ⟨rfl,rfl⟩
 | k::ks,_,_,.cons a t=>by
  unfold jf
  split
  .exact .inr ⟨_,_,rfl,rfl,a⟩
  .exact Gs t
noncomputable def C6:Option Sl->Option Str
 | some (.sh (.str n))=>some n
 | _=>none
theorem K6{o:Option Sl}{n:Str}(h:C6 o=some n):o=some (.sh (.str n)):=by
 unfold C6 at h
 split at h
 .cases h;rfl
 .cases h
section
variable {X:Cx}{e a b k v:Expr}{fa fb fk fv:En->Option Sl}{pos p1 p2 au:Pos}{i:Nat}{x:Str}
noncomputable def RH:En->Option Sl:=λ_=>some (.tw [] [])
theorem b71:EV X (.Dict [] [] pos) RH:=⟨_,b4D,λO B σ H env r Q R e q=>by
 cases e
 exact λp hp=>q _ _ (nW hp _) ⟨p,[],rfl,hp,lM,rfl,.nil⟩⟩
noncomputable def Fq(i:Nat)(f g:En->Option Sl):SF:=λenv=>match env[i]? with
 | some (.tw ks ds)=>(f env).bind λr=>(C6 (g env)).bind λk=>if ks.length<16777216 then some (.nx,env.set i (.tw (vQ ks k) (vR ks ds k r.d))) else none
 | _=>none
theorem b6W(ha:EV X e fa)(hb:EV X b fb)(hu:X.A.units+1<cLine)(hN:X.N[i]?=some x)(hv:ib X.env.scope x)(hd:(x==("__debug__":Str))=false:=by decide)(cE:(x==("__classdict__":Str))=false:=by decide)
  (hs:swapsWith e (some (.Subscript (.Name x p1) b p2)) pos.line X.env=pure false:=by rfl):SV X (.Assign [.Subscript (.Name x p1) b p2] e pos) (Fq i fa fb):=by
 obtain ⟨ta,pa,ka⟩:=ha
 obtain ⟨tb,pb,kb⟩:=hb
 refine ⟨_,b7d hu (pN hN hv hd cE) pb pa hs,λO B σ H env fl af Dn R e q=>?_⟩
 unfold Fq at e
 split at e
 .rename_i ks ds he
  obtain ⟨r,e1,e⟩:=bind_some e
  obtain ⟨n,e2,e⟩:=bind_some e
  obtain ⟨hl,e3⟩:=jg e
  cases e3
  obtain ⟨p,vs,f1,f2,f3,f4,f5⟩:=R.tw i ks ds he
  refine ka O B σ H env _ _ R e1 λvv H1 s1 r1=>⟨_,f1,?_⟩
  refine kb O B σ H1 env _ _ (R.grow s1) (K6 e2) λvk H2 s2 r2=>?_
  have h2:vk=.str n:=pB r2
  subst h2
  have hi:=(r1.is λq=>R.oo).grow s2
  refine ⟨p,_,rfl,sr.k (k:=.inr n) (s2 _ _ (s1 _ _ f3)) (by rw [cP,A7,lZ];omega),?_⟩
  obtain ⟨R',g'⟩:=(R.grow (s1.trans s2)).wrT (ks':=vQ ks n) (ds':=vR ks ds n r.d) (vs':=vR ks vs n vv) he f1 (b0P f4 n vv) (((f5.grow s1).grow s2).Qp hi)
  rw [b9K f4]
  exact q _ _ R' (g'.from (s1.trans s2))
 .cases e
noncomputable def Eh(fd fk:En->Option Sl):En->Option Sl:=λenv=>(fd env).bind λr=>(C6 (fk env)).bind λk=>match r.d with
 | .ic ks ds=>(jf ks ds k).map Sl.sh
 | .dq ks ds=>(jf ks ds k).map Sl.sh
 | _=>none
theorem b72(ha:EV X a fa)(hb:EV X b fb)(hu:X.A.units+1<cLine)(hs:Ct b):EV X (.Subscript a b pos) (Eh fa fb):=by
 obtain ⟨ta,pa,ka⟩:=ha
 obtain ⟨tb,pb,kb⟩:=hb
 refine ⟨_,b7k hu pa pb hs,λO B σ H env s Q R e q=>?_⟩
 obtain ⟨r,e0,e⟩:=bind_some e
 obtain ⟨n,e1,e⟩:=bind_some e
 refine ka O B σ H env _ _ R e0 λvd H1 s1 r1=>kb O B σ H1 env _ _ (R.grow s1) (K6 e1) λvk H2 s2 r2=>?_
 have h2:vk=.str n:=pB r2
 subst h2
 have hi:=(r1.is λq=>R.oo).grow s2
 cases hd:r.d with
 | ic ks ds =>
  rw [hd] at hi e
  obtain ⟨d,e3,rfl⟩:=map_some e
  cases hi with
  | ic ho hp hl hs =>
   rcases Gs (y:=n) hs with ⟨z,_⟩ | ⟨v,d',z1,z2,z3⟩
   .rw [e3] at z;cases z
   .rw [e3] at z1
    cases z1
    exact ⟨_,v,rfl,.inl ⟨_,.inr n,.inl hp,rfl,by rw [Gv,z2]⟩,q _ _ (s1.trans s2) z3⟩
 | dq ks ds =>
  rw [hd] at hi e
  obtain ⟨d,e3,rfl⟩:=map_some e
  cases hi with
  | dq ho hp hl hs =>
   rcases Gs (y:=n) hs with ⟨z,_⟩ | ⟨v,d',z1,z2,z3⟩
   .rw [e3] at z;cases z
   .rw [e3] at z1
    cases z1
    exact ⟨_,v,rfl,.inl ⟨_,.inr n,(.inr ⟨_,hp⟩:Rd _ _ _),rfl,by rw [Gv,z2]⟩,q _ _ (s1.trans s2) z3⟩
 | _=>rw [hd] at e;cases e
noncomputable def kJ(neg:Bool)(fk fd:En->Option Sl):En->Option Sl:=λenv=>(C6 (fk env)).bind λk=>(fd env).bind λr=>match r.d with
 | .ic ks ds=>some (.sh (.bl (neg != (jf ks ds k).isSome)))
 | .dq ks ds=>some (.sh (.bl (neg != (jf ks ds k).isSome)))
 | _=>none
theorem b4j{O:Addr->Prop}{H:Hp}{vd:V}{ks:List Str}{ds:List D}{K:aJ}(hi:Is K O H vd (.ic ks ds))(n:Str):∃p ov,vd=.ref p/\j5 H p (.str n) ov/\ov.isSome=(jf ks ds n).isSome:=by
 cases hi with
 | ic ho hp hl hs =>
  refine ⟨_,_,rfl,.inl ⟨_,.inr n,.inl hp,rfl,rfl⟩,?_⟩
  rw [Gv]
  rcases Gs (y:=n) hs with ⟨z1,z2⟩ | ⟨v,d',z1,z2,z3⟩<;>rw [z1,z2]<;>rfl
theorem b2c{O:Addr->Prop}{H:Hp}{vd:V}{ks:List Str}{ds:List D}{K:aJ}(hi:Is K O H vd (.dq ks ds))(n:Str):∃p ov,vd=.ref p/\j5 H p (.str n) ov/\ov.isSome=(jf ks ds n).isSome:=by
 cases hi with
 | dq ho hp hl hs =>
  refine ⟨_,_,rfl,.inl ⟨_,.inr n,(.inr ⟨_,hp⟩:Rd _ _ _),rfl,rfl⟩,?_⟩
  rw [Gv]
  rcases Gs (y:=n) hs with ⟨z1,z2⟩ | ⟨v,d',z1,z2,z3⟩<;>rw [z1,z2]<;>rfl
end
end DL
namespace DL
open PySem PySem.Spec PyProof.Rows L2
section
variable {X:Cx}{N:List Str}{sc:Scope}{k:Nat}{full:Bool}{e a b:Expr}{fa fb:En->Option Sl}{pos p1 p2 p:Pos}
theorem b18{neg:Bool}{op:CmpOp}{td:TE->TE->TE}(hc:∀ta tb,PE X a ta->PE X b tb->PC X op a b (td ta tb))(hr:∀ta tb σ H Q,td ta tb σ H Q=(ta σ H λy H1=>tb σ H1 λx H2=>∃p o,x=.ref p/\j5 H2 p y o/\Q (.bl (neg != o.isSome)) H2))(ha:EV X a fa)(hb:EV X b fb)(hm:behindInMarks op b=false):
  TV X (.Compare a [op] [b] pos) (cR (kJ neg fa fb)):=by
 obtain ⟨ta,pa,ka⟩:=ha
 obtain ⟨tb,pb,kb⟩:=hb
 refine ⟨_,Zg (hc ta tb pa pb) hm,λO B σ H env c Q R e q=>?_⟩
 have e:=EU e
 obtain ⟨n,e1,e⟩:=bind_some e
 obtain ⟨r,e0,e⟩:=bind_some e
 show td ta tb σ H _
 rw [hr]
 refine ka O B σ H env _ _ R (K6 e1) λvk H1 s1 r1=>kb O B σ H1 env _ _ (R.grow s1) e0 λvd H2 s2 r2=>?_
 have h2:vk=.str n:=pB r1
 subst h2
 have hi:=r2.is λq=>(R.grow s1).oo
 cases hd:r.d with
 | ic ks ds =>
  rw [hd] at hi e
  cases e
  obtain ⟨p,ov,rfl,g,eo⟩:=b4j hi n
  exact ⟨p,ov,rfl,g,_,by rw [eo],q _ (s1.trans s2)⟩
 | dq ks ds =>
  rw [hd] at hi e
  cases e
  obtain ⟨p,ov,rfl,g,eo⟩:=b2c hi n
  exact ⟨p,ov,rfl,g,_,by rw [eo],q _ (s1.trans s2)⟩
 | _=>rw [hd] at e;cases e
theorem Fx.PN(h:Fx X N sc k full)(ha:EV X a fa)(hb:EV X b fb)(hm:behindInMarks .In b=false:=by rfl):TV X (.Compare a [.In] [b] pos) (cR (kJ false fa fb)):=
 b18 (neg:=false) (td:=Dz) (λta tb pa pb=>b91 (Ko h.room) pa pb) (λta tb σ H Q=>by unfold Dz;simp only [Bool.false_bne]) ha hb hm
theorem Fx.su(h:Fx X N sc k full)(ha:EV X a fa)(hb:EV X b fb)(hm:behindInMarks .NotIn b=false:=by rfl):TV X (.Compare a [.NotIn] [b] pos) (cR (kJ true fa fb)):=
 b18 (neg:=true) (td:=K0) (λta tb pa pb=>a8H (Ko h.room) pa pb) (λta tb σ H Q=>by unfold K0;simp only [Bool.true_bne]) ha hb hm
theorem Fx.PR(h:Fx X N sc k full)(i:Nat){x:Str}(ha:EV X e fa)(hb:EV X b fb)(hN:N[i]?=some x:=by rfl)(hv:ib sc x:=by first | exact cZ rfl | exact cj (cZ rfl) | exact cj (cj rfl))(hd:(x==("__debug__":Str))=false:=by rfl)(cE:(x==("__classdict__":Str))=false:=by rfl)
  (hs:swapsWith e (some (.Subscript (.Name x p1) b p2)) pos.line X.env=pure false:=by rfl):SV X (.Assign [.Subscript (.Name x p1) b p2] e pos) (Fq i fa fb):=b6W ha hb (Ko h.room) (h.ix hN) (h.pT hv) hd cE hs
theorem Fx.Dx(h:Fx X N sc k full)(ha:EV X a fa)(hb:EV X b fb)(hs:Ct b:=by intro _ _;rfl):EV X (.Subscript a b pos) (Eh fa fb):=b72 ha hb (Ko h.room) hs
end
end DL
namespace DL
open PySem PySem.Spec PyProof.Rows L2
section
variable {K:aJ}{O O' L:Addr->Prop}{H:Hp}
theorem Zr{q:Addr}{xs:List V}(hL:L q->∃ys,H q=some (.lst ys))(h:Rd H q (.tup xs)):¬L q:=λz=>by
 obtain ⟨ys,e⟩:=hL z
 rcases h with h | ⟨o,h⟩
 .rw [e] at h;cases h
 .rw [e] at h;cases h
mutual
theorem b4Z(hL:∀q,L q->∃ys,H q=some (.lst ys))(hO:∀q,O q->O' q\/L q):∀{v:V} {d:D},Is K O' H v d->l8 d=true->Is K O H v d
 | _,_,.cD,_=>.cD
 | _,_,.bl b,_=>.bl b
 | _,_,.int i,_=>.int i
 | _,_,.str x,_=>.str x
 | _,_,.tup ho h1 hs,f=>.tup (λz=>(hO _ z).elim ho (Zr (hL _) h1)) h1 (U9 hL hO hs (by simpa [l8] using f))
 | _,_,.lO h1 hs,f=>.lO h1 (U9 hL hO hs (by simpa [l8] using f))
 | _,_,.lst _ _ _,f=>by simp [l8] at f
 | _,_,.nE _ _ _,f=>by simp [l8] at f
 | _,_,.nF _ _,f=>by simp [l8] at f
 | _,_,.exc _ _ _,f=>by simp [l8] at f
 | _,_,.j9 _ _,f=>by simp [l8] at f
 | _,_,.obj _ _ _ _ _,f=>by simp [l8] at f
 | _,_,.ic _ _ _ _,f=>by simp [l8] at f
 | _,_,.dq _ _ _ _,f=>by simp [l8] at f
 | _,_,.rL _ _,f=>by simp [l8] at f
theorem U9(hL:∀q,L q->∃ys,H q=some (.lst ys))(hO:∀q,O q->O' q\/L q):∀{v:List V} {d:List D},aO K O' H v d->Gp d=true->aO K O H v d
 | _,_,.nil,_=>.nil
 | _,_,.cons h t,f=>by
  simp only [Gp,tV] at f
  exact .cons (b4Z hL hO h f.1) (U9 hL hO t f.2)
end
end
abbrev OL(O L:Addr->Prop)(q:Addr):Prop:=O q\/L q
section
variable {X:Cx}{e o:Expr}{es:List Expr}{f m:Str}{pos apos p:Pos}{fo:En->Option Sl}{fs:En->Option (List D)}
end
section
variable {P:Program}{w:World}{K:aJ}{mg:Str->Option Value}{base:Heap}
end
section
variable {X:Cx}{N:List Str}{sc:Scope}{k j n:Nat}{full:Bool}{e o:Expr}{es:List Expr}{m c f:Str}{pos p apos pos' p1:Pos}{fo fe:En->Option Sl}{fs:En->Option (List D)}
end
end DL
namespace DL
open PySem L2
section
variable {env:En}{Q:Sl->Prop}{fo fk fd:En->Option Sl}{fa:En->Option (List D)}
theorem b85{cs:List Str}{f:Str}:Wo (cI cs f fo env) Q↔Wo (fo env) λr=>Wo (zM cs f r.d) λd=>Q (.sh d):=by
 unfold cI
 rw [a0n]
 exact jR λr=>a1z
theorem b5Q{m:Str}{n:Nat}{tab:bq}:Wo (jQ m n tab fo fa env) Q↔Wo (fo env) λr=>Wo (fa env) λas=>Wo (vS m n tab r.d as) Q:=by
 unfold jQ
 rw [a0n]
 exact jR λr=>a0n
theorem c1r{c:Str}{n:Nat}{ns:List Str}{ψ:List D->Option (List D)}:Wo (pK c n ns ψ fa env) Q↔Wo (fa env) λas=>as.length=n/\Wo (ψ as) λds=>Q (.sh (.obj c ns ds)):=by
 unfold pK
 rw [a0n]
 refine jR λas=>?_
 by_cases h:as.length=n
 .rw [if_pos h,a1z];exact ⟨λz=>⟨h,z⟩,λz=>z.2⟩
 .rw [if_neg h];exact ⟨λz=>(Wo_none.mp z).elim,λz=>(h z.1).elim⟩
theorem b84{tab:List (Str×Bool)}:Wo (RI tab fo env) Q↔Wo (fo env) λr=>Wo (IE tab r.d) Q:=a0n
theorem c1p:Wo (RH env) Q↔Q (.tw [] []):=a0c
def L4(d:D)(k:Str)(Q:Sl->Prop):Prop:=match d with
 | .ic ks ds=>Wo (jf ks ds k) λd=>Q (.sh d)
 | .dq ks ds=>Wo (jf ks ds k) λd=>Q (.sh d)
 | _=>False
theorem tgQ_d{ks:List Str}{ds:List D}{k:Str}:L4 (.ic ks ds) k Q↔Wo (jf ks ds k) λd=>Q (.sh d):=ju
theorem tgQ_f{ks:List Str}{ds:List D}{k:Str}:L4 (.dq ks ds) k Q↔Wo (jf ks ds k) λd=>Q (.sh d):=ju
theorem c1v{o:Option Sl}{Q:Str->Prop}:Wo (C6 o) Q↔∃n,o=some (.sh (.str n))/\Q n:=by
 constructor
 .rintro ⟨n,e,q⟩
  exact ⟨n,K6 e,q⟩
 .rintro ⟨n,rfl,q⟩
  exact ⟨n,rfl,q⟩
theorem NT{g:En->Option Sl}{Q:Str->Prop}:Wo (C6 (g env)) Q↔Wo (g env) λr=>∃n,r=.sh (.str n)/\Q n:=by
 rw [c1v]
 constructor
 .rintro ⟨n,e,q⟩;exact ⟨_,e,n,rfl,q⟩
 .rintro ⟨r,e,n,rfl,q⟩;exact ⟨n,e,q⟩
theorem TQ:Wo (Eh fd fk env) Q↔Wo (fd env) λr=>Wo (fk env) λs=>∃k,s=.sh (.str k)/\L4 r.d k Q:=by
 unfold Eh
 rw [a0n]
 refine jR λr=>?_
 rw [a0n,NT]
 refine jR λs=>?_
 refine exists_congr λk=>and_congr_right λ_=>?_
 cases r.d<;>simp [L4,Wo_none,a1z]
def L3(neg:Bool)(d:D)(k:Str)(Q:Sl->Prop):Prop:=match d with
 | .ic ks ds=>Q (.sh (.bl (neg != (jf ks ds k).isSome)))
 | .dq ks ds=>Q (.sh (.bl (neg != (jf ks ds k).isSome)))
 | _=>False
theorem tiQ_d{neg:Bool}{ks:List Str}{ds:List D}{k:Str}:L3 neg (.ic ks ds) k Q↔Q (.sh (.bl (neg != (jf ks ds k).isSome))):=ju
theorem tiQ_f{neg:Bool}{ks:List Str}{ds:List D}{k:Str}:L3 neg (.dq ks ds) k Q↔Q (.sh (.bl (neg != (jf ks ds k).isSome))):=ju
theorem Uj{neg:Bool}:Wo (kJ neg fk fd env) Q↔Wo (fk env) λs=>∃k,s=.sh (.str k)/\Wo (fd env) λr=>L3 neg r.d k Q:=by
 unfold kJ
 rw [a0n,NT]
 refine jR λs=>?_
 refine exists_congr λk=>and_congr_right λ_=>?_
 rw [a0n]
 refine jR λr=>?_
 cases r.d<;>simp [L3,Wo_none,a0c]
theorem c1c{i:Nat}{f g:En->Option Sl}{ks:List Str}{ds:List D}{Q:Fl×En->Prop}(he:env[i]?=some (.tw ks ds)):Wo (Fq i f g env) Q↔Wo (f env) λr=>Wo (g env) λs=>∃k,s=.sh (.str k)/\ks.length<16777216/\Q (.nx,env.set i (.tw (vQ ks k) (vR ks ds k r.d))):=by
 unfold Fq
 rw [he]
 dsimp only
 rw [a0n]
 refine jR λr=>?_
 rw [a0n,NT]
 refine jR λs=>?_
 refine exists_congr λk=>and_congr_right λ_=>?_
 by_cases h:ks.length<16777216
 .rw [if_pos h,a0c];exact ⟨λz=>⟨h,z⟩,λz=>z.2⟩
 .rw [if_neg h];exact ⟨λz=>(Wo_none.mp z).elim,λz=>(h z.1).elim⟩
theorem Sl_tw{ks:List Str}{ds:List D}:(Sl.tw ks ds).d=.ic ks ds:=rfl
end
end DL
namespace DL
open PySem PySem.Spec PyProof.Rows L2
def Ff(X:Cx)(es:List Expr)(f:En->Option (List D×En)):Prop:=
 ∃t:TA,PA X es t/\∀(O:Addr->Prop) (B:Hp) (σ:L2.St) (H:Hp) (env:En) (ds:List D) (af:En) (Q:List V->Hp->Prop),Rel X.K O B σ H env->f env=some (ds,af) ->
  (∀vs H',Rel X.K O B σ H' af->Gd σ env H σ af H'->aO X.K (OO O σ af) H' vs ds->Q vs H')->t σ H Q
def LY(X:Cx)(e:Expr)(f:En->Option (D×En)):Prop:=
 ∃t:TE,PE X e t/\∀(O:Addr->Prop) (B:Hp) (σ:L2.St) (H:Hp) (env:En) (d:D) (af:En) (Q:VK),Rel X.K O B σ H env->f env=some (d,af) ->
  (∀v H',Rel X.K O B σ H' af->Gd σ env H σ af H'->Is X.K (OO O σ af) H' v d->Q v H')->t σ H Q
noncomputable def ur(i:Nat)(env:En):Option (D×En):=match env[i]? with
 | some (.ow ds)=>(ds[ds.length-1]?).map λd=>(d,env.set i (.ow ds.dropLast))
 | _=>none
noncomputable def Gn(i:Nat)(fs:En->Option (List D)):En->Option (List D×En):=λenv=>(ur i env).bind λp=>(fs p.2).map λrs=>(p.1::rs,p.2)
noncomputable def NJ(f:En->Option Sl)(g:En->Option (List D×En)):En->Option (List D×En):=λenv=>(f env).bind λr=>(g env).map λp=>(r.d::p.1,p.2)
noncomputable def Ny(g:En->Option (List D×En)):En->Option (D×En):=λenv=>(g env).bind λp=>if p.1.length<=16777216 then some (.tup p.1,p.2) else none
noncomputable def KL(n:Nat)(φ:List D->Option Sl)(g:En->Option (List D×En)):En->Option (D×En):=λenv=>(g env).bind λp=>if p.1.length=n then (φ p.1).map λr=>(r.d,p.2) else none
noncomputable def EH(i:Nat)(g:En->Option (D×En)):SF:=λenv=>match env[i]? with
 | some (.ow _)=>(g env).bind λp=>match p.2[i]? with
  | some (.ow ds)=>if ds.length<16777216 then some (.nx,p.2.set i (.ow (ds++[p.1]))) else none
  | _=>none
 | _=>none
theorem Gd.WT{K:aJ}{O:Addr->Prop}{σ aK:L2.St}{env af:En}{H H':Hp}(g:Gd σ env H aK af H'){v:V}{d:D}(h:Is K (OO O σ env) H v d):Is K (OO O aK af) H' v d:=by
 cases g.ID (.cons h .nil) with
 | cons h _=>exact h
section
variable {X:Cx}{e:Expr}{es:List Expr}{pos p1 p2 au p:Pos}{fs:En->Option (List D)}{fe:En->Option Sl}{g:En->Option (List D×En)}
theorem b8r{i:Nat}{x:Str}(hb:AV X es fs)(hN:X.N[i]?=some x)(hv:ib X.env.scope x)(hd:(x==("__debug__":Str))=false:=by decide)
  (cE:(x==("__classdict__":Str))=false:=by decide)
  (bA:attributeBase (.Name x p1) "pop" X.env (eval (.Name x p1) X.env)=eval (.Name x p1) X.env:=by rfl)
  (bz:(p2.endLine==au.line)=true:=by rfl)
  (hs:starEach (.Call (.Attribute (.Name x p1) "pop" p2) [] [] au::es) X.env=(false,eval (.Call (.Attribute (.Name x p1) "pop" p2) [] [] au) X.env)::starEach es X.env:=by rfl):
  Ff X (.Call (.Attribute (.Name x p1) "pop" p2) [] [] au::es) (Gn i fs):=by
 obtain ⟨u,pu,ku⟩:=hb
 refine ⟨_,lj (NM ED Tg Yj Y5 (pN hN hv hd cE) bA bz) pu hs,λO B σ H env ds af Q R e q=>?_⟩
 obtain ⟨⟨d,env1⟩,e1,e2⟩:=bind_some e
 obtain ⟨rs,e3,e4⟩:=map_some e2
 cases e4
 unfold ur at e1
 split at e1
 .rename_i ds he
  obtain ⟨d',e5,e6⟩:=map_some e1
  cases e6
  obtain ⟨l,xs,f1,f2,f3,f4⟩:=R.ow i ds he
  obtain ⟨v,QV,QU⟩:=f4.get e5
  obtain ⟨R',g'⟩:=R.wr he f1 f4.dropLast
  refine ⟨_,f1,.inl ⟨rfl,_,iI.of f3⟩,l,xs,v,rfl,rfl,f3,by rw [f4.length];exact QV,?_⟩
  refine ku O B σ _ _ rs _ R' e3 λvs H2 s2 r2=>q _ H2 (R'.grow s2) (g'.trans (Gd.refl s2)) (.cons ((g'.WT QU).grow s2) r2)
 .cases e1
theorem b8q(ha:EV X e fe)(hb:Ff X es g)(hs:starEach (e::es) X.env=(false,eval e X.env)::starEach es X.env:=by rfl):Ff X (e::es) (NJ fe g):=by
 obtain ⟨t,pt,k⟩:=ha
 obtain ⟨u,pu,ku⟩:=hb
 refine ⟨_,lj pt pu hs,λO B σ H env ds af Q R e q=>?_⟩
 obtain ⟨r,e1,e2⟩:=bind_some e
 obtain ⟨⟨rs,env1⟩,e3,e4⟩:=map_some e2
 cases e4
 refine k O B σ H env r _ R e1 λv H1 s1 r1=>?_
 refine ku O B σ H1 env rs env1 _ (R.grow s1) e3 λvs H2 R2 g2 r2=>q _ H2 R2 (g2.from s1) (.cons (g2.WT (r1.is λq=>R.oo)) r2)
theorem c0O{x1}(h:Ff X es g):LY X (.Tuple es x1 pos) (Ny g):=by
 obtain ⟨t,pt,k⟩:=h
 refine ⟨_,Zb pt,λO B σ H env r af Q R e q=>?_⟩
 obtain ⟨⟨ds,env1⟩,e1,e2⟩:=bind_some e
 obtain ⟨hl,e3⟩:=jg e2
 cases e3
 refine k O B σ H env ds env1 _ R e1 λvs H1 R1 g1 r1=>⟨by rw [r1.length,lZ];exact hl,λp hp=>?_⟩
 exact q _ _ (R1.grow (nW hp _)) (g1.trans (Gd.refl (nW hp _))) (N6 (O:=OO O σ env1) (H:=H1) (λ_ z=>R1.oo z) hp r1)
theorem b8a{k:Nat}{f:Addr}{fd:FuncData}{ps:List Str}{φ:List D->Option Sl}{x:Str}(F:cx X.prog X.w X.K X.mg X.base jw k f fd ps (qR X.K ps.length φ))(hr:cF k X.A)(hg:Gl X x)(hm:X.mg x=some (.ref f))(hk:yz X.K (.ref f)=true)(hb:Binds X.K fd ps [])
  (ha:Ff X (e::es) g)(hX:(x==("__debug__":Str))=false:=by decide)(he:starEach (e::es) X.env=(false,eval e X.env)::starEach es X.env:=by rfl)(gm:(backTo pos (starEach es X.env)).any (·.1)=false:=by rfl):
  LY X (.Call (.Name x p) (e::es) [] pos) (KL ps.length φ g):=by
 obtain ⟨t,pt,ka⟩:=ha
 refine ⟨_,Up F hr hg hm hk hb .nil (Dc (X:=X)) pt hX he gm,λO B σ H env r af Q R e q=>?_⟩
 obtain ⟨⟨ds,env1⟩,e1,e2⟩:=bind_some e
 refine ka O B σ H env ds env1 _ R e1 λvs H1 R1 g1 r1=>?_
 obtain ⟨hl,e3⟩:=Cc e2
 obtain ⟨r',e4,e5⟩:=map_some e3
 cases e5
 rw [vz]
 exact ⟨OO O σ env1,ds,r',R1.dm,r1,by rw [r1.length];exact hl,e4,λv H2 s2 r2=>q v H2 (R1.grow s2) (g1.trans (Gd.refl s2)) (r2.is λq=>R1.oo)⟩
theorem b61{i:Nat}{x:Str}{g:En->Option (D×En)}(ha:LY X e g)(hN:X.N[i]?=some x)(hv:ib X.env.scope x)(hd:(x==("__debug__":Str))=false:=by decide)
  (cE:(x==("__classdict__":Str))=false:=by decide)(hs:starEach [e] X.env=[(false,eval e X.env)]:=by rfl)
  (bA:attributeBase (.Name x p1) "append" X.env (eval (.Name x p1) X.env)=eval (.Name x p1) X.env:=by rfl)
  (gF:((backTo au (starEach [e] X.env)).all (λx=>!x.1)&&(backToKw au (keywordEach [] X.env)).all (λx=>x.1.isSome)
   && decide ([e].length+([]:List Keyword).length+(if ([]:List Keyword).isEmpty then 0 else 1)<30))=true:=by rfl)
  (bz:(p2.endLine==au.line)=true:=by rfl)
  (nJ:swapsWith (.Call (.Attribute (.Name x p1) "append" p2) [e] [] au) none pos.line X.env=pure false:=by rfl):
  SV X (.Expr (.Call (.Attribute (.Name x p1) "append" p2) [e] [] au) pos) (EH i g):=by
 obtain ⟨t,pt,k⟩:=ha
 refine ⟨_,Bi (NI ED Te XY a8S (pN hN hv hd cE) (lj pt nv hs) bA gF bz hs rfl) nJ,λO B σ H env fl af Dn R e q=>?_⟩
 unfold EH at e
 split at e
 .rename_i ds0 he
  obtain ⟨⟨d,env1⟩,e1,e2⟩:=bind_some e
  dsimp only at e2
  split at e2
  .rename_i ds W8
   obtain ⟨hl,e3⟩:=jg e2
   cases e3
   obtain ⟨l,xs,f1,f2,f3,f4⟩:=R.ow i ds0 he
   refine ⟨_,f1,.inl ⟨rfl,_,iI.of f3⟩,?_⟩
   refine k O B σ H env d env1 _ R e1 λv H1 R1 g1 r1=>?_
   obtain ⟨l',m9,h1,h2,h3,h4⟩:=R1.ow i ds W8
   rw [f1] at h1
   cases h1
   refine ⟨l,m9,v,rfl,rfl,h3,by rw [h4.length,lZ];exact hl,?_⟩
   obtain ⟨R',g'⟩:=R1.wr W8 f1 (h4.append (.cons r1 .nil))
   exact q _ _ R' (g1.trans g')
  .cases e2
 .cases e
variable {N:List Str}{sc:Scope}{k j:Nat}{full:Bool}
theorem Fx.aph(h:Fx X N sc k full)(i:Nat){x:Str}(hb:AV X es fs)(hN:N[i]?=some x:=by rfl)(hv:ib sc x:=by first | exact cZ rfl | exact cj (cZ rfl) | exact cj (cj rfl))(hd:(x==("__debug__":Str))=false:=by rfl)
  (cE:(x==("__classdict__":Str))=false:=by rfl)
  (bA:attributeBase (.Name x p1) "pop" X.env (eval (.Name x p1) X.env)=eval (.Name x p1) X.env:=by rfl)
  (bz:(p2.endLine==au.line)=true:=by rfl)
  (hs:starEach (.Call (.Attribute (.Name x p1) "pop" p2) [] [] au::es) X.env=(false,eval (.Call (.Attribute (.Name x p1) "pop" p2) [] [] au) X.env)::starEach es X.env:=by rfl):
  Ff X (.Call (.Attribute (.Name x p1) "pop" p2) [] [] au::es) (Gn i fs):=b8r hb (h.ix hN) (h.pT hv) hd cE bA bz hs
theorem Fx.clP(h:Fx X N sc k full){x:Str}{st:Stmt}{ps:List Str}{φ:List D->Option Sl}(O:Oz X.prog X.w X.K X.mg X.base x st ps j φ)(ha:Ff X (e::es) g)(hj:j<=k:=by decide)(hg:sc.names.lookup x=some .globalImplicit:=by rfl)(hX:(x==("__debug__":Str))=false:=by decide)(he:starEach (e::es) X.env=(false,eval e X.env)::starEach es X.env:=by rfl)(gm:(backTo pos (starEach es X.env)).any (·.1)=false:=by rfl):
  LY X (.Call (.Name x p) (e::es) [] pos) (KL ps.length φ g):=by
 obtain ⟨f,fd,D',F⟩:=O
 exact b8a F (h.room.mono hj) (h.g hg) D'.m D'.fn.kp D'.bd ha hX he gm
theorem Fx.KE(h:Fx X N sc k full)(i:Nat){x:Str}{g:En->Option (D×En)}(ha:LY X e g)(hN:N[i]?=some x:=by rfl)(hv:ib sc x:=by first | exact cZ rfl | exact cj (cZ rfl) | exact cj (cj rfl))(hd:(x==("__debug__":Str))=false:=by rfl)
  (cE:(x==("__classdict__":Str))=false:=by rfl)(hs:starEach [e] X.env=[(false,eval e X.env)]:=by rfl)
  (bA:attributeBase (.Name x p1) "append" X.env (eval (.Name x p1) X.env)=eval (.Name x p1) X.env:=by rfl)
  (gF:((backTo au (starEach [e] X.env)).all (λx=>!x.1)&&(backToKw au (keywordEach [] X.env)).all (λx=>x.1.isSome)
   && decide ([e].length+([]:List Keyword).length+(if ([]:List Keyword).isEmpty then 0 else 1)<30))=true:=by rfl)
  (bz:(p2.endLine==au.line)=true:=by rfl)
  (nJ:swapsWith (.Call (.Attribute (.Name x p1) "append" p2) [e] [] au) none pos.line X.env=pure false:=by rfl):
  SV X (.Expr (.Call (.Attribute (.Name x p1) "append" p2) [e] [] au) pos) (EH i g):=b61 ha (h.ix hN) (h.pT hv) hd cE hs bA gF bz nJ
end
end DL
namespace DL
open PySem PySem.Spec PyProof.Rows L2
section
variable {X:Cx}
theorem a9j:de X (.type "str") (λxs H Q=>∃y,xs=[.str y]/\Q (.str y) H):=by
 intro pins s σ H xs us Q I r h
 obtain ⟨y,rfl,q⟩:=h
 obtain ⟨u,rfl,t,rfl⟩:=vals1 r
 exact PySem.P.str_of_str ⟨.str _,H,I,⟨_,rfl⟩,q⟩
noncomputable def qP:D->Option Str
 | .int i=>if i.natAbs.log2<1920 then some (toString i) else none
 | .str y=>some y
 | _=>none
noncomputable def C7(f:En->Option Sl):En->Option Sl:=λenv=>(f env).bind λr=>(qP r.d).map λy=>.sh (.str y)
theorem de.or{f:Value}{r1 r2:List V->Hp->VK->Prop}(h1:de X f r1)(h2:de X f r2):de X f (λxs H Q=>r1 xs H Q\/r2 xs H Q):=by
 intro pins s σ H xs us Q I r h
 exact h.elim (h1 pins s σ H xs us Q I r) (h2 pins s σ H xs us Q I r)
theorem b73{e:Expr}{fa:En->Option Sl}{p pos:Pos}(hg:Gl X "str")(hm:X.mg "str" = none)(he:EV X e fa)(hs:starEach [e] X.env=[(false,eval e X.env)]:=by rfl):EV X (.Call (.Name "str" p) [e] [] pos) (C7 fa):=by
 obtain ⟨t,pt,k⟩:=he
 refine ⟨_,Dg (kK.or a9j) hg hm (by decide +kernel) (lj pt nv hs) (by decide) (by decide) hs rfl,λO B σ H env s Q R e q=>?_⟩
 obtain ⟨r,e1,e2⟩:=bind_some e
 obtain ⟨y,e3,rfl⟩:=map_some e2
 refine k O B σ H env _ _ R e1 λv H1 s1 r1=>?_
 have hi:=r1.is λq=>R.oo
 cases hd:r.d with
 | int i =>
  rw [hd] at hi e3
  obtain ⟨hz,rfl⟩:=jg (show (if i.natAbs.log2<1920 then some (toString i:Str) else none)=some y from e3)
  obtain rfl:=pA hi
  exact .inl ⟨_,rfl,hz,q _ H1 s1 (Is.str _)⟩
 | str z =>
  rw [hd] at hi e3
  cases e3
  obtain rfl:=pB hi
  exact .inr ⟨_,rfl,q _ H1 s1 (Is.str _)⟩
 | _=>rw [hd] at e3;cases e3
noncomputable def nU(sep:Str)(ls:List Str):Nat:=ls.foldl (λa x=>a+x.length+sep.length) 0
noncomputable def la(sep:Str):List Str->Str
 | [y]=>y
 | ls=>Builtin.Str.glued sep ls
theorem YB{K:aJ}{O:Addr->Prop}{H:Hp}:∀{xs:List V} {ds:List D} {ls:List Str},aO K O H xs ds->t8 ds=some ls->xs=ls.map V.str
 | _,_,_,.nil,e=>by cases e;rfl
 | _,_,_,.cons (d:=d) h t,e=>by
  cases d with
  | str y =>
   obtain ⟨r,e1,rfl⟩:=map_some (show (t8 _).map (y::·)=some _ from e)
   obtain rfl:=pB h
   rw [YB t e1]
   rfl
  | _=>cases e
theorem YE:∀{ls:List Str} {us:List Value},aF (ls.map V.str) us->∃l:List (Str×Tok),us=strValues l/\l.map (·.1)=ls
 | [],us,h=>by cases h;exact ⟨[],rfl,rfl⟩
 | y::ls,_,.cons h t=>by
  obtain ⟨k,rfl⟩:=h
  obtain ⟨l,rfl,rfl⟩:=YE t
  exact ⟨(y,k)::l,rfl,rfl⟩
theorem b7v:E8 X "str.join" (λx xs H Q=>∃z a ls,x=.str z/\xs=[.ref a]/\iI X.K H a (ls.map V.str)/\nU z ls<=sizeLine/\(la z ls).length<=sizeLine/\Q (.str (la z ls)) H):=by
 intro pins s σ H x xs v us Q I r rs h
 obtain ⟨z,a,ls,rfl,rfl,hq,hl,hj,q⟩:=h
 obtain ⟨t,rfl⟩:=r
 obtain ⟨u',rfl,rfl⟩:=vals1 rs
 obtain ⟨aB,vv,pl,_⟩:=I.list hq
 obtain ⟨l,hu,rfl⟩:=YE vv
 have hu':aB=strValues l:=hu
 subst hu'
 refine Eo F.slot_str_join (MG _ _ _) F.entry_str_join (F.args_str_join_2 _ _) (meets_str_join_list z t a l ?_) ⟨pl.isList,?_⟩
 .unfold Builtin.Str.tooLong
  rw [List.foldl_toArray']
  .exact decide_eq_false (Nat.not_lt.mpr hl)
  .simp
 .cases l with
  | nil=>exact ⟨hj,.str _,H,I.tok _,⟨_,rfl⟩,q⟩
  | cons p l=>cases l with
   | nil=>exact ⟨.str _,H,I,⟨_,rfl⟩,q⟩
   | cons p' l=>exact ⟨hj,.str _,H,I.tok _,⟨_,rfl⟩,q⟩
noncomputable def AQ(fo:En->Option Sl)(fe:En->Option (Bool×List D)):En->Option Sl:=λenv=>(nC (fo env)).bind λz=>(fe env).bind λx=>if x.1=true then (t8 x.2).bind λls=>if nU z ls<=16777216/\(la z ls).length<=16777216 then some (.sh (.str (la z ls))) else none else none
theorem Nz{o e:Expr}{fo:En->Option Sl}{fe:En->Option (Bool×List D)}{apos au:Pos}(ho:EV X o fo)(he:BV X e fe)(bA:attributeBase o "join" X.env (eval o X.env)=eval o X.env:=by rfl)
  (gF:((backTo au (starEach [e] X.env)).all (λx=>!x.1)&&(backToKw au (keywordEach [] X.env)).all (λx=>x.1.isSome)&&decide ([e].length+([]:List Keyword).length+(if ([]:List Keyword).isEmpty then 0 else 1)<30))=true:=by rfl)
  (bz:(apos.endLine==au.line)=true:=by rfl)(hs:starEach [e] X.env=[(false,eval e X.env)]:=by rfl):EV X (.Call (.Attribute o "join" apos) [e] [] au) (AQ fo fe):=by
 obtain ⟨to,po,ko⟩:=ho
 obtain ⟨te,pe,ke⟩:=he
 refine ⟨_,NI (T:="str") F.plainAttrs_str F.slot_str_join F.type_str_join b7v po (lj pe nv hs) bA gF bz hs rfl,λO B σ H env r Q R e q=>?_⟩
 obtain ⟨z,e1,e2⟩:=bind_some e
 obtain ⟨⟨kk,ds⟩,e3,e4⟩:=bind_some e2
 obtain ⟨hk,e5⟩:=Cc e4
 obtain ⟨ls,e6,e7⟩:=bind_some e5
 obtain ⟨⟨hl,hj⟩,rfl⟩:=jg e7
 refine ko O B σ H env _ _ R (EZ e1) λv H1 s1 r1=>?_
 obtain rfl:=pB r1
 refine ⟨rfl,?_⟩
 refine ke O B σ H1 env _ _ _ (R.grow s1) e3 λpp xs H2 s2 hq hx=>?_
 cases (show kk=true from hk)
 refine ⟨z,pp,ls,rfl,rfl,by rw [<-YB hx e6];exact hq,by rw [lZ];exact hl,by rw [lZ];exact hj,q _ H2 (s1.trans s2) (Is.str _)⟩
noncomputable def uq(i:Nat):SF:=λenv=>match env[i]? with
 | some (.ow ds)=>some (.nx,env.set i (.ow ds.reverse))
 | _=>none
theorem aO.rev{K:aJ}{O:Addr->Prop}{H:Hp}:∀{v:List V} {d:List D},aO K O H v d->aO K O H v.reverse d.reverse
 | _,_,.nil=>.nil
 | _,_,.cons h t=>by
  rw [M6,M6]
  exact (aO.rev t).append (.cons h .nil)
theorem b9w{i:Nat}{x:Str}{p1 p2 au pos:Pos}(hN:X.N[i]?=some x)(hv:ib X.env.scope x)(hd:(x==("__debug__":Str))=false)(cE:(x==("__classdict__":Str))=false)
  (bA:attributeBase (.Name x p1) "reverse" X.env (eval (.Name x p1) X.env)=eval (.Name x p1) X.env)(bz:(p2.endLine==au.line)=true)
  (nJ:swapsWith (.Call (.Attribute (.Name x p1) "reverse" p2) [] [] au) none pos.line X.env=pure false):SV X (.Expr (.Call (.Attribute (.Name x p1) "reverse" p2) [] [] au) pos) (uq i):=by
 refine ⟨_,Bi (NM ED X9 PySem.F.type_list_reverse b1L (pN hN hv hd cE) bA bz) nJ,λO B σ H env fl af D R e q=>?_⟩
 unfold uq at e
 split at e
 .rename_i ds h
  cases e
  obtain ⟨l,xs,f1,f2,f3,f4⟩:=R.ow i ds h
  refine ⟨_,f1,.inl ⟨rfl,_,iI.of f3⟩,⟨l,xs,rfl,rfl,f3,?_⟩⟩
  obtain ⟨R',g'⟩:=R.wr h f1 f4.rev
  exact q _ _ R' g'
 .cases e
theorem Fx.rev{N:List Str}{sc:Scope}{k:Nat}{full:Bool}{p1 p2 au pos:Pos}(h:Fx X N sc k full)(i:Nat){x:Str}(hN:N[i]?=some x:=by rfl)(hv:ib sc x:=by first | exact cZ rfl | exact cj (cZ rfl) | exact cj (cj rfl))(hd:(x==("__debug__":Str))=false:=by rfl)
  (cE:(x==("__classdict__":Str))=false:=by rfl)(bA:attributeBase (.Name x p1) "reverse" X.env (eval (.Name x p1) X.env)=eval (.Name x p1) X.env:=by rfl)(bz:(p2.endLine==au.line)=true:=by rfl)
  (nJ:swapsWith (.Call (.Attribute (.Name x p1) "reverse" p2) [] [] au) none pos.line X.env=pure false:=by rfl):
  SV X (.Expr (.Call (.Attribute (.Name x p1) "reverse" p2) [] [] au) pos) (uq i):=b9w (h.ix hN) (h.pT hv) hd cE bA bz nJ
end
end DL
namespace DL
open PySem PySem.Spec PyProof.Rows L2
def c1B(K:aJ)(O:Addr->Prop)(B:Hp)(σ:L2.St)(H:Hp)(env:En)(D:Ends)(af:En):Prop:=∀aK H',Rel K O B aK H' af->Gd σ env H aK af H'->aK[0]?=σ[0]?->D.nx aK H'
def SV0(X:Cx)(st:Stmt)(F:SF):Prop:=
 ∃t:TS,PS X st t/\∀(O:Addr->Prop) (B:Hp) (σ:L2.St) (H:Hp) (env:En) (af:En) (D:Ends),Rel X.K O B σ H env->F env=some (.nx,af)->c1B X.K O B σ H env D af->t D σ H
section
variable {X:Cx}{N N':List Str}{sc dH:Scope}{k:Nat}{full:Bool}{elt iter tg:Expr}{ifs:List Expr}{pos:Pos}{fi:En->Option (List D)}{caps:List Nat}{nt:Nat}{g:GF}{fc:En->Option Bool}{fe:En->Option Sl}
theorem ZV{e:Expr}{fa:En->Option Sl}(he:EV X e fa)(hs:swapsWith e none pos.line X.env=pure false:=by rfl):SV0 X (.Expr e pos) (Dd fa):=by
 obtain ⟨t,p,k⟩:=he
 refine ⟨_,Bi p hs,λO B σ H env af D R e q=>?_⟩
 obtain ⟨r,e1,e2⟩:=map_some e
 cases e2
 exact k O B σ H env r _ R e1 λv H1 s1 r1=>q σ H1 (R.grow s1) (Gd.refl s1) rfl
end
section
variable {K:aJ}{O:Addr->Prop}{B H H':Hp}{σ:L2.St}{env:En}{p C dx:Addr}
theorem Rel.rebase(R:Rel K O B σ H env)(no:∀(i:Nat) s,env[i]?=some s->¬s.own):Rel K O H σ H env:=
 ⟨aE.refl _,R.oy.grow R.same,R.len,R.sh,λi es e=>(no i _ e trivial).elim,λi es e=>(no i _ e trivial).elim,λi ks es e=>(no i _ e trivial).elim,R.sep⟩
theorem Rel.Wp{fs:List (Str×V)}(R:Rel K O H σ H env)(no:∀(i:Nat) s,env[i]?=some s->¬s.own)(op:O p)(hp:H p=some (.ins C dx fs))(kp:∀q u,H q=some u->q≠p->H' q=some u)(uV:H' p≠none):Rel K O H' σ H' env:=by
 refine ⟨aE.refl _,⟨λq hq=>?_,λc' P e'=>?_⟩,R.len,λi d e=>?_,λi es e=>(no i _ e trivial).elim,λi es e=>(no i _ e trivial).elim,λi ks es e=>(no i _ e trivial).elim,λi j es fs q e1 _ _ _ o _=>(no i _ e1 o).elim⟩
 .by_cases z:q=p
  .rw [z];exact uV
  .cases hz:H q with
   | none=>exact absurd hz (R.oy.1 q hq)
   | some u=>rw [kp _ _ hz z];exact λz=>nomatch z
 .have e3:=R.oy.2 c' P e'
  exact kp _ _ e3 λz=>by rw [z,hp] at e3;cases e3
 .obtain ⟨w,f1,f2⟩:=R.sh i d e
  exact ⟨w,f1,f2.map (λ_ _ z=>z) λq u e nq=>kp q u e λz=>nq (by rw [z];exact .inl op)⟩
end
noncomputable abbrev IF:=En->List Str->List D->Option (List Str×List D)
def pP(X:Cx)(j6:List Stmt)(C:Addr)(F:IF):Prop:=
 ∃t:TS,pO X j6 t/\∀(O:Addr->Prop) (σ:L2.St) (H:Hp) (env:En) (p dx:Addr) (ns:List Str) (us:List V) (ds:List D) (gX:List Str) (ds':List D) (Dn:Ends),Rel X.K O H σ H env->(∀(i:Nat) s,env[i]?=some s->¬s.own)->O p->σ[0]?=some (some (V.ref p))->H p=some (.ins C dx (ns.zip us))->ns.length=us.length->aO X.K O H us ds->F env ns ds=some (gX,ds') ->
  (∀(aK:L2.St) (H':Hp) (nB:List V),(∀q u,H q=some u->q≠p->H' q=some u)->H' p=some (.ins C dx (gX.zip nB))->gX.length=nB.length->aO X.K O H' nB ds'->Dn.nx aK H')->t Dn σ H
noncomputable def EL:En->Bool
 | []=>true
 | .no::r=>EL r
 | .sh _::r=>EL r
 | _=>false
theorem Of:∀{env:En},EL env=true->∀(i:Nat) s,env[i]?=some s->¬s.own
 | [],_,i,s,e=>by simp at e
 | .no::r,h,0,s,e=>by cases e;exact id
 | .no::r,h,i+1,s,e=>Of (env:=r) h i s (by simpa using e)
 | .sh _::r,h,0,s,e=>by cases e;exact id
 | .sh _::r,h,i+1,s,e=>Of (env:=r) h i s (by simpa using e)
 | .ow _::_,h,_,_,_=>by cases h
 | .dw _::_,h,_,_,_=>by cases h
 | .tw _ _::_,h,_,_,_=>by cases h
noncomputable def Fw(G:SF)(F:IF):IF:=λenv ns ds=>match G env with
 | some (.nx,af)=>if EL af=true then F af ns ds else none
 | _=>none
noncomputable def QP(φ:List D->Option Sl)(f:Str)(F:IF):IF:=λenv ns ds=>((ns.zip ds).lookup f).bind λd=>(φ [d]).bind λ_=>F env ns ds
noncomputable def Kp(n:Nat)(C5:List Str)(ψ:List D->Option (List D))(fa:En->Option (List D))(F:IF):IF:=λenv ns _=>if ns=[] then (fa env).bind λas=>if as.length=n then (ψ as).bind λgs=>F env C5 gs else none else none
section
variable {X:Cx}{C:Addr}{F:IF}{st:Stmt}{j6:List Stmt}
theorem NK:pP X [] C jm:=⟨_,Ut,λO σ H env p dx ns us ds gX ds' Dn R no op hs hp hl hi e q=>by
 cases (show some (ns,ds)=some (gX,ds') from e)
 exact q σ H us (λ_ _ e _=>e) hp hl hi⟩
theorem Yr{G:SF}(h:SV0 X st G)(hr:pP X j6 C F):pP X (st::j6) C (Fw G F):=by
 obtain ⟨t,pt,k⟩:=h
 obtain ⟨u,pu,ku⟩:=hr
 refine ⟨_,Cm pt pu,λO σ H env p dx ns us ds gX ds' Dn R no op hs hp hl hi e q=>?_⟩
 unfold Fw at e
 split at e
 .rename_i af hG
  obtain ⟨tz,e2⟩:=Cc e
  refine k O H σ H env af _ R hG λaK H' R' g' h0=>?_
  have sm:=R'.same
  exact ku O aK H' af p dx ns us ds gX ds' Dn (R'.rebase (Of tz)) (Of tz) op (h0.trans hs) (sm _ _ hp) hl (hi.grow sm) e2 λdM H2 Dv kp=>q dM H2 Dv λq u e ne=>kp q u (sm _ _ e) ne
 .cases e
theorem c0q{e:Expr}{f x:Str}{fe:En->Option Sl}{p1 pos' pos:Pos}(hv:EV X e fe)(hr:pP X j6 C F)(c:qz X.K C)(n:ak X.K C f)
  (hN:X.N[0]?=some x)(jW:ib X.env.scope x)(hd:(x==("__debug__":Str))=false:=by rfl)(cE:(x==("__classdict__":Str))=false:=by rfl)
  (hs:swapsWith e (some (.Attribute (.Name x p1) f pos')) pos.line X.env=pure false:=by rfl):pP X (.Assign [.Attribute (.Name x p1) f pos'] e pos::j6) C (dg f fe F):=by
 obtain ⟨t,pt,k⟩:=hv
 obtain ⟨u,pu,ku⟩:=hr
 refine ⟨_,Cm (Ze (pN hN jW hd cE) pt hs) pu,λO σ H env p dx ns us ds gX ds' Dn R no op hs hp hl hi e q=>?_⟩
 obtain ⟨r,e1,e2⟩:=bind_some e
 split at e2
 .cases e2
 rename_i tz
 rw [not_or] at tz
 refine k O H σ H env r _ R e1 λv H1 s1 r1=>?_
 have iv:=(r1.is λq=>R.oo).less (O':=O) λq z=>.inl z
 refine ⟨.ref p,hs,p,C,dx,ns.zip us,rfl,s1 _ _ hp,c,n,by rw [A7];omega,?_⟩
 rw [Uu tz.1 hl]
 have kp:∀q u,H1 q=some u->q≠p->upd H1 p (.ins C dx ((ns++[f]).zip (us++[v]))) q=some u:=λq u e ne=>by rw [fm ne];exact e
 have mp:∀{w:V} {d:D},Is X.K O H1 w d->Is X.K O (upd H1 p (.ins C dx ((ns++[f]).zip (us++[v])))) w d:=λh=>h.map (λ_ _ z=>z) λq u e nq=>kp q u e λz=>nq (by rw [z];exact op)
 have QB:∀{w:List V} {d:List D},aO X.K O H1 w d->aO X.K O (upd H1 p (.ins C dx ((ns++[f]).zip (us++[v])))) w d:=λh=>h.map (λ_ _ z=>z) λq u e nq=>kp q u e λz=>nq (by rw [z];exact op)
 have R1:Rel X.K O H1 σ H1 env:=(R.grow s1).rebase no
 exact ku O σ _ env p dx (ns++[f]) (us++[v]) (ds++[r.d]) gX ds' Dn (R1.Wp no op (s1 _ _ hp) kp (by rw [lM];exact λz=>nomatch z)) no op hs lM (by rw [jv,jv,hl];rfl) ((QB (hi.grow s1)).append (.cons (mp iv) .nil)) e2 λaK H' nB kq uV mT mU=>q aK H' nB (λq u e ne=>kq q u (kp q u (s1 _ _ e) ne) ne) uV mT mU
theorem IA{x f y:Str}{g:Addr}{fd:FuncData}{ps:List Str}{j:Nat}{φ:List D->Option Sl}{p1 p2 p3 pos au:Pos}(Fn:cx X.prog X.w X.K X.mg X.base jw j g fd ps (qR X.K ps.length φ))(qe:ps.length=1)(QZ:cF j X.A)(hg:Gl X y)(hm:X.mg y=some (.ref g))(hk:yz X.K (.ref g)=true)(hb:Binds X.K fd ps [])
  (hr:pP X j6 C F)(c:qz X.K C)(n:ak X.K C f)(hN:X.N[0]?=some x)(jW:ib X.env.scope x)(hd:(x==("__debug__":Str))=false:=by rfl)(cE:(x==("__classdict__":Str))=false:=by rfl)
  (Jj:attributeBase (.Name x p1) f X.env (eval (.Name x p1) X.env)=eval (.Name x p1) X.env:=by rfl)
  (hX:(y==("__debug__":Str))=false:=by decide)(he:starEach [.Attribute (.Name x p1) f p2] X.env=[(false,eval (.Attribute (.Name x p1) f p2) X.env)]:=by rfl)
  (hs:swapsWith (.Call (.Name y p3) [.Attribute (.Name x p1) f p2] [] au) none pos.line X.env=pure false:=by rfl):
  pP X (.Expr (.Call (.Name y p3) [.Attribute (.Name x p1) f p2] [] au) pos::j6) C (QP φ f F):=by
 obtain ⟨u,pu,ku⟩:=hr
 refine ⟨_,Cm (Bi (Up Fn QZ hg hm hk hb .nil (Dc (X:=X)) (lj (Za (pN hN jW hd cE) Jj) nv he) hX he rfl) hs) pu,λO σ H env p dx ns us ds gX ds' Dn R no op hs hp hl hi e q=>?_⟩
 obtain ⟨d,e1,e2⟩:=bind_some e
 obtain ⟨r,e3,e4⟩:=bind_some e2
 obtain ⟨v,hv,iv⟩:=UT hi e1
 refine ⟨.ref p,hs,p,C,dx,ns.zip us,v,rfl,hp,c,n,hv,?_⟩
 refine (show qR X.K ps.length φ [v] H (λ_ H1=>u Dn σ H1) E0 from ?_)
 refine ⟨O,[d],r,R.oy,.cons iv .nil,by rw [qe];rfl,e3,λw H1 s1 r1=>?_⟩
 exact ku O σ H1 env p dx ns us ds gX ds' Dn ((R.grow s1).rebase no) no op hs (s1 _ _ hp) hl (hi.grow s1) e4 λdM H2 Dv kp=>q dM H2 Dv λq u e ne=>kp q u (s1 _ _ e) ne
structure qA(K:aJ)(C0 m:Addr):Prop where
 g:FZ K (.ref C0) "__getattribute__" = some (some (.builtin "type.__getattribute__"))
 r:XI K C0 (.type "type")=true
 f:XH K (.ref C0) (.type "type") "__init__" = some (.val (.ref m))
 k:yz K (.ref m)=true
theorem b7n{c:Str}{C0 f:Addr}{fd:FuncData}{ps:List Str}{j:Nat}{sp:Sp}{e:Expr}{es:List Expr}{t:TA}{p apos pos:Pos}{pl:Sem Bool}(b:qA X.K C0 f)(Fn:cx X.prog X.w X.K X.mg X.base jw j f fd ps sp)(hr:cF j X.A)(hg:Gl X c)(hm:X.mg c=some (.ref C0))(hb:Binds X.K fd ps [])(ha:PA X (e::es) t)
  (hX:(c==("__debug__":Str))=false:=by decide)(lW:starEach (e::es) X.env=(false,eval e X.env)::starEach es X.env:=by rfl)(gm:(backTo pos (starEach es X.env)).any (·.1)=false:=by rfl)
  (ht:eval (.Call (.Attribute (.Name c p) "__init__" apos) (e::es) [] pos) X.env=(eval (.Name c p) X.env >>= λov=>standAt apos.atName >>= λ_=>holding [ov] (getMethod ov "__init__" pl) >>= λz=>callWith pos z.1 z.2 (backTo pos (starEach (e::es) X.env)) (backToKw pos (keywordEach [] X.env))):=by rfl):
  PE X (.Call (.Attribute (.Name c p) "__init__" apos) (e::es) [] pos) (TF sp [] E0 t):=by
 intro pins s σ H Q I h
 refine Tc (pl:=pl) (Df I hg hm ?_ hX) ht
 refine PySem.W.method_cls I.mf b.g (PySem.W.cls_value I.mf b.r b.f rfl ?_)
 have I1:Inv X pins σ H { s with toks:=s.toks+1 }:=I.tok _
 refine Kj (first:=[]) (h₀:=X.base) I.ok.mod.zy b.k (cn (ha pos pins _ σ H _ I1 h) λus s1 ⟨vs,H1,I1,r,q⟩=>⟨I1.mf,?_⟩) lW gm
 exact NO Fn hr hb .nil Dc I1 r q
theorem b7H{c x:Str}{C0 f:Addr}{fd:FuncData}{ps:List Str}{j n:Nat}{C5:List Str}{ψ:List D->Option (List D)}{fs:En->Option (List D)}{es:List Expr}{p p1 apos au pos:Pos}{pl:Sem Bool}(b:qA X.K C0 f)(Fn:cx X.prog X.w X.K X.mg X.base jw j f fd ps (Fp X.K C n C5 ψ))(QZ:cF j X.A)(hg:Gl X c)(hm:X.mg c=some (.ref C0))(hb:Binds X.K fd ps [])
  (ha:AV X es fs)(hr:pP X j6 C F)(hN:X.N[0]?=some x)(jW:ib X.env.scope x)(hd:(x==("__debug__":Str))=false:=by rfl)(cE:(x==("__classdict__":Str))=false:=by rfl)
  (hX:(c==("__debug__":Str))=false:=by decide)(lW:starEach (.Name x p1::es) X.env=(false,eval (.Name x p1) X.env)::starEach es X.env:=by rfl)(gm:(backTo au (starEach es X.env)).any (·.1)=false:=by rfl)
  (ht:eval (.Call (.Attribute (.Name c p) "__init__" apos) (.Name x p1::es) [] au) X.env=(eval (.Name c p) X.env >>= λov=>standAt apos.atName >>= λ_=>holding [ov] (getMethod ov "__init__" pl) >>= λz=>callWith au z.1 z.2 (backTo au (starEach (.Name x p1::es) X.env)) (backToKw au (keywordEach [] X.env))):=by rfl)
  (hs:swapsWith (.Call (.Attribute (.Name c p) "__init__" apos) (.Name x p1::es) [] au) none pos.line X.env=pure false:=by rfl):
  pP X (.Expr (.Call (.Attribute (.Name c p) "__init__" apos) (.Name x p1::es) [] au) pos::j6) C (Kp n C5 ψ fs F):=by
 obtain ⟨t,pt,ka⟩:=ha
 obtain ⟨u,pu,ku⟩:=hr
 refine ⟨_,Cm (Bi (b7n (pl:=pl) b Fn QZ hg hm hb (lj (pN hN jW hd cE) pt lW) hX lW gm ht) hs) pu,λO σ H env p dx ns us ds gX ds' Dn R no op hs hp hl hi e q=>?_⟩
 obtain ⟨hn0,e1⟩:=Cc e
 subst hn0
 obtain rfl:us=[]:=Np.mp hl.symm
 obtain ⟨as,e2,e3⟩:=bind_some e1
 obtain ⟨hln,e4⟩:=Cc e3
 obtain ⟨gs,e5,e6⟩:=bind_some e4
 refine ⟨.ref p,hs,?_⟩
 refine ka O H σ H env as _ R e2 λvs H1 s1 r1=>?_
 have R1:Rel X.K O H1 σ H1 env:=(R.grow s1).rebase no
 have i1:aO X.K O H1 vs as:=r1.less λq z=>.inl z
 refine ⟨O,p,dx,vs,as,gs,by rw [vz],by rw [r1.length];exact hln,s1 _ _ hp,R1.oy,op,i1,e5,λDv H2 D1 WR Mj hi2=>?_⟩
 exact ku O σ H2 env p dx C5 Dv gs gX ds' Dn (R1.Wp no op (s1 _ _ hp) WR (by rw [Mj];exact λz=>nomatch z)) no op hs Mj D1 hi2 e6 λnz H3 us3 kp3=>q nz H3 us3 λq u e ne=>kp3 q u (WR q u (s1 _ _ e) ne) ne
end
section
variable {P:Program}{w:World}{K:aJ}{mg:Str->Option Value}{base:Heap}
theorem b47{qual:Str}{st:Stmt}{f C:Addr}{fd:FuncData}{N ps:List Str}{k n:Nat}{ns:List Str}{F:IF}(Fn:vZ K "__init__" qual st f fd)(S:cz N ps (eS st))(qe:ps.length=n+1)(hN:1<=N.length)
  (cb:∀X:Cx,X.prog=P->X.w=w->X.K=K->X.mg=mg->X.base=base->Fx X N (eS st) k->pP X (jD st) C F):cx P w K mg base jw (k+1) f fd ps (Fp K C n ns (eJ F N.length ns)):=by
 refine Fn.ok S (λvs H Q E h=>?_) (λfE A outer s H vs Q E hr h=>?_)
 .obtain ⟨O,p,dx,ws,ds,fs,rfl,hl,_⟩:=h
  rw [ia,hl,qe]
 obtain ⟨O,p,dx,ws,ds,fs,rfl,hl,hp,dm,op,hi,e,q⟩:=h
 obtain ⟨t,pt,kk⟩:=cb (iX jw P w K mg base N qual (eS st) f fE A outer s H E).jd rfl rfl rfl rfl rfl ⟨rfl,rfl,rfl,λ_ _=>rfl,B7,hr,S.nd,λ_=>⟨rfl,rfl,rfl⟩⟩
 refine ⟨t,pt,?_⟩
 have R0:=Ll (N:=N.tail) dm hi
 have R1:=UN (some (V.ref p)) R0
 have es:some (V.ref p)::start N.tail ws=start N (V.ref p::ws):=by
  unfold L2.start
  rw [gS,MY,F7,ia,RY,Se 1]
 rw [es,F7] at R1
 unfold eJ at e
 cases hF:F (.no::lg (N.length-1) ds) [] [] with
 | none=>rw [hF] at e;cases e
 | some y =>
  obtain ⟨gX,xK⟩:=y
  rw [hF] at e
  obtain ⟨rfl,rfl⟩:=jg (show (if gX=ns then some xK else none)=some fs from e)
  refine kk O _ H _ p dx [] [] [] gX xK _ R1 (λi s h1 h2=>?_) op rfl hp rfl .nil hF λaK H' nB kp uV mT mU=>q nB H' mT kp uV mU
  cases i with
  | zero=>cases h1;exact h2
  | succ i =>
   have h1:(lg (N.length-1) ds)[i]?=some s:=by simpa using h1
   unfold lg at h1
   rw [Kb] at h1
   split at h1
   .rw [nj] at h1
    obtain ⟨d,_,e⟩:=map_some h1
    cases e
    exact h2
   .rw [C1] at h1
    split at h1
    .cases h1;exact h2
    .cases h1
theorem TJ{c qual:Str}{st:Stmt}{f C:Addr}{fd:FuncData}{N ps:List Str}{k n:Nat}{ns:List Str}{F:IF}(h:dj K c C)(hm:mg c=some (.ref C))(M:Mk K C f)(D':cA K f "__init__" qual st ps fd)
  (cb:∀X:Cx,Sx X P w K mg base->Fx X N (eS st) k->pP X (jD st) C F)(qe:ps.length=n+1:=by rfl)(hN:1<=N.length:=by decide)(S:cz N ps (eS st):=by exact ⟨rfl,rfl,rfl,by decide +kernel,rfl,by decide +kernel,by decide +kernel⟩):lp P w K mg base c n ns (k+1) (eJ F N.length ns):=
 ⟨C,f,fd,ps,M,b47 D'.fn S qe hN λX e1 e2 e3 e4 e5=>by subst e1 e2 e3 e4 e5;exact cb X (.mk X),hm,h.a,D'.bd⟩
def Dq(P:Program)(w:World)(K:aJ)(mg:Str->Option Value)(base:Heap)(C0 C f:Addr)(b:Str)(n:Nat)(ns:List Str)(j:Nat)(ψ:List D->Option (List D)):Prop:=∃fd ps,qA K C0 f/\mg b=some (.ref C0)/\cx P w K mg base jw j f fd ps (Fp K C n ns ψ)/\Binds K fd ps []
theorem Tv{b qual:Str}{st:Stmt}{f C0 C:Addr}{fd:FuncData}{N ps:List Str}{k n:Nat}{ns:List Str}{F:IF}(hbf:qA K C0 f)(hm:mg b=some (.ref C0))(D':cA K f "__init__" qual st ps fd)
  (cb:∀X:Cx,Sx X P w K mg base->Fx X N (eS st) k->Dr X (jD st) C F)(qe:ps.length=n+1:=by rfl)(hN:1<=N.length:=by decide)(S:cz N ps (eS st):=by exact ⟨rfl,rfl,rfl,by decide +kernel,rfl,by decide +kernel,by decide +kernel⟩):Dq P w K mg base C0 C f b n ns (k+1) (eJ F N.length ns):=
 ⟨fd,ps,hbf,hm,ZR D'.fn S qe hN λX e1 e2 e3 e4 e5=>by subst e1 e2 e3 e4 e5;exact cb X (.mk X),D'.bd⟩
end
section
variable {X:Cx}{N:List Str}{sc:Scope}{k j n:Nat}{full:Bool}{C:Addr}{F:IF}{j6:List Stmt}{x:Str}
theorem Fx.Fv{e:Expr}{f:Str}{fe:En->Option Sl}{p1 pos' pos:Pos}(h:Fx X N sc k full)(c:qz X.K C)(n:ak X.K C f)(hv:EV X e fe)(hr:pP X j6 C F)(hN:N[0]?=some x:=by rfl)(jW:ib sc x:=by first | exact cZ rfl | exact cj (cZ rfl) | exact cj (cj rfl))(hd:(x==("__debug__":Str))=false:=by rfl)(cE:(x==("__classdict__":Str))=false:=by rfl)
  (hs:swapsWith e (some (.Attribute (.Name x p1) f pos')) pos.line X.env=pure false:=by rfl):pP X (.Assign [.Attribute (.Name x p1) f pos'] e pos::j6) C (dg f fe F):=c0q hv hr c n (h.ix hN) (h.pT jW) hd cE hs
theorem Fx.iwc{f y:Str}{st:Stmt}{ps:List Str}{φ:List D->Option Sl}{p1 p2 p3 pos au:Pos}(h:Fx X N sc k full)(O:Oz X.prog X.w X.K X.mg X.base y st ps j φ)(c:qz X.K C)(n:ak X.K C f)(hr:pP X j6 C F)(hj:j<=k:=by decide)(qe:ps.length=1:=by rfl)(hg:sc.names.lookup y=some .globalImplicit:=by rfl)
  (hN:N[0]?=some x:=by rfl)(jW:ib sc x:=by first | exact cZ rfl | exact cj (cZ rfl) | exact cj (cj rfl))(hd:(x==("__debug__":Str))=false:=by rfl)(cE:(x==("__classdict__":Str))=false:=by rfl)
  (Jj:attributeBase (.Name x p1) f X.env (eval (.Name x p1) X.env)=eval (.Name x p1) X.env:=by rfl)
  (hX:(y==("__debug__":Str))=false:=by decide)(he:starEach [.Attribute (.Name x p1) f p2] X.env=[(false,eval (.Attribute (.Name x p1) f p2) X.env)]:=by rfl)
  (hs:swapsWith (.Call (.Name y p3) [.Attribute (.Name x p1) f p2] [] au) none pos.line X.env=pure false:=by rfl):
  pP X (.Expr (.Call (.Name y p3) [.Attribute (.Name x p1) f p2] [] au) pos::j6) C (QP φ f F):=by
 obtain ⟨g,fd,D',Fn⟩:=O
 exact IA Fn qe (h.room.mono hj) (h.g hg) D'.m D'.fn.kp D'.bd hr c n (h.ix hN) (h.pT jW) hd cE Jj hX he hs
theorem Fx.QL{b:Str}{C0 f:Addr}{C5:List Str}{ψ:List D->Option (List D)}{fs:En->Option (List D)}{es:List Expr}{p p1 apos au pos:Pos}{pl:Sem Bool}(h:Fx X N sc k full)(T:Dq X.prog X.w X.K X.mg X.base C0 C f b n C5 j ψ)(ha:AV X es fs)(hr:pP X j6 C F)(hj:j<=k:=by decide)(hg:sc.names.lookup b=some .globalImplicit:=by rfl)
  (hN:N[0]?=some x:=by rfl)(jW:ib sc x:=by first | exact cZ rfl | exact cj (cZ rfl) | exact cj (cj rfl))(hd:(x==("__debug__":Str))=false:=by rfl)(cE:(x==("__classdict__":Str))=false:=by rfl)
  (hX:(b==("__debug__":Str))=false:=by decide)(lW:starEach (.Name x p1::es) X.env=(false,eval (.Name x p1) X.env)::starEach es X.env:=by rfl)(gm:(backTo au (starEach es X.env)).any (·.1)=false:=by rfl)
  (ht:eval (.Call (.Attribute (.Name b p) "__init__" apos) (.Name x p1::es) [] au) X.env=(eval (.Name b p) X.env >>= λov=>standAt apos.atName >>= λ_=>holding [ov] (getMethod ov "__init__" pl) >>= λz=>callWith au z.1 z.2 (backTo au (starEach (.Name x p1::es) X.env)) (backToKw au (keywordEach [] X.env))):=by rfl)
  (hs:swapsWith (.Call (.Attribute (.Name b p) "__init__" apos) (.Name x p1::es) [] au) none pos.line X.env=pure false:=by rfl):
  pP X (.Expr (.Call (.Attribute (.Name b p) "__init__" apos) (.Name x p1::es) [] au) pos::j6) C (Kp n C5 ψ fs F):=by
 obtain ⟨fd,ps,B,hm,Fn,hb⟩:=T
 exact b7H (pl:=pl) B Fn (h.room.mono hj) (h.g hg) hm hb ha hr (h.ix hN) (h.pT jW) hd cE hX lW gm ht hs
end
end DL
namespace DL
open PySem PySem.Spec PyProof.Rows L2
section
variable {X:Cx}
theorem b0x{K:Type}[DecidableEq K]{knd:CW X.prog X.w K}:de X (.builtin "len") (λxs H Q=>∃(p:Addr) (ks:List K),xs=[.ref p]/\H p=some (sE knd p ks)/\Q (.int ks.length) H):=by
 intro pins s σ H xs vs Q I r h
 obtain ⟨p,ks,rfl,hp,q⟩:=h
 obtain ⟨u,rfl,ru⟩:=r.one
 cases ru
 obtain ⟨⟨o,ho,ex,es,ep,t,ff,hd,S,rfl⟩,_⟩:=I.bE p _ hp
 have hl:es.size=(ff.map (·.1)).length:=by rw [S.len,cP]
 have hb:(scanBound:Int)<=2^62:=by decide
 refine PySem.call_len_set ho ex hd S.fits (by have:=S.lt;omega) ?_
 exact ⟨.int _,H,I.tok _,⟨_,by rw [hl]⟩,q⟩
theorem Yt{ks ss:List Str}(nd:ks.Nodup)(mem:∀x,x∈ks↔x∈ss):ks.length=(SE.oa SE.oY ss).length:=by
 have h2:(SE.oa SE.oY ss).Nodup:=(SE.me SE.jk ss).imp λ{a b} h e=>by
  subst e
  have h:=(SE.jk.DT a).symm.trans h
  cases h
 exact ((List.perm_ext_iff_of_nodup nd h2).mpr λx=>by rw [mem,SE.kr SE.jk]).length_eq
noncomputable def NY(f:En->Option Sl):En->Option Sl:=λenv=>(f env).bind λr=>match r.d with
 | .lst _ ds=>(t8 ds).bind λss=>if ss.length+1<4096 then some (.sh (.int (SE.oa SE.oY ss).length)) else none
 | _=>none
theorem b3E{e:Expr}{fa:En->Option Sl}{p pos p2 lN:Pos}(hc:X.calm=true)(hg:Gl X "len")(hm:X.mg "len" = none)(CN:Gl X "set")(CL:X.mg "set" = none)(he:EV X e fa)(hs:starEach [e] X.env=[(false,eval e X.env)]:=by rfl)
  (lX:starEach [.Call (.Name "set" p2) [e] [] lN] X.env=[(false,eval (.Call (.Name "set" p2) [e] [] lN) X.env)]:=by rfl):EV X (.Call (.Name "len" p) [.Call (.Name "set" p2) [e] [] lN] [] pos) (NY fa):=by
 obtain ⟨t,pt,k⟩:=he
 refine ⟨_,Dh (p:=p) (pos:=pos) (b0x (knd:=J0 X.prog X.w)) hg hm RV (lj (Dg (p:=p2) (pos:=lN) (jt T8 ("":Str) hc) CN CL (by decide +kernel) (lj pt nv hs) (by decide) (by decide) hs rfl) nv lX) (by decide) (by decide) lX rfl,λO B σ H env s Q R e q=>?_⟩
 obtain ⟨r,e1,e2⟩:=bind_some e
 cases hd:r.d with
 | lst b ds =>
  rw [hd] at e2
  obtain ⟨ss,e5,e6⟩:=bind_some (show (t8 ds).bind (λss=>if ss.length+1<4096 then some (Sl.sh (.int (SE.oa SE.oY ss).length)) else none)=some s from e2)
  obtain ⟨xJ,rfl⟩:=jg e6
  refine k O B σ H env r _ R e1 λv H1 s1 r1=>?_
  have hi:=r1.is λq=>R.oo
  rw [hd] at hi
  have JK:=Ve e5
  subst JK
  obtain ⟨a,xs,rfl,h2,h3⟩:=hi.seq (k:=true) rfl
  have ex:=U' h3
  subst ex
  refine ⟨a,ss,rfl,h2,xJ,λc ks nd mem hc=>⟨c,ks,rfl,lM,?_⟩⟩
  rw [Yt nd mem]
  exact q _ _ (s1.trans (nW hc _)) (Is.int _)
 | _=>rw [hd] at e2;cases e2
end
end DL
namespace DPr
open PySem PySem.Spec PyProof.Rows
theorem a9e:entryFor table "dict.update.loop" = some Builtin.«dict.update.loop»:=entryFor_of_tree (by kernel_rfl)
theorem OA:plainId "dict.update.loop" = true:=by decide +kernel
theorem b26:typeLookup (.type "list") "keys" = pure none:=by rw [RX,Td];kernel_rfl
section
variable {prog:Program}{w:World}{A:Around}{E:Value->Shared->Prop}{s:Shared}{K:Type}[DecidableEq K]{knd:KeyKind prog w K}{R:Result->Shared->Prop}
theorem b25{a:Addr}{o:Obj}{xs:Array Value}{k:Nat}{Q:Option Value->Shared->Prop}(hx:s.heap.get? a=some o)(hc:o.cls=.type "list")(Jf:o.data=.seq xs k)(hd:o.dict=none)(hA:A.handled=none)
  (h:∀h' tk,(∀b o,s.heap.get? b=some o->h'.get? b=some o)->Q none { s with heap:=h',toks:=tk }):wpAny (model prog w) A (getAttr? (.ref a) "keys") Q E s:=by
 obtain ⟨c,j9,dat,sl⟩:=o
 simp only at hc Jf hd
 subst hc Jf hd
 obtain ⟨hp,g,d,tk,os⟩:=s
 have hT:∀qC,(⟨hp,g,d,qC,os⟩:Shared).TypeIs (.ref a) "list":=λ_=>⟨_,hx,rfl⟩
 have f1:=sub_AttributeError
 have f3:=S5.lookup
 have f4:=S5.bind (.ref a)
 have f5:=am_list_getattr_none
 unfold getAttr? getAttrBy? getAttrBy
 repeat (any_goals (first | assumption | exact hT _ | ((with_reducible show wpAny _ _ (call (J1 "list.__getattribute__") _ _) _ _ _);refine Eo S5 (hT _) am_entry_list_getattribute (F.args_list_getattribute_2 _ _) (meets_getattribute_miss_list a xs k sl "keys" _ b26 (by decide +kernel) (by decide +kernel)) ⟨hx,hA,λh' qC e qd=>?_⟩) | wp_step))
 obtain ⟨t',u',he⟩:=qd.there
 show wpAny _ _ (getattributeRaised _ _ _ _ _ _ _) _ _ _
 unfold getattributeRaised
 repeat (any_goals (first | assumption | wp_step))
 exact h _ _ qd.of.keeps
theorem Lb{I:Addr}{fp wr:List Addr}{G:Array GenState->Array GenState->Prop}{n:Nat}{P:Nat->Value->Prop}{St:Nat->Shared->Prop}(W:WalksS prog w A.in1 I fp wr G n P St)(S:Addr)(qF:S∉fp)(aD:List (K×Value))(hn:aD.length=n)(nd:(aD.map (·.1)).Nodup)(hz:n<=sizeLine)
  (T:Nat->Addr)(hP:∀i v,P i v->v=.ref (T i))(hT:∀i,i<n->T i∉S::wr):
  ∀(m i:Nat) (s:Shared) (j:Int) (t:Tok),n-i=m->i<=n->St i s->s.heap.DictOf knd S (aD.take i)->(∀i q,aD[i]?=some q->∃key,knd.is q.1 key=true/\s.heap.IsTuple (T i) #[key,q.2]) ->
   (∀s',Moved (S::wr) G s s'->s'.heap.DictOf knd S aD->R (.ok (.ret .none)) s') ->
   codeAny (model prog w) A (.builtin "dict.update.loop" ⟨[.ref S,.ref I,.int j t,.none],[]⟩) R s
 | 0,i,s,j,t,hm,hi,st,D,hk,hR=>by
  have e:i=n:=by omega
  subst e
  refine B6 a9e ?_
  rw [EA OA _]
  show wpAny _ A.in1 (pyNext (.ref I) >>= _) _ _ s
  refine aI (W.done s _ _ st λs' mv=>?_)
  have Ro:S∉wr:=λh=>qF (W.sub _ h)
  show wpAny _ A.in1 (Builtin.Dict.addKeywords S [] >>= _) _ _ s'
  refine aI (b9 (b9 (hR s' (mv.mono λb hb=>i0 _ hb) ?_)))
  rw [<-hn,List.take_length] at D
  obtain ⟨o,es,ep,ho,rest⟩:=D
  exact ⟨o,es,ep,mv.heap S _ Ro ho,rest⟩
 | m+1,i,s,j,t,hm,hi,st,D,hk,hR=>by
  have iw:i<n:=by omega
  have Ro:S∉wr:=λh=>qF (W.sub _ h)
  refine B6 a9e ?_
  rw [EA OA _]
  show wpAny _ A.in1 (pyNext (.ref I) >>= _) _ _ s
  refine aI (W.item i s _ _ iw st λv s' hv j7 mv=>?_)
  obtain rfl:=hP i v hv
  have hq:aD[i]?=some aD[i]:=je (by omega)
  have kp:∀i' q,aD[i']?=some q->∃key,knd.is q.1 key=true/\s'.heap.IsTuple (T i') #[key,q.2]:=λi' q e=>by
   obtain ⟨key,h1,o,h2,h3⟩:=hk i' q e
   have hl:i'<n:=by
    have:=(ni.mp e).1
    omega
   exact ⟨key,h1,o,mv.heap _ _ (λz=>hT i' hl (i0 _ z)) h2,h3⟩
  obtain ⟨key,zI,o,ho,hc,nn,hd⟩:=kp i _ hq
  have D':s'.heap.DictOf knd S (aD.take i):=by
   obtain ⟨o,es,ep,ho,rest⟩:=D
   exact ⟨o,es,ep,mv.heap S _ Ro ho,rest⟩
  show wpAny _ A.in1 (holding [dJ (T i)] _ >>= _) _ _ s'
  refine aI (rV ?_)
  refine aI (wpAny_tryCatch ?_)
  unfold Builtin.Dict.pairItems
  refine aI (JR ⟨o,ho,hc⟩ ?_)
  rw [if_pos (by decide)]
  unfold seqItems?
  refine aI (aI (MH ho ?_))
  rw [hd]
  refine b9 (b9 ?_)
  show wpAny _ A.in1 (holding [key,aD[i].2] (dictSet S key aD[i].2)) _ _ s'
  refine rV (wpAny_dictSet_pairs (hsz:=by rw [JZ];omega) zI D' λh' D2 sb=>?_)
  have nm:aD[i].1∉(aD.take i).map (·.1):=λz=>by
   rw [<-XF i aD,rT,List.nodup_append] at nd
   have e2:aD[i].1∈(aD.drop i).map (·.1):=by
    rw [Nb (by omega),gS]
    exact jM
   exact nd.2.2 _ z _ e2 rfl
  have est:stored (aD.take i) aD[i].1 aD[i].2=aD.take (i+1):=by
   unfold stored
   rw [if_neg ?_,List.take_succ,hq]
   .rfl
   .intro z
    rw [MZ] at z
    obtain ⟨x,hx,e⟩:=z
    exact nm (pd.mpr ⟨x,hx,by simpa using e⟩)
  rw [est] at D2
  refine b9 ⟨Ey OA _,Lb W S qF aD hn nd hz T hP hT m (i+1) _ _ _ (by omega) iw (W.frame _ s' _ _ j7 (B5 _) λb hb o e=>?_) D2 (λi' q e=>?_) λDD QA=>?_⟩
  .rw [sb.2 b (λh:b=S=>qF (by rw [<-h];exact hb))];exact e
  .obtain ⟨QI,h1,o',h2,h3⟩:=kp i' q e
   have hl:i'<n:=by
    have:=(ni.mp e).1
    omega
   exact ⟨QI,h1,o',(sb.2 _ (λz=>hT i' hl (by rw [z];exact jM))).trans h2,h3⟩
  .refine hR DD (Moved.trans W.gtrans ((mv.mono λb hb=>i0 _ hb).then_heap (B5 _) λb o hb e=>?_) QA)
   rw [sb.2 b (λh:b=S=>hb (by rw [h];exact jM))];exact e
theorem vw{l:Addr}{o:Obj}{items:Array Value}{nn:Nat}{Q:Value->Shared->Prop}(hh:A.handled=none)(ho:s.heap.get? l=some o)(hc:o.cls=.type "list")(hd:o.data=.seq items nn)(Rg:o.dict=none)
  (aD:List (K×Value))(hn:aD.length=items.size)(nd:(aD.map (·.1)).Nodup)(hz:items.size<=sizeLine)(T:Nat->Addr)(hI:∀(i:Nat) (v:Value),items[i]?=some v->v=.ref (T i))(hT:∀(i:Nat) (q:K×Value),aD[i]?=some q->∃key,knd.is q.1 key=true/\s.heap.IsTuple (T i) #[key,q.2])
  (h:∀h' tk,(∀b o,s.heap.get? b=some o->h'.get? b=some o)->h'.DictOf knd s.heap.objs.size aD->Q (.ref s.heap.objs.size) { s with heap:=h',toks:=tk }):wpAny (model prog w) A (call (.type "dict") [.ref l]) Q E s:=by
 refine callType_codes (Q₁:=λobj aT=>obj=.ref s.heap.objs.size/\aT={ s with heap:=s.heap.push { cls:=.type "dict",data:=.dict #[] } }) F.kt_called_dict (F.kt_typeCall_dict_1 _) F.entry_dict_init (kt_code_dict_new _ ⟨rfl,rfl⟩) ?_
 rintro obj aT ⟨rfl,rfl⟩
 have D0:(s.heap.push { cls:=.type "dict",data:=.dict #[] }).DictOf knd s.heap.objs.size []:=XJ s.heap
 have Mm:(s.heap.push { cls:=.type "dict",data:=.dict #[] }).get? l=some o:=ft _ ho
 refine ⟨D0.typeIs,F.args_dict_init_2 _ _,?_⟩
 unfold Builtin.«dict.__init__»
 refine aI ?_
 unfold Builtin.Dict.selfAndRest
 refine aI (wpAny_notOrdered_dict D0.typeIs ?_)
 show wpAny _ _ (pure (s.heap.objs.size,[dJ l])) _ _ _
 refine b9 ?_
 show wpAny _ _ (Yd "dict.__init__" s.heap.objs.size (.ref l) [] .none) _ _ _
 unfold Yd
 refine aI (JR (T:="list") ⟨o,Mm,hc⟩ ?_)
 rw [if_pos (by decide)]
 refine aI (b25 (s:={ s with heap:=s.heap.push { cls:=.type "dict",data:=.dict #[] } }) Mm hc hd Rg (by exact hh) λh1 tk1 CI=>?_)
 rw [if_pos (by rfl)]
 refine aI (MK ?_)
 have AJ:h1.IsList l items:=⟨o,CI _ _ Mm,hc,nn,hd⟩
 refine aI (M4 (s:={ s with heap:=h1,toks:=tk1 }) AJ ?_)
 have zH:l<h1.objs.size:=eD (CI _ _ Mm)
 have Xf:h1.DictOf knd s.heap.objs.size []:=by
  obtain ⟨o',es,ep,e1,rest⟩:=D0
  exact ⟨o',es,ep,CI _ _ e1,rest⟩
 have Rn:s.heap.objs.size<h1.objs.size:=by
  obtain ⟨o',es,ep,e1,rest⟩:=Xf
  exact eD e1
 have Q4:l<s.heap.objs.size:=eD ho
 have ng:l≠h1.objs.size:=gi zH
 have qF:s.heap.objs.size∉[h1.objs.size,l]:=by
  simp only [ej,yt,or_false,not_or]
  exact ⟨gi Rn,FT Q4⟩
 have Xd:∀i,i<items.size->T i<s.heap.objs.size:=λi hi=>by
  obtain ⟨key,_,o',e1,_⟩:=hT i aD[i] (je (by omega))
  exact eD e1
 refine b9 ⟨Ey OA _,Lb (knd:=knd) ((So (by simp [hh]) h1.objs.size l ng items).toS) s.heap.objs.size qF aD hn nd hz T hI (λi hi=>?_) (items.size-0) 0 _ _ _ (by omega) (vF _) ⟨⟨_,j' _ rfl,rfl,rfl⟩,AJ.push _⟩ (Xf.push _) (λi q e=>?_) λs' hm D=>?_⟩
 .have Mv:=Xd i hi
  simp only [ej,yt,or_false,not_or]
  exact ⟨gi Mv,gi (CZ Mv Rn)⟩
 .obtain ⟨key,Mv,o',e1,e2⟩:=hT i q e
  exact ⟨key,Mv,o',ft _ (CI _ _ (ft _ e1)),e2⟩
 .obtain ⟨h',g',d',qC,Ib⟩:=s'
  have e1:g'=s.gens:=hm.gens
  have e2:d'=s.drawn:=hm.drawn
  have e3:Ib=s.os:=hm.os
  subst e1;subst e2;subst e3
  refine ⟨rfl,h h' qC (λb o hb=>hm.heap b o ?_ (ft _ (CI _ _ (ft _ hb)))) D⟩
  have BP:=eD hb
  simp only [ej,yt,or_false,not_or]
  exact ⟨gi BP,gi (CZ BP Rn)⟩
end
end DPr
namespace DL
open PySem PySem.Spec PyProof.Rows L2
noncomputable def j0(K:aJ)(H:Hp):List Addr->List Str->List V->Prop
 | [],[],[]=>True
 | t::T,k::ks,v::vs=>jP K H t [.str k,v]/\j0 K H T ks vs
 | _,_,_=>False
noncomputable def Ci:List D->Option (List Str×List D)
 | []=>some ([],[])
 | .tup [.str k,d]::r=>(Ci r).map λp=>(k::p.1,d::p.2)
 | _=>none
theorem b0T{K:aJ}{O:Addr->Prop}{H:Hp}:∀{ds:List D} {xs:List V} {ks:List Str} {es:List D},aO K O H xs ds->Ci ds=some (ks,es)->∃(T:List Addr) (vs:List V),xs=T.map V.ref/\j0 K H T ks vs/\aO K O H vs es
 | [],_,_,_,.nil,e=>by cases e;exact ⟨[],[],rfl,trivial,.nil⟩
 | d::ds,_,_,_,.cons h t,e=>by
  unfold Ci at e
  split at e
  .rename_i hh;cases hh
  .rename_i k d' r hh
   cases hh
   obtain ⟨⟨ks',tE⟩,e1,e2⟩:=map_some e
   cases e2
   obtain ⟨T,vs,rfl,h1,h2⟩:=b0T t e1
   obtain ⟨p,ys,rfl,h3,h4⟩:=EN h
   cases h4 with
   | cons a b=>cases b with
    | cons b c=>cases c with
     | nil =>
      obtain rfl:=pB a
      exact ⟨p::T,_::vs,rfl,⟨h3,h1⟩,.cons b h2⟩
  .cases e
section
variable {X:Cx}{pins:List (Addr×Obj)}{σ:L2.St}{H:Hp}{s:Shared}
theorem j0.len{K:aJ}:∀{T:List Addr} {ks:List Str} {vs:List V},j0 K H T ks vs->ks.length=vs.length/\T.length=vs.length
 | [],[],[],_=>⟨rfl,rfl⟩
 | _::T,_::ks,_::vs,h=>by
  obtain ⟨a,b⟩:=j0.len h.2
  exact ⟨by rw [ia,ia,a],by rw [ia,ia,b]⟩
 | [],[],_::_,h=>h.elim
 | [],_::_,_,h=>h.elim
 | _::_,[],_,h=>h.elim
 | _::_,_::_,[],h=>h.elim
theorem b0G(I:Inv X pins σ H s):∀{T:List Addr} {ks:List Str} {vs:List V},j0 X.K H T ks vs->∃us:List Value,us.length=vs.length/\KV ((ks.zip vs).map λq=>((.inr q.1:Key),q.2)) ((ks.zip us).map λq=>((.inr q.1:Key),q.2)) /\
  ∀(i:Nat) (q:Key×Value),((ks.zip us).map λq=>((.inr q.1:Key),q.2))[i]?=some q->∃key,(nV X.prog X.w).is q.1 key=true/\s.heap.IsTuple (T.getD i 0) #[key,q.2]
 | [],[],[],_=>⟨[],rfl,.nil,λi q e=>by simp at e⟩
 | t::T,k::ks,v::vs,h=>by
  obtain ⟨us,h1,h2,h3⟩:=b0G I h.2
  obtain ⟨aB,r,tp,_⟩:=I.tuple h.1
  cases r with
  | cons a b=>cases b with
   | cons b c=>cases c with
    | nil =>
     obtain ⟨tk,rfl⟩:=a
     rename_i u
     refine ⟨u::us,by rw [ia,ia,h1],.cons ⟨rfl,b⟩ h2,λi q e=>?_⟩
     cases i with
     | zero =>
      cases e
      exact ⟨.str k tk,a6A _ _ k tk,tp⟩
     | succ i=>exact h3 i q (by simpa using e)
 | [],[],_::_,h=>h.elim
 | [],_::_,_,h=>h.elim
 | _::_,[],_,h=>h.elim
 | _::_,_::_,[],h=>h.elim
theorem b0E:∀{T:List Addr} {us:List Value},aF (T.map V.ref) us->us=T.map dJ
 | [],_,.nil=>rfl
 | t::T,_,.cons h r=>by
  cases (show _=dJ t from h)
  rw [b0E r]
  rfl
theorem b1Z(hc:X.calm=true):de X (.type "dict") (λxs H Q=>∃l T ks vs,xs=[.ref l]/\iI X.K H l (T.map V.ref)/\j0 X.K H T ks vs/\ks.Nodup/\∀p o,H p=none->Q (.ref p) (upd H p (.jJ o (nK ks vs)))):=by
 intro pins s σ H xs us Q I r h
 obtain ⟨l,T,ks,vs,rfl,hq,ht,nd,q⟩:=h
 obtain ⟨u,rfl,ru⟩:=r.one
 cases ru
 obtain ⟨aB,vv,⟨o,n,ho,Ji,Rg,hd⟩,hz⟩:=I.list hq
 obtain rfl:=b0E vv
 obtain ⟨l1,l2⟩:=ht.len
 obtain ⟨us,hl,kv,hp⟩:=b0G I ht
 rw [cP] at hz
 have D3:((ks.zip us).map λq=>((.inr q.1:Key),q.2)).length=((T.map dJ).toArray).size:=by
  rw [cP,A7,gZ,cP];omega
 have ndk:(((ks.zip us).map λq=>((.inr q.1:Key),q.2)).map (·.1)).Nodup:=by
  rw [vD]
  have e:(ks.zip us).map ((·.1)∘λq=>((.inr q.1:Key),q.2))=ks.map yr:=by
   rw [<-List.map_fst_zip (l₁:=ks) (l₂:=us) (by omega),vD]
   rw [List.map_fst_zip (by omega)]
   rfl
  rw [e]
  exact List.Pairwise.map _ (λa b h z=>h (JS z)) nd
 refine DPr.vw (knd:=nV X.prog X.w) (I.ok.hd hc) ho Ji hd Rg _ D3 ndk (by rw [gZ,cP];exact hz) (λi=>T.getD i 0) (λi v e=>?_) hp λh' tk kp dd=>?_
 .rw [Ni,nj] at e
  obtain ⟨t,e1,rfl⟩:=map_some e
  rw [Nd,e1]
  rfl
 .obtain ⟨od,es,ep,hod,rest⟩:=id dd
  refine ⟨.ref s.heap.objs.size,_,I.laid (o:=.jJ od (nK ks vs)) (t':=tk) kp (cT _) ⟨hod,?_,beq_eq_false_iff_ne.mpr (l5 (gi I.big)),_,kv,dd⟩,rfl,q _ od (I.bE.fresh (cT _))⟩
  rw [cP,A7]
  omega
noncomputable def KJ(f:En->Option Sl):En->Option Sl:=λenv=>(f env).bind λr=>match r.d with
 | .lst _ ds=>(Ci ds).bind λp=>if p.1.Nodup then some (.sh (.dq p.1 p.2)) else none
 | _=>none
theorem b5e{a:Expr}{fa:En->Option Sl}{p pos:Pos}(hc:X.calm=true)(hg:Gl X "dict")(hm:X.mg "dict" = none)(ha:EV X a fa)(hs:starEach [a] X.env=[(false,eval a X.env)]:=by rfl):EV X (.Call (.Name "dict" p) [a] [] pos) (KJ fa):=by
 obtain ⟨t,pt,k⟩:=ha
 refine ⟨_,Dg (b1Z hc) hg hm (by decide +kernel) (lj pt nv hs) (by decide) (by decide) hs rfl,λO B σ H env s Q R e q=>?_⟩
 obtain ⟨r,e1,e2⟩:=bind_some e
 refine k O B σ H env r _ R e1 λv H1 s1 r1=>?_
 have hi:=r1.is λq=>R.oo
 cases hd:r.d with
 | lst b ds =>
  rw [hd] at hi e2
  obtain ⟨⟨ks,es⟩,e3,e4⟩:=bind_some (show (Ci ds).bind (λp=>if p.1.Nodup then some (Sl.sh (.dq p.1 p.2)) else none)=some s from e2)
  obtain ⟨nd,rfl⟩:=jg e4
  obtain ⟨l,xs,rfl,h2,h3⟩:=hi.seq (k:=true) rfl
  obtain ⟨T,vs,rfl,h4,h5⟩:=b0T h3 e3
  refine ⟨l,T,ks,vs,rfl,h2,h4,nd,λp o hp=>q _ _ (s1.trans (nW hp _)) ?_⟩
  exact Is.dq (λz=>(R.grow s1).oo z hp) lM h4.len.1 (h5.grow (nW hp _))
 | _=>rw [hd] at e2;cases e2
end
end DL
namespace DL
open PySem PySem.Spec PyProof.Rows L2
noncomputable abbrev JG(ks:List Str)(vs:List V):List (Key×V):=(ks.zip vs).map λq=>((.inr q.1:Key),q.2)
theorem UA:∀{ks:List Str} {vs:List V} {us:List (Key×Value)} {i:Nat} {k:Str} {v:V},KV (JG ks vs) us->ks[i]?=some k->vs[i]?=some v->∃u,us[i]?=some (.inr k,u)/\RelV v u
 | [],_,_,i,k,v,_,e,_=>by simp at e
 | _::_,[],_,i,k,v,_,_,e=>by simp at e
 | c::ks,x::vs,_,i,k,v,r,e1,e2=>by
  cases r with
  | cons h t =>
   rename_i b bs
   cases i with
   | zero =>
    simp at e1 e2
    subst e1 e2
    obtain ⟨h1,h2⟩:=h
    obtain ⟨b1,b2⟩:=b
    simp only at h1 h2
    subst h1
    exact ⟨b2,rfl,h2⟩
   | succ i =>
    obtain ⟨u,e3,e4⟩:=UA (i:=i) t (by simpa using e1) (by simpa using e2)
    exact ⟨u,by simpa using e3,e4⟩
theorem N7{X:Cx}{pins:List (Addr×Obj)}{σ:L2.St}{H:Hp}{s:Shared}{l:Addr}{o:Obj}{ks:List Str}{vs:List V}{ep:Nat}(I:Inv X pins σ H s)(e:H l=some (.jJ o (nK ks vs)))(D4:∃es,o.data=.dict es ep):∃us,KV (JG ks vs) us/\Heap.DictAt (nV X.prog X.w) s.heap l us ep:=by
 obtain ⟨ho,z,hd,us,rel,o',tE,MD,jA,r1,r2,r3⟩:=(show cM X.prog X.w H s.heap l (.jJ o (nK ks vs)) from I.bE l _ e)
 rw [ho] at jA
 cases jA
 obtain ⟨es,he⟩:=D4
 rw [he] at r2
 cases r2
 exact ⟨us,rel,o,_,ho,r1,he,r3⟩
noncomputable def Fd(l:Addr)(o:Obj)(ks:List Str)(vs:List V):It:=
 ⟨λi H=>H l=some (.jJ o (nK ks vs))/\i<ks.length,λi H v H'=>∃k,ks[i]?=some k/\v=.str k/\H'=H,λi H=>H l=some (.jJ o (nK ks vs))/\ks.length<=i⟩
noncomputable def Fc(l:Addr)(o:Obj)(ks:List Str)(vs:List V):It:=
 ⟨λi H=>H l=some (.jJ o (nK ks vs))/\i<ks.length,λi H v H'=>vs[i]?=some v/\H'=H,λi H=>H l=some (.jJ o (nK ks vs))/\ks.length<=i⟩
section
variable {P:Program}{w:World}{K:aJ}{tg:Expr}{it l:Addr}{o:Obj}{ks:List Str}{vs:List V}{ep:Nat}
theorem b7E{k:Str}{key:Value}(h:EJ (.inr k) key=true):∃t,key=.str k t:=by
 rcases Bm h with ⟨a,t,e1,e2⟩ | ⟨a,t,e1,e2⟩
 .cases e1
 .cases e1;exact ⟨t,e2⟩
theorem b6R(hl:ks.length=vs.length)(D4:∃es,o.data=.dict es ep):Turn P w K tg (Fd l o ks vs) [it] it (λi h=>h.IsKeyIter it l i ks.length ep) where
 mem:=by simp
 obj:=λi h ⟨ob,he,h1,h2⟩ c hc=>by
  have:c=it:=by simpa using hc
  subst this
  exact ⟨_,he,λv q=>by rw [h2] at q;cases q⟩
 keep:=λi h h' st k=>st.at λo e=>k it (by simp) o e
 item:=by
  intro X hP hw hK hc i pins s σ H E I hf he hg
  subst hP hw hK
  obtain ⟨mT,hi⟩:=hg
  obtain ⟨us,rel,da⟩:=N7 I mT D4
  have hlen:us.length=ks.length:=by rw [<-rel.length,cP,A7];omega
  obtain ⟨u,eu,ru⟩:=UA rel (je hi) (je (by omega:i<vs.length))
  obtain ⟨f0,f1,f2,f3,f4,f5⟩:=hf it (by simp)
  rw [<-hlen] at he
  refine wpAny_pyNext_dict_item he da eu λkey h' zI Jd sb=>?_
  obtain ⟨t,rfl⟩:=b7E zI
  obtain ⟨ob,eb,h1,h2⟩:=id Jd
  refine ⟨_,rfl,EG (s:={ s with heap:=h' }) eb h1 h2 (by decide) ⟨.str ks[i],H,I.turned (t':=s.toks) (it:=it) (λc o hc y=>(sb.2 c hc).trans y) f0 f1 f3 f4 f5,⟨_,rfl⟩,⟨_,je hi,rfl,rfl⟩,by rw [<-hlen];exact Jd,λc hc=>?_⟩⟩
  have:c=it:=by simpa using hc
  subst this
  exact f0
 done:=by
  intro X hP hw hK hc i pins s σ H E I hf he hg
  subst hP hw hK
  obtain ⟨mT,hi⟩:=hg
  obtain ⟨us,rel,da⟩:=N7 I mT D4
  have hlen:us.length=ks.length:=by rw [<-rel.length,cP,A7];omega
  obtain ⟨f0,f1,f2,f3,f4,f5⟩:=hf it (by simp)
  rw [<-hlen] at he
  exact wpAny_pyNext_dict_end (I.ok.hd hc) he da (EB (by omega)) λh' kp=>⟨rfl,I.turned (t':=s.toks) (it:=it) (λc o hc y=>kp c o hc y) f0 f1 f3 f4 f5⟩
 self:=λA i s Q E st h=>wpAny_pyIter_keyiter st h
theorem b6Q(hl:ks.length=vs.length)(D4:∃es,o.data=.dict es ep):Turn P w K tg (Fc l o ks vs) [it] it (λi h=>h.IsValIter it l i ks.length ep) where
 mem:=by simp
 obj:=λi h ⟨ob,he,h1,h2⟩ c hc=>by
  have:c=it:=by simpa using hc
  subst this
  exact ⟨_,he,λv q=>by rw [h2] at q;cases q⟩
 keep:=λi h h' st k=>st.at λo e=>k it (by simp) o e
 item:=by
  intro X hP hw hK hc i pins s σ H E I hf he hg
  subst hP hw hK
  obtain ⟨mT,hi⟩:=hg
  obtain ⟨us,rel,da⟩:=N7 I mT D4
  have hlen:us.length=ks.length:=by rw [<-rel.length,cP,A7];omega
  obtain ⟨u,eu,ru⟩:=UA rel (je hi) (je (by omega:i<vs.length))
  obtain ⟨f0,f1,f2,f3,f4,f5⟩:=hf it (by simp)
  rw [<-hlen] at he
  refine wpAny_pyNext_values_item he da eu λh' Jd sb=>?_
  obtain ⟨ob,eb,h1,h2⟩:=id Jd
  refine ⟨_,rfl,EG (s:={ s with heap:=h' }) eb h1 h2 (by decide) ⟨vs[i],H,I.turned (t':=s.toks) (it:=it) (λc o hc y=>(sb.2 c hc).trans y) f0 f1 f3 f4 f5,ru,⟨je _,rfl⟩,by rw [<-hlen];exact Jd,λc hc=>?_⟩⟩
  have:c=it:=by simpa using hc
  subst this
  exact f0
 done:=by
  intro X hP hw hK hc i pins s σ H E I hf he hg
  subst hP hw hK
  obtain ⟨mT,hi⟩:=hg
  obtain ⟨us,rel,da⟩:=N7 I mT D4
  have hlen:us.length=ks.length:=by rw [<-rel.length,cP,A7];omega
  obtain ⟨f0,f1,f2,f3,f4,f5⟩:=hf it (by simp)
  rw [<-hlen] at he
  exact wpAny_pyNext_values_end (I.ok.hd hc) he da (EB (by omega)) λh' kp=>⟨rfl,I.turned (t':=s.toks) (it:=it) (λc o hc y=>kp c o hc y) f0 f1 f3 f4 f5⟩
 self:=λA i s Q E st h=>wpAny_pyIter_valiter st h
end
section
variable {K:aJ}{O:Addr->Prop}{H:Hp}{l:Addr}{o:Obj}{ks:List Str}{vs:List V}{ds:List D}
theorem b4T{O':Addr->Prop}{H2:Hp}(kp:∀q u,H q=some u->¬O q->H2 q=some u/\¬O' q)(h:aO K O H vs ds):aO K O' H2 vs ds:=h.map (λq hq hn z=>by
  cases e:H q with
  | none=>exact hq e
  | some u=>exact (kp q u e hn).2 z) λq u e n=>(kp q u e n).1
theorem b6L(h1:H l=some (.jJ o (nK ks vs)))(n1:¬O l):EM K O (Fd l o ks vs) H (ks.map D.str):=λO' H2 kp hO i=>by
 have p1:=(kp l _ h1 n1).1
 refine ⟨λd hd=>?_,λhl=>⟨p1,by simpa using hl⟩⟩
 rw [nj] at hd
 obtain ⟨k,ek,rfl⟩:=map_some hd
 refine ⟨⟨p1,(ni.mp ek).1⟩,λv H3 hv=>?_⟩
 obtain ⟨k',e1,rfl,rfl⟩:=hv
 rw [ek] at e1
 cases e1
 exact ⟨aE.refl _,.str _⟩
theorem b6K(h1:H l=some (.jJ o (nK ks vs)))(n1:¬O l)(hl:ks.length=vs.length)(hs:aO K O H vs ds):EM K O (Fc l o ks vs) H ds:=λO' H2 kp hO i=>by
 have p1:=(kp l _ h1 n1).1
 have lX:=b4T kp hs
 refine ⟨λd hd=>?_,λh=>⟨p1,by rw [hl,hs.length];exact h⟩⟩
 refine ⟨⟨p1,by rw [hl,hs.length];exact (ni.mp hd).1⟩,λv H3 hv=>?_⟩
 obtain ⟨e1,rfl⟩:=hv
 obtain ⟨v',e2,h2⟩:=lX.get hd
 rw [e1] at e2
 cases e2
 exact ⟨aE.refl _,h2⟩
end
noncomputable def Wu(mk:Addr->Obj->List Str->List V->It)(t:TE):TI:=λσ H R=>t σ H λv H1=>∃p o ks vs,v=.ref p/\H1 p=some (.jJ o (nK ks vs))/\ks.length=vs.length/\R (mk p o ks vs) H1
section
variable {X:Cx}{tg e:Expr}{te:TE}{elts:List Expr}{kk:Nat}{tp p2 au:Pos}{fa:En->Option Sl}
theorem YO{pins:List (Addr×Obj)}{σ:L2.St}{H:Hp}{s:Shared}{p:Addr}{o:Obj}{ks:List Str}{vs:List V}(I:Inv X pins σ H s)(hl:H p=some (.jJ o (nK ks vs)))(hk:ks.length=vs.length):
  ∃us es ep,s.heap.get? p=some o/\o.data=.dict es ep/\(p==sysModules)=false/\us.length=ks.length/\Heap.DictAt (nV X.prog X.w) s.heap p us ep/\Heap.DictOf (nV X.prog X.w) s.heap p us:=by
 obtain ⟨ho,z,AL,us,rel,dd⟩:=(show cM X.prog X.w H s.heap p (.jJ o (nK ks vs)) from I.bE p _ hl)
 obtain ⟨o',es,ep,jA,r1,r2,r3⟩:=id dd
 rw [ho] at jA
 cases jA
 exact ⟨us,es,ep,ho,r2,AL,by rw [<-rel.length,cP,A7];omega,⟨o,es,ho,r1,r2,r3⟩,dd⟩
theorem HV(he:PE X e te):PI X tg e (Wu Fd te):=by
 intro pins s σ H R I h
 refine cn (he pins s σ H _ I h) λu s1 ⟨v,H1,I1,rv,p,o,ks,vs,ev,hl,hk,hR⟩=>?_
 subst ev
 obtain rfl:u=dJ p:=rv
 obtain ⟨us,es,ep,ho,hd,IL,hlen,da,dd⟩:=YO I1 hl hk
 refine wpAny_pyIter_dict IL da ⟨_,_,_,_,H1,rfl,I1.kept (t':=s1.toks) (λb ob e=>ft _ e),b6R (ep:=ep) hk ⟨es,hd⟩,⟨_,j' _ rfl,rfl,by rw [hlen];rfl⟩,λc hc=>?_,hR⟩
 have:c=s1.heap.objs.size:=by simpa using hc
 subst this
 exact I1.qf (cT _) (I1.bE.fresh (cT _))
theorem HU(he:PE X e te)(bA:attributeBase e "values" X.env (eval e X.env)=eval e X.env:=by rfl)
  (gF:((backTo au (starEach [] X.env)).all (λx=>!x.1)&&(backToKw au (keywordEach [] X.env)).all (λx=>x.1.isSome)
   && decide (([]:List Expr).length+([]:List Keyword).length+(if ([]:List Keyword).isEmpty then 0 else 1)<30))=true:=by rfl)
  (bz:(p2.endLine==au.line)=true:=by rfl)(QX:backTo au (starEach [] X.env)=[]:=by rfl):PI X tg (.Call (.Attribute e "values" p2) [] [] au) (Wu Fc te):=by
 intro pins s σ H R I h
 refine wpAny_Call_method bA gF bz PySem.F.plainAttrs_dict Yh PySem.F.type_dict_values (cn (he pins s σ H _ I h) λu s1 ⟨v,H1,I1,rv,p,o,ks,vs,ev,hl,hk,hR⟩=>?_)
 subst ev
 obtain rfl:u=dJ p:=rv
 obtain ⟨t1,t2,t3⟩:=c0u I1 (.inl ⟨_,.inr ⟨_,hl⟩⟩)
 refine ⟨t1,t2,?_⟩
 rw [QX]
 refine Tf rfl (evalArgs_empty ?_)
 obtain ⟨us,es,ep,ho,hd,IL,hlen,da,dd⟩:=YO I1 hl hk
 refine call_meetsIn Yh t1 PySem.F.entry_dict_values (PySem.F.args_dict_values_1 _) (meets_dict_values (nV X.prog X.w) p t3) ⟨⟨us,dd⟩,?_⟩
 have CI:∀b ob,s1.heap.get? b=some ob->(s1.heap.push { cls:=.type "dict_values",data:=.fields #[.ref p] }).get? b=some ob:=λb ob e=>ft _ e
 have hz:(s1.heap.push { cls:=.type "dict_values",data:=.fields #[.ref p] }).objs.size=s1.heap.objs.size+1:=pf ..
 refine wpAny_pyIter_values (s:={ s1 with heap:=s1.heap.push { cls:=.type "dict_values",data:=.fields #[.ref p] } }) (v:=s1.heap.objs.size) (knd:=nV X.prog X.w) ⟨_,j' _ rfl,rfl,rfl⟩ (da.at' λo e=>CI _ _ e) ⟨_,_,_,_,H1,rfl,I1.kept (t':=s1.toks) (λb ob e=>ft _ (CI b ob e)),b6Q (ep:=ep) hk ⟨es,hd⟩,⟨_,j' _ rfl,rfl,by rw [hlen];rfl⟩,λc hc=>?_,hR⟩
 have:c=s1.heap.objs.size+1:=by
  have:c=(s1.heap.push { cls:=.type "dict_values",data:=.fields #[.ref p] }).objs.size:=by simpa using hc
  rw [this,hz]
 subst this
 exact I1.qf (by omega) (I1.bE.fresh (by omega))
noncomputable def MA(f:En->Option Sl):En->Option (List D):=λenv=>(f env).bind λr=>match r.d with
 | .dq ks _=>some (ks.map D.str)
 | _=>none
noncomputable def Mz(f:En->Option Sl):En->Option (List D):=λenv=>(f env).bind λr=>match r.d with
 | .dq _ ds=>some ds
 | _=>none
theorem IC(ha:EV X e fa):IV X tg e (MA fa):=by
 obtain ⟨t,pt,k⟩:=ha
 refine ⟨_,HV pt,λO B σ H env ds R Rl e q=>?_⟩
 obtain ⟨r,e1,e2⟩:=bind_some e
 refine k O B σ H env r _ Rl e1 λv H1 s1 r1=>?_
 have hi:=r1.is λq=>Rl.oo
 cases hd:r.d with
 | dq ks es =>
  rw [hd] at hi e2
  cases e2
  cases hi with
  | dq ho hp hl hs=>exact ⟨_,_,_,_,rfl,hp,hl,q _ H1 s1 (b6L hp ho)⟩
 | _=>rw [hd] at e2;cases e2
theorem IB(ha:EV X e fa)(bA:attributeBase e "values" X.env (eval e X.env)=eval e X.env:=by rfl)
  (gF:((backTo au (starEach [] X.env)).all (λx=>!x.1)&&(backToKw au (keywordEach [] X.env)).all (λx=>x.1.isSome)
   && decide (([]:List Expr).length+([]:List Keyword).length+(if ([]:List Keyword).isEmpty then 0 else 1)<30))=true:=by rfl)
  (bz:(p2.endLine==au.line)=true:=by rfl)(QX:backTo au (starEach [] X.env)=[]:=by rfl):IV X tg (.Call (.Attribute e "values" p2) [] [] au) (Mz fa):=by
 obtain ⟨t,pt,k⟩:=ha
 refine ⟨_,HU pt bA gF bz QX,λO B σ H env ds R Rl e q=>?_⟩
 obtain ⟨r,e1,e2⟩:=bind_some e
 refine k O B σ H env r _ Rl e1 λv H1 s1 r1=>?_
 have hi:=r1.is λq=>Rl.oo
 cases hd:r.d with
 | dq ks es =>
  rw [hd] at hi e2
  cases e2
  cases hi with
  | dq ho hp hl hs=>exact ⟨_,_,_,_,rfl,hp,hl,q _ H1 s1 (b6K hp ho hl hs)⟩
 | _=>rw [hd] at e2;cases e2
end
end DL
namespace DL
open PySem PySem.Spec PyProof.Rows L2
noncomputable def Ks(neg:Bool)(fk:En->Option Sl)(i:Nat):En->Option Sl:=λenv=>(C6 (fk env)).bind λk=>match env[i]? with
 | some (.tw ks ds)=>some (.sh (.bl (neg != (jf ks ds k).isSome)))
 | _=>none
section
variable {X:Cx}{N:List Str}{sc:Scope}{k:Nat}{full:Bool}{a:Expr}{fa:En->Option Sl}{pos p:Pos}{i:Nat}{x:Str}
theorem b6P{neg:Bool}{op:CmpOp}{td:TE->TE->TE}(hc:∀ta tb,PE X a ta->PE X (.Name x p) tb->PC X op a (.Name x p) (td ta tb))(hr:∀ta tb σ H Q,td ta tb σ H Q=(ta σ H λy H1=>tb σ H1 λx H2=>∃p o,x=.ref p/\j5 H2 p y o/\Q (.bl (neg != o.isSome)) H2))(ha:EV X a fa)
  (hN:X.N[i]?=some x)(hv:ib X.env.scope x)(hd:(x==("__debug__":Str))=false)(cE:(x==("__classdict__":Str))=false)(hm:behindInMarks op (.Name x p)=false):TV X (.Compare a [op] [.Name x p] pos) (cR (Ks neg fa i)):=by
 obtain ⟨ta,pa,ka⟩:=ha
 refine ⟨_,Zg (hc ta _ pa (pN hN hv hd cE)) hm,λO B σ H env c Q R e q=>?_⟩
 have e:=EU e
 obtain ⟨n,e1,e⟩:=bind_some e
 show td ta _ σ H _
 rw [hr]
 refine ka O B σ H env _ _ R (K6 e1) λvk H1 s1 r1=>?_
 have h2:vk=.str n:=pB r1
 subst h2
 split at e
 .rename_i ks ds he
  cases e
  obtain ⟨pp,vs,f1,f2,f3,f4,f5⟩:=R.tw i ks ds he
  refine ⟨_,f1,pp,_,rfl,.inl ⟨_,.inr n,.inl (s1 _ _ f3),rfl,rfl⟩,_,?_,q _ s1⟩
  rw [Gv]
  rcases Gs (y:=n) f5 with ⟨z1,z2⟩ | ⟨v,d',z1,z2,z3⟩<;>rw [z1,z2]<;>rfl
 .cases e
theorem Fx.Hc(h:Fx X N sc k full)(i:Nat){x:Str}(ha:EV X a fa)(hN:N[i]?=some x:=by rfl)(hv:ib sc x:=by first | exact cZ rfl | exact cj (cZ rfl) | exact cj (cj rfl))(hd:(x==("__debug__":Str))=false:=by rfl)(cE:(x==("__classdict__":Str))=false:=by rfl)(hm:behindInMarks .NotIn (.Name x p)=false:=by rfl):TV X (.Compare a [.NotIn] [.Name x p] pos) (cR (Ks true fa i)):=
 b6P (neg:=true) (td:=K0) (λta tb pa pb=>a8H (Ko h.room) pa pb) (λta tb σ H Q=>by unfold K0;simp only [Bool.true_bne]) ha (h.ix hN) (h.pT hv) hd cE hm
end
theorem b8G{i:Nat}{env:En}{Q:D×En->Prop}:Wo (ur i env) Q↔cC env[i]? λds=>Wo ds[ds.length-1]? λd=>Q (d,env.set i (.ow ds.dropLast)):=by
 unfold ur
 cases h:env[i]? with
 | none=>simp [cC,Wo_none]
 | some s=>cases s<;>simp [cC,Wo_none,a1z]
section
variable {env:En}
theorem a9u{i:Nat}{fs:En->Option (List D)}{Q:List D×En->Prop}:Wo (Gn i fs env) Q↔Wo (ur i env) λp=>Wo (fs p.2) λrs=>Q (p.1::rs,p.2):=by
 unfold Gn;rw [a0n];exact jR λp=>a1z
theorem b39{f:En->Option Sl}{g:En->Option (List D×En)}{Q:List D×En->Prop}:Wo (NJ f g env) Q↔Wo (f env) λr=>Wo (g env) λp=>Q (r.d::p.1,p.2):=by
 unfold NJ;rw [a0n];exact jR λp=>a1z
theorem ER{α:Type}{c:Prop}[Decidable c]{x:Option α}{Q:α->Prop}:Wo (if c then x else none) Q↔c/\Wo x Q:=by
 by_cases h:c
 .rw [if_pos h];exact ⟨λz=>⟨h,z⟩,λz=>z.2⟩
 .rw [if_neg h];exact ⟨λz=>(Wo_none.mp z).elim,λz=>(h z.1).elim⟩
theorem b5N{g:En->Option (List D×En)}{Q:D×En->Prop}:Wo (Ny g env) Q↔Wo (g env) λp=>p.1.length<=16777216/\Q (.tup p.1,p.2):=by
 unfold Ny;rw [a0n];exact jR λp=>by rw [ER,a0c]
theorem b37{n:Nat}{φ:List D->Option Sl}{g:En->Option (List D×En)}{Q:D×En->Prop}:Wo (KL n φ g env) Q↔Wo (g env) λp=>p.1.length=n/\Wo (φ p.1) λr=>Q (r.d,p.2):=by
 unfold KL;rw [a0n];exact jR λp=>by rw [ER,a1z]
theorem b1m{i:Nat}{g:En->Option (D×En)}{Q:Fl×En->Prop}:Wo (EH i g env) Q↔cC env[i]? λ_=>Wo (g env) λp=>cC p.2[i]? λds=>ds.length<16777216/\Q (.nx,p.2.set i (.ow (ds++[p.1]))):=by
 unfold EH
 cases h:env[i]? with
 | none=>simp [cC,Wo_none]
 | some s =>
  cases s with
  | ow ds =>
   simp only [cC]
   rw [a0n]
   refine jR λp=>?_
   cases h2:p.2[i]? with
   | none=>simp [Wo_none]
   | some s2=>cases s2<;>simp [Wo_none,ER,a0c]
  | _=>simp [cC,Wo_none]
theorem b1n{f:En->Option Sl}{Q:Sl->Prop}:Wo (C7 f env) Q↔Wo (f env) λr=>Wo (qP r.d) λy=>Q (.sh (.str y)):=by
 unfold C7;rw [a0n];exact jR λp=>a1z
theorem c1s{fo:En->Option Sl}{fe:En->Option (Bool×List D)}{Q:Sl->Prop}:Wo (AQ fo fe env) Q↔Wo (nC (fo env)) λz=>Wo (fe env) λx=>x.1=true/\Wo (t8 x.2) λls=>(nU z ls<=16777216/\(la z ls).length<=16777216)/\Q (.sh (.str (la z ls))):=by
 unfold AQ
 rw [a0n]
 refine jR λz=>?_
 rw [a0n]
 refine jR λx=>?_
 rw [ER,a0n]
 refine and_congr_right λ_=>jR λls=>?_
 rw [ER,a0c]
theorem b8C{i:Nat}{Q:Fl×En->Prop}:Wo (uq i env) Q↔cC env[i]? λds=>Q (.nx,env.set i (.ow ds.reverse)):=by
 unfold uq
 cases h:env[i]? with
 | none=>simp [cC,Wo_none]
 | some s=>cases s<;>simp [cC,Wo_none,a0c]
def QD(d:D)(Q:Sl->Prop):Prop:=match d with
 | .lst _ ds=>Wo (t8 ds) λss=>ss.length+1<4096/\Q (.sh (.int (SE.oa SE.oY ss).length))
 | _=>False
theorem lsQ_l{r:Bool}{ds:List D}{Q:Sl->Prop}:QD (.lst r ds) Q↔Wo (t8 ds) λss=>ss.length+1<4096/\Q (.sh (.int (SE.oa SE.oY ss).length)):=ju
theorem b14{f:En->Option Sl}{Q:Sl->Prop}:Wo (NY f env) Q↔Wo (f env) λr=>QD r.d Q:=by
 unfold NY
 rw [a0n]
 refine jR λr=>?_
 cases r.d<;>simp [QD,Wo_none,a0n,ER,a0c]
def RK(d:D)(Q:Sl->Prop):Prop:=match d with
 | .lst _ ds=>Wo (Ci ds) λp=>p.1.Nodup/\Q (.sh (.dq p.1 p.2))
 | _=>False
theorem dpQ_l{r:Bool}{ds:List D}{Q:Sl->Prop}:RK (.lst r ds) Q↔Wo (Ci ds) λp=>p.1.Nodup/\Q (.sh (.dq p.1 p.2)):=ju
theorem a9t{f:En->Option Sl}{Q:Sl->Prop}:Wo (KJ f env) Q↔Wo (f env) λr=>RK r.d Q:=by
 unfold KJ
 rw [a0n]
 refine jR λr=>?_
 cases r.d<;>simp [RK,Wo_none,a0n,ER,a0c]
theorem b5O{neg:Bool}{fk:En->Option Sl}{i:Nat}{ks:List Str}{ds:List D}{Q:Sl->Prop}(he:env[i]?=some (.tw ks ds)):Wo (Ks neg fk i env) Q↔Wo (fk env) λs=>∃k,s=.sh (.str k)/\Q (.sh (.bl (neg != (jf ks ds k).isSome))):=by
 unfold Ks
 rw [a0n,NT,he]
 refine jR λs=>exists_congr λk=>and_congr_right λ_=>?_
 rw [a0c]
theorem JD{f:En->Option Sl}{ks:List Str}{ds:List D}(h:f env=some (.sh (.dq ks ds))):MA f env=some (ks.map D.str):=by unfold MA;rw [h];rfl
theorem JC{f:En->Option Sl}{ks:List Str}{ds:List D}(h:f env=some (.sh (.dq ks ds))):Mz f env=some ds:=by unfold Mz;rw [h];rfl
end
end DL
namespace DL
open PySem PySem.Spec PyProof.Rows L2
section
variable {X:Cx}
theorem b9Z{a:Expr}{t:TE}{pos:Pos}(h:PE X a t):PE X (.FormattedValue a (-1) none pos) (λσ H Q=>t σ H λx H1=>∃i,x=.int i/\i.natAbs.log2<1920/\Q (.str (toString i)) H1):=by
 intro pins s σ H Q I hw
 refine FormattedValue_plain (cn (h pins s σ H _ I hw) λv s1 ⟨x,H1,I1,r1,q1⟩=>?_)
 obtain ⟨i,rfl,hz,q⟩:=q1
 obtain ⟨u,rfl⟩:=r1
 exact wpAny_formatField_int hz ⟨.str _,H1,I1.tok _,⟨_,rfl⟩,q⟩
noncomputable def mZ(fa:En->Option Sl):En->Option Sl:=λenv=>(fa env).bind λr=>match r with
 | .sh (.int i)=>if i.natAbs.log2<1920 then some (.sh (.str (toString i))) else none
 | _=>none
theorem Zk{a:Expr}{fa:En->Option Sl}{pos:Pos}(h:EV X a fa):EV X (.FormattedValue a (-1) none pos) (mZ fa):=by
 obtain ⟨t,pt,k⟩:=h
 refine ⟨_,b9Z pt,λO B σ H env s Q R e q=>?_⟩
 obtain ⟨r,e1,e2⟩:=bind_some e
 split at e2
 .obtain ⟨hz,rfl⟩:=jg e2
  refine k O B σ H env _ _ R e1 λv H1 s1 r1=>?_
  obtain rfl:=pA r1
  exact ⟨_,rfl,hz,q _ H1 s1 (Is.str _)⟩
 .cases e2
end
end DL
namespace DL
open PySem PySem.Spec PyProof.Rows L2 PySem.SeqAt
section
variable {X:Cx}{pins:List (Addr×Obj)}{s:Shared}{σ:L2.St}{H:Hp}
theorem b98{b:Bool}{A:Around}{l:Addr}{items:Array Value}{x:Value}{E:Value->Shared->Prop}{Q:Value->Shared->Prop}{prog:Program}{w:World}(e:Value->Bool)(hl:CC b s.heap l items)(he:∀y,y∈items->EqAt A.in1 s y x (e y))
  (h:Q (.bool (!items.any e)) s):wpAny (model prog w) A (compareOp .NotIn x (.ref l)) Q E s:=by
 cases b with
 | true=>exact notIn_listAt e hl he h
 | false=>exact notIn_tupleAt e hl he h
noncomputable def BW:D->D->Option Sl:=λa d=>(jj d).bind λx=>(inD a x.2).map λk=>.sh (.bl (!k))
theorem b94(hu:X.A.units+8<cLine):n5 X (compareOp .NotIn) BW:=by
 refine ⟨λx y H Q=>∃O p k xs a ds bs,y=.ref p/\Sq X.K H k p xs/\aO X.K O H xs ds/\Is X.K O H x a/\jZ (ds.map λd=>bO 7 d a)=some bs/\Q (.bl (!bs.any id)) H,?_,λO H x y a b s Q hO hx hy e q=>?_⟩
 .intro pins s σ H x y v u Q I rx ry h
  obtain ⟨O,p,k,xs,a,ds,bs,rfl,hq,hs,ha,hb,q⟩:=h
  cases ry
  obtain ⟨aB,rv,hl⟩:=Kw I hq
  obtain ⟨l1,g1⟩:=ET hb
  have hlen:aB.length=bs.length:=by rw [<-rv.length,hs.length,<-l1,cP]
  have at_:∀(j:Nat) (y:Value) (b:Bool),aB[j]?=some y->bs[j]?=some b->EqAt X.A.in1 s y v b:=λj y b h1 h2=>by
   have h3:=g1 j b h2
   rw [nj] at h3
   cases hd:ds[j]? with
   | none=>rw [hd] at h3;cases h3
   | some d =>
    rw [hd] at h3
    have h4:bO 7 d a=some b:=gY h3
    obtain ⟨z,hz,iz⟩:=hs.get hd
    obtain ⟨y',zE,rz⟩:=rv.get hz
    rw [h1] at zE;cases zE
    exact (NQ I 7 (A:=X.A.in1) (by show X.A.units+1+7<cLine;omega) iz ha rz rx h4).1
  classical
  have e1:aB.toArray.any (λy=>decide (∃j:Nat,aB[j]?=some y/\bs[j]?=some true))=bs.any id:=by
   rw [JW]
   simp only [List.any_toArray,MZ,decide_eq_true_eq,id]
   constructor
   .rintro ⟨y,hy,j,h1,h2⟩
    exact ⟨true,Nr h2,rfl⟩
   .rintro ⟨b,hb,rfl⟩
    obtain ⟨j,hj⟩:=Nj.mp hb
    have zJ:j<aB.length:=by rw [hlen];exact (ni.mp hj).1
    exact ⟨aB[j],pL zJ,j,je zJ,hj⟩
  refine b98 (λy=>decide (∃j:Nat,aB[j]?=some y/\bs[j]?=some true)) hl (λy hy=>?_) ?_
  .by_cases ht:∃j:Nat,aB[j]?=some y/\bs[j]?=some true
   .rw [decide_eq_true ht]
    obtain ⟨j,h1,h2⟩:=ht
    exact at_ j y true h1 h2
   .rw [decide_eq_false ht]
    obtain ⟨j,hj⟩:=Nj.mp (List.mem_toArray.mp hy)
    have zJ:j<bs.length:=by rw [<-hlen];exact (ni.mp hj).1
    refine at_ j y false hj ?_
    rw [je zJ]
    cases Mu:bs[j] with
    | false=>rfl
    | true=>exact absurd ⟨j,hj,by rw [je zJ,Mu]⟩ ht
  .rw [e1]
   exact ⟨.bl (!bs.any id),H,I,rfl,q⟩
 .obtain ⟨⟨k,ds⟩,e1,e2⟩:=bind_some e
  obtain ⟨b1,e3,rfl⟩:=map_some e2
  obtain ⟨bs,e4,rfl⟩:=map_some e3
  obtain ⟨p,xs,rfl,hq,hs⟩:=hy.seq e1
  exact ⟨O,p,k,xs,a,ds,bs,rfl,hq,hs,hx,e4,q _ H (aE.refl _) (Is.bl _)⟩
end
end DL
namespace DL
open PySem PySem.Spec PyProof.Rows L2
noncomputable def Fg:List D->List D->Bool
 | [],_::_=>true
 | _::_,[]=>true
 | .tup (.str _::_)::_,.tup (.int _::_)::_=>true
 | _,_=>false
mutual
noncomputable def y3(d0:List D):D->Bool
 | .tup ds=>dN d0 ds
 | .lst _ ds=>Fg d0 ds&&dN d0 ds
 | .exc _=>true
 | .j9 _ _=>true
 | .obj _ _ ds=>dN d0 ds
 | .ic _ ds=>dN d0 ds
 | .dq _ ds=>dN d0 ds
 | .cD=>true
 | .bl _=>true
 | .int _=>true
 | .str _=>true
noncomputable def dN(d0:List D):List D->Bool
 | []=>true
 | d::r=>y3 d0 d&&dN d0 r
end
def LZ(K:aJ)(H:Hp):Prop:=∀p xs ys,jP K H p xs->jP K H p ys->∃aB:List Value,aF xs aB/\aF ys aB
theorem c00{X:Cx}{pins:List (Addr×Obj)}{s:Shared}{σ:L2.St}{H:Hp}(I:Inv X pins σ H s):LZ X.K H:=λp xs ys h1 h2=>by
 obtain ⟨a,ra,ha⟩:=Kw (b:=false) I h1
 obtain ⟨b,rb,hb⟩:=Kw (b:=false) I h2
 obtain ⟨o,e1,_,n,e2⟩:=ha
 obtain ⟨o',e3,_,n',e4⟩:=hb
 rw [e1] at e3
 cases e3
 rw [e2] at e4
 have:a=b:=by
  injection e4 with h _
  simpa using h
 subst this
 exact ⟨a,ra,rb⟩
section
variable {K:aJ}{O O' O1 O2 L:Addr->Prop}{H:Hp}{d0:List D}
theorem Zo(c:LZ K H):∀{d0 es:List D} {ys:List V},Fg d0 es=true->aO K O1 H ys d0->aO K O2 H ys es->False
 | [],_::_,_,_,.nil,h=>nomatch h
 | _::_,[],_,_,h,.nil=>nomatch h
 | .tup (.str _::_)::_,.tup (.int _::_)::_,_,_,.cons h _,.cons h' _=>by
  obtain ⟨p,xs,rfl,q1,s1⟩:=EN h
  obtain ⟨p',m9,e,q2,s2⟩:=EN h'
  cases e
  obtain ⟨aB,r1,r2⟩:=c p xs m9 q1 q2
  cases s1 with
  | cons a _ =>
   cases s2 with
   | cons b _ =>
    cases a
    cases b
    cases r1 with
    | cons u _ =>
     cases r2 with
     | cons u' _ =>
      obtain ⟨t,rfl⟩:=u
      obtain ⟨t',e⟩:=u'
      cases e
mutual
theorem c0s(c:LZ K H)(hL:∀q,L q->∃ys,H q=some (.lst ys)/\aO K O2 H ys d0)(hO:∀q,O q->O' q\/L q):∀{v:V} {d:D},Is K O' H v d->y3 d0 d=true->Is K O H v d
 | _,_,.cD,_=>.cD
 | _,_,.bl b,_=>.bl b
 | _,_,.int i,_=>.int i
 | _,_,.str x,_=>.str x
 | _,_,.tup ho h1 hs,f=>.tup (λz=>(hO _ z).elim ho (Zr (λz=>let ⟨ys,e,_⟩:=hL _ z;⟨ys,e⟩) h1)) h1 (Bh c hL hO hs f)
 | _,_,.lO h1 hs,f=>.lO h1 (Bh c hL hO hs f)
 | _,_,.lst ho h1 hs,f=>by
  have f':(Fg d0 _&&dN d0 _)=true:=f
  rw [tV] at f'
  refine .lst (λz=>(hO _ z).elim ho λz=>?_) h1 (Bh c hL hO hs f'.2)
  obtain ⟨ys,e,i⟩:=hL _ z
  rw [h1] at e
  cases e
  exact Zo c f'.1 i hs
 | _,_,.nE ho h1 hs,f=>by
  have f':(Fg d0 _&&dN d0 _)=true:=f
  rw [tV] at f'
  refine .nE (λz=>(hO _ z).elim ho λz=>?_) h1 (Bh c hL hO hs f'.2)
  obtain ⟨ys,e,i⟩:=hL _ z
  rcases h1 with h1 | ⟨o,h1⟩
  .rw [h1] at e
   cases e
   exact Zo c f'.1 i hs
  .rw [h1] at e
   cases e
 | _,_,.nF h1 hs,f=>by
  have f':(Fg d0 _&&dN d0 _)=true:=f
  rw [tV] at f'
  exact .nF h1 (Bh c hL hO hs f'.2)
 | _,_,.exc ho hn hp,f=>.exc (λz=>(hO _ z).elim ho λz=>let ⟨ys,e,_⟩:=hL _ z;by rw [hp] at e;cases e) hn hp
 | _,_,.j9 ho hp,f=>.j9 (λz=>(hO _ z).elim ho λz=>let ⟨ys,e,_⟩:=hL _ z;by rw [hp] at e;cases e) hp
 | _,_,.rL ho hp,f=>.rL (λz=>(hO _ z).elim ho λz=>let ⟨ys,e,_⟩:=hL _ z;by rw [hp] at e;cases e) hp
 | _,_,.obj ho hn hp hl hs,f=>.obj (λz=>(hO _ z).elim ho λz=>let ⟨ys,e,_⟩:=hL _ z;by rw [hp] at e;cases e) hn hp hl (Bh c hL hO hs f)
 | _,_,.ic ho hp hl hs,f=>.ic (λz=>(hO _ z).elim ho λz=>let ⟨ys,e,_⟩:=hL _ z;by rw [hp] at e;cases e) hp hl (Bh c hL hO hs f)
 | _,_,.dq ho hp hl hs,f=>.dq (λz=>(hO _ z).elim ho λz=>let ⟨ys,e,_⟩:=hL _ z;by rw [hp] at e;cases e) hp hl (Bh c hL hO hs f)
theorem Bh(c:LZ K H)(hL:∀q,L q->∃ys,H q=some (.lst ys)/\aO K O2 H ys d0)(hO:∀q,O q->O' q\/L q):∀{v:List V} {d:List D},aO K O' H v d->dN d0 d=true->aO K O H v d
 | _,_,.nil,_=>.nil
 | _,_,.cons h t,f=>by
  have f':(y3 d0 _&&dN d0 _)=true:=f
  rw [tV] at f'
  exact .cons (c0s c hL hO h f'.1) (Bh c hL hO t f'.2)
end
end
def LX(K:aJ)(O:Addr->Prop)(B:Hp)(σ:L2.St)(H:Hp)(env:En)(D:Ends)(af:En)(j:Nat):Prop:=∀aK H' p xs es,Rel K O B aK H' af->aK[0]?=σ[0]?->aE H H'->LZ K H'->aK[j]?=some (some (V.ref p))->H p=none->H' p=some (.lst xs)->af[j]?=some (.sh (.lst false es))->aO K (λq=>OO O σ env q\/q=p) H' xs es->D.nx aK H'
def SVL(X:Cx)(st:Stmt)(j:Nat)(F:SF):Prop:=
 ∃t:TS,PS X st t/\∀(O:Addr->Prop) (B:Hp) (σ:L2.St) (H:Hp) (env:En) (af:En) (D:Ends),Rel X.K O B σ H env->F env=some (.nx,af)->LX X.K O B σ H env D af j->t D σ H
theorem b5r{fi:En->Option (List D)}{caps:List Nat}{nt:Nat}{g:GF}{fc:En->Option Bool}{fe:En->Option Sl}{env:En}{r:Sl}(e:g7 fi caps nt g fc fe env=some r):∃es,r=.ow es:=by
 obtain ⟨ds,_,e2⟩:=bind_some e
 obtain ⟨cs,_,e3⟩:=bind_some e2
 obtain ⟨_,e4⟩:=Cc e3
 obtain ⟨ys,_,rfl⟩:=map_some e4
 exact ⟨ys,rfl⟩
section
variable {X:Cx}{N N':List Str}{sc dH:Scope}{k:Nat}{full:Bool}{elt iter tg:Expr}{ifs:List Expr}{pos:Pos}{fi:En->Option (List D)}{caps:List Nat}{nt:Nat}{g:GF}{fc:En->Option Bool}{fe:En->Option Sl}
theorem b66{i:Nat}{x:Str}{pos' y7:Pos}(h:Fx X N sc k full)(C:eW N sc N' caps nt dH)(hi:IV X tg iter fi)
  (hb:∀X':Cx,X'.prog=X.prog->X'.w=X.w->X'.K=X.K->X'.mg=X.mg->X'.base=X.base->Fx X' N' (rl dH sc) k false->GV X' tg g/\G2 X' ifs fc/\EV X' elt fe)
  (Mr:i≠0:=by decide)(hN:N[i]?=some x:=by rfl)(hv:Loc sc x:=by first | exact cZ rfl | exact cj rfl)(hf:full=true\/sc.names.lookup x=some .local:=by first | exact cZ rfl | exact cj rfl)(h1:(sc.names.lookup x==some .local)=true:=by rfl)(h2:(pos'.line==pos.line)=true:=by rfl)(h3:(dH.names.any λ(n,k)=>n==x&&(k==.local||k==.cell))=false:=by rfl)
  (AK:∀x,foldedSetIterable iter X.env x=pure x:=by intro _;rfl):SVL X (.Assign [.Name x pos'] (.ListComp elt [⟨tg,iter,ifs,0⟩] dH pos) y7) i (gU i (g7 fi caps nt g fc fe)):=by
 obtain ⟨wi,pi,ki⟩:=hi
 refine ⟨λD σ H=>∃O B env af,Rel X.K O B σ H env/\gU i (g7 fi caps nt g fc fe) env=some (.nx,af)/\LX X.K O B σ H env D af i,?_,λO B σ H env af D R e q=>⟨O,B,env,af,R,e,q⟩⟩
 rintro pins s σ H D I ⟨O,B,env,af,R,e,q⟩
 obtain ⟨r,e1,e2⟩:=bind_some e
 obtain ⟨hl,e3⟩:=jg e2
 cases e3
 obtain ⟨es,rfl⟩:=b5r e1
 have hs:swapsWith (.ListComp elt [⟨tg,iter,ifs,0⟩] dH pos) (some (.Name x pos')) y7.line X.env=pure true:=by
  have hk:X.env.blockKind=.function:=by unfold Env.blockKind;rw [I.ok.kind];rfl
  have Q7:X.env.kindOf x=sc.names.lookup x:=by unfold JO;rw [h.sc]
  unfold swapsWith
  dsimp only
  rw [hk,Q7,h1,show (pos'.line==(Expr.ListComp elt [⟨tg,iter,ifs,0⟩] dH pos).pos.line)=true from h2,h3]
  rfl
 rw [exec_Assign_Name_used _ _ _ _ hs]
 refine aI (MR (aI ?_))
 show wpAny _ _ (comprehension _ dH X.env _ (newList []) _ _ (some (assign (.Name x pos') X.env)) >>= λ_=>pure ()) _ _ _
 refine aI (U7 h C pi ki hb AK I R e1 (use:=some (assign (.Name x pos') X.env)) λC0 p H' s' ⟨m,hn⟩ qD hI sm rr=>?_)
 have I':Inv X pins σ H' s':=hI s'.heap (Su _ _)
 refine Sy (U1 (v:=.ref p) I' h.zu (h.ix hN) (h.loc hv) rfl (λs2 I2 ⟨a,sb,ha⟩=>?_) (h.Fk hf))
 have Rj:C0≠a:=λz=>by
  rcases ha with ha | ha
  .exact qD.2.1 (z.trans ha)
  .exact qD.2.2.2.2.1 x a ha z.symm
 obtain ⟨o,tE,ep,ho,rest⟩:=hn
 refine ⟨m,⟨o,tE,ep,(sb.2 C0 Rj).trans ho,rest⟩,λh' Qd=>?_⟩
 refine b9 (b9 ?_)
 have I3:Inv X pins (σ.set i (some (.ref p))) H' { s2 with heap:=h' }:=I2.turned (t':=s2.toks) (it:=C0) (λb o hb e=>(Qd.2 b hb).trans e) qD.1 qD.2.1 qD.2.2.2.1 qD.2.2.2.2.1 qD.2.2.2.2.2
 obtain ⟨R',g'⟩:=R.set (r:=.sh (Sl.ow es).d) sm (rr.is λq=>R.oo) hl
 obtain ⟨p',xs,e',f1,f2,f3⟩:=rr
 cases e'
 exact ⟨_,H',I3,q _ H' p xs es R' (ie Mr) sm (c00 I3) (by rw [kL (by rw [R.len];exact hl)]) f1 f2 (by rw [kL hl];rfl) f3⟩
end
def V5(X:Cx)(j6:List Stmt)(C:Addr)(F:IF):Prop:=
 ∃t:TS,pO X j6 t/\∀(L O:Addr->Prop) (σ:L2.St) (H:Hp) (env:En) (p dx:Addr) (d0:List D) (gX:List Str) (ds':List D) (Dn:Ends),(∀q,L q->∃ys,H q=some (.lst ys)/\aO X.K O H ys d0)->env[(1:Nat)]?=some (.sh (.lst false d0))->Rel X.K O H σ H env->(∀(i:Nat) s,env[i]?=some s->¬s.own)->O p->σ[0]?=some (some (V.ref p))->H p=some (.ins C dx [])->F env [] []=some (gX,ds') ->
  (∀(aK:L2.St) (H':Hp) (nB:List V),(∀q u,H q=some u->q≠p->H' q=some u)->H' p=some (.ins C dx (gX.zip nB))->gX.length=nB.length->aO X.K (OL O L) H' nB ds'->Dn.nx aK H')->t Dn σ H
noncomputable def p6(n j:Nat)(es:List D):En:=(nN n Sl.no).set j (.sh (.lst false es))
noncomputable def zC(j:Nat)(G:SF)(F:IF):IF:=λenv ns ds=>match env[(1:Nat)]? with
 | some (.sh (.lst _ d0))=>(match G env with
  | some (.nx,af)=>(match af[j]? with
   | some (.sh (.lst false es))=>if dN d0 es=true then F (p6 af.length j es) ns ds else none
   | _=>none)
  | _=>none)
 | _=>none
theorem Z5{n j i:Nat}{es:List D}{s:Sl}(h:(p6 n j es)[i]?=some s):s=.no\/i=j/\s=.sh (.lst false es):=by
 unfold p6 at h
 by_cases z:j=i
 .subst z
  rw [M5] at h
  simp at h
  exact .inr ⟨rfl,h.2.symm⟩
 .rw [ie z,C1] at h
  split at h
  .cases h;exact .inl rfl
  .cases h
section
variable {X:Cx}{C:Addr}{F:IF}{st:Stmt}{j6:List Stmt}
theorem b3r{G:SF}{j:Nat}(h:SVL X st j G)(hr:pP X j6 C F):V5 X (st::j6) C (zC j G F):=by
 obtain ⟨t,pt,k⟩:=h
 obtain ⟨u,pu,ku⟩:=hr
 refine ⟨_,Cm pt pu,λL O σ H env p dx d0 gX ds' Dn hL Fz R no op hs hp e q=>?_⟩
 unfold zC at e
 rw [Fz] at e
 dsimp only at e
 split at e
 rotate_left
 .cases e
 rename_i af hG
 split at e
 rotate_left
 .cases e
 rename_i es hj
 obtain ⟨ht,e2⟩:=Cc e
 refine k O H σ H env af _ R hG λaK H1 pp xs tE R1 h0 sm c hsj hn hpp BL hx=>?_
 rw [hj] at BL
 cases BL
 have nO:∀q,OO O σ env q->O q:=λq z=>z.elim id λ⟨i,s,h1,h2,_⟩=>(no i s h1 h2).elim
 have Xg:∀q,L q->∃ys,H1 q=some (.lst ys)/\aO X.K O H1 ys d0:=λq z=>let ⟨ys,e,i⟩:=hL q z;⟨ys,sm _ _ e,i.grow sm⟩
 have Ft:∀(i:Nat) s,(p6 af.length j es)[i]?=some s->¬s.own:=λi s h z=>by
  rcases Z5 h with rfl | ⟨_,rfl⟩
  .exact z
  .exact z
 have WO:∀q,OO (OL O L) aK (p6 af.length j es) q->OL O L q:=λq z=>z.elim id λ⟨i,s,h1,h2,_⟩=>(Ft i s h1 h2).elim
 have nL:¬OL O L pp:=λz=>z.elim (λz=>R.oy.1 pp z hn) λz=>by
  obtain ⟨ys,e,_⟩:=hL pp z
  rw [hn] at e
  cases e
 have R2:Rel X.K (OL O L) H1 aK H1 (p6 af.length j es):=by
  refine ⟨aE.refl _,⟨λq hq=>hq.elim (λz=>(R.oy.grow sm).1 q z) λz=>?_,(R.oy.grow sm).2⟩,by unfold p6;rw [M9,Ke];exact R1.len,λi d e=>?_,λi es e=>(Ft i _ e trivial).elim,λi es e=>(Ft i _ e trivial).elim,λi ks es e=>(Ft i _ e trivial).elim,λi j es fs q e1 _ _ _ o _=>(Ft i _ e1 o).elim⟩
  .obtain ⟨ys,e,_⟩:=Xg q z
   rw [e]
   exact λz=>nomatch z
  .rcases Z5 e with e3 | ⟨rfl,e3⟩
   .cases e3
   .cases e3
    refine ⟨_,hsj,.lst (λz=>nL (WO _ z)) hpp (Bh c Xg (λq z=>?_) hx ht)⟩
    rcases WO q z with z | z
    .exact .inl (.inl (.inl z))
    .exact .inr z
 exact ku (OL O L) aK H1 _ p dx [] [] [] gX ds' Dn R2 Ft (.inl op) (h0.trans hs) (sm _ _ hp) rfl .nil e2 λdM H2 Dv kp=>q dM H2 Dv λq u e ne=>kp q u (sm _ _ e) ne
end
noncomputable def Qa(K:aJ)(C:Addr)(n:Nat)(ns:List Str)(ψ:List D->Option (List D)):Sp:=λvs H Q _=>∃(O L:Addr->Prop) (p dx:Addr) (ws:List V) (d0 ds fs:List D),vs=.ref p::ws/\ws.length=n/\H p=some (.ins C dx [])/\Bq K O H/\O p/\aO K O H ws (.lst false d0::ds)/\ψ (.lst false d0::ds)=some fs/\(∀q,L q->∃ys,H q=some (.lst ys)/\aO K O H ys d0) /\
 ∀(us:List V) (H':Hp),ns.length=us.length->(∀q u,H q=some u->q≠p->H' q=some u)->H' p=some (.ins C dx (ns.zip us))->aO K (OL O L) H' us fs->Q .cD H'
section
variable {P:Program}{w:World}{K:aJ}{mg:Str->Option Value}{base:Heap}
theorem b48{qual:Str}{st:Stmt}{f C:Addr}{fd:FuncData}{N ps:List Str}{k n:Nat}{ns:List Str}{F:IF}(Fn:vZ K "__init__" qual st f fd)(S:cz N ps (eS st))(qe:ps.length=n+1)(hN:1<=N.length)
  (cb:∀X:Cx,X.prog=P->X.w=w->X.K=K->X.mg=mg->X.base=base->Fx X N (eS st) k->V5 X (jD st) C F):cx P w K mg base jw (k+1) f fd ps (Qa K C n ns (eJ F N.length ns)):=by
 refine Fn.ok S (λvs H Q E h=>?_) (λfE A outer s H vs Q E hr h=>?_)
 .obtain ⟨O,L,p,dx,ws,d0,ds,fs,rfl,hl,_⟩:=h
  rw [ia,hl,qe]
 obtain ⟨O,L,p,dx,ws,d0,ds,fs,rfl,hl,hp,dm,op,hi,e,hL,q⟩:=h
 obtain ⟨t,pt,kk⟩:=cb (iX jw P w K mg base N qual (eS st) f fE A outer s H E).jd rfl rfl rfl rfl rfl ⟨rfl,rfl,rfl,λ_ _=>rfl,B7,hr,S.nd,λ_=>⟨rfl,rfl,rfl⟩⟩
 refine ⟨t,pt,?_⟩
 have R0:=Ll (N:=N.tail) dm hi
 have R1:=UN (some (V.ref p)) R0
 have es:some (V.ref p)::start N.tail ws=start N (V.ref p::ws):=by
  unfold L2.start
  rw [gS,MY,F7,ia,RY,Se 1]
 rw [es,F7] at R1
 unfold eJ at e
 cases hF:F (.no::lg (N.length-1) (.lst false d0::ds)) [] [] with
 | none=>rw [hF] at e;cases e
 | some y =>
  obtain ⟨gX,xK⟩:=y
  rw [hF] at e
  obtain ⟨rfl,rfl⟩:=jg (show (if gX=ns then some xK else none)=some fs from e)
  refine kk L O _ H _ p dx d0 gX xK _ hL rfl R1 (λi s h1 h2=>?_) op rfl hp hF λaK H' nB kp uV mT mU=>q nB H' mT kp uV mU
  cases i with
  | zero=>cases h1;exact h2
  | succ i =>
   have h1:(lg (N.length-1) (.lst false d0::ds))[i]?=some s:=by simpa using h1
   unfold lg at h1
   rw [Kb] at h1
   split at h1
   .rw [nj] at h1
    obtain ⟨d,_,e⟩:=map_some h1
    cases e
    exact h2
   .rw [C1] at h1
    split at h1
    .cases h1;exact h2
    .cases h1
def Pn(P:Program)(w:World)(K:aJ)(mg:Str->Option Value)(base:Heap)(c:Str)(n:Nat)(ns:List Str)(j:Nat)(ψ:List D->Option (List D)):Prop:=∃C f fd ps,Mk K C f/\cx P w K mg base jw j f fd ps (Qa K C n ns ψ)/\mg c=some (.ref C)/\kf K mainGlobals c=some (some (.ref C))/\Binds K fd ps []
theorem c0E{c qual:Str}{st:Stmt}{f C:Addr}{fd:FuncData}{N ps:List Str}{k n:Nat}{ns:List Str}{F:IF}(h:dj K c C)(hm:mg c=some (.ref C))(M:Mk K C f)(D':cA K f "__init__" qual st ps fd)
  (cb:∀X:Cx,Sx X P w K mg base->Fx X N (eS st) k->V5 X (jD st) C F)(qe:ps.length=n+1:=by rfl)(hN:1<=N.length:=by decide)(S:cz N ps (eS st):=by exact ⟨rfl,rfl,rfl,by decide +kernel,rfl,by decide +kernel,by decide +kernel⟩):Pn P w K mg base c n ns (k+1) (eJ F N.length ns):=
 ⟨C,f,fd,ps,M,b48 D'.fn S qe hN λX e1 e2 e3 e4 e5=>by subst e1 e2 e3 e4 e5;exact cb X (.mk X),hm,h.a,D'.bd⟩
end
section
variable {X:Cx}{N:List Str}{sc:Scope}{k j:Nat}{full:Bool}{e:Expr}{c f:Str}{pos p:Pos}
noncomputable def u2(i:Nat)(c:Str)(ns:List Str)(ψ:List D->Option (List D)):En->Option Sl:=λenv=>match env[i]? with
 | some (.ow ds)=>(ψ [.lst false ds]).map λgs=>.sh (.obj c ns gs)
 | _=>none
theorem c0K(i:Nat){C f:Addr}{fd:FuncData}{ps:List Str}{ns:List Str}{ψ:List D->Option (List D)}(M:Mk X.K C f)(F:cx X.prog X.w X.K X.mg X.base jw j f fd ps (Qa X.K C 1 ns ψ))(hr:cF (j+1) X.A)(hg:Gl X c)(hm:X.mg c=some (.ref C))(hn:kf X.K mainGlobals c=some (some (.ref C)))(hb:Binds X.K fd ps [])
  (hv:EV X e (eV i))(hX:(c==("__debug__":Str))=false:=by decide)(he:starEach [e] X.env=[(false,eval e X.env)]:=by rfl):EV X (.Call (.Name c p) [e] [] pos) (u2 i c ns ψ):=by
 obtain ⟨t,pt,ka⟩:=aj hv aW he
 refine ⟨_,Z7 M F hr hg hm hb .nil (Dc (X:=X)) pt hX he rfl,λO B σ H env r Q R e q=>?_⟩
 unfold u2 at e
 split at e
 rotate_left
 .cases e
 rename_i dl Mh
 obtain ⟨l,xl,AJ,D1,hl3,hl4⟩:=R.ow i dl Mh
 obtain ⟨R',_⟩:=R.jJ Mh
 have oo:∀q,OO O σ env q->OO O σ (env.set i (.sh (.lst false dl))) q\/q=l:=λq hz=>by
  rcases hz with hz | ⟨j,es,hj,ho,hz⟩
  .exact .inl (.inl hz)
  .by_cases IX:j=i
   .subst IX
    rw [AJ] at hz
    cases hz
    exact .inr rfl
   .exact .inl (.inr ⟨j,es,by rw [ie (λw=>IX w.symm)];exact hj,ho,hz⟩)
 obtain ⟨gs,e4,rfl⟩:=map_some e
 have CM:i<env.length:=(ni.mp Mh).1
 have e1:ah (eV i) ae (env.set i (.sh (.lst false dl)))=some [.lst false dl]:=by
  unfold ah eV
  rw [kL CM]
  rfl
 refine ka O B σ H _ [.lst false dl] _ R' e1 λvs H1 s1 r1=>?_
 intro x dx nx Qz ne
 have nO:¬OO O σ (env.set i (.sh (.lst false dl))) x:=λz=>(R'.grow s1).oo z nx
 have up1:∀q u,H1 q=some u->upd (upd H1 dx (.own x)) x (.ins C dx []) q=some u:=λq u e=>by rw [fm (qt e nx),fm (qt e Qz)];exact e
 have lift:∀{v:V} {d:D},Is X.K (OO O σ (env.set i (.sh (.lst false dl)))) H1 v d->Is X.K (λq=>OO O σ (env.set i (.sh (.lst false dl))) q\/q=x) (upd (upd H1 dx (.own x)) x (.ins C dx [])) v d:=λh=>h.map (λq hq hn z=>z.elim hn λe=>hq (by rw [e];exact nx)) λq u e _=>up1 q u e
 have CH:∀{v:List V} {d:List D},aO X.K (OO O σ (env.set i (.sh (.lst false dl)))) H1 v d->aO X.K (λq=>OO O σ (env.set i (.sh (.lst false dl))) q\/q=x) (upd (upd H1 dx (.own x)) x (.ins C dx [])) v d:=λh=>h.map (λq hq hn z=>z.elim hn λe=>hq (by rw [e];exact nx)) λq u e _=>up1 q u e
 refine ⟨λq=>OO O σ (env.set i (.sh (.lst false dl))) q\/q=x,λq=>q=l,x,dx,vs,dl,[],gs,by rw [vz],by rw [r1.length];rfl,lM,⟨λq hq=>?_,(R'.grow s1).dm.2.grow λq u e=>up1 q u e⟩,.inr rfl,CH r1,e4,λq hq=>?_,λus H' mT kp hp hs=>⟨rfl,?_⟩⟩
 .rcases hq with hq | rfl
  .cases hz:H1 q with
   | none=>exact absurd hz ((R'.grow s1).oo hq)
   | some u=>rw [up1 q u hz];exact λz=>nomatch z
  .rw [lM];exact λz=>nomatch z
 .rw [hq]
  exact ⟨xl,up1 _ _ (s1 _ _ hl3),CH ((hl4.grow s1).less λq z=>z.elim .inl λ⟨j,es,hj,ho,hz⟩=>by
   by_cases IX:i=j
   .subst IX
    rw [kL CM] at hj
    cases hj
    exact (show False from ho).elim
   .exact .inr ⟨j,es,by rw [ie IX] at hj;exact hj,ho,hz⟩)⟩
 .have sm:aE H1 H':=λq u e=>kp q u (up1 q u e) (qt e nx)
  have nO':¬OO O σ env x:=λz=>(R.grow s1).oo z nx
  exact q _ H' (s1.trans sm) (Is.obj nO' hn hp mT (hs.less λq z=>(oo q z).elim (λw=>.inl (.inl w)) .inr))
theorem Fx.mkW(i:Nat){ns:List Str}{ψ:List D->Option (List D)}(h:Fx X N sc k full)(T:Pn X.prog X.w X.K X.mg X.base c 1 ns j ψ)(hv:EV X e (eV i))(hj:j+1<=k:=by decide)(hg:sc.names.lookup c=some .globalImplicit:=by rfl)(hX:(c==("__debug__":Str))=false:=by rfl)
  (he:starEach [e] X.env=[(false,eval e X.env)]:=by rfl):EV X (.Call (.Name c p) [e] [] pos) (u2 i c ns ψ):=by
 obtain ⟨C,f,fd,ps,M,F,hm,hn,hb⟩:=T
 exact c0K i M F (h.room.mono hj) (h.g hg) hm hn hb hv hX he
end
theorem b81{i:Nat}{c:Str}{ns:List Str}{ψ:List D->Option (List D)}{env:En}{ds:List D}{Q:Sl->Prop}(he:env[i]?=some (.ow ds)):Wo (u2 i c ns ψ env) Q↔Wo (ψ [.lst false ds]) λgs=>Q (.sh (.obj c ns gs)):=by
 unfold u2
 rw [he]
 exact a1z
end DL
namespace My
open PySem L2 DL
noncomputable def top(i:Nat):Stmt:=PySem.Challenge.pw_offerhouse_k81_offers_of_a_book.main.body.getD i (.Pass ⟨0,0,0,0⟩)
noncomputable def Uc:List Str:=["Each"]
noncomputable def KI:List Str:=["Each","Flat","Only"]
noncomputable def K1:List Str:=["Each","Flat","Only"]
noncomputable def K8:List Str:=["Flat","Blocks","Fee"]
noncomputable def NX:List Str:=["Bands","Steps"]
noncomputable def Ub:List Str:=["Blocks"]
noncomputable def Ua:List Str:=["Blocks"]
noncomputable def NW:List Str:=["Named"]
noncomputable def Cd:List Str:=["Sum","Cheaper","Dearer","Only","After","Fee"]
noncomputable def K7:List Str:=["Sum","Cheaper","Dearer"]
noncomputable def UG:List Str:=["After"]
noncomputable def La:List Str:=["Book"]
noncomputable def Ak:List Str:=["Book"]
noncomputable abbrev a32:Stmt:=jT (top 11) 3
noncomputable abbrev OK{α:Type}(Y:Str->Str->Stmt->List Str->α):α:=Y "written" "Each.written" a32 ["self"]
noncomputable abbrev a30:Stmt:=jT (top 12) 3
noncomputable abbrev OM{α:Type}(Y:Str->Str->Stmt->List Str->α):α:=Y "written" "Flat.written" a30 ["self"]
noncomputable abbrev a2D:Stmt:=jT (top 13) 2
noncomputable abbrev VY{α:Type}(Y:Str->Str->Stmt->List Str->α):α:=Y "written_rows" "Rows.written_rows" a2D ["self"]
noncomputable abbrev a3E:Stmt:=jT (top 14) 2
noncomputable abbrev OU{α:Type}(Y:Str->Str->Stmt->List Str->α):α:=Y "written" "Bands.written" a3E ["self"]
noncomputable abbrev a3B:Stmt:=jT (top 15) 2
noncomputable abbrev Pj{α:Type}(Y:Str->Str->Stmt->List Str->α):α:=Y "written" "Steps.written" a3B ["self"]
noncomputable abbrev a3f:Stmt:=jT (top 16) 3
noncomputable abbrev O8{α:Type}(Y:Str->Str->Stmt->List Str->α):α:=Y "written" "Blocks.written" a3f ["self"]
noncomputable abbrev a3C:Stmt:=jT (top 17) 4
noncomputable abbrev Ph{α:Type}(Y:Str->Str->Stmt->List Str->α):α:=Y "written" "Named.written" a3C ["self"]
noncomputable abbrev a2c:Stmt:=jT (top 18) 3
noncomputable abbrev Pm{α:Type}(Y:Str->Str->Stmt->List Str->α):α:=Y "written_between" "Pair.written_between" a2c ["self","word"]
noncomputable abbrev a4A:Stmt:=jT (top 19) 2
noncomputable abbrev O0{α:Type}(Y:Str->Str->Stmt->List Str->α):α:=Y "written" "Sum.written" a4A ["self"]
noncomputable abbrev a2X:Stmt:=jT (top 20) 2
noncomputable abbrev Pf{α:Type}(Y:Str->Str->Stmt->List Str->α):α:=Y "written" "Cheaper.written" a2X ["self"]
noncomputable abbrev a3e:Stmt:=jT (top 21) 2
noncomputable abbrev O9{α:Type}(Y:Str->Str->Stmt->List Str->α):α:=Y "written" "Dearer.written" a3e ["self"]
noncomputable abbrev a2n:Stmt:=jT (top 22) 2
noncomputable abbrev Pl{α:Type}(Y:Str->Str->Stmt->List Str->α):α:=Y "written_with" "Single.written_with" a2n ["self","words"]
noncomputable abbrev a3Y:Stmt:=jT (top 23) 3
noncomputable abbrev ON{α:Type}(Y:Str->Str->Stmt->List Str->α):α:=Y "written" "Only.written" a3Y ["self"]
noncomputable abbrev a3F:Stmt:=jT (top 24) 3
noncomputable abbrev OT{α:Type}(Y:Str->Str->Stmt->List Str->α):α:=Y "written" "After.written" a3F ["self"]
noncomputable abbrev a4B:Stmt:=jT (top 25) 3
noncomputable abbrev OZ{α:Type}(Y:Str->Str->Stmt->List Str->α):α:=Y "written" "Fee.written" a4B ["self"]
noncomputable abbrev a4T:Stmt:=jT (top 9) 5
noncomputable abbrev VN{α:Type}(Y:Str->Str->Stmt->List Str->α):α:=Y "parts" "Rule.parts" a4T ["self"]
noncomputable abbrev a4V:Stmt:=jT (top 18) 1
noncomputable abbrev VL{α:Type}(Y:Str->Str->Stmt->List Str->α):α:=Y "parts" "Pair.parts" a4V ["self"]
noncomputable abbrev a3V:Stmt:=jT (top 22) 1
noncomputable abbrev VV{α:Type}(Y:Str->Str->Stmt->List Str->α):α:=Y "parts" "Single.parts" a3V ["self"]
noncomputable abbrev a3d:Stmt:=jT (top 9) 4
noncomputable abbrev Pa{α:Type}(Y:Str->Str->Stmt->List Str->α):α:=Y "all_names" "Rule.all_names" a3d ["self"]
noncomputable abbrev a2W:Stmt:=jT (top 17) 1
noncomputable abbrev Pg{α:Type}(Y:Str->Str->Stmt->List Str->α):α:=Y "all_names" "Named.all_names" a2W ["self"]
noncomputable abbrev a4U:Stmt:=jT (top 9) 3
noncomputable abbrev VM{α:Type}(Y:Str->Str->Stmt->List Str->α):α:=Y "names" "Rule.names" a4U ["self"]
noncomputable abbrev a34:Stmt:=jT (top 33) 0
noncomputable abbrev a67{α:Type}(Y:Str->Str->Stmt->List Str->α):α:=Y "__init__" "Book.__init__" a34 ["self","offers"]
noncomputable abbrev a3c:Stmt:=jT (top 22) 0
noncomputable abbrev VS{α:Type}(Y:Str->Str->Stmt->List Str->α):α:=Y "__init__" "Single.__init__" a3c ["self","one"]
noncomputable abbrev a4C:Stmt:=jT (top 25) 0
noncomputable abbrev a7G{α:Type}(Y:Str->Str->Stmt->List Str->α):α:=Y "__init__" "Fee.__init__" a4C ["self","one","price"]
noncomputable abbrev a3G:Stmt:=jT (top 24) 0
noncomputable abbrev a6e{α:Type}(Y:Str->Str->Stmt->List Str->α):α:=Y "__init__" "After.__init__" a3G ["self","one","count"]
noncomputable abbrev a3Z:Stmt:=jT (top 23) 0
noncomputable abbrev a64{α:Type}(Y:Str->Str->Stmt->List Str->α):α:=Y "__init__" "Only.__init__" a3Z ["self","one","low","high"]
noncomputable abbrev a3X:Stmt:=jT (top 18) 0
noncomputable abbrev VU{α:Type}(Y:Str->Str->Stmt->List Str->α):α:=Y "__init__" "Pair.__init__" a3X ["self","one","other"]
noncomputable abbrev a3D:Stmt:=jT (top 17) 0
noncomputable abbrev a6d{α:Type}(Y:Str->Str->Stmt->List Str->α):α:=Y "__init__" "Named.__init__" a3D ["self","name"]
noncomputable abbrev a3g:Stmt:=jT (top 16) 0
noncomputable abbrev a5T{α:Type}(Y:Str->Str->Stmt->List Str->α):α:=Y "__init__" "Blocks.__init__" a3g ["self","size","price","many"]
noncomputable abbrev a3W:Stmt:=jT (top 13) 0
noncomputable abbrev a4v{α:Type}(Y:Str->Str->Stmt->List Str->α):α:=Y "__init__" "Rows.__init__" a3W ["self","rows"]
noncomputable abbrev a31:Stmt:=jT (top 12) 0
noncomputable abbrev a65{α:Type}(Y:Str->Str->Stmt->List Str->α):α:=Y "__init__" "Flat.__init__" a31 ["self","price","low","high"]
noncomputable abbrev a33:Stmt:=jT (top 11) 0
noncomputable abbrev a66{α:Type}(Y:Str->Str->Stmt->List Str->α):α:=Y "__init__" "Each.__init__" a33 ["self","unit","low","high"]
noncomputable abbrev a7m:Stmt:=top 38
noncomputable abbrev GC{α:Type}(Y:Str->Stmt->List Str->α):α:=Y "rule_of" a7m ["book","name"]
noncomputable def N8:SF:=
 (aM (eF (cR (kJ true (eV 1) (cI Ak "rules" (eV 0))))
 Cf fG)
 (bb (Eh (cI Ak "rules" (eV 0)) (eV 1))))
noncomputable def Dj:List D->Option Sl:=bQ N8 2
noncomputable def a9v:RF:=
 (zf (Fs (cR (kJ true (eV 1) (cI Ak "rules" (eV 0))))
 (NN "NoOffer" (ah (B' (pM (eC (.str "no offer is called ")) (pM (FH (eV 1)) rA))) ae)) DF) (eF (cR (kJ true (eV 1) (cI Ak "rules" (eV 0))))
 Cf fG)
 DF)
noncomputable def GG:List D->Option Str:=BA a9v 2
theorem oE:Wo (Dj [a0,a1]) Q↔Wo (N8 [.sh a0,.sh a1]) (dC Q):=mj
noncomputable abbrev a4x:Stmt:=top 52
noncomputable abbrev VJ{α:Type}(Y:Str->Stmt->List Str->α):α:=Y "_law_refused" a4x ["book","name"]
noncomputable def VE:SF:=
 (aM (gU 2 (cH ae))
 (aM (uo 3 (Tx "NoOffer" Yq) (Dd (bT 2 Dj (ah (eV 0) (ah (eV 1) ae))))
 (rE (TU 2 GG (ah (eV 0) (ah (eV 1) ae))))
 (gU 2 (cH (ah (BY (NF "NoOffer" true TH) (eV 3)) (ah (BY (NF "NoOffer" true TH) (eV 3)) ae)))))
 (bb (eV 2))))
noncomputable def Bp:List D->Option Sl:=bQ VE 4
theorem nX:Wo (Bp [a0,a1]) Q↔Wo (VE [.sh a0,.sh a1,.no,.no]) (dC Q):=mj
noncomputable abbrev a8z:Stmt:=top 10
noncomputable abbrev UQ{α:Type}(Y:Str->Stmt->List Str->α):α:=Y "worded" a8z ["words"]
noncomputable def UD:SF:=
 (bb (AQ (eC (.str " ")) (nk (g7 (fM (eV 0)) [] 1 (gN 0) iN (C7 (eV 0))))))
noncomputable def qu:List D->Option Sl:=bQ UD 1
theorem Am:Wo (qu [a0]) Q↔Wo (UD [.sh a0]) (dC Q):=mj
noncomputable def a7i(kp:bq):SF:=
 (bb (bT 1 qu (ah (cH (ah (eC (.str "each")) (ah (cI Uc "unit" (eV 0)) (ah (eC (.str "from")) (ah (cI KI "low" (eV 0)) (ah (eC (.str "to")) (ah (cI K1 "high" (eV 0)) ae))))))) ae)))
noncomputable def Lo(kp:bq):List D->Option Sl:=bQ (a7i kp) 1
noncomputable def a7h(kp:bq):SF:=
 (bb (bT 1 qu (ah (cH (ah (eC (.str "flat")) (ah (cI K8 "price" (eV 0)) (ah (eC (.str "from")) (ah (cI KI "low" (eV 0)) (ah (eC (.str "to")) (ah (cI K1 "high" (eV 0)) ae))))))) ae)))
noncomputable def Lp(kp:bq):List D->Option Sl:=bQ (a7h kp) 1
noncomputable def VX:SF:=
 (bb (bT 1 qu (ah (g7 (fM (cI NX "rows" (eV 0))) [] 2 (gT 2 (nu (gN 0) (nu (gN 1) yM))) iN (B' (pM (mZ (eV 0)) (pM (eC (.str ":")) (pM (mZ (eV 1)) rA))))) ae)))
noncomputable def GY:List D->Option Sl:=bQ VX 1
theorem jO:Wo (GY [a0]) Q↔Wo (VX [.sh a0]) (dC Q):=mj
noncomputable def G0:bq:=[("Bands",GY),("Steps",GY)]
noncomputable def a62(kp:bq):SF:=
 (bb (bT 1 qu (ah (cH (ah (eC (.str "bands")) (ah (jQ "written_rows" 1 G0 (eV 0) ae) ae))) ae)))
noncomputable def Lv(kp:bq):List D->Option Sl:=bQ (a62 kp) 1
noncomputable def a60(kp:bq):SF:=
 (bb (bT 1 qu (ah (cH (ah (eC (.str "steps")) (ah (jQ "written_rows" 1 G0 (eV 0) ae) ae))) ae)))
noncomputable def Lw(kp:bq):List D->Option Sl:=bQ (a60 kp) 1
noncomputable def a53(kp:bq):SF:=
 (bb (bT 1 qu (ah (cH (ah (eC (.str "blocks")) (ah (cI Ub "size" (eV 0)) (ah (eC (.str "at")) (ah (cI K8 "price" (eV 0)) (ah (eC (.str "times")) (ah (cI Ua "many" (eV 0)) ae))))))) ae)))
noncomputable def Lx(kp:bq):List D->Option Sl:=bQ (a53 kp) 1
noncomputable def a61(kp:bq):SF:=
 (bb (cI NW "name" (eV 0)))
noncomputable def Pe(kp:bq):List D->Option Sl:=bQ (a61 kp) 1
noncomputable def a3M(kp:bq):SF:=
 (bb (bT 1 qu (ah (cH (ah (eC (.str "(")) (ah (jQ "written" 1 kp (cI Cd "one" (eV 0)) ae) (ah (eV 1) (ah (jQ "written" 1 kp (cI K7 "other" (eV 0)) ae) (ah (eC (.str ")")) ae)))))) ae)))
noncomputable def E3(kp:bq):List D->Option Sl:=bQ (a3M kp) 2
noncomputable def GW(kp:bq):bq:=[("Sum",E3 kp),("Cheaper",E3 kp),("Dearer",E3 kp)]
noncomputable def a8s(kp:bq):SF:=
 (bb (jQ "written_between" 2 (GW kp) (eV 0) (ah (eC (.str "plus")) ae)))
noncomputable def LA(kp:bq):List D->Option Sl:=bQ (a8s kp) 1
noncomputable def a5N(kp:bq):SF:=
 (bb (jQ "written_between" 2 (GW kp) (eV 0) (ah (eC (.str "or")) ae)))
noncomputable def LF(kp:bq):List D->Option Sl:=bQ (a5N kp) 1
noncomputable def a52(kp:bq):SF:=
 (bb (jQ "written_between" 2 (GW kp) (eV 0) (ah (eC (.str "max")) ae)))
noncomputable def LC(kp:bq):List D->Option Sl:=bQ (a52 kp) 1
noncomputable def a4i(kp:bq):SF:=
 (bb (bT 1 qu (ah (ag aQ (ag aQ (cH (ah (eC (.str "(")) (ah (jQ "written" 1 kp (cI Cd "one" (eV 0)) ae) ae))) (eV 1)) (cH (ah (eC (.str ")")) ae))) ae)))
noncomputable def E2(kp:bq):List D->Option Sl:=bQ (a4i kp) 2
noncomputable def G1(kp:bq):bq:=[("Only",E2 kp),("After",E2 kp),("Fee",E2 kp)]
noncomputable def a7g(kp:bq):SF:=
 (bb (jQ "written_with" 2 (G1 kp) (eV 0) (ah (cH (ah (eC (.str "only")) (ah (cI KI "low" (eV 0)) (ah (eC (.str "to")) (ah (cI K1 "high" (eV 0)) ae))))) ae)))
noncomputable def Lq(kp:bq):List D->Option Sl:=bQ (a7g kp) 1
noncomputable def a63(kp:bq):SF:=
 (bb (jQ "written_with" 2 (G1 kp) (eV 0) (ah (cH (ah (eC (.str "after")) (ah (cI UG "count" (eV 0)) ae))) ae)))
noncomputable def Lu(kp:bq):List D->Option Sl:=bQ (a63 kp) 1
noncomputable def a8t(kp:bq):SF:=
 (bb (jQ "written_with" 2 (G1 kp) (eV 0) (ah (cH (ah (eC (.str "fee")) (ah (cI K8 "price" (eV 0)) ae))) ae)))
noncomputable def Lz(kp:bq):List D->Option Sl:=bQ (a8t kp) 1
noncomputable def a5O(kp:bq):bq:=[("Each",Lo kp),("Flat",Lp kp),("Bands",Lv kp),("Steps",Lw kp),("Blocks",Lx kp),("Named",Pe kp),("Sum",LA kp),("Cheaper",LF kp),("Dearer",LC kp),("Only",Lq kp),("After",Lu kp),("Fee",Lz kp)]
noncomputable def jh:Nat->bq
 | 0=>[]
 | n+1=>a5O (jh n)
noncomputable abbrev a6j:Stmt:=top 51
noncomputable abbrev GJ{α:Type}(Y:Str->Stmt->List Str->α):α:=Y "_law_text" a6j ["plan"]
noncomputable def GH(kp:List D->Option Sl):SF:=
 (aM (gU 1 (bY (bV 0) (eC (.int 0))))
 (aM (eF (cR (ag cw (eV 1) (eC (.str "name"))))
 (bb (bY (bV 0) (eC (.int 1)))) fG)
 (aM (eF (mE (cR (ag cw (eV 1) (eC (.str "each")))) (cR (ag cw (eV 1) (eC (.str "flat")))))
 (bb (ag aQ (ag aQ (ag aQ (ag aQ (ag aQ (ag aQ (eV 1) (eC (.str " "))) (nr (bY (bV 0) (eC (.int 1))))) (eC (.str " from "))) (nr (bY (bV 0) (eC (.int 2))))) (eC (.str " to "))) (nr (bY (bV 0) (eC (.int 3)))))) fG)
 (aM (eF (mE (cR (ag cw (eV 1) (eC (.str "bands")))) (cR (ag cw (eV 1) (eC (.str "steps")))))
 (bb (ag aQ (ag aQ (eV 1) (eC (.str " "))) (AQ (eC (.str " ")) (nk (g7 (fM (bY (bV 0) (eC (.int 1)))) [] 1 (gN 0) iN (ag aQ (ag aQ (nr (bY (bV 0) (eC (.int 0)))) (eC (.str ":"))) (nr (bY (bV 0) (eC (.int 1)))))))))) fG)
 (aM (eF (cR (ag cw (eV 1) (eC (.str "blocks"))))
 (bb (ag aQ (ag aQ (ag aQ (ag aQ (ag aQ (eC (.str "blocks ")) (nr (bY (bV 0) (eC (.int 1))))) (eC (.str " at "))) (nr (bY (bV 0) (eC (.int 2))))) (eC (.str " times "))) (nr (bY (bV 0) (eC (.int 3)))))) fG)
 (aM (eF (mE (cR (ag cw (eV 1) (eC (.str "plus")))) (mE (cR (ag cw (eV 1) (eC (.str "or")))) (cR (ag cw (eV 1) (eC (.str "max"))))))
 (bb (ag aQ (ag aQ (ag aQ (ag aQ (ag aQ (ag aQ (eC (.str "( ")) (bT 1 kp (ah (bY (bV 0) (eC (.int 1))) ae))) (eC (.str " "))) (eV 1)) (eC (.str " "))) (bT 1 kp (ah (bY (bV 0) (eC (.int 2))) ae))) (eC (.str " )")))) fG)
 (aM (gU 2 (eV 1))
 (aM (eF (cR (ag cw (eV 1) (eC (.str "only"))))
 (gU 2 (ag aQ (ag aQ (ag aQ (eC (.str "only ")) (nr (bY (bV 0) (eC (.int 2))))) (eC (.str " to "))) (nr (bY (bV 0) (eC (.int 3)))))) fG)
 (aM (eF (mE (cR (ag cw (eV 1) (eC (.str "after")))) (cR (ag cw (eV 1) (eC (.str "fee")))))
 (gU 2 (ag aQ (ag aQ (eV 1) (eC (.str " "))) (nr (bY (bV 0) (eC (.int 2)))))) fG)
 (bb (ag aQ (ag aQ (ag aQ (ag aQ (eC (.str "( ")) (bT 1 kp (ah (bY (bV 0) (eC (.int 1))) ae))) (eC (.str " "))) (eV 2)) (eC (.str " )")))))))))))))
noncomputable def VG(kp:List D->Option Sl):List D->Option Sl:=bQ (GH kp) 3
noncomputable def yR:Nat->List D->Option Sl
 | 0=>λ_=>none
 | n+1=>VG (yR n)
theorem Ow{kp:List D->Option Sl}:Wo (VG kp [a0]) Q↔Wo (GH kp [.sh a0,.no,.no]) (dC Q):=mj
noncomputable def a9x:SF:=
 (bb (cH ae))
noncomputable def Dk:List D->Option Sl:=bQ a9x 1
noncomputable def a9y:SF:=
 (bb (cH (ah (cI Cd "one" (eV 0)) (ah (cI K7 "other" (eV 0)) ae))))
noncomputable def Ly:List D->Option Sl:=bQ a9y 1
noncomputable def a7f:SF:=
 (bb (cH (ah (cI Cd "one" (eV 0)) ae)))
noncomputable def Lr:List D->Option Sl:=bQ a7f 1
noncomputable def GD:bq:=[("Each",Dk),("Flat",Dk),("Bands",Dk),("Steps",Dk),("Blocks",Dk),("Named",Dk),("Sum",Ly),("Cheaper",Ly),("Dearer",Ly),("Only",Lr),("After",Lr),("Fee",Lr)]
noncomputable def LB(kp:bq):SF:=
 (aM (jV 1 (cH ae))
 (aM (oS (jQ "parts" 1 GD (eV 0) ae) (gN 2)
 (qX 1 (jQ "all_names" 1 kp (eV 2) ae)))
 (Be 1)))
noncomputable def ny(kp:bq):List D->Option Sl:=bQ (LB kp) 3
theorem eT{kp:bq}:Wo (ny kp [a0]) Q↔Wo (LB kp [.sh a0,.no,.no]) (dC Q):=mj
noncomputable def a5M(kp:bq):SF:=
 (bb (cH (ah (cI NW "name" (eV 0)) ae)))
noncomputable def O6(kp:bq):List D->Option Sl:=bQ (a5M kp) 1
noncomputable def a4w(kp:bq):bq:=[("Each",ny kp),("Flat",ny kp),("Bands",ny kp),("Steps",ny kp),("Blocks",ny kp),("Named",O6 kp),("Sum",ny kp),("Cheaper",ny kp),("Dearer",ny kp),("Only",ny kp),("After",ny kp),("Fee",ny kp)]
noncomputable def yS:Nat->bq
 | 0=>[]
 | n+1=>a4w (yS n)
noncomputable def Vs:SF:=
 (bb (Nw (jQ "all_names" 1 (yS 6) (eV 0) ae)))
noncomputable def qI:List D->Option Sl:=bQ Vs 1
theorem pG:Wo (qI [a0]) Q↔Wo (Vs [.sh a0]) (dC Q):=mj
noncomputable def E1:bq:=[("Each",qI),("Flat",qI),("Bands",qI),("Steps",qI),("Blocks",qI),("Named",qI),("Sum",qI),("Cheaper",qI),("Dearer",qI),("Only",qI),("After",qI),("Fee",qI)]
noncomputable abbrev a3U:Stmt:=top 37
noncomputable abbrev VW{α:Type}(Y:Str->Stmt->List Str->α):α:=Y "reached_from" a3U ["rules","name"]
noncomputable def a4a:En->Nat:=λ_=>1000000
noncomputable def VT:SF:=
 (aM (jV 2 RH)
 (aM (jV 3 (jQ "names" 1 E1 (Eh (eV 0) (eV 1)) ae))
 (aM (NP a4a (ND (bV 3))
 (aM (qW 4 3)
 (eF (cR (Ks true (eV 4) 2))
 (aM (Fq 2 (eC (.bl true)) (eV 4))
 (qX 3 (jQ "names" 1 E1 (Eh (eV 0) (eV 4)) ae))) fG)))
 (Be 2))))
noncomputable def Ls:List D->Option Sl:=bQ VT 5
theorem m7:Wo (Ls [a0,a1]) Q↔Wo (VT [.sh a0,.sh a1,.no,.no,.no]) (dC Q):=mj
noncomputable abbrev a4y:Stmt:=top 36
noncomputable abbrev VI{α:Type}(Y:Str->Stmt->List Str->α):α:=Y "check_needs" a4y ["rules"]
noncomputable def VD:SF:=
 (aM (Kt (Mz (eV 0)) (gN 1)
 (oS (jQ "names" 1 E1 (eV 1) ae) (gN 2)
 (eF (cR (kJ true (eV 2) (eV 0)))
 Cf fG)))
 (Kt (MA (eV 0)) (gN 2)
 (eF (cR (kJ false (eV 2) (bT 2 Ls (ah (eV 0) (ah (eV 2) ae)))))
 Cf fG)))
noncomputable def E4:List D->Option Sl:=bQ VD 3
theorem nY:Wo (E4 [a0]) Q↔Wo (VD [.sh a0,.no,.no]) (dC Q):=mj
noncomputable abbrev a7o:Stmt:=top 30
noncomputable abbrev U2{α:Type}(Y:Str->Stmt->List Str->α):α:=Y "is_name" a7o ["text"]
noncomputable def U4:SF:=
 (aM (eF (mE (Kx (Ag (cR (ag Mw (eC (.int 1)) (Gj (eV 0)))) (cR (ag Mw (Gj (eV 0)) (eC (.int 8)))))) (cR (ag Mx (eV 0) (eC (.tup [D.str "each",D.str "from",D.str "to",D.str "flat",D.str "bands",D.str "steps",D.str "blocks",D.str "at",D.str "times",D.str "plus",D.str "or",D.str "max",D.str "only",D.str "after",D.str "roomy",D.str "fee"])))))
 (bb (eC (.bl false))) fG)
 (bb (BZ (nk (g7 (zN (eV 0)) [] 1 (gN 0) iN (ag uX (eV 0) (eC (.str "abcdefghijklmnopqrstuvwxyz"))))))))
noncomputable def Ln:List D->Option Sl:=bQ U4 1
theorem vY:Wo (Ln [a0]) Q↔Wo (U4 [.sh a0]) (dC Q):=mj
noncomputable abbrev a4z:Stmt:=top 35
noncomputable abbrev VH{α:Type}(Y:Str->Stmt->List Str->α):α:=Y "check_names" a4z ["names"]
noncomputable def VR:SF:=
 (aM (oS (eV 0) (gN 1)
 (eF (Kx (Dy (bT 1 Ln (ah (eV 1) ae))))
 Cf fG))
 (eF (cR (ag Jr (NY (eV 0)) (jK (bV 0))))
 Cf fG))
noncomputable def E5:List D->Option Sl:=bQ VR 2
theorem nZ:Wo (E5 [a0]) Q↔Wo (VR [.sh a0,.no]) (dC Q):=mj
noncomputable abbrev a4S:Stmt:=top 34
noncomputable abbrev VO{α:Type}(Y:Str->Stmt->List Str->α):α:=Y "check_many" a4S ["many"]
noncomputable def Vt:SF:=
 (eF (cR (ag Ed (eV 0) (eC (.int 30))))
 Cf fG)
noncomputable def GN:List D->Option Sl:=bQ Vt 1
theorem pF:Wo (GN [a0]) Q↔Wo (Vt [.sh a0]) (dC Q):=mj
noncomputable def Ck:List Str:=["offers","rules"]
noncomputable def Lk:List D->Option (List D):=eJ (zC 2 (gU 2 (g7 (fM (eV 1)) [] 2 (gT 2 (nu (gN 0) (nu (gN 1) yM))) iN (iG (ah (eV 0) (ah (eV 1) ae))))) (Fw (Dd (bT 1 GN (ah (jK (bV 2)) ae))) (Fw (Dd (bT 1 E5 (ah (g7 (fM (eV 2)) [] 2 (gT 2 (nu (gN 0) (nu (gN 1) yM))) iN (eV 0)) ae))) (dg "offers" (eV 2) (dg "rules" (KJ (eV 2)) (QP E4 "rules" jm)))))) 3 Ck
noncomputable def Bn:List Str:=["one"]
noncomputable def Co:List D->Option (List D):=eJ (dg "one" (eV 1) jm) 2 Bn
noncomputable def KP:List Str:=["one","price"]
noncomputable def Ur:List D->Option (List D):=eJ (Kp 1 Bn Co (ah (eV 1) ae) (dg "price" (eV 2) jm)) 3 KP
noncomputable def K':List Str:=["one","count"]
noncomputable def UZ:List D->Option (List D):=eJ (Kp 1 Bn Co (ah (eV 1) ae) (dg "count" (eV 2) jm)) 3 K'
noncomputable def KZ:List Str:=["one","low","high"]
noncomputable def UM:List D->Option (List D):=eJ (Kp 1 Bn Co (ah (eV 1) ae) (dg "low" (eV 2) (dg "high" (eV 3) jm))) 4 KZ
noncomputable def Lj:List Str:=["one","other"]
noncomputable def Vd:List D->Option (List D):=eJ (dg "one" (eV 1) (dg "other" (eV 2) jm)) 3 Lj
noncomputable def Lh:List Str:=["one","other"]
noncomputable def VA:List D->Option (List D):=eJ (dg "one" (eV 1) (dg "other" (eV 2) jm)) 3 Lh
noncomputable def KQ:List Str:=["one","other"]
noncomputable def Us:List D->Option (List D):=eJ (dg "one" (eV 1) (dg "other" (eV 2) jm)) 3 KQ
noncomputable def Ld:List Str:=["name"]
noncomputable def U0:List D->Option (List D):=eJ (dg "name" (eV 1) jm) 2 Ld
noncomputable def Li:List Str:=["size","price","many"]
noncomputable def Vc:List D->Option (List D):=eJ (dg "size" (eV 1) (dg "price" (eV 2) (dg "many" (eV 3) jm))) 4 Li
noncomputable def Le:List Str:=["rows"]
noncomputable def OD:List D->Option (List D):=eJ (dg "rows" (g7 (fM (eV 1)) [] 2 (gT 2 (nu (gN 0) (nu (gN 1) yM))) iN (iG (ah (eV 0) (ah (eV 1) ae)))) jm) 2 Le
noncomputable def Lc:List Str:=["rows"]
noncomputable def OC:List D->Option (List D):=eJ (dg "rows" (g7 (fM (eV 1)) [] 2 (gT 2 (nu (gN 0) (nu (gN 1) yM))) iN (iG (ah (eV 0) (ah (eV 1) ae)))) jm) 2 Lc
noncomputable def KY:List Str:=["price","low","high"]
noncomputable def UL:List D->Option (List D):=eJ (dg "price" (eV 1) (dg "low" (eV 2) (dg "high" (eV 3) jm))) 4 KY
noncomputable def KW:List Str:=["unit","low","high"]
noncomputable def UK:List D->Option (List D):=eJ (dg "unit" (eV 1) (dg "low" (eV 2) (dg "high" (eV 3) jm))) 4 KW
noncomputable abbrev a6k:Stmt:=top 50
noncomputable abbrev GI{α:Type}(Y:Str->Stmt->List Str->α):α:=Y "_law_rule" a6k ["plan"]
noncomputable def Lf(kp:List D->Option Sl):SF:=
 (aM (gU 1 (bY (bV 0) (eC (.int 0))))
 (aM (eF (cR (ag cw (eV 1) (eC (.str "each"))))
 (bb (pK "Each" 3 KW UK (ah (bY (bV 0) (eC (.int 1))) (ah (bY (bV 0) (eC (.int 2))) (ah (bY (bV 0) (eC (.int 3))) ae))))) fG)
 (aM (eF (cR (ag cw (eV 1) (eC (.str "flat"))))
 (bb (pK "Flat" 3 KY UL (ah (bY (bV 0) (eC (.int 1))) (ah (bY (bV 0) (eC (.int 2))) (ah (bY (bV 0) (eC (.int 3))) ae))))) fG)
 (aM (eF (cR (ag cw (eV 1) (eC (.str "bands"))))
 (bb (pK "Bands" 1 Lc OC (ah (Kr (nk (bY (bV 0) (eC (.int 1))))) ae))) fG)
 (aM (eF (cR (ag cw (eV 1) (eC (.str "steps"))))
 (bb (pK "Steps" 1 Le OD (ah (Kr (nk (bY (bV 0) (eC (.int 1))))) ae))) fG)
 (aM (eF (cR (ag cw (eV 1) (eC (.str "blocks"))))
 (bb (pK "Blocks" 3 Li Vc (ah (bY (bV 0) (eC (.int 1))) (ah (bY (bV 0) (eC (.int 2))) (ah (bY (bV 0) (eC (.int 3))) ae))))) fG)
 (aM (eF (cR (ag cw (eV 1) (eC (.str "name"))))
 (bb (pK "Named" 1 Ld U0 (ah (bY (bV 0) (eC (.int 1))) ae))) fG)
 (aM (eF (cR (ag cw (eV 1) (eC (.str "plus"))))
 (bb (pK "Sum" 2 KQ Us (ah (bT 1 kp (ah (bY (bV 0) (eC (.int 1))) ae)) (ah (bT 1 kp (ah (bY (bV 0) (eC (.int 2))) ae)) ae)))) fG)
 (aM (eF (cR (ag cw (eV 1) (eC (.str "or"))))
 (bb (pK "Cheaper" 2 Lh VA (ah (bT 1 kp (ah (bY (bV 0) (eC (.int 1))) ae)) (ah (bT 1 kp (ah (bY (bV 0) (eC (.int 2))) ae)) ae)))) fG)
 (aM (eF (cR (ag cw (eV 1) (eC (.str "max"))))
 (bb (pK "Dearer" 2 Lj Vd (ah (bT 1 kp (ah (bY (bV 0) (eC (.int 1))) ae)) (ah (bT 1 kp (ah (bY (bV 0) (eC (.int 2))) ae)) ae)))) fG)
 (aM (eF (cR (ag cw (eV 1) (eC (.str "only"))))
 (bb (pK "Only" 3 KZ UM (ah (bT 1 kp (ah (bY (bV 0) (eC (.int 1))) ae)) (ah (bY (bV 0) (eC (.int 2))) (ah (bY (bV 0) (eC (.int 3))) ae))))) fG)
 (aM (eF (cR (ag cw (eV 1) (eC (.str "after"))))
 (bb (pK "After" 2 K' UZ (ah (bT 1 kp (ah (bY (bV 0) (eC (.int 1))) ae)) (ah (bY (bV 0) (eC (.int 2))) ae)))) fG)
 (bb (pK "Fee" 2 KP Ur (ah (bT 1 kp (ah (bY (bV 0) (eC (.int 1))) ae)) (ah (bY (bV 0) (eC (.int 2))) ae))))))))))))))))
noncomputable def VF(kp:List D->Option Sl):List D->Option Sl:=bQ (Lf kp) 2
noncomputable def vW:Nat->List D->Option Sl
 | 0=>λ_=>none
 | n+1=>VF (vW n)
theorem Vn{kp:List D->Option Sl}:Wo (VF kp [a0]) Q↔Wo (Lf kp [.sh a0,.no]) (dC Q):=mj
noncomputable abbrev a8A:Stmt:=top 40
noncomputable abbrev UP{α:Type}(Y:Str->Stmt->List Str->α):α:=Y "_law_at" a8A ["script","k"]
noncomputable def UC:SF:=
 (aM (eF (cR (ag Jr (eV 1) (jK (bV 0))))
 (bb (bY (bV 0) (eV 1))) fG)
 (bb (eC (.int 0))))
noncomputable def yT:List D->Option Sl:=bQ UC 2
theorem An:Wo (yT [a0,a1]) Q↔Wo (UC [.sh a0,.sh a1]) (dC Q):=mj
noncomputable abbrev a7n:Stmt:=top 41
noncomputable abbrev U3{α:Type}(Y:Str->Stmt->List Str->α):α:=Y "_law_mix" a7n ["cell","k","size"]
noncomputable def U5:SF:=
 (aM (gU 3 (ag aQ (eC (.int 271828182845904523536028747135266249775724709369995)) (ag js (ag js (eC (.int 2)) (eV 1)) (eV 1))))
 (aM (gU 4 (ag aQ (ag js (ag aQ (ag iW (eV 0) (ag mX (eC (.int 10)) (eC (.int 60)))) (eC (.int 1))) (eV 3)) (ag js (eC (.int 7907)) (eV 1))))
 (bb (ag iW (ag uY (ag iW (ag js (eV 4) (eV 4)) (ag aQ (ag mX (eC (.int 10)) (eC (.int 60))) (eC (.int 7)))) (eC (.int 11))) (eV 2)))))
noncomputable def ja:List D->Option Sl:=bQ U5 5
theorem vX:Wo (ja [a0,a1,a2]) Q↔Wo (U5 [.sh a0,.sh a1,.sh a2,.no,.no]) (dC Q):=mj
noncomputable abbrev a5Q:Stmt:=top 42
noncomputable abbrev VB{α:Type}(Y:Str->Stmt->List Str->α):α:=Y "_law_price" a5Q ["cell","k"]
noncomputable def Vw:SF:=
 (aM (gU 2 (bY (nk (cH (ah (eC (.int 3)) (ah (ag mX (eC (.int 10)) (eC (.int 9))) (ah (ag mX (eC (.int 10)) (eC (.int 39))) ae))))) (bT 3 ja (ah (eV 0) (ah (ag aQ (eV 1) (eC (.int 60))) (ah (eC (.int 3)) ae))))))
 (bb (ag rH (bT 3 ja (ah (eV 0) (ah (eV 1) (ah (ag aQ (ag js (eC (.int 2)) (eV 2)) (eC (.int 1))) ae)))) (eV 2))))
noncomputable def Dl:List D->Option Sl:=bQ Vw 3
theorem qw:Wo (Dl [a0,a1]) Q↔Wo (Vw [.sh a0,.sh a1,.no]) (dC Q):=mj
noncomputable abbrev a4Q:Stmt:=top 45
noncomputable abbrev VQ{α:Type}(Y:Str->Stmt->List Str->α):α:=Y "_law_turned" a4Q ["one","kind","cell","scale"]
noncomputable def Vv:SF:=
 (aM (eF (cR (ag cw (eV 1) (eC (.str "only"))))
 (aM (gU 4 (ag js (bT 3 ja (ah (eV 2) (ah (eC (.int 50)) (ah (eV 3) ae)))) (bT 3 ja (ah (eV 2) (ah (eC (.int 51)) (ah (eC (.int 2)) ae))))))
 (bb (iG (ah (eV 1) (ah (eV 0) (ah (eV 4) (ah (ag aQ (eV 4) (bT 3 ja (ah (eV 2) (ah (eC (.int 52)) (ah (ag js (eC (.int 3)) (eV 3)) ae))))) ae))))))) fG)
 (aM (eF (cR (ag cw (eV 1) (eC (.str "after"))))
 (bb (iG (ah (eV 1) (ah (eV 0) (ah (bT 3 ja (ah (eV 2) (ah (eC (.int 53)) (ah (eV 3) ae)))) ae))))) fG)
 (bb (iG (ah (eC (.str "fee")) (ah (eV 0) (ah (bT 2 Dl (ah (eV 2) (ah (eC (.int 54)) ae))) ae)))))))
noncomputable def GP:List D->Option Sl:=bQ Vv 5
theorem pD:Wo (GP [a0,a1,a2,a3]) Q↔Wo (Vv [.sh a0,.sh a1,.sh a2,.sh a3,.no]) (dC Q):=mj
noncomputable abbrev a6l:Stmt:=top 43
noncomputable abbrev Vh{α:Type}(Y:Str->Stmt->List Str->α):α:=Y "_law_rows" a6l ["cell","scale"]
noncomputable def Vl:SF:=
 (aM (jV 2 (cH ae))
 (aM (gU 3 (ag uY (ag js (bT 3 ja (ah (eV 0) (ah (eC (.int 30)) (ah (eV 1) ae)))) (bT 3 ja (ah (eV 0) (ah (eC (.int 31)) (ah (eC (.int 3)) ae))))) (eC (.int 2))))
 (aM (Ku zd (ah (ag aQ (eC (.int 1)) (bT 3 ja (ah (eV 0) (ah (eC (.int 32)) (ah (eC (.int 2)) ae))))) ae) (gN 4)
 (aM (nD 2 (iG (ah (eV 3) (ah (bT 2 Dl (ah (eV 0) (ah (ag aQ (eC (.int 33)) (eV 4)) ae))) ae))))
 (gU 3 (ag aQ (ag aQ (eV 3) (eC (.int 1))) (bT 3 ja (ah (eV 0) (ah (ag aQ (eC (.int 40)) (eV 4)) (ah (eV 1) ae))))))))
 (Be 2))))
noncomputable def GS:List D->Option Sl:=bQ Vl 5
theorem sd:Wo (GS [a0,a1]) Q↔Wo (Vl [.sh a0,.sh a1,.no,.no,.no]) (dC Q):=mj
noncomputable abbrev a6m:Stmt:=top 44
noncomputable abbrev Vg{α:Type}(Y:Str->Stmt->List Str->α):α:=Y "_law_leaf" a6m ["cell","scale","names"]
noncomputable def Vk:SF:=
 (aM (gU 3 (bY (nk (cH (ah (eC (.str "each")) (ah (eC (.str "flat")) (ah (eC (.str "bands")) (ah (eC (.str "steps")) (ah (eC (.str "blocks")) (ah (eC (.str "name")) (ah (eC (.str "name")) ae))))))))) (bT 3 ja (ah (eV 0) (ah (eC (.int 1)) (ah (eC (.int 7)) ae))))))
 (aM (gU 4 (bT 2 Dl (ah (eV 0) (ah (eC (.int 2)) ae))))
 (aM (gU 5 (ag js (bT 3 ja (ah (eV 0) (ah (eC (.int 3)) (ah (eV 1) ae)))) (bT 3 ja (ah (eV 0) (ah (eC (.int 4)) (ah (eC (.int 2)) ae))))))
 (aM (gU 6 (ag aQ (eV 5) (ag js (bT 3 ja (ah (eV 0) (ah (eC (.int 5)) (ah (eV 1) ae)))) (bT 3 ja (ah (eV 0) (ah (eC (.int 6)) (ah (eC (.int 4)) ae)))))))
 (aM (eF (mE (cR (ag cw (eV 3) (eC (.str "bands")))) (cR (ag cw (eV 3) (eC (.str "steps")))))
 (bb (iG (ah (eV 3) (ah (bT 2 GS (ah (eV 0) (ah (eV 1) ae))) ae)))) fG)
 (aM (eF (cR (ag cw (eV 3) (eC (.str "blocks"))))
 (bb (iG (ah (eV 3) (ah (ag aQ (eC (.int 1)) (bT 3 ja (ah (eV 0) (ah (eC (.int 7)) (ah (eV 1) ae))))) (ah (eV 4) (ah (ag aQ (eC (.int 1)) (bT 3 ja (ah (eV 0) (ah (eC (.int 8)) (ah (eC (.int 3)) ae))))) ae)))))) fG)
 (aM (eF (Ag (cR (ag cw (eV 3) (eC (.str "name")))) (cR (ag Ed (jK (bV 2)) (eC (.int 0)))))
 (bb (iG (ah (eV 3) (ah (bY (bV 2) (bT 3 ja (ah (eV 0) (ah (eC (.int 9)) (ah (jK (bV 2)) ae))))) ae)))) fG)
 (bb (iG (ah (bY (nk (cH (ah (eC (.str "each")) (ah (eC (.str "flat")) ae)))) (Nv (ag gn (eV 3) (eC (.str "each"))))) (ah (eV 4) (ah (eV 5) (ah (eV 6) ae)))))))))))))
noncomputable def GR:List D->Option Sl:=bQ Vk 7
theorem se:Wo (GR [a0,a1,a2]) Q↔Wo (Vk [.sh a0,.sh a1,.sh a2,.no,.no,.no,.no]) (dC Q):=mj
noncomputable abbrev a6i:Stmt:=top 46
noncomputable abbrev Vi{α:Type}(Y:Str->Stmt->List Str->α):α:=Y "_law_tree" a6i ["numbers","scale","names"]
noncomputable def a6B:En->Nat:=λ_=>1000000
noncomputable def Vm:SF:=
 (aM (jV 3 (cH ae))
 (aM (oS (eV 0) (gN 4)
 (aM (gU 5 (bT 3 ja (ah (eV 4) (ah (eC (.int 0)) (ah (eC (.int 13)) ae)))))
 (eF (Ag (cR (ag Ed (eV 5) (eC (.int 9)))) (cR (ag Ed (jK (bV 3)) (eC (.int 0)))))
 (EH 3 (KL 4 GP (Gn 3 (ah (bY (nk (cH (ah (eC (.str "only")) (ah (eC (.str "after")) (ah (eC (.str "fee")) ae))))) (ag rH (eV 5) (eC (.int 10)))) (ah (eV 4) (ah (eV 1) ae)))))) (nD 3 (bT 3 GR (ah (eV 4) (ah (eV 1) (ah (eV 2) ae))))))))
 (aM (NP a6B (cR (ag Ed (jK (bV 3)) (eC (.int 1))))
 (aM (qW 6 3)
 (EH 3 (Ny (NJ (bY (nk (cH (ah (eC (.str "or")) (ah (eC (.str "plus")) (ah (eC (.str "max")) (ah (eC (.str "or")) ae)))))) (bT 3 ja (ah (bY (bV 0) (eC (.int 0))) (ah (eC (.int 55)) (ah (eC (.int 4)) ae))))) (Gn 3 (ah (eV 6) ae)))))))
 (bb (bY (bV 3) (eC (.int 0)))))))
noncomputable def GU:List D->Option Sl:=bQ Vm 7
theorem r9:Wo (GU [a0,a1,a2]) Q↔Wo (Vm [.sh a0,.sh a1,.sh a2,.no,.no,.no,.no]) (dC Q):=mj
noncomputable abbrev a4R:Stmt:=top 48
noncomputable abbrev VP{α:Type}(Y:Str->Stmt->List Str->α):α:=Y "_law_folded" a4R ["script","first","most"]
noncomputable def Vu:SF:=
 (aM (jV 3 (cH (ah (bT 2 yT (ah (eV 0) (ah (eV 1) ae))) ae)))
 (aM (Kt (mY NC (ah (ag aQ (eV 1) (eC (.int 1))) (ah (jK (bV 0)) ae))) (gN 4)
 (eF (cR (ag Jr (jK (bV 3)) (eV 2)))
 (nD 3 (ag iW (bY (bV 0) (eV 4)) (ag mX (eC (.int 10)) (eC (.int 60))))) (aM (gU 5 (ag aQ (ag js (bY (bV 3) (ag iW (eV 4) (eV 2))) (eC (.int 10007))) (ag iW (bY (bV 0) (eV 4)) (ag mX (eC (.int 10)) (eC (.int 60))))))
 (Gg 3 (ag iW (eV 5) (ag mX (eC (.int 10)) (eC (.int 60)))) (ag iW (eV 4) (eV 2))))))
 (Be 3)))
noncomputable def GO:List D->Option Sl:=bQ Vu 6
theorem pE:Wo (GO [a0,a1,a2]) Q↔Wo (Vu [.sh a0,.sh a1,.sh a2,.no,.no,.no]) (dC Q):=mj
noncomputable abbrev a5P:Stmt:=top 47
noncomputable abbrev VC{α:Type}(Y:Str->Stmt->List Str->α):α:=Y "_law_words" a5P ["cell","size"]
noncomputable def Vx:SF:=
 (aM (gU 2 (eC (.str "abcdefghijklmnopqrstuvwxyz")))
 (aM (gU 3 (AQ (eC (.str "")) (nk (g7 (mY Bd (ah (bT 3 ja (ah (eV 0) (ah (eC (.int 20)) (ah (eC (.int 4)) ae)))) ae)) [0] 1 (gN 0) iN (qh (eC (.str "qxz")) (bT 3 ja (ah (eV 1) (ah (eV 0) (ah (eC (.int 3)) ae)))))))))
 (aM (gU 4 (AQ (eC (.str "")) (nk (g7 (mY Bd (ah (bT 3 ja (ah (eV 0) (ah (eC (.int 21)) (ah (eC (.int 5)) ae)))) ae)) [0] 1 (gN 0) iN (qh (eC (.str "zxq")) (bT 3 ja (ah (eV 1) (ah (ag aQ (eV 0) (eC (.int 5))) (ah (eC (.int 3)) ae)))))))))
 (bb (g7 (mY Bd (ah (eV 1) ae)) [3,2,0,4] 1 (gN 0) iN (ag aQ (ag aQ (eV 1) (qh (eV 2) (ag iW (ag aQ (bT 3 ja (ah (eV 3) (ah (eC (.int 22)) (ah (eC (.int 26)) ae)))) (ag js (eC (.int 3)) (eV 0))) (eC (.int 26))))) (eV 4)))))))
noncomputable def Lm:List D->Option Sl:=bQ Vx 5
theorem qv:Wo (Lm [a0,a1]) Q↔Wo (Vx [.sh a0,.sh a1,.no,.no,.no]) (dC Q):=mj
noncomputable abbrev a6n:Stmt:=top 49
noncomputable abbrev Vf{α:Type}(Y:Str->Stmt->List Str->α):α:=Y "_law_book" a6n ["script"]
noncomputable def Vj:SF:=
 (aM (gU 1 (bY (nk (cH (ah (eC (.int 9)) (ah (ag mX (eC (.int 10)) (eC (.int 6))) (ah (ag mX (eC (.int 10)) (eC (.int 38))) ae))))) (ag iW (bT 2 yT (ah (eV 0) (ah (eC (.int 0)) ae))) (eC (.int 3)))))
 (aM (gU 2 (ag aQ (eC (.int 1)) (ag iW (ag uY (bT 2 yT (ah (eV 0) (ah (eC (.int 0)) ae))) (eC (.int 3))) (eC (.int 4)))))
 (aM (gU 3 (bT 2 Lm (ah (bT 2 yT (ah (eV 0) (ah (eC (.int 1)) ae))) (ah (eV 2) ae))))
 (aM (gU 4 (bT 3 GO (ah (eV 0) (ah (eC (.int 2)) (ah (ag js (eC (.int 3)) (eV 2)) ae)))))
 (aM (jV 5 (cH ae))
 (aM (Ku zd (ah (eV 2) ae) (gN 6)
 (aM (gU 7 (ag aQ (g7 (mY Bd (ah (jK (bV 4)) ae)) [4,2,6] 1 (gN 0) (cR (ag cw (ag iW (eV 0) (eV 2)) (eV 3))) (bY (bV 1) (eV 0))) (cH (ah (ag aQ (bT 2 yT (ah (eV 0) (ah (eC (.int 0)) ae))) (eV 6)) ae))))
 (nD 5 (iG (ah (bY (bV 3) (eV 6)) (ah (bT 3 GU (ah (JJ (bV 7) BB (Ax (eC (.int 3)))) (ah (eV 1) (ah (JJ (bV 3) BB (Ax (eV 6))) ae)))) ae))))))
 (aM (eF (cR (ag cw (ag iW (ag uY (bT 2 yT (ah (eV 0) (ah (eC (.int 0)) ae))) (eC (.int 12))) (eC (.int 2))) (eC (.int 1))))
 (uq 5) fG)
 (Be 5))))))))
noncomputable def Di:List D->Option Sl:=bQ Vj 8
theorem sf:Wo (Di [a0]) Q↔Wo (Vj [.sh a0,.no,.no,.no,.no,.no,.no,.no]) (dC Q):=mj
noncomputable abbrev KU:Stmt:=top 53
noncomputable abbrev Hh{α:Type}(Y:Str->Stmt->List Str->α):α:=Y "law" KU ["script"]
noncomputable def To:SF:=
 (aM (gU 1 (bT 1 Di (ah (eV 0) ae)))
 (aM (jV 2 (g7 (fM (eV 1)) [] 1 (gN 0) iN (iG (ah (bY (bV 0) (eC (.int 0))) (ah (bT 1 (vW 6) (ah (bY (bV 0) (eC (.int 1))) ae)) ae)))))
 (aM (gU 3 (u2 2 "Book" Ck Lk))
 (aM (eF (cR (ag gn (jK (bV 2)) (jK (bV 1))))
 (bb (eC (.bl false))) fG)
 (aM (By 2)
 (aM (eF (cR (ag gn (g7 (fM (cI La "offers" (eV 3))) [] 1 (gN 0) iN (bY (bV 0) (eC (.int 0)))) (g7 (fM (eV 1)) [] 1 (gN 0) iN (bY (bV 0) (eC (.int 0))))))
 (bb (eC (.bl false))) fG)
 (aM (oS (eV 1) (gT 2 (nu (gN 4) (nu (gN 5) yM)))
 (aM (eF (cR (ag gn (jQ "written" 1 (jh 6) (bT 2 Dj (ah (eV 3) (ah (eV 4) ae))) ae) (bT 1 (yR 6) (ah (eV 5) ae))))
 (bb (eC (.bl false))) fG)
 (eF (Ag (cR (ag BW (qg (eV 4) BB (Ax (rK (eC (.int 1))))) (g7 (fM (eV 1)) [] 1 (gN 0) iN (bY (bV 0) (eC (.int 0)))))) (cR (ag gn (bT 2 Bp (ah (eV 3) (ah (qg (eV 4) BB (Ax (rK (eC (.int 1))))) ae))) (cH (ah (eC (.bl true)) (ah (eC (.bl true)) ae))))))
 (bb (eC (.bl false))) fG)))
 (bb (zO (ag cw (bT 2 Bp (ah (eV 3) (ah (ag aQ (bY (nk (bY (bV 1) (eC (.int 0)))) (eC (.int 0))) (eC (.str "q"))) ae))) (cH (ah (eC (.bl true)) (ah (eC (.bl true)) ae)))) (ag cw (bT 2 Bp (ah (eV 3) (ah (eC (.str "each")) ae))) (cH (ah (eC (.bl true)) (ah (eC (.bl true)) ae)))))))))))))
noncomputable def N1:List D->Option Sl:=bQ To 6
theorem LG:Wo (N1 [a0]) Q↔Wo (To [.sh a0,.no,.no,.no,.no,.no]) (dC Q):=mj
structure Cr(K:aJ)(mg:Str->Option Value)(lr pU:Addr):Prop where
 Hb:Cl K mg "NoOffer" lr
 v0C:Cl K mg "OfferError" pU
 PF:RU K (.ref lr) (.ref pU)=some true
 PL:J4 K (.ref lr) (.ref lr)=some true
 PK:J4 K (.ref lr) (.type "ValueError")=some true
 v0P:LW K lr
theorem y4{X X':Cx}{lr pU:Addr}(e3:X'.K=X.K)(e4:X'.mg=X.mg)(h:Cr X.K X.mg lr pU):Cr X'.K X'.mg lr pU:=by rw [e3,e4];exact h
structure Obs(K:aJ)(mg:Str->Option Value)(cf cc bJ bI aZ bU cX aP aY bF bp cL eR bP bx bw aH bj bf be bh ao bG aV bc av bu bo bH aG bg aR aa aU ai bN aw bX bC bK aL bB br aX bL bM:Addr):Prop where
 dU:dj K "Each" cf
 Eb:mg "Each" = some (.ref cf)
 qN:Mk K cf bM
 gx:ak K cf "unit"
 ip:ak K cf "low"
 gz:ak K cf "high"
 fW:aA K cf "written" bx
 iD:aA K cf "parts" aG
 eN:aA K cf "all_names" aa
 iE:aA K cf "names" ai
 dS:dj K "Flat" cc
 Ea:mg "Flat" = some (.ref cc)
 qM:Mk K cc bL
 fJ:ak K cc "price"
 il:ak K cc "low"
 gu:ak K cc "high"
 fV:aA K cc "written" bw
 iB:aA K cc "parts" aG
 eM:aA K cc "all_names" aa
 iC:aA K cc "names" ai
 dW:dj K "Bands" bJ
 BS:mg "Bands" = some (.ref bJ)
 oK:Mk K bJ aX
 fL:ak K bJ "rows"
 cV:aA K bJ "written_rows" aH
 fC:aA K bJ "written" bj
 gO:aA K bJ "parts" aG
 d7:aA K bJ "all_names" aa
 gP:aA K bJ "names" ai
 dR:dj K "Steps" bI
 BQ:mg "Steps" = some (.ref bI)
 oI:Mk K bI aX
 fH:ak K bI "rows"
 cU:aA K bI "written_rows" aH
 fw:aA K bI "written" bf
 gH:aA K bI "parts" aG
 dX:aA K bI "all_names" aa
 gJ:aA K bI "names" ai
 cy:dj K "Blocks" aZ
 zL:mg "Blocks" = some (.ref aZ)
 mC:Mk K aZ br
 eZ:ak K aZ "size"
 dQ:ak K aZ "price"
 e8:ak K aZ "many"
 eQ:aA K aZ "written" be
 fZ:aA K aZ "parts" aG
 dB:aA K aZ "all_names" aa
 gc:aA K aZ "names" ai
 fg:dj K "Named" bU
 BR:mg "Named" = some (.ref bU)
 oJ:Mk K bU bB
 fI:ak K bU "name"
 fx:aA K bU "written" bh
 gK:aA K bU "parts" aG
 dY:aA K bU "all_names" aU
 gL:aA K bU "names" ai
 hJ:dj K "Sum" cX
 Jo:mg "Sum" = some (.ref cX)
 yX:Mk K cX aL
 jy:ak K cX "one"
 gq:ak K cX "other"
 cO:aA K cX "written_between" ao
 gG:aA K cX "written" bG
 jn:aA K cX "parts" bg
 fu:aA K cX "all_names" aa
 jo:aA K cX "names" ai
 b8:dj K "Cheaper" aP
 uW:mg "Cheaper" = some (.ref aP)
 kW:Mk K aP aL
 eX:ak K aP "one"
 dv:ak K aP "other"
 cu:aA K aP "written_between" ao
 dZ:aA K aP "written" aV
 fA:aA K aP "parts" bg
 di:aA K aP "all_names" aa
 fB:aA K aP "names" ai
 cG:dj K "Dearer" aY
 zK:mg "Dearer" = some (.ref aY)
 mB:Mk K aY aL
 fK:ak K aY "one"
 dO:ak K aY "other"
 cB:aA K aY "written_between" ao
 eO:aA K aY "written" bc
 fX:aA K aY "parts" bg
 dA:aA K aY "all_names" aa
 fY:aA K aY "names" ai
 dy:dj K "Only" bF
 D9:mg "Only" = some (.ref bF)
 qL:Mk K bF bK
 ij:ak K bF "one"
 ik:ak K bF "low"
 gr:ak K bF "high"
 dh:aA K bF "written_with" av
 fU:aA K bF "written" bu
 iy:aA K bF "parts" aR
 eL:aA K bF "all_names" aa
 iA:aA K bF "names" ai
 c8:dj K "After" bp
 BU:mg "After" = some (.ref bp)
 oM:Mk K bp bC
 gA:ak K bp "one"
 e9:ak K bp "count"
 cW:aA K bp "written_with" av
 fD:aA K bp "written" bo
 gQ:aA K bp "parts" aR
 d8:aA K bp "all_names" aa
 gR:aA K bp "names" ai
 hU:dj K "Fee" cL
 Jp:mg "Fee" = some (.ref cL)
 yY:Mk K cL bX
 jz:ak K cL "one"
 gw:ak K cL "price"
 dz:aA K cL "written_with" av
 gM:aA K cL "written" bH
 jq:aA K cL "parts" aR
 fy:aA K cL "all_names" aa
 jr:aA K cL "names" ai
 iq:dj K "Book" eR
 Ec:mg "Book" = some (.ref eR)
 qO:Mk K eR bN
 eY:ak K eR "offers"
 dP:ak K eR "rules"
 mW:mg "Single" = some (.ref bP)
 m6:qA K bP aw
section
variable {P:Program}{w:World}{K:aJ}{mg:Str->Option Value}{base:Heap}
variable {lr pU:Addr}(TT:Cr K mg lr pU)
variable {cf cc bJ bI aZ bU cX aP aY bF bp cL eR bP bx bw aH bj bf be bh ao bG aV bc av bu bo bH aG bg aR aa aU ai bN aw bX bC bK aL bB br aX bL bM:Addr}(OB:Obs K mg cf cc bJ bI aZ bU cX aP aY bF bp cL eR bP bx bw aH bj bf be bh ao bG aV bc av bu bo bH aG bg aR aa aU ai bN aw bX bC bK aL bB br aX bL bM)
variable (z_str:mg "str" = none)
variable (z_all:mg "all" = none)
variable (z_LETTERS:LU mg "LETTERS" "abcdefghijklmnopqrstuvwxyz")
variable (z_OWN_WORDS:Po K mg "OWN_WORDS" ["each","from","to","flat","bands","steps","blocks","at","times","plus","or","max","only","after","roomy","fee"])
variable (z_len:mg "len" = none)
variable (z_MOST_LETTERS:LV mg "MOST_LETTERS" 8)
variable (z_MOST_OFFERS:LV mg "MOST_OFFERS" 30)
variable (z_set:mg "set" = none)
variable (z_range:mg "range" = none)
variable (z_int:mg "int" = none)
variable (z_list:mg "list" = none)
variable (z_isinstance:mg "isinstance" = none)
variable (z_ValueError:mg "ValueError" = none)
variable (z_sorted:mg "sorted" = none)
variable (z_dict:mg "dict" = none)
variable {aq:bq}{az:Nat}(cY:ll P w K mg base "written" 1 az aq)
variable {c7:bq}{dD:Nat}(fR:ll P w K mg base "all_names" 1 dD c7)
variable {lK:List D->Option Sl}{mI:Nat}(bD:GI (Oz P w K mg base) mI lK)
variable {lJ:List D->Option Sl}{mH:Nat}(dE:GJ (Oz P w K mg base) mH lJ)
include OB in
theorem a90:FL K "rules" Ak:=(lh OB.iq OB.dP vU)
variable (eB:FL K "rules" Ak)
include TT eB in
theorem b1x(D':GC (Def K mg) a d):GC (Oz P w K mg base) 1 Dj:=h7 (N:=["book","name"]) D' λX r h=>by
 cases r
 exact (cJ (ig (h.su (h.v 1) (lb (h.v 0) eB)) (b7 EW) iP) (b7 (dI (h.Dx (lb (h.v 0) eB) (h.v 1)))))
variable (EY:GC (Oz P w K mg base) 1 Dj)
include TT eB in
theorem b1q(D':GC (Def K mg) a d):GC (Xz P w K mg base) 1 GG:=Jv (N:=["book","name"]) D' λX W r h xk xr=>by
 cases r
 exact (b4a (G7 (TV.jd (h.su (h.v 1) (lb (h.v 0) eB))) (Uo (b4b h.calm xr TT.v0P h.g TT.Hb.m (AV.jd (aj (ZO (K3 bZ (K3 (JF (h.v 1)) Y3))) aW)))) b6H) (SV.jd (ig (h.su (h.v 1) (lb (h.v 0) eB)) (b7 EW) iP)) (Uo G6))
variable (Ox:GC (Xz P w K mg base) 1 GG)
include TT z_isinstance z_ValueError EY Ox in
theorem a7a(D':VJ (Def K mg) a d):VJ (Oz P w K mg base) 2 Bp:=h7 (N:=["book","name","told","e"]) D' λX r h=>by
 cases r
 exact (cJ (h.dG 2 (jS aW)) (cJ (b9v (i:=3) h rfl rfl h.g TT.v0C.m (b42 TT.Hb TT.PF b7Q) (λX1 fP fO ei cQ fN h1=>(b7 (b60 (h1.cl (zo fP fO ei cQ fN EY) (aj (h1.v 0) (aj (h1.v 1) aW)))))) (λX1 W1 fP fO ei cQ fN h1 xk1=>(Uo (b6I (h1.xcl (PD fP fO ei cQ fN Ox) xk1 (AV.jd (aj (h1.v 0) (aj (h1.v 1) aW))))))) (λX1 fP fO ei cQ fN h1=>(b7 (h1.dG 2 (jS (aj (c0L h1.g (uf cQ z_isinstance) h1.g (y4 ei cQ TT).Hb.m (b0H (y4 ei cQ TT).Hb (y4 ei cQ TT).PL ZY) (h1.v 3)) (aj (b77 h1.g (uf cQ z_isinstance) h1.g (uf cQ z_ValueError) (by decide +kernel) (b0H (y4 ei cQ TT).Hb (y4 ei cQ TT).PK ZY) (h1.v 3)) aW))))))) (b7 (dI (h.v 2)))))
variable (GK:VJ (Oz P w K mg base) 2 Bp)
include z_str in
theorem b2L(D':UQ (Def K mg) a d):UQ (Oz P w K mg base) 1 qu:=h7 (N:=["words"]) D' λX r h=>by
 cases r
 exact (b7 (dI (Nz bZ (t7 (t9 (N':=["word"]) (caps:=[]) (nt:=1) h ⟨rfl,by decide +kernel,by decide +kernel,by decide +kernel,by decide +kernel,rfl,rfl,by decide +kernel⟩ (Ai (h.v 0)) (λX1 fP fO ei cQ fN h1=>⟨(h1.tg 0),r6,(b73 h1.g (uf cQ z_str) (h1.v 0))⟩))))))
variable (l9:UQ (Oz P w K mg base) 1 qu)
include OB in
theorem b1K:FL K "high" K1:=(lh OB.dU OB.gz (lh OB.dS OB.gu (lh OB.dy OB.gr vU)))
variable (fj:FL K "high" K1)
include OB in
theorem b2S:FL K "low" KI:=(lh OB.dU OB.ip (lh OB.dS OB.il (lh OB.dy OB.ik vU)))
variable (gW:FL K "low" KI)
include OB in
theorem b1F:FL K "unit" Uc:=(lh OB.dU OB.gx vU)
variable (mw:FL K "unit" Uc)
include l9 fj gW mw in
theorem a6v(D':OK (cA K a) d):OK (Om P w K mg base a) (az+2) (Lo aq):=nS (N:=["self"]) D' λX r h=>by
 cases r
 exact (b7 (dI (h.cl l9 (aj (jS (aj bZ (aj (lb (h.v 0) mw) (aj bZ (aj (lb (h.v 0) gW) (aj bZ (aj (lb (h.v 0) fj) aW))))))) aW) (hj:=by omega))))
variable (OG:OK (Om P w K mg base bx) (az+2) (Lo aq))
include OB in
theorem a91:FL K "price" K8:=(lh OB.dS OB.fJ (lh OB.cy OB.dQ (lh OB.hU OB.gw vU)))
variable (du:FL K "price" K8)
include l9 fj gW du in
theorem a6u(D':OM (cA K a) d):OM (Om P w K mg base a) (az+2) (Lp aq):=nS (N:=["self"]) D' λX r h=>by
 cases r
 exact (b7 (dI (h.cl l9 (aj (jS (aj bZ (aj (lb (h.v 0) du) (aj bZ (aj (lb (h.v 0) gW) (aj bZ (aj (lb (h.v 0) fj) aW))))))) aW) (hj:=by omega))))
variable (OH:OM (Om P w K mg base bw) (az+2) (Lp aq))
include OB in
theorem b1H:FL K "rows" NX:=(lh OB.dW OB.fL (lh OB.dR OB.fH vU))
variable (my:FL K "rows" NX)
include l9 my in
theorem a4u(D':VY (cA K a) d):VY (Om P w K mg base a) 2 GY:=nS (N:=["self"]) D' λX r h=>by
 cases r
 exact (b7 (dI (h.cl l9 (aj (t9 (N':=["top","unit"]) (caps:=[]) (nt:=2) h ⟨rfl,by decide +kernel,by decide +kernel,by decide +kernel,by decide +kernel,rfl,rfl,by decide +kernel⟩ (Ai (lb (h.v 0) my)) (λX1 fP fO ei cQ fN h1=>⟨(Gq (n:=2) h1.calm (yQ (h1.tg 0) (yQ (h1.tg 1) GA))),r6,(ZO (K3 (Zk (h1.v 0)) (K3 bZ (K3 (Zk (h1.v 1)) Y3))))⟩)) aW))))
variable (LD:VY (Om P w K mg base aH) 2 GY)
include OB LD in
theorem a44:ll P w K mg base "written_rows" 1 2 G0:=(eG OB.dW OB.cV LD (eG OB.dR OB.cU LD Ce))
variable (bS:ll P w K mg base "written_rows" 1 2 G0)
include l9 bS in
theorem a5X(D':OU (cA K a) d):OU (Om P w K mg base a) (az+3) (Lv aq):=nS (N:=["self"]) D' λX r h=>by
 cases r
 exact (b7 (dI (h.cl l9 (aj (jS (aj bZ (aj (h.w4 (n:=1) bS (h.v 0) (hj:=by omega)) aW))) aW) (hj:=by omega))))
variable (OQ:OU (Om P w K mg base bj) (az+3) (Lv aq))
include l9 bS in
theorem a5V(D':Pj (cA K a) d):Pj (Om P w K mg base a) (az+3) (Lw aq):=nS (N:=["self"]) D' λX r h=>by
 cases r
 exact (b7 (dI (h.cl l9 (aj (jS (aj bZ (aj (h.w4 (n:=1) bS (h.v 0) (hj:=by omega)) aW))) aW) (hj:=by omega))))
variable (OS:Pj (Om P w K mg base bf) (az+3) (Lw aq))
include OB in
theorem b1J:FL K "many" Ua:=(lh OB.cy OB.e8 vU)
variable (mz:FL K "many" Ua)
include OB in
theorem b1G:FL K "size" Ub:=(lh OB.cy OB.eZ vU)
variable (mx:FL K "size" Ub)
include l9 du mz mx in
theorem a5y(D':O8 (cA K a) d):O8 (Om P w K mg base a) (az+2) (Lx aq):=nS (N:=["self"]) D' λX r h=>by
 cases r
 exact (b7 (dI (h.cl l9 (aj (jS (aj bZ (aj (lb (h.v 0) mx) (aj bZ (aj (lb (h.v 0) du) (aj bZ (aj (lb (h.v 0) mz) aW))))))) aW) (hj:=by omega))))
variable (Pk:O8 (Om P w K mg base be) (az+2) (Lx aq))
include OB in
theorem b1I:FL K "name" NW:=(lh OB.fg OB.fI vU)
variable (iL:FL K "name" NW)
include iL in
theorem a5W(D':Ph (cA K a) d):Ph (Om P w K mg base a) (az+1) (Pe aq):=nS (N:=["self"]) D' λX r h=>by
 cases r
 exact (b7 (dI (lb (h.v 0) iL)))
variable (OR:Ph (Om P w K mg base bh) (az+1) (Pe aq))
include OB in
theorem a92:FL K "other" K7:=(lh OB.hJ OB.gq (lh OB.b8 OB.dv (lh OB.cG OB.dO vU)))
variable (gh:FL K "other" K7)
include OB in
theorem b2R:FL K "one" Cd:=(lh OB.hJ OB.jy (lh OB.b8 OB.eX (lh OB.cG OB.fK (lh OB.dy OB.ij (lh OB.c8 OB.gA (lh OB.hU OB.jz vU))))))
variable (eU:FL K "one" Cd)
include cY l9 gh eU in
theorem a3t(D':Pm (cA K a) d):Pm (Om P w K mg base a) (az+2) (E3 aq):=nS (N:=["self","word"]) D' λX r h=>by
 cases r
 exact (b7 (dI (h.cl l9 (aj (jS (aj bZ (aj (h.w4 (n:=1) cY (lb (h.v 0) eU) (hj:=by omega)) (aj (h.v 1) (aj (h.w4 (n:=1) cY (lb (h.v 0) gh) (hj:=by omega)) (aj bZ aW)))))) aW) (hj:=by omega))))
variable (GZ:Pm (Om P w K mg base ao) (az+2) (E3 aq))
include OB GZ in
theorem a37:ll P w K mg base "written_between" 2 (az+2) (GW aq):=(eG OB.hJ OB.cO GZ (eG OB.b8 OB.cu GZ (eG OB.cG OB.cB GZ Ce (hj:=by omega)) (hj:=by omega)) (hj:=by omega))
variable (aN:ll P w K mg base "written_between" 2 (az+2) (GW aq))
include aN in
theorem a7d(D':O0 (cA K a) d):O0 (Om P w K mg base a) (az+3) (LA aq):=nS (N:=["self"]) D' λX r h=>by
 cases r
 exact (b7 (dI (h.mt (n:=2) aN (h.v 0) (aj bZ aW) (hj:=by omega))))
variable (OW:O0 (Om P w K mg base bG) (az+3) (LA aq))
include aN in
theorem a45(D':Pf (cA K a) d):Pf (Om P w K mg base a) (az+3) (LF aq):=nS (N:=["self"]) D' λX r h=>by
 cases r
 exact (b7 (dI (h.mt (n:=2) aN (h.v 0) (aj bZ aW) (hj:=by omega))))
variable (Pb:Pf (Om P w K mg base aV) (az+3) (LF aq))
include aN in
theorem a5x(D':O9 (cA K a) d):O9 (Om P w K mg base a) (az+3) (LC aq):=nS (N:=["self"]) D' λX r h=>by
 cases r
 exact (b7 (dI (h.mt (n:=2) aN (h.v 0) (aj bZ aW) (hj:=by omega))))
variable (O7:O9 (Om P w K mg base bc) (az+3) (LC aq))
include cY l9 eU in
theorem a3K(D':Pl (cA K a) d):Pl (Om P w K mg base a) (az+2) (E2 aq):=nS (N:=["self","words"]) D' λX r h=>by
 cases r
 exact (b7 (dI (h.cl l9 (aj (bW eE (bW eE (jS (aj bZ (aj (h.w4 (n:=1) cY (lb (h.v 0) eU) (hj:=by omega)) aW))) (h.v 1)) (jS (aj bZ aW))) aW) (hj:=by omega))))
variable (GX:Pl (Om P w K mg base av) (az+2) (E2 aq))
include OB GX in
theorem a43:ll P w K mg base "written_with" 2 (az+2) (G1 aq):=(eG OB.dy OB.dh GX (eG OB.c8 OB.cW GX (eG OB.hU OB.dz GX Ce (hj:=by omega)) (hj:=by omega)) (hj:=by omega))
variable (a9:ll P w K mg base "written_with" 2 (az+2) (G1 aq))
include fj gW a9 in
theorem a6s(D':ON (cA K a) d):ON (Om P w K mg base a) (az+3) (Lq aq):=nS (N:=["self"]) D' λX r h=>by
 cases r
 exact (b7 (dI (h.mt (n:=2) a9 (h.v 0) (aj (jS (aj bZ (aj (lb (h.v 0) gW) (aj bZ (aj (lb (h.v 0) fj) aW))))) aW) (hj:=by omega))))
variable (OI:ON (Om P w K mg base bu) (az+3) (Lq aq))
include OB in
theorem a93:FL K "count" UG:=(lh OB.c8 OB.e9 vU)
variable (kT:FL K "count" UG)
include a9 kT in
theorem a5Y(D':OT (cA K a) d):OT (Om P w K mg base a) (az+3) (Lu aq):=nS (N:=["self"]) D' λX r h=>by
 cases r
 exact (b7 (dI (h.mt (n:=2) a9 (h.v 0) (aj (jS (aj bZ (aj (lb (h.v 0) kT) aW))) aW) (hj:=by omega))))
variable (OP:OT (Om P w K mg base bo) (az+3) (Lu aq))
include du a9 in
theorem a7e(D':OZ (cA K a) d):OZ (Om P w K mg base a) (az+3) (Lz aq):=nS (N:=["self"]) D' λX r h=>by
 cases r
 exact (b7 (dI (h.mt (n:=2) a9 (h.v 0) (aj (jS (aj bZ (aj (lb (h.v 0) du) aW))) aW) (hj:=by omega))))
variable (OV:OZ (Om P w K mg base bH) (az+3) (Lz aq))
include OB OG OH OQ OS Pk OR OW Pb O7 OI OP OV in
theorem a70:ll P w K mg base "written" 1 (az+3) (a5O aq):=(eG OB.dU OB.fW OG (eG OB.dS OB.fV OH (eG OB.dW OB.fC OQ (eG OB.dR OB.fw OS (eG OB.cy OB.eQ Pk (eG OB.fg OB.fx OR (eG OB.hJ OB.gG OW (eG OB.b8 OB.dZ Pb (eG OB.cG OB.eO O7 (eG OB.dy OB.fU OI (eG OB.c8 OB.fD OP (eG OB.hU OB.gM OV Ce (hj:=by omega)) (hj:=by omega)) (hj:=by omega)) (hj:=by omega)) (hj:=by omega)) (hj:=by omega)) (hj:=by omega)) (hj:=by omega)) (hj:=by omega)) (hj:=by omega)) (hj:=by omega)) (hj:=by omega))
variable (iJ:ll P w K mg base "written" 1 19 (jh 6))
include z_str dE in
theorem a9O(D':GJ (Def K mg) a d):GJ (Oz P w K mg base) (mH+1) (VG lJ):=h7 (N:=["plan","kind","tail"]) D' λX r h=>by
 cases r
 exact (cJ (h.dG 1 (dt (h.bv 0) aS)) (cJ (ig (gp (jN h.u8) (h.v 1) bZ) (b7 (dI (dt (h.bv 0) aS))) iP) (cJ (ig (oN (EI (gp (jN h.u8) (h.v 1) bZ) (Gw (gp (jN h.u8) (h.v 1) bZ)))) (b7 (dI (bW eE (bW eE (bW eE (bW eE (bW eE (bW eE (h.v 1) bZ) (Al h.g z_str (dt (h.bv 0) aS))) bZ) (Al h.g z_str (dt (h.bv 0) aS))) bZ) (Al h.g z_str (dt (h.bv 0) aS))))) iP) (cJ (ig (oN (EI (gp (jN h.u8) (h.v 1) bZ) (Gw (gp (jN h.u8) (h.v 1) bZ)))) (b7 (dI (bW eE (bW eE (h.v 1) bZ) (Nz bZ (t7 (t9 (N':=["row"]) (caps:=[]) (nt:=1) h ⟨rfl,by decide +kernel,by decide +kernel,by decide +kernel,by decide +kernel,rfl,rfl,by decide +kernel⟩ (Ai (dt (h.bv 0) aS)) (λX1 fP fO ei cQ fN h1=>⟨(h1.tg 0),r6,(bW eE (bW eE (Al h1.g (uf cQ z_str) (dt (h1.bv 0) aS)) bZ) (Al h1.g (uf cQ z_str) (dt (h1.bv 0) aS)))⟩))))))) iP) (cJ (ig (gp (jN h.u8) (h.v 1) bZ) (b7 (dI (bW eE (bW eE (bW eE (bW eE (bW eE bZ (Al h.g z_str (dt (h.bv 0) aS))) bZ) (Al h.g z_str (dt (h.bv 0) aS))) bZ) (Al h.g z_str (dt (h.bv 0) aS))))) iP) (cJ (ig (oN (EI (gp (jN h.u8) (h.v 1) bZ) (EI (gp (jN h.u8) (h.v 1) bZ) (Gw (gp (jN h.u8) (h.v 1) bZ))))) (b7 (dI (bW eE (bW eE (bW eE (bW eE (bW eE (bW eE bZ (h.cl dE (aj (dt (h.bv 0) aS) aW) (hj:=by omega))) bZ) (h.v 1)) bZ) (h.cl dE (aj (dt (h.bv 0) aS) aW) (hj:=by omega))) bZ))) iP) (cJ (h.dG 2 (h.v 1)) (cJ (ig (gp (jN h.u8) (h.v 1) bZ) (b7 (h.dG 2 (bW eE (bW eE (bW eE bZ (Al h.g z_str (dt (h.bv 0) aS))) bZ) (Al h.g z_str (dt (h.bv 0) aS))))) iP) (cJ (ig (oN (EI (gp (jN h.u8) (h.v 1) bZ) (Gw (gp (jN h.u8) (h.v 1) bZ)))) (b7 (h.dG 2 (bW eE (bW eE (h.v 1) bZ) (Al h.g z_str (dt (h.bv 0) aS))))) iP) (b7 (dI (bW eE (bW eE (bW eE (bW eE bZ (h.cl dE (aj (dt (h.bv 0) aS) aW) (hj:=by omega))) bZ) (h.v 2)) bZ))))))))))))
variable (Ou:GJ (Oz P w K mg base) 7 (yR 6))
include OB in
theorem a8O:FL K "offers" La:=(lh OB.iq OB.eY vU)
variable (jG:FL K "offers" La)
theorem a7X(D':VN (cA K a) d):VN (Om P w K mg base a) 1 Dk:=nS (N:=["self"]) D' λX r h=>by
 cases r
 exact (b7 (dI (jS aW)))
variable (Cp:VN (Om P w K mg base aG) 1 Dk)
include gh eU in
theorem a7Z(D':VL (cA K a) d):VL (Om P w K mg base a) 1 Ly:=nS (N:=["self"]) D' λX r h=>by
 cases r
 exact (b7 (dI (jS (aj (lb (h.v 0) eU) (aj (lb (h.v 0) gh) aW)))))
variable (GQ:VL (Om P w K mg base bg) 1 Ly)
include eU in
theorem a6r(D':VV (cA K a) d):VV (Om P w K mg base a) 1 Lr:=nS (N:=["self"]) D' λX r h=>by
 cases r
 exact (b7 (dI (jS (aj (lb (h.v 0) eU) aW))))
variable (GL:VV (Om P w K mg base aR) 1 Lr)
include OB Cp GQ GL in
theorem a9T:ll P w K mg base "parts" 1 1 GD:=(eG OB.dU OB.iD Cp (eG OB.dS OB.iB Cp (eG OB.dW OB.gO Cp (eG OB.dR OB.gH Cp (eG OB.cy OB.fZ Cp (eG OB.fg OB.gK Cp (eG OB.hJ OB.jn GQ (eG OB.b8 OB.fA GQ (eG OB.cG OB.fX GQ (eG OB.dy OB.iy GL (eG OB.c8 OB.gQ GL (eG OB.hU OB.jq GL Ce))))))))))))
variable (kN:ll P w K mg base "parts" 1 1 GD)
include fR kN in
theorem a5w(D':Pa (cA K a) d):Pa (Om P w K mg base a) (dD+2) (ny c7):=nS (N:=["self","found","part"]) D' λX r h=>by
 cases r
 exact (cJ (h.set 1 (jS aW)) (cJ (KN h.own h.calm (h.w4 (n:=1) kN (h.v 0) (hj:=by omega)) (h.tg 2) (b7 (h.ext 1 (h.w4 (n:=1) fR (h.v 2) (hj:=by omega))))) (b7 (h.ze 1))))
variable (ub:Pa (Om P w K mg base aa) (dD+2) (ny c7))
include iL in
theorem a42(D':Pg (cA K a) d):Pg (Om P w K mg base a) (dD+1) (O6 c7):=nS (N:=["self"]) D' λX r h=>by
 cases r
 exact (b7 (dI (jS (aj (lb (h.v 0) iL) aW))))
variable (Pc:Pg (Om P w K mg base aU) (dD+1) (O6 c7))
include OB ub Pc in
theorem a6t:ll P w K mg base "all_names" 1 (dD+2) (a4w c7):=(eG OB.dU OB.eN ub (eG OB.dS OB.eM ub (eG OB.dW OB.d7 ub (eG OB.dR OB.dX ub (eG OB.cy OB.dB ub (eG OB.fg OB.dY Pc (eG OB.hJ OB.fu ub (eG OB.b8 OB.di ub (eG OB.cG OB.dA ub (eG OB.dy OB.eL ub (eG OB.c8 OB.d8 ub (eG OB.hU OB.fy ub Ce (hj:=by omega)) (hj:=by omega)) (hj:=by omega)) (hj:=by omega)) (hj:=by omega)) (hj:=by omega)) (hj:=by omega)) (hj:=by omega)) (hj:=by omega)) (hj:=by omega)) (hj:=by omega)) (hj:=by omega))
variable (fQ:ll P w K mg base "all_names" 1 13 (yS 6))
include z_set z_sorted fQ in
theorem a7Y(D':VM (cA K a) d):VM (Om P w K mg base a) 14 qI:=nS (N:=["self"]) D' λX r h=>by
 cases r
 exact (b7 (dI (b74 h.calm h.g z_sorted h.g z_set (h.w4 (n:=1) fQ (h.v 0)))))
variable (r8:VM (Om P w K mg base ai) 14 qI)
include OB r8 in
theorem a9U:ll P w K mg base "names" 1 14 E1:=(eG OB.dU OB.iE r8 (eG OB.dS OB.iC r8 (eG OB.dW OB.gP r8 (eG OB.dR OB.gJ r8 (eG OB.cy OB.gc r8 (eG OB.fg OB.gL r8 (eG OB.hJ OB.jo r8 (eG OB.b8 OB.fB r8 (eG OB.cG OB.fY r8 (eG OB.dy OB.iA r8 (eG OB.c8 OB.gR r8 (eG OB.hU OB.jr r8 Ce))))))))))))
variable (fq:ll P w K mg base "names" 1 14 E1)
include fq in
theorem a6q(D':VW (Def K mg) a d):VW (Oz P w K mg base) 15 Ls:=h7 (N:=["rules","name","reached","waiting","other"]) D' λX r h=>by
 cases r
 exact (cJ (h.set 2 b71) (cJ (h.set 3 (h.w4 (n:=1) fq (h.Dx (h.v 0) (h.v 1)))) (cJ (b0I a4a h.own (b6O (h.bv 3)) (cJ (h.pop 4 3) (b7 (ig (h.Hc 2 (h.v 4)) (cJ (h.PR 2 yL (h.v 4)) (b7 (h.ext 3 (h.w4 (n:=1) fq (h.Dx (h.v 0) (h.v 4)))))) iP)))) (b7 (h.ze 2)))))
variable (OJ:VW (Oz P w K mg base) 15 Ls)
include fq OJ in
theorem a7b(D':VI (Def K mg) a d):VI (Oz P w K mg base) 16 E4:=h7 (N:=["rules","rule","name"]) D' λX r h=>by
 cases r
 exact (cJ (Ux h.own h.calm (IB (h.v 0)) (h.tg 1) (b7 (KN h.own h.calm (h.w4 (n:=1) fq (h.v 1)) (h.tg 2) (b7 (ig (h.su (h.v 2) (h.v 0)) (b7 EW) iP))))) (b7 (Ux h.own h.calm (IC (h.v 0)) (h.tg 2) (b7 (ig (h.PN (h.v 2) (h.cl OJ (aj (h.v 0) (aj (h.v 2) aW)))) (b7 EW) iP)))))
variable (OY:VI (Oz P w K mg base) 16 E4)
include z_all z_LETTERS z_OWN_WORDS z_len z_MOST_LETTERS in
theorem b1z(D':U2 (Def K mg) a d):U2 (Oz P w K mg base) 1 Ln:=h7 (N:=["text"]) D' λX r h=>by
 cases r
 exact (cJ (ig (oN (EI (Zm (b4e YQ YQ aS (b76 h.g z_len (h.v 0)) (b06 h.g z_MOST_LETTERS))) (Gw (gp (Ik h.u8) (h.v 0) (b5c (ys:=["each","from","to","flat","bands","steps","blocks","at","times","plus","or","max","only","after","roomy","fee"]) h.g z_OWN_WORDS) (by with_unfolding_all rfl))))) (b7 (dI yL)) iP) (b7 (dI (c0N h.g z_all h.calm (t7 (t9 (N':=["sign"]) (caps:=[]) (nt:=1) h ⟨rfl,by decide +kernel,by decide +kernel,by decide +kernel,by decide +kernel,rfl,rfl,by decide +kernel⟩ (b7I (h.v 0)) (λX1 fP fO ei cQ fN h1=>⟨(h1.tg 0),r6,(NR b96 (h1.v 0) (b5d h1.g (Jn cQ z_LETTERS)) (by with_unfolding_all rfl))⟩)))))))
variable (N9:U2 (Oz P w K mg base) 1 Ln)
include z_len z_set N9 in
theorem a7c(D':VH (Def K mg) a d):VH (Oz P w K mg base) 2 E5:=h7 (N:=["names","name"]) D' λX r h=>by
 cases r
 exact (cJ (KN h.own h.calm (h.v 0) (h.tg 1) (b7 (ig (Zm (b9n (h.cl N9 (aj (h.v 1) aW)))) (b7 EW) iP))) (b7 (ig (gp Tt (b3E h.calm h.g z_len h.g z_set (h.v 0)) (yN h.g z_len (h.bv 0))) (b7 EW) iP)))
variable (OX:VH (Oz P w K mg base) 2 E5)
include z_MOST_OFFERS in
theorem a7W(D':VO (Def K mg) a d):VO (Oz P w K mg base) 1 GN:=h7 (N:=["many"]) D' λX r h=>by
 cases r
 exact (b7 (ig (gp Kz (h.v 0) (b06 h.g z_MOST_OFFERS)) (b7 EW) iP))
variable (O3:VO (Oz P w K mg base) 1 GN)
include OB z_len z_dict OY OX O3 in
theorem b1A(D':a67 (cA K bN) d):Pn P w K mg base "Book" 1 Ck 17 Lk:=c0E (N:=["self","offers","pairs"]) OB.iq OB.Ec OB.qO D' λX r h=>by
 cases r
 exact (b3r (b66 (i:=2) (N':=["name","rule"]) (caps:=[]) (nt:=2) h ⟨rfl,by decide +kernel,by decide +kernel,by decide +kernel,by decide +kernel,rfl,rfl,by decide +kernel⟩ (Ai (h.v 1)) (λX1 fP fO ei cQ fN h1=>⟨(Gq (n:=2) h1.calm (yQ (h1.tg 0) (yQ (h1.tg 1) GA))),r6,(vT (aj (h1.v 0) (aj (h1.v 1) aW)))⟩)) (Yr (ZV (h.cl O3 (aj (yN h.g z_len (h.bv 2)) aW))) (Yr (ZV (h.cl OX (aj (t9 (N':=["name","rule"]) (caps:=[]) (nt:=2) h ⟨rfl,by decide +kernel,by decide +kernel,by decide +kernel,by decide +kernel,rfl,rfl,by decide +kernel⟩ (Ai (h.v 2)) (λX1 fP fO ei cQ fN h1=>⟨(Gq (n:=2) h1.calm (yQ (h1.tg 0) (yQ (h1.tg 1) GA))),r6,(h1.v 0)⟩)) aW))) (h.Fv OB.iq.c OB.eY (h.v 2) (h.Fv OB.iq.c OB.dP (b5e h.calm h.g z_dict (h.v 2)) (h.iwc OY OB.iq.c OB.dP NK))))))
variable (mm:Pn P w K mg base "Book" 1 Ck 17 Lk)
include OB in
theorem b2Q(D':VS (cA K aw) d):Dq P w K mg base bP cL aw "Single" 1 Bn 1 Co:=Tv (N:=["self","one"]) OB.m6 OB.mW D' λX r h=>by
 cases r
 exact (h.gE OB.hU.c OB.jz (h.v 1) yO)
variable (pJ:Dq P w K mg base bP cL aw "Single" 1 Bn 1 Co)
include OB pJ in
theorem b2P(D':a7G (cA K bX) d):lp P w K mg base "Fee" 2 KP 2 Ur:=TJ (N:=["self","one","price"]) OB.hU OB.Jp OB.yY D' λX r h=>by
 cases r
 exact (h.QL pJ (aj (h.v 1) aW) (h.Fv OB.hU.c OB.gw (h.v 2) NK))
variable (pI:lp P w K mg base "Fee" 2 KP 2 Ur)
include OB in
theorem a9Z(D':VS (cA K aw) d):Dq P w K mg base bP bp aw "Single" 1 Bn 1 Co:=Tv (N:=["self","one"]) OB.m6 OB.mW D' λX r h=>by
 cases r
 exact (h.gE OB.c8.c OB.gA (h.v 1) yO)
variable (kS:Dq P w K mg base bP bp aw "Single" 1 Bn 1 Co)
include OB kS in
theorem a9Y(D':a6e (cA K bC) d):lp P w K mg base "After" 2 K' 2 UZ:=TJ (N:=["self","one","count"]) OB.c8 OB.BU OB.oM D' λX r h=>by
 cases r
 exact (h.QL kS (aj (h.v 1) aW) (h.Fv OB.c8.c OB.e9 (h.v 2) NK))
variable (kR:lp P w K mg base "After" 2 K' 2 UZ)
include OB in
theorem b1E(D':VS (cA K aw) d):Dq P w K mg base bP bF aw "Single" 1 Bn 1 Co:=Tv (N:=["self","one"]) OB.m6 OB.mW D' λX r h=>by
 cases r
 exact (h.gE OB.dy.c OB.ij (h.v 1) yO)
variable (mr:Dq P w K mg base bP bF aw "Single" 1 Bn 1 Co)
include OB mr in
theorem b1B(D':a64 (cA K bK) d):lp P w K mg base "Only" 3 KZ 2 UM:=TJ (N:=["self","one","low","high"]) OB.dy OB.D9 OB.qL D' λX r h=>by
 cases r
 exact (h.QL mr (aj (h.v 1) aW) (h.Fv OB.dy.c OB.ik (h.v 2) (h.Fv OB.dy.c OB.gr (h.v 3) NK)))
variable (mn:lp P w K mg base "Only" 3 KZ 2 UM)
include OB in
theorem a8M(D':VU (cA K aL) d):lp P w K mg base "Dearer" 2 Lj 1 Vd:=Ca (N:=["self","one","other"]) OB.cG OB.zK OB.mB D' λX r h=>by
 cases r
 exact (h.gE OB.cG.c OB.fK (h.v 1) (h.gE OB.cG.c OB.dO (h.v 2) yO))
variable (jE:lp P w K mg base "Dearer" 2 Lj 1 Vd)
include OB in
theorem a71(D':VU (cA K aL) d):lp P w K mg base "Cheaper" 2 Lh 1 VA:=Ca (N:=["self","one","other"]) OB.b8 OB.uW OB.kW D' λX r h=>by
 cases r
 exact (h.gE OB.b8.c OB.eX (h.v 1) (h.gE OB.b8.c OB.dv (h.v 2) yO))
variable (iK:lp P w K mg base "Cheaper" 2 Lh 1 VA)
include OB in
theorem b2O(D':VU (cA K aL) d):lp P w K mg base "Sum" 2 KQ 1 Us:=Ca (N:=["self","one","other"]) OB.hJ OB.Jo OB.yX D' λX r h=>by
 cases r
 exact (h.gE OB.hJ.c OB.jy (h.v 1) (h.gE OB.hJ.c OB.gq (h.v 2) yO))
variable (pH:lp P w K mg base "Sum" 2 KQ 1 Us)
include OB in
theorem a9W(D':a6d (cA K bB) d):lp P w K mg base "Named" 1 Ld 1 U0:=Ca (N:=["self","name"]) OB.fg OB.BR OB.oJ D' λX r h=>by
 cases r
 exact (h.gE OB.fg.c OB.fI (h.v 1) yO)
variable (kP:lp P w K mg base "Named" 1 Ld 1 U0)
include OB in
theorem a8N(D':a5T (cA K br) d):lp P w K mg base "Blocks" 3 Li 1 Vc:=Ca (N:=["self","size","price","many"]) OB.cy OB.zL OB.mC D' λX r h=>by
 cases r
 exact (h.gE OB.cy.c OB.eZ (h.v 1) (h.gE OB.cy.c OB.dQ (h.v 2) (h.gE OB.cy.c OB.e8 (h.v 3) yO)))
variable (jF:lp P w K mg base "Blocks" 3 Li 1 Vc)
include OB in
theorem a9V(D':a4v (cA K aX) d):lp P w K mg base "Steps" 1 Le 1 OD:=Ca (N:=["self","rows"]) OB.dR OB.BQ OB.oI D' λX r h=>by
 cases r
 exact (h.gE OB.dR.c OB.fH (t9 (N':=["top","unit"]) (caps:=[]) (nt:=2) h ⟨rfl,by decide +kernel,by decide +kernel,by decide +kernel,by decide +kernel,rfl,rfl,by decide +kernel⟩ (Ai (h.v 1)) (λX1 fP fO ei cQ fN h1=>⟨(Gq (n:=2) h1.calm (yQ (h1.tg 0) (yQ (h1.tg 1) GA))),r6,(vT (aj (h1.v 0) (aj (h1.v 1) aW)))⟩)) yO)
variable (kO:lp P w K mg base "Steps" 1 Le 1 OD)
include OB in
theorem a9X(D':a4v (cA K aX) d):lp P w K mg base "Bands" 1 Lc 1 OC:=Ca (N:=["self","rows"]) OB.dW OB.BS OB.oK D' λX r h=>by
 cases r
 exact (h.gE OB.dW.c OB.fL (t9 (N':=["top","unit"]) (caps:=[]) (nt:=2) h ⟨rfl,by decide +kernel,by decide +kernel,by decide +kernel,by decide +kernel,rfl,rfl,by decide +kernel⟩ (Ai (h.v 1)) (λX1 fP fO ei cQ fN h1=>⟨(Gq (n:=2) h1.calm (yQ (h1.tg 0) (yQ (h1.tg 1) GA))),r6,(vT (aj (h1.v 0) (aj (h1.v 1) aW)))⟩)) yO)
variable (kQ:lp P w K mg base "Bands" 1 Lc 1 OC)
include OB in
theorem b1C(D':a65 (cA K bL) d):lp P w K mg base "Flat" 3 KY 1 UL:=Ca (N:=["self","price","low","high"]) OB.dS OB.Ea OB.qM D' λX r h=>by
 cases r
 exact (h.gE OB.dS.c OB.fJ (h.v 1) (h.gE OB.dS.c OB.il (h.v 2) (h.gE OB.dS.c OB.gu (h.v 3) yO)))
variable (mo:lp P w K mg base "Flat" 3 KY 1 UL)
include OB in
theorem b1D(D':a66 (cA K bM) d):lp P w K mg base "Each" 3 KW 1 UK:=Ca (N:=["self","unit","low","high"]) OB.dU OB.Eb OB.qN D' λX r h=>by
 cases r
 exact (h.gE OB.dU.c OB.gx (h.v 1) (h.gE OB.dU.c OB.ip (h.v 2) (h.gE OB.dU.c OB.gz (h.v 3) yO)))
variable (mq:lp P w K mg base "Each" 3 KW 1 UK)
include z_list bD pI kR mn jE iK pH kP jF kO kQ mo mq in
theorem a9P(D':GI (Def K mg) a d):GI (Oz P w K mg base) (mI+4) (VF lK):=h7 (N:=["plan","kind"]) D' λX r h=>by
 cases r
 exact (cJ (h.dG 1 (dt (h.bv 0) aS)) (cJ (ig (gp (jN h.u8) (h.v 1) bZ) (b7 (dI (h.w5 mq (aj (dt (h.bv 0) aS) (aj (dt (h.bv 0) aS) (aj (dt (h.bv 0) aS) aW))) (hj:=by omega)))) iP) (cJ (ig (gp (jN h.u8) (h.v 1) bZ) (b7 (dI (h.w5 mo (aj (dt (h.bv 0) aS) (aj (dt (h.bv 0) aS) (aj (dt (h.bv 0) aS) aW))) (hj:=by omega)))) iP) (cJ (ig (gp (jN h.u8) (h.v 1) bZ) (b7 (dI (h.w5 kQ (aj (ZP h.g z_list (t7 (dt (h.bv 0) aS))) aW) (hj:=by omega)))) iP) (cJ (ig (gp (jN h.u8) (h.v 1) bZ) (b7 (dI (h.w5 kO (aj (ZP h.g z_list (t7 (dt (h.bv 0) aS))) aW) (hj:=by omega)))) iP) (cJ (ig (gp (jN h.u8) (h.v 1) bZ) (b7 (dI (h.w5 jF (aj (dt (h.bv 0) aS) (aj (dt (h.bv 0) aS) (aj (dt (h.bv 0) aS) aW))) (hj:=by omega)))) iP) (cJ (ig (gp (jN h.u8) (h.v 1) bZ) (b7 (dI (h.w5 kP (aj (dt (h.bv 0) aS) aW) (hj:=by omega)))) iP) (cJ (ig (gp (jN h.u8) (h.v 1) bZ) (b7 (dI (h.w5 pH (aj (h.cl bD (aj (dt (h.bv 0) aS) aW) (hj:=by omega)) (aj (h.cl bD (aj (dt (h.bv 0) aS) aW) (hj:=by omega)) aW)) (hj:=by omega)))) iP) (cJ (ig (gp (jN h.u8) (h.v 1) bZ) (b7 (dI (h.w5 iK (aj (h.cl bD (aj (dt (h.bv 0) aS) aW) (hj:=by omega)) (aj (h.cl bD (aj (dt (h.bv 0) aS) aW) (hj:=by omega)) aW)) (hj:=by omega)))) iP) (cJ (ig (gp (jN h.u8) (h.v 1) bZ) (b7 (dI (h.w5 jE (aj (h.cl bD (aj (dt (h.bv 0) aS) aW) (hj:=by omega)) (aj (h.cl bD (aj (dt (h.bv 0) aS) aW) (hj:=by omega)) aW)) (hj:=by omega)))) iP) (cJ (ig (gp (jN h.u8) (h.v 1) bZ) (b7 (dI (h.w5 mn (aj (h.cl bD (aj (dt (h.bv 0) aS) aW) (hj:=by omega)) (aj (dt (h.bv 0) aS) (aj (dt (h.bv 0) aS) aW))) (hj:=by omega)))) iP) (cJ (ig (gp (jN h.u8) (h.v 1) bZ) (b7 (dI (h.w5 kR (aj (h.cl bD (aj (dt (h.bv 0) aS) aW) (hj:=by omega)) (aj (dt (h.bv 0) aS) aW)) (hj:=by omega)))) iP) (b7 (dI (h.w5 pI (aj (h.cl bD (aj (dt (h.bv 0) aS) aW) (hj:=by omega)) (aj (dt (h.bv 0) aS) aW)) (hj:=by omega))))))))))))))))
variable (Ot:GI (Oz P w K mg base) 25 (vW 6))
include z_len in
theorem b2M(D':UP (Def K mg) a d):UP (Oz P w K mg base) 1 yT:=h7 (N:=["script","k"]) D' λX r h=>by
 cases r
 exact (cJ (ig (gp Tt (h.v 1) (yN h.g z_len (h.bv 0))) (b7 (dI (dt (h.bv 0) (h.v 1)))) iP) (b7 (dI aS)))
variable (Aj:UP (Oz P w K mg base) 1 yT)
theorem b1y(D':U3 (Def K mg) a d):U3 (Oz P w K mg base) 1 ja:=h7 (N:=["cell","k","size","odd","big"]) D' λX r h=>by
 cases r
 exact (cJ (h.dG 3 (bW eE aS (bW ua (bW ua aS (h.v 1)) (h.v 1)))) (cJ (h.dG 4 (bW eE (bW ua (bW eE (bW vV (h.v 0) (bW Cg aS aS)) aS) (h.v 3)) (bW ua aS (h.v 1)))) (b7 (dI (bW vV (bW NL (bW vV (bW ua (h.v 4) (h.v 4)) (bW eE (bW Cg aS aS) aS)) aS) (h.v 2))))))
variable (iO:U3 (Oz P w K mg base) 1 ja)
include iO in
theorem a8L(D':VB (Def K mg) a d):VB (Oz P w K mg base) 2 Dl:=h7 (N:=["cell","k","most"]) D' λX r h=>by
 cases r
 exact (cJ (h.dG 2 (dt (t7 (jS (aj aS (aj (bW Cg aS aS) (aj (bW Cg aS aS) aW))))) (h.cl iO (aj (h.v 0) (aj (bW eE (h.v 1) aS) (aj aS aW)))))) (b7 (dI (bW Y8 (h.cl iO (aj (h.v 0) (aj (h.v 1) (aj (bW eE (bW ua aS (h.v 2)) aS) aW)))) (h.v 2)))))
variable (Bj:VB (Oz P w K mg base) 2 Dl)
include iO Bj in
theorem a7T(D':VQ (Def K mg) a d):VQ (Oz P w K mg base) 3 GP:=h7 (N:=["one","kind","cell","scale","low"]) D' λX r h=>by
 cases r
 exact (cJ (ig (gp (jN h.u8) (h.v 1) bZ) (cJ (h.dG 4 (bW ua (h.cl iO (aj (h.v 2) (aj aS (aj (h.v 3) aW)))) (h.cl iO (aj (h.v 2) (aj aS (aj aS aW)))))) (b7 (dI (vT (aj (h.v 1) (aj (h.v 0) (aj (h.v 4) (aj (bW eE (h.v 4) (h.cl iO (aj (h.v 2) (aj aS (aj (bW ua aS (h.v 3)) aW))))) aW)))))))) iP) (cJ (ig (gp (jN h.u8) (h.v 1) bZ) (b7 (dI (vT (aj (h.v 1) (aj (h.v 0) (aj (h.cl iO (aj (h.v 2) (aj aS (aj (h.v 3) aW)))) aW)))))) iP) (b7 (dI (vT (aj bZ (aj (h.v 0) (aj (h.cl Bj (aj (h.v 2) (aj aS aW))) aW))))))))
variable (O5:VQ (Oz P w K mg base) 3 GP)
include z_range iO Bj in
theorem a9Q(D':Vh (Def K mg) a d):Vh (Oz P w K mg base) 3 GS:=h7 (N:=["cell","scale","rows","top","j"]) D' λX r h=>by
 cases r
 exact (cJ (h.set 2 (jS aW)) (cJ (h.dG 3 (bW NL (bW ua (h.cl iO (aj (h.v 0) (aj aS (aj (h.v 1) aW)))) (h.cl iO (aj (h.v 0) (aj aS (aj aS aW))))) aS)) (cJ (b0J h.own h.calm h.g z_range (aj (bW eE aS (h.cl iO (aj (h.v 0) (aj aS (aj aS aW))))) aW) (h.tg 4) (cJ (h.app 2 (vT (aj (h.v 3) (aj (h.cl Bj (aj (h.v 0) (aj (bW eE aS (h.v 4)) aW))) aW)))) (b7 (h.dG 3 (bW eE (bW eE (h.v 3) aS) (h.cl iO (aj (h.v 0) (aj (bW eE aS (h.v 4)) (aj (h.v 1) aW))))))))) (b7 (h.ze 2)))))
variable (Oq:Vh (Oz P w K mg base) 3 GS)
include z_len z_int iO Bj Oq in
theorem a9R(D':Vg (Def K mg) a d):Vg (Oz P w K mg base) 4 GR:=h7 (N:=["cell","scale","names","kind","price","low","high"]) D' λX r h=>by
 cases r
 exact (cJ (h.dG 3 (dt (t7 (jS (aj bZ (aj bZ (aj bZ (aj bZ (aj bZ (aj bZ (aj bZ aW))))))))) (h.cl iO (aj (h.v 0) (aj aS (aj aS aW)))))) (cJ (h.dG 4 (h.cl Bj (aj (h.v 0) (aj aS aW)))) (cJ (h.dG 5 (bW ua (h.cl iO (aj (h.v 0) (aj aS (aj (h.v 1) aW)))) (h.cl iO (aj (h.v 0) (aj aS (aj aS aW)))))) (cJ (h.dG 6 (bW eE (h.v 5) (bW ua (h.cl iO (aj (h.v 0) (aj aS (aj (h.v 1) aW)))) (h.cl iO (aj (h.v 0) (aj aS (aj aS aW))))))) (cJ (ig (oN (EI (gp (jN h.u8) (h.v 3) bZ) (Gw (gp (jN h.u8) (h.v 3) bZ)))) (b7 (dI (vT (aj (h.v 3) (aj (h.cl Oq (aj (h.v 0) (aj (h.v 1) aW))) aW))))) iP) (cJ (ig (gp (jN h.u8) (h.v 3) bZ) (b7 (dI (vT (aj (h.v 3) (aj (bW eE aS (h.cl iO (aj (h.v 0) (aj aS (aj (h.v 1) aW))))) (aj (h.v 4) (aj (bW eE aS (h.cl iO (aj (h.v 0) (aj aS (aj aS aW))))) aW))))))) iP) (cJ (ig (oN (T9 (gp (jN h.u8) (h.v 3) bZ) (Uz (gp Kz (yN h.g z_len (h.bv 2)) aS)))) (b7 (dI (vT (aj (h.v 3) (aj (dt (h.bv 2) (h.cl iO (aj (h.v 0) (aj aS (aj (yN h.g z_len (h.bv 2)) aW))))) aW))))) iP) (b7 (dI (vT (aj (dt (t7 (jS (aj bZ (aj bZ aW)))) (b78 h.g z_int (NR (KR h.u8) (h.v 3) bZ))) (aj (h.v 4) (aj (h.v 5) (aj (h.v 6) aW))))))))))))))
variable (Oo:Vg (Oz P w K mg base) 4 GR)
include z_len iO O5 Oo in
theorem a9N(D':Vi (Def K mg) a d):Vi (Oz P w K mg base) 5 GU:=h7 (N:=["numbers","scale","names","stack","cell","kind","other"]) D' λX r h=>by
 cases r
 exact (cJ (h.set 3 (jS aW)) (cJ (KN h.own h.calm (h.v 0) (h.tg 4) (cJ (h.dG 5 (h.cl iO (aj (h.v 4) (aj aS (aj aS aW))))) (b7 (ig (oN (T9 (gp Kz (h.v 5) aS) (Uz (gp Kz (yN h.g z_len (h.bv 3)) aS)))) (b7 (h.KE 3 (h.clP O5 (h.aph 3 (aj (dt (t7 (jS (aj bZ (aj bZ (aj bZ aW))))) (bW Y8 (h.v 5) aS)) (aj (h.v 4) (aj (h.v 1) aW))))))) (b7 (h.app 3 (h.cl Oo (aj (h.v 4) (aj (h.v 1) (aj (h.v 2) aW)))))))))) (cJ (b0I a6B h.own (gp Kz (yN h.g z_len (h.bv 3)) aS) (cJ (h.pop 6 3) (b7 (h.KE 3 (c0O (b8q (dt (t7 (jS (aj bZ (aj bZ (aj bZ (aj bZ aW)))))) (h.cl iO (aj (dt (h.bv 0) aS) (aj aS (aj aS aW))))) (h.aph 3 (aj (h.v 6) aW)))))))) (b7 (dI (dt (h.bv 3) aS))))))
variable (Ov:Vi (Oz P w K mg base) 5 GU)
include z_len z_range Aj in
theorem a7U(D':VP (Def K mg) a d):VP (Oz P w K mg base) 2 GO:=h7 (N:=["script","first","most","numbers","k","kept"]) D' λX r h=>by
 cases r
 exact (cJ (h.set 3 (jS (aj (h.cl Aj (aj (h.v 0) (aj (h.v 1) aW))) aW))) (cJ (Ux h.own h.calm (b4Q h.g z_range (aj (bW eE (h.v 1) aS) (aj (yN h.g z_len (h.bv 0)) aW))) (h.tg 4) (b7 (ig (gp Tt (yN h.g z_len (h.bv 3)) (h.v 2)) (b7 (h.app 3 (bW vV (dt (h.bv 0) (h.v 4)) (bW Cg aS aS)))) (cJ (h.dG 5 (bW eE (bW ua (dt (h.bv 3) (bW vV (h.v 4) (h.v 2))) aS) (bW vV (dt (h.bv 0) (h.v 4)) (bW Cg aS aS)))) (b7 (h.item 3 (bW vV (h.v 5) (bW Cg aS aS)) (bW vV (h.v 4) (h.v 2)))))))) (b7 (h.ze 3))))
variable (O4:VP (Oz P w K mg base) 2 GO)
include z_range iO in
theorem a8K(D':VC (Def K mg) a d):VC (Oz P w K mg base) 2 Lm:=h7 (N:=["cell","size","letters","head","tail"]) D' λX r h=>by
 cases r
 exact (cJ (h.dG 2 bZ) (cJ (h.dG 3 (Nz bZ (t7 (t9 (N':=["j","cell"]) (caps:=[0]) (nt:=1) h ⟨rfl,by decide +kernel,by decide +kernel,by decide +kernel,by decide +kernel,rfl,rfl,by decide +kernel⟩ (Oe h.g z_range (aj (h.cl iO (aj (h.v 0) (aj aS (aj aS aW)))) aW)) (λX1 fP fO ei cQ fN h1=>⟨(h1.tg 0),r6,(TN bZ (h1.cl (zo fP fO ei cQ fN iO) (aj (h1.v 1) (aj (h1.v 0) (aj aS aW)))))⟩))))) (cJ (h.dG 4 (Nz bZ (t7 (t9 (N':=["j","cell"]) (caps:=[0]) (nt:=1) h ⟨rfl,by decide +kernel,by decide +kernel,by decide +kernel,by decide +kernel,rfl,rfl,by decide +kernel⟩ (Oe h.g z_range (aj (h.cl iO (aj (h.v 0) (aj aS (aj aS aW)))) aW)) (λX1 fP fO ei cQ fN h1=>⟨(h1.tg 0),r6,(TN bZ (h1.cl (zo fP fO ei cQ fN iO) (aj (h1.v 1) (aj (bW eE (h1.v 0) aS) (aj aS aW)))))⟩))))) (b7 (dI (t9 (N':=["k","head","letters","cell","tail"]) (caps:=[3,2,0,4]) (nt:=1) h ⟨rfl,by decide +kernel,by decide +kernel,by decide +kernel,by decide +kernel,rfl,rfl,by decide +kernel⟩ (Oe h.g z_range (aj (h.v 1) aW)) (λX1 fP fO ei cQ fN h1=>⟨(h1.tg 0),r6,(bW eE (bW eE (h1.v 1) (TN (h1.v 2) (bW vV (bW eE (h1.cl (zo fP fO ei cQ fN iO) (aj (h1.v 3) (aj aS (aj aS aW)))) (bW ua aS (h1.v 0))) aS))) (h1.v 4))⟩)))))))
variable (OF:VC (Oz P w K mg base) 2 Lm)
include z_len z_range Aj Ov O4 OF in
theorem a9S(D':Vf (Def K mg) a d):Vf (Oz P w K mg base) 6 Di:=h7 (N:=["script","scale","size","names","numbers","offers","k","own"]) D' λX r h=>by
 cases r
 exact (cJ (h.dG 1 (dt (t7 (jS (aj aS (aj (bW Cg aS aS) (aj (bW Cg aS aS) aW))))) (bW vV (h.cl Aj (aj (h.v 0) (aj aS aW))) aS))) (cJ (h.dG 2 (bW eE aS (bW vV (bW NL (h.cl Aj (aj (h.v 0) (aj aS aW))) aS) aS))) (cJ (h.dG 3 (h.cl OF (aj (h.cl Aj (aj (h.v 0) (aj aS aW))) (aj (h.v 2) aW)))) (cJ (h.dG 4 (h.cl O4 (aj (h.v 0) (aj aS (aj (bW ua aS (h.v 2)) aW))))) (cJ (h.set 5 (jS aW)) (cJ (b0J h.own h.calm h.g z_range (aj (h.v 2) aW) (h.tg 6) (cJ (h.dG 7 (bW eE (t9 (N':=["j","numbers","size","k"]) (caps:=[4,2,6]) (nt:=1) h ⟨rfl,by decide +kernel,by decide +kernel,by decide +kernel,by decide +kernel,rfl,rfl,by decide +kernel⟩ (Oe h.g z_range (aj (yN h.g z_len (h.bv 4)) aW)) (λX1 fP fO ei cQ fN h1=>⟨(h1.tg 0),(c0w (gp (jN h1.u8) (bW vV (h1.v 0) (h1.v 2)) (h1.v 3))),(dt (h1.bv 1) (h1.v 0))⟩)) (jS (aj (bW eE (h.cl Aj (aj (h.v 0) (aj aS aW))) (h.v 6)) aW)))) (b7 (h.app 5 (vT (aj (dt (h.bv 3) (h.v 6)) (aj (h.cl Ov (aj (b05 (h.bv 7) N2 (N3 aS)) (aj (h.v 1) (aj (b05 (h.bv 3) N2 (N3 (h.v 6))) aW)))) aW))))))) (cJ (ig (gp (jN h.u8) (bW vV (bW NL (h.cl Aj (aj (h.v 0) (aj aS aW))) aS) aS) aS) (b7 (h.rev 5)) iP) (b7 (h.ze 5)))))))))
variable (Oj:Vf (Oz P w K mg base) 6 Di)
include z_len EY GK iJ Ou jG mm Ot Oj in
theorem b92(D':Hh (Def K mg) a d):cx P w K mg base jw 26 a d ["script"] (qR K 1 N1):=Jw (N:=["script","offers","handed","book","name","plan"]) D' λX r h=>by
 cases r
 exact (cJ (h.dG 1 (h.cl Oj (aj (h.v 0) aW))) (cJ (b6X (i:=2) true (N':=["offer"]) (caps:=[]) (nt:=1) h ⟨rfl,by decide +kernel,by decide +kernel,by decide +kernel,by decide +kernel,rfl,rfl,by decide +kernel⟩ (Ai (h.v 1)) (λX1 fP fO ei cQ fN h1=>⟨(h1.tg 0),r6,(vT (aj (dt (h1.bv 0) aS) (aj (h1.cl (zo fP fO ei cQ fN Ot) (aj (dt (h1.bv 0) aS) aW)) aW)))⟩)) (cJ (h.dG 3 (h.mkW 2 mm (h.v 2))) (cJ (ig (gp (KR h.u8) (yN h.g z_len (h.bv 2)) (yN h.g z_len (h.bv 1))) (b7 (dI yL)) iP) (cJ (h.clr 2) (cJ (ig (gp (KR h.u8) (t9 (N':=["offer"]) (caps:=[]) (nt:=1) h ⟨rfl,by decide +kernel,by decide +kernel,by decide +kernel,by decide +kernel,rfl,rfl,by decide +kernel⟩ (Ai (lb (h.v 3) jG)) (λX1 fP fO ei cQ fN h1=>⟨(h1.tg 0),r6,(dt (h1.bv 0) aS)⟩)) (t9 (N':=["offer"]) (caps:=[]) (nt:=1) h ⟨rfl,by decide +kernel,by decide +kernel,by decide +kernel,by decide +kernel,rfl,rfl,by decide +kernel⟩ (Ai (h.v 1)) (λX1 fP fO ei cQ fN h1=>⟨(h1.tg 0),r6,(dt (h1.bv 0) aS)⟩))) (b7 (dI yL)) iP) (cJ (KN h.own h.calm (h.v 1) (Gq (n:=2) h.calm (yQ (h.tg 4) (yQ (h.tg 5) GA))) (cJ (ig (gp (KR h.u8) (h.w4 (n:=1) iJ (h.cl EY (aj (h.v 3) (aj (h.v 4) aW)))) (h.cl Ou (aj (h.v 5) aW))) (b7 (dI yL)) iP) (b7 (ig (oN (T9 (gp (b94 h.u8) (a9c (h.v 4) N2 (N3 (Zl aS))) (t9 (N':=["offer"]) (caps:=[]) (nt:=1) h ⟨rfl,by decide +kernel,by decide +kernel,by decide +kernel,by decide +kernel,rfl,rfl,by decide +kernel⟩ (Ai (h.v 1)) (λX1 fP fO ei cQ fN h1=>⟨(h1.tg 0),r6,(dt (h1.bv 0) aS)⟩)) (by with_unfolding_all rfl)) (Uz (gp (KR h.u8) (h.cl GK (aj (h.v 3) (aj (a9c (h.v 4) N2 (N3 (Zl aS))) aW))) (jS (aj yL (aj yL aW))))))) (b7 (dI yL)) iP)))) (b7 (dI (c0M (NR (jN h.u8) (h.cl GK (aj (h.v 3) (aj (bW eE (dt (t7 (dt (h.bv 1) aS)) aS) bZ) aW))) (jS (aj yL (aj yL aW)))) (c0J (NR (jN h.u8) (h.cl GK (aj (h.v 3) (aj bZ aW))) (jS (aj yL (aj yL aW)))))))))))))))
end
local macro_rules | `(tactic| walk_at "m1")=>`(tactic| (intro _ _ _ _ _ _ us hu; obtain ⟨_,h⟩:=b7B hu; subst h; rfl))
local macro_rules | `(tactic| walk_at "m2")=>`(tactic| (intro _ _ _ _ _ _ us hu; obtain ⟨_,_,h⟩:=b7A hu; subst h; rfl))
local macro_rules | `(tactic| walk_at "m3")=>`(tactic| (intro _ _ _ _ _ _ us hu; obtain ⟨_,_,_,h⟩:=b7z hu; subst h; rfl))
local macro_rules | `(tactic| walk_at "m4")=>`(tactic| (intro _ _ _ _ _ _ us hu; obtain ⟨_,_,_,_,h⟩:=c0h hu; subst h; rfl))
theorem all_mk{l:SU}{w:World}{K:aJ}{h:Heap}{mg:Str->Option Value}{fa:Addr}(X:K.In h)(G:h.Ns mainGlobals mg)(Ms:mg "law" = some (.ref fa))
  (i1:FI K "rule_of" a7m f1 od1 an1 sl1 oc1 kV1 dc1 pm1 cd1 ct1)
  (i2:FI K "_law_refused" a4x f2 od2 an2 Hz oc2 kV2 dc2 pm2 cd2 ct2)
  (i3:FI K "worded" a8z f3 od3 an3 sl3 oc3 kV3 dc3 pm3 cd3 ct3)
  (i4:FI K "_law_text" a6j f4 od4 an4 sl4 oc4 kV4 dc4 pm4 cd4 ct4)
  (i5:FI K "reached_from" a3U f5 od5 an5 sl5 oc5 kV5 dc5 pm5 cd5 ct5)
  (i6:FI K "check_needs" a4y f6 od6 an6 sl6 oc6 kV6 dc6 pm6 cd6 ct6)
  (i7:FI K "is_name" a7o f7 od7 an7 sl7 oc7 kV7 dc7 pm7 cd7 ct7)
  (i8:FI K "check_names" a4z f8 od8 an8 sl8 oc8 kV8 dc8 pm8 cd8 ct8)
  (i9:FI K "check_many" a4S f9 od9 an9 sl9 oc9 kV9 dc9 pm9 cd9 ct9)
  (WW:FI K "_law_rule" a6k f10 od10 an10 sl10 oc10 kV10 dc10 pm10 cd10 ct10)
  (i11:FI K "_law_at" a8A f11 od11 an11 sl11 oc11 kV11 dc11 pm11 cd11 ct11)
  (i12:FI K "_law_mix" a7n f12 od12 an12 sl12 oc12 kV12 dc12 pm12 cd12 ct12)
  (i13:FI K "_law_price" a5Q f13 od13 an13 sl13 oc13 kV13 dc13 pm13 cd13 ct13)
  (i14:FI K "_law_turned" a4Q f14 od14 an14 sl14 oc14 kV14 dc14 pm14 cd14 ct14)
  (i15:FI K "_law_rows" a6l f15 od15 an15 sl15 oc15 kV15 dc15 pm15 cd15 ct15)
  (i16:FI K "_law_leaf" a6m f16 od16 an16 sl16 oc16 kV16 dc16 pm16 cd16 ct16)
  (i17:FI K "_law_tree" a6i f17 od17 an17 sl17 oc17 kV17 dc17 pm17 cd17 ct17)
  (i18:FI K "_law_folded" a4R f18 od18 an18 sl18 oc18 kV18 dc18 pm18 cd18 ct18)
  (i19:FI K "_law_words" a5P f19 od19 an19 sl19 oc19 kV19 dc19 pm19 cd19 ct19)
  (i20:FI K "_law_book" a6n f20 od20 an20 sl20 oc20 kV20 dc20 pm20 cd20 ct20)
  (WU:FI K "law" KU f21 od21 Ul sl21 oc21 QJ RM Qq RQ RO)
  (Pw:kf K mainGlobals "str" = some none)
  (PB:kf K mainGlobals "all" = some none)
  (yV:∃t,kf K mainGlobals "LETTERS" = some (some (.str "abcdefghijklmnopqrstuvwxyz" t)))
  {lI lH lG lF lE lD lC lB lA lz kD kC kB kA kz kx:Tok}{lx:Addr}{pX:Option Addr}{pV:Array (Option Value)}{pW:Nat}(qJ:kf K mainGlobals "OWN_WORDS" = some (some (.ref lx)))(qK:K.lookup lx=some ⟨.type "tuple",pX,.seq #[.str "each" lI,.str "from" lH,.str "to" lG,.str "flat" lF,.str "bands" lE,.str "steps" lD,.str "blocks" lC,.str "at" lB,.str "times" lA,.str "plus" lz,.str "or" kD,.str "max" kC,.str "only" kB,.str "after" kA,.str "roomy" kz,.str "fee" kx] pW,pV⟩)
  (Py:kf K mainGlobals "len" = some none)
  (nA:∃t,kf K mainGlobals "MOST_LETTERS" = some (some (.int 8 t)))
  (oH:∃t,kf K mainGlobals "MOST_OFFERS" = some (some (.int 30 t)))
  (Px:kf K mainGlobals "set" = some none)
  (Ds:kf K mainGlobals "range" = some none)
  (Pz:kf K mainGlobals "int" = some none)
  (G4:kf K mainGlobals "list" = some none)
  (pR:kf K mainGlobals "isinstance" = some none)
  (pS:kf K mainGlobals "ValueError" = some none)
  (Bs:kf K mainGlobals "sorted" = some none)
  (G5:kf K mainGlobals "dict" = some none)
  {lr:Addr}(Wm:kf K mainGlobals "NoOffer" = some (some (.ref lr)))(v0j:pk K (.ref lr) "__getattribute__" = some (some (.builtin "BaseException.__getattribute__")))(v0l:pk K (.ref lr) "__getattr__" = some none)(v0n:pk K (.ref lr) "__class__" = some (some (.builtin "object.__class__")))(v0p:FP K lr (.type "object")=some true)(v0t:FP K lr (.type "BaseException")=some true)(v0r:(PySem.W.clsIn K lr).isSome=true)
  {pU:Addr}(Wl:kf K mainGlobals "OfferError" = some (some (.ref pU)))(v0k:pk K (.ref pU) "__getattribute__" = some (some (.builtin "BaseException.__getattribute__")))(v0m:pk K (.ref pU) "__getattr__" = some none)(v0o:pk K (.ref pU) "__class__" = some (some (.builtin "object.__class__")))(v0q:FP K pU (.type "object")=some true)(v0u:FP K pU (.type "BaseException")=some true)(v0s:(PySem.W.clsIn K pU).isSome=true)
  (g4:FZ K (.builtin "object.__class__") "__get__" = some (some (.builtin "getset_descriptor.__get__")))(g5:SX K (.builtin "object.__class__")=some true)
  {cf cc bJ bI aZ bU cX aP aY bF bp cL eR bP bx bw aH bj bf be bh ao bG aV bc av bu bo bH aG bg aR aa aU ai bN aw bX bC bK aL bB br aX bL bM:Addr}
  (Af:kf K mainGlobals "Single" = some (some (.ref bP)))
  (dU:dj K "Each" cf)
  (qN:Mk K cf bM)
  (gx:ak K cf "unit")
  (ip:ak K cf "low")
  (gz:ak K cf "high")
  (fW:aA K cf "written" bx)
  (iD:aA K cf "parts" aG)
  (eN:aA K cf "all_names" aa)
  (iE:aA K cf "names" ai)
  (dS:dj K "Flat" cc)
  (qM:Mk K cc bL)
  (fJ:ak K cc "price")
  (il:ak K cc "low")
  (gu:ak K cc "high")
  (fV:aA K cc "written" bw)
  (iB:aA K cc "parts" aG)
  (eM:aA K cc "all_names" aa)
  (iC:aA K cc "names" ai)
  (dW:dj K "Bands" bJ)
  (oK:Mk K bJ aX)
  (fL:ak K bJ "rows")
  (cV:aA K bJ "written_rows" aH)
  (fC:aA K bJ "written" bj)
  (gO:aA K bJ "parts" aG)
  (d7:aA K bJ "all_names" aa)
  (gP:aA K bJ "names" ai)
  (dR:dj K "Steps" bI)
  (oI:Mk K bI aX)
  (fH:ak K bI "rows")
  (cU:aA K bI "written_rows" aH)
  (fw:aA K bI "written" bf)
  (gH:aA K bI "parts" aG)
  (dX:aA K bI "all_names" aa)
  (gJ:aA K bI "names" ai)
  (cy:dj K "Blocks" aZ)
  (mC:Mk K aZ br)
  (eZ:ak K aZ "size")
  (dQ:ak K aZ "price")
  (e8:ak K aZ "many")
  (eQ:aA K aZ "written" be)
  (fZ:aA K aZ "parts" aG)
  (dB:aA K aZ "all_names" aa)
  (gc:aA K aZ "names" ai)
  (fg:dj K "Named" bU)
  (oJ:Mk K bU bB)
  (fI:ak K bU "name")
  (fx:aA K bU "written" bh)
  (gK:aA K bU "parts" aG)
  (dY:aA K bU "all_names" aU)
  (gL:aA K bU "names" ai)
  (hJ:dj K "Sum" cX)
  (yX:Mk K cX aL)
  (jy:ak K cX "one")
  (gq:ak K cX "other")
  (cO:aA K cX "written_between" ao)
  (gG:aA K cX "written" bG)
  (jn:aA K cX "parts" bg)
  (fu:aA K cX "all_names" aa)
  (jo:aA K cX "names" ai)
  (b8:dj K "Cheaper" aP)
  (kW:Mk K aP aL)
  (eX:ak K aP "one")
  (dv:ak K aP "other")
  (cu:aA K aP "written_between" ao)
  (dZ:aA K aP "written" aV)
  (fA:aA K aP "parts" bg)
  (di:aA K aP "all_names" aa)
  (fB:aA K aP "names" ai)
  (cG:dj K "Dearer" aY)
  (mB:Mk K aY aL)
  (fK:ak K aY "one")
  (dO:ak K aY "other")
  (cB:aA K aY "written_between" ao)
  (eO:aA K aY "written" bc)
  (fX:aA K aY "parts" bg)
  (dA:aA K aY "all_names" aa)
  (fY:aA K aY "names" ai)
  (dy:dj K "Only" bF)
  (qL:Mk K bF bK)
  (ij:ak K bF "one")
  (ik:ak K bF "low")
  (gr:ak K bF "high")
  (dh:aA K bF "written_with" av)
  (fU:aA K bF "written" bu)
  (iy:aA K bF "parts" aR)
  (eL:aA K bF "all_names" aa)
  (iA:aA K bF "names" ai)
  (c8:dj K "After" bp)
  (oM:Mk K bp bC)
  (gA:ak K bp "one")
  (e9:ak K bp "count")
  (cW:aA K bp "written_with" av)
  (fD:aA K bp "written" bo)
  (gQ:aA K bp "parts" aR)
  (d8:aA K bp "all_names" aa)
  (gR:aA K bp "names" ai)
  (hU:dj K "Fee" cL)
  (yY:Mk K cL bX)
  (jz:ak K cL "one")
  (gw:ak K cL "price")
  (dz:aA K cL "written_with" av)
  (gM:aA K cL "written" bH)
  (jq:aA K cL "parts" aR)
  (fy:aA K cL "all_names" aa)
  (jr:aA K cL "names" ai)
  (iq:dj K "Book" eR)
  (qO:Mk K eR bN)
  (eY:ak K eR "offers")
  (dP:ak K eR "rules")
  (Gm:pk K (.ref bP) "__init__" = some (some (.ref aw)))
  (vJ:FZ K (.ref bP) "__getattribute__" = some (some (.builtin "type.__getattribute__")))
  (vI:XI K bP (.type "type")=true)
  (vH:XH K (.ref bP) (.type "type") "__init__" = some (.val (.ref aw)))
  (mQ:FM K "written" "Each.written" a32 bx wK yH we wX xE xT wz yo yd)
  (mO:FM K "written" "Flat.written" a30 bw wI yF wb wV xC xR wx ym yb)
  (jI:FM K "written_rows" "Rows.written_rows" a2D aH p7 qq pZ p8 qc qi p5 ql qk)
  (lT:FM K "written" "Bands.written" a3E bj uE vN uj uK uQ u9 uy vp vh)
  (lQ:FM K "written" "Steps.written" a3B bf uB vK ug uH uN u5 uu vm ve)
  (kZ:FM K "written" "Blocks.written" a3f be sQ t5 sC sW tm tI sL tS tN)
  (lR:FM K "written" "Named.written" a3C bh uC vL uh uI uO u6 uw vn vf)
  (ir:FM K "written_between" "Pair.written_between" a2c ao om oC og oq ou oz oi oB oA)
  (nG:FM K "written" "Sum.written" a4A bG zk Ab y8 zp zz zP zg zV zS)
  (kG:FM K "written" "Cheaper.written" a2X aV q9 r0 qV rg rp rN qZ rS rP)
  (kY:FM K "written" "Dearer.written" a3e bc sP t4 sA sV tf tH sJ tR tM)
  (iU:FM K "written_with" "Single.written_with" a2n av oW pz oQ oX oZ o7 oU o9 o8)
  (mL:FM K "written" "Only.written" a3Y bu wG yD v9 wR xA xP wt yj xZ)
  (lU:FM K "written" "After.written" a3F bo uF vO uk uL uR va uz vq vi)
  (nH:FM K "written" "Fee.written" a4B bH zl Ac y9 zq zA zQ zh zW zT)
  (o3:FM K "parts" "Rule.parts" a4T aG Ay Ba Aq AB AF AR Au AZ AW)
  (o5:FM K "parts" "Pair.parts" a4V bg AA Bc As AE AH AU Aw A1 AY)
  (mK:FM K "parts" "Single.parts" a3V aR wC yA v5 wN w6 xM wm yg xW)
  (kX:FM K "all_names" "Rule.all_names" a3d aa sO tZ sy sU sZ tG sI tQ tL)
  (kF:FM K "all_names" "Named.all_names" a2W aU q8 rZ qU rf rm rM qY rR rO)
  (o4:FM K "names" "Rule.names" a4U ai Az Bb Ar AD AG AS Av A0 AX)
  (mS:FM K "__init__" "Book.__init__" a34 bN wM yJ wj wZ xG xV wB yq yf)
  (c9:FM K "__init__" "Single.__init__" a3c aw sN tY sx sT sY tF sH tP tK)
  (nI:FM K "__init__" "Fee.__init__" a4C bX zm Ad za zr zB zR zi zX zU)
  (lV:FM K "__init__" "After.__init__" a3G bC uG vP um uM uS vb uA vt vj)
  (mM:FM K "__init__" "Only.__init__" a3Z bK wH yE wa wU xB xQ wu yk ya)
  (fT:FM K "__init__" "Pair.__init__" a3X aL wF yC v8 wQ w9 xO wq yi xY)
  (lS:FM K "__init__" "Named.__init__" a3D bB uD vM ui uJ uP u7 ux vo vg)
  (k7:FM K "__init__" "Blocks.__init__" a3g br sR t6 sF sX tq tJ sM tT tO)
  (jl:FM K "__init__" "Rows.__init__" a3W aX wD yB v7 wO w8 xN wo yh xX)
  (mP:FM K "__init__" "Flat.__init__" a31 bL wJ yG wc wW xD xS wy yn yc)
  (mR:FM K "__init__" "Each.__init__" a33 bM wL yI wg wY xF xU wA yp ye)
  (PF:RU K (.ref lr) (.ref pU)=some true)
  (PL:J4 K (.ref lr) (.ref lr)=some true)
  (PK:J4 K (.ref lr) (.type "ValueError")=some true)
  {PH Wf Wh:List Value}{L0:Addr}{Wk Wj:Str}{Wb Wg:Bool}{Wi:List Str}{We:Option Bool}{Wc:Option Addr}{Wa V' V9 V8 Wn:Option Value}
  (v0L:K.lookup lr=some (excClassObj Wk Wj lr L0 Wf PH Wb Wi Wh Wg We Wc Wa V' V9 V8 Wn "ValueError.__new__"))(v0M:PySem.W.nsOkIn K L0=true)(v0N:kf K L0 "__init__" = some none)(v0O:PySem.W.tailIn K YF PH=true)
  (fin:∀ns:List Int,ns.length<=63->N1 [.lst true (ns.map D.int)]=some (.sh (.bl true))):
  ∃fd:FuncData,(∀(s:Shared) (v:Value),BindsTo s fd ⟨[v],[]⟩ [("script",v)])/\∀base:Heap,K.In base->base.Ns mainGlobals mg->cx l.prog w K mg base jw 26 fa fd ["script"] (spT K):=by
 have e:=Ms.symm.trans (nh X G WU.a)
 cases e
 have z_str:=z5 X G Pw
 have z_all:=z5 X G PB
 have z_LETTERS:LU mg "LETTERS" "abcdefghijklmnopqrstuvwxyz":=yV.imp λ_ q=>nh X G q
 have z_OWN_WORDS:Po K mg "OWN_WORDS" ["each","from","to","flat","bands","steps","blocks","at","times","plus","or","max","only","after","roomy","fee"]:=c0A (ys:=[("each",lI),("from",lH),("to",lG),("flat",lF),("bands",lE),("steps",lD),("blocks",lC),("at",lB),("times",lA),("plus",lz),("or",kD),("max",kC),("only",kB),("after",kA),("roomy",kz),("fee",kx)]) (nh X G qJ) qK rfl rfl (by simp)
 have z_len:=z5 X G Py
 have z_MOST_LETTERS:LV mg "MOST_LETTERS" 8:=nA.imp λ_ q=>nh X G q
 have z_MOST_OFFERS:LV mg "MOST_OFFERS" 30:=oH.imp λ_ q=>nh X G q
 have z_set:=z5 X G Px
 have z_range:=z5 X G Ds
 have z_int:=z5 X G Pz
 have z_list:=z5 X G G4
 have z_isinstance:=z5 X G pR
 have z_ValueError:=z5 X G pS
 have z_sorted:=z5 X G Bs
 have z_dict:=z5 X G G5
 have TT:Cr K mg lr pU:=⟨⟨Wm,nh X G Wm,⟨v0j,v0l,v0n,g4,g5,v0p,v0t⟩,v0r⟩,⟨Wl,nh X G Wl,⟨v0k,v0m,v0o,g4,g5,v0q,v0u⟩,v0s⟩,PF,PL,PK,⟨⟨PH,L0,Wk,Wj,Wf,Wb,Wi,Wh,Wg,We,Wc,Wa,V',V9,V8,Wn,v0L,v0M,v0N,v0O⟩⟩⟩
 have OB:Obs K mg cf cc bJ bI aZ bU cX aP aY bF bp cL eR bP bx bw aH bj bf be bh ao bG aV bc av bu bo bH aG bg aR aa aU ai bN aw bX bC bK aL bB br aX bL bM:=⟨dU,nh X G dU.a,qN,gx,ip,gz,fW,iD,eN,iE,dS,nh X G dS.a,qM,fJ,il,gu,fV,iB,eM,iC,dW,nh X G dW.a,oK,fL,cV,fC,gO,d7,gP,dR,nh X G dR.a,oI,fH,cU,fw,gH,dX,gJ,cy,nh X G cy.a,mC,eZ,dQ,e8,eQ,fZ,dB,gc,fg,nh X G fg.a,oJ,fI,fx,gK,dY,gL,hJ,nh X G hJ.a,yX,jy,gq,cO,gG,jn,fu,jo,b8,nh X G b8.a,kW,eX,dv,cu,dZ,fA,di,fB,cG,nh X G cG.a,mB,fK,dO,cB,eO,fX,dA,fY,dy,nh X G dy.a,qL,ij,ik,gr,dh,fU,iy,eL,iA,c8,nh X G c8.a,oM,gA,e9,cW,fD,gQ,d8,gR,hU,nh X G hU.a,yY,jz,gw,dz,gM,jq,fy,jr,iq,nh X G iq.a,qO,eY,dP,nh X G Af,⟨vJ,vI,vH,c9.k⟩⟩
 refine ⟨nM "law" "law" (pC KU) (jD KU) (eS KU) .none QJ RM Qq Ul RQ RO,λs v=>.of_eq rfl,λbase _ _=>?_⟩
 have eB:=a90 OB
 have EY:=b1x (P:=l.prog) (w:=w) (base:=base) TT eB (p9 X G i1)
 have Ox:=b1q (P:=l.prog) (w:=w) (base:=base) TT eB (p9 X G i1)
 have GK:=a7a TT z_isinstance z_ValueError EY Ox (p9 X G i2)
 have l9:=b2L (P:=l.prog) (w:=w) (base:=base) z_str (mG X G i3)
 have fj:=b1K OB
 have gW:=b2S OB
 have mw:=b1F OB
 have du:=a91 OB
 have my:=b1H OB
 have LD:=a4u l9 my (iT jI (by walk_at "m1"))
 have bS:=a44 OB LD
 have mz:=b1J OB
 have mx:=b1G OB
 have iL:=b1I OB
 have gh:=a92 OB
 have eU:=b2R OB
 have kT:=a93 OB
 have iJ:ll l.prog w K mg base "written" 1 19 (jh 6):=by
  have ih:∀n,ll l.prog w K mg base "written" 1 (3*n+1) (jh n):=λn=>by
   induction n with
   | zero=>exact Ce
   | succ n cY =>
    rw [show 3*(n+1)+1=3*n+1+3 from by omega]
    have OG:OK (Om l.prog w K mg base bx) (3*n+1+2) (Lo (jh n)):=a6v l9 fj gW mw (iT mQ (by walk_at "m1"))
    have OH:OM (Om l.prog w K mg base bw) (3*n+1+2) (Lp (jh n)):=a6u l9 fj gW du (iT mO (by walk_at "m1"))
    have OQ:OU (Om l.prog w K mg base bj) (3*n+1+3) (Lv (jh n)):=a5X l9 bS (iT lT (by walk_at "m1"))
    have OS:Pj (Om l.prog w K mg base bf) (3*n+1+3) (Lw (jh n)):=a5V l9 bS (iT lQ (by walk_at "m1"))
    have Pk:O8 (Om l.prog w K mg base be) (3*n+1+2) (Lx (jh n)):=a5y l9 du mz mx (iT kZ (by walk_at "m1"))
    have OR:Ph (Om l.prog w K mg base bh) (3*n+1+1) (Pe (jh n)):=a5W iL (iT lR (by walk_at "m1"))
    have GZ:Pm (Om l.prog w K mg base ao) (3*n+1+2) (E3 (jh n)):=a3t cY l9 gh eU (iT ir (by walk_at "m2"))
    have aN:ll l.prog w K mg base "written_between" 2 (3*n+1+2) (GW (jh n)):=a37 OB GZ
    have OW:O0 (Om l.prog w K mg base bG) (3*n+1+3) (LA (jh n)):=a7d aN (iT nG (by walk_at "m1"))
    have Pb:Pf (Om l.prog w K mg base aV) (3*n+1+3) (LF (jh n)):=a45 aN (iT kG (by walk_at "m1"))
    have O7:O9 (Om l.prog w K mg base bc) (3*n+1+3) (LC (jh n)):=a5x aN (iT kY (by walk_at "m1"))
    have GX:Pl (Om l.prog w K mg base av) (3*n+1+2) (E2 (jh n)):=a3K cY l9 eU (iT iU (by walk_at "m2"))
    have a9:ll l.prog w K mg base "written_with" 2 (3*n+1+2) (G1 (jh n)):=a43 OB GX
    have OI:ON (Om l.prog w K mg base bu) (3*n+1+3) (Lq (jh n)):=a6s fj gW a9 (iT mL (by walk_at "m1"))
    have OP:OT (Om l.prog w K mg base bo) (3*n+1+3) (Lu (jh n)):=a5Y a9 kT (iT lU (by walk_at "m1"))
    have OV:OZ (Om l.prog w K mg base bH) (3*n+1+3) (Lz (jh n)):=a7e du a9 (iT nH (by walk_at "m1"))
    exact a70 OB OG OH OQ OS Pk OR OW Pb O7 OI OP OV
  exact ih 6
 have Ou:GJ (Oz l.prog w K mg base) 7 (yR 6):=by
  have ih:∀n,GJ (Oz l.prog w K mg base) (1*n+1) (yR n):=λn=>by
   induction n with
   | zero=>exact Z6 (mG X G i4)
   | succ n dE =>
    rw [show 1*(n+1)+1=1*n+1+1 from by omega]
    exact a9O z_str dE (mG X G i4)
  exact ih 6
 have jG:=a8O OB
 have Cp:=a7X (P:=l.prog) (w:=w) (base:=base) (mg:=mg) (iT o3 (by walk_at "m1"))
 have GQ:=a7Z (P:=l.prog) (w:=w) (base:=base) (mg:=mg) gh eU (iT o5 (by walk_at "m1"))
 have GL:=a6r (P:=l.prog) (w:=w) (base:=base) (mg:=mg) eU (iT mK (by walk_at "m1"))
 have kN:=a9T OB Cp GQ GL
 have fQ:ll l.prog w K mg base "all_names" 1 13 (yS 6):=by
  have ih:∀n,ll l.prog w K mg base "all_names" 1 (2*n+1) (yS n):=λn=>by
   induction n with
   | zero=>exact Ce
   | succ n fR =>
    rw [show 2*(n+1)+1=2*n+1+2 from by omega]
    have ub:Pa (Om l.prog w K mg base aa) (2*n+1+2) (ny (yS n)):=a5w fR kN (iT kX (by walk_at "m1"))
    have Pc:Pg (Om l.prog w K mg base aU) (2*n+1+1) (O6 (yS n)):=a42 iL (iT kF (by walk_at "m1"))
    exact a6t OB ub Pc
  exact ih 6
 have r8:=a7Y z_set z_sorted fQ (iT o4 (by walk_at "m1"))
 have fq:=a9U OB r8
 have OJ:=a6q fq (p9 X G i5)
 have OY:=a7b fq OJ (mG X G i6)
 have N9:=b1z (P:=l.prog) (w:=w) (base:=base) z_all z_LETTERS z_OWN_WORDS z_len z_MOST_LETTERS (mG X G i7)
 have OX:=a7c z_len z_set N9 (mG X G i8)
 have O3:=a7W (P:=l.prog) (w:=w) (base:=base) z_MOST_OFFERS (mG X G i9)
 have mm:=b1A OB z_len z_dict OY OX O3 (iT mS (by walk_at "m2"))
 have pJ:=b2Q (P:=l.prog) (w:=w) (base:=base) OB (iT c9 (by walk_at "m2"))
 have pI:=b2P OB pJ (iT nI (by walk_at "m3"))
 have kS:=a9Z (P:=l.prog) (w:=w) (base:=base) OB (iT c9 (by walk_at "m2"))
 have kR:=a9Y OB kS (iT lV (by walk_at "m3"))
 have mr:=b1E (P:=l.prog) (w:=w) (base:=base) OB (iT c9 (by walk_at "m2"))
 have mn:=b1B OB mr (iT mM (by walk_at "m4"))
 have jE:=a8M (P:=l.prog) (w:=w) (base:=base) OB (iT fT (by walk_at "m3"))
 have iK:=a71 (P:=l.prog) (w:=w) (base:=base) OB (iT fT (by walk_at "m3"))
 have pH:=b2O (P:=l.prog) (w:=w) (base:=base) OB (iT fT (by walk_at "m3"))
 have kP:=a9W (P:=l.prog) (w:=w) (base:=base) OB (iT lS (by walk_at "m2"))
 have jF:=a8N (P:=l.prog) (w:=w) (base:=base) OB (iT k7 (by walk_at "m4"))
 have kO:=a9V (P:=l.prog) (w:=w) (base:=base) OB (iT jl (by walk_at "m2"))
 have kQ:=a9X (P:=l.prog) (w:=w) (base:=base) OB (iT jl (by walk_at "m2"))
 have mo:=b1C (P:=l.prog) (w:=w) (base:=base) OB (iT mP (by walk_at "m4"))
 have mq:=b1D (P:=l.prog) (w:=w) (base:=base) OB (iT mR (by walk_at "m4"))
 have Ot:GI (Oz l.prog w K mg base) 25 (vW 6):=by
  have ih:∀n,GI (Oz l.prog w K mg base) (4*n+1) (vW n):=λn=>by
   induction n with
   | zero=>exact Z6 (mG X G WW)
   | succ n bD =>
    rw [show 4*(n+1)+1=4*n+1+4 from by omega]
    exact a9P z_list bD pI kR mn jE iK pH kP jF kO kQ mo mq (mG X G WW)
  exact ih 6
 have Aj:=b2M (P:=l.prog) (w:=w) (base:=base) z_len (p9 X G i11)
 have iO:=b1y (P:=l.prog) (w:=w) (base:=base) (BF X G i12)
 have Bj:=a8L iO (p9 X G i13)
 have O5:=a7T iO Bj (QC X G i14)
 have Oq:=a9Q z_range iO Bj (p9 X G i15)
 have Oo:=a9R z_len z_int iO Bj Oq (BF X G i16)
 have Ov:=a9N z_len iO O5 Oo (BF X G i17)
 have O4:=a7U z_len z_range Aj (BF X G i18)
 have OF:=a8K z_range iO (p9 X G i19)
 have Oj:=a9S z_len z_range Aj Ov O4 OF (mG X G i20)
 have O_law:=b92 z_len EY GK iJ Ou jG mm Ot Oj (mG X G WU)
 exact c0i O_law fin
end My
open PySem L2 DL
def vcNames:String:="a0c Wo_none a0n a1z a12 b2s b2r b2q Wo_seq b8H Wo_bk Wo_ct Wo_ret b8F b6E a2T c02 b8W b88 b8k Wo_eV Wo_eC b1p c1g b8U b8M b8P b8T c1k b8Q b8N c1i c1j c1l c1m c1h b8S b8O b5J b5G b5I b5F b5H b5E b89 b9b b9a rep0 rep1 rep2 rep3 rep4 b5x b5U Wo_compC b8Y b8Z b0A b87 b8L c1t b5B b5C b9c b9d b3i b40 b3k b3h b3g b3j b1l c1w b8z b8y b8x b8u b8w b8v b5y b8B c08 b8A b86 b9e b5V b80 b82 c03 c05 c04 Wo_bV c1u c09 c1a b83 b5R ixQ_i b6F b8o atI_1 atI_2 atI_3 b5T b3I b8b c1n b8V b0z a9s b8D b5A b5z b4g b4h b4i b4f b13 Wo_gT b5D b36 b1i c1x c0H c1o c1d b7J b8K b8n b8m b8E c1f pQ_i c1e c1q slQ_t b5S b5K b5M Sl_sh Sl_ow b5L List.getElem?_cons_zero List.getElem?_cons_succ List.set_cons_zero List.set_cons_succ List.length_cons List.length_nil b0i b1S b0k b0h b0g b0j a87 b0l a89 a86 a85 a88 b0c b1R b0e b0b b0a b0d a82 b0f a84 a81 a80 a83 a79 a8Z a8b a78 a77 a8a decide_eq_true_eq decide_eq_false_iff_not Bool.not_eq_true' Bool.not_eq_false' Bool.not_true Bool.not_false true_and and_true forall_const Bool.true_eq_false Bool.false_eq_true false_implies reduceCtorEq implies_true true_implies Int.reduceToNat Nat.reduceAdd Nat.reduceLT Nat.reduceLeDiff Nat.reduceSub Int.reduceLT Int.reduceLE Int.reduceEq Int.cast_ofNat_Int not_true_eq_false not_false_eq_true"
local macro_rules | `(tactic| walk_at "vc")=>do
 let ls ← ((vcNames.splitOn " ") ++ ["a4e","b33","b4W","b7L","b4Y","b4V","b4U","b4X"]).toArray.mapM fun s=>`(Lean.Parser.Tactic.simpLemma| $(Lean.mkIdent s.toName):ident)
 `(tactic| first | simp only [$ls,*] | dsimp only | skip)
local macro_rules | `(tactic| walk_at "v1")=>do
 let ls ← (vcNames.splitOn " ").toArray.mapM fun s=>`(Lean.Parser.Tactic.simpLemma| $(Lean.mkIdent s.toName):ident)
 `(tactic| first | simp only [$ls,*] | dsimp only | skip)
local macro_rules | `(tactic| walk_at "sc")=>`(tactic| first | omega | (simp only [DivC,PowC,MulC,LIM,R62]; omega) | rfl | decide)
local macro_rules | `(tactic| walk_at "go")=>`(tactic| (walk_at "vc"; repeat' first | apply c6Y | intro _); all_goals try (walk_at "sc"))
local macro_rules | `(tactic| walk_at "sp")=>`(tactic| (repeat' first | apply And.intro | intro _); all_goals first | (exfalso; omega) | walk_at "sc" | ((repeat apply Exists.intro); rfl) | skip)
local macro_rules | `(tactic| walk_at "st")=>`(tactic| repeat (refine And.intro ?_ ?_; · first | (simp only [DivC,PowC,MulC,LIM,R62]; omega) | omega))
namespace My
noncomputable abbrev Row:=Int×Int×Int×Int
noncomputable def Row.d(r:Row):D:=.tup [.int r.1,.int r.2.1,.int r.2.2.1,.int r.2.2.2]
noncomputable def Row.at(r:Row)(x:Int):Int:=r.2.2.1+r.2.2.2*(x-r.1)
noncomputable def gg(R:Row->Row->Prop):List Row->Prop
 | a::b::rs=>R a b/\gg R (b::rs)
 | _=>True
theorem gg.snoc{R:Row->Row->Prop}{r:Row}:∀{rs:List Row},gg R rs->(∀a,rs.getLast?=some a->R a r)->gg R (rs++[r])
 | [],_,_=>trivial
 | [a],_,h=>⟨h a rfl,trivial⟩
 | a::b::rs,h,k=>⟨h.1,h.2.snoc (rs:=b::rs) λc hc=>k c (by simpa using hc)⟩
theorem gg.tail{R:Row->Row->Prop}{r:Row}{rs:List Row}(h:gg R (r::rs)):gg R rs:=by
 cases rs with
 | nil=>trivial
 | cons q rs=>exact h.2
def ue(B:Int)(r:Row):Prop:=(-B<=r.1/\r.1<=B)/\(-B<=r.2.1/\r.2.1<=B)/\(-B<=r.2.2.1/\r.2.2.1<=B)/\(-B<=r.2.2.2/\r.2.2.2<=B)
noncomputable def look:List Row->Int->Option Int
 | [],_=>none
 | r::rs,x=>if r.1<=x/\x<=r.2.1 then some (r.at x) else look rs x
def Val(rs:List Row)(x c:Int):Prop:=∃r∈rs,r.1<=x/\x<=r.2.1/\c=r.at x
theorem Val.app{rs qs:List Row}{x c:Int}:Val (rs++qs) x c↔Val rs x c\/Val qs x c:=by
 unfold Val
 constructor
 .rintro ⟨r,hr,h⟩
  rcases qm.mp hr with hr | hr
  .exact .inl ⟨r,hr,h⟩
  .exact .inr ⟨r,hr,h⟩
 .rintro (⟨r,hr,h⟩ | ⟨r,hr,h⟩)
  .exact ⟨r,A6 _ hr,h⟩
  .exact ⟨r,yv _ hr,h⟩
theorem Val.one{r:Row}{x c:Int}:Val [r] x c↔r.1<=x/\x<=r.2.1/\c=r.at x:=by
 unfold Val
 simp
theorem Val.two{r q:Row}{x c:Int}:Val [r,q] x c↔(r.1<=x/\x<=r.2.1/\c=r.at x)\/(q.1<=x/\x<=q.2.1/\c=q.at x):=by
 unfold Val
 simp
theorem gg.append{R:Row->Row->Prop}:∀{rs qs:List Row},gg R rs->gg R qs->(∀a b,rs.getLast?=some a->qs.head?=some b->R a b)->gg R (rs++qs)
 | [],_,_,h,_=>h
 | [a],[],_,_,_=>trivial
 | [a],b::qs,_,h,k=>⟨k a b rfl rfl,h⟩
 | a::b::rs,qs,h,h',k=>⟨h.1,gg.append (rs:=b::rs) h.2 h' λc d hc hd=>k c d (by simpa using hc) hd⟩
theorem gg.get{R:Row->Row->Prop}:∀{rs:List Row},gg R rs->∀(k:Nat) (h:k+1<rs.length),R (rs[k]'(by lia)) rs[k+1]
 | [],_,k,h=>absurd h (by simp)
 | [a],_,k,h=>absurd h (by simp)
 | a::b::rs,h,0,_=>h.1
 | a::b::rs,h,k+1,hk=>gg.get (rs:=b::rs) h.2 k (by simpa using hk)
theorem ue.mono{A B:Int}{r:Row}(h:ue A r)(Rk:A<=B):ue B r:=by unfold ue at *;omega
theorem NU{c:En->Option Bool}{F:SF}{env:En}{Q:Fl×En->Prop}(hc:Wo (c env) λb=>b=false)(h:Q (.nx,env)):Wo (eF c F fG env) Q:=by
 rw [a4e]
 exact hc.mono λb hb=>⟨λz=>(by rw [hb] at z;cases z),λ_=>(by rw [b8H];exact h)⟩
noncomputable def FJ(m:Nat):List Nat:=(Nat.toDigits 10 m).map Char.toNat
theorem b9m(m:Nat):(yw (toString (m:Int))).cps.toList=FJ m:=by
 unfold FJ
 rw [X6]
 unfold Str.ofStringByList
 show (Nat.repr m).toList.map Char.toNat=_
 rw [Nat.toList_repr]
theorem b9l(m:Nat):(yw (toString (-((m+1:Nat):Int)))).cps.toList=45::FJ (m+1):=by
 unfold FJ
 rw [X6]
 unfold Str.ofStringByList
 show (("-" ++ Nat.repr (m+1)).toList).map Char.toNat=_
 rw [String.toList_append,Nat.toList_repr]
 rfl
theorem c1b{f:En->Option Sl}{lo hi:En->Option (Option Int)}{env:En}{y:Str}{l h:Option Int}{Q:Sl->Prop}(e:f env=some (.sh (.str y)))(el:lo env=some l)(eh:hi env=some h)(hz:y.length<=16777216):Wo (qg f lo hi env) Q↔Q (.sh (.str (CV y l h))):=by
 unfold qg
 rw [e,el,eh]
 show Wo (if y.length<=16777216 then some (Sl.sh (.str (CV y l h))) else none) Q↔_
 rw [if_pos hz,a0c]
theorem b8I{f:En->Option Sl}{env:En}{y:Str}{Q:Sl->Prop}(e:f env=some (.sh (.str y)))(hz:y.length<=16777216):Wo (Gj f env) Q↔Q (.sh (.int y.length)):=by
 unfold Gj
 rw [e]
 show Wo (if y.length<=16777216 then some (Sl.sh (.int y.length)) else none) Q↔_
 rw [if_pos hz,a0c]
theorem b8X{f:En->Option Sl}{env:En}{y:Str}{Q:List D->Prop}(e:f env=some (.sh (.str y)))(ha:y.cps.all (·<128)=true):Wo (zN f env) Q↔Q (y.cps.toList.map λc=>.str ⟨#[c]⟩):=by
 unfold zN
 rw [e]
 show Wo (if y.cps.all (·<128)=true then some (yZ y) else none) Q↔_
 rw [if_pos ha,a0c]
 rfl
theorem Eg(ns:List Int)(k:Int)(hk:0<=k){r:Bool}:yT [.lst r (ns.map D.int),.int k]=some (.sh (.int (ns.getD k.toNat 0))):=by
 refine Wo.eq (An.mpr ?_)
 unfold UC
 walk_at "vc"
 rw [cP]
 refine ⟨λh=>?_,λh=>?_⟩
 .rw [GB 0 hk h]
  walk_at "vc"
 .have:ns.length<=k.toNat:=by lia
  rw [show ns.getD k.toNat 0=0 by simp [this]]
theorem l7(c k s:Int)(hk:0<=k/\k<=1000)(hs:0<s/\s<=10^45):∃m:Int,ja [.int c,.int k,.int s]=some (.sh (.int m))/\0<=m/\m<s:=by
 have key:Wo (ja [.int c,.int k,.int s]) λx=>∃m:Int,x=.sh (.int m)/\0<=m/\m<s:=by
  refine vX.mpr ?_
  unfold U5
  have a1:=M7 c (show (10^60:Int)≠0 by decide)
  have a2:=MU c (show (0:Int)<10^60 by decide)
  have k1:0<=k*k:=FR hk.1 hk.1
  have k2:k*k<=1000*1000:=FQ hk.2 hk.2 hk.1 (by decide)
  have k3:2*k*k=2*(k*k):=Int.mul_assoc ..
  walk_at "vc"
  have o1:0<=271828182845904523536028747135266249775724709369995+2*k*k:=by omega
  have o2:271828182845904523536028747135266249775724709369995+2*k*k<=10^52:=by omega
  generalize 271828182845904523536028747135266249775724709369995+2*k*k=o at *
  generalize c%10^60=u at *
  have p1:0<=(u+1)*o:=FR (by omega) o1
  have p2:(u+1)*o<=10^60*10^52:=FQ (by omega) o2 o1 (by decide)
  generalize (u+1)*o=p at *
  generalize (p+7907*k)*(p+7907*k)%(10^60+7)/11=w at *
  exact ⟨.inl (by decide),.inl (by omega),by walk_at "sc",by decide,Z1 (by omega) (by omega) (by omega) (by omega),.inl (by decide),Z1 (by omega) (by omega) (by omega) (by omega),by walk_at "sc",by decide,b8g (by decide) (by decide),hs.1,_,rfl,M7 _ (by omega),MU _ hs.1⟩
 obtain ⟨x,e,m,rfl,h⟩:=key
 exact ⟨m,e,h⟩
theorem b8t{i:Nat}{hit:Str->Bool}{Fb Fh:SF}{rb:RF}{env env1:En}{nm:Str}{Q:Fl×En->Prop}(h:Fb env=none)(h1:rb env=some (nm,env1))(h2:hit nm=true)(h3:i<env1.length)
  (h4:Wo (Fh (env1.set i (.sh (.exc nm)))) λp=>Q (p.1,p.2.set i .no)):Wo (uo i hit Fb rb Fh env) Q:=by
 obtain ⟨⟨fl,e2⟩,e,q⟩:=h4
 refine ⟨(fl,e2.set i .no),?_,q⟩
 unfold uo
 rw [h,h1]
 dsimp only
 rw [if_pos ⟨h2,h3⟩,e]
theorem none_of{α:Type}{o:Option α}(h:¬Wo o λ_=>True):o=none:=by
 cases o with
 | none=>rfl
 | some a=>exact absurd ⟨a,rfl,trivial⟩ h
local macro_rules | `(tactic| walk_at "o1")=>do
 let ls ← ((vcNames.splitOn " ") ++ ["b85","b5Q","c1r","b84","c1p","b1n","a9t","dpQ_l","b14","lsQ_l","tgQ_d","tiQ_d","tgQ_f","tiQ_f","Sl_tw"]).toArray.mapM fun s=>`(Lean.Parser.Tactic.simpLemma| $(Lean.mkIdent s.toName):ident)
 `(tactic| first | simp only [$ls,*] | dsimp only | skip)
inductive Kd where | a | b | c
noncomputable def Kd.w{α:Type}(k:Kd)(x y z:α):α:=match k with | .a=>x | .b=>y | .c=>z
inductive Tr where
 | l3 (k:Kd) (p q r:Int) | rws (k:Bool) (rs:List (Int×Int)) | name (n:Str) | two (k:Kd) (a b:Tr) | one (k:Kd) (a:Tr) (p q:Int)
noncomputable def Pr(q:Int×Int):D:=.tup [.int q.1,.int q.2]
noncomputable def Tr.d:Tr->D
 | .l3 k p q r=>.tup [.str (k.w "each" "flat" "blocks"),.int p,.int q,.int r]
 | .rws k rs=>.tup [.str (bif k then "steps" else "bands"),.lst false (rs.map Pr)]
 | .name n=>.tup [.str "name",.str n]
 | .two k a b=>.tup [.str (k.w "plus" "or" "max"),a.d,b.d]
 | .one k a p q=>.tup (.str (k.w "only" "after" "fee")::a.d::k.w [.int p,.int q] [.int p] [.int p])
noncomputable def Tr.o:Tr->D
 | .l3 k p q r=>.obj (k.w "Each" "Flat" "Blocks") (k.w KW KY Li) [.int p,.int q,.int r]
 | .rws k rs=>.obj (bif k then "Steps" else "Bands") (bif k then Le else Lc) [.lst false (rs.map Pr)]
 | .name n=>.obj "Named" Ld [.str n]
 | .two k a b=>.obj (k.w "Sum" "Cheaper" "Dearer") (k.w KQ Lh Lj) [a.o,b.o]
 | .one k a p q=>.obj (k.w "Only" "After" "Fee") (k.w KZ K' KP) (a.o::k.w [.int p,.int q] [.int p] [.int p])
noncomputable def Tr.sz:Tr->Nat
 | .two _ a b=>a.sz+b.sz+1
 | .one _ a _ _=>a.sz+1
 | _=>1
theorem Fj{x y n:Nat}(h:x+y+1<n+1):x<n:=by omega
theorem Fi{x y n:Nat}(h:x+y+1<n+1):y<n:=by omega
theorem WE{α:Type}{o:Option α}{Q:α->Prop}{a:α}(h:o=some a)(q:Q a):Wo o Q:=⟨a,h,q⟩
theorem a1o{c:En->Option Bool}{F G:SF}{env:En}{Q:Fl×En->Prop}(h:c env=some false)(g:Wo (G env) Q):Wo (aM (eF c F fG) G env) Q:=by
 rw [Wo_seq,a4e,h,a0c]
 exact ⟨λz=>(nomatch z),λ_=>by rw [b8H];exact g⟩
theorem a3N{c:En->Option Bool}{f:En->Option Sl}{G:SF}{env:En}{Q:Sl->Prop}(h:c env=some true)(g:Wo (f env) Q):Wo (aM (eF c (bb f) fG) G env) (dC Q):=by
 rw [Wo_seq,a4e,h,a0c]
 exact ⟨λ_=>by rw [Wo_ret];exact g,λz=>(nomatch z)⟩
theorem b7w(rs:List (Int×Int))(hl:rs.length<=9):Wo (g7 (fM (eV 1)) [] 2 (gT 2 (nu (gN 0) (nu (gN 1) yM))) iN (iG (ah (eV 0) (ah (eV 1) ae))) [.no,.sh (.lst false (rs.map Pr))]) λr=>r=.ow (rs.map Pr):=by
 walk_at "v1"
 refine ⟨by rw [cP];omega,_,DL.comp_map Pr Pr (λe=>e.length=2) rs (λa ha e he=>?_) rfl,rfl⟩
 obtain ⟨y0,y1,rfl⟩:∃y0 y1,e=[y0,y1]:=by
  match e,he with
  | [a,b],_=>exact ⟨a,b,rfl⟩
 unfold Pr
 walk_at "v1"
theorem b67{f:Str}{fe:En->Option Sl}{r:Sl}{env:En}(h:fe env=some r):dg f fe jm env [] []=some ([f],[r.d]):=by
 unfold dg
 rw [h]
 rfl
theorem Ir(k:Bool)(rs:List (Int×Int))(hl:rs.length<=9):(bif k then OD else OC) [.lst false (rs.map Pr)]=some [.lst false (rs.map Pr)]:=by
 cases k
 all_goals
  show eJ _ 2 _ [.lst false (rs.map Pr)]=_
  unfold eJ
  rw [show (Sl.no::lg (2-1) [.lst false (rs.map Pr)])=[.no,.sh (.lst false (rs.map Pr))] from rfl,b67 (Wo.eq (b7w rs hl))]
  kernel_rfl
def Sh(n:Int):Prop:=-(10^50)<=n/\n<=10^50
noncomputable def Tr.ok:Tr->Prop
 | .l3 _ p q r=>Sh p/\Sh q/\Sh r
 | .rws _ rs=>(rs≠[]/\rs.length<=9)/\∀q∈rs,Sh q.1/\Sh q.2
 | .name n=>n.length<=100
 | .two _ a b=>a.ok/\b.ok
 | .one _ a p q=>a.ok/\Sh p/\Sh q
theorem EK{k:Str}{ds:List D}{G:SF}{r:En}{Q:Fl×En->Prop}(g:Wo (G (.sh (.tup (.str k::ds))::.sh (.str k)::r)) Q):Wo (aM (gU 1 (bY (bV 0) (eC (.int 0)))) G (.sh (.tup (.str k::ds))::.no::r)) Q:=by
 rw [Wo_seq,a2T,b6F]
 have h0:L2.gf (D.str k::ds) 0=some (.str k):=by simp [L2.gf,mJ]
 exact ⟨_,rfl,_,rfl,_,h0,by simp,g⟩
local macro_rules | `(tactic| walk_at "sk")=>`(tactic| refine a1o (by kernel_rfl) ?_)
local macro_rules | `(tactic| walk_at "tk")=>`(tactic| refine a3N (by kernel_rfl) ?_)
theorem CQ{kp:List D->Option Sl}{f:En->Option Sl}{env:En}{s:Sl}{r:Option Sl}(hf:f env=some s)(h:kp [s.d]=r):bT 1 kp (ah f ae) env=r:=by
 unfold bT ah
 rw [hf]
 exact h
theorem CG{c:Str}{n:Nat}{ns:List Str}{ψ:List D->Option (List D)}{fa:En->Option (List D)}{env:En}{as ds:List D}(ha:fa env=some as)(hn:as.length=n)(hp:ψ as=some ds):pK c n ns ψ fa env=some (.sh (.obj c ns ds)):=by
 unfold pK
 rw [ha]
 show (if as.length=n then _ else _)=_
 rw [if_pos hn,hp]
 rfl
theorem aC{f:En->Option Sl}{g:En->Option (List D)}{env:En}{r:Sl}{ds:List D}(h:f env=some r)(h2:g env=some ds):ah f g env=some (r.d::ds):=by
 unfold ah
 rw [h,h2]
 rfl
theorem c0S:∀(t:Tr) (n:Nat),t.sz<n->t.ok->vW n [t.d]=some (.sh t.o):=by
 intro t
 induction t with
 | l3 k p q r =>
  intro n hn hk
  cases n with
  | zero=>cases hn
  | succ n=>cases k<;>kernel_rfl
 | rws k rs =>
  intro n hn hk
  cases n with
  | zero=>cases hn
  | succ n =>
   have h:=Ir k rs hk.1.2
   have hl:Kr (nk (bY (bV 0) (eC (.int 1)))) [.sh (Tr.rws k rs).d,.sh (.str (bif k then "steps" else "bands"))]=some (.ow (rs.map Pr)):=rfl
   refine Wo.eq ((Vn (kp:=vW n)).mpr ?_)
   unfold Lf
   refine EK ?_
   cases k
   .refine a1o (by kernel_rfl) (a1o (by kernel_rfl) (a3N (by kernel_rfl) ?_))
    exact WE (CG (aC hl rfl) rfl h) rfl
   .refine a1o (by kernel_rfl) (a1o (by kernel_rfl) (a1o (by kernel_rfl) (a3N (by kernel_rfl) ?_)))
    exact WE (CG (aC hl rfl) rfl h) rfl
 | name x =>
  intro n hn hk
  cases n with
  | zero=>cases hn
  | succ n=>kernel_rfl
 | two k a b lP xI =>
  intro n hn hk
  cases n with
  | zero=>cases hn
  | succ n =>
   have c1:bT 1 (vW n) (ah (bY (bV 0) (eC (.int 1))) ae) [.sh (Tr.two k a b).d,.sh (.str (k.w "plus" "or" "max"))]=some (.sh a.o):=CQ (s:=.sh a.d) rfl (lP n (Fj hn) hk.1)
   have c2:bT 1 (vW n) (ah (bY (bV 0) (eC (.int 2))) ae) [.sh (Tr.two k a b).d,.sh (.str (k.w "plus" "or" "max"))]=some (.sh b.o):=CQ (s:=.sh b.d) rfl (xI n (Fi hn) hk.2)
   refine Wo.eq ((Vn (kp:=vW n)).mpr ?_)
   unfold Lf
   refine EK ?_
   iterate 6 refine a1o (by cases k<;>kernel_rfl) ?_
   cases k
   .refine a3N (by kernel_rfl) ?_
    exact WE (CG (ds:=[a.o,b.o]) (aC c1 (aC c2 rfl)) rfl (by kernel_rfl)) rfl
   .refine a1o (by kernel_rfl) (a3N (by kernel_rfl) ?_)
    exact WE (CG (ds:=[a.o,b.o]) (aC c1 (aC c2 rfl)) rfl (by kernel_rfl)) rfl
   .refine a1o (by kernel_rfl) (a1o (by kernel_rfl) (a3N (by kernel_rfl) ?_))
    exact WE (CG (ds:=[a.o,b.o]) (aC c1 (aC c2 rfl)) rfl (by kernel_rfl)) rfl
 | one k a p q lP =>
  intro n hn hk
  cases n with
  | zero=>cases hn
  | succ n =>
   have c1:bT 1 (vW n) (ah (bY (bV 0) (eC (.int 1))) ae) [.sh (Tr.one k a p q).d,.sh (.str (k.w "only" "after" "fee"))]=some (.sh a.o):=CQ (s:=.sh a.d) (by cases k<;>rfl) (lP n (EC hn) hk.1)
   refine Wo.eq ((Vn (kp:=vW n)).mpr ?_)
   unfold Lf
   refine EK ?_
   iterate 9 refine a1o (by cases k<;>kernel_rfl) ?_
   cases k
   .refine a3N (by kernel_rfl) ?_
    exact WE (CG (ds:=[a.o,.int p,.int q]) (aC c1 (ds:=[.int p,.int q]) (by kernel_rfl)) rfl (by kernel_rfl)) rfl
   .refine a1o (by kernel_rfl) (a3N (by kernel_rfl) ?_)
    exact WE (CG (ds:=[a.o,.int p]) (aC c1 (ds:=[.int p]) (by kernel_rfl)) rfl (by kernel_rfl)) rfl
   .refine a1o (by kernel_rfl) (a1o (by kernel_rfl) (Wo_ret.mpr ?_))
    exact WE (CG (ds:=[a.o,.int p]) (aC c1 (ds:=[.int p]) (by kernel_rfl)) rfl (by kernel_rfl)) rfl
noncomputable def nt(n:Int):Str:=yw (toString n)
noncomputable def lt(s:Str):List Nat:=s.cps.toList
theorem Gu(a b:Str):lt (a++b)=lt a++lt b:=by
 show (a.cps++b.cps).toList=_
 simp [lt]
theorem yP(a:Str):a.length=(lt a).length:=by
 show a.cps.size=_
 simp [lt]
theorem TX{a b:Str}(h:lt a=lt b):a=b:=by
 obtain ⟨x⟩:=a
 obtain ⟨y⟩:=b
 congr 1
 exact SM.mp h
theorem UI(sep:Str):∀(r:List Str) (a x:Array Nat),(r.foldl (λacc p=>acc++sep.cps++p.cps) (a++x)).toList=a.toList++(r.foldl (λacc p=>acc++sep.cps++p.cps) x).toList
 | [],a,x=>by simp
 | p::r,a,x=>by
  rw [F4,F4,show a++x++sep.cps++p.cps=a++(x++sep.cps++p.cps) by simp [Kl]]
  exact UI sep r a _
theorem c0n(sep a:Str):la sep [a]=a:=rfl
theorem TB(sep a b:Str)(r:List Str):lt (la sep (a::b::r))=lt a++(lt sep++lt (la sep (b::r))):=by
 have key:∀r:List Str,lt (la sep (b::r))=(r.foldl (λacc p=>acc++sep.cps++p.cps) b.cps).toList:=λr=>by
  cases r with
  | nil=>rfl
  | cons c r=>rfl
 rw [key]
 show ((b::r).foldl (λacc p=>acc++sep.cps++p.cps) a.cps).toList=_
 rw [F4,Kl,UI,UI]
 rfl
theorem TL(sep:Str):∀(ls:List Str) (a:Nat),ls.foldl (λa x=>a+x.length+sep.length) a=a+nU sep ls
 | [],a=>rfl
 | x::r,a=>by
  unfold nU
  rw [F4,F4,TL,TL]
  omega
theorem K2(sep x:Str)(r:List Str):nU sep (x::r)=x.length+sep.length+nU sep r:=by
 unfold nU
 rw [F4,TL]
 unfold nU
 omega
theorem C9(sep:Str):∀ls:List Str,(la sep ls).length<=nU sep ls
 | []=>Sj rfl
 | [a]=>by rw [c0n,K2];omega
 | a::b::r=>by
  have:=C9 sep (b::r)
  rw [yP,TB,jv,jv,<-yP,<-yP,<-yP,K2]
  omega
theorem ZL{m k:Nat}(hk:0<k)(h:m<10^k):(FJ m).length<=k:=by
 unfold FJ
 rw [cP]
 exact (Nat.length_toDigits_le_iff (by decide) hk).mpr h
theorem Bf{n:Int}(h:Sh n):(nt n).length<=60:=by
 unfold nt Sh at *
 cases n with
 | ofNat m =>
  rw [show (Int.ofNat m)=(m:Int) from rfl,yP]
  unfold lt
  rw [b9m]
  have h1:=ZL (m:=m) (k:=51) (by decide) (by have:=h.2;rw [show Int.ofNat m=(m:Int) from rfl] at this;omega)
  omega
 | negSucc m =>
  rw [show Int.negSucc m = -((m+1:Nat):Int) from rfl,yP]
  unfold lt
  rw [b9l,ia]
  have h1:=ZL (m:=m+1) (k:=51) (by decide) (by have:=h.1;rw [show Int.negSucc m = -((m+1:Nat):Int) from rfl] at this;omega)
  omega
theorem TZ{n:Int}(h:Sh n):n.natAbs.log2<1920:=by
 unfold Sh at h
 by_cases z:n.natAbs=0
 .rw [z];decide
 .have h2:n.natAbs<2^200:=by omega
  have:=(Nat.log2_lt z).mpr h2
  omega
theorem sD{n:Int}(h:Sh n):qP (.int n)=some (nt n):=by
 show (if n.natAbs.log2<1920 then some (yw (toString n)) else none)=_
 rw [if_pos (TZ h)]
 rfl
noncomputable def Rt(q:Int×Int):Str:=nt q.1 ++ ":" ++ nt q.2
noncomputable def Tr.ws:Tr->List Str
 | .l3 k p q r=>[k.w "each" "flat" "blocks",nt p,k.w "from" "from" "at",nt q,k.w "to" "to" "times",nt r]
 | .rws k rs=>[bif k then "steps" else "bands",la " " (rs.map Rt)]
 | .name n=>[n]
 | .two k a b=>["(",la " " a.ws,k.w "plus" "or" "max",la " " b.ws,")"]
 | .one k a p q=>"(" :: la " " a.ws::k.w ["only",nt p,"to",nt q,")"] ["after",nt p,")"] ["fee",nt p,")"]
noncomputable def Tr.tx(t:Tr):Str:=la " " t.ws
theorem Zt{q:Int×Int}(h:Sh q.1/\Sh q.2):(Rt q).length<=130:=by
 have h1:=Bf h.1
 have h2:=Bf h.2
 have:(":":Str).length<=9:=by decide +kernel
 unfold Rt
 rw [yx,yx]
 omega
theorem N5:∀{rs:List (Int×Int)},(∀q∈rs,Sh q.1/\Sh q.2)->nU " " (rs.map Rt)<=140*rs.length
 | [],_=>by decide +kernel
 | q::rs,h=>by
  have h1:=N5 (rs:=rs) λq hq=>h q (i0 _ hq)
  have h2:=Zt (h q jM)
  have:(" ":Str).length<=9:=by decide +kernel
  rw [gS,K2,ia]
  omega
theorem eK{x:Str}{r:List Str}{m n:Nat}(h:x.length<=m)(g:nU " " r<=n):nU " " (x::r)<=m+1+n:=by
 rw [K2,show (" ":Str).length=1 from by decide +kernel]
 exact Nat.add_le_add (Nat.add_le_add_right h 1) g
theorem rq:nU " " []<=0:=cT _
theorem Zi{rs:List (Int×Int)}(hk:(rs≠[]/\rs.length<=9)/\∀q∈rs,Sh q.1/\Sh q.2):nU " " (rs.map Rt)<=1300:=by
 have:=N5 hk.2
 omega
theorem Tr.pos:∀t:Tr,1<=t.sz
 | .two _ _ _=>Nat.le_add_left _ _
 | .one _ _ _ _=>Nat.le_add_left _ _
 | .l3 _ _ _ _=>cT _
 | .rws _ _=>cT _
 | .name _=>cT _
theorem Iz:∀t:Tr,t.ok->nU " " t.ws<=2000*t.sz:=by
 intro t
 induction t with
 | l3 k p q r =>
  intro hk
  exact iZ (eK (m:=9) (by cases k<;>decide +kernel) (eK (Bf hk.1) (eK (m:=9) (by cases k<;>decide +kernel) (eK (Bf hk.2.1) (eK (m:=9) (by cases k<;>decide +kernel) (eK (Bf hk.2.2) rq)))))) (show _<=2000*1 by decide)
 | rws k rs =>
  intro hk
  exact iZ (eK (m:=9) (by cases k<;>decide +kernel) (eK (iZ (C9 _ _) (Zi hk)) rq)) (show _<=2000*1 by decide)
 | name n =>
  intro hk
  exact iZ (eK hk rq) (show _<=2000*1 by decide)
 | two k a b lP xI =>
  intro hk
  refine iZ (eK (m:=9) (by decide +kernel) (eK (iZ (C9 _ _) (lP hk.1)) (eK (m:=9) (by cases k<;>decide +kernel) (eK (iZ (C9 _ _) (xI hk.2)) (eK (m:=9) (by decide +kernel) rq))))) ?_
  simp only [Tr.sz];omega
 | one k a p q lP =>
  intro hk
  have h:nU " " (k.w ["only",nt p,"to",nt q,")"] ["after",nt p,")"] ["fee",nt p,")"])<=200:=by
   cases k
   .exact iZ (eK (m:=9) (by decide +kernel) (eK (Bf hk.2.1) (eK (m:=9) (by decide +kernel) (eK (Bf hk.2.2) (eK (m:=9) (by decide +kernel) rq))))) (by decide)
   .exact iZ (eK (m:=9) (by decide +kernel) (eK (Bf hk.2.1) (eK (m:=9) (by decide +kernel) rq))) (by decide)
   .exact iZ (eK (m:=9) (by decide +kernel) (eK (Bf hk.2.1) (eK (m:=9) (by decide +kernel) rq))) (by decide)
  refine iZ (eK (m:=9) (by decide +kernel) (eK (iZ (C9 _ _) (lP hk.1)) h)) ?_
  simp only [Tr.sz];omega
theorem y2{t:Tr}{n:Nat}(hk:t.ok)(hn:t.sz<n)(h9:n<=1000):nU " " t.ws<=2000000:=by
 have:=Iz t hk
 omega
theorem Dw{t:Tr}{n:Nat}(hk:t.ok)(hn:t.sz<n)(h9:n<=1000):t.tx.length<=2000000:=iZ (C9 _ _) (y2 hk hn h9)
theorem strs_map:∀ts:List Str,t8 (ts.map D.str)=some ts
 | []=>rfl
 | t::ts=>by
  show (t8 (ts.map D.str)).map (t::·)=_
  rw [strs_map ts]
  rfl
theorem Ts{fo:En->Option Sl}{fe:En->Option (Bool×List D)}{env:En}{Q:Sl->Prop}{z:Str}{ts:List Str}(h1:fo env=some (.sh (.str z)))(h2:fe env=some (true,ts.map D.str))(hl:nU z ts<=16777216)(hq:Q (.sh (.str (la z ts)))):Wo (AQ fo fe env) Q:=by
 rw [c1s,h1,h2]
 refine ⟨z,rfl,_,rfl,rfl,ts,strs_map ts,⟨hl,iZ (C9 _ _) hl⟩,hq⟩
theorem b3U(ds:List D)(ts:List Str)(h:ds.map qP=ts.map some):l6 (gN 0) iN (C7 (eV 0)) ds [Sl.no]=some (ts.map D.str):=by
 have key:∀(ds:List D) (ts:List Str),ds.map qP=ts.map some->∀x,l6 (gN 0) iN (C7 (eV 0)) ds [x]=some (ts.map D.str):=by
  intro ds
  induction ds with
  | nil =>
   intro ts h x
   cases ts with
   | nil=>rfl
   | cons t ts=>cases h
  | cons d ds ih =>
   intro ts h x
   cases ts with
   | nil=>cases h
   | cons t ts =>
    rw [gS,gS,List.cons.injEq] at h
    refine Wo.eq (Wo_compC.mpr ?_)
    rw [b13]
    refine ⟨by simp,true,rfl,λ_=>?_,λz=>(nomatch z)⟩
    rw [b1n]
    exact ⟨_,rfl,t,h.1,_,ih ts h.2 _,rfl⟩
 exact key ds ts h _
theorem K9(ds:List D)(ts:List Str){r:Bool}(h:ds.map qP=ts.map some)(hn:ds.length<=1000)(hl:nU " " ts<=16777216):qu [.lst r ds]=some (.sh (.str (la " " ts))):=by
 refine Wo.eq (Am.mpr ?_)
 unfold UD
 rw [Wo_ret]
 refine Ts (z:=" ") (ts:=ts) rfl ?_ hl rfl
 unfold nk
 rw [show g7 (fM (eV 0)) [] 1 (gN 0) iN (C7 (eV 0)) [.sh (.lst r ds)]=some (.ow (ts.map D.str)) from ?_]
 .rfl
 .show (if ds.length<=16777216 then (l6 (gN 0) iN (C7 (eV 0)) ds [Sl.no]).map Sl.ow else none)=_
  rw [if_pos (by omega),b3U ds ts h]
  rfl
theorem sS(y:Str):qP (.str y)=some y:=rfl
theorem Xl{f:En->Option Sl}{env:En}{i:Int}(h:f env=some (.sh (.int i)))(hz:Sh i):mZ f env=some (.sh (.str (nt i))):=by
 unfold mZ
 rw [h]
 show (if i.natAbs.log2<1920 then some (Sl.sh (.str (yw (toString i)))) else none)=_
 rw [if_pos (TZ hz)]
 rfl
theorem b9E{q:Int×Int}(h:Sh q.1/\Sh q.2):B' (pM (mZ (eV 0)) (pM (eC (.str ":")) (pM (mZ (eV 1)) rA))) [.sh (.int q.1),.sh (.int q.2)]=some (.sh (.str (Rt q))):=by
 have h1:mZ (eV 0) [.sh (.int q.1),.sh (.int q.2)]=some (.sh (.str (nt q.1))):=Xl rfl h.1
 have h2:mZ (eV 1) [.sh (.int q.1),.sh (.int q.2)]=some (.sh (.str (nt q.2))):=Xl rfl h.2
 have e:pM (mZ (eV 0)) (pM (eC (.str ":")) (pM (mZ (eV 1)) rA)) [.sh (.int q.1),.sh (.int q.2)]=some (Rt q):=by
  unfold pM
  rw [h1,h2]
  show some (nt q.1++(":" ++ (nt q.2++A3)))=_
  rw [show nt q.1++(":" ++ (nt q.2++A3))=Rt q from TX (by unfold Rt;simp only [Gu,show lt A3=[] from rfl,vz,EE])]
 unfold B'
 rw [e]
 show (if (Rt q).length<=16777216 then some (Sl.sh (.str (Rt q))) else none)=_
 rw [if_pos (by have:=Zt h;omega)]
theorem b8c(rs:List (Int×Int))(hr:rs.length<=9/\∀q∈rs,Sh q.1/\Sh q.2)(o:D)(hf:zM NX "rows" o=some (.lst false (rs.map Pr))):GY [o]=some (.sh (.str (la " " (rs.map Rt)))):=by
 refine Wo.eq (jO.mpr ?_)
 unfold VX
 rw [Wo_ret]
 walk_at "o1"
 rw [hf]
 walk_at "o1"
 refine ⟨by rw [cP];omega,_,DL.comp_map Pr (λq=>.str (Rt q)) (λe=>e.length=2) rs (λa ha e he=>?_) rfl,?_⟩
 .obtain ⟨y0,y1,rfl⟩:∃y0 y1,e=[y0,y1]:=by
   match e,he with
   | [a,b],_=>exact ⟨a,b,rfl⟩
  unfold Pr
  walk_at "v1"
  exact ⟨_,b9E (hr.2 a ha),rfl⟩
 .refine (show Wo (qu [.lst false (rs.map λq=>.str (Rt q))]) _ from ?_)
  rw [K9 (rs.map λq=>.str (Rt q)) (rs.map Rt) (by rw [vD,vD];rfl) (by rw [cP];omega) (by have:=N5 hr.2;omega)]
  walk_at "o1"
theorem c6{f:En->Option Sl}{N:Nat}{ds:List D}:bQ (bb f) N ds=f (lg N ds):=by
 unfold bQ bb
 cases f (lg N ds)<;>rfl
theorem c0W{kp:bq}{o:D}{w x y:Str}(h1:jQ "written" 1 kp (cI Cd "one" (eV 0)) ae [.sh o,.sh (.str w)]=some (.sh (.str x)))(h2:jQ "written" 1 kp (cI K7 "other" (eV 0)) ae [.sh o,.sh (.str w)]=some (.sh (.str y))):E3 kp [o,.str w]=qu [.lst false [.str "(",.str x,.str w,.str y,.str ")"]]:=by
 refine c6.trans ?_
 show bT 1 qu _ [.sh o,.sh (.str w)]=_
 unfold bT
 rw [aC (r:=.ow [.str "(",.str x,.str w,.str y,.str ")"]) (ds:=[]) ?_ rfl]
 .rfl
 .unfold cH
  rw [aC rfl (aC h1 (aC rfl (aC h2 (aC rfl rfl))))]
  rfl
theorem c0P{kp:bq}{o:D}{ds:List D}{x:Str}(hd:ds.length<=100)(h1:jQ "written" 1 kp (cI Cd "one" (eV 0)) ae [.sh o,.sh (.lst false ds)]=some (.sh (.str x))):E2 kp [o,.lst false ds]=qu [.lst false (.str "(" :: .str x::(ds++[.str ")"]))]:=by
 refine c6.trans ?_
 show bT 1 qu _ [.sh o,.sh (.lst false ds)]=_
 unfold bT
 rw [aC (r:=.ow (.str "(" :: .str x::(ds++[.str ")"]))) (ds:=[]) ?_ rfl]
 .rfl
 .have e:cH (ah (eC (.str "(")) (ah (jQ "written" 1 kp (cI Cd "one" (eV 0)) ae) ae)) [.sh o,.sh (.lst false ds)]=some (.ow [.str "(",.str x]):=by
   unfold cH
   rw [aC rfl (aC h1 rfl)]
   rfl
  unfold ag
  rw [e]
  show ((if 2+ds.length<=16777216 then some (Sl.ow (.str "(" :: .str x::ds)) else none).bind _)=_
  rw [if_pos (by omega)]
  show (if ds.length+2+1<=16777216 then some (Sl.ow (.str "(" :: .str x::ds++[.str ")"])) else none)=_
  rw [if_pos (by omega)]
  rfl
theorem b3J:∀(t:Tr) (n:Nat),t.sz<n->n<=1000->t.ok->vS "written" 1 (jh n) t.o []=some (.sh (.str t.tx)):=by
 intro t
 induction t with
 | l3 k p q r =>
  intro n hn h9 hk
  cases n with
  | zero=>cases hn
  | succ n =>
   refine l4 ?_ (K9 [.str (k.w "each" "flat" "blocks"),.int p,.str (k.w "from" "from" "at"),.int q,.str (k.w "to" "to" "times"),.int r] (r:=false) (Tr.l3 k p q r).ws (by simp only [Tr.ws,gS,Em,sS,sD hk.1,sD hk.2.1,sD hk.2.2]) (Ge (by kernel_rfl)) (iZ (y2 hk hn h9) (by decide)))
   cases k
   .exact l4 (b:=Lo (jh n) [(Tr.l3 .a p q r).o]) (by kernel_rfl) (c6.trans (by kernel_rfl))
   .exact l4 (b:=Lp (jh n) [(Tr.l3 .b p q r).o]) (by kernel_rfl) (c6.trans (by kernel_rfl))
   .exact l4 (b:=Lx (jh n) [(Tr.l3 .c p q r).o]) (by kernel_rfl) (c6.trans (by kernel_rfl))
 | rws k rs =>
  intro n hn h9 hk
  cases n with
  | zero=>cases hn
  | succ n =>
   have hw:jQ "written_rows" 1 G0 (eV 0) ae [.sh (Tr.rws k rs).o]=some (.sh (.str (la " " (rs.map Rt)))):=l4 (by cases k<;>kernel_rfl) (b8c rs ⟨hk.1.2,hk.2⟩ (Tr.rws k rs).o (by cases k<;>kernel_rfl))
   refine l4 ?_ (K9 [.str (bif k then "steps" else "bands"),.str (la " " (rs.map Rt))] (r:=false) (Tr.rws k rs).ws rfl (Ge (by kernel_rfl)) (iZ (y2 hk hn h9) (by decide)))
   have e:∀w:Str,cH (ah (eC (.str w)) (ah (jQ "written_rows" 1 G0 (eV 0) ae) ae)) [.sh (Tr.rws k rs).o]=some (.ow [.str w,.str (la " " (rs.map Rt))]):=λw=>by
    unfold cH
    rw [aC rfl (aC hw rfl)]
    rfl
   cases k
   .exact l4 (b:=Lv (jh n) [(Tr.rws false rs).o]) (by kernel_rfl) (c6.trans (CQ (e _) rfl))
   .exact l4 (b:=Lw (jh n) [(Tr.rws true rs).o]) (by kernel_rfl) (c6.trans (CQ (e _) rfl))
 | name x =>
  intro n hn h9 hk
  cases n with
  | zero=>cases hn
  | succ n=>kernel_rfl
 | two k a b lP xI =>
  intro n hn h9 hk
  cases n with
  | zero=>cases hn
  | succ n =>
   have h1:=lP n (Fj hn) (vA h9) hk.1
   have h2:=xI n (Fi hn) (vA h9) hk.2
   refine l4 ?_ (K9 [.str "(",.str a.tx,.str (k.w "plus" "or" "max"),.str b.tx,.str ")"] (r:=false) (Tr.two k a b).ws rfl (Ge (by kernel_rfl)) (iZ (y2 hk hn h9) (by decide)))
   refine l4 ?_ (c0W (kp:=jh n) (o:=(Tr.two k a b).o) (l4 (by cases k<;>kernel_rfl) h1) (l4 (by cases k<;>kernel_rfl) h2))
   cases k
   .exact l4 (b:=LA (jh n) [(Tr.two .a a b).o]) (by kernel_rfl) (c6.trans (by kernel_rfl))
   .exact l4 (b:=LF (jh n) [(Tr.two .b a b).o]) (by kernel_rfl) (c6.trans (by kernel_rfl))
   .exact l4 (b:=LC (jh n) [(Tr.two .c a b).o]) (by kernel_rfl) (c6.trans (by kernel_rfl))
 | one k a p q lP =>
  intro n hn h9 hk
  cases n with
  | zero=>cases hn
  | succ n =>
   have h1:=lP n (EC hn) (vA h9) hk.1
   refine l4 ?_ (K9 (.str "(" :: .str a.tx::(k.w [.str "only",.int p,.str "to",.int q] [.str "after",.int p] [.str "fee",.int p]++[.str ")"])) (r:=false) (Tr.one k a p q).ws (by cases k<;>simp only [Tr.ws,Kd.w,Tr.tx,gS,Em,MY,List.nil_append,sS,sD hk.2.1,sD hk.2.2]) (by cases k<;>simp [Kd.w]) (iZ (y2 hk hn h9) (by decide)))
   refine l4 ?_ (c0P (kp:=jh n) (o:=(Tr.one k a p q).o) (by cases k<;>simp [Kd.w]) (l4 (by cases k<;>kernel_rfl) h1))
   cases k
   .exact l4 (b:=Lq (jh n) [(Tr.one .a a p q).o]) (by kernel_rfl) (c6.trans (by kernel_rfl))
   .exact l4 (b:=Lu (jh n) [(Tr.one .b a p q).o]) (by kernel_rfl) (c6.trans (by kernel_rfl))
   .exact l4 (b:=Lz (jh n) [(Tr.one .c a p q).o]) (by kernel_rfl) (c6.trans (by kernel_rfl))
theorem setC{k:Str}{x y:Sl}{G:SF}{Q:Fl×En->Prop}(g:Wo (G [x,.sh (.str k),.sh (.str k)]) Q):Wo (aM (gU 2 (eV 1)) G [x,.sh (.str k),y]) Q:=by
 rw [Wo_seq,a2T]
 exact ⟨_,rfl,by simp,g⟩
theorem Ky{c:En->Option Bool}{F G:SF}{env:En}{Q:Fl×En->Prop}(h:c env=some true)(g:Wo (F env) (oR G Q)):Wo (aM (eF c F fG) G env) Q:=by
 rw [Wo_seq,a4e,h,a0c]
 exact ⟨λ_=>g,λz=>(nomatch z)⟩
theorem jH{f:En->Option Sl}{env:En}{G:SF}{y:Str}{Q:Fl×En->Prop}(h:Wo (f env) λr=>r=.sh (.str y))(hl:2<env.length)(g:Wo (G (env.set 2 (.sh (.str y)))) Q):Wo (gU 2 f env) (oR G Q):=by
 rw [a2T]
 obtain ⟨r,e,rfl⟩:=h
 exact ⟨_,e,hl,g⟩
theorem cK{f g:En->Option Sl}{env:En}{x y:Str}{m n:Nat}(hf:f env=some (.sh (.str x))/\x.length<=m)(hg:g env=some (.sh (.str y))/\y.length<=n)(h:m+n<=16777216):ag aQ f g env=some (.sh (.str (x++y)))/\(x++y).length<=m+n:=by
 have h1:=Nat.add_le_add hf.2 hg.2
 refine ⟨?_,by rw [yx];exact h1⟩
 unfold ag
 rw [hf.1,hg.1]
 show (if x.length+y.length<=16777216 then some (Sl.sh (.str (x++y))) else none)=_
 rw [if_pos (iZ h1 h)]
theorem gj{w:Str}{env:En}(h:w.length<=9):eC (.str w) env=some (.sh (.str w))/\w.length<=9:=⟨rfl,h⟩
theorem qQ{f:En->Option Sl}{env:En}{i:Int}(hf:f env=some (.sh (.int i)))(h:Sh i):nr f env=some (.sh (.str (nt i)))/\(nt i).length<=60:=by
 refine ⟨?_,Bf h⟩
 unfold nr
 rw [hf]
 show (if i.natAbs.log2<1920 then some (Sl.sh (.str (nt i))) else none)=_
 rw [if_pos (TZ h)]
theorem b4s{rs:List (Int×Int)}(hr:rs.length<=9/\∀q∈rs,Sh q.1/\Sh q.2){x:Str}{y:Sl}:AQ (eC (.str " ")) (nk (g7 (fM (bY (bV 0) (eC (.int 1)))) [] 1 (gN 0) iN (ag aQ (ag aQ (nr (bY (bV 0) (eC (.int 0)))) (eC (.str ":"))) (nr (bY (bV 0) (eC (.int 1))))))) [.sh (.tup [.str x,.lst false (rs.map Pr)]),.sh (.str x),y]=some (.sh (.str (la " " (rs.map Rt)))):=by
 have hc:l6 (gN 0) iN (ag aQ (ag aQ (nr (bY (bV 0) (eC (.int 0)))) (eC (.str ":"))) (nr (bY (bV 0) (eC (.int 1))))) (rs.map Pr) [Sl.no]=some (rs.map λq=>.str (Rt q)):=by
  refine DL.comp_map Pr (λq=>.str (Rt q)) (λe=>e.length=1) rs (λa ha e he=>?_) rfl
  obtain ⟨y0,rfl⟩:∃y0,e=[y0]:=by
   match e,he with
   | [a],_=>exact ⟨a,rfl⟩
  have hq:=hr.2 a ha
  exact WE (a:=[.sh (Pr a)]) rfl ⟨rfl,WE rfl ⟨rfl,WE (cK (cK (qQ rfl hq.1) (gj (by decide +kernel)) (by decide)) (qQ rfl hq.2) (by decide)).1 rfl⟩⟩
 refine Wo.eq (Ts (z:=" ") (ts:=rs.map Rt) rfl ?_ (by have:=N5 hr.2;omega) rfl)
 unfold nk
 rw [show g7 (fM (bY (bV 0) (eC (.int 1)))) [] 1 (gN 0) iN (ag aQ (ag aQ (nr (bY (bV 0) (eC (.int 0)))) (eC (.str ":"))) (nr (bY (bV 0) (eC (.int 1))))) [.sh (.tup [.str x,.lst false (rs.map Pr)]),.sh (.str x),y]=some (.ow (rs.map λq=>.str (Rt q))) from ?_]
 .rw [vD];rfl
 .show (if (rs.map Pr).length<=16777216 then (l6 (gN 0) iN (ag aQ (ag aQ (nr (bY (bV 0) (eC (.int 0)))) (eC (.str ":"))) (nr (bY (bV 0) (eC (.int 1))))) (rs.map Pr) [Sl.no]).map Sl.ow else none)=_
  rw [if_pos (by rw [cP];omega),hc]
  rfl
theorem b9z(a b c:Str):a++b++c=a++(b++c):=TX (by simp only [Gu,EE])
theorem jn2(a b:Str)(r:List Str):la " " (a::b::r)=a++(" " ++ la " " (b::r)):=TX (by rw [TB,Gu,Gu])
theorem s_1:(" from ":Str) = " " ++ ("from" ++ " "):=by decide +kernel
theorem s_2:(" to ":Str) = " " ++ ("to" ++ " "):=by decide +kernel
theorem s_3:(" at ":Str) = " " ++ ("at" ++ " "):=by decide +kernel
theorem s_4:(" times ":Str) = " " ++ ("times" ++ " "):=by decide +kernel
theorem s_5:("blocks ":Str) = "blocks" ++ " ":=by decide +kernel
theorem s_6:("only ":Str) = "only" ++ " ":=by decide +kernel
theorem s_7:("( ":Str) = "(" ++ " ":=by decide +kernel
theorem s_8:(" )":Str) = " " ++ ")":=by decide +kernel
local macro_rules | `(tactic| walk_at "tx")=>`(tactic| simp only [Tr.tx,Tr.ws,Kd.w,jn2,c0n,b9z,s_1,s_2,s_3,s_4,s_5,s_6,s_7,s_8])
local macro_rules | `(tactic| walk_at "dk")=>`(tactic| decide +kernel)
theorem c0R:∀(t:Tr) (n:Nat),t.sz<n->n<=1000->t.ok->yR n [t.d]=some (.sh (.str t.tx)):=by
 intro t
 induction t with
 | l3 k p q r =>
  intro n hn h9 hk
  cases n with
  | zero=>cases hn
  | succ n =>
   refine Wo.eq ((Ow (kp:=yR n)).mpr ?_)
   unfold GH
   refine EK ?_
   cases k
   .exact a1o (by kernel_rfl) (a3N (by kernel_rfl) (WE (cK (cK (cK (cK (cK (cK (m:=9) ⟨rfl,by walk_at "dk"⟩ (gj (by walk_at "dk")) (by decide)) (qQ rfl hk.1) (by decide)) (gj (by walk_at "dk")) (by decide)) (qQ rfl hk.2.1) (by decide)) (gj (by walk_at "dk")) (by decide)) (qQ rfl hk.2.2) (by decide)).1 (congrArg (λs=>Sl.sh (D.str s)) (by walk_at "tx"))))
   .exact a1o (by kernel_rfl) (a3N (by kernel_rfl) (WE (cK (cK (cK (cK (cK (cK (m:=9) ⟨rfl,by walk_at "dk"⟩ (gj (by walk_at "dk")) (by decide)) (qQ rfl hk.1) (by decide)) (gj (by walk_at "dk")) (by decide)) (qQ rfl hk.2.1) (by decide)) (gj (by walk_at "dk")) (by decide)) (qQ rfl hk.2.2) (by decide)).1 (congrArg (λs=>Sl.sh (D.str s)) (by walk_at "tx"))))
   .exact a1o (by kernel_rfl) (a1o (by kernel_rfl) (a1o (by kernel_rfl) (a3N (by kernel_rfl) (WE (cK (cK (cK (cK (cK (gj (by walk_at "dk")) (qQ rfl hk.1) (by decide)) (gj (by walk_at "dk")) (by decide)) (qQ rfl hk.2.1) (by decide)) (gj (by walk_at "dk")) (by decide)) (qQ rfl hk.2.2) (by decide)).1 (congrArg (λs=>Sl.sh (D.str s)) (by walk_at "tx"))))))
 | rws k rs =>
  intro n hn h9 hk
  cases n with
  | zero=>cases hn
  | succ n =>
   refine Wo.eq ((Ow (kp:=yR n)).mpr ?_)
   unfold GH
   refine EK ?_
   exact a1o (by cases k<;>kernel_rfl) (a1o (by cases k<;>kernel_rfl) (a3N (by cases k<;>kernel_rfl) (WE (cK (cK (m:=9) ⟨rfl,by cases k<;>walk_at "dk"⟩ (gj (by walk_at "dk")) (by decide)) ⟨b4s ⟨hk.1.2,hk.2⟩,iZ (C9 _ _) (Zi hk)⟩ (by decide)).1 (congrArg (λs=>Sl.sh (D.str s)) (by walk_at "tx")))))
 | name x =>
  intro n hn h9 hk
  cases n with
  | zero=>cases hn
  | succ n=>kernel_rfl
 | two k a b lP xI =>
  intro n hn h9 hk
  cases n with
  | zero=>cases hn
  | succ n =>
   have h1:=lP n (Fj hn) (vA h9) hk.1
   have h2:=xI n (Fi hn) (vA h9) hk.2
   have b1:=Dw hk.1 (Fj hn) (vA h9)
   have b2:=Dw hk.2 (Fi hn) (vA h9)
   refine Wo.eq ((Ow (kp:=yR n)).mpr ?_)
   unfold GH
   refine EK ?_
   iterate 4 refine a1o (by cases k<;>kernel_rfl) ?_
   exact a3N (by cases k<;>kernel_rfl) (WE (cK (cK (cK (cK (cK (cK (gj (by walk_at "dk")) ⟨CQ (s:=.sh a.d) rfl h1,b1⟩ (by decide)) (gj (by walk_at "dk")) (by decide)) (n:=9) ⟨rfl,by cases k<;>walk_at "dk"⟩ (by decide)) (gj (by walk_at "dk")) (by decide)) ⟨CQ (s:=.sh b.d) rfl h2,b2⟩ (by decide)) (gj (by walk_at "dk")) (by decide)).1 (congrArg (λs=>Sl.sh (D.str s)) (by walk_at "tx")))
 | one k a p q lP =>
  intro n hn h9 hk
  cases n with
  | zero=>cases hn
  | succ n =>
   have h1:=lP n (EC hn) (vA h9) hk.1
   have b1:=Dw hk.1 (EC hn) (vA h9)
   refine Wo.eq ((Ow (kp:=yR n)).mpr ?_)
   unfold GH
   refine EK ?_
   iterate 5 refine a1o (by cases k<;>kernel_rfl) ?_
   refine setC ?_
   have e:∀{y:Str} {e0:En},e0[0]?=some (.sh (Tr.one k a p q).d)->e0[2]?=some (.sh (.str y))->y.length<=200 -> "(" ++ (" " ++ (a.tx++(" " ++ (y++(" " ++ ")")))))=(Tr.one k a p q).tx->Wo (bb (ag aQ (ag aQ (ag aQ (ag aQ (eC (.str "( ")) (bT 1 (yR n) (ah (bY (bV 0) (eC (.int 1))) ae))) (eC (.str " "))) (eV 2)) (eC (.str " )"))) e0) (dC λr=>r=.sh (.str (Tr.one k a p q).tx)):=λ{y e0} g0 g2 gy gt=>by
    refine Wo_ret.mpr (WE (cK (cK (cK (cK (gj (by walk_at "dk")) ⟨CQ (s:=.sh a.d) (by unfold bY bV;rw [g0];cases k<;>rfl) h1,b1⟩ (by decide)) (gj (by walk_at "dk")) (by decide)) ⟨by unfold eV;rw [g2];rfl,gy⟩ (by decide)) (gj (by walk_at "dk")) (by decide)).1 (congrArg (λs=>Sl.sh (D.str s)) ?_))
    rw [<-gt]
    simp only [b9z,s_7,s_8]
   have lo:∀{x:Str} {m:Nat},x.length<=m->m<=200->x.length<=200:=λh g=>iZ h g
   cases k
   .have c:=cK (env:=[.sh (Tr.one .a a p q).d,.sh (.str "only"),.sh (.str "only")]) (cK (cK (gj (w:="only ") (by walk_at "dk")) (qQ (f:=bY (bV 0) (eC (.int 2))) rfl hk.2.1) (by decide)) (gj (w:=" to ") (by walk_at "dk")) (by decide)) (qQ (f:=bY (bV 0) (eC (.int 3))) rfl hk.2.2) (by decide)
    exact Ky (by kernel_rfl) (jH (WE c.1 rfl) (Ge (by kernel_rfl)) (a1o (by kernel_rfl) (e rfl rfl (lo c.2 (by decide)) (by walk_at "tx"))))
   .have c:=cK (env:=[.sh (Tr.one .b a p q).d,.sh (.str "after"),.sh (.str "after")]) (m:=18) (cK (f:=eV 1) (m:=9) ⟨rfl,by walk_at "dk"⟩ (gj (w:=" ") (by walk_at "dk")) (by decide)) (qQ (f:=bY (bV 0) (eC (.int 2))) rfl hk.2.1) (by decide)
    exact a1o (by kernel_rfl) (Ky (by kernel_rfl) (jH (WE c.1 rfl) (Ge (by kernel_rfl)) (e rfl rfl (lo c.2 (by decide)) (by walk_at "tx"))))
   .have c:=cK (env:=[.sh (Tr.one .c a p q).d,.sh (.str "fee"),.sh (.str "fee")]) (m:=18) (cK (f:=eV 1) (m:=9) ⟨rfl,by walk_at "dk"⟩ (gj (w:=" ") (by walk_at "dk")) (by decide)) (qQ (f:=bY (bV 0) (eC (.int 2))) rfl hk.2.1) (by decide)
    exact a1o (by kernel_rfl) (Ky (by kernel_rfl) (jH (WE c.1 rfl) (Ge (by kernel_rfl)) (e rfl rfl (lo c.2 (by decide)) (by walk_at "tx"))))
noncomputable def Tr.ns:Tr->List Str
 | .name n=>[n]
 | .two _ a b=>a.ns++b.ns
 | .one _ a _ _=>a.ns
 | _=>[]
theorem TY:∀t:Tr,t.ns.length<=t.sz:=by
 intro t
 induction t with
 | two k a b lP xI=>simp only [Tr.ns,Tr.sz,jv];omega
 | one k a _ _ lP=>simp only [Tr.ns,Tr.sz];omega
 | _=>simp [Tr.ns,Tr.sz]
theorem KG{kp:bq}{o:D}(hp:vS "parts" 1 GD o []=some (.ow [])):ny kp [o]=some (.ow []):=by
 refine Wo.eq (eT.mpr ?_)
 unfold LB
 walk_at "o1"
 rw [hp]
 walk_at "o1"
theorem all1{kp:bq}{o a:D}{xs:List Str}(hp:vS "parts" 1 GD o []=some (.ow [a]))(ha:vS "all_names" 1 kp a []=some (.ow (xs.map D.str)))(hl:xs.length<=100000):ny kp [o]=some (.ow (xs.map D.str)):=by
 refine Wo.eq (eT.mpr ?_)
 unfold LB
 walk_at "o1"
 rw [hp]
 walk_at "o1"
 rw [ha]
 walk_at "o1"
 exact ⟨by simp;omega,rfl⟩
theorem all2{kp:bq}{o a b:D}{xs ys:List Str}(hp:vS "parts" 1 GD o []=some (.ow [a,b]))(ha:vS "all_names" 1 kp a []=some (.ow (xs.map D.str)))(hb:vS "all_names" 1 kp b []=some (.ow (ys.map D.str)))(hl:xs.length<=100000)(hm:ys.length<=100000):ny kp [o]=some (.ow ((xs++ys).map D.str)):=by
 refine Wo.eq (eT.mpr ?_)
 unfold LB
 walk_at "o1"
 rw [hp]
 walk_at "o1"
 rw [ha]
 walk_at "o1"
 refine ⟨by simp;omega,?_⟩
 rw [hb]
 walk_at "o1"
 exact ⟨by simp;omega,by simp⟩
theorem JI:∀(t:Tr) (n:Nat),t.sz<n->n<=1000->vS "all_names" 1 (yS n) t.o []=some (.ow (t.ns.map D.str)):=by
 intro t
 have z:∀{t:Tr} {n:Nat},t.sz<n->n+1<=1000->t.ns.length<=100000:=λ{t n} h g=>by
  have:=TY t
  omega
 induction t with
 | l3 k p q r =>
  intro n hn h9
  cases n with
  | zero=>cases hn
  | succ n=>exact l4 (b:=ny (yS n) [(Tr.l3 k p q r).o]) (by cases k<;>kernel_rfl) (KG (by cases k<;>kernel_rfl))
 | rws k rs =>
  intro n hn h9
  cases n with
  | zero=>cases hn
  | succ n=>exact l4 (b:=ny (yS n) [(Tr.rws k rs).o]) (by cases k<;>kernel_rfl) (KG (by cases k<;>kernel_rfl))
 | name x =>
  intro n hn h9
  cases n with
  | zero=>cases hn
  | succ n=>kernel_rfl
 | two k a b lP xI =>
  intro n hn h9
  cases n with
  | zero=>cases hn
  | succ n=>exact l4 (b:=ny (yS n) [(Tr.two k a b).o]) (by cases k<;>kernel_rfl) (all2 (a:=a.o) (b:=b.o) (by cases k<;>kernel_rfl) (lP n (Fj hn) (vA h9)) (xI n (Fi hn) (vA h9)) (z (Fj hn) h9) (z (Fi hn) h9))
 | one k a p q lP =>
  intro n hn h9
  cases n with
  | zero=>cases hn
  | succ n=>exact l4 (b:=ny (yS n) [(Tr.one k a p q).o]) (by cases k<;>kernel_rfl) (all1 (a:=a.o) (xs:=a.ns) (by cases k<;>kernel_rfl) (lP n (EC hn) (vA h9)) (z (EC hn) h9))
noncomputable def DN(t:Tr):List Str:=SE.oa SE.oY t.ns
theorem UB(t:Tr)(x:Str):x∈DN t↔x∈t.ns:=SE.kr SE.jk x t.ns
theorem YY(x:Str):∀l:List Str,(SE.ins SE.oY x l).length<=l.length+1
 | []=>cT _
 | y::l=>by
  unfold SE.ins
  have:=YY x l
  repeat' split
  all_goals simp only [ia];omega
theorem Zu:∀l:List Str,(SE.oa SE.oY l).length<=l.length
 | []=>cT _
 | x::l=>by
  unfold SE.oa
  have:=YY x (SE.oa SE.oY l)
  have:=Zu l
  rw [ia]
  omega
theorem b2n(xs:List Str)(h:xs.length<64):sset (xs.map D.str)=some ((SE.oa SE.oY xs).map D.str):=by
 cases xs with
 | nil=>rfl
 | cons x xs =>
  unfold sset
  rw [show yK ((x::xs).map D.str)=none from rfl]
  dsimp only
  rw [strs_map]
  show (if (x::xs).length<64 then some ((SE.oa SE.oY (x::xs)).map D.str) else none)=_
  rw [if_pos h]
theorem Ud(t:Tr)(hz:t.sz<6):vS "names" 1 E1 t.o []=some (.ow ((DN t).map D.str)):=by
 have h:=JI t 6 hz (by decide)
 rw [show vS "names" 1 E1 t.o []=qI [t.o] from by (cases t with | l3 k _ _ _=>cases k<;>kernel_rfl | rws k _=>cases k<;>kernel_rfl | name _=>kernel_rfl | two k _ _=>cases k<;>kernel_rfl | one k _ _ _=>cases k<;>kernel_rfl)]
 refine Wo.eq (pG.mpr ?_)
 unfold Vs
 rw [Wo_ret,b5P]
 walk_at "o1"
 rw [h]
 walk_at "o1"
 rw [HD,b2n _ (by have:=TY t;omega),a0c]
 rfl
theorem K5{α:Type}:∀(ks:List Str) (ds:List α) (x:Str),ks.length=ds.length->((jf ks ds x).isSome=true↔x∈ks)
 | [],[],x,_=>by simp [jf]
 | [],_::_,x,h=>by cases h
 | _::_,[],x,h=>by cases h
 | k::ks,d::ds,x,h=>by
  unfold jf
  by_cases e:k=x
  .rw [if_pos e];simp [e]
  .rw [if_neg e,K5 ks ds x (by simpa using h)]
   have:x≠k:=λz=>e z.symm
   simp [this]
theorem c0d{ks:List Str}{ds:List D}(h:ks.length=ds.length)(x:Str)(d:D):(vQ ks x).length=(vR ks ds x d).length:=b0P h x d
theorem b9O(ks:List Str)(x y:Str):y∈vQ ks x↔y∈ks\/y=x:=by
 unfold vQ
 by_cases h:x∈ks
 .rw [if_pos h]
  exact ⟨.inl,λz=>z.elim id λe=>e▸h⟩
 .rw [if_neg h,qm,nP]
structure Bk(L:List (Str×Tr))(r:Str->Nat):Prop where
 nd:(L.map (·.1)).Nodup
 ok:∀q∈L,q.2.ok/\q.2.sz<6
 QN:∀q∈L,∀x∈q.2.ns,x∈L.map (·.1)
 dn:∀q∈L,∀x∈q.2.ns,r x<r q.1
 JB:L.length<=30
noncomputable def eA(L:List (Str×Tr)):List Str:=L.map (·.1)
noncomputable def kU(L:List (Str×Tr)):List D:=L.map λq=>q.2.o
theorem NH:∀(L:List (Str×Tr)) (x:Str),x∈eA L->∃t,(x,t)∈L/\jf (eA L) (kU L) x=some t.o
 | [],x,h=>by cases h
 | q::L,x,h=>by
  show ∃t,(x,t)∈q::L/\(if q.1=x then some q.2.o else jf (eA L) (kU L) x)=some t.o
  by_cases e:q.1=x
  .rw [if_pos e]
   exact ⟨q.2,by rw [<-e];exact jM,rfl⟩
  .rw [if_neg e]
   rcases ej.mp h with z | z
   .exact (e z.symm).elim
   .obtain ⟨t,h1,h2⟩:=NH L x z
    exact ⟨t,i0 _ h1,h2⟩
theorem b8l{env:En}{ks:List Str}{ds:List D}{Q:Fl×En->Prop}:Gk env (some (.tw ks ds)) Q↔Q (.rt (.tw ks ds),env):=ju
theorem b3L{L:List (Str×Tr)}{r:Str->Nat}(B:Bk L r){k:Str}(hk:k∈eA L):Wo (Ls [.dq (eA L) (kU L),.str k]) λx=>∃ks ds,x=.tw ks ds/\ks.length=ds.length/\∀y∈ks,r y<r k:=by
 refine m7.mpr ?_
 unfold VT
 obtain ⟨t,ht,hl⟩:=NH L k hk
 walk_at "o1"
 rw [TQ]
 walk_at "o1"
 refine ⟨k,rfl,?_⟩
 walk_at "o1"
 rw [hl]
 walk_at "o1"
 rw [Ud t (B.ok _ ht).2]
 walk_at "o1"
 rw [b1k]
 have WN:∀x t,(x,t)∈L->(DN t).length<=1000:=λx t h=>by
  have h1:=Zu t.ns
  have h2:=TY t
  have h3:=(B.ok _ h).2
  unfold DN
  dsimp only at h3
  omega
 refine OE (λn env=>∃ks ds w x4,env=[.sh (.dq (eA L) (kU L)),.sh (.str k),.tw ks ds,.ow (vy D.str w),x4]/\ks.length=ds.length/\(∀y∈ks,r y<r k)/\(∀y∈w,y∈eA L/\r y<r k)/\w.length+1001*((eA L).countP λy=>decide (y∉ks))<=n/\(ks.length+((eA L).countP λy=>decide (y∉ks))<=30/\n<=40000)) (λn env h=>?_) 1000000 (1000+1001*30) (by decide) ?_
 .obtain ⟨ks,ds,w,x4,rfl,hlen,IU,hw,hn,hc,hb4⟩:=h
  walk_at "o1"
  refine ⟨λhb=>?_,λhb=>?_⟩
  .rcases Nh w with rfl | ⟨w,y,rfl⟩
   .cases hb
   rw [Ng] at *
   have hy:=hw y (by simp)
   rw [jv,z6] at hn
   rw [show (vy D.str (w++[y]))[(vy D.str (w++[y])).length-1]?=some (.str y) by simp,a0c]
   refine ⟨by decide,?_⟩
   rw [show (vy D.str (w++[y])).dropLast=w.map D.str by simp]
   rw [a4e,b1l,b5O rfl]
   walk_at "o1"
   refine ⟨y,rfl,?_⟩
   refine ⟨λQ8=>?_,λQ8=>?_⟩
   .have WY:y∉ks:=λz=>by
     rw [(K5 ks ds y hlen).mpr z] at Q8
     cases Q8
    obtain ⟨t',Mg,mT⟩:=NH L y hy.1
    rw [c1c rfl]
    walk_at "o1"
    refine ⟨y,rfl,by omega,?_⟩
    rw [TQ]
    walk_at "o1"
    refine ⟨y,rfl,?_⟩
    walk_at "o1"
    rw [mT]
    walk_at "o1"
    rw [Ud t' (B.ok _ Mg).2]
    walk_at "o1"
    have hnb:=WN _ _ Mg
    have IM:vQ ks y=ks++[y]:=by unfold vQ;rw [if_neg WY]
    have iw:((eA L).countP λz=>decide (z∉ks++[y]))<((eA L).countP λz=>decide (z∉ks)):=SE.rQ _ (λx _ hx=>by
     simp only [qm,nP,not_or,decide_eq_true_eq] at hx ⊢
     exact hx.1) ⟨y,hy.1,by simpa using WY,by simp⟩
    refine ⟨by rw [cP,cP];omega,_,?_,vQ ks y,vR ks ds y (.bl true),w++DN t',.sh (.str y),by rw [rT],c0d hlen _ _,?_,?_,cT _,?_⟩
    .rw [IM,jv]
     omega
    .intro z hz
     rcases (b9O ks y z).mp hz with hz | rfl
     .exact IU z hz
     .exact hy.2
    .intro z hz
     rcases qm.mp hz with hz | hz
     .exact hw z (A6 _ hz)
     .rw [UB] at hz
      exact ⟨B.QN _ Mg z hz,CZ (B.dn _ Mg z hz) hy.2⟩
    .rw [IM,jv,z6,jv]
     omega
   .exact ⟨_,by omega,ks,ds,w,_,rfl,hlen,IU,λz hz=>hw z (A6 _ hz),cT _,hc,by omega⟩
  .simp only [b8l,b3I]
   exact ⟨ks,ds,rfl,hlen,IU⟩
 .have h0:((eA L).countP λy=>decide (y∉([]:List Str)))<=30:=iZ XE (by unfold eA;rw [cP];exact B.JB)
  refine ⟨[],[],DN t,_,rfl,rfl,λ_ z=>(nomatch z),λy hy=>?_,?_,by simpa using h0,by decide⟩
  .rw [UB] at hy
   exact ⟨B.QN _ ht y hy,B.dn _ ht y hy⟩
  .have:=WN _ _ ht
   omega
theorem b8e{L:List (Str×Tr)}{r:Str->Nat}(B:Bk L r):E4 [.dq (eA L) (kU L)]=some (.sh .cD):=by
 refine Wo.eq (nY.mpr ?_)
 unfold VD
 have hlen:(eA L).length=(kU L).length:=by unfold eA kU;rw [cP,cP]
 rw [Wo_seq]
 refine Wo.mono (P:=λp=>∃x1 x2,p=(.nx,[.sh (.dq (eA L) (kU L)),x1,x2])) ?_ ?_
 .rw [b0A,JC rfl,a0c]
  refine ES (λq:Str×Tr=>q.2.o) (λpre env=>∃x1 x2,env=[.sh (.dq (eA L) (kU L)),x1,x2]) L (λpre q post env e h=>?_) (λenv h=>?_) ⟨_,_,rfl⟩
  .obtain ⟨x1,x2,rfl⟩:=h
   have hq:q∈L:=by rw [e];simp
   walk_at "o1"
   rw [Ud q.2 (B.ok q hq).2]
   walk_at "o1"
   refine ES D.str (λpre env=>∃x2,env=[.sh (.dq (eA L) (kU L)),.sh q.2.o,x2]) (DN q.2) (λpre y post env e2 h=>?_) (λenv h=>?_) ⟨_,rfl⟩
   .obtain ⟨x2,rfl⟩:=h
    have hy:y∈eA L:=B.QN q hq y ((UB _ _).mp (by rw [e2];simp))
    walk_at "o1"
    rw [a4e,b1l,Uj]
    walk_at "o1"
    refine ⟨y,rfl,?_⟩
    rw [(K5 _ _ y hlen).mpr hy]
    exact ⟨λz=>(nomatch z),λ_=>⟨_,rfl⟩⟩
   .obtain ⟨x2,rfl⟩:=h
    exact ⟨_,_,rfl⟩
  .obtain ⟨x1,x2,rfl⟩:=h
   exact ⟨_,_,rfl⟩
 .rintro _ ⟨x1,x2,rfl⟩
  rw [a12,b0A,JD rfl,a0c]
  refine ES D.str (λpre env=>∃x1 x2,env=[.sh (.dq (eA L) (kU L)),x1,x2]) (eA L) (λpre y post env e h=>?_) (λenv h=>?_) ⟨_,_,rfl⟩
  .obtain ⟨x1,x2,rfl⟩:=h
   have hy:y∈eA L:=by rw [e];simp
   walk_at "o1"
   rw [a4e,b1l,Uj]
   walk_at "o1"
   refine ⟨y,rfl,?_⟩
   refine (b3L B hy).mono λx hx=>?_
   obtain ⟨ks,ds,rfl,hl,hr⟩:=hx
   have hn:(jf ks ds y).isSome=false:=by
    cases hz:(jf ks ds y).isSome with
    | false=>rfl
    | true=>exact absurd (hr y ((K5 ks ds y hl).mp hz)) (z7 _)
   walk_at "o1"
   rw [hn]
   exact ⟨λz=>(nomatch z),λ_=>⟨_,_,rfl⟩⟩
  .obtain ⟨x1,x2,rfl⟩:=h
   walk_at "o1"
theorem b8R{c:Nat}{x:Str}{Q:Sl->Prop}:Wo (uX (.str ⟨#[c]⟩) (.str x)) Q↔Q (.sh (.bl (decide (c∈x.cps.toList)))):=by
 unfold uX
 rw [a0c,PySem.StrLaws.found_one]
theorem TR{fa fb:En->Option Sl}{env:En}{z:Str}{i:Int}{c:Nat}{Q:Sl->Prop}(e:fa env=some (.sh (.str z)))(e2:fb env=some (.sh (.int i)))(hz:z.length<=16777216)(h:L2.gf z.cps.toList i=some c):Wo (qh fa fb env) Q↔Q (.sh (.str ⟨#[c]⟩)):=by
 unfold qh
 rw [e,e2]
 show Wo (if z.length<=16777216 then (L2.gf z.cps.toList i).map λc=>Sl.sh (.str ⟨#[c]⟩) else none) Q↔_
 rw [if_pos hz,h]
 exact a0c
noncomputable def V2:List Str:=["each","from","to","flat","bands","steps","blocks","at","times","plus","or","max","only","after","roomy","fee"]
theorem ZC(t:Str)(ws:List Str):inD (.str t) (ws.map D.str)=some (decide (t∈ws)):=by
 unfold inD
 rw [vD]
 have:jZ (ws.map ((λd=>bO 7 d (.str t))∘D.str))=some (ws.map λw=>decide (w=t)):=by
  induction ws with
  | nil=>rfl
  | cons c cs ih =>
   rw [gS,gS]
   show (jZ _).map _=_
   rw [ih]
   rfl
 rw [this]
 show some ((ws.map λw=>decide (w=t)).any id)=_
 congr 1
 rw [JW,List.any_map,MZ,decide_eq_true_iff]
 constructor
 .rintro ⟨x,hx,e⟩
  have:x=t:=by simpa using e
  rw [<-this];exact hx
 .exact λh=>⟨t,h,by simp⟩
noncomputable def qy:List Nat:=lt "abcdefghijklmnopqrstuvwxyz"
theorem c0e:∀c∈qy,c<128:=by decide +kernel
def Nm(x:Str):Prop:=(1<=x.length/\x.length<=8)/\(∀c∈lt x,c∈qy)/\x∉V2
theorem b5m{t:Str}(h:Nm t):Ln [.str t]=some (.sh (.bl true)):=by
 obtain ⟨⟨h1,h8⟩,hc,ho⟩:=h
 refine Wo.eq (vY.mpr ?_)
 unfold U4
 have L:∀Q,Wo (Gj (eV 0) [Sl.sh (D.str t)]) Q↔Q (.sh (.int t.length)):=λQ=>b8I rfl (by omega)
 have T:∀Q,Wo (zN (eV 0) [Sl.sh (D.str t)]) Q↔Q (t.cps.toList.map λc=>.str ⟨#[c]⟩):=λQ=>b8X rfl (by
  rw [Array.all_eq_true']
  intro c hm
  exact decide_eq_true (c0e c (hc c (by simpa [lt] using hm))))
 have C:l6 (gN 0) iN (ag uX (eV 0) (eC (D.str (yw "abcdefghijklmnopqrstuvwxyz")))) (t.cps.toList.map λc=>.str ⟨#[c]⟩) [Sl.no]=some (t.cps.toList.map λ_=>D.bl true):=by
  refine DL.comp_map (λc:Nat=>D.str ⟨#[c]⟩) (λ_=>.bl true) (λe=>∃x,e=[x]) t.cps.toList (λc hm e he=>?_) ⟨_,rfl⟩
  obtain ⟨x,rfl⟩:=he
  walk_at "vc"
  rw [b8R]
  refine ⟨⟨_,rfl⟩,?_⟩
  show D.bl (decide _)=_
  rw [decide_eq_true (show c∈(yw "abcdefghijklmnopqrstuvwxyz").cps.toList from hc c hm)]
 have W:inD (.str t) [D.str "each",D.str "from",D.str "to",D.str "flat",D.str "bands",D.str "steps",D.str "blocks",D.str "at",D.str "times",D.str "plus",D.str "or",D.str "max",D.str "only",D.str "after",D.str "roomy",D.str "fee"]=some false:=(ZC t V2).trans (congrArg some (decide_eq_false ho))
 walk_at "v1"
 rw [a4e]
 walk_at "v1"
 simp only [L,T,C,W,a0c]
 walk_at "v1"
 have hb:∀l:List Nat,kM (l.map λ_=>D.bl true)=some (l.map λ_=>true):=λl=>by
  induction l with
  | nil=>rfl
  | cons a l ih =>
   show (kM (l.map λ_=>D.bl true)).map _=_
   rw [ih]
   rfl
 refine ⟨λ_=>⟨λz=>(z (by omega)).elim,λ_=>⟨?_,?_⟩⟩,λz=>(z (by omega)).elim⟩
 .rw [cP]
  have:=yP t
  unfold lt at this
  omega
 .rw [hb,a0c,show (vy (λ_=>true) t.cps.toList).all id=true from by simp]
theorem b1o{F:SF}{c:En->Option Bool}{env:En}{Q:Fl×En->Prop}(h:Wo (c env) λb=>b=false)(g:Q (.nx,env)):Wo (eF c F fG env) Q:=NU h g
theorem b5o{ks:List Str}(hn:∀x∈ks,Nm x)(nd:ks.Nodup)(hl:ks.length<=1000){r:Bool}:E5 [.lst r (ks.map D.str)]=some (.sh .cD):=by
 refine Wo.eq (nZ.mpr ?_)
 unfold VR
 rw [Wo_seq]
 refine Wo.mono (P:=λp=>∃x1,p=(.nx,[.sh (.lst r (ks.map D.str)),x1])) ?_ ?_
 .walk_at "o1"
  refine ES D.str (λpre env=>∃x1,env=[.sh (.lst r (ks.map D.str)),x1]) ks (λpre y post env e h=>?_) (λenv h=>?_) ⟨_,rfl⟩
  .obtain ⟨x1,rfl⟩:=h
   walk_at "o1"
   refine NU ?_ ⟨_,rfl⟩
   walk_at "o1"
   rw [b5m (hn y (by rw [e];simp))]
   walk_at "o1"
  .obtain ⟨x1,rfl⟩:=h
   exact ⟨_,rfl⟩
 .rintro _ ⟨x1,rfl⟩
  rw [a12]
  refine NU ?_ rfl
  walk_at "o1"
  rw [strs_map,a0c]
  refine ⟨by omega,?_⟩
  walk_at "o1"
  rw [cP,<-Yt nd λx=>ju]
  simp
theorem b8f{n:Int}(h:n<=30):GN [.int n]=some (.sh .cD):=by
 refine Wo.eq (pF.mpr ?_)
 unfold Vt
 refine NU ?_ rfl
 walk_at "o1"
 omega
noncomputable def Pq(q:Str×Tr):D:=.tup [.str q.1,q.2.o]
theorem a8J:∀L:List (Str×Tr),Ci (L.map Pq)=some (eA L,kU L)
 | []=>rfl
 | q::L=>by
  show (Ci (L.map Pq)).map _=_
  rw [a8J L]
  rfl
theorem YX{G:SF}{F:IF}{env af:En}{ns:List Str}{ds:List D}(h:G env=some (.nx,af))(ho:EL af=true):Fw G F env ns ds=F af ns ds:=by
 unfold Fw
 rw [h]
 dsimp only
 rw [if_pos ho]
theorem ZA{f:Str}{fe:En->Option Sl}{F:IF}{env:En}{r:Sl}{ns:List Str}{ds:List D}(h:fe env=some r)(hf:¬(f∈ns\/900<ns.length)):dg f fe F env ns ds=F env (ns++[f]) (ds++[r.d]):=by
 unfold dg
 rw [h]
 show (if f∈ns\/900<ns.length then none else _)=_
 rw [if_neg hf]
theorem Z0(d0:List D):∀rs:List (Int×Int),dN d0 (rs.map Pr)=true
 | []=>by rw [Em,dN]
 | r::rs=>by
  rw [gS,dN,Z0 d0 rs]
  simp [Pr,y3,dN]
theorem b6N{L:List (Str×Tr)}(h:L≠[])(rs:List (Int×Int)):Fg (L.map Pq) (rs.map Pr)=true:=by
 match L,h,rs with
 | _::_,_,[]=>rfl
 | _::_,_,_::_=>rfl
theorem PV{L:List (Str×Tr)}(h:L≠[])(t:Tr):y3 (L.map Pq) t.o=true:=by
 induction t with
 | l3 k p q r=>simp [Tr.o,y3,dN]
 | rws k rs=>simp [Tr.o,y3,dN,Z0,b6N h]
 | name n=>simp [Tr.o,y3,dN]
 | two k a b lP xI=>simp [Tr.o,y3,dN,lP,xI]
 | one k a p q lP=>cases k<;>simp [Tr.o,Kd.w,y3,dN,lP]
theorem b9q(L:List (Str×Tr)):dN (L.map Pq) (L.map Pq)=true:=by
 by_cases h:L=[]
 .subst h;rw [Em,dN]
 .have:∀M:List (Str×Tr),dN (L.map Pq) (M.map Pq)=true:=λM=>by
   induction M with
   | nil=>rw [Em,dN]
   | cons q M ih =>
    rw [gS,dN,ih]
    simp [Pq,y3,dN,PV h]
  exact this L
theorem b7P{G:SF}{F:IF}{x y:Sl}{d0 es:List D}{ns:List Str}{ds:List D}(h:G [x,.sh (.lst false d0),y]=some (.nx,[x,.sh (.lst false d0),.sh (.lst false es)]))(ht:dN d0 es=true):zC 2 G F [x,.sh (.lst false d0),y] ns ds=F [.no,.no,.sh (.lst false es)] ns ds:=by
 unfold zC
 show (match G [x,.sh (.lst false d0),y] with | some (.nx,af)=>_ | _=>none)=_
 rw [h]
 show (if dN d0 es=true then F (p6 3 2 es) ns ds else none)=_
 rw [if_pos ht]
 rfl
theorem b5l{L:List (Str×Tr)}{r:Str->Nat}(B:Bk L r)(hn:∀q∈L,Nm q.1):Lk [.lst false (L.map Pq)]=some [.lst false (L.map Pq),.dq (eA L) (kU L)]:=by
 have hf:=B.JB
 have h1:gU 2 (g7 (fM (eV 1)) [] 2 (gT 2 (nu (gN 0) (nu (gN 1) yM))) iN (iG (ah (eV 0) (ah (eV 1) ae)))) [.no,.sh (.lst false (L.map Pq)),.no]=some (.nx,[.no,.sh (.lst false (L.map Pq)),.sh (.lst false (L.map Pq))]):=by
  refine Wo.eq ?_
  rw [a2T]
  walk_at "v1"
  refine ⟨by rw [cP];omega,_,DL.comp_map Pq Pq (λe=>e.length=2) L (λa ha e he=>?_) rfl,rfl⟩
  obtain ⟨y0,y1,rfl⟩:∃y0 y1,e=[y0,y1]:=by
   match e,he with
   | [a,b],_=>exact ⟨a,b,rfl⟩
  unfold Pq
  walk_at "v1"
 have h2:Dd (bT 1 GN (ah (jK (bV 2)) ae)) [.no,.no,.sh (.lst false (L.map Pq))]=some (.nx,[.no,.no,.sh (.lst false (L.map Pq))]):=by
  refine Wo.eq ?_
  walk_at "o1"
  rw [cP,b8f (by omega)]
  walk_at "o1"
 have h3:Dd (bT 1 E5 (ah (g7 (fM (eV 2)) [] 2 (gT 2 (nu (gN 0) (nu (gN 1) yM))) iN (eV 0)) ae)) [.no,.no,.sh (.lst false (L.map Pq))]=some (.nx,[.no,.no,.sh (.lst false (L.map Pq))]):=by
  refine Wo.eq ?_
  walk_at "o1"
  refine ⟨by rw [cP];omega,_,DL.comp_map Pq (λq=>.str q.1) (λe=>e.length=2) L (λa ha e he=>?_) rfl,?_⟩
  .obtain ⟨y0,y1,rfl⟩:∃y0 y1,e=[y0,y1]:=by
    match e,he with
    | [a,b],_=>exact ⟨a,b,rfl⟩
   unfold Pq
   walk_at "v1"
  .refine (show Wo (E5 [.lst false (L.map λq=>.str q.1)]) _ from ?_)
   rw [show (L.map λq=>D.str q.1)=(eA L).map D.str by unfold eA;rw [vD];rfl,b5o (ks:=eA L) (λx hx=>?_) B.nd (by unfold eA;rw [cP];omega)]
   .walk_at "o1"
   .obtain ⟨q,hq,rfl⟩:=pd.mp hx
    exact hn q hq
 have h4:KJ (eV 2) [.no,.no,.sh (.lst false (L.map Pq))]=some (.sh (.dq (eA L) (kU L))):=by
  refine Wo.eq ?_
  rw [a9t]
  walk_at "o1"
  rw [a8J,a0c]
  exact ⟨B.nd,rfl⟩
 unfold Lk eJ
 rw [show (Sl.no::lg (3-1) [.lst false (L.map Pq)])=[.no,.sh (.lst false (L.map Pq)),.no] from rfl,b7P h1 (b9q L),YX h2 rfl,YX h3 rfl,ZA (r:=.sh (.lst false (L.map Pq))) rfl (by decide +kernel),ZA h4 (by decide +kernel)]
 have h5:zZ ("rules":Str) [(("offers":Str),D.lst false (L.map Pq)),(("rules":Str),D.dq (eA L) (kU L))]=some (.dq (eA L) (kU L)):=by kernel_rfl
 show (match (zZ ("rules":Str) [(("offers":Str),D.lst false (L.map Pq)),(("rules":Str),D.dq (eA L) (kU L))]).bind (λd=>(E4 [d]).bind λ_=>some ([("offers":Str),("rules":Str)],[D.lst false (L.map Pq),D.dq (eA L) (kU L)])) with | some (gX,fs)=>if gX=Ck then some fs else none | none=>none)=_
 rw [h5]
 show (match (E4 [.dq (eA L) (kU L)]).bind (λ_=>some ([("offers":Str),("rules":Str)],[D.lst false (L.map Pq),D.dq (eA L) (kU L)])) with | some (gX,fs)=>if gX=Ck then some fs else none | none=>none)=_
 rw [b8e B]
 kernel_rfl
noncomputable def Bo(L:List (Str×Tr)):D:=.obj "Book" Ck [.lst false (L.map Pq),.dq (eA L) (kU L)]
theorem ZQ(a b:D):zM Ak "rules" (.obj "Book" Ck [a,b])=some b:=by kernel_rfl
theorem b49(a b:D):zM La "offers" (.obj "Book" Ck [a,b])=some a:=by kernel_rfl
noncomputable def Pd(q:Str×Tr):D:=.tup [.str q.1,q.2.d]
theorem Ue(c k:Int)(hk:0<=k/\k<=200):∃m:Int,Dl [.int c,.int k]=some (.sh (.int m)) /\ -(10^40)<=m/\m<=10^40:=by
 have key:Wo (Dl [.int c,.int k]) λx=>∃m:Int,x=.sh (.int m) /\ -(10^40)<=m/\m<=10^40:=by
  refine qw.mpr ?_
  unfold Vw
  obtain ⟨a,ea,a0,a1⟩:=l7 c (k+60) 3 (by omega) (by decide)
  walk_at "v1"
  rw [ea]
  walk_at "v1"
  refine ⟨by decide,by decide,?_⟩
  refine ZS [3,10^9,10^39] a0 (by simpa using a1) λv hv=>?_
  have hb:0<v/\v<=10^39:=by
   simp only [ej,yt,or_false] at hv
   omega
  obtain ⟨b,eb,b0,b1⟩:=l7 c k (2*v+1) (by omega) (by omega)
  walk_at "v1"
  rw [eb]
  walk_at "v1"
  exact ⟨.inl (by decide),_,rfl,by omega,by omega⟩
 obtain ⟨x,e,m,rfl,h⟩:=key
 exact ⟨m,e,h⟩
theorem eqT(a:Str):cw (.str a) (.str a)=some (.sh (.bl true)):=by
 simp [cw,bO]
theorem neT(a:Str):gn (.str a) (.str a)=some (.sh (.bl false)):=by
 simp [gn,bO]
theorem ZM(c sc:Int)(hs:1<=sc/\sc<=10^38):∃rs,GS [.int c,.int sc]=some (.ow (rs.map Pr))/\(rs≠[]/\rs.length<=9)/\∀q∈rs,Sh q.1/\Sh q.2:=by
 have key:Wo (GS [.int c,.int sc]) λx=>∃rs,x=.ow (rs.map Pr)/\(rs≠[]/\rs.length<=9)/\∀q∈rs,Sh q.1/\Sh q.2:=by
  refine sd.mpr ?_
  unfold Vl
  obtain ⟨a,ea,a0,a1⟩:=l7 c 30 sc (by decide) (by lia)
  obtain ⟨b,eb,b0,b1⟩:=l7 c 31 3 (by decide) (by decide)
  obtain ⟨m,em,m0,m1⟩:=l7 c 32 2 (by decide) (by decide)
  walk_at "v1"
  rw [ea]
  walk_at "v1"
  rw [eb]
  walk_at "v1"
  have hp0:0<=a*b:=FR a0 b0
  have hp1:a*b<=10^38*2:=FQ (by lia) (by lia) b0 (by decide)
  refine ⟨.inr (.inl (by lia)),by walk_at "sc",?_⟩
  generalize a*b=ab at *
  rw [em]
  walk_at "v1"
  refine ⟨by walk_at "sc",?_⟩
  refine Uv _ _ (λk env=>∃x4,∃(rs:List (Int×Int)) (top:Int),env=[.sh (.int c),.sh (.int sc),.ow (rs.map Pr),.sh (.int top),x4]/\rs.length=k/\0<=top/\top<=10^38+k*(10^38+1)/\∀q∈rs,Sh q.1/\Sh q.2) (λk env hk h=>?_) (λenv h=>?_) ⟨_,[],_,rfl,rfl,by lia,by lia,λq hq=>(nomatch hq)⟩
  .obtain ⟨x4,rs,top,rfl,hl,t0,t1,hq⟩:=h
   obtain ⟨p,ep,p0,p1⟩:=Ue c (33+(0+(k:Int))) (by lia)
   obtain ⟨n,en,n0,n1⟩:=l7 c (40+(0+(k:Int))) sc (by lia) (by lia)
   walk_at "v1"
   rw [ep]
   walk_at "v1"
   refine ⟨by rw [cP];lia,?_⟩
   rw [en]
   walk_at "v1"
   refine ⟨_,rs++[(top,p)],_,by rw [rT];rfl,by simp [hl],by lia,by lia,λq iV=>?_⟩
   rcases qm.mp iV with z | z
   .exact hq q z
   .rw [nP.mp z];unfold Sh;dsimp only;lia
  .obtain ⟨x4,rs,top,rfl,hl,t0,t1,hq⟩:=h
   walk_at "vc"
   refine ⟨rs,rfl,⟨?_,by lia⟩,hq⟩
   intro z
   rw [z] at hl
   simp at hl
   lia
 obtain ⟨x,e,rs,rfl,h⟩:=key
 exact ⟨rs,e,h⟩
theorem b8j(ws:List Str){w:Int}(w0:0<=w)(w1:w<ws.length):∃x∈ws,L2.gf (ws.map D.str) w=some (.str x):=by
 refine ⟨ws[w.toNat]'(by omega),pL _,?_⟩
 unfold L2.gf mJ
 rw [cP,if_pos w0,if_pos (by omega)]
 show (ws.map D.str)[w.toNat]?=_
 rw [nj,je (by omega)]
 rfl
theorem HA{c:En->Option Bool}{F G:SF}{env:En}{Q:Fl×En->Prop}(h:c env=some true)(g:Wo (F env) Q):Wo (eF c F G env) Q:=by
 rw [a4e,h,a0c]
 exact ⟨λ_=>g,λz=>(nomatch z)⟩
theorem HB{c:En->Option Bool}{F G:SF}{env:En}{Q:Fl×En->Prop}(h:c env=some false)(g:Wo (G env) Q):Wo (eF c F G env) Q:=by
 rw [a4e,h,a0c]
 exact ⟨λz=>(nomatch z),λ_=>g⟩
theorem L8{c:En->Option Bool}{F G:SF}{env:En}{Q:Fl×En->Prop}(h:c env=some false)(g:Wo (G env) Q):Wo (eF c F fG env) (oR G Q):=Wo_seq.mp (a1o h g)
theorem Wt{c:En->Option Bool}{f:En->Option Sl}{G:SF}{env:En}{Q:Sl->Prop}(h:c env=some true)(g:Wo (f env) Q):Wo (eF c (bb f) fG env) (oR G (dC Q)):=Wo_seq.mp (a3N h g)
theorem c0U(c sc:Int)(hs:1<=sc/\sc<=10^38)(ws:List Str)(hw:ws.length<=100)(DU:∀x∈ws,x.length<=100){r:Bool}:∃t:Tr,GR [.int c,.int sc,.lst r (ws.map D.str)]=some (.sh t.d)/\t.ok/\t.sz=1/\∀x∈t.ns,x∈ws:=by
 have key:Wo (GR [.int c,.int sc,.lst r (ws.map D.str)]) λx=>∃t:Tr,x=.sh t.d/\t.ok/\t.sz=1/\∀x∈t.ns,x∈ws:=by
  refine se.mpr ?_
  unfold Vk
  obtain ⟨t,et,t0,t1⟩:=l7 c 1 7 (by decide) (by decide)
  obtain ⟨p,ep,p0,p1⟩:=Ue c 2 (by decide)
  obtain ⟨a,ea,a0,a1⟩:=l7 c 3 sc (by decide) (by omega)
  obtain ⟨b,eb,b0,b1⟩:=l7 c 4 2 (by decide) (by decide)
  obtain ⟨u,eu,u0,u1⟩:=l7 c 5 sc (by decide) (by omega)
  obtain ⟨v,ev,v0,v1⟩:=l7 c 6 4 (by decide) (by decide)
  have l0:0<=a*b:=FR a0 b0
  have l1:a*b<=10^38*1:=FQ (by omega) (by omega) b0 (by decide)
  have h0:0<=u*v:=FR u0 v0
  have h1:u*v<=10^38*3:=FQ (by omega) (by omega) v0 (by decide)
  have c1:MulC a b:=.inr (.inl (by omega))
  have c2:MulC u v:=.inr (.inl (by omega))
  obtain ⟨kd,Q6,RG⟩:∃kd:Str,(kd = "each" \/ kd = "flat" \/ kd = "bands" \/ kd = "steps" \/ kd = "blocks" \/ kd = "name")/\L2.gf [D.str "each",D.str "flat",D.str "bands",D.str "steps",D.str "blocks",D.str "name",D.str "name"] t=some (.str kd):=by
   have ht:t=0\/t=1\/t=2\/t=3\/t=4\/t=5\/t=6:=by omega
   rcases ht with rfl | rfl | rfl | rfl | rfl | rfl | rfl
   all_goals exact ⟨_,by simp,rfl⟩
  walk_at "v1"
  rw [et]
  walk_at "v1"
  rw [RG,a0c]
  rw [ep];walk_at "v1"
  rw [ea];walk_at "v1"
  rw [eb];walk_at "v1"
  refine ⟨c1,?_⟩
  rw [eu];walk_at "v1"
  rw [ev];walk_at "v1"
  refine ⟨c2,?_⟩
  generalize a*b=ab at *
  generalize u*v=uv at *
  have gm:Sh p/\Sh ab/\Sh (ab+uv):=by unfold Sh;omega
  rcases Q6 with rfl | rfl | rfl | rfl | rfl | rfl
  .refine L8 (by kernel_rfl) (a1o (by kernel_rfl) (a1o (by kernel_rfl) (Wo_ret.mpr (WE (a:=.sh (Tr.l3 .a p ab (ab+uv)).d) (by kernel_rfl) ?_))))
   exact ⟨_,rfl,gm,rfl,λ_ z=>(nomatch z)⟩
  .refine L8 (by kernel_rfl) (a1o (by kernel_rfl) (a1o (by kernel_rfl) (Wo_ret.mpr (WE (a:=.sh (Tr.l3 .b p ab (ab+uv)).d) (by kernel_rfl) ?_))))
   exact ⟨_,rfl,gm,rfl,λ_ z=>(nomatch z)⟩
  .obtain ⟨rs,er,hr⟩:=ZM c sc hs
   refine Wt (by kernel_rfl) ?_
   walk_at "v1"
   rw [er,a0c]
   exact ⟨.rws false rs,rfl,hr,rfl,λ_ z=>(nomatch z)⟩
  .obtain ⟨rs,er,hr⟩:=ZM c sc hs
   refine Wt (by kernel_rfl) ?_
   walk_at "v1"
   rw [er,a0c]
   exact ⟨.rws true rs,rfl,hr,rfl,λ_ z=>(nomatch z)⟩
  .obtain ⟨s,es,s0,s1⟩:=l7 c 7 sc (by decide) (by omega)
   obtain ⟨m,em,m0,m1⟩:=l7 c 8 3 (by decide) (by decide)
   refine L8 (by kernel_rfl) (a3N (by kernel_rfl) ?_)
   walk_at "v1"
   rw [es]
   walk_at "v1"
   rw [em]
   walk_at "v1"
   exact ⟨.l3 .c (1+s) p (1+m),rfl,⟨by unfold Sh;omega,gm.1,by unfold Sh;omega⟩,rfl,λ_ z=>(nomatch z)⟩
  .refine L8 (by kernel_rfl) (a1o (by kernel_rfl) ?_)
   cases ws with
   | nil =>
    refine a1o (by kernel_rfl) (Wo_ret.mpr (WE (a:=.sh (Tr.l3 .b p ab (ab+uv)).d) (by kernel_rfl) ?_))
    exact ⟨_,rfl,gm,rfl,λ_ z=>(nomatch z)⟩
   | cons w0 ws =>
    obtain ⟨w,ew,w0,w1⟩:=l7 c 9 (w0::ws).length (by decide) (by rw [ia] at *;omega)
    obtain ⟨x,hx,ex⟩:=b8j _ w0 w1
    refine a3N (Wo.eq ?_) ?_
    .walk_at "v1"
     rw [eqT,a0c]
     walk_at "v1"
     simp
    .walk_at "v1"
     rw [cP,ew,a0c]
     exact ⟨_,ex,.name x,rfl,DU x hx,rfl,λy hy=>by rw [nP.mp hy];exact hx⟩
 obtain ⟨x,e,t,rfl,h⟩:=key
 exact ⟨t,e,h⟩
theorem b5j(t:Tr)(ht:t.ok)(c sc:Int)(hs:1<=sc/\sc<=10^38)(k:Str)(hk:k = "only" \/ k = "after" \/ k = "fee"):∃u:Tr,GP [t.d,.str k,.int c,.int sc]=some (.sh u.d)/\u.ok/\u.sz=t.sz+1/\u.ns=t.ns:=by
 have key:Wo (GP [t.d,.str k,.int c,.int sc]) λx=>∃u:Tr,x=.sh u.d/\u.ok/\u.sz=t.sz+1/\u.ns=t.ns:=by
  refine pD.mpr ?_
  unfold Vv
  obtain ⟨a,ea,a0,a1⟩:=l7 c 50 sc (by decide) (by omega)
  obtain ⟨b,eb,b0,b1⟩:=l7 c 51 2 (by decide) (by decide)
  obtain ⟨d,ed,d0,d1⟩:=l7 c 52 (3*sc) (by decide) (by omega)
  obtain ⟨e,ee,e0,e1⟩:=l7 c 53 sc (by decide) (by omega)
  obtain ⟨p,ep,p0,p1⟩:=Ue c 54 (by decide)
  have l0:0<=a*b:=FR a0 b0
  have l1:a*b<=10^38*1:=FQ (by omega) (by omega) b0 (by decide)
  rcases hk with rfl | rfl | rfl
  .refine Ky (by kernel_rfl) ?_
   walk_at "v1"
   rw [ea]
   walk_at "v1"
   rw [eb]
   walk_at "v1"
   refine ⟨.inr (.inl (by omega)),?_⟩
   generalize a*b=ab at *
   refine ⟨.inl (by decide),?_⟩
   rw [ed]
   walk_at "v1"
   exact ⟨.one .a t ab (ab+d),rfl,⟨ht,by unfold Sh;omega⟩,rfl,rfl⟩
  .refine a1o (by kernel_rfl) (a3N (by kernel_rfl) ?_)
   walk_at "v1"
   rw [ee]
   walk_at "v1"
   exact ⟨.one .b t e 0,rfl,⟨ht,by unfold Sh;omega⟩,rfl,rfl⟩
  .refine a1o (by kernel_rfl) (a1o (by kernel_rfl) ?_)
   walk_at "v1"
   rw [ep]
   walk_at "v1"
   exact ⟨.one .c t p 0,rfl,⟨ht,by unfold Sh;omega⟩,rfl,rfl⟩
 obtain ⟨x,e,t,rfl,h⟩:=key
 exact ⟨t,e,h⟩
noncomputable def qx:List Tr->Nat
 | []=>0
 | t::ts=>t.sz+qx ts
theorem Gy:∀a b:List Tr,qx (a++b)=qx a+qx b
 | [],b=>by simp [qx]
 | t::a,b=>by
  show t.sz+qx (a++b)=t.sz+qx a+qx b
  rw [Gy a b]
  omega
def sj(ws:List Str)(t:Tr):Prop:=t.ok/\∀x∈t.ns,x∈ws
theorem Zd{i:Nat}{env:En}{xs:List D}{x:D}(h:env[i]?=some (.ow (xs++[x]))):ur i env=some (x,env.set i (.ow xs)):=by
 refine Wo.eq ?_
 rw [b8G,h,b1i]
 refine ⟨x,by simp,?_⟩
 simp
theorem c0Q(cs:List Int)(hc:1<=cs.length/\cs.length<=3)(sc:Int)(hs:1<=sc/\sc<=10^38)(ws:List Str)(hw:ws.length<=100)(DU:∀x∈ws,x.length<=100){r r2:Bool}:∃t:Tr,GU [.lst r2 (cs.map D.int),.int sc,.lst r (ws.map D.str)]=some (.sh t.d)/\sj ws t/\t.sz<=5:=by
 have key:Wo (GU [.lst r2 (cs.map D.int),.int sc,.lst r (ws.map D.str)]) λx=>∃t:Tr,x=.sh t.d/\sj ws t/\t.sz<=5:=by
  refine r9.mpr ?_
  unfold Vm
  walk_at "o1"
  refine ES D.int (λpre env=>∃(ts:List Tr) (x4 x5 x6:Sl),env=[.sh (.lst r2 (cs.map D.int)),.sh (.int sc),.sh (.lst r (ws.map D.str)),.ow (ts.map Tr.d),x4,x5,x6]/\(∀t∈ts,sj ws t)/\qx ts<=pre.length/\ts.length<=pre.length/\(pre≠[]->ts≠[])) cs (λpre c post env e h=>?_) (λenv h=>?_) ⟨[],_,_,_,rfl,λ_ z=>(nomatch z),cT _,cT _,λz=>(z rfl).elim⟩
  .obtain ⟨ts,x4,x5,x6,rfl,hf,hz,hl,ng⟩:=h
   obtain ⟨k,ek,k0,k1⟩:=l7 c 0 13 (by decide) (by decide)
   have Ji:pre.length<3:=by
    have:=congrArg FV e
    simp at this
    omega
   walk_at "o1"
   rw [ek]
   walk_at "o1"
   by_cases hb:9<k/\ts≠[]
   .obtain ⟨ts,t,rfl⟩:∃a b,ts=a++[b]:=by
     rcases Nh ts with z | ⟨a,b,z⟩
     .exact (hb.2 z).elim
     .exact ⟨a,b,by rw [z,Ng]⟩
    refine HA (Wo.eq ?_) ?_
    .walk_at "o1"
     rw [rT,jv]
     refine ⟨λ_=>?_,λz=>(z hb.1).elim⟩
     simp
    .have W4:=hf t (by simp)
     obtain ⟨kd,Q6,RG⟩:∃kd:Str,(kd = "only" \/ kd = "after" \/ kd = "fee")/\L2.gf [D.str "only",D.str "after",D.str "fee"] (k-10)=some (.str kd):=by
      have:k=10\/k=11\/k=12:=by omega
      rcases this with rfl | rfl | rfl
      .exact ⟨_,.inl rfl,rfl⟩
      .exact ⟨_,.inr (.inl rfl),rfl⟩
      .exact ⟨_,.inr (.inr rfl),rfl⟩
     obtain ⟨u,eu,u1,u3,u4⟩:=b5j t W4.1 c sc hs kd Q6
     rw [Gy] at hz
     simp only [qx] at hz
     rw [jv,z6] at hl
     rw [b1m]
     simp only [Yc,Yb,b1i]
     rw [b37,a9u,Zd (xs:=ts.map Tr.d) (x:=t.d) (by rw [rT];rfl),a0c]
     simp only [z0,vB]
     walk_at "o1"
     rw [RG]
     walk_at "o1"
     rw [eu]
     walk_at "o1"
     refine ⟨by rw [cP];omega,ts++[u],_,_,_,by rw [rT];rfl,λz Fy=>?_,?_,?_,λ_=>by simp⟩
     .rcases qm.mp Fy with q | q
      .exact hf z (A6 _ q)
      .rw [nP.mp q]
       exact ⟨u1,by rw [u4];exact W4.2⟩
     .rw [Gy]
      simp only [qx,jv,z6]
      omega
     .simp only [jv,z6]
      omega
   .refine HB (Wo.eq ?_) ?_
    .walk_at "o1"
     intro h9
     have:ts=[]:=XQ.mp λz=>hb ⟨h9,z⟩
     rw [this]
     simp
    .obtain ⟨u,eu,u1,u3,u4⟩:=c0U c sc hs ws hw DU (r:=r)
     walk_at "o1"
     rw [eu]
     walk_at "o1"
     refine ⟨by rw [cP];omega,ts++[u],_,_,_,by rw [rT];rfl,λz Fy=>?_,?_,?_,λ_=>by simp⟩
     .rcases qm.mp Fy with q | q
      .exact hf z q
      .rw [nP.mp q]
       exact ⟨u1,u4⟩
     .rw [Gy]
      simp only [qx,jv,z6]
      omega
     .simp only [jv,z6]
      omega
  .obtain ⟨ts,x4,x5,x6,rfl,hf,hz,hl,ng⟩:=h
   rw [a12,Wo_seq,b1k]
   obtain ⟨c0,hc0⟩:∃c0,L2.gf (cs.map D.int) 0=some (.int c0):=by
    cases cs with
    | nil=>simp at hc
    | cons a as=>exact ⟨a,b8o⟩
   obtain ⟨m,em,m0,m1⟩:=l7 c0 55 4 (by decide) (by decide)
   refine OE (λn env=>∃(ts:List Tr) (x4 x5 x6:Sl),env=[.sh (.lst r2 (cs.map D.int)),.sh (.int sc),.sh (.lst r (ws.map D.str)),.ow (ts.map Tr.d),x4,x5,x6]/\(∀t∈ts,sj ws t)/\qx ts+ts.length<=6/\ts.length=n/\ts≠[]) (λn env h=>?_) 1000000 ts.length (by omega) ⟨ts,x4,x5,x6,rfl,hf,by omega,rfl,ng (λz=>by rw [z] at hc;simp at hc)⟩
   obtain ⟨ts,x4,x5,x6,rfl,hf,hz,hl,ng⟩:=h
   walk_at "o1"
   rw [cP]
   refine ⟨λh1=>?_,λh1=>?_⟩
   .obtain ⟨ts,a,b,rfl⟩:∃us a b,ts=us++[a,b]:=by
     rcases Nh ts with z | ⟨us,b,z⟩
     .exact (ng z).elim
     .rw [Ng] at z
      rcases Nh us with y | ⟨vs,a,y⟩
      .rw [z,y] at h1;simp at h1
      .exact ⟨vs,a,b,by rw [z,y,Ng,EE];rfl⟩
    have hsz:=Gy ts [a,b]
    simp only [qx] at hsz
    rw [hsz,jv] at hz
    rw [jv] at hl
    simp only [ia,SS] at hz hl
    have Ms:=hf a (by simp)
    have W6:=hf b (by simp)
    rw [show (vy Tr.d (ts++[a,b]))[(ts++[a,b]).length-1]?=some b.d by simp,a0c]
    refine ⟨by decide,?_⟩
    rw [show (vy Tr.d (ts++[a,b])).dropLast=ts.map Tr.d++[a.d] by simp]
    rw [b1m]
    simp only [Yc,Yb,b1i]
    rw [b5N,b39]
    walk_at "o1"
    rw [hc0]
    walk_at "o1"
    rw [em]
    walk_at "o1"
    have fin:∀u:Tr,sj ws u->u.sz=a.sz+b.sz+1->(∀t∈ts++[u],sj ws t)/\qx (ts++[u])+(ts++[u]).length<=6/\(ts++[u]).length=ts.length+1/\ts++[u]≠[]:=λu hu hs'=>by
     refine ⟨λz Fy=>?_,?_,by simp,by simp⟩
     .rcases qm.mp Fy with q | q
      .exact hf z (A6 _ q)
      .rw [nP.mp q]
       exact hu
     .rw [Gy,jv]
      simp only [qx,z6]
      omega
    obtain ⟨kk,ekk⟩:∃kk:Kd,L2.gf [D.str "or",D.str "plus",D.str "max",D.str "or"] m=some (.str (kk.w "plus" "or" "max")):=by
     have hm4:m=0\/m=1\/m=2\/m=3:=by omega
     rcases hm4 with rfl | rfl | rfl | rfl
     .exact ⟨.b,rfl⟩
     .exact ⟨.a,rfl⟩
     .exact ⟨.c,rfl⟩
     .exact ⟨.b,rfl⟩
    rw [ekk,a0c,a9u,Zd (xs:=ts.map Tr.d) (x:=a.d) rfl,a0c]
    simp only [z0,vB]
    walk_at "o1"
    exact ⟨by rw [cP];omega,ts.length+1,by omega,ts++[.two kk a b],_,_,_,by rw [rT];rfl,fin (.two kk a b) ⟨c6Y Ms.1 W6.1,λx hx=>(qm.mp hx).elim (Ms.2 x) (W6.2 x)⟩ rfl⟩
   .obtain ⟨t,rfl⟩:∃t,ts=[t]:=by
     cases ts with
     | nil=>exact (ng rfl).elim
     | cons t us=>cases us with
      | nil=>exact ⟨t,rfl⟩
      | cons u us=>simp at h1;omega
    rw [gS,b8o,a0c]
    simp only [qx,ia,SS] at hz
    exact ⟨t,rfl,hf t (by simp),by omega⟩
 obtain ⟨x,e,t,rfl,h⟩:=key
 exact ⟨t,e,h⟩
noncomputable def odd(l:List Nat):Nat:=l.countP λc=>!(c==113||c==120||c==122)
theorem b7p:∀w∈V2,2<=odd (lt w):=by decide +kernel
theorem ZT:∀c,c=113\/c=120\/c=122->c∈qy:=by
 rintro c (rfl | rfl | rfl)<;>decide +kernel
theorem Z4(a b:List Nat):odd (a++b)=odd a+odd b:=by unfold odd;rw [List.countP_append]
theorem YR{l:List Nat}(h:∀c∈l,c=113\/c=120\/c=122):odd l=0:=by
 unfold odd
 rw [List.countP_eq_zero]
 intro c hc
 rcases h c hc with rfl | rfl | rfl<;>decide
theorem Ij(c:Nat):odd [c]<=1:=by
 unfold odd
 exact XE
theorem Vr:∀cs:List Nat,lt (la "" (cs.map λc=>⟨#[c]⟩))=cs
 | []=>by decide +kernel
 | [c]=>rfl
 | c::d::cs=>by
  have:=Vr (d::cs)
  rw [gS,gS,TB,<-gS (f:=λc=>(⟨#[c]⟩:Str)),this]
  rfl
theorem b0Y:∀cs:List Nat,nU "" (cs.map λc=>⟨#[c]⟩)=cs.length
 | []=>rfl
 | c::cs=>by
  rw [gS,K2,b0Y cs,ia,show ("":Str).length=0 from by decide +kernel,show (⟨#[c]⟩:Str).length=1 from rfl]
  omega
theorem YI{z:Str}{i:Int}(hz:z.length=3)(h:0<=i/\i<3)(hq:∀c∈lt z,c=113\/c=120\/c=122):∃c,L2.gf z.cps.toList i=some c/\(c=113\/c=120\/c=122):=by
 have hl:(lt z).length=3:=by rw [<-yP];exact hz
 refine ⟨(lt z)[i.toNat]'(by omega),?_,hq _ (pL _)⟩
 show L2.gf (lt z) i=_
 unfold L2.gf mJ
 rw [if_pos h.1,if_pos (by omega)]
 show (lt z)[i.toNat]?=_
 rw [je]
theorem z_qxz:("qxz":Str).length=3/\("zxq":Str).length=3/\(∀c∈lt "qxz",c=113\/c=120\/c=122)/\(∀c∈lt "zxq",c=113\/c=120\/c=122):=by decide +kernel
theorem ZI{α:Type}(enc:α->D)(P:D->Prop)(I:En->Prop){g:GF}{fc:En->Option Bool}{fe:En->Option Sl}:∀(xs:List α),(∀a∈xs,∀e,I e->Wo (g (enc a) e) λe1=>I e1/\Wo (fc e1) λb=>b=true/\Wo (fe e1) λr=>P r.d)->∀{e:En},I e->∃ys,l6 g fc fe (xs.map enc) e=some ys/\ys.length=xs.length/\∀y∈ys,P y
 | [],_,e,_=>⟨[],rfl,rfl,λ_ z=>(nomatch z)⟩
 | a::xs,h,e,he=>by
  obtain ⟨e1,g1,p1,b,c1,rfl,r,f1,f2⟩:=h a jM e he
  obtain ⟨ys,h1,h2,h3⟩:=ZI enc P I xs (λa ha=>h a (i0 _ ha)) p1
  refine ⟨r.d::ys,?_,by rw [ia,ia,h2],λy hy=>?_⟩
  .refine Wo.eq ?_
   rw [gS,Wo_compC]
   exact ⟨e1,g1,true,c1,λ_=>⟨r,f1,ys,h1,rfl⟩,λz=>(nomatch z)⟩
  .rcases ej.mp hy with rfl | hy
   .exact f2
   .exact h3 y hy
def Qx(c:Nat):Prop:=c=113\/c=120\/c=122
theorem b1d:∀ys:List D,(∀y∈ys,∃c,y=.str ⟨#[c]⟩/\Qx c)->∃cs:List Nat,ys=(cs.map λc=>(⟨#[c]⟩:Str)).map D.str/\cs.length=ys.length/\∀c∈cs,Qx c
 | [],_=>⟨[],rfl,rfl,λ_ z=>(nomatch z)⟩
 | y::ys,h=>by
  obtain ⟨c,rfl,hc⟩:=h y jM
  obtain ⟨cs,rfl,h1,h2⟩:=b1d ys λy hy=>h y (i0 _ hy)
  refine ⟨c::cs,rfl,by rw [ia,ia,h1],λx hx=>?_⟩
  rcases ej.mp hx with rfl | hx
  .exact hc
  .exact h2 x hx
theorem part_of{z:Str}{n:Int}(hn:0<=n/\n<5){fe:En->Option Sl}{fr:En->Option (List D)}{env:En}{x:Sl}(hr:fr env=some (fS 0 n.toNat))(hx:env[0]?=some x)(hs:x≠.no)(QY:∃d,x=.sh d)
  (hf:∀k:Nat,k<n.toNat->Wo (fe [.sh (.int (0+k)),x]) λr=>∃c,r.d=.str ⟨#[c]⟩/\Qx c):∃w:Str,AQ (eC (.str "")) (nk (g7 fr [0] 1 (gN 0) iN fe)) env=some (.sh (.str w))/\(∀c∈lt w,Qx c)/\w.length<=n.toNat:=by
 obtain ⟨d,rfl⟩:=QY
 have Ri:lY [0] env=some [.sh d]:=by
  unfold lY
  rw [hx]
  rfl
 obtain ⟨ys,h1,h2,h3⟩:=ZI (λk:Nat=>D.int (0+k)) (λy=>∃c,y=.str ⟨#[c]⟩/\Qx c) (λe=>∃y,e=[y,.sh d]) (g:=gN 0) (fc:=iN) (fe:=fe) (jB n.toNat) (λk hk e he=>by
  obtain ⟨y,rfl⟩:=he
  rw [b13]
  refine ⟨by simp,⟨_,rfl⟩,true,rfl,rfl,?_⟩
  exact (hf k (by simpa using hk)).mono λr hr=>hr) (e:=[.no,.sh d]) ⟨_,rfl⟩
 obtain ⟨cs,rfl,h4,h5⟩:=b1d ys h3
 rw [FX] at h2
 refine ⟨la "" (cs.map λc=>⟨#[c]⟩),Wo.eq (Ts (z:="") (ts:=cs.map λc=>⟨#[c]⟩) rfl ?_ (by rw [b0Y];omega) rfl),by rw [Vr];exact h5,by rw [yP,Vr];omega⟩
 unfold nk g7
 rw [hr,Ri]
 show ((if (fS 0 n.toNat).length<=16777216 then (l6 (gN 0) iN fe (fS 0 n.toNat) [Sl.no,.sh d]).map Sl.ow else none).bind λr=>jj r.d)=_
 have hrr:fS 0 n.toNat=(jB n.toNat).map λk:Nat=>D.int (0+k):=rfl
 rw [hrr,if_pos (by rw [cP,FX];omega),h1]
 rfl
theorem b7y:qy.length=26:=by decide +kernel
theorem c0g:∀i:Fin 26,qy[i.val]?=some (97+i.val):=by decide +kernel
theorem c0f:∀i:Fin 26,97+i.val∈qy:=by decide +kernel
noncomputable def Lt(m:Int)(k:Nat):Nat:=97+((m+3*k)%26).toNat
theorem NA(m:Int)(k:Nat):0<=(m+3*k)%26/\(m+3*k)%26<26:=⟨M7 _ (by decide),MU _ (by decide)⟩
theorem c1z(m:Int)(k:Nat):Lt m k∈qy:=by
 have h:=NA m k
 exact c0f ⟨((m+3*k)%26).toNat,by omega⟩
theorem LN(m:Int)(k:Nat):L2.gf ("abcdefghijklmnopqrstuvwxyz":Str).cps.toList ((m+3*k)%26)=some (Lt m k):=by
 have h:=NA m k
 have hl:=b7y
 show L2.gf qy _=_
 unfold L2.gf mJ
 rw [if_pos h.1,if_pos (by omega)]
 exact c0g ⟨((m+3*k)%26).toNat,by omega⟩
theorem c1A{m:Int}{j k:Nat}(hj:j<4)(hk:k<4)(h:Lt m j=Lt m k):j=k:=by
 have h1:=NA m j
 have h2:=NA m k
 unfold Lt at h
 omega
noncomputable def Wd(a b:Str)(m:Int)(k:Nat):Str:=a++⟨#[Lt m k]⟩++b
theorem KD(a b:Str)(m:Int)(k:Nat):lt (Wd a b m k)=lt a++([Lt m k]++lt b):=by
 unfold Wd
 rw [Gu,Gu,EE]
 rfl
theorem Yp{a b:Str}{m:Int}{k:Nat}(ha:(∀c∈lt a,Qx c)/\a.length<=3)(hb:(∀c∈lt b,Qx c)/\b.length<=4):Nm (Wd a b m k):=by
 have hl:(Wd a b m k).length=a.length+(1+b.length):=by
  rw [yP,KD,jv,jv,<-yP,<-yP]
  rfl
 refine ⟨⟨by omega,by omega⟩,λc hc=>?_,λho=>?_⟩
 .rw [KD,qm,qm,nP] at hc
  rcases hc with hc | rfl | hc
  .exact ZT c (ha.1 c hc)
  .exact c1z m k
  .exact ZT c (hb.1 c hc)
 .have h1:=b7p _ ho
  rw [KD,Z4,Z4,YR ha.1,YR hb.1] at h1
  have:=Ij (Lt m k)
  omega
theorem Zh{a b:Str}{m:Int}{j k:Nat}(hj:j<4)(hk:k<4)(h:Wd a b m j=Wd a b m k):j=k:=by
 have h1:=congrArg lt h
 rw [KD,KD] at h1
 have h2:=List.append_cancel_left h1
 have h3:Lt m j=Lt m k:=by
  have:=List.append_cancel_right h2
  simpa using this
 exact c1A hj hk h3
theorem b8d(c n:Int)(hn:1<=n/\n<=4):∃a b m,Lm [.int c,.int n]=some (.ow (((jB n.toNat).map λk=>Wd a b m k).map D.str))/\((∀c∈lt a,Qx c)/\a.length<=3)/\((∀c∈lt b,Qx c)/\b.length<=4):=by
 obtain ⟨u,eu,u0,u1⟩:=l7 c 20 4 (by decide) (by decide)
 obtain ⟨v,ev,v0,v1⟩:=l7 c 21 5 (by decide) (by decide)
 obtain ⟨m,em,m0,m1⟩:=l7 c 22 26 (by decide) (by decide)
 obtain ⟨z1,z2,z3,z4⟩:=z_qxz
 obtain ⟨a,ea,ha1,ha2⟩:=part_of (z:="qxz") (n:=u) ⟨u0,by omega⟩ (fr:=mY Bd (ah (bT 3 ja (ah (eV 0) (ah (eC (.int 20)) (ah (eC (.int 4)) ae)))) ae)) (env:=[.sh (.int c),.sh (.int n),.sh (.str "abcdefghijklmnopqrstuvwxyz"),.no,.no]) (fe:=qh (eC (.str "qxz")) (bT 3 ja (ah (eV 1) (ah (eV 0) (ah (eC (.int 3)) ae))))) (x:=.sh (.int c))
  (Wo.eq (by walk_at "o1";rw [eu];walk_at "o1")) rfl (λz=>(nomatch z)) ⟨_,rfl⟩ (λk hk=>by
   obtain ⟨w,ew,w0,w1⟩:=l7 c (0+k) 3 (by omega) (by decide)
   obtain ⟨ch,D6,BO⟩:=YI z1 ⟨w0,w1⟩ z3
   have:bT 3 ja (ah (eV 1) (ah (eV 0) (ah (eC (.int 3)) ae))) [.sh (.int (0+k)),.sh (.int c)]=some (.sh (.int w)):=Wo.eq (by walk_at "o1";rw [ew];walk_at "o1")
   rw [TR rfl this (by rw [z1];decide) D6]
   exact ⟨ch,rfl,BO⟩)
 obtain ⟨b,eb,hb1,Mu⟩:=part_of (z:="zxq") (n:=v) ⟨v0,by omega⟩ (fr:=mY Bd (ah (bT 3 ja (ah (eV 0) (ah (eC (.int 21)) (ah (eC (.int 5)) ae)))) ae)) (env:=[.sh (.int c),.sh (.int n),.sh (.str "abcdefghijklmnopqrstuvwxyz"),.sh (.str a),.no]) (fe:=qh (eC (.str "zxq")) (bT 3 ja (ah (eV 1) (ah (ag aQ (eV 0) (eC (.int 5))) (ah (eC (.int 3)) ae))))) (x:=.sh (.int c))
  (Wo.eq (by walk_at "o1";rw [ev];walk_at "o1")) rfl (λz=>(nomatch z)) ⟨_,rfl⟩ (λk hk=>by
   obtain ⟨w,ew,w0,w1⟩:=l7 c (0+k+5) 3 (by omega) (by decide)
   obtain ⟨ch,D6,BO⟩:=YI z2 ⟨w0,w1⟩ z4
   have:bT 3 ja (ah (eV 1) (ah (ag aQ (eV 0) (eC (.int 5))) (ah (eC (.int 3)) ae))) [.sh (.int (0+k)),.sh (.int c)]=some (.sh (.int w)):=Wo.eq (by walk_at "o1";rw [ew];walk_at "o1")
   rw [TR rfl this (by rw [z2];decide) D6]
   exact ⟨ch,rfl,BO⟩)
 refine ⟨a,b,m,Wo.eq (qv.mpr ?_),⟨ha1,by omega⟩,hb1,by omega⟩
 unfold Vx
 rw [Wo_seq,a2T]
 refine ⟨_,rfl,by simp,?_⟩
 simp only [z0,vB,a12,Sl.d]
 rw [Wo_seq,a2T,ea,a0c]
 refine ⟨by simp,?_⟩
 simp only [z0,vB,a12,Sl.d]
 rw [Wo_seq,a2T,eb,a0c]
 refine ⟨by simp,?_⟩
 simp only [z0,vB,a12,Sl.d]
 rw [Wo_ret]
 walk_at "o1"
 have hlw:("abcdefghijklmnopqrstuvwxyz":Str).length<=100:=by decide +kernel
 refine ⟨by unfold fS;rw [cP,FX];omega,_,DL.comp_map (λk:Nat=>D.int (0+(k:Int))) (λk=>.str (Wd a b m k)) (λe=>∃y,e=[y,.sh (.str a),.sh (.str "abcdefghijklmnopqrstuvwxyz"),.sh (.int c),.sh (.str b)]) (jB n.toNat) (λk hk e he=>?_) ⟨_,rfl⟩,?_⟩
 .obtain ⟨y,rfl⟩:=he
  have hx:ag iW (ag aQ (bT 3 ja (ah (eV 3) (ah (eC (.int 22)) (ah (eC (.int 26)) ae)))) (ag js (eC (.int 3)) (eV 0))) (eC (.int 26)) [.sh (.int (0+(k:Int))),.sh (.str a),.sh (.str "abcdefghijklmnopqrstuvwxyz"),.sh (.int c),.sh (.str b)]=some (.sh (.int ((m+3*k)%26))):=by
   refine Wo.eq ?_
   walk_at "o1"
   rw [em]
   walk_at "o1"
   refine ⟨.inl (by decide),?_⟩
   rw [show (0:Int)+k=k by omega]
  rw [b13]
  refine ⟨by simp,⟨_,rfl⟩,true,rfl,rfl,?_⟩
  simp only [vB]
  rw [b1p,b1p]
  walk_at "o1"
  rw [TR rfl hx (by omega) (LN m k)]
  walk_at "o1"
  simp only [yx]
  refine ⟨?_,?_,rfl⟩
  .show a.length+1<=_
   omega
  .show a.length+1+b.length<=_
   omega
 .rw [vD]
  rfl
theorem b5n(ns:List Int)(hl:ns.length<=63)(most:Int)(h1:0<most)(h2:most<=1000){r:Bool}:∃l:List Int,GO [.lst r (ns.map D.int),.int 2,.int most]=some (.ow (l.map D.int))/\l.length<=1000:=by
 have key:Wo (GO [.lst r (ns.map D.int),.int 2,.int most]) λs=>∃l:List Int,s=.ow (l.map D.int)/\l.length<=1000:=by
  refine pE.mpr ?_
  unfold Vu
  walk_at "v1"
  rw [Eg ns 2 (by decide)]
  walk_at "v1"
  rw [cP]
  refine Uv _ _ (λk env=>∃x4 x5,∃l:List Int,env=[.sh (.lst r (ns.map D.int)),.sh (.int 2),.sh (.int most),.ow (l.map D.int),x4,x5]/\(l.length:Int)<=most) (λk env hk h=>?_) (λenv h=>?_) ⟨_,_,[_],rfl,by simp;omega⟩
  .obtain ⟨x4,x5,l,rfl,hm⟩:=h
   walk_at "vc"
   rw [cP]
   refine ⟨λiw=>?_,λW3=>?_⟩
   .rw [GB 0 (by omega) (by omega)]
    walk_at "vc"
    generalize ns.getD _ 0=c
    refine ⟨by walk_at "sc",by decide,by omega,?_⟩
    exact ⟨_,_,l++[c%10^60],by rw [rT];rfl,by simp;omega⟩
   .have m1:=M7 (2+1+(k:Int)) (show most≠0 by omega)
    have m2:=MU (2+1+(k:Int)) h1
    have hlm:(l.length:Int)=most:=by omega
    rw [GB 0 m1 (by omega),GB 0 (by omega) (by omega)]
    walk_at "vc"
    generalize ns.getD _ 0=c
    generalize hx:l.getD _ 0=x
    generalize (2+1+(k:Int))%most=j at *
    have hj:mJ l.length j=some j.toNat:=by
     unfold mJ
     rw [if_pos m1,if_pos (by omega)]
    rw [hj]
    walk_at "vc"
    refine ⟨by omega,.inr (.inl (by decide)),by walk_at "sc",by decide,by walk_at "sc",by decide,by omega,?_⟩
    exact ⟨_,_,l.set j.toNat ((x*10007+c%10^60)%10^60),by rw [List.map_set],by rw [M9];omega⟩
  .obtain ⟨x4,x5,l,rfl,hm⟩:=h
   walk_at "vc"
   exact ⟨l,rfl,by omega⟩
 obtain ⟨x,e,l,rfl,h⟩:=key
 exact ⟨l,e,h⟩
theorem b1b{α:Type}(enc:α->D)(P:D->Prop)(I:En->Prop){g:GF}{fc:En->Option Bool}{fe:En->Option Sl}:∀(xs:List α),(∀a∈xs,∀e,I e->Wo (g (enc a) e) λe1=>I e1/\Wo (fc e1) λb=>b=true->Wo (fe e1) λr=>P r.d)->∀{e:En},I e->∃ys,l6 g fc fe (xs.map enc) e=some ys/\ys.length<=xs.length/\∀y∈ys,P y
 | [],_,e,_=>⟨[],rfl,cT _,λ_ z=>(nomatch z)⟩
 | a::xs,h,e,he=>by
  obtain ⟨e1,g1,p1,b,c1,h4⟩:=h a jM e he
  obtain ⟨ys,h1,h2,h3⟩:=b1b enc P I xs (λa ha=>h a (i0 _ ha)) p1
  cases b with
  | false =>
   refine ⟨ys,Wo.eq ?_,by rw [ia];omega,h3⟩
   rw [gS,Wo_compC]
   exact ⟨e1,g1,false,c1,λz=>(nomatch z),λ_=>⟨ys,h1,rfl⟩⟩
  | true =>
   obtain ⟨r,f1,f2⟩:=h4 rfl
   refine ⟨r.d::ys,Wo.eq ?_,by rw [ia,ia];omega,λy hy=>?_⟩
   .rw [gS,Wo_compC]
    exact ⟨e1,g1,true,c1,λ_=>⟨r,f1,ys,h1,rfl⟩,λz=>(nomatch z)⟩
   .rcases ej.mp hy with rfl | hy
    .exact f2
    .exact h3 y hy
theorem ZE:∀ys:List D,(∀y∈ys,∃i:Int,y=.int i)->∃l:List Int,ys=l.map D.int
 | [],_=>⟨[],rfl⟩
 | y::ys,h=>by
  obtain ⟨i,rfl⟩:=h y jM
  obtain ⟨l,rfl⟩:=ZE ys λy hy=>h y (i0 _ hy)
  exact ⟨i::l,rfl⟩
noncomputable def rk(a b:Str)(m:Int)(x:Str):Nat:=if x=Wd a b m 0 then 0 else if x=Wd a b m 1 then 1 else if x=Wd a b m 2 then 2 else 3
theorem YL{a b:Str}{m:Int}{k:Nat}(h:k<4):rk a b m (Wd a b m k)=k:=by
 have h':∀j,j<4->Wd a b m k=Wd a b m j->k=j:=λj hj=>Zh h hj
 unfold rk
 by_cases h0:k=0
 .subst h0;rw [if_pos rfl]
 .rw [if_neg λz=>h0 (h' 0 (by decide) z)]
  by_cases h1:k=1
  .subst h1;rw [if_pos rfl]
  .rw [if_neg λz=>h1 (h' 1 (by decide) z)]
   by_cases h2:k=2
   .subst h2;rw [if_pos rfl]
   .rw [if_neg λz=>h2 (h' 2 (by decide) z)];omega
structure Bg(a b:Str)(m:Int)(n:Nat)(L:List (Str×Tr)):Prop where
 ks:L.map (·.1)=(jB n).map λk=>Wd a b m k
 ok:∀q∈L,q.2.ok/\q.2.sz<=5
 dn:∀q∈L,∃j,j<n/\q.1=Wd a b m j/\∀x∈q.2.ns,∃i,i<j/\x=Wd a b m i
theorem Bg.bk{a b:Str}{m:Int}{n:Nat}{L:List (Str×Tr)}(h:Bg a b m n L)(hn:n<=4){M:List (Str×Tr)}(hp:M.Perm L):Bk M (rk a b m):=by
 have hm:=hp.map (·.1)
 have hl:L.length=n:=by
  have:=congrArg FV h.ks
  simpa using this
 have zy:∀i,i<n->Wd a b m i∈M.map (·.1):=λi hi=>by
  rw [hm.mem_iff,h.ks]
  exact pd.mpr ⟨i,z9.mpr hi,rfl⟩
 refine ⟨?_,λq hq=>?_,λq hq x hx=>?_,λq hq x hx=>?_,by rw [hp.length_eq];omega⟩
 .rw [hm.nodup_iff,h.ks]
  refine M3.mpr ?_
  refine List.Pairwise.imp_of_mem (R:=(·≠·)) (λ{i j} hi hj tD z=>?_) List.nodup_range
  have hi:=z9.mp hi
  have hj:=z9.mp hj
  exact tD (Zh (by omega) (by omega) z)
 .have h1:=h.ok q (hp.mem_iff.mp hq)
  exact ⟨h1.1,by omega⟩
 .obtain ⟨j,hj,e,h2⟩:=h.dn q (hp.mem_iff.mp hq)
  obtain ⟨i,hi,rfl⟩:=h2 x hx
  exact zy i (by omega)
 .obtain ⟨j,hj,e,h2⟩:=h.dn q (hp.mem_iff.mp hq)
  obtain ⟨i,hi,rfl⟩:=h2 x hx
  rw [e,YL (by omega),YL (by omega)]
  exact hi
theorem Bg.add{a b:Str}{m:Int}{n:Nat}{L:List (Str×Tr)}(h:Bg a b m n L){t:Tr}(ht:sj ((jB n).map λk=>Wd a b m k) t)(hz:t.sz<=5):Bg a b m (n+1) (L++[(Wd a b m n,t)]):=by
 refine ⟨?_,λq hq=>?_,λq hq=>?_⟩
 .rw [rT,h.ks,List.range_succ,rT]
  rfl
 .rcases qm.mp hq with hq | hq
  .exact h.ok q hq
  .obtain rfl:=nP.mp hq
   exact ⟨ht.1,hz⟩
 .rcases qm.mp hq with hq | hq
  .obtain ⟨j,hj,e⟩:=h.dn q hq
   exact ⟨j,by omega,e⟩
  .obtain rfl:=nP.mp hq
   refine ⟨n,by omega,rfl,λx hx=>?_⟩
   obtain ⟨i,hi,e⟩:=pd.mp (ht.2 x hx)
   exact ⟨i,z9.mp hi,e.symm⟩
theorem JH(l:List Int)(hl:l.length<=1000)(n k c:Int)(hn:0<n){x0:D}{x1 x3 x5 x7:Sl}(h0:yT [x0,.int 0]=some (.sh (.int c))):∃ys:List Int,ag aQ (g7 (mY Bd (ah (jK (bV 4)) ae)) [4,2,6] 1 (gN 0) (cR (ag cw (ag iW (eV 0) (eV 2)) (eV 3))) (bY (bV 1) (eV 0))) (cH (ah (ag aQ (bT 2 yT (ah (eV 0) (ah (eC (.int 0)) ae))) (eV 6)) ae)) [.sh x0,x1,.sh (.int n),x3,.sh (.lst false (l.map D.int)),x5,.sh (.int k),x7]=some (.ow ((ys++[c+k]).map D.int))/\ys.length<=1000:=by
 obtain ⟨ys,e1,e2,e3⟩:=b1b (λk:Nat=>D.int (0+(k:Int))) (λd=>∃i:Int,d=.int i) (λe=>∃y,e=[y,.sh (.lst false (l.map D.int)),.sh (.int n),.sh (.int k)]) (g:=gN 0) (fc:=cR (ag cw (ag iW (eV 0) (eV 2)) (eV 3))) (fe:=bY (bV 1) (eV 0)) (jB l.length) (λj hj e he=>by
  obtain ⟨y,rfl⟩:=he
  have hj:=z9.mp hj
  rw [b13]
  refine ⟨by simp,⟨_,rfl⟩,?_⟩
  simp only [vB]
  walk_at "o1"
  refine ⟨by omega,λ_=>?_⟩
  rw [GB 0 (by omega) (by omega)]
  walk_at "o1"
  exact ⟨_,rfl⟩) (e:=[.no,.sh (.lst false (l.map D.int)),.sh (.int n),.sh (.int k)]) ⟨_,rfl⟩
 obtain ⟨zs,rfl⟩:=ZE ys e3
 rw [cP,FX] at e2
 refine ⟨zs,Wo.eq ?_,by omega⟩
 rw [b1p]
 walk_at "o1"
 refine ⟨by unfold fS;simp;omega,?_⟩
 rw [show fS 0 (↑(vy D.int l).length:Int).toNat=vy (λk:Nat=>D.int (0+(k:Int))) (jB l.length) by unfold fS;simp,e1]
 walk_at "o1"
 rw [h0]
 walk_at "o1"
 refine ⟨by rw [cP];omega,?_⟩
 rw [rT]
 rfl
theorem c0V(ns:List Int)(hl:ns.length<=63){r:Bool}:∃a b m n,∃L M:List (Str×Tr),Di [.lst r (ns.map D.int)]=some (.ow (M.map Pd))/\Bg a b m n L/\M.Perm L/\(1<=n/\n<=4)/\((∀c∈lt a,Qx c)/\a.length<=3)/\((∀c∈lt b,Qx c)/\b.length<=4):=by
 have key:Wo (Di [.lst r (ns.map D.int)]) λs=>∃a b m n,∃L M:List (Str×Tr),s=.ow (M.map Pd)/\Bg a b m n L/\M.Perm L/\(1<=n/\n<=4)/\((∀c∈lt a,Qx c)/\a.length<=3)/\((∀c∈lt b,Qx c)/\b.length<=4):=by
  have h0:=Eg ns 0 (by decide) (r:=r)
  have h1:=Eg ns 1 (by decide) (r:=r)
  generalize ns.getD (0:Int).toNat 0=c0 at *
  generalize ns.getD (1:Int).toNat 0=c1 at *
  refine sf.mpr ?_
  unfold Vj
  rw [Wo_seq]
  walk_at "o1"
  rw [h0]
  walk_at "o1"
  refine ⟨by walk_at "sc",by walk_at "sc",ZS [9,10^6,10^38] (by omega) (by simp;omega) (λsc rB=>?_)⟩
  have hs:1<=sc/\sc<=10^38:=by
   simp only [ej,yt,or_false] at rB
   rcases rB with rfl | rfl | rfl<;>decide
  refine ⟨by walk_at "sc",?_⟩
  have hn:1<=1+c0/3%4/\1+c0/3%4<=4:=by omega
  generalize 1+c0/3%4=n at *
  obtain ⟨a,b,m,ew,ha,hb⟩:=b8d c1 n hn
  obtain ⟨l,ef,Q4⟩:=b5n ns hl (3*n) (by omega) (by omega) (r:=r)
  rw [h1]
  walk_at "o1"
  rw [ew]
  walk_at "o1"
  refine ⟨.inl (by omega),?_⟩
  rw [ef]
  walk_at "o1"
  refine ⟨by unfold R62;omega,?_⟩
  refine Uv 0 n.toNat (λk env=>∃x6 x7,∃L:List (Str×Tr),env=[.sh (.lst r (ns.map D.int)),.sh (.int sc),.sh (.int n),.sh (.lst false (((jB n.toNat).map λk=>Wd a b m k).map D.str)),.sh (.lst false (l.map D.int)),.ow (L.map Pd),x6,x7]/\Bg a b m k L) (λk env hk h=>?_) (λenv h=>?_) ⟨_,_,[],rfl,⟨rfl,λ_ z=>(nomatch z),λ_ z=>(nomatch z)⟩⟩
  .obtain ⟨x6,x7,L,rfl,hB⟩:=h
   obtain ⟨ys,ey,hy⟩:=JH l Q4 n (0+(k:Int)) c0 (by omega) (x0:=.lst r (ns.map D.int)) (x1:=.sh (.int sc)) (x3:=.sh (.lst false (((jB n.toNat).map λk=>Wd a b m k).map D.str))) (x5:=.ow (L.map Pd)) (x7:=x7) h0
   rw [b13]
   refine ⟨by simp,?_⟩
   simp only [z0,vB]
   rw [Wo_seq,a2T,ey,a0c]
   refine ⟨by simp,?_⟩
   simp only [z0,vB,a12,Sl.d]
   walk_at "o1"
   have hLl:L.length=k:=by
    have:=congrArg FV hB.ks
    simpa using this
   have hat:L2.gf (vy D.str (vy (λk=>Wd a b m k) (jB n.toNat))) (k:Int)=some (.str (Wd a b m k)):=by
    rw [DL.jC,nj,nj,Xx (by omega)]
    rfl
   rw [b1a,b1a,show (3:Int)=((3:Nat):Int) from rfl,ZJ,show (0:Int)+(k:Int)=((k:Nat):Int) by omega,ZJ,hat]
   walk_at "o1"
   have WX:List.take k (vy (λk=>Wd a b m k) (jB n.toNat))=(jB k).map λk=>Wd a b m k:=by
    rw [<-List.map_take,List.take_range,Nat.min_eq_left (by omega)]
   rw [WX]
   obtain ⟨t,et,ht,hz⟩:=c0Q (List.take 3 (ys++[c0+(k:Int)])) ⟨by simp;omega,by simp;omega⟩ sc hs ((jB k).map λk=>Wd a b m k) (by simp;omega) (λx hx=>by
    obtain ⟨i,_,rfl⟩:=pd.mp hx
    have:=(Yp (m:=m) (k:=i) ha hb).1.2
    omega) (r:=false) (r2:=false)
   rw [et]
   walk_at "o1"
   refine ⟨by rw [cP];omega,_,_,L++[(Wd a b m k,t)],by rw [rT (f:=Pd)];rfl,hB.add ht hz⟩
  .obtain ⟨x6,x7,L,rfl,hB⟩:=h
   rw [a12]
   by_cases hr:c0/12%2=1
   .refine Ky (Wo.eq (by walk_at "o1";rw [h0];walk_at "o1";exact ⟨by walk_at "sc",by simp [hr]⟩)) ?_
    rw [b8C]
    walk_at "o1"
    exact ⟨a,b,m,n.toNat,L,L.reverse,by rw [List.map_reverse],hB,List.reverse_perm L,⟨by omega,by omega⟩,ha,hb⟩
   .refine a1o (Wo.eq (by walk_at "o1";rw [h0];walk_at "o1";exact ⟨by walk_at "sc",by simp [hr]⟩)) ?_
    walk_at "o1"
    exact ⟨a,b,m,n.toNat,L,L,rfl,hB,Ew L,⟨by omega,by omega⟩,ha,hb⟩
 obtain ⟨x,e,a,b,m,n,L,M,rfl,h⟩:=key
 exact ⟨a,b,m,n,L,M,e,h⟩
theorem Iu{L:List (Str×Tr)}(nd:(L.map (·.1)).Nodup){q:Str×Tr}(hq:q∈L):jf (eA L) (kU L) q.1=some q.2.o:=by
 obtain ⟨t,ht,e⟩:=NH L q.1 (pd.mpr ⟨q,hq,rfl⟩)
 rw [e]
 obtain ⟨x,u⟩:=q
 have key:∀(L:List (Str×Tr)),(L.map (·.1)).Nodup->(x,t)∈L->(x,u)∈L->t=u:=λL=>by
  induction L with
  | nil=>intro _ h;cases h
  | cons p L ih =>
   intro nd h1 h2
   rw [gS,F6] at nd
   rcases ej.mp h1 with e1 | h1
   .rcases ej.mp h2 with e2 | h2
    .rw [<-e1] at e2
     cases e2
     rfl
    .exact (nd.1 (by rw [<-e1];exact pd.mpr ⟨_,h2,rfl⟩)).elim
   .rcases ej.mp h2 with e2 | h2
    .exact (nd.1 (by rw [<-e2];exact pd.mpr ⟨_,h1,rfl⟩)).elim
    .exact ih nd.2 h1 h2
 rw [key L nd ht hq]
theorem b7F{f:En->Option Str}{env:En}{y:Str}(h:f env=some y)(hl:y.length<=16777216):B' f env=some (.sh (.str y)):=by
 unfold B'
 rw [h]
 show (if y.length<=16777216 then some (Sl.sh (.str y)) else none)=_
 rw [if_pos hl]
theorem Zx{L:List (Str×Tr)}{x:Str}:cR (kJ true (eV 1) (cI Ak "rules" (eV 0))) [.sh (Bo L),.sh (.str x)]=some (true != (jf (eA L) (kU L) x).isSome):=by
 have:kJ true (eV 1) (cI Ak "rules" (eV 0)) [.sh (Bo L),.sh (.str x)]=some (.sh (.bl (true != (jf (eA L) (kU L) x).isSome))):=by
  refine Wo.eq ?_
  unfold Bo
  rw [Uj]
  walk_at "o1"
  refine ⟨x,rfl,?_⟩
  rw [ZQ]
  walk_at "o1"
 unfold cR
 rw [this]
 rfl
theorem b5k{L:List (Str×Tr)}(nd:(L.map (·.1)).Nodup){q:Str×Tr}(hq:q∈L):Dj [Bo L,.str q.1]=some (.sh q.2.o):=by
 have h:=Iu nd hq
 refine Wo.eq (oE.mpr ?_)
 unfold N8
 refine a1o (by rw [Zx,h];rfl) ?_
 unfold Bo
 rw [Wo_ret,TQ]
 walk_at "o1"
 rw [ZQ]
 walk_at "o1"
 exact ⟨q.1,rfl,q.2.o,h,rfl⟩
theorem c0T{L:List (Str×Tr)}{x:Str}(hx:x∉eA L)(hl:x.length<=1000):Dj [Bo L,.str x]=none/\GG [Bo L,.str x]=some ("NoOffer":Str):=by
 have h:jf (eA L) (kU L) x=none:=by
  cases e:jf (eA L) (kU L) x with
  | none=>rfl
  | some d=>exact (hx ((K5 (eA L) (kU L) x (by unfold eA kU;rw [cP,cP])).mp (by rw [e];rfl))).elim
 have hc:cR (kJ true (eV 1) (cI Ak "rules" (eV 0))) [.sh (Bo L),.sh (.str x)]=some true:=by
  rw [Zx,h];rfl
 constructor
 .refine none_of λz=>?_
  have z:=oE.mp z
  unfold N8 at z
  rw [Wo_seq] at z
  unfold eF at z
  rw [hc] at z
  obtain ⟨_,z,_⟩:=z
  cases z
 .unfold GG BA a9v
  show Option.map _ (zf (Fs _ _ DF) _ DF [.sh (Bo L),.sh (.str x)])=_
  have e2:pM (eC (.str "no offer is called ")) (pM (FH (eV 1)) rA) [.sh (Bo L),.sh (.str x)]=some ("no offer is called " ++ (x++A3)):=by
   have e1:FH (eV 1) [.sh (Bo L),.sh (.str x)]=some (.sh (.str x)):=by
    unfold FH
    show (if x.length<=16777216 then some (Sl.sh (.str x)) else none)=_
    rw [if_pos (by omega)]
   unfold pM
   rw [e1]
   rfl
  have e3:=b7F e2 (by
   rw [yx,yx]
   have h1:(yw "no offer is called ").length=19:=by decide +kernel
   have h2:A3.length=0:=by decide +kernel
   omega)
  have e4:Fs (cR (kJ true (eV 1) (cI Ak "rules" (eV 0)))) (NN "NoOffer" (ah (B' (pM (eC (.str "no offer is called ")) (pM (FH (eV 1)) rA))) ae)) DF [.sh (Bo L),.sh (.str x)]=some (("NoOffer":Str),([.sh (Bo L),.sh (.str x)]:En)):=by
   unfold Fs
   rw [hc]
   unfold NN ah
   show (Option.bind (Option.bind (B' _ _) _) _)=_
   rw [e3]
   rfl
  unfold zf
  rw [e4]
  rfl
theorem b3K{L:List (Str×Tr)}{x:Str}(hx:x∉eA L)(hl:x.length<=1000):Bp [Bo L,.str x]=some (.sh (.lst false [.bl true,.bl true])):=by
 have e:=c0T hx hl
 refine Wo.eq (nX.mpr ?_)
 unfold VE
 walk_at "v1"
 refine b8t (nm:="NoOffer") (env1:=[.sh (Bo L),.sh (.str x),.sh (.lst false []),.no]) (none_of ?_) ?_ (by decide +kernel) (by simp) ?_
 .walk_at "v1"
  rw [e.1]
  rintro ⟨_,z,_⟩
  cases z
 .show Option.map _ (GG [Bo L,.str x])=_
  rw [e.2]
  rfl
 .walk_at "vc"
  exact ⟨.sh (.bl true),by kernel_rfl,.sh (.bl true),by kernel_rfl,rfl⟩
theorem ZN:∀(ks:List Str) (n:Nat),jZ (B3 (bO n) (ks.map D.str) (ks.map D.str))=some (ks.map λ_=>true)
 | [],_=>rfl
 | k::ks,n=>by
  show jZ (bO n (.str k) (.str k)::B3 (bO n) (ks.map D.str) (ks.map D.str))=_
  have e:bO n (.str k) (.str k)=some true:=by cases n<;>simp [bO]
  rw [e]
  show (jZ (B3 (bO n) (ks.map D.str) (ks.map D.str))).map (true::·)=_
  rw [ZN ks n]
  rfl
theorem b4K(ks:List Str){a b:Bool}:gn (.lst a (ks.map D.str)) (.lst b (ks.map D.str))=some (.sh (.bl false)):=by
 unfold gn
 simp only [bO,if_pos,ZN,Option.map_some]
 simp
theorem Hd{a b:Bool}:gn (.lst a [.bl true,.bl true]) (.lst b [.bl true,.bl true])=some (.sh (.bl false)):=by kernel_rfl
theorem YD{a b:Bool}:cw (.lst a [.bl true,.bl true]) (.lst b [.bl true,.bl true])=some (.sh (.bl true)):=by kernel_rfl
theorem Z2{L:List (Str×Tr)}(hl:L.length<=1000){f:Str×Tr->D}(hf:∀q,∃r,f q=.tup (.str q.1::r)):l6 (gN 0) iN (bY (bV 0) (eC (.int 0))) (L.map f) [Sl.no]=some ((eA L).map D.str):=by
 have:l6 (gN 0) iN (bY (bV 0) (eC (.int 0))) (L.map f) [Sl.no]=some (L.map λq=>.str q.1):=by
  refine DL.comp_map f (λq=>.str q.1) (λe=>e.length=1) L (λq hq e he=>?_) rfl
  obtain ⟨y0,rfl⟩:∃y0,e=[y0]:=by
   match e,he with
   | [a],_=>exact ⟨a,rfl⟩
  obtain ⟨r,e⟩:=hf q
  rw [e]
  walk_at "o1"
 rw [this]
 unfold eA
 rw [vD]
 rfl
theorem fin(ns:List Int)(CK:ns.length<=63):N1 [.lst true (ns.map D.int)]=some (.sh (.bl true)):=by
 obtain ⟨a,b,m,n,L,M,eb,hB,hp,hn,ha,hb⟩:=c0V ns CK (r:=true)
 have BM:=hB.bk hn.2 hp
 have Mn:∀q∈M,Nm q.1:=λq hq=>by
  obtain ⟨j,_,e,_⟩:=hB.dn q (hp.mem_iff.mp hq)
  rw [e]
  exact Yp ha hb
 have hlen:∀x∈eA M,x.length=a.length+1+b.length:=λx hx=>by
  obtain ⟨q,hq,rfl⟩:=pd.mp hx
  obtain ⟨j,_,e,_⟩:=hB.dn q (hp.mem_iff.mp hq)
  show q.1.length=_
  rw [e]
  unfold Wd
  rw [yx,yx]
  rfl
 have hf:=BM.JB
 refine Wo.eq (LG.mpr ?_)
 unfold To
 rw [Wo_seq,a2T]
 rw [show bT 1 Di (ah (eV 0) ae) [.sh (.lst true (ns.map D.int)),.no,.no,.no,.no,.no]=Di [.lst true (ns.map D.int)] from rfl,eb,a0c]
 refine ⟨by simp,?_⟩
 simp only [z0,vB,a12,Sl.d]
 have hc:g7 (fM (eV 1)) [] 1 (gN 0) iN (iG (ah (bY (bV 0) (eC (.int 0))) (ah (bT 1 (vW 6) (ah (bY (bV 0) (eC (.int 1))) ae)) ae))) [.sh (.lst true (ns.map D.int)),.sh (.lst false (M.map Pd)),.no,.no,.no,.no]=some (.ow (M.map Pq)):=by
  refine Wo.eq ?_
  walk_at "o1"
  refine ⟨by rw [cP];lia,_,DL.comp_map Pd Pq (λe=>e.length=1) M (λq hq e he=>?_) rfl,rfl⟩
  obtain ⟨y0,rfl⟩:∃y0,e=[y0]:=by
   match e,he with
   | [a],_=>exact ⟨a,rfl⟩
  unfold Pd
  walk_at "o1"
  rw [c0S q.2 6 (BM.ok q hq).2 (BM.ok q hq).1]
  walk_at "o1"
  rfl
 rw [Wo_seq,b6E,hc,a0c]
 refine ⟨by simp,?_⟩
 simp only [z0,vB,a12,Sl.d]
 rw [Wo_seq,a2T,b81 rfl,b5l BM Mn,a0c]
 refine ⟨by simp,?_⟩
 simp only [z0,vB,a12,Sl.d]
 refine a1o (Wo.eq (by walk_at "o1";rw [cP,cP])) ?_
 rw [Wo_seq]
 refine ⟨_,rfl,?_⟩
 simp only [z0,vB,a12]
 have hK:∀x2 x3 x4 x5:Sl,g7 (fM (eV 1)) [] 1 (gN 0) iN (bY (bV 0) (eC (.int 0))) [.sh (.lst true (ns.map D.int)),.sh (.lst false (M.map Pd)),x2,x3,x4,x5]=some (.ow ((eA M).map D.str)):=λx2 x3 x4 x5=>by
  refine Wo.eq ?_
  walk_at "o1"
  exact ⟨by rw [cP];lia,_,Z2 (by lia) (λq=>⟨_,rfl⟩),rfl⟩
 have hO:∀x2 x4 x5:Sl,g7 (fM (cI La "offers" (eV 3))) [] 1 (gN 0) iN (bY (bV 0) (eC (.int 0))) [.sh (.lst true (ns.map D.int)),.sh (.lst false (M.map Pd)),x2,.sh (Bo M),x4,x5]=some (.ow ((eA M).map D.str)):=λx2 x4 x5=>by
  refine Wo.eq ?_
  unfold Bo
  walk_at "o1"
  rw [b49]
  walk_at "o1"
  exact ⟨by rw [cP];lia,_,Z2 (by lia) (λq=>⟨_,rfl⟩),rfl⟩
 refine a1o ?_ ?_
 .refine Wo.eq ?_
  unfold cR
  refine ⟨false,?_,rfl⟩
  show nR (ag gn _ _ [.sh (.lst true (ns.map D.int)),.sh (.lst false (M.map Pd)),.ow [],.sh (Bo M),.no,.no])=_
  unfold ag
  rw [hO,hK]
  show nR (gn (.lst false ((eA M).map D.str)) (.lst false ((eA M).map D.str)))=_
  rw [b4K]
  rfl
 have lW:∀x∉eA M,x.length<=1000->Bp [Bo M,.str x]=some (.sh (.lst false [.bl true,.bl true])):=λx h1 h2=>b3K h1 h2
 rw [Wo_seq]
 refine (show Wo (oS (eV 1) (gT 2 (nu (gN 4) (nu (gN 5) yM))) _ [.sh (.lst true (ns.map D.int)),.sh (.lst false (M.map Pd)),.ow [],.sh (Bo M),.no,.no]) _ from ?_)
 walk_at "o1"
 refine ES Pd (λpre env=>∃x4 x5:Sl,env=[.sh (.lst true (ns.map D.int)),.sh (.lst false (M.map Pd)),.ow [],.sh (Bo M),x4,x5]) M (λpre q post env e h=>?_) (λenv h=>?_) ⟨_,_,rfl⟩
 .obtain ⟨x4,x5,rfl⟩:=h
  have hq:q∈M:=by rw [e];simp
  have hqk:Nm q.1:=Mn q hq
  rw [show Pd q=.tup [.str q.1,q.2.d] from rfl]
  walk_at "o1"
  have k:=BM.ok q hq
  have h1:jQ "written" 1 (jh 6) (bT 2 Dj (ah (eV 3) (ah (eV 4) ae))) ae [.sh (.lst true (ns.map D.int)),.sh (.lst false (M.map Pd)),.ow [],.sh (Bo M),.sh (.str q.1),.sh q.2.d]=some (.sh (.str q.2.tx)):=by
   refine Wo.eq ?_
   walk_at "o1"
   rw [b5k BM.nd hq]
   walk_at "o1"
   rw [b3J q.2 6 k.2 (by decide) k.1]
   walk_at "o1"
  have h2:bT 1 (yR 6) (ah (eV 5) ae) [.sh (.lst true (ns.map D.int)),.sh (.lst false (M.map Pd)),.ow [],.sh (Bo M),.sh (.str q.1),.sh q.2.d]=some (.sh (.str q.2.tx)):=by
   refine Wo.eq ?_
   walk_at "o1"
   rw [c0R q.2 6 k.2 (by decide) k.1]
   walk_at "o1"
  refine b1o ⟨false,?_,rfl⟩ ?_
  .show nR (ag gn _ _ _)=_
   unfold ag
   rw [h1,h2]
   show nR (gn (.str _) (.str _))=_
   rw [neT]
   rfl
  rw [a12]
  have hz:q.1.length<=8:=hqk.1.2
  have hs:qg (eV 4) BB (Ax (rK (eC (.int 1)))) [.sh (.lst true (ns.map D.int)),.sh (.lst false (M.map Pd)),.ow [],.sh (Bo M),.sh (.str q.1),.sh q.2.d]=some (.sh (.str (CV q.1 none (some (-1))))):=Wo.eq ((c1b rfl rfl rfl (by lia)).mpr rfl)
  have Mh:(CV q.1 none (some (-1))).length<=8:=iZ (PyProof.Txt.length_slice_le ..) hz
  generalize CV q.1 none (some (-1))=y at *
  have hA:cR (ag BW (qg (eV 4) BB (Ax (rK (eC (.int 1))))) (g7 (fM (eV 1)) [] 1 (gN 0) iN (bY (bV 0) (eC (.int 0))))) [.sh (.lst true (ns.map D.int)),.sh (.lst false (M.map Pd)),.ow [],.sh (Bo M),.sh (.str q.1),.sh q.2.d]=some (!decide (y∈eA M)):=by
   show nR (ag BW _ _ _)=_
   unfold ag
   rw [hs,hK]
   show nR ((inD (.str y) ((eA M).map D.str)).map λk=>.sh (.bl (!k)))=_
   rw [ZC]
   rfl
  refine b1o ⟨false,?_,rfl⟩ ⟨_,_,rfl⟩
  unfold Ag
  rw [hA]
  by_cases hy:y∈eA M
  .rw [decide_eq_true hy]
   rfl
  .rw [decide_eq_false hy]
   show nR (ag gn _ _ _)=_
   have h3:bT 2 Bp (ah (eV 3) (ah (qg (eV 4) BB (Ax (rK (eC (.int 1))))) ae)) [.sh (.lst true (ns.map D.int)),.sh (.lst false (M.map Pd)),.ow [],.sh (Bo M),.sh (.str q.1),.sh q.2.d]=some (.sh (.lst false [.bl true,.bl true])):=by
    unfold bT ah
    rw [hs]
    show (if 2=2 then Bp [Bo M,.str y] else none)=_
    rw [if_pos rfl,lW y hy (by lia)]
   unfold ag
   rw [h3]
   show nR (gn (.lst false [.bl true,.bl true]) (.lst false [.bl true,.bl true]))=_
   rw [Hd]
   rfl
 .obtain ⟨x4,x5,rfl⟩:=h
  obtain ⟨q,M',e⟩:∃q M',M=q::M':=by
   have hl:L.length=n:=by
    have:=congrArg FV hB.ks
    simpa using this
   match M,hp with
   | [],hp=>have:=hp.length_eq;simp at this;lia
   | q::M',_=>exact ⟨q,M',rfl⟩
  have hq:q∈M:=by rw [e];simp
  have hz:q.1.length<=8:=(Mn q hq).1.2
  have n1:q.1 ++ "q" ∉ eA M:=λz=>by
   have h1:=hlen _ z
   have h2:=hlen q.1 (pd.mpr ⟨q,hq,rfl⟩)
   rw [yx] at h1
   have:("q":Str).length=1:=by decide +kernel
   lia
  have n2:("each":Str)∉eA M:=λz=>by
   obtain ⟨p,uV,e'⟩:=pd.mp z
   have:=(Mn p uV).2.2
   rw [show p.1 = "each" from e'] at this
   exact this (by decide +kernel)
  have l1:(q.1 ++ "q").length<=1000:=by
   rw [yx]
   have:("q":Str).length=1:=by decide +kernel
   lia
  rw [a12,Wo_ret]
  have hM:M.map Pd=.tup [.str q.1,q.2.d]::M'.map Pd:=by rw [e];rfl
  rw [hM]
  walk_at "o1"
  refine ⟨by rw [yx] at l1;lia,?_⟩
  rw [lW _ n1 l1]
  refine ⟨_,rfl,?_⟩
  refine (show Wo (cw (.lst false [.bl true,.bl true]) (.lst false [.bl true,.bl true])) _ from ?_)
  rw [YD]
  refine ⟨_,rfl,true,rfl,λ_=>?_,λz=>(nomatch z)⟩
  rw [lW _ n2 (by decide +kernel)]
  exact ⟨_,rfl,_,YD,rfl⟩
end My
namespace PySem.W.Fast
theorem tw11283438209669085817:True:=trivial
theorem tw5775795872417418366:True:=trivial
theorem tw16150157486578870269:True:=trivial
theorem tw13863144883763563969:True:=trivial
theorem tw16525939214101601558:True:=trivial
theorem tw1941892582208743486:True:=trivial
theorem tw5674684907666379380:True:=trivial
theorem tw500521566149759631:True:=trivial
theorem tw18004278236005115300:True:=trivial
theorem tw15111808222250832512:True:=trivial
theorem tw7552631861645852165:True:=trivial
theorem tw9628331308715750938:True:=trivial
theorem tw2562453107364266911:True:=trivial
theorem tw17140929881227471531:True:=trivial
theorem tw7051497110205567683:True:=trivial
theorem tw196438741648128511:True:=trivial
theorem tw7988805425329080689:True:=trivial
theorem tw4555661395243218513:True:=trivial
theorem tw11037586822427605771:True:=trivial
theorem tw1702349502630426802:True:=trivial
theorem tw8884522996960453145:True:=trivial
theorem tw2853477780773051585:True:=trivial
theorem tw3395420597390170649:True:=trivial
theorem tw7337247657498698223:True:=trivial
theorem tw2667368962255779283:True:=trivial
theorem tw1674567332161745059:True:=trivial
theorem tw1815792326216213333:True:=trivial
theorem tw9102234984301774768:True:=trivial
theorem tw199018939663243923:True:=trivial
theorem tw12632965085348226525:True:=trivial
theorem tw17495441323820017274:True:=trivial
theorem tw3012415927499344368:True:=trivial
theorem tw10843774686085463374:True:=trivial
theorem tw8718414062215645734:True:=trivial
theorem tw2872993707650671351:True:=trivial
theorem tw10145050454338506228:True:=trivial
theorem tw7876094502133270080:True:=trivial
theorem tw16322893264154782861:True:=trivial
theorem tw6811519651299260689:True:=trivial
theorem tw4313691161494111177:True:=trivial
theorem tw7067377448483033083:True:=trivial
theorem tw14445328164759668663:True:=trivial
theorem tw15657170425260219809:True:=trivial
theorem tw7813146010158027404:True:=trivial
theorem tw11585141240261172034:True:=trivial
theorem tw16365684886152651635:True:=trivial
theorem tw8786722579334507351:True:=trivial
theorem tw7833150683672205449:True:=trivial
theorem tw15571756997238960869:True:=trivial
theorem tw17602030729863176096:True:=trivial
theorem tw1093455189127145015:True:=trivial
theorem tw9746735215824634886:True:=trivial
theorem tw3447622437985850003:True:=trivial
theorem tw3466443051524327679:True:=trivial
theorem tw11209468315701065242:True:=trivial
theorem tw14611118358424851236:True:=trivial
theorem tw5244418036801118238:True:=trivial
theorem tw17019304921087196417:True:=trivial
theorem tw6962566187529727155:True:=trivial
theorem tw7747836910699577346:True:=trivial
theorem tw10138568766907702600:True:=trivial
theorem tw12177581772758096922:True:=trivial
theorem tw9084755361929793227:True:=trivial
theorem tw14826408145976839066:True:=trivial
theorem tw6202509057294561226:True:=trivial
theorem tw11135994432372074156:True:=trivial
theorem tw14009608599265370711:True:=trivial
theorem tw16942198917550476107:True:=trivial
theorem tw4143237513220935085:True:=trivial
theorem tw10090671886259630066:True:=trivial
theorem tw3231815045305808681:True:=trivial
theorem tw18273099618104920785:True:=trivial
theorem tw17729417222991395969:True:=trivial
theorem tw8836507596101332152:True:=trivial
theorem tw2993542000388767928:True:=trivial
theorem tw13204846435592604917:True:=trivial
theorem tw3644638841549923348:True:=trivial
theorem tw13372339336511602739:True:=trivial
theorem tw5860908720973112145:True:=trivial
theorem tw17488775328158213624:True:=trivial
theorem tw15352811281277609101:True:=trivial
theorem tw3040272895632724799:True:=trivial
theorem tw10769156221020930593:True:=trivial
theorem tw11460139554764669830:True:=trivial
theorem tw12716240441465789561:True:=trivial
theorem tw10709442312232139287:True:=trivial
theorem tw9706696569294493822:True:=trivial
theorem tw8404515624753346924:True:=trivial
theorem tw13556679553209053617:True:=trivial
theorem tw2939067022195148859:True:=trivial
theorem tw16643166796330810504:True:=trivial
theorem tw15075474744371184769:True:=trivial
theorem tw6522647327143900733:True:=trivial
theorem tw8157003306764693273:True:=trivial
theorem tw14974357261845406145:True:=trivial
theorem tw3357042924508090188:True:=trivial
theorem tw9884797668398169128:True:=trivial
theorem tw18285615887662345402:True:=trivial
theorem tw14984852113948800245:True:=trivial
theorem tw14073766548574977463:True:=trivial
theorem tw9794450317823685508:True:=trivial
theorem tw8567344528840028010:True:=trivial
theorem tw6112550362046719018:True:=trivial
theorem tw6407390897809941676:True:=trivial
theorem tw7832040751150201811:True:=trivial
theorem tw9947157883676332243:True:=trivial
theorem tw6593601361194350366:True:=trivial
theorem tw3729146963946829991:True:=trivial
theorem tw17440975005924427890:True:=trivial
theorem tw14563906255603736811:True:=trivial
theorem tw3861386680242147714:True:=trivial
theorem tw4087800816268619479:True:=trivial
theorem tw16069250553170894778:True:=trivial
theorem tw1079049918176782035:True:=trivial
theorem tw5852000492065302586:True:=trivial
theorem tw4722267744506354956:True:=trivial
theorem tw9598191732727900749:True:=trivial
theorem tw8103930720398029436:True:=trivial
theorem tw9292592716889952988:True:=trivial
theorem tw8116356052751790602:True:=trivial
theorem tw8889927343501740671:True:=trivial
theorem tw7763958196898464525:True:=trivial
theorem tw3765187684785140497:True:=trivial
theorem tw1199729316977131230:True:=trivial
theorem tw1591401176196934538:True:=trivial
theorem tw9339847600972082293:True:=trivial
theorem tw5949854357541749681:True:=trivial
theorem tw12336806284987787437:True:=trivial
theorem tw12598058256170252595:True:=trivial
theorem tw3259522709677456898:True:=trivial
theorem tw909185976658262500:True:=trivial
theorem tw4775886702408920493:True:=trivial
theorem tw12721754014314019124:True:=trivial
theorem tw1988009127724652858:True:=trivial
theorem tw4938974604728596154:True:=trivial
theorem tw8682605100580653755:True:=trivial
theorem tw15617302708913702758:True:=trivial
theorem tw2466912798902429414:True:=trivial
theorem tw1263959370647849003:True:=trivial
theorem tw9360976194640382904:True:=trivial
theorem tw112799636809756479:True:=trivial
theorem tw10869902869912535378:True:=trivial
theorem tw9225685487794957688:True:=trivial
theorem tw3312945869498540578:True:=trivial
theorem tw1398038954499677515:True:=trivial
theorem tw9991390768609092805:True:=trivial
theorem tw12339031366543413181:True:=trivial
theorem tw17555258149116497695:True:=trivial
theorem tw15959622526298808245:True:=trivial
theorem tw9024736553684187829:True:=trivial
theorem tw4012574489553977426:True:=trivial
theorem tw14606756330372081988:True:=trivial
theorem tw15947152229198011555:True:=trivial
theorem tw8551374462141448140:True:=trivial
theorem tw15071271402553975320:True:=trivial
theorem tw4098032595939849413:True:=trivial
theorem tw15338785971263176990:True:=trivial
theorem tw3165913787290609191:True:=trivial
theorem tw10052645955398030132:True:=trivial
theorem tw10416053782164325155:True:=trivial
theorem tw12524013646367310865:True:=trivial
theorem tw11781793086608755664:True:=trivial
theorem tw11821235446940747566:True:=trivial
theorem tw15808212353757434300:True:=trivial
theorem tw8794250500186494411:True:=trivial
theorem tw8372485597262408623:True:=trivial
theorem tw11223318791815413878:True:=trivial
theorem tw10217659904979917942:True:=trivial
theorem tw11760258212085237602:True:=trivial
theorem tw909480831653298644:True:=trivial
theorem tw14295471931263300699:True:=trivial
theorem tw7776946168911227578:True:=trivial
theorem tw10682795534913568133:True:=trivial
theorem tw6403166834637093055:True:=trivial
theorem tw15604362304752039731:True:=trivial
theorem tw14870783927433762862:True:=trivial
theorem tw15112846903388621206:True:=trivial
theorem tw5755952600405450544:True:=trivial
theorem tw8674955693622842802:True:=trivial
theorem tw11589601691458513192:True:=trivial
theorem tw5570317543685609914:True:=trivial
theorem tw16577823465101608343:True:=trivial
theorem tw10779637574563833354:True:=trivial
theorem tw7207637272990864638:True:=trivial
theorem tw10899266103432730722:True:=trivial
theorem tw25019646344808732:True:=trivial
theorem tw12745365012352024599:True:=trivial
theorem tw16968385914393025888:True:=trivial
theorem tw13818711496597297547:True:=trivial
theorem tw8524110957649546462:True:=trivial
theorem tw13227656620769428919:True:=trivial
theorem tw7261133785107785939:True:=trivial
theorem tw3282840771777172455:True:=trivial
theorem tw2738110190351417498:True:=trivial
theorem tw5153282937454513912:True:=trivial
theorem tw18298155092054886500:True:=trivial
theorem tw11032131071900476882:True:=trivial
theorem tw2533918206132978218:True:=trivial
theorem tw3151221195796309152:True:=trivial
theorem tw15857623967788523089:True:=trivial
theorem tw8538427568489047388:True:=trivial
theorem tw18138138142105874500:True:=trivial
theorem tw11368816362954229370:True:=trivial
theorem tw3344923749981553405:True:=trivial
theorem tw3353502667564607063:True:=trivial
theorem tw15634516839126081030:True:=trivial
theorem tw13472263101345543002:True:=trivial
theorem tw11003847833903978256:True:=trivial
theorem tw3035681956922233319:True:=trivial
theorem tw9332399738539531849:True:=trivial
theorem tw2570925504066993343:True:=trivial
theorem tw1114583875763994744:True:=trivial
theorem tw11577692598371918037:True:=trivial
theorem tw14871468774243651963:True:=trivial
theorem tw2537767944745736653:True:=trivial
theorem tw1206731515316218198:True:=trivial
theorem tw7138610150560309250:True:=trivial
theorem tw1090560485401455869:True:=trivial
theorem tw15335619107650592955:True:=trivial
theorem tw16835996961369858028:True:=trivial
theorem tw7549543184202249661:True:=trivial
theorem tw11630655104994785629:True:=trivial
theorem tw335219965997934417:True:=trivial
theorem tw3770279950641921399:True:=trivial
theorem tw12495347863725327559:True:=trivial
theorem tw16215372583422854587:True:=trivial
theorem tw7567649862004292883:True:=trivial
theorem tw7288333140863184770:True:=trivial
theorem tw596944678246184227:True:=trivial
theorem tw8220648962587798954:True:=trivial
theorem tw2082692309244640038:True:=trivial
theorem tw14013575637795653526:True:=trivial
theorem tw2449513354207967250:True:=trivial
theorem tw4278122435172086670:True:=trivial
theorem tw5961703476737510017:True:=trivial
theorem tw17084415596037276260:True:=trivial
theorem tw12200782986259801201:True:=trivial
theorem tw16162143598615600481:True:=trivial
theorem tw10999174443562498637:True:=trivial
theorem tw11451633122736249106:True:=trivial
theorem tw272870744347451087:True:=trivial
theorem tw14526442298349235031:True:=trivial
theorem tw1883347086215436470:True:=trivial
theorem tw17366352708492696987:True:=trivial
theorem tw7130328518269882451:True:=trivial
theorem tw3971020216236683634:True:=trivial
theorem tw14865509395082445230:True:=trivial
theorem tw15154835216785906996:True:=trivial
theorem tw9076977164369391386:True:=trivial
theorem tw17852000924330699190:True:=trivial
theorem tw8431445013435322795:True:=trivial
theorem tw1760482448855731811:True:=trivial
theorem tw10149518971558282600:True:=trivial
theorem tw8476834469871413909:True:=trivial
theorem tw7537923842959738430:True:=trivial
theorem tw4426492561790554383:True:=trivial
theorem tw7091330104858096437:True:=trivial
theorem tw15496575526366815691:True:=trivial
theorem tw5244490186593473151:True:=trivial
theorem tw10027289726457176541:True:=trivial
theorem tw13659546439694547747:True:=trivial
theorem tw16143410779977795605:True:=trivial
theorem tw17423035705981045199:True:=trivial
theorem tw6094235138330548141:True:=trivial
theorem tw4099490300537216210:True:=trivial
theorem tw7466434668456531470:True:=trivial
theorem tw15452450172253619402:True:=trivial
theorem tw6176887464249252467:True:=trivial
theorem tw14105930905328207101:True:=trivial
theorem tw14023151606524385331:True:=trivial
theorem tw10190269243055166910:True:=trivial
theorem tw12532540332378932739:True:=trivial
theorem tw15031545688318926131:True:=trivial
theorem tw7912434848585953385:True:=trivial
theorem tw16905552669417707659:True:=trivial
theorem tw1774142999944417488:True:=trivial
theorem tw1253626030981407733:True:=trivial
theorem tw374532741242762726:True:=trivial
theorem tw4380126948443639867:True:=trivial
theorem tw10657072381182950973:True:=trivial
theorem tw16607958174029564008:True:=trivial
theorem tw14510015095143779573:True:=trivial
theorem tw15473818232869929126:True:=trivial
theorem tw4508982529428443215:True:=trivial
theorem tw2542038846270142686:True:=trivial
theorem tw8280277858266833997:True:=trivial
theorem tw5243768360949247297:True:=trivial
theorem tw5407805599420190563:True:=trivial
theorem tw2030666313974054291:True:=trivial
theorem tw12349383251583119228:True:=trivial
theorem tw7472569163576964170:True:=trivial
theorem tw20841082409163760:True:=trivial
theorem tw3640234062257312746:True:=trivial
theorem tw9117671815764123594:True:=trivial
theorem tw9216846052194710724:True:=trivial
theorem tw7587408737755631132:True:=trivial
theorem tw2496342096990970585:True:=trivial
theorem tw4950097110806940468:True:=trivial
theorem tw17679449241314164747:True:=trivial
theorem tw1086520513024315022:True:=trivial
theorem tw4594438009031627149:True:=trivial
theorem tw5582270089525313232:True:=trivial
theorem tw14243853269915069053:True:=trivial
theorem tw10509182761899787130:True:=trivial
theorem tw8902259014697737168:True:=trivial
theorem tw6268061648645814790:True:=trivial
theorem tw476685422517691813:True:=trivial
theorem tw10257061338267231873:True:=trivial
theorem tw6094091063152317779:True:=trivial
theorem tw5845136740098056393:True:=trivial
theorem tw13248821006998458788:True:=trivial
theorem tw977050274735326513:True:=trivial
theorem tw9690712761494223771:True:=trivial
theorem tw2997644994730613934:True:=trivial
theorem tw4083340801094517395:True:=trivial
theorem tw137639245043748256:True:=trivial
theorem tw13248767191788649675:True:=trivial
theorem tw3378160819669540803:True:=trivial
theorem tw1407629651322393795:True:=trivial
theorem tw6528503899228741386:True:=trivial
theorem tw8614999189215810889:True:=trivial
theorem tw6920622079401092402:True:=trivial
theorem tw9047054776740317931:True:=trivial
theorem tw12050701916862448110:True:=trivial
theorem tw4742392170267024478:True:=trivial
theorem tw7988639402786528132:True:=trivial
theorem tw2188192684552631888:True:=trivial
theorem tw869659338507095428:True:=trivial
theorem tw11272115633372411251:True:=trivial
theorem tw4949282028375740999:True:=trivial
theorem tw14315773797108869902:True:=trivial
theorem tw1859165703399760353:True:=trivial
theorem tw17320944072381499168:True:=trivial
theorem tw13473509531135982329:True:=trivial
theorem tw4116732181584720414:True:=trivial
theorem tw941181468332752284:True:=trivial
theorem tw4900741582950071202:True:=trivial
theorem tw13702743008872280915:True:=trivial
theorem tw6692544174984999730:True:=trivial
theorem tw3067711612148808675:True:=trivial
theorem tw4130015865001310421:True:=trivial
theorem tw3008952811989927467:True:=trivial
theorem tw14174024459392150000:True:=trivial
theorem tw7183326260711497057:True:=trivial
theorem tw15051033392498544441:True:=trivial
theorem tw17476284643729761484:True:=trivial
theorem tw13155940414751354231:True:=trivial
theorem tw1839612899033638378:True:=trivial
theorem tw6820849052495948487:True:=trivial
theorem tw4794418470092700560:True:=trivial
theorem tw2230336489445364426:True:=trivial
theorem tw17233131817581150592:True:=trivial
theorem tw15391992806001218107:True:=trivial
theorem tw3022011863538258433:True:=trivial
theorem tw259020206347569945:True:=trivial
theorem tw9610667293042276648:True:=trivial
theorem tw2299239398886038859:True:=trivial
theorem tw134750756072554685:True:=trivial
theorem tw2831533808079824233:True:=trivial
theorem tw2008213457760782434:True:=trivial
theorem tw8261074684958987213:True:=trivial
theorem tw1577788196051294922:True:=trivial
theorem tw16774494080848922372:True:=trivial
theorem tw3856287861053927859:True:=trivial
theorem tw15818765486290179846:True:=trivial
theorem tw13862678322291342316:True:=trivial
theorem tw17148446779598871243:True:=trivial
theorem tw9493078761009087308:True:=trivial
theorem tw6478947948906468366:True:=trivial
theorem tw8550549582624342031:True:=trivial
theorem tw6128124334968536786:True:=trivial
theorem tw12485133043980179923:True:=trivial
theorem tw5481873659374484253:True:=trivial
theorem tw5016592395271609168:True:=trivial
theorem tw3814433569952933196:True:=trivial
theorem tw5833415841560207348:True:=trivial
theorem tw12697167992180392926:True:=trivial
theorem tw6820434281471815820:True:=trivial
theorem tw17041861776247641534:True:=trivial
theorem tw566639205124607653:True:=trivial
theorem tw8965877876821932319:True:=trivial
theorem tw6780298816101365040:True:=trivial
theorem tw14246880739720613907:True:=trivial
theorem tw7639622907589546079:True:=trivial
theorem tw18123784357526243291:True:=trivial
theorem tw9485893320355765650:True:=trivial
theorem tw9140664576894991309:True:=trivial
theorem tw10853631620414754299:True:=trivial
theorem tw14199250427663646784:True:=trivial
theorem tw65655033006586020:True:=trivial
theorem tw4289224329781628097:True:=trivial
theorem tw11216279017547715364:True:=trivial
theorem tw13959747101152847374:True:=trivial
theorem tw3458560651705062449:True:=trivial
theorem tw15223088202502204292:True:=trivial
theorem tw258013409551456673:True:=trivial
theorem tw17298781334013208859:True:=trivial
theorem tw14149012314927941825:True:=trivial
theorem tw7562024003731405521:True:=trivial
theorem tw4591118577896090584:True:=trivial
theorem tw9178500086207034736:True:=trivial
theorem tw17292275973187521183:True:=trivial
theorem tw13073721180059761403:True:=trivial
theorem tw7814643366957046355:True:=trivial
theorem tw8531790756353491713:True:=trivial
theorem tw9183021273674750126:True:=trivial
theorem tw15845046115449011741:True:=trivial
theorem tw2138046497930428474:True:=trivial
theorem tw10903534236794554981:True:=trivial
theorem tw7121331870134686329:True:=trivial
theorem tw12461346013502799100:True:=trivial
theorem tw16280880023133018526:True:=trivial
theorem tw7904567568491752600:True:=trivial
theorem tw4301255290930493747:True:=trivial
theorem tw4866164879388104268:True:=trivial
theorem tw1294992393176791141:True:=trivial
theorem tw952420961208551699:True:=trivial
theorem tw10622613167632085858:True:=trivial
theorem tw1599255804885311315:True:=trivial
theorem tw14176295247424921919:True:=trivial
theorem tw1341149709862386505:True:=trivial
theorem tw11319003626577798719:True:=trivial
theorem tw11413201454452401739:True:=trivial
theorem tw3143887172233692098:True:=trivial
theorem tw3924263728844768459:True:=trivial
theorem tw14974418133287282401:True:=trivial
theorem tw3427915782160964707:True:=trivial
theorem tw2859525730705669432:True:=trivial
theorem tw2087454373699387893:True:=trivial
theorem tw16705602572438891515:True:=trivial
theorem tw13258506176353115116:True:=trivial
theorem tw16552447988106325788:True:=trivial
theorem tw8253514724006113099:True:=trivial
theorem tw9668851678617277787:True:=trivial
theorem tw4833152432058880765:True:=trivial
theorem tw13941199304686697403:True:=trivial
theorem tw7251585857561401585:True:=trivial
theorem tw17006641911554837603:True:=trivial
theorem tw18399580773351901829:True:=trivial
theorem tw9480415392083025189:True:=trivial
theorem tw17785925740159050701:True:=trivial
theorem tw552867866321715524:True:=trivial
theorem tw4882305263861382692:True:=trivial
theorem tw17816682574067445126:True:=trivial
theorem tw6883746622800662400:True:=trivial
theorem tw2683671881162136959:True:=trivial
theorem tw4094234652403073192:True:=trivial
theorem tw2055814427188715334:True:=trivial
theorem tw11993019799892166307:True:=trivial
end PySem.W.Fast
open PySem PySem.W PyProof.Rows
set_option maxRecDepth 100000 in
set_option maxHeartbeats 0 in
theorem PySem.Challenge.cw_offerhouse_k81_offers_of_a_book_holds : PySem.Challenge.rw_offerhouse_k81_offers_of_a_book.Holds := by
  w_on; o_law; k_head; (case hw => w_witness2)
  k_fill
  refine DL.yW (l := PySem.Challenge.rw_offerhouse_k81_offers_of_a_book) (k := 26) ⟨rfl, by decide, by decide⟩ rfl rfl (ts := []) (fun w h Y => ⟨PySem.W.kIn_of Y, fun _ z => nomatch z⟩) (fun w => by kernel_rfl) ?F
  case F =>
    intro w mg fa h KX G IS
    refine' My.all_mk KX G IS ?x0 ?x1 ?x2 ?x3 ?x4 ?x5 ?x6 ?x7 ?x8 ?x9 ?xa ?xb ?xc ?xd ?xe ?xf ?xg ?xh ?xi ?xj ?xk ?xl ?xm ?xn ?xo ?xp ?xq ?xr ?xs ?xt ?xu ?xv ?xw ?xx ?xy ?xz ?x10 ?x11 ?x12 ?x13 ?x14 ?x15 ?x16 ?x17 ?x18 ?x19 ?x1a ?x1b ?x1c ?x1d ?x1e ?x1f ?x1g ?x1h ?x1i ?x1j ?x1k ?x1l ?x1m ?x1n ?x1o ?x1p ?x1q ?x1r ?x1s ?x1t ?x1u ?x1v ?x1w ?x1x ?x1y ?x1z ?x20 ?x21 ?x22 ?x23 ?x24 ?x25 ?x26 ?x27 ?x28 ?x29 ?x2a ?x2b ?x2c ?x2d ?x2e ?x2f ?x2g ?x2h ?x2i ?x2j ?x2k ?x2l ?x2m ?x2n ?x2o ?x2p ?x2q ?x2r ?x2s ?x2t ?x2u ?x2v ?x2w ?x2x ?x2y ?x2z ?x30 ?x31 ?x32 ?x33 ?x34 ?x35 ?x36 ?x37 ?x38 ?x39 ?x3a ?x3b ?x3c ?x3d ?x3e ?x3f ?x3g ?x3h ?x3i ?x3j ?x3k ?x3l ?x3m ?x3n ?x3o ?x3p ?x3q ?x3r ?x3s ?x3t ?x3u ?x3v ?x3w ?x3x ?x3y ?x3z ?x40 ?x41 ?x42 ?x43 ?x44 ?x45 ?x46 ?x47 ?x48 ?x49 ?x4a ?x4b ?x4c ?x4d ?x4e ?x4f ?x4g ?x4h ?x4i ?x4j ?x4k ?x4l ?x4m ?x4n ?x4o ?x4p ?x4q ?x4r ?x4s ?x4t ?x4u ?x4v ?x4w ?x4x ?x4y ?x4z ?x50 ?x51 ?x52 ?x53 ?x54 ?x55 ?x56 ?x57 ?x58 ?x59 ?x5a ?x5b ?x5c ?x5d ?x5e ?x5f ?x5g ?x5h ?x5i ?x5j ?x5k ?x5l ?x5m ?x5n ?x5o ?x5p ?x5q
    (case x0|x1|x2|x3|x4|x5|x6|x7|x8|x9|xa|xb|xc|xd|xe|xf|xg|xh|xi|xj|xk => constructor <;> k_is)
    (case xl|xm => k_is)
    (case xn => exact ⟨_, by k_is⟩)
    (case xo => k_is); (case xp => k_is)
    (case xq => k_is)
    (case xr|xs => exact ⟨_, by k_is⟩)
    (case xt|xu|xv|xw|xx|xy|xz|x10|x11|x12|x13|x14|x15|x16 => k_is)
    (case x17 => kernel_rfl)
    (case x18|x19|x1a|x1b|x1c|x1d => k_is)
    (case x1e => kernel_rfl)
    (case x1f|x1g|x1h => k_is)
    (case x1i|x1r|x20|x28|x2g|x2p|x2w|x35|x3e|x3n|x3x|x46|x4f => exact ⟨by k_is, by k_is, by k_is, by k_is, by k_is⟩)
    (case x1j|x1s|x21|x29|x2h|x2q|x2x|x36|x3f|x3o|x3y|x47|x4g => constructor <;> k_is)
    (case x1k|x1l|x1m|x1t|x1u|x1v|x22|x2a|x2i|x2j|x2k|x2r|x2y|x2z|x37|x38|x3g|x3h|x3p|x3q|x3r|x3z|x40|x48|x49|x4h|x4i => unfold L2.ak; k_is)
    (case x1n|x1o|x1p|x1q|x1w|x1x|x1y|x1z|x23|x24|x25|x26|x27|x2b|x2c|x2d|x2e|x2f|x2l|x2m|x2n|x2o|x2s|x2t|x2u|x2v|x30|x31|x32|x33|x34|x39|x3a|x3b|x3c|x3d|x3i|x3j|x3k|x3l|x3m|x3s|x3t|x3u|x3v|x3w|x41|x42|x43|x44|x45|x4a|x4b|x4c|x4d|x4e => constructor <;> k_is)
    (case x4j|x4k => k_is)
    (case x4l|x4m => kernel_rfl)
    (case x4n|x4o|x4p|x4q|x4r|x4s|x4t|x4u|x4v|x4w|x4x|x4y|x4z|x50|x51|x52|x53|x54|x55|x56|x57|x58|x59|x5a|x5b|x5c|x5d|x5e|x5f|x5g|x5h|x5i => constructor <;> k_is)
    (case x5j|x5k|x5l => kernel_rfl)
    (case x5m => k_is)
    (case x5n => kernel_rfl)
    (case x5o => k_is)
    (case x5p => kernel_rfl)
    (case x5q => exact My.fin)
