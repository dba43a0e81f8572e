import PyProof.Rows.All
import Wide.All
import OpenK.AllK
import Wide.FinOn
import Lean
import PyProof.EqAt
import PyProof.EqKinds
import PyProof.TupleCall
import PySem.Challenge.RW_offerhouse_k82_books_refused
set_option Elab.async false
set_option linter.all false
set_option maxRecDepth 100000
open And renaming intro->c4O
open Array renaming length_toList->tf,getElem?_eq_getElem->Et,getElem?_toList->LH,getD->zt,append_assoc->Lo,getElem_toList->Q4,getD_eq_getD_getElem?->WS,perm_iff_toList_perm->WU,toList_inj->QK,toList_push->V6
open Array.Perm renaming refl->IA
open Bool renaming false_ne_true->wj,false_eq_true->AL,and_eq_true->BE,noConfusion->C8,eq_iff_iff->IB,not_eq_true->QJ,false_and->QP
open Classical renaming byContradiction->Ri,not_not->Qs
open False renaming elim->eA
open ForInStep renaming yield->Ep
open Iff renaming rfl->hU
open Int renaming toNat_natCast->Ee,mul_nonneg->Es,mul_le_mul->Er,emod_lt_of_pos->Ll,le_refl->CM,emod_nonneg->Lv
open List renaming length_map->bY,getElem?_eq_getElem->iP,mem_cons_of_mem->gn,mem_cons->cL,length_append->fD,mem_cons_self->gi,size_toArray->gh,getElem?_set_ne->jo,length_cons->gq,mem_singleton->je,map_cons->fE,mem_append_right->mD,mem_append_left->mC,getElem?_eq_some_iff->pH,getElem?_set_self->n6,mem_append->jV,range->fx,getElem?_map->mB,mem_map->jW,map_append->nz,getElem_mem->oF,replicate->nv,lookup_cons->qb,length_singleton->yv,not_mem_nil->sX,mem_range->p9,length_range->wg,set_cons_zero->zv,getElem?_replicate->C1,append_nil->yu,nodup_cons->yt,length_zip->yr,getElem?_eq_none->CZ,drop_eq_getElem_cons->IW,map_map->wm,set_cons_succ->C5,mem_iff_getElem->Eu,append_assoc->C4,nodup_append->C3,filterMap_cons->EA,drop_eq_nil_of_le->IX,getD_eq_getElem?_getD->LN,pairwise_cons->Ei,zip_cons_cons->Eg,lookup->yq,getElem?_append->IM,find?_cons->CQ,length_eq_zero_iff->Lx,countP_cons_of_pos->Lw,length_take->Ec,cons_append->Eb,length_tail->Ea,length_replicate->LJ,getElem?_toArray->LG,foldl_cons->Eo,eq_nil_or_concat->LF,concat_eq_append->LD,getElem?_append_right->Rf,getElem?_append_left->Rc,map->uz,pairwise_singleton->QX,countP_cons_of_neg->QW,take_of_length_le->QS,length->CN,reverse_cons->Lk,pairwise_map->Lh,zipWith->D7,take_append_drop->Q8,length_drop->Ls,any_eq_true->Lr,mem_of_getElem?->Q6,map_eq_cons_iff->Q3,length_eraseIdx_of_lt->WT,pairwise_iff_getElem->Wx,getElem?_set->Qv,filterMap_cons_some->Wv,any_cons->La,getElem?_cons_succ->WI,getElem?_cons_zero->WH,all_eq_true->QL,of_mem_zip->QF,length_set->QE,length_nil->QC,dropLast_eq_take->WB,getElem?_zipWith->Wz,mem_iff_getElem?->Wy,countP_le_length->WN,pairwise_append->WL,length_zipWith->Wg,getElem?_range->Wf,length_pos_iff->Wc,reverse_append->Wb,mem_filterMap->Wa,Pairwise->Qf,toArray->Qp
open List.Pairwise renaming nil->IS
open List.Perm renaming refl->CV,swap->Wi
open Nat renaming le_refl->cw,ne_of_lt->fg,lt_of_lt_of_le->n5,le_of_ble_eq_true->q9,lt_succ_self->oG,lt_succ_of_lt->we,le_trans->pE,lt_irrefl->yx,zero_le->uB,le_succ->zr,lt_of_succ_lt_succ->LK,lt_trans->BA,lt_of_le_of_lt->Ln,le_of_succ_le->Li,le_of_lt->D9,ne_of_gt->D8,not_lt_zero->Lq,min_eq_left->Lp,eq_zero_or_pos->Q9,succ_lt_succ->QI,lt_or_ge->Lg,le_of_eq->Qc,add_comm->Qo,sub_sub->Ql
open Ne renaming symm->lx
open Option renaming map_eq_some_iff->Ew,bind_some->BD,isSome_iff_exists->LA,map->CO,isSome_map->Qw,getD_none->QM
open Option.some renaming injEq->gP,inj->gp
open Or renaming inr->bL,inl->cK
open Prod.mk renaming injEq->Lf
open PyProof.Rows renaming slot_tuple_getitem->LM,callWith_type1->LO,mirror_perm->BB
open PyProof.Rows.F renaming plain_set_update_loop->QY,entry_set_update_loop->WK
open PyProof.Rows.SortSt renaming mk'->Qi
open PySem renaming wpAny_bind->aF,wpAny_pure->bG,wpAny_mono->jy,sizeLine_eq->lr,wpAny_holding->q0,wpAny_newObj_type->zu,codeAny_builtin->AM,wpAny_Call_Name_kw->C6,mem_of_lookup->Ez,wpAny_call_entry->C9,codeAny_mono->zx,wpAny_setField_rec->Eh,wpAny_truthy_bool->Ef,wpAny_passesOwn->CS,fits_of_scanBound->Ed,KeyKind->By,wpAny_callSpecial?_slot->Ly,wpAny_of_eq->zq,strLen_append->Bw,wpAny_setEntries_of->IK,wpAny_setState_of->IQ,plainId_quiet->CT,wpAny_askSetting->IU,wpAny_execs_nil->IC,tupleKind_room_in1->Lm,wpAny_ite_split->Iz,wpAny_pyIter_list->Lj,builtinLookup_eq_fast->Q7,codeAny_call_builtin->Q5,wpAny_attempt->IG,strKind->ID,wpAny_call->CP,wpAny_typeOf->IJ,wpAny_fieldsOf->Lc,wpAny_assign_Name->Qz,call_meets->D3,wpAny_standAt->Lb,noFill_tuple_add->QN,typeLookup_type->QR,boot_len->QO,seq_tuple_add->Qg,Builtin->c4l,wpAny_load->K8,wpAny_rule->K6,Within->Qe,call->Qk
open PySem.Around renaming under_plainId->C7,under->Qb
open PySem.Builtin.Dict renaming updateFrom->WJ
open PySem.Builtin.Int renaming intBits->Wh
open PySem.Builtin.List renaming listTooLong->Rg,listLengthHint->WR,listExtendWith->WY,listSameRef->Wu
open PySem.Builtin.Range renaming rangeSize->Ws
open PySem.Builtin.Slice renaming slicePlaces->LB,sliceAdjust->Rb,sliceApplied->WW
open PySem.Builtin.Str renaming occurrences->Wr
open PySem.Builtin.Tuple renaming tupleExact->Lz
open PySem.Calls renaming callWith_builtin->QU,Name_function_global->WX,evalArgs_plain->WM
open PySem.Code renaming quiet_builtin->V9,isFrame->Qq
open PySem.Env renaming kindOf->Iy
open PySem.F renaming plainAttrs_list->Ex,called_set->Bz,args_tuple_add_2->Rh,slot_list_getattribute->Q0,entry_tuple_add->QZ,slot_tuple_add->QV,slot_list_append->QT,slot_list_pop->Q1,type_list_append->Ww,slot_dict_values->Wt,slot_list_reverse->WD,slot_list_extend->WC,type_list_pop->WA
open PySem.Heap renaming get?_push_of_some->dY,lt_size->dU,get?_push_size->jx,size_push->n8,SameBut->yw,get?_update_other->IY,get?_update_self->LI,get?_none_of_le->LC,ExtBut->K9
open PySem.Heap.DictOf renaming new->Wm
open PySem.Heap.SameBut renaming refl->Qu,update->We
open PySem.IsRange renaming new->Qm
open PySem.NameKind renaming free->uA,cell->CU
open PySem.Obj renaming mapSeq->q8,putSet->K7
open PySem.PassesOwn renaming never->AN
open PySem.SetTable renaming below->yz,grown->CW,sizeAbove->QB,Probe->Wj
open PySem.SetTable.below renaming go->V7
open PySem.SetTable.probe renaming go->Qt
open PySem.Str renaming ofString->CY,empty->AJ
open PySem.Value renaming ref->cR,none->lE,bool->qa,isStrOf_shape->IL,isInt_shape->IT,type->Bv,builtin->IE,str->CL,isStrOf->Qh,isInt->Qn,int->K'
open PySem.W renaming Frag->aK,kitOne->df,nsIn->iJ,findIn->j',mg_of->kW,fnOf->mS,keepIn->sW,mg_none_of->zw,emptyDict->AK,exmOne->yA,tabIn->wq,mroIn->wo,instObj->BC,callWith_K->Ey,hideAll_none->IP,tabObj->Em,nsOkIn->Ek,tailIn->Ej,hideAll_get->LL,clsIn->D6,kas_rev->sV,codeIn->IH,plainGet->Lu,plainGet_of->Q2,of_hideAll->Ra,kas_descPart->II,lookIn->Le,looks_findIn->Ld,methodObj->QA,hasDictIn->Qy,specialIn->Qr,kas_desc->Bu,cellsFrom_some->WG,hideAll->QH,takerIn->QG,OpenLaw->QD,kas_place->D5,methodCall_KW->WO,tail_of_in->V',plainOver->V8,isFn->Qd,handedIn->Wq,codeHdIn->Wp,kas_sort->Iv,makesIn->Wn,readsIn->Wl,findCls->Wk
open PySem.Walks renaming list->Qj
open String renaming splitOnAux->V5
open Sum renaming inr->wc,inl->CK
open Sum.inr renaming inj->Iw
open True renaming intro->D4
namespace L2
open PySem PySem.Spec PyProof.Rows
abbrev Key:=Sum Int Str
def Dd:Key->Value->Bool
 | .inl k,v=>Qn k v
 | .inr x,v=>Qh x v
def OQ(w:World):Key->Int
 | .inl k=>hashInt k
 | .inr x=>hashStr w x
theorem zN:∀{k:Key} {v:Value},Dd k v=true->(∃i t,k=CK i/\v=K' i t)\/(∃x t,k=wc x/\v=CL x t)
 | .inl i,v,h=>by
  obtain ⟨t,e⟩:=IT (k:=i) (v:=v) h
  exact .inl ⟨i,t,rfl,e⟩
 | .inr x,v,h=>by
  obtain ⟨t,e⟩:=IL (x:=x) (v:=v) h
  exact .inr ⟨x,t,rfl,e⟩
theorem b1l(i:Int)(t:Tok):Dd (.inl i) (.int i t)=true:=by simp [Dd,Qn]
theorem b1k(x:Str)(t:Tok):Dd (.inr x) (.str x t)=true:=by simp [Dd,Qh]
theorem b8a(a b:Int):decide ((CK a:Key)=CK b)=(a==b):=by
 by_cases e:a=b
 .subst e;simp
 .have h:¬(CK a:Key)=CK b:=λq=>e (Sum.inl.inj q)
  rw [decide_eq_false h]
  exact (beq_eq_false_iff_ne.mpr e).symm
theorem b77(a b:Str):decide ((wc a:Key)=wc b)=decide (a=b):=by
 by_cases e:a=b
 .subst e;simp
 .have h:¬(wc a:Key)=wc b:=λq=>e (Iw q)
  rw [decide_eq_false h,decide_eq_false e]
theorem b79(a:Int)(b:Str):decide ((CK a:Key)=wc b)=false:=decide_eq_false (λq=>nomatch q)
theorem b78(a:Str)(b:Int):decide ((wc a:Key)=CK b)=false:=decide_eq_false (λq=>nomatch q)
def mY(prog:Program)(w:World):By prog w Key where
 is:=Dd
 hash:=OQ w
 inj:=λv a b ha hb=>by
  rcases zN ha with ⟨i,t,rfl,rfl⟩ | ⟨x,t,rfl,rfl⟩
  .rcases zN hb with ⟨j,u,rfl,e⟩ | ⟨y,u,rfl,e⟩
   .injection e with e1 _;rw [e1]
   .exact nomatch e
  .rcases zN hb with ⟨j,u,rfl,e⟩ | ⟨y,u,rfl,e⟩
   .exact nomatch e
   .injection e with e1 _;rw [e1]
 byValue:=λk v h=>by
  rcases zN h with ⟨i,t,rfl,rfl⟩ | ⟨x,t,rfl,rfl⟩<;>rfl
 pyHash:=λhv h=>by
  rcases zN hv with ⟨i,t,rfl,rfl⟩ | ⟨x,t,rfl,rfl⟩
  .exact wpAny_pyHash_int h
  .exact wpAny_pyHash_str h
 eqBool:=λhu hv h=>by
  rcases zN hu with ⟨i,t,rfl,rfl⟩ | ⟨x,t,rfl,rfl⟩
  .rcases zN hv with ⟨j,u,rfl,rfl⟩ | ⟨y,u,rfl,rfl⟩
   .rw [b8a] at h;exact wpAny_eqBool_int h
   .rw [b79] at h;exact SeqAt.EqAt.int_str i t y u _ _ _ _ h
  .rcases zN hv with ⟨j,u,rfl,rfl⟩ | ⟨y,u,rfl,rfl⟩
   .rw [b78] at h;exact SeqAt.EqAt.str_int x t j u _ _ _ _ h
   .rw [b77] at h;exact wpAny_eqBool_str h
 «strs»:=λk x t v h=>by
  rcases zN h with ⟨i,u,rfl,e⟩ | ⟨y,u,rfl,e⟩
  .exact nomatch e
  .injection e with e1 _
   subst e1
   cases v<;>rfl
theorem a8l(prog:Program)(w:World)(i:Int)(t:Tok):(mY prog w).is (.inl i) (.int i t)=true:=b1l i t
theorem Z6(prog:Program)(w:World)(x:Str)(t:Tok):(mY prog w).is (.inr x) (.str x t)=true:=b1k x t
end L2
namespace L2
open PySem PySem.Spec PyProof.Rows
inductive V where
 | cj | bl (b:Bool) | int (i:Int) | str (x:Str) | EB (b:Array UInt8) | K0 (b:UInt64) | ref (a:Addr) | ty (n:String)
 deriving DecidableEq
def RelV:V->Value->Prop
 | .cj,u=>u=lE
 | .bl b,u=>u=qa b
 | .int i,u=>∃t,u=K' i t
 | .str x,u=>∃t,u=CL x t
 | .EB b,u=>∃t,u=Value.bytes b t
 | .K0 b,u=>∃t,u=Value.float b t
 | .ref a,u=>u=cR a
 | .ty n,u=>u=Bv n
abbrev aL:List V->List Value->Prop:=Paired RelV
theorem aL.length(r:aL xs us):xs.length=us.length:=Paired.length r
theorem aL.get:∀{xs:List V} {us:List Value} {i:Nat} {x:V},aL xs us->xs[i]?=some x->∃u,us[i]?=some u/\RelV x u
 | _,_,_,_,.nil,e=>by simp at e
 | _,_,0,_,.cons r _,e=>by simp at e;subst e;exact ⟨_,rfl,r⟩
 | _,_,i+1,x,.cons _ t,e=>by
  obtain ⟨u,h1,h2⟩:=aL.get (i:=i) (x:=x) t (by simpa using e)
  exact ⟨u,by simpa using h1,h2⟩
theorem aL.set(r:RelV x u):∀{xs:List V} {us:List Value} (i:Nat),aL xs us->aL (xs.set i x) (us.set i u)
 | _,_,_,.nil=>.nil
 | _,_,0,.cons _ t=>.cons r t
 | _,_,i+1,.cons q t=>.cons q (aL.set r i t)
theorem aL.append:∀{xs ys:List V} {us ws:List Value},aL xs us->aL ys ws->aL (xs++ys) (us++ws)
 | _,_,_,_,.nil,s=>s
 | _,_,_,_,.cons r t,s=>.cons r (aL.append t s)
theorem aL.take:∀{xs:List V} {us:List Value} (n:Nat),aL xs us->aL (xs.take n) (us.take n)
 | _,_,0,_=>.nil
 | _,_,_+1,.nil=>.nil
 | _,_,n+1,.cons r t=>.cons r (aL.take n t)
theorem aL.drop:∀{xs:List V} {us:List Value} (n:Nat),aL xs us->aL (xs.drop n) (us.drop n)
 | _,_,0,r=>r
 | _,_,_+1,.nil=>.nil
 | _,_,n+1,.cons _ t=>aL.drop n t
def jb:Option V->Option Value->Prop
 | some v,some u=>RelV v u
 | none,none=>True
 | _,_=>False
def KV{κ:Type}:List (κ×V)->List (κ×Value)->Prop:=Paired λ(p:κ×V) (q:κ×Value)=>p.1=q.1/\RelV p.2 q.2
def kV:Key->V
 | .inl i=>.int i
 | .inr x=>.str x
inductive HO where
 /-- a list -/
 | lst (xs:List V)
 /-- a tuple (never changes) -/
 | tup (xs:List V)
 /-- a dict Bc keys are ints and texts;one Bc keys are tuples of ints and texts (the empty one is both) -/
 | dK (aA:List (Key×V)) | dT (aA:List (List Key×V))
 /-- a set of ints: aw members,aw size -/
 | set (S:Int->Bool) (n:Nat)
 /-- an instance of the class at C,aw dict at dx,aw attributes -/
 | ins (C dx:Addr) (fs:List (Str×V))
 /-- the dict of the instance at x -/
 | own (x:Addr)
 /-- the dict of an exception -/
 | xd (fs:List (Str×V))
 /-- a bound method,f of x -/
 | met (f x:Addr)
 /-- a range object lo,lo+1,.. below hi -/
 | Kx (lo hi:Int)
 /-- a FU that is known to the object (the script;a dict while a loop walks it): read,never written while it is so -/
 | jP (o:Obj) (u:HO)
 /-- a code xH table -/
 | Bd (ps:Array Value)
 /-- a code xH table Bc codes are all called q,and are aw own -/
 | tab (q:Str)
 /-- any other FU,by what is true of aw one object (a def of Vo own: SetO a S n:=HO.ext λh=>..) -/
 | ext (φ:Heap->Prop)
def ownOf:HO->Option Addr
 | .own x=>some x
 | .jP _ (.own x)=>some x
 | _=>none
def b8k(q:Str)(o:Obj):Prop:=∃vs t,o.data=.fields vs/\vs[1]?=some (.str q t)
abbrev Hp:=Addr->Option HO
def upd(H:Hp)(a:Addr)(o:HO):Hp:=λb=>if b=a then some o else H b
theorem kn:upd H a o a=some o:=by unfold upd;rw [if_pos rfl]
theorem dW(h:b≠a):upd H a o b=H b:=by unfold upd;rw [if_neg h]
theorem GW{H:Hp}{a b:Addr}{o u:HO}(h:H a=some o)(h':H b=some u)(d:o≠u):a≠b:=by
 intro e;subst e;rw [h] at h';exact d (gp h')
theorem pO{H:Hp}{a b:Addr}{o:HO}(h:H a=some o)(h':H b=none):a≠b:=by
 intro e;subst e;rw [h] at h';cases h'
section
variable (P:Program)(w:World)
def cb(H:Hp)(h:Heap)(a:Addr):HO->Prop
 | .lst xs=>xs.length<=sizeLine/\∃(aw:List Value) (n:Nat),aL xs aw/\h.get? a=some { cls:=.type "list",data:=.seq aw.toArray n }
 | .tup xs=>xs.length<=sizeLine/\∃aw:List Value,aL xs aw/\IsTup h a aw.toArray
 | .dK aA=>aA.length<=sizeLine/\(a==sysModules)=false/\∃vs,KV aA vs/\h.DictOf (mY P w) a vs
 | .dT aA=>aA.length<=sizeLine/\(a==sysModules)=false/\∃xs:List (List Key×Addr×Value),
   Paired (λ(p:List Key×V) (q:List Key×Addr×Value)=>p.1=q.1/\H q.2.1=some (.tup (p.1.map kV))/\RelV p.2 q.2.2) aA xs /\
   ∃o es ep,h.get? a=some o/\o.ExactDict/\o.data=.dict es ep/\es.toList=xs.map (entryOfKey (tupleKind (mY P w)))/\(xs.map (·.1)).Nodup
 | .set S n=>h.SetOf (intKind P w) a S n
 | .ins C dx fs=>H dx=some (.own a)/\fs.length<=1000/\dx≠a/\h.get? a=some (BC C dx) /\
   ∃mA,h.Ns1 dx mA/\(∀f,jb (fs.lookup f) (mA f))/\Qe mA (fs.map (·.1))
 | .own _=>∃o,h.get? a=some o
 | .xd fs=>∃mA,h.Ns1 a mA/\∀f,jb (fs.lookup f) (mA f)
 | .Kx lo hi=>∃t u v,h.get? a=some { cls:=.type "range",data:=.fields #[.int lo t,.int hi u,.int 1 v] }
 | .jP o u=>h.get? a=some o/\cb H h a u
 | .Bd ps=>h.get? a=some { cls:=.none,data:=.fields ps }
 | .tab q=>∃ps,h.get? a=some (Em ps)/\TriplesOk ps.toList/\∀pos cv,codeAmong pos ps.toList=some cv->∃c oc,cv=.ref c/\H c=some (.jP oc (.own a))/\b8k q oc
 | .met f x=>h.get? a=some (QA (.ref f) (.ref x))
 | .ext φ=>φ h/\(∃o,h.get? a=some o)/\∀h1 h2:Heap,φ h1->(∀o,h1.get? a=some o->h2.get? a=some o)->φ h2
def g7(H:Hp)(h:Heap):Prop:=∀a o,H a=some o->cb P w H h a o
end
section
variable {P:Program}{w:World}{H H':Hp}{h h':Heap}{a:Addr}{o:HO}
theorem cb.lt(x:cb P w H h a o):a<h.objs.size:=by
 cases o with
 | lst xs=>obtain ⟨_,_,_,_,e⟩:=x;exact dU e
 | tup xs=>obtain ⟨_,_,_,p⟩:=x;exact p.lt
 | dK aA=>obtain ⟨_,_,_,_,o,_,_,e,_⟩:=x;exact dU e
 | dT aA=>obtain ⟨_,_,_,_,o,_,_,e,_⟩:=x;exact dU e
 | set S n=>obtain ⟨o,_,_,_,e,_⟩:=x;exact dU e
 | ins C dx fs=>obtain ⟨_,_,_,e,_⟩:=x;exact dU e
 | own y=>obtain ⟨_,e⟩:=x;exact dU e
 | xd fs=>obtain ⟨_,⟨_,_,_,e,_⟩,_⟩:=x;exact dU e
 | Kx lo hi=>obtain ⟨_,_,_,e⟩:=x;exact dU e
 | jP ob u=>obtain ⟨e,_⟩:=x;exact dU e
 | Bd ps=>exact dU (show h.get? a=some _ from x)
 | tab q=>obtain ⟨_,e,_⟩:=x;exact dU e
 | met f y=>exact dU (show h.get? a=some _ from x)
 | ext φ=>obtain ⟨_,⟨_,e⟩,_⟩:=x;exact dU e
theorem Paired.Ce{α β:Type}{F G:α->β->Prop}:∀{l₁:List α} {l₂:List β},Paired F l₁ l₂->(∀a b,F a b->G a b)->Paired G l₁ l₂
 | _,_,.nil,_=>.nil
 | _,_,.cons r t,f=>.cons (f _ _ r) (Paired.Ce t f)
theorem cb.nL(x:cb P w H h a o)(k:∀b u,(b=a\/H b=some (.own a))->h.get? b=some u->h'.get? b=some u)
  (ho:∀b u,ownOf u=some a->H b=some u->H' b=some u)(ht:∀b xs,H b=some (.tup xs)->H' b=some (.tup xs)):cb P w H' h' a o:=by
 induction o with
 | lst xs=>obtain ⟨z,aw,n,r,e⟩:=x;exact ⟨z,aw,n,r,k _ _ (.inl rfl) e⟩
 | tup xs=>obtain ⟨z,aw,r,ob,e,c⟩:=x;exact ⟨z,aw,r,ob,k _ _ (.inl rfl) e,c⟩
 | dK aA=>obtain ⟨z,y,vs,r,ob,es,ep,e,c⟩:=x;exact ⟨z,y,vs,r,ob,es,ep,k _ _ (.inl rfl) e,c⟩
 | dT aA =>
  obtain ⟨z,y,xs,r,ob,es,ep,e,c⟩:=x
  exact ⟨z,y,xs,Paired.Ce r λp q z=>⟨z.1,ht _ _ z.2.1,z.2.2⟩,ob,es,ep,k _ _ (.inl rfl) e,c⟩
 | set S n=>obtain ⟨ob,es,ep,t,e,c⟩:=x;exact ⟨ob,es,ep,t,k _ _ (.inl rfl) e,c⟩
 | ins C dx fs =>
  obtain ⟨d,z,ne,e,mA,⟨od,es,ep,e2,c⟩,r⟩:=x
  exact ⟨ho _ _ rfl d,z,ne,k _ _ (.inl rfl) e,mA,⟨od,es,ep,k _ _ (.inr d) e2,c⟩,r⟩
 | own y=>obtain ⟨ob,e⟩:=x;exact ⟨ob,k _ _ (.inl rfl) e⟩
 | xd fs=>obtain ⟨mA,⟨od,es,ep,e,c⟩,r⟩:=x;exact ⟨mA,⟨od,es,ep,k _ _ (.inl rfl) e,c⟩,r⟩
 | Kx lo hi=>obtain ⟨t,u,v,e⟩:=x;exact ⟨t,u,v,k _ _ (.inl rfl) e⟩
 | jP ob u ih=>obtain ⟨e,q⟩:=x;exact ⟨k _ _ (.inl rfl) e,ih q⟩
 | Bd ps =>
  have e:h.get? a=some { cls:=.none,data:=.fields ps }:=x
  show h'.get? a=some { cls:=.none,data:=.fields ps }
  exact k a _ (.inl rfl) e
 | tab q =>
  obtain ⟨ps,e,ht,z⟩:=x
  exact ⟨ps,k _ _ (.inl rfl) e,ht,λpos cv hc=>let ⟨c,oc,e1,e2,e3⟩:=z pos cv hc;⟨c,oc,e1,ho _ _ rfl e2,e3⟩⟩
 | met f y =>
  have e:h.get? a=some (QA (.ref f) (.ref y)):=x
  show h'.get? a=some (QA (.ref f) (.ref y))
  exact k a _ (.inl rfl) e
 | ext φ=>obtain ⟨p,⟨o,e⟩,st⟩:=x;exact ⟨st _ _ p λo q=>k _ _ (.inl rfl) q,⟨o,k _ _ (.inl rfl) e⟩,st⟩
theorem g7.lt(x:g7 P w H h)(e:H a=some o):a<h.objs.size:=(x a o e).lt
theorem g7.fresh(x:g7 P w H h)(e:h.objs.size<=a):H a=none:=by
 cases q:H a with
 | none=>rfl
 | some u=>exact absurd (n5 (x.lt q) e) (yx _)
theorem g7.kept(x:g7 P w H h)(k:∀b u,h.get? b=some u->h'.get? b=some u):g7 P w H h':=λa o e =>
 (x a o e).nL (λb u _ q=>k b u q) (λ_ _ _ q=>q) λ_ _ q=>q
theorem g7.laid(x:g7 P w H h)(k:∀b u,h.get? b=some u->h'.get? b=some u)(hp:h.objs.size<=a)(new:cb P w (upd H a o) h' a o):g7 P w (upd H a o) h':=λb u e=>by
 have hn:=x.fresh hp
 by_cases hb:b=a
 .subst hb;rw [kn] at e;cases e;exact new
 .rw [dW hb] at e
  exact (x b u e).nL (λc v _ q=>k c v q) (λc _ _ q=>by rw [dW (pO q hn)];exact q) λc xs q=>by rw [dW (pO q hn)];exact q
end
def Rd(H:Hp)(a:Addr)(u:HO):Prop:=H a=some u\/∃o,H a=some (.jP o u)
theorem Rd.ok(r:Rd H a u)(x:g7 P w H h):cb P w H h a u:=by
 rcases r with r | ⟨o,r⟩
 .exact x a u r
 .obtain ⟨_,q⟩:=x a _ r
  exact q
def Ka:Option HO->Prop
 | some (.lst _)=>True
 | some (.dK _)=>True
 | some (.dT _)=>True
 | some (.set _ _)=>True
 | some (.ins _ _ _)=>True
 | some (.ext _)=>True
 | some (.tab _)=>True
 | _=>False
section
variable {P:Program}{w:World}{H:Hp}{h h':Heap}{x e:Addr}{o':HO}
theorem g7.write(ok:g7 P w H h)(mu:Ka (H x))(he:e=x\/H e=some (.own x))(k:∀b u,b≠e->h.get? b=some u->h'.get? b=some u)(DW:∃u,h'.get? e=some u)
  (new:cb P w (upd H x o') h' x o'):g7 P w (upd H x o') h':=λb u q=>by
 have Oy:∀c y,H c=some (.own y)->c≠x:=λc y r z=>by subst z;rw [r] at mu;exact mu
 have Ox:∀c xs,H c=some (.tup xs)->c≠x:=λc xs r z=>by subst z;rw [r] at mu;exact mu
 have OA:∀c y u,ownOf u=some y->H c=some u->c≠x:=λc y u hu r z=>by
  subst z;rw [r] at mu
  cases u with
  | own y=>exact mu
  | jP o v=>exact mu
  | _=>cases hu
 by_cases hb:b=x
 .subst hb;rw [kn] at q;cases q;exact new
 .rw [dW hb] at q
  by_cases Cw:b=e
  .have q':H b=some (.own x):=by
    rcases he with z | z
    .exact absurd (Cw.trans z) hb
    .rw [Cw];exact z
   rw [q] at q';cases q'
   obtain ⟨v,hv⟩:=DW
   exact ⟨v,by rw [Cw];exact hv⟩
  .refine (ok b u q).nL (λc v hc r=>k c v ?_ r) (λc u hu r=>by rw [dW (OA c b u hu r)];exact r) λc xs r=>by rw [dW (Ox c xs r)];exact r
   rcases hc with rfl | hc
   .exact Cw
   .rintro rfl
    rcases he with z | z
    .exact Oy c b hc z
    .rw [hc] at z;cases z;exact hb rfl
end
structure Un(fs ex:List Addr)(H H':Hp)(h h':Heap):Prop where
 keep:∀b o,h.get? b=some o->H b=none->b∉fs->b∉ex->h'.get? b=some o
 slot:∀b o,h.get? b=some o->H b=none->b∈fs->b∉ex->∃sl,h'.get? b=some { o with slots:=sl }
 free:∀b o,h.get? b=some o->H b=none->b∉ex->H' b=none
 there:∀b o,h.get? b=some o->b∉ex->∃o',h'.get? b=some o'
 jB:∀b xs,H b=some (.tup xs)->H' b=some (.tup xs)
 jl:∀b o u,H b=some (.jP o u)->H' b=some (.jP o u)
 jC:∀b ps,H b=some (.Bd ps)->∃more,H' b=some (.Bd (ps++more))
section
variable {fs CD ex ex':List Addr}{H H1 H2:Hp}{h h1 h2 h':Heap}{a x e:Addr}{o:HO}
theorem Un.any(u:Un fs ex H H1 h h1)(q:h.get? b=some ob)(n:H b=none)(hx:b∉ex):∃sl,h1.get? b=some { ob with slots:=sl }:=by
 by_cases hb:b∈fs
 .exact u.slot b ob q n hb hx
 .exact ⟨ob.slots,u.keep b ob q n hb hx⟩
theorem Un.kept(k:∀b u,h.get? b=some u->h'.get? b=some u):Un fs ex H H h h':=
 ⟨λb ob q _ _ _=>k b ob q,λb ob q _ _ _=>⟨ob.slots,k b ob q⟩,λ_ _ _ n _=>n,λb ob q _=>⟨ob,k b ob q⟩,λ_ _ q=>q,λ_ _ _ q=>q,λ_ ps q=>⟨#[],by rw [q];simp⟩⟩
theorem Un.refl:Un fs ex H H h h:=Un.kept λ_ _ q=>q
theorem Un.laid(k:∀b u,h.get? b=some u->h'.get? b=some u)(hp:h.objs.size<=a)(hn:H a=none):Un fs ex H (upd H a o) h h' where
 keep:=λb u q _ _ _=>k b u q
 slot:=λb u q _ _ _=>⟨u.slots,k b u q⟩
 free:=λb u q n _=>by rw [dW (fg (n5 (dU q) hp))];exact n
 there:=λb u q _=>⟨u,k b u q⟩
 jB:=λb xs q=>by rw [dW (pO q hn)];exact q
 jl:=λb u xs q=>by rw [dW (pO q hn)];exact q
 jC:=λb ps q=>⟨#[],by rw [dW (pO q hn),q];simp⟩
theorem Un.write(mu:Ka (H x))(he:e=x\/H e=some (.own x))(k:∀b u,b≠e->h.get? b=some u->h'.get? b=some u)(DW:∃u,h'.get? e=some u):Un fs ex H (upd H x o) h h':=by
 have hx:∀b,H b=none->b≠x:=λb n z=>by subst z;rw [n] at mu;exact mu
 have hb:∀b,H b=none->b≠e:=λb n z=>by
  subst z
  rcases he with r | r
  .exact hx b n r
  .rw [n] at r;cases r
 have hm:∀b u,H b=some u->¬Ka (some u)->b≠x:=λb u q nm z=>by subst z;rw [q] at mu;exact nm mu
 refine ⟨λb u q n _ _=>k b u (hb b n) q,λb u q n _ _=>⟨u.slots,k b u (hb b n) q⟩,λb u q n _=>by rw [dW (hx b n)];exact n,λb u q _=>?_,
  λb xs q=>by rw [dW (hm b _ q λz=>z)];exact q,λb u xs q=>by rw [dW (hm b _ q λz=>z)];exact q,λb ps q=>⟨#[],by rw [dW (hm b _ q λz=>z),q];simp⟩⟩
 by_cases Cw:b=e
 .subst Cw;exact DW
 .exact ⟨u,k b u Cw q⟩
end
def Kq(h:Heap)(H:Hp):List Addr:=(fx h.objs.size).filter λa=>(H a).isSome
def nW(h:Heap)(H:Hp):Heap:=QH h (Kq h H)
theorem b1I(h:Heap)(H:Hp):(nW h H).objs.size=h.objs.size:=PySem.W.hideAll_size _ _
theorem b23(e:h.get? b=some o)(n:H b=none):(nW h H).get? b=some o:=
 LL _ e λhm=>by
  have q:(H b).isSome=true:=(List.mem_filter.mp hm).2
  rw [n] at q;simp at q
theorem b5q(e:(nW h H).get? b=some o):h.get? b=some o/\H b=none:=by
 have e':h.get? b=some o:=Ra (Kq h H) e
 refine ⟨e',?_⟩
 cases q:H b with
 | none=>rfl
 | some x =>
  have hm:b∈Kq h H:=List.mem_filter.mpr ⟨p9.mpr (dU e'),by simp [q]⟩
  have z:(nW h H).get? b=none:=IP (Kq h H) hm
  rw [z] at e;cases e
end L2
namespace L2
open PySem PySem.Spec PyProof.Rows
structure Mod(K:aK)(mg:Str->Option Value)(base:Heap):Prop where
 vB:K.In base
 glob:base.Ns mainGlobals mg
 blt:∃mb,base.Ns builtinsNs mb/\∀x:Str,x ≠ "__name__" -> mb x=bootBuiltins x
 nolimit:base.NoLimit
 bmod:∃bm ob,mg "__builtins__" = some (.ref bm)/\bm≠builtinsNs/\base.get? bm=some ob/\ob.cls=.type "module" /\ ob.dict=some builtinsNs/\ob.data=.plain
structure Cx where
 prog:Program
 w:World
 K:aK
 mg:Str->Option Value
 base:Heap
 A:Around
 N:List Str
 c6:Shared
 yO:Hp
 env:Env
 outer:List Env
 stack:List Env
 ex:List Addr
 fn:Str->Bool
 calm:Bool
 pn:List (Addr×Obj)
 xe:Value->Shared->Prop
def jQ(l:List Env):List Addr:=l.filterMap (·.frame)
abbrev Cx.fs(X:Cx):List Addr:=jQ X.outer
def gm(sc:Scope)(x:Str):Prop:=sc.names.lookup x=some .local\/sc.names.lookup x=some .cell\/sc.names.lookup x=some .free
def Loc(sc:Scope)(x:Str):Prop:=sc.names.lookup x=some .local\/sc.names.lookup x=some .cell
def Look(env:Env)(h:Heap)(m:Str->Option Value)(x:Str)(u:Value):Prop:=
 (env.kindOf x=some .local/\m x=some u)\/((env.kindOf x=some .cell\/env.kindOf x=some .free)/\∃c,env.cells.lookup x=some c/\h.IsCell c (some u))
structure Cx.Ok(X:Cx):Prop where
 mod:Mod X.K X.mg X.base
 kind:X.env.scope.kind=.function
 glob:X.env.globals=mainGlobals
 blt:X.env.builtins=builtinsNs
 above:X.c6.heap.objs.size<=X.env.locals
 inj:∀x y c,X.env.cells.lookup x=some c->X.env.cells.lookup y=some c->x=y
 has:∀x,(X.env.kindOf x=some .cell\/X.env.kindOf x=some .free)->∃c,X.env.cells.lookup x=some c
 CJ:∀x c,X.fn x=true->X.env.cells.lookup x=some c->X.c6.heap.objs.size<=c
 hd:X.calm=true->X.A.handled=none
 frames:X.A.frames=some X.stack
 DI:X.stack=X.outer\/(X.stack=X.env::X.outer/\X.env.frame=some X.env.locals)
 K1:∀b∈X.ex,b≠X.env.locals/\∀x c,X.env.cells.lookup x=some c->c≠b
 bs:∀b o,X.base.get? b=some o->X.c6.heap.get? b=some o/\X.yO b=none
 yB:X.base.objs.size<=X.c6.heap.objs.size
 qD:∀b o,X.base.get? b=some o->b∉X.ex
 ui:∀b∈X.ex,b∉X.fs
 jO:X.c6.heap.FunFrames X.base X.outer
 AD:∀b∈X.fs,X.yO b=none
structure Inv(X:Cx)(pins:List (Addr×Obj))(σ:List (Option V))(H:Hp)(s:Shared):Prop where
 ok:X.Ok
 os:s.os=X.c6.os
 bare:AllBare s.gens
 base:Un X.fs X.ex X.yO H X.c6.heap s.heap
 loc:∃m,s.heap.Ns X.env.locals m/\∀(i:Nat) (x:Str) (v:V),X.N[i]?=some x->σ[i]?=some (some v)->gm X.env.scope x->∃u,RelV v u/\Look X.env s.heap m x u
 cell:∀x c,X.env.cells.lookup x=some c->∃v,s.heap.IsCell c v
 free:H X.env.locals=none
 dz:∀x c,X.env.cells.lookup x=some c->H c=none
 pin:∀p∈X.pn++pins,s.heap.get? p.1=some p.2/\H p.1=none/\p.1≠X.env.locals/\p.1∉X.fs/\∀v,p.2.data≠.cell v
 bg:g7 X.prog X.w H s.heap
 len:σ.length=X.N.length
section
variable {X:Cx}{pins:List (Addr×Obj)}{σ:List (Option V)}{H H':Hp}{s:Shared}{h':Heap}
theorem Cx.Ok.OD(ok:X.Ok)(e:X.base.get? b=some o):b∉X.fs:=λhb=>by
 have:=(ok.jO.mem hb).1
 rw [e] at this;cases this
theorem Inv.bs(I:Inv X pins σ H s):∀b o,X.base.get? b=some o->s.heap.get? b=some o/\H b=none:=λb o e =>
 ⟨I.base.keep b o (I.ok.bs b o e).1 (I.ok.bs b o e).2 (I.ok.OD e) (I.ok.qD b o e),I.base.free b o (I.ok.bs b o e).1 (I.ok.bs b o e).2 (I.ok.qD b o e)⟩
theorem Inv.bk(I:Inv X pins σ H s):∀b o,X.base.get? b=some o->s.heap.get? b=some o:=λb o e=>(I.bs b o e).1
theorem Inv.mod(I:Inv X pins σ H s):Mod X.K X.mg X.base:=I.ok.mod
theorem Inv.kA(I:Inv X pins σ H s):X.K.In s.heap:=I.ok.mod.vB.keeps I.bk
theorem Inv.lt(I:Inv X pins σ H s):X.env.locals<s.heap.objs.size:=let ⟨_,hn,_⟩:=I.loc;hn.lt
theorem Inv.sz(I:Inv X pins σ H s):X.c6.heap.objs.size<=s.heap.objs.size:=pE I.ok.above (D9 I.lt)
theorem Inv.OC(I:Inv X pins σ H s){a:Addr}(h:s.heap.objs.size<=a):a∉X.fs:=λhb=>by
 obtain ⟨_,o,ho,_⟩:=I.ok.jO.mem hb
 exact absurd (n5 (dU ho) (pE I.sz h)) (yx _)
theorem Inv.AH(I:Inv X pins σ H s):∀x c,X.env.cells.lookup x=some c->c≠X.env.locals:=λx c e z=>by
 obtain ⟨v,o,ho,hd⟩:=I.cell x c e
 obtain ⟨m,⟨o',es,ep,iO,zd,_⟩,_⟩:=I.loc
 rw [z,iO] at ho;cases ho;rw [zd] at hd;cases hd
theorem Inv.jO(I:Inv X pins σ H s):s.heap.FunFrames X.base X.outer:=by
 have all:∀(l:List Env),(∀b∈jQ l,b∈X.fs)->X.c6.heap.FunFrames X.base l->s.heap.FunFrames X.base l:=by
  intro l
  induction l with
  | nil=>intro _ _;trivial
  | cons env r ih =>
   intro hs hl
   obtain ⟨hk,⟨L,o,hf,hn,ho,hd⟩,hr⟩:=hl
   have hL:L∈X.fs:=hs L (by unfold jQ;rw [EA,hf];exact gi)
   obtain ⟨sl,e⟩:=I.base.slot L o ho (I.ok.AD L hL) hL λz=>I.ok.ui L z hL
   exact ⟨hk,⟨L,_,hf,hn,e,hd⟩,ih (λb hb=>hs b (by unfold jQ;rw [EA,hf];exact gn _ hb)) hr⟩
 exact all X.outer (λ_ hb=>hb) I.ok.jO
theorem Inv.stack(I:Inv X pins σ H s):s.heap.FunFrames X.base X.stack:=by
 rcases I.ok.DI with e | ⟨e,hf⟩
 .rw [e];exact I.jO
 .rw [e]
  obtain ⟨m,hn,_⟩:=I.loc
  refine .cons (by rw [I.ok.kind];decide) hf hn ?_ I.jO
  exact LC (pE I.ok.yB I.ok.above)
theorem Inv.ig(I:Inv X pins σ H s):∀b∈jQ X.stack,b∈X.env.locals::X.fs:=λb hb=>by
 rcases I.ok.DI with e | ⟨e,hf⟩
 .rw [e] at hb;exact gn _ hb
 .rw [e] at hb
  unfold jQ at hb
  rw [EA,hf] at hb
  exact hb
theorem Inv.jD(I:Inv X pins σ H s):∀b∈jQ X.stack,H b=none:=λb hb=>by
 rcases cL.mp (I.ig b hb) with e | hb
 .rw [e];exact I.free
 .obtain ⟨_,o,ho,_⟩:=I.ok.jO.mem hb
  exact I.base.free b o ho (I.ok.AD b hb) λz=>I.ok.ui b z hb
theorem Inv.step{g':Array GenState}{t':Nat}{d':Drawn}{ch:List Addr}(I:Inv X pins σ H s)
  (ze:∀b∈ch,(b∈X.ex\/X.c6.heap.objs.size<=b)/\b≠X.env.locals/\(∀x c,X.env.cells.lookup x=some c->c≠b)/\∀p∈X.pn++pins,p.1≠b)
  (keep:∀b o,b≠X.env.locals->b∉X.fs->b∉ch->s.heap.get? b=some o->H b=none->h'.get? b=some o)
  (slot:∀b o,b≠X.env.locals->b∈X.fs->b∉ch->s.heap.get? b=some o->H b=none->∃sl,h'.get? b=some { o with slots:=sl })(free:∀b o,b∉ch->s.heap.get? b=some o->H b=none->H' b=none)
  (there:∀b o,b∉ch->s.heap.get? b=some o->∃o',h'.get? b=some o')
  (jB:∀b xs,H b=some (.tup xs)->H' b=some (.tup xs))(jl:∀b o u,H b=some (.jP o u)->H' b=some (.jP o u))(jC:∀b ps,H b=some (.Bd ps)->∃more,H' b=some (.Bd (ps++more)))
  (ns:∀m,s.heap.Ns X.env.locals m->h'.Ns X.env.locals m)(bg:g7 X.prog X.w H' h')(hg:AllBare g'):
  Inv X pins σ H' { s with heap:=h',gens:=g',drawn:=d',toks:=t' }:=by
 have DP:∀b o,X.c6.heap.get? b=some o->b≠X.env.locals:=λb o e=>fg (n5 (dU e) I.ok.above)
 have KC:∀b o,X.c6.heap.get? b=some o->b∉X.ex->b∉ch:=λb o e hx hb=>by
  rcases (ze b hb).1 with z | z
  .exact hx z
  .exact absurd (n5 (dU e) z) (yx _)
 have cellK:∀x c,X.env.cells.lookup x=some c->∀v,s.heap.IsCell c v->h'.IsCell c v:=λx c e v ⟨o,ho,hd⟩=>by
  have GX:c∉ch:=λz=>(ze c z).2.2.1 x c e rfl
  by_cases hc:c∈X.fs
  .obtain ⟨sl,q⟩:=slot c o (I.AH x c e) hc GX ho (I.dz x c e)
   exact ⟨_,q,hd⟩
  .exact ⟨o,keep c o (I.AH x c e) hc GX ho (I.dz x c e),hd⟩
 refine ⟨I.ok,I.os,hg,⟨λb o e n hb hx=>?_,λb o e n hb hx=>?_,λb o e n hx=>?_,λb o e hx=>?_,λb xs e=>jB b xs (I.base.jB b xs e),λb o xs e=>jl b o xs (I.base.jl b o xs e),λb ps e=>?_⟩,?_,λx c e=>?_,?_,λx c e=>?_,λp hp=>?_,bg,I.len⟩
 .exact keep b o (DP b o e) hb (KC b o e hx) (I.base.keep b o e n hb hx) (I.base.free b o e n hx)
 .obtain ⟨sl,e1⟩:=I.base.slot b o e n hb hx
  obtain ⟨sl',e2⟩:=slot b _ (DP b o e) hb (KC b o e hx) e1 (I.base.free b o e n hx)
  exact ⟨sl',e2⟩
 .obtain ⟨o',e1⟩:=I.base.there b o e hx
  exact free b o' (KC b o e hx) e1 (I.base.free b o e n hx)
 .obtain ⟨o',e1⟩:=I.base.there b o e hx
  exact there b o' (KC b o e hx) e1
 .obtain ⟨m1,e1⟩:=I.base.jC b ps e
  obtain ⟨m2,e2⟩:=jC b _ e1
  exact ⟨m1++m2,by rw [e2,Lo]⟩
 .obtain ⟨m,hn,hl⟩:=I.loc
  refine ⟨m,ns m hn,λi x v e1 e2 e3=>?_⟩
  obtain ⟨u,r,l⟩:=hl i x v e1 e2 e3
  refine ⟨u,r,?_⟩
  rcases l with l | ⟨k,c,e,z⟩
  .exact .inl l
  .exact .inr ⟨k,c,e,cellK x c e _ z⟩
 .obtain ⟨v,z⟩:=I.cell x c e
  exact ⟨v,cellK x c e v z⟩
 .obtain ⟨m,⟨o,_,_,ho,_⟩,_⟩:=I.loc
  exact free _ o (λz=>(ze _ z).2.1 rfl) ho I.free
 .obtain ⟨v,o,ho,hd⟩:=I.cell x c e
  exact free c o (λz=>(ze c z).2.2.1 x c e rfl) ho (I.dz x c e)
 .obtain ⟨e,n,ne,nf,d⟩:=I.pin p hp
  have GX:p.1∉ch:=λz=>(ze p.1 z).2.2.2 p hp rfl
  exact ⟨keep p.1 p.2 ne nf GX e n,free p.1 p.2 GX e n,ne,nf,d⟩
theorem Inv.un(I:Inv X pins σ H s)(u:Un X.fs [] H H' s.heap h')(bg:g7 X.prog X.w H' h'):Inv X pins σ H' { s with heap:=h',toks:=t' }:=by
 obtain ⟨m,⟨o,es,ep,ho,r⟩,_⟩:=id I.loc
 obtain ⟨sl,hL⟩:=u.any ho I.free (by simp)
 exact I.step (g':=s.gens) (d':=s.drawn) (ch:=[]) (λ_ z=>nomatch z) (λb o _ hb _ e n=>u.keep b o e n hb (by simp)) (λb o _ hb _ e n=>u.slot b o e n hb (by simp)) (λb o _ e n=>u.free b o e n (by simp)) (λb o _ e=>u.there b o e (by simp)) u.jB u.jl u.jC (λm' hm=>by
  obtain ⟨o',yj,K3,iO,r'⟩:=hm
  rw [ho] at iO;cases iO
  exact ⟨_,yj,K3,hL,r'⟩) bg I.bare
theorem Inv.call(I:Inv X pins σ H s)(u:Un (jQ X.stack) ch H H' s.heap h')(bg:g7 X.prog X.w H' h')(hg:AllBare g')
  (ze:∀b∈ch,(b∈X.ex\/X.c6.heap.objs.size<=b)/\b≠X.env.locals/\(∀x c,X.env.cells.lookup x=some c->c≠b)/\∀p∈X.pn++pins,p.1≠b):
  Inv X pins σ H' { s with heap:=h',gens:=g',drawn:=d',toks:=t' }:=by
 obtain ⟨m,⟨o,es,ep,ho,r⟩,_⟩:=id I.loc
 obtain ⟨sl,hL⟩:=u.any ho I.free λz=>(ze _ z).2.1 rfl
 exact I.step (ch:=ch) ze (λb o hL hb hc e n=>u.keep b o e n (λz=>(cL.mp (I.ig b z)).elim hL hb) hc) (λb o _ _ hc e n=>u.any e n hc) (λb o hc e n=>u.free b o e n hc) (λb o hc e=>u.there b o e hc) u.jB u.jl u.jC (λm' hm=>by
  obtain ⟨o',yj,K3,iO,r'⟩:=hm
  rw [ho] at iO;cases iO
  exact ⟨_,yj,K3,hL,r'⟩) bg hg
theorem Inv.turned(I:Inv X pins σ H s)(k:∀b o,b≠it->s.heap.get? b=some o->h'.get? b=some o)(hn:H it=none)(hL:it≠X.env.locals)
  (h1:it∈X.ex\/X.c6.heap.objs.size<=it)(h2:∀x c,X.env.cells.lookup x=some c->c≠it)(h3:∀p∈X.pn++pins,p.1≠it):Inv X pins σ H { s with heap:=h',toks:=t' }:=by
 have Vr:∀b u,H b=some u->b≠it:=λb u e z=>by rw [z,hn] at e;cases e
 refine I.step (g':=s.gens) (d':=s.drawn) (ch:=[it]) (λb hb=>?_) (λb o _ _ hc e _=>k b o (λz=>hc (by simp [z])) e) (λb o _ _ hc e _=>⟨o.slots,k b o (λz=>hc (by simp [z])) e⟩) (λ_ _ _ _ n=>n)
  (λb o hc e=>⟨o,k b o (λz=>hc (by simp [z])) e⟩) (λ_ _ e=>e) (λ_ _ _ e=>e) (λb ps e=>⟨#[],by rw [e];simp⟩) (λm hm=>?_) (λb u e=>?_) I.bare
 .have e:b=it:=by simpa using hb
  subst e
  exact ⟨h1,hL,h2,h3⟩
 .obtain ⟨o,es,ep,ho,r⟩:=hm
  exact ⟨o,es,ep,k _ o (lx hL) ho,r⟩
 .refine (I.bg b u e).nL (λc v hc q=>k c v ?_ q) (λ_ _ _ q=>q) λ_ _ q=>q
  rcases hc with z | z
  .rw [z];exact Vr b u e
  .exact Vr c _ z
theorem Inv.tok(I:Inv X pins σ H s)(t:Nat):Inv X pins σ H { s with toks:=t }:=I.un (h':=s.heap) (t':=t) Un.refl I.bg
theorem Inv.kept(I:Inv X pins σ H s)(k:∀b u,s.heap.get? b=some u->h'.get? b=some u):Inv X pins σ H { s with heap:=h',toks:=t' }:=I.un (Un.kept k) (I.bg.kept k)
theorem Inv.laid{a:Addr}{o:HO}{t':Nat}(I:Inv X pins σ H s)(k:∀b u,s.heap.get? b=some u->h'.get? b=some u)(hp:s.heap.objs.size<=a)(new:cb X.prog X.w (upd H a o) h' a o):
  Inv X pins σ (upd H a o) { s with heap:=h',toks:=t' }:=I.un (Un.laid k hp (I.bg.fresh hp)) (I.bg.laid k hp new)
theorem Inv.write(I:Inv X pins σ H s)(mu:Ka (H x))(he:e=x\/H e=some (.own x))(k:∀b u,b≠e->s.heap.get? b=some u->h'.get? b=some u)(DW:∃u,h'.get? e=some u)
  (new:cb X.prog X.w (upd H x o) h' x o):Inv X pins σ (upd H x o) { s with heap:=h',toks:=t' }:=I.un (Un.write mu he k DW) (I.bg.write mu he k DW new)
theorem Inv.jL(I:Inv X pins σ H s)(h:∀p∈Gr,s.heap.get? p.1=some p.2/\H p.1=none/\p.1≠X.env.locals/\p.1∉X.fs/\∀v,p.2.data≠.cell v):Inv X Gr σ H s:=
 ⟨I.ok,I.os,I.bare,I.base,I.loc,I.cell,I.free,I.dz,λp hp=>(jV.mp hp).elim (λz=>I.pin p (mC _ z)) (h p),I.bg,I.len⟩
theorem S8{N:List Str}(hN:N.Nodup){i j:Nat}{x:Str}(a:N[i]?=some x)(b:N[j]?=some x):i=j:=by
 obtain ⟨h1,e1⟩:=pH.mp a
 obtain ⟨h2,e2⟩:=pH.mp b
 exact (List.getElem_inj hN).mp (e1.trans e2.symm)
theorem TL(I:Inv X pins σ H s)(hN:X.N.Nodup)(hi:X.N[i]?=some x)(hx:Loc X.env.scope x)(r:RelV v u)
  (h:∀s',Inv X pins (σ.set i (some v)) H s'->(∃a,yw a s.heap s'.heap/\(a=X.env.locals\/X.env.cells.lookup x=some a))->Q () s')(hf:X.fn x=true\/X.env.scope.names.lookup x=some .local:=by first | exact .inl rfl | exact .inr rfl | assumption):wpAny M A (storeName X.env x u) Q E s:=by
 obtain ⟨m,hn,hl⟩:=id I.loc
 have Cv:(X.env.scope.kind==.class||(X.env.scope.kind==.module&&X.env.locals != X.env.globals))=false:=by rw [I.ok.kind];rfl
 have Hq:i<σ.length:=by rw [I.len];exact (pH.mp hi).1
 have AH:=I.AH
 have tracked:∀{a:Addr} {h':Heap},(∃o,s.heap.get? a=some o/\H a=none)->yw a s.heap h'->g7 X.prog X.w H h':=λ{a h'} ha hs b ob e=>by
  obtain ⟨_,_,gR⟩:=ha
  refine (I.bg b ob e).nL (λc w' hc q=>(hs.2 c ?_).trans q) (λ_ _ _ q=>q) λ_ _ q=>q
  rintro rfl
  rcases hc with rfl | hc
  .rw [gR] at e;cases e
  .rw [gR] at hc;cases hc
 rcases hx with hk | hk
 .refine wpAny_storeName_local hk hn (λh' hn' hs=>?_) Cv
  obtain ⟨oL,_,_,hoL,_⟩:=id hn
  refine h _ ⟨I.ok,I.os,I.bare,⟨λb o e n hb hx=>?_,λb o e n hb hx=>?_,I.base.free,λb o e hx=>?_,I.base.jB,I.base.jl,I.base.jC⟩,⟨_,hn',λj y v' e1 e2 e3=>?_⟩,λy c e=>?_,I.free,I.dz,λp hp=>?_,tracked ⟨oL,hoL,I.free⟩ hs,by simpa using I.len⟩ ⟨_,hs,.inl rfl⟩
  .exact (hs.2 b (fg (n5 (dU e) I.ok.above))).trans (I.base.keep b o e n hb hx)
  .obtain ⟨sl,e1⟩:=I.base.slot b o e n hb hx
   exact ⟨sl,(hs.2 b (fg (n5 (dU e) I.ok.above))).trans e1⟩
  .obtain ⟨o',e1⟩:=I.base.there b o e hx
   exact ⟨o',(hs.2 b (fg (n5 (dU e) I.ok.above))).trans e1⟩
  .by_cases hj:j=i
   .subst hj
    rw [hi] at e1;cases e1
    rw [n6 Hq] at e2
    cases e2
    exact ⟨u,r,.inl ⟨hk,by simp⟩⟩
   .rw [jo (lx hj)] at e2
    obtain ⟨u',r',q⟩:=hl j y v' e1 e2 e3
    refine ⟨u',r',?_⟩
    rcases q with ⟨k,e⟩ | ⟨k,c,e,z⟩
    .refine .inl ⟨k,?_⟩
     have:y≠x:=λe=>hj (S8 hN e1 (e▸hi))
     simp [this,e]
    .exact .inr ⟨k,c,e,z.sameBut hs (AH y c e)⟩
  .obtain ⟨w',z⟩:=I.cell y c e
   exact ⟨w',z.sameBut hs (AH y c e)⟩
  .obtain ⟨e,n,ne,nf,d⟩:=I.pin p hp
   exact ⟨(hs.2 p.1 ne).trans e,n,ne,nf,d⟩
 .have Pm:X.fn x=true:=by
   rcases hf with z | z
   .exact z
   .rw [z] at hk;cases hk
  obtain ⟨c,hc⟩:=I.ok.has x (.inl hk)
  obtain ⟨w',z⟩:=I.cell x c hc
  refine wpAny_storeName_cell I.ok.kind hk hc z (λh' zf hs=>?_)
  obtain ⟨oc,KJ,Pa⟩:=id z
  refine h { s with heap:=h' } ⟨I.ok,I.os,I.bare,⟨λb o e n hb hx=>?_,λb o e n hb hx=>?_,I.base.free,λb o e hx=>?_,I.base.jB,I.base.jl,I.base.jC⟩,⟨m,hn.sameBut hs (lx (AH x c hc)),λj y v' e1 e2 e3=>?_⟩,λy c' e=>?_,I.free,I.dz,λp hp=>?_,tracked ⟨oc,KJ,I.dz x c hc⟩ hs,by simpa using I.len⟩ ⟨c,hs,.inr hc⟩
  .exact (hs.2 b (fg (n5 (dU e) (I.ok.CJ x c Pm hc)))).trans (I.base.keep b o e n hb hx)
  .obtain ⟨sl,e1⟩:=I.base.slot b o e n hb hx
   exact ⟨sl,(hs.2 b (fg (n5 (dU e) (I.ok.CJ x c Pm hc)))).trans e1⟩
  .obtain ⟨o',e1⟩:=I.base.there b o e hx
   exact ⟨o',(hs.2 b (fg (n5 (dU e) (I.ok.CJ x c Pm hc)))).trans e1⟩
  .by_cases hj:j=i
   .subst hj
    rw [hi] at e1;cases e1
    rw [n6 Hq] at e2
    cases e2
    exact ⟨u,r,.inr ⟨.inl hk,c,hc,zf⟩⟩
   .rw [jo (lx hj)] at e2
    obtain ⟨u',r',q⟩:=hl j y v' e1 e2 e3
    refine ⟨u',r',?_⟩
    rcases q with q | ⟨k,c',e,z'⟩
    .exact .inl q
    .refine .inr ⟨k,c',e,z'.sameBut hs ?_⟩
     rintro rfl
     exact hj (S8 hN e1 (I.ok.inj _ _ _ e hc▸hi))
  .by_cases VO:c'=c
   .subst VO;exact ⟨_,zf⟩
   .obtain ⟨w2,z2⟩:=I.cell y c' e
    exact ⟨w2,z2.sameBut hs VO⟩
  .obtain ⟨e,n,ne,nf,d⟩:=I.pin p hp
   refine ⟨(hs.2 p.1 ?_).trans e,n,ne,nf,d⟩
   intro q
   rw [q,KJ] at e
   have q':oc=p.2:=gp e
   exact d w' (by rw [<-q'];exact Pa)
theorem SU(I:Inv X pins σ H s)(hN:X.N.Nodup)(hi:X.N[i]?=some x)(hx:Loc X.env.scope x)(r:RelV v u)
  (h:∀s',Inv X pins (σ.set i (some v)) H s'->Q () s')(hf:X.fn x=true\/X.env.scope.names.lookup x=some .local:=by first | exact .inl rfl | exact .inr rfl | assumption):wpAny M A (storeName X.env x u) Q E s:=
 TL I hN hi hx r (λs' I' _=>h s' I') hf
theorem Inv.yp(I:Inv X pins σ H s)(ho:s'.os=s.os)(u:Un (jQ X.stack) ch H H' s.heap s'.heap)(bg:g7 X.prog X.w H' s'.heap)(hg:AllBare s'.gens)
  (ze:∀b∈ch,(b∈X.ex\/X.c6.heap.objs.size<=b)/\b≠X.env.locals/\(∀x c,X.env.cells.lookup x=some c->c≠b)/\∀p∈X.pn++pins,p.1≠b):Inv X pins σ H' s':=by
 obtain ⟨h',g',d',t',o'⟩:=s'
 have e:o'=s.os:=ho
 subst e
 exact I.call (g':=g') (t':=t') (d':=d') u bg hg ze
end
abbrev XK:=Value->Option Addr->Hp->Prop
abbrev St:=List (Option V)
abbrev VK:=V->Hp->Prop
abbrev TE:=St->Hp->VK->Prop
abbrev TT:=St->Hp->(Bool->Hp->Prop)->Prop
abbrev TA:=St->Hp->(List V->Hp->Prop)->Prop
structure Ends where
 nx:St->Hp->Prop
 rt:VK
 bk:St->Hp->Prop:=λ_ _=>False
 ct:St->Hp->Prop:=λ_ _=>False
abbrev TS:=Ends->St->Hp->Prop
def EP(X:Cx)(pins:List (Addr×Obj))(σ:St)(Q:VK)(u:Value)(s':Shared):Prop:=∃v H',Inv X pins σ H' s'/\RelV v u/\Q v H'
def TP(X:Cx)(pins:List (Addr×Obj))(σ:St)(Q:Bool->Hp->Prop)(b:Bool)(s':Shared):Prop:=∃H',Inv X pins σ H' s'/\Q b H'
def AP(X:Cx)(pins:List (Addr×Obj))(σ:St)(Q:List V->Hp->Prop)(us:List Value)(s':Shared):Prop:=∃vs H',Inv X pins σ H' s'/\aL vs us/\Q vs H'
def SP(X:Cx)(pins:List (Addr×Obj))(D:Ends)(f:Flow)(s':Shared):Prop:=
 match f with
 | .next=>∃aG H',Inv X pins aG H' s'/\D.nx aG H'
 | .brk=>∃aG H',Inv X pins aG H' s'/\D.bk aG H'
 | .cont=>∃aG H',Inv X pins aG H' s'/\D.ct aG H'
 | .ret u=>∃v aG H',Inv X pins aG H' s'/\RelV v u/\D.rt v H'
def PE(X:Cx)(e:Expr)(t:TE):Prop:=
 ∀(pins:List (Addr×Obj)) (s:Shared) (σ:St) (H:Hp) (Q:VK),Inv X pins σ H s->t σ H Q->wpAny (model X.prog X.w) X.A (eval e X.env) (EP X pins σ Q) X.xe s
def PT(X:Cx)(e:Expr)(t:TT):Prop:=
 ∀(pins:List (Addr×Obj)) (s:Shared) (σ:St) (H:Hp) (Q:Bool->Hp->Prop),Inv X pins σ H s->t σ H Q->wpAny (model X.prog X.w) X.A (isTrue e X.env (eval e X.env)) (TP X pins σ Q) X.xe s
def PW(X:Cx)(e:Expr)(t:TT):Prop:=
 ∀(whole:Sem Value) (pins:List (Addr×Obj)) (s:Shared) (σ:St) (H:Hp) (Q:Bool->Hp->Prop),Inv X pins σ H s->t σ H Q->wpAny (model X.prog X.w) X.A (isTrue e X.env whole) (TP X pins σ Q) X.xe s
theorem PW.pt(h:PW X e t):PT X e t:=h _
def PA(X:Cx)(es:List Expr)(t:TA):Prop:=
 ∀(pos:Pos) (pins:List (Addr×Obj)) (s:Shared) (σ:St) (H:Hp) (Q:List V->Hp->Prop),Inv X pins σ H s->t σ H Q->wpAny (model X.prog X.w) X.A (spliced (backTo pos (starEach es X.env))) (AP X pins σ Q) X.xe s
def PS(X:Cx)(st:Stmt)(t:TS):Prop:=
 ∀(pins:List (Addr×Obj)) (s:Shared) (σ:St) (H:Hp) (D:Ends),Inv X pins σ H s->t D σ H->wpAny (model X.prog X.w) X.A (exec st X.env) (SP X pins D) X.xe s
def oz(X:Cx)(st:List Stmt)(t:TS):Prop:=
 ∀(pins:List (Addr×Obj)) (s:Shared) (σ:St) (H:Hp) (D:Ends),Inv X pins σ H s->t D σ H->wpAny (model X.prog X.w) X.A (execs st X.env) (SP X pins D) X.xe s
theorem bJ{α:Type}{t:Sem α}{Q Q':α->Shared->Prop}{M:Model}{A:Around}{E:Value->Shared->Prop}{s:Shared}(h:wpAny M A t Q E s)(hQ:∀a s,Q a s->Q' a s):wpAny M A t Q' E s:=jy h hQ λ_ _ x=>x
end L2
namespace L2
open PySem PySem.Spec PyProof.Rows
section
variable {X:Cx}
theorem bin{a b:Expr}{ta tb:TE}(ha:PE X a ta)(hb:PE X b tb){pins:List (Addr×Obj)}{s:Shared}{σ:St}{H:Hp}{R:V->V->Hp->Prop}(I:Inv X pins σ H s)(h:ta σ H λx H1=>tb σ H1 λy H2=>R x y H2)
  {α:Type}{Q:α->Shared->Prop}{f:Value->Value->Sem α}
  (hf:∀v u s2 x y H2,Inv X pins σ H2 s2->RelV x v->RelV y u->R x y H2->wpAny (model X.prog X.w) X.A (f v u) Q X.xe s2):
  wpAny (model X.prog X.w) X.A (eval a X.env) (λv aR=>wpAny (model X.prog X.w) X.A (eval b X.env) (λu eB=>wpAny (model X.prog X.w) X.A (f v u) Q X.xe eB) X.xe aR) X.xe s:=by
 refine bJ (ha pins s σ H _ I h) λv s1 ⟨x,H1,I1,r1,q1⟩=>?_
 refine bJ (hb pins s1 σ H1 _ I1 q1) λu s2 ⟨y,H2,I2,r2,q2⟩=>?_
 exact hf v u s2 x y H2 I2 r1 r2 q2
def NT(i:Nat):TE:=λσ H Q=>∃v,σ[i]?=some (some v)/\Q v H
def tC(v:V):TE:=λ_ H Q=>Q v H
theorem oK{i:Nat}{x:Str}{pos:Pos}(hN:X.N[i]?=some x)(hv:gm X.env.scope x)(hd:(x==("__debug__":Str))=false:=by decide)(bM:(x==("__classdict__":Str))=false:=by decide):PE X (.Name x pos) (NT i):=by
 intro pins s σ H Q I h
 obtain ⟨v,e,h⟩:=h
 obtain ⟨m,hn,hl⟩:=I.loc
 obtain ⟨u,r,l⟩:=hl i x v hN e hv
 have fin:EP X pins σ Q u s:=⟨v,H,I,r,h⟩
 rcases l with ⟨hk,hm⟩ | ⟨hk,c,hc,mh⟩
 .exact wpAny_Name (wpAny_loadName_local I.ok.kind hk hn hm fin) hd
 .rcases hk with hk | hk
  .exact wpAny_Name (wpAny_loadName_cell I.ok.kind hk hc mh fin) hd
  .exact wpAny_Name (wpAny_loadName_free I.ok.kind hk hc mh fin bM) hd
theorem b7L{i j pos}:PE X (.Constant (.int i) j pos) (tC (.int i)):=λ_ _ _ H _ I h=>wpAny_Constant_int ⟨.int i,H,I.tok _,⟨_,rfl⟩,h⟩
theorem Gz{b j pos}:PE X (.Constant (.bool b) j pos) (tC (.bl b)):=λ_ _ _ H _ I h=>Constant_bool ⟨.bl b,H,I,rfl,h⟩
theorem b7I{x j pos}:PE X (.Constant (.str x) j pos) (tC (.str x)):=λ_ _ _ H _ I h=>Calls.Constant_str ⟨.str x,H,I.tok _,⟨_,rfl⟩,h⟩
def Gl(X:Cx)(x:Str):Prop:=X.env.kindOf x=some .globalImplicit
theorem zH{E:Value->Shared->Prop}{pins:List (Addr×Obj)}{s:Shared}{σ:St}{H:Hp}{x:Str}{u:Value}{pos:Pos}{Q:Value->Shared->Prop}(I:Inv X pins σ H s)(hg:Gl X x)(hm:X.mg x=some u)(h:Q u s)
  (hd:(x==("__debug__":Str))=false:=by decide):wpAny (model X.prog X.w) X.A (eval (.Name x pos) X.env) Q E s:=
 WX I.ok.kind hg (Calls.loadGlobal_global (by rw [I.ok.glob];exact I.mod.glob.keeps I.bk) hm h) hd
theorem EW{E:Value->Shared->Prop}{pins:List (Addr×Obj)}{s:Shared}{σ:St}{H:Hp}{x:Str}{u:Value}{pos:Pos}{Q:Value->Shared->Prop}(I:Inv X pins σ H s)(hg:Gl X x)(hm:X.mg x=none)(hv:bootBuiltins x=some u)(h:Q u s)
  (hn:x ≠ "__name__":=by decide)(hd:(x==("__debug__":Str))=false:=by decide):wpAny (model X.prog X.w) X.A (eval (.Name x pos) X.env) Q E s:=by
 obtain ⟨mb,h1,h2⟩:=I.mod.blt
 exact WX I.ok.kind hg (Calls.loadGlobal_builtin (by rw [I.ok.glob];exact I.mod.glob.keeps I.bk) hm (by rw [I.ok.blt];exact h1.keeps I.bk) ((h2 x hn).trans hv) h) hd
theorem SI(hg:Gl X x)(hm:X.mg x=some u)(r:RelV v u)(hd:(x==("__debug__":Str))=false:=by decide):PE X (.Name x pos) (tC v):=
 λ_ _ _ H _ I h=>zH I hg hm ⟨v,H,I,r,h⟩ hd
theorem b5j{x:Str}{v:V}{u:Value}{pos:Pos}(hg:Gl X x)(hm:X.mg x=none)(hv:bootBuiltins x=some u)(r:RelV v u)(hn:x ≠ "__name__":=by decide)(hd:(x==("__debug__":Str))=false:=by decide):PE X (.Name x pos) (tC v):=
 λ_ _ _ H _ I h=>EW I hg hm hv ⟨v,H,I,r,h⟩ hn hd
variable {a b:Expr}{ta tb:TE}{pos:Pos}
def PC(X:Cx)(op:CmpOp)(a b:Expr)(t:TE):Prop:=
 ∀(pins:List (Addr×Obj)) (s:Shared) (σ:St) (H:Hp) (Q:VK),Inv X pins σ H s->t σ H Q ->
  wpAny (model X.prog X.w) X.A (eval a X.env) (λv aR=>wpAny (model X.prog X.w) X.A (eval b X.env) (λu eB=>wpAny (model X.prog X.w) X.A (compareOp op v u) (EP X pins σ Q) X.xe eB) X.xe aR) X.xe s
def tB(t:TE):TT:=λσ H Q=>t σ H λx H1=>∃c,x=.bl c/\Q c H1
theorem Yq(h:PC X op a b t)(h1:behindInMarks op b=false:=by first | exact GO _ (by decide) (by decide) | rfl):PT X (.Compare a [op] [b] pos) (tB t):=by
 intro pins s σ H Q I hw
 refine wpAny_isTrue_Compare1 (bJ (h pins s σ H _ I hw) λv s1 h1=>bJ h1 λu s2 h2=>bJ h2 λc s3 ⟨x,H1,I1,r1,q1⟩=>?_) h1
 obtain ⟨d,rfl,q⟩:=q1
 cases r1
 exact Ef ⟨H1,I1,q⟩
variable {tA Kt:TT}{rest:List Expr}
def N3(t u:TT):TT:=λσ H Q=>t σ H λc H1=>if c=true then u σ H1 Q else Q false H1
def tOr(t u:TT):TT:=λσ H Q=>t σ H λc H1=>if c=true then Q true H1 else u σ H1 Q
def NX(t:TT):TT:=λσ H Q=>t σ H λc H1=>Q (!c) H1
theorem b47(ha:PT X a tA):PW X (.BoolOp .And [a] pos) tA:=by
 intro wh pins s σ H Q I h
 refine isTrue_and (bJ (ha pins s σ H Q I h) λc s1 e=>?_)
 cases c with
 | true=>exact isTrue_and_nil e
 | false=>exact e
theorem b7y(ha:PT X a tA):PW X (.BoolOp .Or [a] pos) tA:=by
 intro wh pins s σ H Q I h
 refine isTrue_or (bJ (ha pins s σ H Q I h) λc s1 e=>?_)
 cases c with
 | false=>exact isTrue_or_nil e
 | true=>exact e
theorem b7z(ha:PT X a tA)(hb:PW X (.BoolOp .And (b::rest) pos) Kt):PW X (.BoolOp .And (a::b::rest) pos) (N3 tA Kt):=by
 intro wh pins s σ H Q I h
 refine isTrue_and (bJ (ha pins s σ H _ I h) λc s1 ⟨H1,I1,q1⟩=>?_)
 cases c with
 | true=>exact hb wh pins s1 σ H1 Q I1 q1
 | false=>exact ⟨H1,I1,q1⟩
theorem pw_or(ha:PT X a tA)(hb:PW X (.BoolOp .Or (b::rest) pos) Kt):PW X (.BoolOp .Or (a::b::rest) pos) (tOr tA Kt):=by
 intro wh pins s σ H Q I h
 refine isTrue_or (bJ (ha pins s σ H _ I h) λc s1 ⟨H1,I1,q1⟩=>?_)
 cases c with
 | true=>exact ⟨H1,I1,q1⟩
 | false=>exact hb wh pins s1 σ H1 Q I1 q1
theorem b7B(ha:PT X a tA):PT X (.UnaryOp .Not a pos) (NX tA):=by
 intro pins s σ H Q I h
 exact isTrue_not (ha pins s σ H (λc H1=>Q (!c) H1) I h)
end
end L2
namespace L2
open PySem PySem.Spec PyProof.Rows
def ic(K:aK)(H:Hp)(a:Addr)(xs:List V):Prop:=
 Rd H a (.lst xs) \/
  ∃(o:Obj) (aw:Array Value) (n:Nat),K.lookup a=some o/\o.cls=.type "list" /\ o.dict=none/\o.data=.seq aw n/\aw.size<=sizeLine/\aL xs aw.toList
def jZ(K:aK)(H:Hp)(a:Addr)(xs:List V):Prop:=
 Rd H a (.tup xs) \/
  ∃(o:Obj) (aw:Array Value) (n:Nat),K.lookup a=some o/\o.cls=.type "tuple" /\ o.data=.seq aw n/\aw.size<=sizeLine/\aL xs aw.toList
def Si:Value->Option V
 | .none=>some .cj
 | .bool b=>some (.bl b)
 | .int i _=>some (.int i)
 | .str x _=>some (.str x)
 | .bytes b _=>some (.EB b)
 | .float b _=>some (.K0 b)
 | .ref a=>some (.ref a)
 | .type n=>some (.ty n)
 | _=>none
theorem RelV.abs(r:RelV x u):Si u=some x:=by
 cases x with
 | cj=>cases r;rfl
 | bl _=>cases r;rfl
 | int _=>obtain ⟨t,rfl⟩:=r;rfl
 | str _=>obtain ⟨t,rfl⟩:=r;rfl
 | EB _=>obtain ⟨t,rfl⟩:=r;rfl
 | K0 _=>obtain ⟨t,rfl⟩:=r;rfl
 | ref _=>cases r;rfl
 | ty _=>cases r;rfl
theorem RelV.inj(r:RelV x u)(q:RelV y u):x=y:=gp (r.abs.symm.trans q.abs)
theorem aL.inj:∀{xs ys:List V} {us:List Value},aL xs us->aL ys us->xs=ys
 | _,_,_,.nil,.nil=>rfl
 | _,_,_,.cons r t,.cons r' t'=>by rw [r.inj r',aL.inj t t']
section
variable {X:Cx}{pins:List (Addr×Obj)}{σ:St}{H:Hp}{s:Shared}{a:Addr}{xs ys:List V}
theorem ic.of{K:aK}(h:H a=some (.lst xs)):ic K H a xs:=.inl (.inl h)
theorem Inv.list(I:Inv X pins σ H s)(h:ic X.K H a xs):∃aw:List Value,aL xs aw/\PlainL s.heap a aw.toArray/\xs.length<=sizeLine:=by
 rcases h with h | ⟨o,aw,n,hk,hc,hd,hs,hz,r⟩
 .obtain ⟨z,aw,n,r,e⟩:=h.ok I.bg
  exact ⟨aw,r,⟨_,n,e,rfl,rfl,rfl⟩,z⟩
 .refine ⟨aw.toList,r,⟨o,n,I.kA a o hk,hc,hd,by simpa using hs⟩,?_⟩
  have e:=r.length
  simp only [tf] at e
  omega
theorem Inv.tuple(I:Inv X pins σ H s)(h:jZ X.K H a xs):∃aw:List Value,aL xs aw/\IsTup s.heap a aw.toArray/\xs.length<=sizeLine:=by
 rcases h with h | ⟨o,aw,n,hk,hc,hs,hz,r⟩
 .obtain ⟨z,aw,r,p⟩:=h.ok I.bg
  exact ⟨aw,r,p,z⟩
 .refine ⟨aw.toList,r,⟨o,I.kA a o hk,hc,n,by simpa using hs⟩,?_⟩
  have e:=r.length
  simp only [tf] at e
  omega
theorem Inv.o5(I:Inv X pins σ H s)(h:ic X.K H a xs)(h':ic X.K H a ys):xs=ys:=by
 obtain ⟨aw,r,⟨o,n,e,_,_,d⟩,_⟩:=I.list h
 obtain ⟨its',r',⟨o',n',e',_,_,d'⟩,_⟩:=I.list h'
 rw [e] at e';cases e'
 rw [d] at d'
 injection d' with d1 _
 have:aw=its':=by simpa using congrArg Array.toList d1
 subst this
 exact r.inj r'
theorem Inv.m8(I:Inv X pins σ H s)(h:jZ X.K H a xs)(h':jZ X.K H a ys):xs=ys:=by
 obtain ⟨aw,r,⟨o,e,_,n,d⟩,_⟩:=I.tuple h
 obtain ⟨its',r',⟨o',e',_,n',d'⟩,_⟩:=I.tuple h'
 rw [e] at e';cases e'
 rw [d] at d'
 injection d' with d1 _
 have:aw=its':=by simpa using congrArg Array.toList d1
 subst this
 exact r.inj r'
end
abbrev Cx.gW(X:Cx)(E:Value->Shared->Prop):Cx:={ X with xe:=E }
abbrev Cx.b8(X:Cx):Cx:=X.gW λ_ _=>False
theorem Cx.Ok.gW{X:Cx}(ok:X.Ok)(E:Value->Shared->Prop):(X.gW E).Ok:=
 ⟨ok.mod,ok.kind,ok.glob,ok.blt,ok.above,ok.inj,ok.has,ok.CJ,ok.hd,ok.frames,ok.DI,ok.K1,ok.bs,ok.yB,ok.qD,ok.ui,ok.jO,ok.AD⟩
theorem Cx.Ok.cG{X:Cx}(ok:(X.gW E).Ok):X.Ok:=
 ⟨ok.mod,ok.kind,ok.glob,ok.blt,ok.above,ok.inj,ok.has,ok.CJ,ok.hd,ok.frames,ok.DI,ok.K1,ok.bs,ok.yB,ok.qD,ok.ui,ok.jO,ok.AD⟩
section
variable {X:Cx}{pins:List (Addr×Obj)}{σ:St}{H:Hp}{s:Shared}{E:Value->Shared->Prop}
theorem Inv.gW(I:Inv X pins σ H s)(E:Value->Shared->Prop):Inv (X.gW E) pins σ H s:=⟨I.ok.gW E,I.os,I.bare,I.base,I.loc,I.cell,I.free,I.dz,I.pin,I.bg,I.len⟩
theorem Inv.cG(I:Inv (X.gW E) pins σ H s):Inv X pins σ H s:=⟨I.ok.cG,I.os,I.bare,I.base,I.loc,I.cell,I.free,I.dz,I.pin,I.bg,I.len⟩
theorem SP.cG(h:SP (X.gW E) pins D f s'):SP X pins D f s':=by
 cases f with
 | next=>obtain ⟨aG,H',I,q⟩:=h;exact ⟨aG,H',I.cG,q⟩
 | brk=>obtain ⟨aG,H',I,q⟩:=h;exact ⟨aG,H',I.cG,q⟩
 | cont=>obtain ⟨aG,H',I,q⟩:=h;exact ⟨aG,H',I.cG,q⟩
 | ret u=>obtain ⟨v,aG,H',I,r,q⟩:=h;exact ⟨v,aG,H',I.cG,r,q⟩
theorem PE.b8(h:PE X.b8 e t):PE X e t:=λpins s σ H Q I hw =>
 jy (h pins s σ H Q (I.gW _) hw) (λ_ _ ⟨v,H',I',r,q⟩=>⟨v,H',I'.cG,r,q⟩) λ_ _ z=>eA z
theorem PT.b8(h:PT X.b8 e t):PT X e t:=λpins s σ H Q I hw =>
 jy (h pins s σ H Q (I.gW _) hw) (λ_ _ ⟨H',I',q⟩=>⟨H',I'.cG,q⟩) λ_ _ z=>eA z
theorem oz.b8{st:List Stmt}{t:TS}(h:oz X.b8 st t):oz X st t:=λpins s σ H D I hw =>
 jy (h pins s σ H D (I.gW _) hw) (λ_ _ q=>q.cG) λ_ _ z=>eA z
end
section
variable {X:Cx}{st:Stmt}{rest:List Stmt}{t u:TS}{e:Expr}{te:TE}{pos:Pos}
def F1:TS:=λD σ H=>D.nx σ H
def NV(t u:TS):TS:=λD σ H=>t { D with nx:=u D } σ H
theorem SJ:oz X [] F1:=λ_ _ σ H _ I h=>IC ⟨σ,H,I,h⟩
theorem yJ(h1:PS X st t)(h2:oz X rest u):oz X (st::rest) (NV t u):=by
 intro pins s σ H D I h
 refine wpAny_execs_cons (bJ (h1 pins s σ H { D with nx:=u D } I h) λf s1 q=>?_)
 cases f with
 | next =>
  obtain ⟨aG,H',I',q⟩:=q
  exact h2 pins s1 aG H' D I' q
 | ret v=>exact q
 | brk=>exact q
 | cont=>exact q
theorem SK(h1:PS X st t):oz X [st] t:=by
 intro pins s σ H D I h
 refine wpAny_execs_cons (bJ (h1 pins s σ H D I h) λf s1 q=>?_)
 cases f with
 | next=>exact IC q
 | ret v=>exact q
 | brk=>exact q
 | cont=>exact q
theorem Inv.quiet{pins:List (Addr×Obj)}{σ:St}{H:Hp}{s:Shared}(I:Inv X pins σ H s):interactive X.env=false:=by simp [interactive,I.ok.kind]
def F3(te:TE):TS:=λD σ H=>te σ H λ_ H1=>D.nx σ H1
theorem zI(he:PE X e te)(hs:swapsWith e none pos.line X.env=pure false:=by rfl):PS X (.Expr e pos) (F3 te):=by
 intro pins s σ H D I h
 exact wpAny_Expr_any (bJ (he pins s σ H _ I h) λv s1 ⟨x,H1,I1,r1,q1⟩=>⟨σ,H1,I1,q1⟩) I.quiet hs
def NW(te:TE):TS:=λD σ H=>te σ H D.rt
theorem Yp(he:PE X e te):PS X (.Return (some e) pos) (NW te):=by
 intro pins s σ H D I h
 exact wpAny_Return_some (bJ (he pins s σ H _ I h) λv s1 ⟨x,H1,I1,r1,q1⟩=>⟨x,σ,H1,I1,r1,q1⟩)
def NZ(c:TT)(t u:TS):TS:=λD σ H=>c σ H λb H1=>if b=true then t D σ H1 else u D σ H1
theorem XC(hc:PT X c tc)(ha:oz X a t)(hb:oz X b u):PS X (.If c a b pos) (NZ tc t u):=by
 intro pins s σ H D I h
 refine wpAny_If (bJ (hc pins s σ H _ I h) λd s1 ⟨H1,I1,q1⟩=>?_)
 cases d with
 | true=>exact ha pins s1 σ H1 D I1 q1
 | false=>exact hb pins s1 σ H1 D I1 q1
end
abbrev TG:=V->St->Hp->(St->Hp->Prop)->Prop
abbrev BR:=List V->St->Hp->(St->Hp->Prop)->Prop
def PG(X:Cx)(target:Expr)(t:TG):Prop:=
 ∀(pins:List (Addr×Obj)) (s:Shared) (σ:St) (H:Hp) (v:V) (u:Value) (Q:St->Hp->Prop),Inv X pins σ H s->RelV v u->t v σ H Q ->
  wpAny (model X.prog X.w) X.A (assign target X.env u) (λ_ s'=>∃aG H',Inv X pins aG H' s'/\Q aG H') X.xe s
def J4(X:Cx)(ts:List Expr)(t:BR):Prop:=
 ∀(pins:List (Addr×Obj)) (s:Shared) (σ:St) (H:Hp) (vs:List V) (us:List Value) (Q:St->Hp->Prop),Inv X pins σ H s->aL vs us->t vs σ H Q ->
  wpAny (model X.prog X.w) X.A (assignInOrder ((assignEach ts X.env).map (·.2)) us) (λ_ s'=>∃aG H',Inv X pins aG H' s'/\Q aG H') X.xe s
abbrev Dy:=V->V->V->Hp->(Hp->Prop)->Prop
def J2(X:Cx)(t:Dy):Prop:=
 ∀(pins:List (Addr×Obj)) (s:Shared) (σ:St) (H:Hp) (o i v:V) (ov iv u:Value) (Q:Hp->Prop),Inv X pins σ H s->RelV o ov->RelV i iv->RelV v u->t o i v H Q ->
  wpAny (model X.prog X.w) X.A (setItem ov iv u) (λ_ s'=>∃H',Inv X pins σ H' s'/\Q H') X.xe s
section
variable {X:Cx}{pos:Pos}
def W5(i:Nat):TG:=λv σ H Q=>Q (σ.set i (some v)) H
theorem b5f(hN:X.N.Nodup)(hi:X.N[i]?=some x)(hx:Loc X.env.scope x)(hf:X.fn x=true\/X.env.scope.names.lookup x=some .local:=by first | exact .inl rfl | exact .inr rfl | assumption):PG X (.Name x pos) (W5 i):=by
 intro pins s σ H v u Q I r h
 exact Qz (SU I hN hi hx r (λs' I'=>⟨_,H,I',h⟩) hf)
def PK:BR:=λvs σ H Q=>vs=[]/\Q σ H
def HM(t:TG)(u:BR):BR:=λvs σ H Q=>∃v r,vs=v::r/\t v σ H λaG H'=>u r aG H' Q
theorem b5e:J4 X [] PK:=by
 intro pins s σ H vs us Q I r h
 obtain ⟨e,h⟩:=h
 subst e
 cases r
 exact assignInOrder_nil ⟨σ,H,I,h⟩
theorem b2F{e:Expr}{es:List Expr}{t:TG}{u:BR}(h1:PG X e t)(h2:J4 X es u)
  (hs:(assignEach (e::es) X.env).map (·.2)=assign e X.env::(assignEach es X.env).map (·.2):=by rfl):J4 X (e::es) (HM t u):=by
 intro pins s σ H vs us Q I r h
 obtain ⟨v,vr,e1,h⟩:=h
 subst e1
 cases r with
 | cons r rr =>
  rw [hs]
  refine assignInOrder_cons (bJ (h1 pins s σ H _ _ _ I r h) λ_ s1 ⟨kF,H1,I1,q1⟩=>?_)
  exact h2 pins s1 kF H1 _ _ Q I1 rr q1
def PH(K:aK)(n:Nat)(t:BR):TG:=λv σ H Q=>∃a xs,v=.ref a/\jZ K H a xs/\xs.length=n/\t xs σ H Q
theorem b7G{es:List Expr}{k:Nat}{t:BR}{n:Nat}(hc:X.calm=true)(h:J4 X es t)
  (hn:(assignEach es X.env).length=n:=by rfl)(qI:(assignEach es X.env).findIdx? (·.1)=none:=by rfl):PG X (.Tuple es k pos) (PH X.K n t):=by
 intro pins s σ H v u Q I r hw
 obtain ⟨a,xs,e1,hq,hl,hw⟩:=hw
 subst e1
 cases r
 obtain ⟨aw,rv,ht,hz⟩:=I.tuple hq
 refine assign_Tuple_tuple (I.ok.hd hc) ht (by simp [hn,<-hl,rv.length]) qI λh' hx=>?_
 have I1:Inv X pins σ H { s with heap:=h' }:=I.kept (t':=s.toks) λb o e=>hx b o (fg (dU e)) e
 exact h pins _ σ H xs _ Q I1 (by simpa using rv) hw
def nX(to ti:TE)(t:Dy):TG:=λv σ H Q=>to σ H λo H1=>ti σ H1 λi H2=>t o i v H2 λH3=>Q σ H3
theorem b7H{o i:Expr}{to ti:TE}{t:Dy}(ho:PE X o to)(hi:PE X i ti)(hs:J2 X t)
  (ha:∀v,assign (.Subscript o i pos) X.env v=(do
   let ov <-holding [v] (eval o X.env)
   let iv <-holding [v,ov] (eval i X.env)
   standAt pos
   holding [v,ov,iv] (setItem ov iv v)
   release [v,ov,iv] []):=by intro _;rfl):PG X (.Subscript o i pos) (nX to ti t):=by
 intro pins s σ H v u Q I r h
 rw [ha]
 refine aF (q0 (bJ (ho pins s σ H _ I h) λov s1 ⟨x,H1,I1,r1,q1⟩=>?_))
 refine aF (q0 (bJ (hi pins s1 σ H1 _ I1 q1) λiv s2 ⟨y,H2,I2,r2,q2⟩=>?_))
 refine aF (Lb (aF (q0 (bJ (hs pins s2 σ H2 x y v ov iv u _ I2 r1 r2 r q2) λ_ s3 ⟨H3,I3,q3⟩=>?_))))
 exact wpAny_release ⟨σ,H3,I3,q3⟩
def F6(te:TE)(g:TG):TS:=λD σ H=>te σ H λx H1=>g x σ H1 D.nx
theorem b7D{tg e:Expr}{te:TE}{g:TG}(he:PE X e te)(hg:PG X tg g)(hs:swapsWithSole [tg] e pos.line X.env=pure false:=by rfl)(hw:swappedStores [tg] e X.env=pure none:=by rfl)
  (h1:(assignEach [tg] X.env).map (·.2)=[assign tg X.env]:=by rfl):PS X (.Assign [tg] e pos) (F6 te g):=by
 intro pins s σ H D I h
 refine wpAny_Assign_stores (bJ (he pins s σ H _ I h) λv s1 ⟨x,H1,I1,r1,q1⟩=>?_) hs hw
 rw [h1]
 exact bJ (hg pins s1 σ H1 x v _ I1 r1 q1) λ_ s2 q=>q
theorem RW(hN:X.N.Nodup)(hi:X.N[i]?=some x)(hx:Loc X.env.scope x)(he:PE X e te)(hs:swapsWith e (some (.Name x pos')) pos.line X.env=pure false:=by rfl)(hf:X.fn x=true\/X.env.scope.names.lookup x=some .local:=by first | exact .inl rfl | exact .inr rfl | assumption):
  PS X (.Assign [.Name x pos'] e pos) (F6 te (W5 i)):=by
 intro pins s σ H D I h
 refine wpAny_Assign_Name (bJ (he pins s σ H _ I h) λv s1 ⟨y,H1,I1,r1,q1⟩=>?_) hs
 exact SU I1 hN hi hx r1 (λs2 I2=>⟨_,H1,I2,q1⟩) hf
end
section
variable {X:Cx}{pos:Pos}
def b7c(c:TT)(tb:TS):TS:=λD σ H=>∃W:Nat->St->Hp->Prop,(∃m,W m σ H)/\∀m σ H,W m σ H ->
 c σ H λb H1=>if b=true then ∃N:St->Hp->Prop,(∀aG H',N aG H'->∃m',m'<m/\W m' aG H')/\tb { D with nx:=N,ct:=N,bk:=D.nx } σ H1 else D.nx σ H1
theorem b2D(hp:PassesOwn (model X.prog X.w) X.A X.env X.xe)(hc:PT X c tc)(hb:oz X body tb):PS X (.While c body [] pos) (b7c tc tb):=by
 intro pins s σ H D I h
 obtain ⟨W,⟨m0,w0⟩,turn⟩:=h
 refine wpAny_While (codeAny_whileLoop (λn s'=>∃aG H',Inv X pins aG H' s'/\W n aG H') ?_ m0 ⟨σ,H,I,w0⟩)
 rintro n s1 ⟨kF,H1,I1,w1⟩
 refine CS hp (bJ (hc pins s1 kF H1 _ I1 (turn n kF H1 w1)) λb s2 ⟨H2,I2,q2⟩=>?_)
 cases b with
 | true =>
  obtain ⟨N,hN,q2⟩:=q2
  rw [if_pos rfl]
  refine CS hp (bJ (hb pins s2 kF H2 _ I2 q2) λf s3 q3=>?_)
  cases f with
  | next =>
   obtain ⟨mG,H3,I3,n3⟩:=q3
   obtain ⟨m',hm,w3⟩:=hN mG H3 n3
   exact ⟨m',hm,mG,H3,I3,w3⟩
  | cont =>
   obtain ⟨mG,H3,I3,n3⟩:=q3
   obtain ⟨m',hm,w3⟩:=hN mG H3 n3
   exact ⟨m',hm,mG,H3,I3,w3⟩
  | brk=>exact q3
  | ret v=>exact q3
 | false =>
  rw [if_neg wj]
  exact IC ⟨kF,H2,I2,q2⟩
end
structure It where
 go:Nat->Hp->Prop
 BX:Nat->Hp->V->Hp->Prop
 stop:Nat->Hp->Prop
def lB(X:Cx)(pins:List (Addr×Obj))(H:Hp)(b:Addr):Prop:=
 H b=none/\b≠X.env.locals/\b∉X.fs/\(b∈X.ex\/X.c6.heap.objs.size<=b)/\(∀x c,X.env.cells.lookup x=some c->c≠b)/\∀p∈X.pn++pins,p.1≠b
theorem Inv.pA{X:Cx}{pins:List (Addr×Obj)}{σ:St}{H H':Hp}{s:Shared}{b:Addr}(I:Inv X pins σ H s)(hb:s.heap.objs.size<=b)(hn:H' b=none):lB X pins H' b:=by
 refine ⟨hn,D8 (n5 I.lt hb),I.OC hb,.inr (pE I.sz hb),λx c e z=>?_,λp hp z=>?_⟩
 .obtain ⟨v,q⟩:=I.cell x c e
  exact absurd (n5 q.lt (by rw [z];exact hb)) (yx _)
 .exact absurd (n5 (dU (I.pin p hp).1) (by rw [z];exact hb)) (yx _)
structure Turn(P:Program)(w:World)(K:aK)(tg:Expr)(J:It)(fp:List Addr)(it:Addr)(tn:Nat->Heap->Prop):Prop where
 mem:it∈fp
 obj:∀i h,tn i h->∀b∈fp,∃o,h.get? b=some o/\∀v,o.data≠.cell v
 keep:∀i h h',tn i h->(∀b∈fp,∀o,h.get? b=some o->h'.get? b=some o)->tn i h'
 item:∀(X:Cx),X.prog=P->X.w=w->X.K=K->X.calm=true->∀(i:Nat) (pins:List (Addr×Obj)) (s:Shared) (σ:St) (H:Hp) (E:Value->Shared->Prop),Inv X pins σ H s->(∀b∈fp,lB X pins H b)->tn i s.heap->J.go i H ->
  wpAny (model P w) X.A (pyNext (.ref it)) (λr s1=>∃u,r=some u /\
   wpAny (model P w) X.A (letOwnedTupleGo tg (.ref it) u) (λ_ s2=>∃x H',Inv X pins σ H' s2/\RelV x u/\J.BX i H x H'/\tn (i+1) s2.heap/\∀b∈fp,H' b=none) E s1) E s
 done:∀(X:Cx),X.prog=P->X.w=w->X.K=K->X.calm=true->∀(i:Nat) (pins:List (Addr×Obj)) (s:Shared) (σ:St) (H:Hp) (E:Value->Shared->Prop),Inv X pins σ H s->(∀b∈fp,lB X pins H b)->tn i s.heap->J.stop i H ->
  wpAny (model P w) X.A (pyNext (.ref it)) (λr s1=>r=none/\Inv X pins σ H s1) E s
 self:∀(A:Around) (i:Nat) (s:Shared) (Q:Value->Shared->Prop) (E:Value->Shared->Prop),tn i s.heap->Q (.ref it) s->wpAny (model P w) A (pyIter (.ref it)) Q E s
abbrev TI:=St->Hp->(It->Hp->Prop)->Prop
def Uq(X:Cx)(pins:List (Addr×Obj))(σ:St)(tg:Expr)(R:It->Hp->Prop)(KG:Value)(s2:Shared):Prop:=
 ∃(it:Addr) (fp:List Addr) (tn:Nat->Heap->Prop) (J:It) (H':Hp),KG=.ref it/\Inv X pins σ H' s2/\Turn X.prog X.w X.K tg J fp it tn/\tn 0 s2.heap/\(∀b∈fp,lB X pins H' b)/\R J H'
def PI(X:Cx)(tg iter:Expr)(wi:TI):Prop:=
 ∀(pins:List (Addr×Obj)) (s:Shared) (σ:St) (H:Hp) (R:It->Hp->Prop),Inv X pins σ H s->wi σ H R ->
  wpAny (model X.prog X.w) X.A (eval iter X.env) (λv s1=>wpAny (model X.prog X.w) X.A (pyIter v) (Uq X pins σ tg R) X.xe s1) X.xe s
theorem Df(ho:s.heap.get? it=some o)(hc:o.cls=.type n)(hd:o.data=.fields vs)
  (hn:["enumerate","zip","dict_itemiterator","dict_reverseitemiterator","odict_iterator","itertools.zip_longest","itertools.pairwise"].contains n=false)(hQ:Q () s):wpAny M A (letOwnedTupleGo tg (.ref it) u) Q E s:=by
 unfold letOwnedTupleGo
 cases tg<;>first
  | exact bG hQ
  | (cases u<;>first
    | exact bG hQ
    | (refine aF (K8 ho ?_)
       rw [hc,hd]
       show wpAny M A (if (["enumerate","zip","dict_itemiterator","dict_reverseitemiterator","odict_iterator","itertools.zip_longest","itertools.pairwise"].contains n&&vs[0]?==some (rawInt _))=true then _ else _) Q E s
       rw [if_neg (by intro h;rw [hn,QP] at h;cases h)]
       exact bG hQ))
def Ke(K:aK)(a:Addr):It:=
 ⟨λi H=>∃xs x,ic K H a xs/\xs[i]?=some x,λi H x H'=>H'=H/\∀xs,ic K H a xs->xs[i]?=some x,λi H=>∃xs,ic K H a xs/\xs.length<=i⟩
def Kc(K:aK)(a:Addr):It:=
 ⟨λi H=>∃xs x,jZ K H a xs/\xs[i]?=some x,λi H x H'=>H'=H/\∀xs,jZ K H a xs->xs[i]?=some x,λi H=>∃xs,jZ K H a xs/\xs.length<=i⟩
def tK(lo:Int)(n:Nat):It:=⟨λi _=>i<n,λi H x H'=>H'=H/\x=.int (lo+i),λi _=>n<=i⟩
theorem b0r{P:Program}{w:World}{K:aK}{tg:Expr}(a it:Addr):Turn P w K tg (Ke K a) [it] it (λi h=>h.IsListIter it a i) where
 mem:=by simp
 obj:=λi h st b hb=>by
  have e:b=it:=by simpa using hb
  subst e
  obtain ⟨o,e,c,d⟩:=st
  exact ⟨o,e,λv z=>by rw [d] at z;cases z⟩
 keep:=λi h h' st k=>st.at λo e=>k it (by simp) o e
 item:=by
  intro X hP hw hK hc i pins s σ H E I hf st hg
  subst hP hw hK
  obtain ⟨xs,x,hq,hx⟩:=hg
  obtain ⟨aw,rv,p,hz⟩:=I.list hq
  obtain ⟨u,hu,ru⟩:=rv.get hx
  obtain ⟨f0,f1,f2,f3,f4,f5⟩:=hf it (by simp)
  refine wpAny_pyNext_list_item st p.isList (x:=u) (by simpa using hu) λh' jw sb=>?_
  have I1:Inv X pins σ H { s with heap:=h' }:=I.turned (t':=s.toks) (λb o hb e=>(sb.2 b hb).trans e) f0 f1 f3 f4 f5
  obtain ⟨o,e,c,d⟩:=id jw
  exact ⟨u,rfl,Df (s:={ s with heap:=h' }) e c d (by decide) ⟨x,H,I1,ru,⟨rfl,λys hy=>by rw [I.o5 hy hq];exact hx⟩,jw,λb hb=>(hf b hb).1⟩⟩
 done:=by
  intro X hP hw hK hc i pins s σ H E I hf st hg
  subst hP hw hK
  obtain ⟨xs,hq,hx⟩:=hg
  obtain ⟨aw,rv,p,hz⟩:=I.list hq
  obtain ⟨f0,f1,f2,f3,f4,f5⟩:=hf it (by simp)
  have hl:=rv.length
  exact wpAny_pyNext_list_end (I.ok.hd hc) st p.isList (by simp;omega) λh' eb=>⟨rfl,I.turned (t':=s.toks) (λb o hb e=>eb b o hb e) f0 f1 f3 f4 f5⟩
 self:=λ_ _ _ _ _ st h=>wpAny_pyIter_listiter st h
theorem a9F{P:Program}{w:World}{K:aK}{tg:Expr}(a it:Addr):Turn P w K tg (Kc K a) [it] it (λi h=>h.IsTupleIter it a i) where
 mem:=by simp
 obj:=λi h st b hb=>by
  have e:b=it:=by simpa using hb
  subst e
  obtain ⟨o,e,c,d⟩:=st
  exact ⟨o,e,λv z=>by rw [d] at z;cases z⟩
 keep:=λi h h' st k=>st.at λo e=>k it (by simp) o e
 item:=by
  intro X hP hw hK hc i pins s σ H E I hf st hg
  subst hP hw hK
  obtain ⟨xs,x,hq,hx⟩:=hg
  obtain ⟨aw,rv,p,hz⟩:=I.tuple hq
  obtain ⟨u,hu,ru⟩:=rv.get hx
  obtain ⟨f0,f1,f2,f3,f4,f5⟩:=hf it (by simp)
  refine wpAny_pyNext_tuple_item st (show s.heap.IsTuple a aw.toArray from p) (x:=u) (by simpa using hu) λh' jw sb=>?_
  have I1:Inv X pins σ H { s with heap:=h' }:=I.turned (t':=s.toks) (λb o hb e=>(sb.2 b hb).trans e) f0 f1 f3 f4 f5
  obtain ⟨o,e,c,d⟩:=id jw
  exact ⟨u,rfl,Df (s:={ s with heap:=h' }) e c d (by decide) ⟨x,H,I1,ru,⟨rfl,λys hy=>by rw [I.m8 hy hq];exact hx⟩,jw,λb hb=>(hf b hb).1⟩⟩
 done:=by
  intro X hP hw hK hc i pins s σ H E I hf st hg
  subst hP hw hK
  obtain ⟨xs,hq,hx⟩:=hg
  obtain ⟨aw,rv,p,hz⟩:=I.tuple hq
  obtain ⟨f0,f1,f2,f3,f4,f5⟩:=hf it (by simp)
  have hl:=rv.length
  exact wpAny_pyNext_tuple_end (I.ok.hd hc) st (show s.heap.IsTuple a aw.toArray from p) (by simp;omega) λh' eb=>⟨rfl,I.turned (t':=s.toks) (λb o hb e=>eb b o hb e) f0 f1 f3 f4 f5⟩
 self:=λ_ _ _ _ _ st h=>wpAny_pyIter_tupleiter st h
theorem a5T{P:Program}{w:World}{K:aK}{tg:Expr}(it:Addr)(lo:Int)(n:Nat):Turn P w K tg (tK lo n) [it] it (λi h=>IsRangeIter h it (lo+(i:Nat)*1) ((n:Int)-(i:Nat)) 1) where
 mem:=by simp
 obj:=λi h st b hb=>by
  have e:b=it:=by simpa using hb
  subst e
  exact ⟨_,st,λv z=>by
   have z':Data.fields _=Data.cell v:=z
   cases z'⟩
 keep:=λi h h' st k=>k it (by simp) _ st
 item:=by
  intro X hP hw hK hc i pins s σ H E I hf st hg
  subst hP hw hK
  obtain ⟨f0,f1,f2,f3,f4,f5⟩:=hf it (by simp)
  have W:=Walks.range (prog:=X.prog) (w:=X.w) (I.ok.hd hc) it lo 1 n
  refine W.item i s _ _ hg st λv h' tk hv jw kk=>?_
  obtain ⟨t,rfl⟩:=hv
  have I1:Inv X pins σ H { s with heap:=h',toks:=tk }:=I.turned (λb o hb e=>kk b o (by simpa using hb) e) f0 f1 f3 f4 f5
  refine ⟨_,rfl,Df (s:={ s with heap:=h',toks:=tk }) (n:="range_iterator") jw rfl rfl (by decide) ⟨.int (lo+i),H,I1,⟨t,?_⟩,⟨rfl,rfl⟩,jw,λb hb=>(hf b hb).1⟩⟩
  rw [Int.mul_one]
 done:=by
  intro X hP hw hK hc i pins s σ H E I hf st hg
  subst hP hw hK
  obtain ⟨f0,f1,f2,f3,f4,f5⟩:=hf it (by simp)
  exact wpAny_pyNext_range_end (I.ok.hd hc) st (by have:n<=i:=hg;omega) λh' eb=>⟨rfl,I.turned (t':=s.toks) (λb o hb e=>eb b o hb e) f0 f1 f3 f4 f5⟩
 self:=λ_ _ _ _ _ st h=>wpAny_pyIter_rangeiter st h
end L2
namespace L2
open PySem PySem.Spec PyProof.Rows
section
variable {X:Cx}{tg:Expr}
theorem b2A{pins:List (Addr×Obj)}{σ:St}{H:Hp}{s:Shared}{R:It->Hp->Prop}{E:Value->Shared->Prop}{lo hi:Int}{t u v:Tok}{tk:Nat}(I:Inv X pins σ H s)(h1:-(2^62)<=lo)(h2:lo<2^62)(h3:-(2^62)<=hi)(h4:hi<2^62)
  (q:R (tK lo (hi-lo).toNat) H):wpAny (model X.prog X.w) X.A (pyIter (.ref s.heap.objs.size)) (Uq X pins σ tg R) E { s with heap:=s.heap.push { cls:=.type "range",data:=.fields #[.int lo t,.int hi u,.int 1 v] },toks:=tk }:=by
 refine wpAny_pyIter_range (Qm ..) (small_one h1 h2 h3 h4) ?_
 have I1:Inv X pins σ H { s with heap:=s.heap.push { cls:=.type "range",data:=.fields #[.int lo t,.int hi u,.int 1 v] },toks:=tk }:=I.kept λb o e=>dY _ e
 refine ⟨(s.heap.push { cls:=.type "range",data:=.fields #[.int lo t,.int hi u,.int 1 v] }).objs.size,[(s.heap.push { cls:=.type "range",data:=.fields #[.int lo t,.int hi u,.int 1 v] }).objs.size],_,_,H,rfl,
  I1.kept (t':=tk) λb o e=>dY _ e,a5T _ lo (hi-lo).toNat,?_,λb hb=>?_,q⟩
 .have e1:lo+((0:Nat):Int)*1=lo:=by simp
  have e2:(((hi-lo).toNat:Nat):Int)-((0:Nat):Int)=Ws lo hi 1:=by rw [rangeSize_one];split<;>omega
  show IsRangeIter _ _ (lo+((0:Nat):Int)*1) ((((hi-lo).toNat:Nat):Int)-((0:Nat):Int)) 1
  rw [e1,e2]
  exact jx _ rfl
 .have e:b=(s.heap.push { cls:=.type "range",data:=.fields #[.int lo t,.int hi u,.int 1 v] }).objs.size:=by simpa using hb
  subst e
  exact I1.pA (cw _) (I1.bg.fresh (cw _))
def He(ta:TA):TI:=λσ H R=>ta σ H λvs H1=>∃j:Int,vs=[.int j] /\ -(2^62)<=j/\j<2^62/\R (tK 0 j.toNat) H1
theorem b0S(hg:Gl X "range")(hm:X.mg "range" = none)(ha:PA X [a] ta)(hs:starEach [a] X.env=[(false,eval a X.env)]:=by rfl):PI X tg (.Call (.Name "range" p) [a] [] pos) (He ta):=by
 intro pins s σ H R I h
 refine Call_ (EW I hg hm boot_range (LO (bJ (ha pos pins s σ H _ I h) λus s1 ⟨vs,H1,I1,r1,q1⟩=>?_) hs rfl))
 obtain ⟨j,e,q1,q2,q⟩:=q1
 subst e
 cases r1 with
 | cons r rr =>
  cases rr
  obtain ⟨t,rfl⟩:=r
  exact call_range_1 (b2A I1 (by omega) (by omega) q1 q2 (by simpa using q))
def N0(wi:TI)(g:TG)(tb:TS):TS:=λD σ H=>wi σ H λJ H1=>∃W:Nat->Nat->St->Hp->Prop,(∃m,W 0 m σ H1)/\∀i m σ H,W i m σ H ->
 (J.stop i H/\D.nx σ H)\/(J.go i H/\∃N:St->Hp->Prop,(∀aG H',N aG H'->∃m',m'<m/\W (i+1) m' aG H')/\∀x H',J.BX i H x H'->g x σ H' λcF H2=>tb { D with nx:=N,ct:=N,bk:=D.nx } cF H2)
def AY(fp:List Addr)(h:Heap):List (Addr×Obj):=fp.filterMap λb=>(h.get? b).map λo=>(b,o)
theorem JQ(hb:b∈fp)(e:h.get? b=some o):(b,o)∈AY fp h:=Wa.mpr ⟨b,hb,by rw [e];rfl⟩
theorem Te(hp:p∈AY fp h):p.1∈fp/\h.get? p.1=some p.2:=by
 obtain ⟨b,hb,e⟩:=Wa.mp hp
 cases q:h.get? b with
 | none=>rw [q] at e;cases e
 | some o =>
  rw [q] at e
  have e':(b,o)=p:=gp e
  subst e'
  exact ⟨hb,q⟩
theorem Inv.pinned{pins:List (Addr×Obj)}{σ:St}{H:Hp}{s:Shared}{fp:List Addr}(I:Inv X pins σ H s)(hf:∀b∈fp,lB X pins H b)(ho:∀b∈fp,∃o,s.heap.get? b=some o/\∀v,o.data≠.cell v):Inv X (pins++AY fp s.heap) σ H s:=
 I.jL λp hp=>(jV.mp hp).elim (λz=>I.pin p (mD _ z)) λz=>by
  obtain ⟨hb,e⟩:=Te z
  obtain ⟨f0,f1,f2,_⟩:=hf p.1 hb
  obtain ⟨o,e',d⟩:=ho p.1 hb
  rw [e] at e';cases e'
  exact ⟨e,f0,f1,f2,d⟩
theorem Inv.lO{pins pl:List (Addr×Obj)}{σ:St}{H:Hp}{s:Shared}(I:Inv X (pins++pl) σ H s):Inv X pins σ H s:=I.jL λp hp=>I.pin p (mD _ (mC _ hp))
theorem Mf(hp:PassesOwn (model X.prog X.w) X.A X.env X.xe)(hc:X.calm=true)(hi:PI X tg iter wi)(hg:PG X tg g)(hb:oz X body tb)
  (hs:∀x,foldedSetIterable iter X.env x=pure x:=by intro _;rfl):PS X (.For tg iter body [] pos) (N0 wi g tb):=by
 intro pins s σ H D I h
 refine wpAny_For (bJ (hi pins s σ H _ I h) λv s1 h1=>bJ h1 λKG s2 h2=>?_) hs
 obtain ⟨it,fp,tn,J,H2,e,I2,T,DJ,f2,W,⟨m0,w0⟩,turn⟩:=h2
 subst e
 have B1:∀{H':Hp},(∀b∈fp,H' b=none)->∀b∈fp,lB X pins H' b:=λhn b hb=>⟨hn b hb,(f2 b hb).2⟩
 refine codeAny_forLoop_any (λn s'=>∃i aG H',Inv X pins aG H' s'/\tn i s'.heap/\(∀b∈fp,H' b=none)/\W i n aG H') ?_ m0 ⟨0,σ,H2,I2,DJ,λb hb=>(f2 b hb).1,w0⟩
 rintro n s3 ⟨i,mG,H3,I3,F',HP,w3⟩
 rcases turn i n mG H3 w3 with ⟨stop,qn⟩ | ⟨go,N,hN,step⟩
 .refine CS hp (bJ (T.done X rfl rfl rfl hc i pins s3 mG H3 X.xe I3 (B1 HP) F' stop) λr s4 ⟨hr,I4⟩=>?_)
  subst hr
  exact IC ⟨mG,H3,I4,qn⟩
 .refine CS hp (bJ (T.item X rfl rfl rfl hc i pins s3 mG H3 X.xe I3 (B1 HP) F' go) λr s4 ⟨u,hr,h4⟩=>?_)
  subst hr
  refine CS hp (bJ h4 λ_ s5 ⟨x,H5,I5,r5,y5,B2,PM⟩=>?_)
  have Uv:=I5.pinned (B1 PM) (T.obj _ _ B2)
  refine CS hp (bJ (hg _ s5 mG H5 x u _ Uv r5 (step x H5 y5)) λ_ s6 ⟨pW,H6,I6,q6⟩=>?_)
  refine CS hp (bJ (hb _ s6 pW H6 _ I6 q6) λf s7 q7=>?_)
  have again:∀{wN:St} {H7:Hp},Inv X (pins++AY fp s5.heap) wN H7 s7->N wN H7->∃m,m<n/\∃i aG H',Inv X pins aG H' s7/\tn i s7.heap/\(∀b∈fp,H' b=none)/\W i m aG H':=λ{wN H7} I7 n7=>by
   obtain ⟨m',hm,w7⟩:=hN wN H7 n7
   refine ⟨m',hm,i+1,wN,H7,I7.lO,T.keep _ _ _ B2 λb hb o e=>(I7.pin (b,o) (mD _ (mD _ (JQ hb e)))).1,λb hb=>?_,w7⟩
   obtain ⟨o,e,d⟩:=T.obj _ _ B2 b hb
   exact (I7.pin (b,o) (mD _ (mD _ (JQ hb e)))).2.1
  cases f with
  | next=>obtain ⟨wN,H7,I7,n7⟩:=q7;exact again I7 n7
  | cont=>obtain ⟨wN,H7,I7,n7⟩:=q7;exact again I7 n7
  | brk=>obtain ⟨wN,H7,I7,q7⟩:=q7;exact ⟨wN,H7,I7.lO,q7⟩
  | ret v=>obtain ⟨x7,wN,H7,I7,r7,q7⟩:=q7;exact ⟨x7,wN,H7,I7.lO,r7,q7⟩
end
theorem b25{K:aK}{a:Addr}{xs:List V}{g:TG}{tb:TS}{D:Ends}{σ:St}{H:Hp}(Pv:Nat->St->Hp->Prop)(h0:Pv 0 σ H)(hl:∀i σ H,i<=xs.length->Pv i σ H->ic K H a xs)
  (hs:∀i x σ H,xs[i]?=some x->Pv i σ H->g x σ H λcF H2=>tb { D with nx:=Pv (i+1),ct:=Pv (i+1),bk:=D.nx } cF H2)(hd:∀σ H,Pv xs.length σ H->D.nx σ H):
  ∃W:Nat->Nat->St->Hp->Prop,(∃m,W 0 m σ H)/\∀i m σ H,W i m σ H ->
   ((Ke K a).stop i H/\D.nx σ H)\/((Ke K a).go i H/\∃N:St->Hp->Prop,(∀aG H',N aG H'->∃m',m'<m/\W (i+1) m' aG H')/\∀x H',(Ke K a).BX i H x H'->g x σ H' λcF H2=>tb { D with nx:=N,ct:=N,bk:=D.nx } cF H2):=by
 refine ⟨λi m σ H=>m=xs.length-i/\i<=xs.length/\Pv i σ H,⟨xs.length,by simp,uB _,h0⟩,?_⟩
 rintro i m σ H ⟨rfl,hi,p⟩
 have q:=hl i σ H hi p
 by_cases fu:i<xs.length
 .refine .inr ⟨⟨xs,xs[i],q,by simp [fu]⟩,Pv (i+1),λaG H' p'=>⟨xs.length-(i+1),by omega,rfl,fu,p'⟩,λx H' y=>?_⟩
  obtain ⟨e,y⟩:=y
  subst e
  exact hs i x σ _ (y xs q) p
 .have e:i=xs.length:=by omega
  subst e
  exact .inl ⟨⟨xs,q,cw _⟩,hd σ H p⟩
theorem b5V{K:aK}{a:Addr}{xs:List V}{g:TG}{tb:TS}{D:Ends}{σ:St}{H:Hp}(Pv:Nat->St->Hp->Prop)(h0:Pv 0 σ H)(hl:∀i σ H,i<=xs.length->Pv i σ H->jZ K H a xs)
  (hs:∀i x σ H,xs[i]?=some x->Pv i σ H->g x σ H λcF H2=>tb { D with nx:=Pv (i+1),ct:=Pv (i+1),bk:=D.nx } cF H2)(hd:∀σ H,Pv xs.length σ H->D.nx σ H):
  ∃W:Nat->Nat->St->Hp->Prop,(∃m,W 0 m σ H)/\∀i m σ H,W i m σ H ->
   ((Kc K a).stop i H/\D.nx σ H)\/((Kc K a).go i H/\∃N:St->Hp->Prop,(∀aG H',N aG H'->∃m',m'<m/\W (i+1) m' aG H')/\∀x H',(Kc K a).BX i H x H'->g x σ H' λcF H2=>tb { D with nx:=N,ct:=N,bk:=D.nx } cF H2):=by
 refine ⟨λi m σ H=>m=xs.length-i/\i<=xs.length/\Pv i σ H,⟨xs.length,by simp,uB _,h0⟩,?_⟩
 rintro i m σ H ⟨rfl,hi,p⟩
 have q:=hl i σ H hi p
 by_cases fu:i<xs.length
 .refine .inr ⟨⟨xs,xs[i],q,by simp [fu]⟩,Pv (i+1),λaG H' p'=>⟨xs.length-(i+1),by omega,rfl,fu,p'⟩,λx H' y=>?_⟩
  obtain ⟨e,y⟩:=y
  subst e
  exact hs i x σ _ (y xs q) p
 .have e:i=xs.length:=by omega
  subst e
  exact .inl ⟨⟨xs,q,cw _⟩,hd σ H p⟩
theorem b1L{lo:Int}{n:Nat}{g:TG}{tb:TS}{D:Ends}{σ:St}{H:Hp}(Pv:Nat->St->Hp->Prop)(h0:Pv 0 σ H)
  (hs:∀i σ H,i<n->Pv i σ H->g (.int (lo+i)) σ H λcF H2=>tb { D with nx:=Pv (i+1),ct:=Pv (i+1),bk:=D.nx } cF H2)(hd:∀σ H,Pv n σ H->D.nx σ H):
  ∃W:Nat->Nat->St->Hp->Prop,(∃m,W 0 m σ H)/\∀i m σ H,W i m σ H ->
   ((tK lo n).stop i H/\D.nx σ H)\/((tK lo n).go i H/\∃N:St->Hp->Prop,(∀aG H',N aG H'->∃m',m'<m/\W (i+1) m' aG H')/\∀x H',(tK lo n).BX i H x H'->g x σ H' λcF H2=>tb { D with nx:=N,ct:=N,bk:=D.nx } cF H2):=by
 refine ⟨λi m σ H=>m=n-i/\i<=n/\Pv i σ H,⟨n,by simp,uB _,h0⟩,?_⟩
 rintro i m σ H ⟨rfl,hi,p⟩
 by_cases fu:i<n
 .refine .inr ⟨fu,Pv (i+1),λaG H' p'=>⟨n-(i+1),by omega,rfl,fu,p'⟩,λx H' y=>?_⟩
  obtain ⟨e,y⟩:=y
  subst e y
  exact hs i σ _ fu p
 .have e:i=n:=by omega
  subst e
  exact .inl ⟨cw _,hd σ H p⟩
end L2
namespace L2
open PySem PySem.Spec PyProof.Rows
abbrev R2:=V->V->Hp->VK->Prop
def lG(X:Cx)(f:Value->Value->Sem Value)(r:R2):Prop:=
 ∀(pins:List (Addr×Obj)) (s:Shared) (σ:St) (H:Hp) (x y:V) (v u:Value) (Q:VK),Inv X pins σ H s->RelV x v->RelV y u->r x y H Q ->
  wpAny (model X.prog X.w) X.A (f v u) (EP X pins σ Q) X.xe s
def wC(X:Cx)(f:Value)(r:List V->Hp->VK->Prop):Prop:=
 ∀(pins:List (Addr×Obj)) (s:Shared) (σ:St) (H:Hp) (xs:List V) (us:List Value) (Q:VK),Inv X pins σ H s->aL xs us->r xs H Q ->
  wpAny (model X.prog X.w) X.A (call f us) (EP X pins σ Q) X.xe s
def Up(X:Cx)(r:V->Hp->(Bool->Hp->Prop)->Prop):Prop:=
 ∀(pins:List (Addr×Obj)) (s:Shared) (σ:St) (H:Hp) (x:V) (v:Value) (Q:Bool->Hp->Prop),Inv X pins σ H s->RelV x v->r x H Q ->
  wpAny (model X.prog X.w) X.A (truthy v) (TP X pins σ Q) X.xe s
def FZ(r:R2)(ta tb:TE):TE:=λσ H Q=>ta σ H λx H1=>tb σ H1 λy H2=>r x y H2 Q
def rI(C:Int->Int->Prop)(g:Int->Int->V):R2:=λx y H Q=>∃i j,x=.int i/\y=.int j/\C i j/\Q (g i j) H
def B7(g:Int->Int->V):R2:=λx y H Q=>∃i j,x=.int i/\y=.int j/\Q (g i j) H
section
variable {X:Cx}{a b c:Expr}{ta tb tc:TE}{pos:Pos}
theorem Dc(ha:PE X a ta)(hb:PE X b tb){pins:List (Addr×Obj)}{s:Shared}{σ:St}{H:Hp}{R:V->V->Hp->Prop}(I:Inv X pins σ H s)
  (h:ta σ H λx H1=>tb σ H1 λy H2=>R x y H2){Q:Value->Shared->Prop}{f:Value->Value->Sem Value}
  (hf:∀v u s2 x y H2,Inv X pins σ H2 s2->RelV x v->RelV y u->R x y H2->wpAny (model X.prog X.w) X.A (f v u) Q X.xe s2):
  wpAny (model X.prog X.w) X.A (eval a X.env) (λv aR=>wpAny (model X.prog X.w) X.A (eval b X.env) (λu eB=>wpAny (model X.prog X.w) X.A (f v u) Q X.xe eB) X.xe aR) X.xe s:=by
 refine bJ (ha pins s σ H _ I h) λv s1 ⟨x,H1,I1,r1,q1⟩=>?_
 refine bJ (hb pins s1 σ H1 _ I1 q1) λu s2 ⟨y,H2,I2,r2,q2⟩=>?_
 exact hf v u s2 x y H2 I2 r1 r2 q2
theorem Gx(ho:lG X (binaryOp op) r)(ha:PE X a ta)(hb:PE X b tb):PE X (.BinOp a op b pos) (FZ r ta tb):=by
 intro pins s σ H Q I h
 exact wpAny_BinOp (Dc ha hb I h λv u s2 x y H2 I2 rx ry q=>ho pins s2 σ H2 x y v u Q I2 rx ry q)
theorem GH{f:Value->Value->Sem Value}{C:Int->Int->Prop}{g:Int->Int->Int}
  (rule:∀(i j:Int) (t u:Tok) (s:Shared) (Q:Value->Shared->Prop) (E:Value->Shared->Prop),C i j->Q (.int (g i j) s.toks) { s with toks:=s.toks+1 }->wpAny (model X.prog X.w) X.A (f (.int i t) (.int j u)) Q E s):
  lG X f (rI C λi j=>.int (g i j)):=by
 intro pins s σ H x y v u Q I rx ry h
 obtain ⟨i,j,rfl,rfl,hc,q⟩:=h
 obtain ⟨t,rfl⟩:=rx
 obtain ⟨t',rfl⟩:=ry
 exact rule i j t t' s _ _ hc ⟨.int (g i j),H,I.tok _,⟨_,rfl⟩,q⟩
theorem Ou{f:Value->Value->Sem Value}{g:Int->Int->Int}
  (rule:∀(i j:Int) (t u:Tok) (s:Shared) (Q:Value->Shared->Prop) (E:Value->Shared->Prop),Q (.int (g i j) s.toks) { s with toks:=s.toks+1 }->wpAny (model X.prog X.w) X.A (f (.int i t) (.int j u)) Q E s):
  lG X f (B7 λi j=>.int (g i j)):=by
 intro pins s σ H x y v u Q I rx ry h
 obtain ⟨i,j,rfl,rfl,q⟩:=h
 obtain ⟨t,rfl⟩:=rx
 obtain ⟨t',rfl⟩:=ry
 exact rule i j t t' s _ _ ⟨.int (g i j),H,I.tok _,⟨_,rfl⟩,q⟩
theorem B'{f:Value->Value->Sem Value}{g:Int->Int->Bool}
  (rule:∀(i j:Int) (t u:Tok) (s:Shared) (Q:Value->Shared->Prop) (E:Value->Shared->Prop),Q (.bool (g i j)) s->wpAny (model X.prog X.w) X.A (f (.int i t) (.int j u)) Q E s):
  lG X f (B7 λi j=>.bl (g i j)):=by
 intro pins s σ H x y v u Q I rx ry h
 obtain ⟨i,j,rfl,rfl,q⟩:=h
 obtain ⟨t,rfl⟩:=rx
 obtain ⟨t',rfl⟩:=ry
 exact rule i j t t' s _ _ ⟨.bl (g i j),H,I,rfl,q⟩
theorem B9:lG X (binaryOp .Add) (B7 λi j=>.int (i+j)):=Ou λ_ _ _ _ _ _ _ q=>add_int q
end
section
variable {X:Cx}{a b c:Expr}{ta tb tc:TE}{pos:Pos}
theorem b8v{pins:List (Addr×Obj)}{σ:St}{H:Hp}{s:Shared}{Q:VK}{k k':Bool}(I:Inv X pins σ H s)(q:Q (.bl k) H)(e:k=k'):EP X pins σ Q (.bool k') s:=by
 subst e
 exact ⟨.bl k,H,I,rfl,q⟩
theorem GC:lG X (compareOp .Lt) (B7 λi j=>.bl (decide (i<j))):=B' λ_ _ _ _ _ _ _ q=>lt_int q
theorem GD:lG X (compareOp .LtE) (B7 λi j=>.bl (decide (i<=j))):=B' λ_ _ _ _ _ _ _ q=>le_int q
theorem GG:lG X (compareOp .Gt) (B7 λi j=>.bl (decide (j<i))):=B' λ_ _ _ _ _ _ _ q=>gt_int q
theorem b0X:lG X (compareOp .In) (λx y H Q=>∃i j,x=.str i/\y=.str j/\Q (.bl (!(Wr j i 0 j.length 1).isEmpty)) H):=by
 intro pins s σ H x y v u Q I rx ry h
 obtain ⟨i,j,rfl,rfl,q⟩:=h
 obtain ⟨t,rfl⟩:=rx
 obtain ⟨t',rfl⟩:=ry
 exact in_str (b8v I q rfl)
theorem lG.or(h:lG X f r)(h':lG X f r'):lG X f (λx y H Q=>r x y H Q\/r' x y H Q):=by
 intro pins s σ H x y v u Q I rx ry q
 rcases q with q | q
 .exact h pins s σ H x y v u Q I rx ry q
 .exact h' pins s σ H x y v u Q I rx ry q
theorem X8(b:Expr)(h:op≠.In:=by decide)(h2:op≠.NotIn:=by decide):behindInMarks op b=false:=by
 have e1:(op==CmpOp.In)=false:=by cases op<;>first | rfl | exact absurd rfl h
 have e2:(op==CmpOp.NotIn)=false:=by cases op<;>first | rfl | exact absurd rfl h2
 cases b<;>simp [behindInMarks,e1,e2]
theorem b5i(ho:lG X (compareOp op) r)(ha:PE X a ta)(hb:PE X b tb)(hm:behindInMarks op b=false):PE X (.Compare a [op] [b] pos) (FZ r ta tb):=by
 intro pins s σ H Q I h
 exact wpAny_Compare1 (Dc ha hb I h λv u s2 x y H2 I2 rx ry q=>ho pins s2 σ H2 x y v u Q I2 rx ry q) hm
def Xq(t:TE):TT:=λσ H Q=>t σ H λx H'=>∃k,x=.bl k/\Q k H'
theorem b48(ho:lG X (compareOp op) r)(ha:PE X a ta)(hb:PE X b tb)(hm:behindInMarks op b=false):PT X (.Compare a [op] [b] pos) (Xq (FZ r ta tb)):=by
 intro pins s σ H Q I h
 refine wpAny_isTrue_Compare1 (bJ (ha pins s σ H _ I h) λv s1 ⟨x,H1,I1,r1,q1⟩=>bJ (hb pins s1 σ H1 _ I1 q1) λu s2 ⟨y,H2,I2,r2,q2⟩ =>
  bJ (ho pins s2 σ H2 x y v u _ I2 r1 r2 q2) λc s3 ⟨z,H3,I3,r3,k,e,q3⟩=>?_) hm
 subst e
 cases r3
 exact Ef ⟨H3,I3,q3⟩
def b7f(r r':R2)(ta tb tc:TE):TE:=λσ H Q=>ta σ H λx H1=>tb σ H1 λy H2=>r x y H2 λz H3=>∃k,z=.bl k /\
 (if k=true then tc σ H3 λw' H4=>r' y w' H4 Q else Q (.bl false) H3)
theorem b2C(ho:lG X (compareOp op) r)(iO:lG X (compareOp GI) r')(ha:PE X a ta)(hb:PE X b tb)(hc:PE X c tc)
  (hm:lastMarks [op,GI] [b,c]=false:=by with_unfolding_all rfl):PT X (.Compare a [op,GI] [b,c] pos) (Xq (b7f r r' ta tb tc)):=by
 intro pins s σ H Q I h
 refine isTrue_chain (bJ (ha pins s σ H _ I h) λv s1 ⟨x,H1,I1,r1,q1⟩=>test_link (bJ (hb pins s1 σ H1 _ I1 q1) λu s2 ⟨y,H2,I2,r2,q2⟩ =>
  bJ (ho pins s2 σ H2 x y v u _ I2 r1 r2 q2) λd s3 ⟨z,H3,I3,r3,k,e,q3⟩=>?_)) hm
 subst e
 cases r3
 refine Ef ?_
 cases k with
 | false =>
  obtain ⟨k',e',q'⟩:=q3
  cases e'
  exact ite_ff ⟨H3,I3,q'⟩
 | true =>
  refine ite_tt (test_last (bJ (hc pins s3 σ H3 _ I3 q3) λw' s4 ⟨z',H4,I4,r4,q4⟩=>bJ (iO pins s4 σ H4 y z' u w' _ I4 r2 r4 q4) λd' s5 ⟨z2,H5,I5,r5,k2,e2,q5⟩=>?_))
  subst e2
  cases r5
  exact Ef ⟨H5,I5,q5⟩
def Dx(K:aK)(x:V)(H:Hp)(k:Bool):Prop:=
 match x with
 | .cj=>k=false
 | .bl b=>k=b
 | .int i=>k=(i != 0)
 | .str y=>y.length<=sizeLine/\k=((y.length:Int) != 0)
 | .EB y=>y.size<=sizeLine/\k=((y.size:Int) != 0)
 | .ref p=>(∃xs,ic K H p xs/\k=!xs.isEmpty)\/(∃xs,jZ K H p xs/\k=!xs.isEmpty)\/∃aA,H p=some (.dK aA)/\k=!aA.isEmpty
 | _=>False
theorem a96{κ:Type}{aA:List (κ×V)}{vs:List (κ×Value)}(r:KV aA vs):(!vs.isEmpty)=!aA.isEmpty:=by
 cases r<;>rfl
theorem a54(r:aL xs aw):(!aw.toArray.isEmpty)=!xs.isEmpty:=by
 cases r<;>simp
theorem Di:(sizeLine:Nat)<2^63:=by rw [lr];decide
theorem b7b:Up X (λx H Q=>∃k,Dx X.K x H k/\Q k H):=by
 intro pins s σ H x v Q I rx h
 obtain ⟨k,e,q⟩:=h
 have hl:=Di
 have hs:sizeLine=16777216:=lr
 cases x with
 | cj =>
  cases rx
  have e':k=false:=e
  subst e'
  exact truthy_none ⟨H,I,q⟩
 | bl b =>
  cases rx
  have e':k=b:=e
  subst e'
  exact Ef ⟨H,I,q⟩
 | int i =>
  obtain ⟨t,rfl⟩:=rx
  have e':k=(i != 0):=e
  subst e'
  exact PySem.P.truthy_int ⟨H,I,q⟩
 | str y =>
  obtain ⟨t,rfl⟩:=rx
  obtain ⟨hy,e'⟩:y.length<=sizeLine/\k=((y.length:Int) != 0):=e
  subst e'
  exact PySem.P.truthy_str (by omega) ⟨H,I.tok _,q⟩
 | EB y =>
  obtain ⟨t,rfl⟩:=rx
  obtain ⟨hy,e'⟩:y.size<=sizeLine/\k=((y.size:Int) != 0):=e
  subst e'
  exact PySem.W.truthy_bytes (by omega) ⟨H,I.tok _,q⟩
 | ref p =>
  cases rx
  have e':(∃xs,ic X.K H p xs/\k=!xs.isEmpty)\/(∃xs,jZ X.K H p xs/\k=!xs.isEmpty)\/∃aA,H p=some (.dK aA)/\k=!aA.isEmpty:=e
  rcases e' with ⟨xs,hx,e'⟩ | ⟨xs,hx,e'⟩ | ⟨aA,hx,e'⟩
  .subst e'
   obtain ⟨aw,r,pl,hz⟩:=I.list hx
   have hlen:=r.length
   exact wpAny_truthy_list pl.isList (by simp only [gh];omega) ⟨H,I.tok _,by rw [a54 r];exact q⟩
  .subst e'
   obtain ⟨aw,r,pl,hz⟩:=I.tuple hx
   have hlen:=r.length
   exact truthy_tuple pl (by simp only [gh];omega) ⟨H,I.tok _,by rw [a54 r];exact q⟩
  .subst e'
   obtain ⟨hz,hS,vs,r,m⟩:aA.length<=sizeLine/\(p==sysModules)=false/\∃vs,KV aA vs/\s.heap.DictOf (mY X.prog X.w) p vs:=I.bg p _ hx
   have hlen:aA.length=vs.length:=Paired.length r
   exact wpAny_truthy_dict hS m (by omega) ⟨H,I.tok _,by rw [a96 r];exact q⟩
 | _=>exact (show False from e).elim
theorem Zx(ha:PE X a ta)(he:∀whole,isTrue a X.env whole=(do let v <-whole;standAt a.pos;holding [v] (truthy v))):
  PT X a (λσ H Q=>ta σ H λx H'=>∃k,Dx X.K x H' k/\Q k H'):=by
 intro pins s σ H Q I h
 exact isTrue_plain (bJ (ha pins s σ H _ I h) λv s1 ⟨x,H1,I1,r1,q1⟩=>b7b pins s1 σ H1 x v Q I1 r1 q1) (he _)
theorem qA:lG X (binaryOp .Add) (λx y H Q=>∃i j,x=.str i/\y=.str j/\i.length+j.length<=sizeLine/\Q (.str (i++j)) H):=by
 intro pins s σ H x y v u Q I rx ry h
 obtain ⟨i,j,rfl,rfl,hz,q⟩:=h
 obtain ⟨t,rfl⟩:=rx
 obtain ⟨t',rfl⟩:=ry
 exact add_str (λt' tk=>⟨.str (i++j),H,I.tok _,⟨_,rfl⟩,q⟩) hz
theorem vals1(r:aL [x] us):∃u,us=[u]/\RelV x u:=by
 cases r with
 | cons r1 r2=>cases r2;exact ⟨_,rfl,r1⟩
theorem vals2(r:aL [x,y] us):∃u w',us=[u,w']/\RelV x u/\RelV y w':=by
 cases r with
 | cons r1 r2 =>
  cases r2 with
  | cons r3 r4=>cases r4;exact ⟨_,_,rfl,r1,r3⟩
end
end L2
namespace L2
open PySem PySem.Spec PyProof.Rows
structure rJ(h:Heap)(x dx C:Addr)(mA:Str->Option Value):Prop where
 obj:h.get? x=some (BC C dx)
 ns:h.Ns1 dx mA
 ne:dx≠x
theorem b1e{h:Heap}(n:h.Ns1 dx mA):∃od,h.get? dx=some od/\∀name,Le name od=some (mA name):=by
 obtain ⟨o,es,ep,ho,hd,hk,_,hm⟩:=n
 refine ⟨o,ho,λname=>?_⟩
 have e:=hm name
 unfold nsFind findBy at e
 rw [<-Array.find?_toList] at e
 unfold Le
 rw [hd]
 dsimp only
 split
 .rename_i y q
  rw [q] at e
  exact congrArg some e
 .rename_i q
  rw [q] at e
  have a:es.toList.any (·.refKey)=false:=by
   rw [List.any_eq_false]
   intro y hy
   obtain ⟨z,t,xW⟩:=hk y (Array.mem_toList_iff.mp hy)
   simp [DictEntry.refKey,xW]
  have a':¬es.toList.any (·.refKey)=true:=by rw [a];exact wj
  rw [if_neg a']
  exact congrArg some e
theorem rJ.look(I:rJ h x dx C mA):∃od,PySem.W.InstAt h x (BC C dx) C (some od)/\∀name,Le name od=some (mA name):=
 let ⟨od,ho,hl⟩:=b1e I.ns
 ⟨od,⟨I.obj,rfl,rfl,ho⟩,hl⟩
section
variable {prog:Program}{w:World}{A:Around}{E:Value->Shared->Prop}{s:Shared}{K:aK}{x dx C f:Addr}{mA:Str->Option Value}{name:Str}{v:Value}
theorem b5U(X:K.In s.heap)(I:rJ s.heap x dx C mA)(hg:Lu K C name=true)(hh:Qy K C=true)
  (ha:j' K (.ref C) name=some none)(hv:mA name=some v)(hv':Wq v=true)(h:Q v { s with toks:=s.toks+1 }):
  wpAny (model prog w) A (getAttr (.ref x) name expr) Q E s:=by
 obtain ⟨od,J,hl⟩:=I.look
 exact PySem.W.get_value X J (Q2 hg).1 (PySem.W.findObj_own hh ha rfl (by rw [hl,hv])) hv' h
theorem b24(X:K.In s.heap)(I:rJ s.heap x dx C mA)(hg:Lu K C name=true)
  (hf:j' K (.ref C) name=some (some (.ref f)))(ht:Qd K (.ref f)=true)(hv:mA name=none)(h:Q (.ref f,[.ref x]) s):
  wpAny (model prog w) A (getMethod (.ref x) name pl) Q E s:=by
 obtain ⟨od,J,hl⟩:=I.look
 exact PySem.W.method_fn X J (Q2 hg).1 (Q2 hg).2 hf (beq_iff_eq.mp ht) (by show (Le name od).map (·.isSome)=some false;rw [hl,hv];rfl) h
theorem b40(X:K.In s.heap)(I:rJ s.heap x dx C mA)
  (hs:j' K (.ref C) "__setattr__" = some (some (.builtin "object.__setattr__")))(hp:V8 K C=true)(ht:QG K C name=some none)(hh:Qy K C=true)
  (hw:Qe mA ns)(hsz:ns.length<=sizeLine)
  (h:∀h',rJ h' x dx C (λy=>if y=name then some v else mA y)->yw dx s.heap h'->Q () { s with heap:=h',toks:=s.toks+2 }):
  wpAny (model prog w) A (setAttr (.ref x) name v) Q E s:=by
 obtain ⟨od,J,hl⟩:=I.look
 refine PySem.W.set_plain X J hs (PySem.W.osa_open (s:={ s with toks:=s.toks+1 }) (r:=none) X J hp ht λb=>?_)
 obtain ⟨cd,hc,zd⟩:=PySem.W.any_some hh
 have hx:s.heap.get? x=some ⟨.ref C,some dx,.plain,#[]⟩:=I.obj
 refine aF (bG (aF (aF (wpAny_loadPart hx (aF (PySem.W.Looks.here (s:={ s with toks:=s.toks+1 }) (PySem.W.looks_clsIn X hc) ?_))))))
 rw [zd]
 refine bG (a:=some dx) (aF (bG (aF ?_)))
 refine wpAny_nsSet1 (s:={ s with toks:=s.toks+1 }) I.ns λh' KO ll=>?_
 obtain ⟨oD,esD,epD,hoD,hdD,hcD⟩:=KO.count (PySem.Within.cons name v hw)
 refine aF (wpAny_lookBehind hoD (by rw [hdD];exact pastItsLine_dict (pE hcD (by rw [gq];omega))) ?_)
 exact bG (h _ ⟨(ll.2 _ (lx I.ne)).trans I.obj,KO,I.ne⟩ ll)
theorem Zm(X:K.In s.heap)(hm:Wn K C=true)
  (hi:j' K (.ref C) "__init__" = some (some (.ref f)))(hf:PySem.W.typeIn K (.ref f)=some (.type "function"))
  (h:codeAny (model prog w) (A.under (.builtin "type.__call__" ⟨.ref C::vs,kw⟩)) (.call (.ref f) ⟨.ref (s.heap.objs.size+1)::vs,kw⟩) (PySem.W.InitBack (s.heap.objs.size+1) R)
   { s with heap:=(s.heap.push AK).push (BC C s.heap.objs.size) }):
  codeAny (model prog w) A (.call (.ref C) ⟨vs,kw⟩) R s:=by
 obtain ⟨hh,g,d,t,os⟩:=s
 exact PySem.W.make_core (PySem.W.makes_of X hm) (Ld X hi) (λself=>PySem.W.bind_fn X self hf) (.inl rfl) h
end
def gX(f:Str)(v:V):List (Str×V)->List (Str×V)
 | []=>[(f,v)]
 | (g,x)::r=>if g=f then (g,v)::r else (g,x)::gX f v r
theorem Z4(f g:Str)(v:V):∀fs:List (Str×V),(gX f v fs).lookup g=if g=f then some v else fs.lookup g
 | []=>by
  show yq g [(f,v)]=_
  by_cases h:g=f
  .have hb:(g==f)=true:=beq_iff_eq.mpr h
   simp only [yq,hb,if_pos h]
  .have hb:(g==f)=false:=beq_eq_false_iff_ne.mpr h
   simp only [yq,hb,if_neg h]
 | (k,x)::r=>by
  have ih:=Z4 f g v r
  rw [show gX f v ((k,x)::r)=(if k=f then (k,v)::r else (k,x)::gX f v r) from rfl]
  by_cases hk:k=f
  .rw [if_pos hk]
   by_cases h:g=k
   .have hb:(g==k)=true:=beq_iff_eq.mpr h
    simp only [yq,hb,if_pos (h.trans hk)]
   .have hb:(g==k)=false:=beq_eq_false_iff_ne.mpr h
    simp only [yq,hb,if_neg (λe:g=f=>h (e.trans hk.symm))]
  .rw [if_neg hk]
   by_cases h:g=k
   .have hb:(g==k)=true:=beq_iff_eq.mpr h
    simp only [yq,hb,if_neg (λe:g=f=>hk (h.symm.trans e))]
   .have hb:(g==k)=false:=beq_eq_false_iff_ne.mpr h
    simp only [yq,hb]
    exact ih
theorem Tc(f:Str)(v:V):∀fs:List (Str×V),f∈(gX f v fs).map (·.1)/\∀g,g∈fs.map (·.1)->g∈(gX f v fs).map (·.1)
 | []=>⟨by simp [gX],λg h=>by simp at h⟩
 | (k,x)::r=>by
  obtain ⟨i1,i2⟩:=Tc f v r
  rw [show gX f v ((k,x)::r)=(if k=f then (k,v)::r else (k,x)::gX f v r) from rfl]
  by_cases hk:k=f
  .rw [if_pos hk]
   subst hk
   exact ⟨by simp,λg h=>by simpa using h⟩
  .rw [if_neg hk]
   refine ⟨?_,λg h=>?_⟩
   .rw [fE]
    exact gn _ i1
   .rw [fE] at h ⊢
    rcases cL.mp h with e | e
    .exact cL.mpr (.inl e)
    .exact gn _ (i2 g e)
theorem Z1(f:Str)(v:V):∀fs:List (Str×V),(gX f v fs).length<=fs.length+1
 | []=>by simp [gX]
 | (k,x)::r=>by
  have ih:=Z1 f v r
  rw [show gX f v ((k,x)::r)=(if k=f then (k,v)::r else (k,x)::gX f v r) from rfl]
  by_cases hk:k=f
  .rw [if_pos hk,gq,gq];omega
  .rw [if_neg hk,gq,gq];omega
theorem jb.some_of(r:jb (some v) o):∃u,o=some u/\RelV v u:=by
 cases o with
 | none=>exact (show False from r).elim
 | some u=>exact ⟨u,rfl,r⟩
theorem jb.none_of(r:jb none o):o=none:=by
 cases o with
 | none=>rfl
 | some u=>exact (show False from r).elim
theorem b1K(r:RelV v u):Wq u=true:=by
 cases v with
 | cj=>cases (show u=lE from r);rfl
 | bl b=>cases (show u=qa b from r);rfl
 | int i=>obtain ⟨t,e⟩:=(show ∃t,u=K' i t from r);cases e;rfl
 | str x=>obtain ⟨t,e⟩:=(show ∃t,u=CL x t from r);cases e;rfl
 | EB b=>obtain ⟨t,e⟩:=(show ∃t,u=Value.bytes b t from r);cases e;rfl
 | K0 b=>obtain ⟨t,e⟩:=(show ∃t,u=Value.float b t from r);cases e;rfl
 | ref a=>cases (show u=cR a from r);rfl
 | ty n=>cases (show u=Bv n from r);rfl
section
variable {P:Program}{w:World}{H H':Hp}{h h':Heap}{a C dx:Addr}{fs CD:List (Str×V)}
theorem Sz(bg:g7 P w H h)(e:H a=some (.ins C dx fs)):∃mA,rJ h a dx C mA/\(∀f,jb (fs.lookup f) (mA f))/\Qe mA (fs.map (·.1))/\fs.length<=1000/\H dx=some (.own a):=by
 obtain ⟨d,z,ne,ob,mA,n,r,q⟩:=(show cb P w H h a (.ins C dx fs) from bg a _ e)
 exact ⟨mA,⟨ob,n,ne⟩,r,q,z,d⟩
end
structure nD(K:aK)(C:Addr):Prop where
 pg:Lu K C AJ=true
 hd:Qy K C=true
 po:V8 K C=true
 sa:j' K (.ref C) "__setattr__" = some (some (.builtin "object.__setattr__"))
theorem nD.get{K:aK}{C:Addr}(c:nD K C)(f:Str):Lu K C f=true:=c.pg
def ao(K:aK)(C:Addr)(f:Str):Prop:=j' K (.ref C) f=some none
theorem ao.FW{K:aK}{C:Addr}{f:Str}(n:ao K C f):QG K C f=some none:=by
 unfold QG
 rw [show j' K (.ref C) f=some none from n]
 rfl
structure aP(K:aK)(C:Addr)(m:Str)(f:Addr):Prop where
 at_:j' K (.ref C) m=some (some (.ref f))
 fn:Qd K (.ref f)=true
 kp:sW K (.ref f)=true
section
variable {X:Cx}{pins:List (Addr×Obj)}{σ:St}{H:Hp}{s:Shared}{a C dx:Addr}{fs:List (Str×V)}{f:Str}{v:V}{A:Around}{E:Value->Shared->Prop}
theorem a98(I:Inv X pins σ H s)(e:H a=some (.ins C dx fs))(c:nD X.K C)(n:ao X.K C f)(l:fs.lookup f=some v)
  (h:∀u s',Inv X pins σ H s'->RelV v u->Q u s'):wpAny (model X.prog X.w) A (getAttr (.ref a) f b) Q E s:=by
 obtain ⟨mA,O,r,_,_,_⟩:=Sz I.bg e
 obtain ⟨u,hu,ru⟩:=jb.some_of (v:=v) (o:=mA f) (by rw [<-l];exact r f)
 exact b5U I.kA O (c.get f) c.hd n hu (b1K ru) (h u _ (I.tok _) ru)
theorem a97(I:Inv X pins σ H s)(e:H a=some (.ins C dx fs))(c:nD X.K C)(k:aP X.K C m g)(l:fs.lookup m=none)
  (h:Q (.ref g,[.ref a]) s):wpAny (model X.prog X.w) A (getMethod (.ref a) m pl) Q E s:=by
 obtain ⟨mA,O,r,_,_,_⟩:=Sz I.bg e
 have hn:mA m=none:=jb.none_of (by rw [<-l];exact r m)
 exact b24 I.kA O (c.get m) k.at_ k.fn hn h
theorem a9H(I:Inv X pins σ H s)(e:H a=some (.ins C dx fs))(c:nD X.K C)(n:ao X.K C f)(hl:fs.length<1000)(ry:RelV y u)
  (h:∀s',Inv X pins σ (upd H a (.ins C dx (gX f y fs))) s'->Q () s'):wpAny (model X.prog X.w) A (setAttr (.ref a) f u) Q E s:=by
 obtain ⟨mA,O,r,wi,_,ho⟩:=Sz I.bg e
 have hz:(fs.map (·.1)).length<=sizeLine:=by rw [bY,lr];omega
 refine b40 I.kA O c.sa c.po n.FW c.hd wi hz λh' O' sb=>h _ ?_
 have hd:∃o,h'.get? dx=some o:=let ⟨o,_,_,e',_⟩:=O'.ns;⟨o,e'⟩
 refine I.write (x:=a) (e:=dx) (by rw [e];exact D4) (.inr ho) (λb q hb z=>(sb.2 b hb).trans z) hd ?_
 refine ⟨by rw [dW O.ne];exact ho,?_,O.ne,O'.obj,_,O'.ns,λg=>?_,λg hg=>?_⟩
 .have:=Z1 f y fs;omega
 .show jb ((gX f y fs).lookup g) (if g=f then some u else mA g)
  rw [Z4]
  by_cases q:g=f
  .rw [if_pos q,if_pos q];exact ry
  .rw [if_neg q,if_neg q];exact r g
 .by_cases q:g=f
  .rw [q];exact (Tc f y fs).1
  .refine (Tc f y fs).2 g (wi g λz=>hg ?_)
   show (if g=f then some u else mA g)=none
   rw [if_neg q];exact z
theorem Inv.made(I:Inv X pins σ H s):Inv X pins σ (upd (upd H s.heap.objs.size (.own (s.heap.objs.size+1))) (s.heap.objs.size+1) (.ins C s.heap.objs.size []))
  { s with heap:=(s.heap.push AK).push (BC C s.heap.objs.size) }:=by
 have e1:(s.heap.push AK).get? s.heap.objs.size=some AK:=jx s.heap rfl
 have e2:((s.heap.push AK).push (BC C s.heap.objs.size)).get? (s.heap.objs.size+1)=some (BC C s.heap.objs.size):=by
  have:=jx (s.heap.push AK) (o:=BC C s.heap.objs.size) rfl
  rwa [n8] at this
 have e3:(s.heap.push AK).Ns s.heap.objs.size (λ_=>none):=⟨AK,#[],_,e1,rfl,(λe he=>absurd he (by simp)),λ_=>rfl⟩
 have I1:=I.laid (a:=s.heap.objs.size) (o:=.own (s.heap.objs.size+1)) (h':=s.heap.push AK) (t':=s.toks) (λb u q=>dY _ q) (cw _) ⟨_,e1⟩
 refine I1.laid (a:=s.heap.objs.size+1) (o:=.ins C s.heap.objs.size []) (t':=s.toks) (λb u q=>dY _ q) (Qc (n8 _ _)) ?_
 have ne:s.heap.objs.size≠s.heap.objs.size+1:=fg (oG _)
 refine ⟨by rw [dW ne,kn],uB _,ne,e2,λ_=>none,(Heap.Ns1.of_empty e3).at λo q=>dY _ q,λ_=>D4,λy hy=>absurd rfl hy⟩
theorem b6e(hb:attributeBase e f env (eval e env)=eval e env)
  (h:wpAny (model prog w) A (eval e env) (λo aR=>wpAny (model prog w) A (getAttr o f true) Q E aR) E s):wpAny (model prog w) A (eval (.Attribute e f pos) env) Q E s:=
 Attribute_any_ h (by rw [arm_eval_Attribute,hb])
end
def N1(K:aK)(ta:TE)(f:Str):TE:=λσ H Q=>ta σ H λx H1=>∃a C dx fs v,x=.ref a/\H1 a=some (.ins C dx fs)/\nD K C/\ao K C f/\fs.lookup f=some v/\Q v H1
def N8(K:aK)(ta tv:TE)(f:Str):TS:=λD σ H=>tv σ H λy H1=>ta σ H1 λx H2=>∃a C dx fs,x=.ref a/\H2 a=some (.ins C dx fs)/\nD K C/\ao K C f/\fs.length<1000 /\
 D.nx σ (upd H2 a (.ins C dx (gX f y fs)))
section
variable {X:Cx}{o e value:Expr}{f:Str}{pos pos' NS:Pos}{ta tv:TE}
theorem RU(he:PE X e ta)(hb:attributeBase e f X.env (eval e X.env)=eval e X.env):PE X (.Attribute e f pos) (N1 X.K ta f):=by
 intro pins s σ H Q I h
 refine b6e hb (bJ (he pins s σ H _ I h) λu s1 ⟨x,H1,I1,rx,a,C,dx,fs,v,ex,ea,c,n,l,q⟩=>?_)
 subst ex
 obtain rfl:u=cR a:=rx
 exact a98 I1 ea c n l λu' s2 I2 ru=>⟨v,H1,I2,ru,q⟩
theorem RV(ha:PE X o ta)(hv:PE X value tv)(hs:swapsWith value (some (.Attribute o f pos')) pos.line X.env=pure false):PS X (.Assign [.Attribute o f pos'] value pos) (N8 X.K ta tv f):=by
 intro pins s σ H D I h
 refine plainObj_wpAny_Assign_Attribute (bJ (hv pins s σ H _ I h) λu s1 ⟨y,H1,I1,ry,q⟩=>bJ (ha pins s1 σ H1 _ I1 q) λov s2 ⟨x,H2,I2,rx,a,C,dx,fs,ex,ea,c,n,l,q2⟩=>?_) hs
 subst ex
 obtain rfl:ov=cR a:=rx
 exact a9H I2 ea c n l ry λs3 I3=>⟨σ,_,I3,q2⟩
end
section
variable {X:Cx}{pins:List (Addr×Obj)}{σ:St}{H:Hp}{s:Shared}{A:Around}{E:Value->Shared->Prop}{Q:Value->Shared->Prop}{c:Value}{b:Bool}
end
end L2
namespace L2
open PySem PySem.Spec PyProof.Rows
structure bZ(k:Nat)(A:Around):Prop where
 hd:A.handled=none
 dp:A.depth+3*k+5<recursionLimit
 un:A.units+16*k+200<cLine
theorem bZ.mono(r:bZ k A)(h:j<=k):bZ j A:=⟨r.hd,by have:=r.dp;omega,by have:=r.un;omega⟩
theorem bZ.deeper(r:bZ (k+1) A)(env:Env):bZ k (A.deeper env):=
 ⟨r.hd,by have:=r.dp;show A.depth+1+3*k+5<_;omega,by have:=r.un;show A.units+3+16*k+200<_;omega⟩
theorem a90{A:Around}{kw:List (Str×Value)}:(A.under (.builtin "type.__call__" ⟨.ref C::us,kw⟩)).depth=A.depth+1:=by
 first | rfl | simp [Qb,Code.weight,Code.isCreation,Code.isGuard,Code.isCaller,Code.frames,Qq,guardIds]
theorem a9Z{A:Around}{kw:List (Str×Value)}:(A.under (.builtin "type.__call__" ⟨.ref C::us,kw⟩)).units=A.units+1:=by
 first | rfl | simp [Qb,Code.cUnits,Code.frames,Qq]
theorem bZ.make(r:bZ (k+1) A)(C:Addr)(us:List Value)(kw:List (Str×Value)):bZ k (A.under (.builtin "type.__call__" ⟨.ref C::us,kw⟩)):=
 ⟨r.hd,by have:=r.dp;rw [a90];omega,by have:=r.un;rw [a9Z];omega⟩
theorem bZ.depth(r:bZ k A):A.depth<recursionLimit:=by have:=r.dp;omega
theorem bZ.units(r:bZ k A):A.units+64<cLine:=by have:=r.un;omega
def F0:TA:=λ_ H Q=>Q [] H
def F5(ta:TE)(tr:TA):TA:=λσ H Q=>ta σ H λx H1=>tr σ H1 λxs H2=>Q (x::xs) H2
section
variable {X:Cx}{e:Expr}{es:List Expr}{te:TE}{t:TA}{pos:Pos}
theorem mV:PA X [] F0:=λ_ _ _ _ H Q I h=>Calls.spliced_nil ⟨[],H,I,.nil,h⟩
theorem kY(ha:PE X e te)(hr:PA X es t)(hs:starEach (e::es) X.env=(false,eval e X.env)::starEach es X.env:=by rfl):PA X (e::es) (F5 te t):=by
 intro pos pins s σ H Q I h
 rw [hs]
 show wpAny _ _ (spliced ((false,eval e X.env)::backTo pos (starEach es X.env))) _ _ s
 refine Calls.spliced_cons (bJ (ha pins s σ H _ I h) λu s1 ⟨x,H1,I1,r1,q1⟩=>?_)
 exact bJ (hr pos pins s1 σ H1 _ I1 q1) λus s2 ⟨xs,H2,I2,r2,q2⟩=>⟨x::xs,H2,I2,.cons r1 r2,q2⟩
def NU(t:TA):TE:=λσ H Q=>t σ H λxs H1=>xs.length<=sizeLine/\∀p,H1 p=none->Q (.ref p) (upd H1 p (.tup xs))
def NY(t:TA):TE:=λσ H Q=>t σ H λxs H1=>xs.length<=sizeLine/\∀p,H1 p=none->Q (.ref p) (upd H1 p (.lst xs))
theorem Ym{x1}(h:PA X es t):PE X (.Tuple es x1 pos) (NU t):=by
 intro pins s σ H Q I hq
 refine wpAny_Tuple_spliced (bJ (h pos pins s σ H _ I hq) λus s1 ⟨xs,H1,I1,r,z,q⟩=>⟨by rw [<-r.length];exact z,?_⟩)
 have hf:H1 s1.heap.objs.size=none:=I1.bg.fresh (cw _)
 refine ⟨.ref s1.heap.objs.size,upd H1 s1.heap.objs.size (.tup xs),I1.laid (t':=s1.toks) (λb u e=>dY _ e) (cw _) ?_,rfl,q _ hf⟩
 exact ⟨z,us,r,⟨_,jx _ rfl,rfl,_,rfl⟩⟩
theorem b7J(h:PA X es t):PE X (.List es pos) (NY t):=by
 intro pins s σ H Q I hq
 refine wpAny_List_spliced (bJ (h pos pins s σ H _ I hq) λus s1 ⟨xs,H1,I1,r,z,q⟩=>⟨by rw [<-r.length];exact z,?_⟩)
 have hf:H1 s1.heap.objs.size=none:=I1.bg.fresh (cw _)
 refine ⟨.ref s1.heap.objs.size,upd H1 s1.heap.objs.size (.lst xs),I1.laid (t':=s1.toks) (λb u e=>dY _ e) (cw _) ?_,rfl,q _ hf⟩
 exact ⟨z,us,0,r,jx _ rfl⟩
end
abbrev Sp:=List V->Hp->VK->XK->Prop
abbrev tN:=List Env->Hp->Shared->XK->Value->Shared->Prop
structure rL(P:Program)(w:World)(K:aK)(mg:Str->Option Value)(base:Heap)(A:Around)(outer:List Env)(s:Shared)(H:Hp):Prop where
 frames:A.frames=some outer
 mod:Mod K mg base
 bs:∀b o,base.get? b=some o->s.heap.get? b=some o/\H b=none
 yB:base.objs.size<=s.heap.objs.size
 jO:s.heap.FunFrames base outer
 AD:∀b∈jQ outer,H b=none
 bg:g7 P w H s.heap
 bare:AllBare s.gens
def CE(outer:List Env)(P:Program)(w:World)(H:Hp)(s:Shared)(Q:VK)(u:Value)(s':Shared):Prop:=
 ∃v H',s'.os=s.os/\AllBare s'.gens/\Un (jQ outer) [] H H' s.heap s'.heap/\g7 P w H' s'.heap/\RelV v u/\Q v H'
def CR(CX:tN)(outer:List Env)(P:Program)(w:World)(H:Hp)(s:Shared)(Q:VK)(E:XK)(r:Result)(s':Shared):Prop:=
 match r with
 | .ok (.ret u)=>CE outer P w H s Q u s'
 | .ok _=>False
 | .error e=>CX outer H s E e s'
structure bD(P:Program)(w:World)(K:aK)(mg:Str->Option Value)(base:Heap)(CX:tN)(k:Nat)(f:Addr)(fd:FuncData)(ps:List Str)(sp:Sp):Prop where
 len:∀vs H Q E,sp vs H Q E->vs.length=ps.length
 run:∀(A:Around) (outer:List Env) (s:Shared) (H:Hp) (args:Args) (us:List Value) (vs:List V) (Q:VK) (E:XK),bZ k A->rL P w K mg base A outer s H->BindsTo s fd args (ps.zip us)->aL vs us->sp vs H Q E ->
  codeAny (model P w) A (.call (.ref f) args) (CR CX outer P w H s Q E) s
theorem bD.mono{P:Program}{w:World}{K:aK}{mg:Str->Option Value}{base:Heap}{CX:tN}{j k:Nat}{f:Addr}{fd:FuncData}{ps:List Str}{sp:Sp}(F:bD P w K mg base CX j f fd ps sp)(h:j<=k):
  bD P w K mg base CX k f fd ps sp:=⟨F.len,λA outer s H args us vs Q E hr=>F.run A outer s H args us vs Q E (hr.mono h)⟩
theorem bD.imp{P:Program}{w:World}{K:aK}{mg:Str->Option Value}{base:Heap}{CX:tN}{k:Nat}{f:Addr}{fd:FuncData}{ps:List Str}{sp Vc:Sp}(F:bD P w K mg base CX k f fd ps sp)
  (h:∀vs H Q E,Vc vs H Q E->sp vs H Q E):bD P w K mg base CX k f fd ps Vc:=
 ⟨λvs H Q E q=>F.len vs H Q E (h _ _ _ _ q),λA outer s H args us vs Q E hr he hb hv hs=>F.run A outer s H args us vs Q E hr he hb hv (h _ _ _ _ hs)⟩
theorem rL.make{P:Program}{w:World}{K:aK}{mg:Str->Option Value}{base:Heap}{A:Around}{outer:List Env}{s:Shared}{H:Hp}(e:rL P w K mg base A outer s H)(C:Addr)(us:List Value)(kw:List (Str×Value)):
  rL P w K mg base (A.under (.builtin "type.__call__" ⟨.ref C::us,kw⟩)) outer s H:=⟨by first | exact e.frames | (simpa [Qb,Code.envs,Qq,pushEnvs] using e.frames),e.mod,e.bs,e.yB,e.jO,e.AD,e.bg,e.bare⟩
section
variable {X:Cx}{pins:List (Addr×Obj)}{σ:St}{H:Hp}{s s':Shared}
theorem Inv.jR(I:Inv X pins σ H s):rL X.prog X.w X.K X.mg X.base X.A X.stack s H:=
 ⟨I.ok.frames,I.ok.mod,I.bs,pE I.ok.yB I.sz,I.stack,I.jD,I.bg,I.bare⟩
theorem Inv.after(I:Inv X pins σ H s)(h:CE X.stack X.prog X.w H s Q u s'):EP X pins σ Q u s':=by
 obtain ⟨v,H',os,bare,un,bg,r,q⟩:=h
 obtain ⟨hh,g,d,t,GB⟩:=s'
 obtain rfl:GB=s.os:=os
 exact ⟨v,H',I.call (h':=hh) (g':=g) (d':=d) (t':=t) (ch:=[]) un bg bare (λb z=>absurd z (by simp)),r,q⟩
end
def RE(sp:Sp)(dvs:List V)(E:XK)(t:TA):TE:=λσ H Q=>t σ H λvs H1=>sp (vs++dvs) H1 Q E
def F2(C:Addr)(sp:Sp)(dvs:List V)(E:XK)(t:TA):TE:=λσ H Q=>t σ H λvs H1=>∀x dx,H1 x=none->H1 dx=none->dx≠x ->
 sp (.ref x::(vs++dvs)) (upd (upd H1 dx (.own x)) x (.ins C dx [])) (λv H2=>v=.cj/\Q (.ref x) H2) E
def Binds(K:aK)(fd:FuncData)(ps:List Str)(ds:List Value):Prop:=
 ∀(s:Shared) (us:List Value),K.In s.heap->(us++ds).length=ps.length->BindsTo s fd ⟨us,[]⟩ (ps.zip (us++ds))
theorem Binds.all{K:aK}{fd:FuncData}{ps:List Str}(h:∀us:List Value,us.length=ps.length->bindArgs fd ⟨us,[]⟩=pure (ps.zip us)):Binds K fd ps []:=λs us _ hl=>by
 rw [yu] at hl ⊢
 exact .of_eq (h us hl)
def Jt(CX:tN)(X:Cx)(E:XK):Prop:=∀(pins:List (Addr×Obj)) (σ:St) (H:Hp) (s:Shared) (e:Value) (s':Shared),Inv X pins σ H s->CX X.stack H s E e s'->X.xe e s'
section
variable {X:Cx}{CX:tN}{k:Nat}{f C:Addr}{fd:FuncData}{ps:List Str}{sp:Sp}{dvs:List V}{ds:List Value}{E:XK}{x m:Str}{p pos apos:Pos}{e o:Expr}{es:List Expr}{ta:TE}{t:TA}
theorem RX{pins:List (Addr×Obj)}{σ:St}{H:Hp}{s:Shared}{Q:VK}{us:List Value}{vs:List V}(F:bD X.prog X.w X.K X.mg X.base CX k f fd ps sp)(hr:bZ k X.A)(hb:Binds X.K fd ps ds)(hd:aL dvs ds)(hx:Jt CX X E)
  (I:Inv X pins σ H s)(r:aL vs us)(h:sp (vs++dvs) H Q E):wpAny (model X.prog X.w) X.A (call (.ref f) us) (EP X pins σ Q) X.xe s:=by
 have r2:aL (vs++dvs) (us++ds):=r.append hd
 have hl:(us++ds).length=ps.length:=by rw [<-r2.length];exact F.len _ _ _ _ h
 refine CP (zx (F.run X.A X.stack s H ⟨us,[]⟩ (us++ds) (vs++dvs) Q E hr I.jR (hb s us I.kA hl) r2 h) λr s' hq=>?_)
 cases r with
 | error e=>exact hx pins σ H s e s' I hq
 | ok fl =>
  cases fl with
  | ret u=>exact I.after hq
  | next=>exact eA hq
  | brk=>exact eA hq
  | cont=>exact eA hq
theorem SH(F:bD X.prog X.w X.K X.mg X.base CX k f fd ps sp)(hr:bZ k X.A)(hg:Gl X x)(hm:X.mg x=some (.ref f))(hk:sW X.K (.ref f)=true)(hb:Binds X.K fd ps ds)(hd:aL dvs ds)(hx:Jt CX X E)
  (ha:PA X (e::es) t)(eY:(x==("__debug__":Str))=false:=by decide)(he:starEach (e::es) X.env=(false,eval e X.env)::starEach es X.env:=by rfl)(fm:(backTo pos (starEach es X.env)).any (·.1)=false:=by rfl):
  PE X (.Call (.Name x p) (e::es) [] pos) (RE sp dvs E t):=by
 intro pins s σ H Q I h
 refine C6 (zH I hg hm ?_ eY)
 refine Ey (h₀:=X.base) I.ok.mod.vB hk (bJ (ha pos pins s σ H _ I h) λus s1 ⟨vs,H1,I1,r,q⟩=>⟨I1.kA,?_⟩) he fm
 exact RX F hr hb hd hx I1 r q
structure Mk(K:aK)(C f:Addr):Prop where
 makes:Wn K C=true
 init:j' K (.ref C) "__init__" = some (some (.ref f))
 fn:Qd K (.ref f)=true
 kp:sW K (.ref C)=true
theorem b2w{pins:List (Addr×Obj)}{σ:St}{H:Hp}{s:Shared}{Q:VK}{us:List Value}{vs:List V}(M:Mk X.K C f)(F:bD X.prog X.w X.K X.mg X.base CX k f fd ps sp)(hr:bZ (k+1) X.A)(hb:Binds X.K fd ps ds)(hd:aL dvs ds)
  (hx:Jt CX X E)(I:Inv X pins σ H s)(r:aL vs us)
  (h:∀x dx,H x=none->H dx=none->dx≠x->sp (.ref x::(vs++dvs)) (upd (upd H dx (.own x)) x (.ins C dx [])) (λv H2=>v=.cj/\Q (.ref x) H2) E):
  wpAny (model X.prog X.w) X.A (call (.ref C) us) (EP X pins σ Q) X.xe s:=by
 have hq:=h (s.heap.objs.size+1) s.heap.objs.size (I.bg.fresh (zr _)) (I.bg.fresh (cw _)) (fg (oG _))
 have I2:=Inv.made (C:=C) I
 have r2:aL (V.ref (s.heap.objs.size+1)::(vs++dvs)) (cR (s.heap.objs.size+1)::(us++ds)):=.cons rfl (r.append hd)
 have hl:(cR (s.heap.objs.size+1)::us++ds).length=ps.length:=by
  have e:=r2.length
  rw [F.len _ _ _ _ hq] at e
  exact e.symm
 refine CP (Zm (f:=f) I.kA M.makes M.init (beq_iff_eq.mp M.fn) (zx (F.run _ X.stack _ _ ⟨cR (s.heap.objs.size+1)::us,[]⟩ (cR (s.heap.objs.size+1)::(us++ds)) _ _ E (hr.make C us [])
  (I2.jR.make C us []) (hb _ (cR (s.heap.objs.size+1)::us) I2.kA hl) r2 hq) λr s' fO=>?_))
 cases r with
 | error e=>exact hx pins σ _ _ e s' I2 fO
 | ok fl =>
  cases fl with
  | ret u =>
   obtain ⟨v,H',I3,rv,ev,q3⟩:=I2.after fO
   subst ev
   exact ⟨rv,⟨V.ref (s.heap.objs.size+1),H',I3,rfl,q3⟩⟩
  | next=>exact eA fO
  | brk=>exact eA fO
  | cont=>exact eA fO
theorem b5g(M:Mk X.K C f)(F:bD X.prog X.w X.K X.mg X.base CX k f fd ps sp)(hr:bZ (k+1) X.A)(hg:Gl X x)(hm:X.mg x=some (.ref C))(hb:Binds X.K fd ps ds)(hd:aL dvs ds)(hx:Jt CX X E)
  (ha:PA X (e::es) t)(eY:(x==("__debug__":Str))=false:=by decide)(he:starEach (e::es) X.env=(false,eval e X.env)::starEach es X.env:=by rfl)(fm:(backTo pos (starEach es X.env)).any (·.1)=false:=by rfl):
  PE X (.Call (.Name x p) (e::es) [] pos) (F2 C sp dvs E t):=by
 intro pins s σ H Q I h
 refine C6 (zH I hg hm ?_ eY)
 refine Ey (h₀:=X.base) I.ok.mod.vB M.kp (bJ (ha pos pins s σ H _ I h) λus s1 ⟨vs,H1,I1,r,q⟩=>⟨I1.kA,?_⟩) he fm
 exact b2w M F hr hb hd hx I1 r q
end
section
variable {X:Cx}{CX:tN}{k:Nat}{f C:Addr}{fd:FuncData}{ps ks:List Str}{sp:Sp}{E:XK}{x m:Str}{p pos apos kpos:Pos}{e o:Expr}{es:List Expr}{kws:List Keyword}{te ta:TE}{t tk:TA}{nm:Option Str}
variable {g:List Value->List Value->List Value}{gV:List V->List V->List V}
end
structure bC(N P:List Str)(sc:Scope):Prop where
 kind:sc.kind=.function
 co:sc.isCoroutine=false
 gen:sc.isGenerator=false
 nd:N.Nodup
 pre:N.take P.length=P
 par:∀x∈P,sc.names.lookup x=some .local\/sc.names.lookup x=some .cell
 Cc:∀y∈sc.names,y.2≠.free
theorem ZR{kindOf:Str->Option NameKind}{x:Str}:∀{binds:List (Str×Value)} {m:Str->Option Value},(∀v,(x,v)∉binds)->bindL kindOf binds m x=m x
 | [],_,_=>rfl
 | (n,v)::r,m,h=>by
  unfold bindL
  rw [ZR λw hw=>h w (gn _ hw)]
  split
  .have:x≠n:=by rintro rfl;exact h v gi
   simp [this]
  .rfl
theorem ZP{kindOf:Str->Option NameKind}{x:Str}:∀{binds:List (Str×Value)} {m:Str->Option Value},(∀v,(x,v)∉binds)->bindC kindOf binds m x=m x
 | [],_,_=>rfl
 | (n,v)::r,m,h=>by
  unfold bindC
  rw [ZP λw hw=>h w (gn _ hw)]
  split
  .rfl
  .have:x≠n:=by rintro rfl;exact h v gi
   simp [this]
theorem ZQ{kindOf:Str->Option NameKind}{x:Str}{v:Value}:∀{P:List Str} {vs:List Value} {i:Nat} {m:Str->Option Value},P.Nodup->P[i]?=some x->vs[i]?=some v->kindOf x=some .local ->
  bindL kindOf (P.zip vs) m x=some v
 | [],_,_,_,_,h,_,_=>by simp at h
 | _::_,[],_,_,_,_,h,_=>by simp at h
 | p::P,w::vs,0,m,nd,h1,h2,hk=>by
  simp at h1 h2;subst h1;subst h2
  show bindL kindOf ((p,w)::P.zip vs) m p=_
  unfold bindL
  rw [ZR λv hv=>(yt.mp nd).1 (QF hv).1,if_pos hk]
  simp
 | p::P,w::vs,i+1,m,nd,h1,h2,hk=>by
  show bindL kindOf ((p,w)::P.zip vs) m x=_
  unfold bindL
  exact ZQ (i:=i) (yt.mp nd).2 (by simpa using h1) (by simpa using h2) hk
theorem ZO{kindOf:Str->Option NameKind}{x:Str}{v:Value}:∀{P:List Str} {vs:List Value} {i:Nat} {m:Str->Option Value},P.Nodup->P[i]?=some x->vs[i]?=some v->kindOf x≠some .local ->
  bindC kindOf (P.zip vs) m x=some v
 | [],_,_,_,_,h,_,_=>by simp at h
 | _::_,[],_,_,_,_,h,_=>by simp at h
 | p::P,w::vs,0,m,nd,h1,h2,hk=>by
  simp at h1 h2;subst h1;subst h2
  show bindC kindOf ((p,w)::P.zip vs) m p=_
  unfold bindC
  rw [ZP λv hv=>(yt.mp nd).1 (QF hv).1,if_neg hk]
  simp
 | p::P,w::vs,i+1,m,nd,h1,h2,hk=>by
  show bindC kindOf ((p,w)::P.zip vs) m x=_
  unfold bindC
  exact ZO (i:=i) (yt.mp nd).2 (by simpa using h1) (by simpa using h2) hk
def start(N:List Str)(vs:List V):St:=vs.map some++nv (N.length-vs.length) none
def gO(CX:tN)(P:Program)(w:World)(K:aK)(mg:Str->Option Value)(base:Heap)(N:List Str)(qual:Str)(scope:Scope)(f:Addr)(cd:Value)(A:Around)(outer:List Env)(s:Shared)(H:Hp)(E:XK):Cx where
 prog:=P
 w:=w
 K:=K
 mg:=mg
 base:=base
 A:=A.deeper (envOfC qual scope s.heap.objs.size f cd)
 N:=N
 c6:=s
 yO:=H
 env:=envOfC qual scope s.heap.objs.size f cd
 outer:=outer
 stack:=envOfC qual scope s.heap.objs.size f cd::outer
 ex:=[]
 calm:=true
 fn:=λ_=>true
 pn:=[]
 xe:=λe s'=>wpAny (model P w) (A.deeper (envOfC qual scope s.heap.objs.size f cd)) (leaving (envOfC qual scope s.heap.objs.size f cd) e) (λ_ B5=>CX outer H s E e B5) (λe' B5=>CX outer H s E e' B5) s'
theorem Y'{sc:Scope}{n:Nat}{x:Str}(h:sc.names.lookup x=some .cell):∃c,(cellsFrom n sc.names []).lookup x=some c:=by
 have q:=WG sc.names n [] (.inl h)
 exact LA.mp q
theorem b1C{CX:tN}{P:Program}{w:World}{K:aK}{mg:Str->Option Value}{base:Heap}{N ps:List Str}{qual:Str}{scope:Scope}{f:Addr}{cd:Value}{A:Around}{outer:List Env}{s s1:Shared}{H:Hp}{E:XK}{us:List Value}{vs:List V}
  (S:bC N ps scope)(hd:A.handled=none)(e0:rL P w K mg base A outer s H)(hl:vs.length=ps.length)(r:aL vs us)
  (x:InCallC s s.heap.objs.size (bindL (envOfC qual scope s.heap.objs.size f cd).kindOf (ps.zip us) λ_=>none) (cellsFrom (s.heap.objs.size+1) scope.names []) (bindC (envOfC qual scope s.heap.objs.size f cd).kindOf (ps.zip us) λ_=>none) s1):
  Inv (gO CX P w K mg base N qual scope f cd A outer s H E) [] (start N vs) H s1:=by
 have fm:ps.length<=N.length:=by have:=congrArg CN S.pre;rw [Ec] at this;omega
 obtain ⟨h1,tk,rfl,hk⟩:=x.done
 have OE:∀b:Addr,b∉(gO CX P w K mg base N qual scope f cd A outer s H E).ex:=λb z=>absurd (show b∈([]:List Addr) from z) (by simp)
 refine ⟨⟨e0.mod,S.kind,rfl,rfl,cw _,λy z c h1 h2=>?_,λy hy=>?_,λy c _ h=>?_,λ_=>hd,Around.frames_deeper e0.frames,.inr ⟨rfl,rfl⟩,λb z=>absurd z (OE b),e0.bs,e0.yB,λb _ _=>OE b,λb z=>absurd z (OE b),e0.jO,e0.AD⟩,
  rfl,e0.bare,Un.kept hk,⟨_,x.toInCall.ns,λi y v h1 h2 h3=>?_⟩,λy c h=>⟨_,x.cell y c h⟩,e0.bg.fresh (cw _),λy c h=>?_,λp hp=>absurd (show p∈([]:List (Addr×Obj)) from hp) (by simp),e0.bg.kept hk,?_⟩
 .exact name_of_addr x.apart (Ez h1) (Ez h2)
 .have hy:scope.names.lookup y=some .cell\/scope.names.lookup y=some .free:=hy
  rcases hy with hy | hy
  .exact Y' hy
  .exact absurd rfl (S.Cc _ (Ez hy))
 .exact D9 (x.above y c (Ez h))
 .have hi:i<vs.length:=by
   unfold start at h2
   by_cases hi:i<vs.length
   .exact hi
   .rw [Rf (by simpa using hi)] at h2
    rw [C1] at h2
    split at h2<;>cases h2
  have ha:vs[i]?=some v:=by
   unfold start at h2
   rw [Rc (by simpa using hi),mB] at h2
   cases e:vs[i]? with
   | none=>rw [e] at h2;cases h2
   | some a=>rw [e] at h2;cases h2;rfl
  obtain ⟨u,hu,rv⟩:=r.get ha
  have hp:ps[i]?=some y:=by
   rw [<-S.pre,List.getElem?_take_of_lt (by omega)];exact h1
  have Vt:ps.Nodup:=by rw [<-S.pre];exact S.nd.sublist (List.take_sublist _ _)
  refine ⟨u,rv,?_⟩
  rcases S.par y (Q6 hp) with k | k
  .exact .inl ⟨k,ZQ Vt hp hu k⟩
  .obtain ⟨c,e⟩:=Y' (n:=s.heap.objs.size+1) k
   refine .inr ⟨.inl k,c,e,?_⟩
   have q:=x.cell y c e
   rw [ZO Vt hp hu (by show scope.names.lookup y≠_;rw [k];decide)] at q
   exact q
 .exact e0.bg.fresh (D9 (x.above y c (Ez h)))
 .unfold start
  show _=N.length
  rw [fD,bY,LJ]
  omega
theorem L4{CX:tN}{P:Program}{w:World}{K:aK}{mg:Str->Option Value}{base:Heap}{k:Nat}{f:Addr}{name qual:Str}{params:Arguments}{body:List Stmt}{scope:Scope}{dV kV doc pm dX ct oc:Value}{an od:Option Addr}
  {xD:Array (Option Value)}{N ps:List Str}{sp:Sp}(lk:K.lookup f=some ⟨oc,od,.func (mS name qual params body scope dV kV doc pm an dX ct),xD⟩)(bM:IH K dX qual=true)(S:bC N ps scope)
  (len:∀vs H Q E,sp vs H Q E->vs.length=ps.length)
  (br:∀(A:Around) (outer:List Env) (s:Shared) (H:Hp) (vs:List V) (Q:VK) (E:XK),bZ k (A.deeper (envOfC qual scope s.heap.objs.size f dX))->sp vs H Q E ->
   ∃t,oz (gO CX P w K mg base N qual scope f dX A outer s H E) body t/\t { nx:=λ_ H'=>Q .cj H',rt:=Q } (start N vs) H):
  bD P w K mg base CX (k+1) f (mS name qual params body scope dV kV doc pm an dX ct) ps sp:=by
 refine ⟨len,λA outer s H args us vs Q E hr e0 hb r sG=>?_⟩
 have hl:=len _ _ _ _ sG
 have KX:K.In s.heap:=e0.mod.vB.keeps λb o e=>(e0.bs b o e).1
 have lim:s.heap.NoLimit:=e0.mod.nolimit.keeps λb o e=>(e0.bs b o e).1
 have Hm:∀y∈ps.zip us,scope.names.lookup y.1=some .local\/(scope.names.lookup y.1=some .cell/\((cellsFrom (s.heap.objs.size+1) scope.names []).lookup y.1).isSome=true):=λ⟨n,v⟩ hy=>by
  rcases S.par n (QF hy).1 with q | q
  .exact .inl q
  .exact .inr ⟨q,WG _ _ _ (.inl q)⟩
 refine codeAny_call_function hr.depth (KX _ _ lk) rfl S.co S.gen rfl (PySem.W.codeRec_of KX bM) (hb _ _ _ _ ?_)
 refine wpAny_newFunctionEnv_cells S.kind Hm λenv he s1 x=>?_
 subst he
 refine ⟨lim.keeps x.toInCall.keep,codeAny_func ?_⟩
 obtain ⟨t,ht,hq⟩:=br A outer s H vs Q E (hr.deeper _) sG
 have I:Inv (gO CX P w K mg base N qual scope f dX A outer s H E) [] (start N vs) H s1:=b1C S hr.hd e0 hl r x
 refine jy (ht [] s1 (start N vs) H _ I hq) (λfl s' hs=>?_) λe s' hs=>hs
 have fin:∀{aG:St} {H':Hp} {v:V} {u:Value},Inv (gO CX P w K mg base N qual scope f dX A outer s H E) [] aG H' s'->RelV v u->Q v H'->CE outer P w H s Q u s':=
  λ{aG H' v u} J rv q=>⟨v,H',J.os,J.bare,J.base,J.bg,rv,q⟩
 cases fl with
 | ret u =>
  obtain ⟨v,aG,H',J,rv,q⟩:=hs
  exact fin J rv q
 | next =>
  obtain ⟨aG,H',J,q⟩:=hs
  exact fin (v:=V.cj) (u:=lE) J rfl q
 | brk =>
  obtain ⟨_,_,_,q⟩:=hs
  exact eA q
 | cont =>
  obtain ⟨_,_,_,q⟩:=hs
  exact eA q
end L2
namespace L2
open PySem PySem.Spec PyProof.Rows
section
variable {X:Cx}{x:Str}{p pos:Pos}{e:Expr}{es:List Expr}{t:TA}{id T:String}{r:List V->Hp->VK->Prop}
def Va(r:List V->Hp->VK->Prop)(t:TA):TE:=λσ H Q=>t σ H λvs H1=>r vs H1 Q
theorem BK(hc:wC X (.builtin id) r)(hg:Gl X x)(hm:X.mg x=none)(hv:bootBuiltins x=some (.builtin id))(ha:PA X (e::es) t)(hn:x ≠ "__name__":=by decide)(eY:(x==("__debug__":Str))=false:=by decide)
  (he:starEach (e::es) X.env=(false,eval e X.env)::starEach es X.env:=by rfl)(fm:(backTo pos (starEach es X.env)).any (·.1)=false:=by rfl):PE X (.Call (.Name x p) (e::es) [] pos) (Va r t):=by
 intro pins s σ H Q I h
 refine C6 (EW I hg hm hv ?_ hn eY)
 exact PyProof.Rows.callWith_builtin1 (bJ (ha pos pins s σ H _ I h) λus s1 ⟨vs,H1,I1,r1,q1⟩=>hc pins s1 σ H1 vs us Q I1 r1 q1) he fm
theorem Fe(hc:wC X (.type T) r)(hg:Gl X x)(hm:X.mg x=none)(hv:bootBuiltins x=some (.type T))(ha:PA X (e::es) t)(hn:x ≠ "__name__":=by decide)(eY:(x==("__debug__":Str))=false:=by decide)
  (he:starEach (e::es) X.env=(false,eval e X.env)::starEach es X.env:=by rfl)(fm:(backTo pos (starEach es X.env)).any (·.1)=false:=by rfl):PE X (.Call (.Name x p) (e::es) [] pos) (Va r t):=by
 intro pins s σ H Q I h
 refine C6 (EW I hg hm hv ?_ hn eY)
 exact LO (bJ (ha pos pins s σ H _ I h) λus s1 ⟨vs,H1,I1,r1,q1⟩=>hc pins s1 σ H1 vs us Q I1 r1 q1) he fm
end
end L2
namespace HT
open PySem PyProof.Rows
section
open PySem.SeqAt
open PySem.AutoSeq1 (wpAny_loadPart')
open PySem.MeetsSeq PySem.MeetsSeq2 PySem.MeetsSeq3
end
section
variable {prog:Program}{w:World}{A:Around}{E:Value->Shared->Prop}{s:Shared}
theorem AI(ht:IsTup s.heap t vs.toArray)(hb:IsTup s.heap b ws.toArray)(hv:vs≠[])
  (h1:ws=[]->Q (.ref t) s)(h2:ws≠[]->Q (.ref s.heap.objs.size) { s with heap:=s.heap.push { cls:=.type "tuple",data:=.seq (vs++ws).toArray } })
  (hsz:vs.length+ws.length<=sizeLine):wpAny (model prog w) A (binaryOp .Add (.ref t) (.ref b)) Q E s:=by
 obtain ⟨⟨cls,dd,data,sl⟩,ho,hc,n,hd⟩:=id ht
 obtain ⟨⟨P',K4,data2,Gb⟩,Cq,uf,n2,hd2⟩:=id hb
 simp only at hc hd uf hd2
 subst hc hd uf hd2
 have e:vs.toArray++ws.toArray=(vs++ws).toArray:=by simp
 by_cases hw:ws=[]
 .exact concat_meets ⟨_,ho,rfl⟩ ⟨_,Cq,rfl⟩ QN Qg QV QZ (Rh _ _)
   (tuple_addW1 t b vs.toArray ws.toArray n n2 dd K4 sl Gb (by simpa using hv) (by simp [hw])) ⟨ho,Cq,h1 hw⟩
 .refine concat_meets ⟨_,ho,rfl⟩ ⟨_,Cq,rfl⟩ QN Qg QV QZ (Rh _ _)
   (tuple_addW2 t b vs.toArray ws.toArray n n2 dd K4 sl Gb (by simpa using hv) (by simpa using hw) (by rw [gh,gh];exact hsz)) ⟨ho,Cq,?_⟩
  rw [e]
  exact h2 hw
def cH(n d:Nat):Option Int->Nat
 | none=>d
 | some v=>if v<0 then (v+(n:Int)).toNat else min v.toNat n
theorem oY(n d:Nat):cH n d none=d:=rfl
theorem rR(n d k:Nat):cH n d (some (k:Int))=min k n:=by
 show (if (k:Int)<0 then ((k:Int)+(n:Int)).toNat else min (k:Int).toNat n)=min k n
 rw [if_neg (by omega),Ee]
theorem b7r(n d:Nat)(hd:d<=n)(o:Option Int):cH n d o<=n:=by
 cases o with
 | none=>exact hd
 | some v =>
  show (if v<0 then (v+(n:Int)).toNat else min v.toNat n)<=n
  by_cases hv:v<0
  .rw [if_pos hv];omega
  .rw [if_neg hv];exact Nat.min_le_right _ _
theorem YO(v:Int)(n d:Nat):(if v<0 then max (v+(n:Int)) 0 else min v (n:Int))=((cH n d (some v):Nat):Int):=by
 show (if v<0 then max (v+(n:Int)) 0 else min v (n:Int))=(((if v<0 then (v+(n:Int)).toNat else min v.toNat n):Nat):Int)
 by_cases hv:v<0
 .simp only [if_pos hv];omega
 .simp only [if_neg hv];omega
theorem b0h(lo hi:Option Int)(n:Nat):Rb lo hi 1 (n:Int)=(((cH n 0 lo:Nat):Int),((cH n n hi:Nat):Int)):=by
 have h1:¬((1:Int)<0):=by omega
 unfold Rb
 simp only [h1,if_false]
 refine Prod.ext ?_ ?_
 .cases lo with
  | none=>rfl
  | some v=>exact YO v n 0
 .cases hi with
  | none=>rfl
  | some v=>exact YO v n n
theorem a9J(i j:Nat):LB (i:Int) (j:Int) 1=j-i:=by
 unfold LB
 have h1:(1:Int)>0:=by omega
 simp only [h1,if_true,Int.ediv_one]
 split<;>omega
theorem a5Y(p:IsPart v o)(h:Q o s):wpAny (model prog w) A (Builtin.Slice.slicePartIndex v) Q E s:=by
 cases p with
 | none=>exact slicePart_none h
 | int i t=>exact slicePart_int h
theorem a4J{lo hi:Option Int}{n:Nat}(hs:s.heap.IsSliceOf sl vl vu .none)(pl:IsPart vl lo)(pu:IsPart vu hi)
  (h:Q (((cH n 0 lo:Nat):Int),1,cH n n hi-cH n 0 lo) s):wpAny (model prog w) A (WW (.ref sl) (pure (n:Int))) Q E s:=by
 obtain ⟨os,Co,VN,KW⟩:=id hs
 unfold WW Builtin.Slice.sliceFields
 refine aF (aF (wpAny_field Co KW (x:=vl) rfl (aF (wpAny_field Co KW (x:=vu) rfl (aF (wpAny_field Co KW (x:=.none) rfl (bG ?_)))))))
 refine aF (slicePart_none ?_)
 show wpAny _ _ (if ((1:Int)==0)=true then _ else _) _ _ s
 rw [if_neg (by decide)]
 refine aF (a5Y pl (aF (a5Y pu (aF (bG ?_)))))
 show wpAny _ _ (match Rb lo hi 1 (n:Int) with | (lo,hi)=>pure (lo,(1:Int),LB lo hi 1)) _ _ s
 rw [b0h lo hi n]
 show wpAny _ _ (pure (((cH n 0 lo:Nat):Int),(1:Int),LB ((cH n 0 lo:Nat):Int) ((cH n n hi:Nat):Int) 1)) _ _ s
 rw [a9J]
 exact bG h
theorem b2E(xs:Array Value)(i k:Nat):((fx k).filterMap λ(m:Nat)=>xs[((i:Int)+(m:Int)*1).toNat]?).toArray=((xs.toList.drop i).take k).toArray:=by
 have e:(λ(m:Nat)=>xs[((i:Int)+(m:Int)*1).toNat]?)=λm=>xs[i+m]?:=by
  funext m
  have:((i:Int)+(m:Int)*1).toNat=i+m:=by omega
  rw [this]
 rw [e]
 have:=pick_run xs i k
 rw [List.filterMap_map] at this
 have e2:((λx=>xs[x]?)∘λx=>i+x)=λm=>xs[i+m]?:=rfl
 rw [e2] at this
 rw [this]
theorem jN{items:Array Value}{lo hi:Option Int}(ht:IsTup s.heap t items)(hs:s.heap.IsSliceOf sl vl vu .none)(pl:IsPart vl lo)(pu:IsPart vu hi)
  (hw:¬(cH items.size 0 lo=0/\cH items.size items.size hi=items.size))
  (h:Q (.ref s.heap.objs.size) { s with heap:=s.heap.push { cls:=.type "tuple",data:=.seq ((items.toList.drop (cH items.size 0 lo)).take (cH items.size items.size hi-cH items.size 0 lo)).toArray } })
  (hsz:items.size<=sizeLine):wpAny (model prog w) A (getItem (.ref t) (.ref sl)) Q E s:=by
 have sF:sizeOk (.seq ((items.toList.drop (cH items.size 0 lo)).take (cH items.size items.size hi-cH items.size 0 lo)).toArray):=by
  show ((items.toList.drop (cH items.size 0 lo)).take (cH items.size items.size hi-cH items.size 0 lo)).toArray.size<=sizeLine
  rw [gh,Ec,Ls,tf]
  omega
 have hj:cH items.size items.size hi<=items.size:=b7r _ _ (cw _) hi
 obtain ⟨os,Co,VN,KW⟩:=id hs
 have HH:s.TypeIs (.ref sl) "slice":=⟨os,Co,VN⟩
 unfold getItem
 try with_reducible refine q0 ?_
 first | refine aF (bG ?_) | skip
 refine aF (wpAny_sequenceKey ht.typeIs (by decide) ?_)
 refine aF (Ly (name:=CY "__getitem__") ht.typeIs LM
  (C9 LM ht.typeIs entry_tuple_getitem ?_ (args_tuple_getitem _ _)))
 show wpAny _ _ (Builtin.Tuple.tupleItemsOf (.ref t) >>= _) _ _ s
 refine aF (tupleItemsOf_ ht ?_)
 refine aF (IJ HH ?_)
 rw [if_pos (by decide)]
 refine aF (a4J hs pl pu ?_)
 have nk:¬((((cH items.size 0 lo:Nat):Int)==0&&(1:Int)==1&&(cH items.size items.size hi-cH items.size 0 lo)==items.size)=true):=by
  intro q
  rw [BE,BE] at q
  have q1:((cH items.size 0 lo:Nat):Int)=0:=eq_of_beq q.1.1
  have q2:cH items.size items.size hi-cH items.size 0 lo=items.size:=eq_of_beq q.2
  exact hw ⟨by omega,by omega⟩
 show wpAny _ _ (if (((cH items.size 0 lo:Nat):Int)==0&&(1:Int)==1&&(cH items.size items.size hi-cH items.size 0 lo)==items.size)=true then _ else _) _ _ s
 rw [if_neg nk,b2E]
 first
  | exact aF (m:=Lz _) (zu (bG ⟨_,rfl,bG h⟩) sF)
  | exact aF (m:=Lz _) (zu (aF (bG (bG ⟨_,rfl,bG h⟩))) sF)
  | exact aF (aF (m:=Lz _) (zu (bG (bG ⟨_,rfl,bG h⟩)) sF))
  | exact aF (aF (m:=Lz _) (zu (bG ⟨_,rfl,bG h⟩) sF))
end
end HT
namespace L2
open PySem PySem.Spec PyProof.Rows
abbrev TO:=St->Hp->(Option Int->Hp->Prop)->Prop
def PO(X:Cx)(e:Option Expr)(t:TO):Prop:=
 ∀(pins:List (Addr×Obj)) (s:Shared) (σ:St) (H:Hp) (Q:Option Int->Hp->Prop),Inv X pins σ H s->t σ H Q ->
  wpAny (model X.prog X.w) X.A (evalPart e X.env) (λu s'=>∃o H',Inv X pins σ H' s'/\IsPart u o/\Q o H') X.xe s
def b4P:TO:=λ_ H Q=>Q none H
def FY(t:TE):TO:=λσ H Q=>t σ H λx H1=>∃i,x=.int i/\Q (some i) H1
section
variable {X:Cx}{e:Expr}{te:TE}{lo hi:Option Expr}{tl th:TO}{pos p2:Pos}
theorem b5b:PO X none b4P:=by
 intro pins s σ H Q I h
 rw [evalPart_none]
 exact bG ⟨none,H,I,.none,h⟩
theorem b5a(h:PE X e te):PO X (some e) (FY te):=by
 intro pins s σ H Q I hw
 rw [evalPart_some]
 refine bJ (h pins s σ H _ I hw) λu s1 ⟨x,H1,I1,r1,q1⟩=>?_
 obtain ⟨i,rfl,q⟩:=q1
 obtain ⟨t,rfl⟩:=r1
 exact ⟨some i,H1,I1,.int i t,q⟩
def Dz(X:Cx)(r:V->Option Int->Option Int->Hp->VK->Prop):Prop:=
 ∀(pins:List (Addr×Obj)) (s:Shared) (σ:St) (H:Hp) (x:V) (v vl vu:Value) (lo hi:Option Int) (sl:Addr) (Q:VK),Inv X pins σ H s->RelV x v->s.heap.IsSliceOf sl vl vu .none->IsPart vl lo->IsPart vu hi->r x lo hi H Q ->
  ∃T id,typeLookup (.type T) "__getitem__" = pure (some (.builtin id))/\s.TypeIs v T/\wpAny (model X.prog X.w) X.A (getItem v (.ref sl)) (EP X pins σ Q) X.xe s
theorem Dz.or(h:Dz X r)(h':Dz X r'):Dz X (λx lo hi H Q=>r x lo hi H Q\/r' x lo hi H Q):=by
 intro pins s σ H x v vl vu lo hi sl Q I rx hs pl pu q
 rcases q with q | q
 .exact h pins s σ H x v vl vu lo hi sl Q I rx hs pl pu q
 .exact h' pins s σ H x v vl vu lo hi sl Q I rx hs pl pu q
def tSl(r:V->Option Int->Option Int->Hp->VK->Prop)(te:TE)(tl th:TO):TE:=λσ H Q=>te σ H λx H1=>tl σ H1 λl H2=>th σ H2 λu H3=>r x l u H3 Q
theorem b2G(hr:Dz X r)(he:PE X e te)(hl:PO X lo tl)(hu:PO X hi th):PE X (.Subscript e (.Slice lo hi none p2) pos) (tSl r te tl th):=by
 intro pins s σ H Q I h
 refine Subscript_ (bJ (he pins s σ H _ I h) λv s1 ⟨x,H1,I1,r1,q1⟩=>?_)
 refine wpAny_Slice (bJ (hl pins s1 σ H1 _ I1 q1) λvl s2 ⟨l,H2,I2,pl,q2⟩=>bJ (hu pins s2 σ H2 _ I2 q2) λvu s3 ⟨u,H3,I3,pu,q3⟩=>?_)
 rw [evalPart_none]
 refine bG ?_
 have I4:Inv X pins σ H3 { s3 with heap:=s3.heap.push { cls:=.type "slice",data:=.fields #[vl,vu,.none] } }:=I3.kept (t':=s3.toks) λb ob q=>dY _ q
 obtain ⟨T,id,hT,ht,hg⟩:=hr pins { s3 with heap:=s3.heap.push { cls:=.type "slice",data:=.fields #[vl,vu,.none] } } σ H3 x v vl vu l u s3.heap.objs.size Q I4 r1 (Heap.IsSliceOf.new ..) pl pu q3
 show wpAny (model X.prog X.w) X.A (subscriptTail e (.Slice lo hi none p2) v (.ref s3.heap.objs.size)) (EP X pins σ Q) X.xe { s3 with heap:=s3.heap.push { cls:=.type "slice",data:=.fields #[vl,vu,.none] } }
 exact tail_any (ops:=[.ref s3.heap.objs.size,v]) ht hT hg (by with_unfolding_all rfl)
def pC(xs:List V)(lo hi:Option Int):List V:=(xs.drop (HT.cH xs.length 0 lo)).take (HT.cH xs.length xs.length hi-HT.cH xs.length 0 lo)
theorem a5B(xs:List V)(lo hi:Option Int):(pC xs lo hi).length<=xs.length:=by
 unfold pC
 rw [Ec,Ls]
 omega
def Og(K:aK):V->Option Int->Option Int->Hp->VK->Prop:=λx lo hi H Q=>∃a xs,x=.ref a/\jZ K H a xs /\
 ¬(HT.cH xs.length 0 lo=0/\HT.cH xs.length xs.length hi=xs.length)/\∀p,H p=none->Q (.ref p) (upd H p (.tup (pC xs lo hi)))
theorem b7q:Dz X (Og X.K):=by
 intro pins s σ H x v vl vu lo hi sl Q I rx hs pl pu h
 obtain ⟨a,xs,rfl,hx,hw,q⟩:=h
 cases rx
 obtain ⟨aw,r,ht,hz⟩:=I.tuple hx
 have hlen:aw.toArray.size=xs.length:=by rw [gh];exact r.length.symm
 refine ⟨"tuple",_,LM.lookup,ht.typeIs,?_⟩
 refine HT.jN ht hs pl pu (by rw [hlen];exact hw) ?_ (by rw [hlen];exact hz)
 rw [hlen]
 refine ⟨.ref s.heap.objs.size,_,I.laid (t':=s.toks) (o:=.tup (pC xs lo hi)) (λb ob q=>dY _ q) (cw _) ?_,rfl,q _ (I.bg.fresh (cw _))⟩
 exact ⟨pE (a5B xs lo hi) hz,_,(r.drop (HT.cH xs.length 0 lo)).take (HT.cH xs.length xs.length hi-HT.cH xs.length 0 lo),IsTup.new _ _⟩
def Gp(K:aK):R2:=λx y H Q=>∃a b xs ys,x=.ref a/\y=.ref b/\jZ K H a xs/\jZ K H b ys/\xs≠[]/\xs.length+ys.length<=sizeLine /\
 (ys=[]->Q (.ref a) H)/\(ys≠[]->∀p,H p=none->Q (.ref p) (upd H p (.tup (xs++ys))))
theorem aL.iL(r:aL xs us):us=[]↔xs=[]:=by
 cases r with
 | nil=>simp
 | cons _ _=>simp
theorem Ac:lG X (binaryOp .Add) (Gp X.K):=by
 intro pins s σ H x y v u Q I rx ry h
 obtain ⟨a,b,xs,ys,rfl,rfl,ha,hb,hx,hz,q1,q2⟩:=h
 cases rx
 cases ry
 obtain ⟨aw,r1,p1,_⟩:=I.tuple ha
 obtain ⟨ft,r2,p2,_⟩:=I.tuple hb
 refine HT.AI p1 p2 (λz=>hx (r1.iL.mp z)) (λz=>⟨.ref a,H,I,rfl,q1 (r2.iL.mp z)⟩) (λz=>?_) (by rw [<-r1.length,<-r2.length];exact hz)
 refine ⟨.ref s.heap.objs.size,_,I.laid (t':=s.toks) (o:=.tup (xs++ys)) (λb ob q=>dY _ q) (cw _) ?_,rfl,q2 (λw=>z (r2.iL.mpr w)) _ (I.bg.fresh (cw _))⟩
 exact ⟨by rw [fD];exact hz,_,r1.append r2,IsTup.new _ _⟩
end
end L2
namespace L2
open PySem PySem.Spec PyProof.Rows
def ni(n:Nat)(i:Int):Option Nat:=if 0<=i then (if i<n then some i.toNat else none) else if -(n:Int)<=i then some (i+n).toNat else none
def fq{α:Type}(xs:List α)(i:Int):Option α:=(ni xs.length i).bind λj=>xs[j]?
theorem Yw(h:ni n i=some j):seqIndex? i n=some j/\j<n /\ -(n:Int)<=i/\i<n:=by
 unfold ni at h
 by_cases h0:0<=i
 .rw [if_pos h0] at h
  by_cases h1:i<n
  .rw [if_pos h1] at h
   have e:i.toNat=j:=gp h
   exact ⟨by rw [seqIndex_of h0 h1,e],by omega,by omega,h1⟩
  .rw [if_neg h1] at h;cases h
 .rw [if_neg h0] at h
  by_cases h1:-(n:Int)<=i
  .rw [if_pos h1] at h
   have e:(i+n).toNat=j:=gp h
   exact ⟨by rw [seqIndex_neg (by omega) h1,e],by omega,h1,by omega⟩
  .rw [if_neg h1] at h;cases h
theorem So{α:Type}{xs:List α}{i:Int}{v:α}(h:fq xs i=some v):∃j,seqIndex? i xs.length=some j/\xs[j]?=some v/\j<xs.length /\ -(xs.length:Int)<=i/\i<xs.length:=by
 unfold fq at h
 cases e:ni xs.length i with
 | none=>rw [e] at h;cases h
 | some j =>
  rw [e] at h
  obtain ⟨h1,h2,h3,h4⟩:=Yw e
  exact ⟨j,h1,h,h2,h3,h4⟩
def Sm(b:Expr):Prop:=∀o i,subscripted b false o i=operate [o,i] (getItem o i)
def Ba(X:Cx)(r:R2):Prop:=
 ∀(value slice:Expr) (pins:List (Addr×Obj)) (s:Shared) (σ:St) (H:Hp) (x y:V) (v u:Value) (Q:VK),Inv X pins σ H s->RelV x v->RelV y u->r x y H Q ->
  subscripted slice false v u=operate [v,u] (getItem v u)->wpAny (model X.prog X.w) X.A (subscriptTail value slice v u) (EP X pins σ Q) X.xe s
def Ur(X:Cx)(id:String)(r:V->List V->Hp->VK->Prop):Prop:=
 ∀(pins:List (Addr×Obj)) (s:Shared) (σ:St) (H:Hp) (x:V) (xs:List V) (v:Value) (us:List Value) (Q:VK),Inv X pins σ H s->RelV x v->aL xs us->r x xs H Q ->
  wpAny (model X.prog X.w) X.A (call (.builtin id) (v::us)) (EP X pins σ Q) X.xe s
section
variable {X:Cx}{a b:Expr}{ta tb:TE}{pos:Pos}
theorem Ba.or(h:Ba X r)(h':Ba X r'):Ba X (λx y H Q=>r x y H Q\/r' x y H Q):=by
 intro value slice pins s σ H x y v u Q I rx ry q hs
 rcases q with q | q
 .exact h value slice pins s σ H x y v u Q I rx ry q hs
 .exact h' value slice pins s σ H x y v u Q I rx ry q hs
theorem XA(hr:Ba X r)(ha:PE X a ta)(hb:PE X b tb)(hs:Sm b):PE X (.Subscript a b pos) (FZ r ta tb):=by
 intro pins s σ H Q I h
 exact Subscript_ (Dc ha hb I h λv u s2 x y H2 I2 rx ry q=>hr a b pins s2 σ H2 x y v u Q I2 rx ry q (hs _ _))
def Gn(K:aK):R2:=λx y H Q=>∃p xs i v,x=.ref p/\y=.int i/\ic K H p xs/\fq xs i=some v/\Q v H
def Gk(K:aK):R2:=λx y H Q=>∃p xs i v,x=.ref p/\y=.int i/\jZ K H p xs/\fq xs i=some v/\Q v H
def Gm:R2:=λx y H Q=>∃z i c,x=.str z/\y=.int i/\z.length<=sizeLine/\fq z.cps.toList i=some c/\Q (.str ⟨#[c]⟩) H
theorem Ai:Ba X (Gn X.K):=by
 intro value slice pins s σ H x y v u Q I rx ry h hs
 obtain ⟨p,xs,i,z,rfl,rfl,hq,he,q⟩:=h
 cases rx
 obtain ⟨t,rfl⟩:=ry
 obtain ⟨aw,r,pl,hz⟩:=I.list hq
 obtain ⟨j,h1,h2,h3,h4,h5⟩:=So he
 obtain ⟨w,ew,Aa⟩:=r.get h2
 have hl:=r.length
 have hn:=Di
 have fin:EP X pins σ Q w s:=⟨z,H,I,Aa,q⟩
 by_cases h0:0<=i
 .have hj:i.toNat=j:=by
   rw [seqIndex_of h0 h5] at h1
   exact gp h1
  exact item_listR pl.isList h0 (by omega) (by rw [hj];simpa using ew) fin hs
 .have hj:(i+(aw.toArray.size:Int)).toNat=j:=by
   rw [seqIndex_neg (by omega) h4] at h1
   rw [gh,<-hl]
   exact gp h1
  exact subscriptTail_builtinR (x:=w) pl.isList.typeIs slot_list_getitem.lookup
   (wpAny_getItem_list_neg (Q:=λr s'=>r=w/\EP X pins σ Q r s') pl.isList (by omega) (by rw [gh]<;>omega) (by omega) (by rw [hj];simpa using ew) ⟨rfl,fin⟩) hs
theorem Cg:Ba X (Gk X.K):=by
 intro value slice pins s σ H x y v u Q I rx ry h hs
 obtain ⟨p,xs,i,z,rfl,rfl,hq,he,q⟩:=h
 cases rx
 obtain ⟨t,rfl⟩:=ry
 obtain ⟨aw,r,pl,hz⟩:=I.tuple hq
 obtain ⟨j,h1,h2,h3,h4,h5⟩:=So he
 obtain ⟨w,ew,Aa⟩:=r.get h2
 have hl:=r.length
 have hn:=Di
 have fin:EP X pins σ Q w s:=⟨z,H,I,Aa,q⟩
 exact subscriptTail_builtinR (x:=w) pl.typeIs LM.lookup
  (getItem_tuple (j:=j) (Q:=λr s'=>r=w/\EP X pins σ Q r s') pl (by omega) (by omega) (by rw [gh,<-hl];exact h1) (by simpa using ew) ⟨rfl,fin⟩) hs
theorem XZ:Ba X Gm:=by
 intro value slice pins s σ H x y v u Q I rx ry h hs
 obtain ⟨z,i,c,rfl,rfl,hz,he,q⟩:=h
 obtain ⟨t,rfl⟩:=rx
 obtain ⟨t',rfl⟩:=ry
 obtain ⟨j,h1,h2,h3,h4,h5⟩:=So he
 have hl:z.cps.toList.length=z.length:=by simp [Str.length]
 rw [hl] at h1 h4 h5
 have hn:=Di
 exact tail_any (typeIs_str s z t) slot_str_getitem.lookup (getItem_str (c:=c) (by
  have e1:decide (i < -(2^63:Int))=false:=decide_eq_false (by omega)
  have e2:decide (i≥2^63)=false:=decide_eq_false (by omega)
  rw [e1,e2,Bool.or_false]) (by rw [h1];simpa using h2) ⟨.str ⟨#[c]⟩,H,I.tok _,⟨_,rfl⟩,q⟩) hs
def rIx(K:aK):R2:=λx y H Q=>Gn K x y H Q\/Gk K x y H Q\/Gm x y H Q
theorem b8d:Ba X (rIx X.K):=Ai.or (Cg.or XZ)
theorem a9Y(aw:List Value)(n j:Nat)(u:Value):q8 (·.setIfInBounds j u) { cls:=.type "list",data:=.seq aw.toArray n }={ cls:=.type "list",data:=.seq (aw.set j u).toArray n }:=by
 simp [q8]
theorem Inv.lst(I:Inv X pins σ H s)(h:H p=some (.lst xs)):
  ∃(aw:List Value) (n:Nat),aL xs aw/\s.heap.get? p=some { cls:=.type "list",data:=.seq aw.toArray n }/\xs.length<=sizeLine:=by
 obtain ⟨z,aw,n,r,e⟩:=I.bg p _ h
 exact ⟨aw,n,r,e,z⟩
theorem Inv.Cf{pins:List (Addr×Obj)}{σ:St}{H:Hp}{s:Shared}{p:Addr}{xs ys:List V}{aw its':List Value}{n n':Nat}{f:Obj->Obj}(I:Inv X pins σ H s)(h:H p=some (.lst xs))
  (ho:s.heap.get? p=some { cls:=.type "list",data:=.seq aw.toArray n })(hf:f { cls:=.type "list",data:=.seq aw.toArray n }={ cls:=.type "list",data:=.seq its'.toArray n' })(r:aL ys its')(hz:ys.length<=sizeLine)(t:Nat):
  Inv X pins σ (upd H p (.lst ys)) { s with heap:=s.heap.update p f,toks:=t }:=by
 have e:(s.heap.update p f).get? p=some { cls:=.type "list",data:=.seq its'.toArray n' }:=by
  rw [LI f ho (by rw [hf]<;>rfl),hf]
 refine I.write (x:=p) (e:=p) (by rw [h];trivial) (.inl rfl) (λb u hb q=>(IY _ _ (lx hb)).trans q) ⟨_,e⟩ ?_
 exact ⟨hz,its',n',r,e⟩
def Gj:V->V->V->Hp->(Hp->Prop)->Prop:=λo i v H Q=>∃p xs k j,o=.ref p/\i=.int k/\H p=some (.lst xs)/\ni xs.length k=some j/\Q (upd H p (.lst (xs.set j v)))
theorem b2u:J2 X Gj:=by
 intro pins s σ H o i v ov iv u Q I ro ri rv h
 obtain ⟨p,xs,k,j,rfl,rfl,hp,hj,q⟩:=h
 cases ro
 obtain ⟨t,rfl⟩:=ri
 obtain ⟨aw,n,r,ho,hz⟩:=I.lst hp
 obtain ⟨h1,h2,h3,h4⟩:=Yw hj
 have hl:=r.length
 have hn:=Di
 have I':Inv X pins σ (upd H p (.lst (xs.set j v))) { s with heap:=s.heap.update p (q8 (·.setIfInBounds j u)) }:=
  I.Cf hp ho (a9Y aw n j u) (r.set rv j) (by rw [QE];exact hz) s.toks
 by_cases h0:0<=k
 .have hk:k.toNat=j:=by
   rw [seqIndex_of h0 h4] at h1
   exact gp h1
  exact PySem.W.ki_setAt ho h0 (by omega) (by rw [gh,<-hl];exact h4) (by rw [hk];exact ⟨_,I',q⟩)
 .have hk:(k+(aw.toArray.size:Int)).toNat=j:=by
   rw [seqIndex_neg (by omega) h3] at h1
   rw [gh,<-hl]
   exact gp h1
  exact PySem.W.ki_setBack ho (by omega) (by rw [gh,<-hl];exact h3) (by omega) (by rw [hk];exact ⟨_,I',q⟩)
theorem a69(lo hi:Option Int)(n:Nat):(sliceBounds lo hi none n).1=((HT.cH n 0 lo:Nat):Int)/\(sliceBounds lo hi none n).2.1=((HT.cH n n hi:Nat):Int)/\(sliceBounds lo hi none n).2.2=1:=by
 refine ⟨?_,?_,rfl⟩
 .cases lo with
  | none=>simp [sliceBounds,HT.cH]
  | some i =>
   simp only [sliceBounds,HT.cH,QM,show (1:Int)>0 by decide,if_true]
   by_cases h:i<0
   .simp only [h,if_true]<;>omega
   .simp only [h,if_false]<;>omega
 .cases hi with
  | none=>simp [sliceBounds,HT.cH]
  | some i =>
   simp only [sliceBounds,HT.cH,QM,show (1:Int)>0 by decide,if_true]
   by_cases h:i<0
   .simp only [h,if_true]<;>omega
   .simp only [h,if_false]<;>omega
theorem a6i(aw:List Value)(lo hi:Option Int):slicePick aw.toArray lo hi none=((aw.drop (HT.cH aw.length 0 lo)).take (HT.cH aw.length aw.length hi-HT.cH aw.length 0 lo)).toArray:=by
 obtain ⟨h1,h2,h3⟩:=a69 lo hi aw.toArray.size
 unfold slicePick
 rw [h1,h2,h3]
 simp only [sliceRange_one,pick_run,gh]<;>rfl
def Oh(K:aK):V->Option Int->Option Int->Hp->VK->Prop:=λx lo hi H Q=>∃a xs,x=.ref a/\ic K H a xs/\∀p,H p=none->Q (.ref p) (upd H p (.lst (pC xs lo hi)))
theorem z7:Dz X (Oh X.K):=by
 intro pins s σ H x v vl vu lo hi sl Q I rx hs pl pu h
 obtain ⟨a,xs,rfl,hx,q⟩:=h
 cases rx
 obtain ⟨aw,r,ht,hz⟩:=I.list hx
 have hlen:=r.length
 refine ⟨"list",_,slot_list_getitem.lookup,ht.isList.typeIs,?_⟩
 refine wpAny_getItem_list_slice ht.isList hs pl pu .none (by simp) ?_ (by rw [gh]<;>omega)
 rw [a6i,<-hlen]
 refine ⟨.ref s.heap.objs.size,_,I.laid (t':=s.toks) (o:=.lst (pC xs lo hi)) (λb ob q=>dY _ q) (cw _) ?_,rfl,q _ (I.bg.fresh (cw _))⟩
 exact ⟨pE (a5B xs lo hi) hz,_,0,(r.drop (HT.cH xs.length 0 lo)).take (HT.cH xs.length xs.length hi-HT.cH xs.length 0 lo),jx _ rfl⟩
theorem a7L:wC X (.builtin "len") (λxs H Q=>∃p ys,xs=[.ref p]/\(ic X.K H p ys\/jZ X.K H p ys)/\Q (.int ys.length) H):=by
 intro pins s σ H xs us Q I r h
 obtain ⟨p,ys,rfl,hq,q⟩:=h
 obtain ⟨u,rfl,rx⟩:=vals1 r
 cases rx
 have hn:=Di
 rcases hq with hq | hq
 .obtain ⟨aw,r',pl,hz⟩:=I.list hq
  have hlen:=r'.length
  exact Calls.call_len_list pl.isList (by simp only [gh]<;>omega) ⟨.int ys.length,H,I.tok _,⟨s.toks+1,by rw [gh,hlen]⟩,q⟩
 .obtain ⟨aw,r',pl,hz⟩:=I.tuple hq
  have hlen:=r'.length
  exact len_tuple pl (by simp only [gh]<;>omega) ⟨.int ys.length,H,I.tok _,⟨s.toks+1,by rw [gh,hlen]⟩,q⟩
theorem a7K:wC X (.builtin "len") (λxs H Q=>∃z,xs=[.str z]/\z.length<=sizeLine/\Q (.int z.length) H):=by
 intro pins s σ H xs us Q I r h
 obtain ⟨z,rfl,hz,q⟩:=h
 obtain ⟨u,rfl,t,rfl⟩:=vals1 r
 have hn:=Di
 exact len_str (by omega) ⟨.int z.length,H,I.tok _,⟨_,rfl⟩,q⟩
theorem a7J:wC X (.type "list") (λxs H Q=>∃p ys,xs=[.ref p]/\(ic X.K H p ys\/jZ X.K H p ys)/\∀l,H l=none->Q (.ref l) (upd H l (.lst ys))):=by
 intro pins s σ H xs us Q I r h
 obtain ⟨p,ys,rfl,hq,q⟩:=h
 obtain ⟨u,rfl,rx⟩:=vals1 r
 cases rx
 have fin:∀(aw:List Value),aL ys aw->ys.length<=sizeLine->∀(h':Heap) (c':Nat),(∀b o',s.heap.get? b=some o'->h'.get? b=some o') ->
   h'.get? s.heap.objs.size=some { cls:=.type "list",dict:=none,data:=.seq aw.toArray c',slots:=#[] }->EP X pins σ Q (.ref s.heap.objs.size) { s with heap:=h' }:=λaw r' hz h' c' kp e =>
  ⟨.ref s.heap.objs.size,_,I.laid (t':=s.toks) kp (cw _) (show cb X.prog X.w _ h' _ (.lst ys) from ⟨hz,aw,c',r',e⟩),rfl,q _ (I.bg.fresh (cw _))⟩
 rcases hq with hq | hq
 .obtain ⟨aw,r',pl,hz⟩:=I.list hq
  have hlen:=r'.length
  obtain ⟨o,ho,hc,n,hd⟩:=pl.isList
  exact call_list_seq p (.inl rfl) ho hc hd (λh' c' kp e=>fin aw r' hz h' c' kp e) (by simp only [gh]<;>omega)
 .obtain ⟨aw,r',pl,hz⟩:=I.tuple hq
  have hlen:=r'.length
  obtain ⟨o,ho,hc,n,hd⟩:=pl
  exact call_list_seq p (.inr rfl) ho hc hd (λh' c' kp e=>fin aw r' hz h' c' kp e) (by simp only [gh]<;>omega)
def NP(K:aK)(T:String)(x:V)(H:Hp):Prop:=match x with
 | .str _=>T = "str"
 | .int _=>T = "int"
 | .ref p=>(T = "list" /\ ∃xs,ic K H p xs)\/(T = "tuple" /\ ∃o,K.lookup p=some o/\o.cls=.type "tuple" /\ o.dict=none) \/
   (T = "dict" /\ ((∃aA,H p=some (.dK aA))\/∃aA,H p=some (.dT aA)))\/(T = "set" /\ ∃S n,H p=some (.set S n))
 | _=>False
theorem Yi{pins:List (Addr×Obj)}{σ:St}{H:Hp}{s:Shared}{T:String}{x:V}{v:Value}(I:Inv X pins σ H s)(r:RelV x v)(ty:NP X.K T x H):
  s.TypeIs v T/\∀a,v=.ref a->∃ob,s.heap.get? a=some ob/\ob.dict=none:=by
 cases x with
 | str z =>
  obtain ⟨t,rfl⟩:=r
  cases (show T = "str" from ty)
  exact ⟨typeIs_str s z t,λ_ e=>nomatch e⟩
 | int i =>
  obtain ⟨t,rfl⟩:=r
  cases (show T = "int" from ty)
  exact ⟨typeIs_int s i t,λ_ e=>nomatch e⟩
 | ref p =>
  cases r
  rcases ty with ⟨rfl,xs,hq⟩ | ⟨rfl,o,hk,hc,hd⟩ | ⟨rfl,hk⟩ | ⟨rfl,S,n,hk⟩
  .obtain ⟨aw,_,pl,_⟩:=I.list hq
   refine ⟨pl.isList.typeIs,λa e=>?_⟩
   cases e
   obtain ⟨o,n,e,c,hd,_⟩:=pl
   exact ⟨o,e,hd⟩
  .refine ⟨⟨o,I.kA p o hk,hc⟩,λa e=>?_⟩
   cases e
   exact ⟨o,I.kA _ o hk,hd⟩
  .have z:∃o,s.heap.get? p=some o/\o.ExactDict:=by
    rcases hk with ⟨aA,hk⟩ | ⟨aA,hk⟩
    .obtain ⟨_,_,_,_,o,_,_,e,ex,_⟩:=I.bg p _ hk
     exact ⟨o,e,ex⟩
    .obtain ⟨_,_,_,_,o,_,_,e,ex,_⟩:=I.bg p _ hk
     exact ⟨o,e,ex⟩
   obtain ⟨o,e,ex⟩:=z
   refine ⟨⟨o,e,ex.1⟩,λa e2=>?_⟩
   cases e2
   exact ⟨o,e,ex.2.1⟩
  .obtain ⟨o,_,_,_,e,ex,_⟩:=I.bg p _ hk
   refine ⟨⟨o,e,ex.1⟩,λa e2=>?_⟩
   cases e2
   exact ⟨o,e,ex.2.1⟩
 | _=>exact eA ty
def N2(K:aK)(T:String)(r:V->List V->Hp->VK->Prop)(to:TE):TE:=λσ H Q=>to σ H λx H1=>NP K T x H1/\r x [] H1 Q
def tBM(K:aK)(T:String)(r:V->List V->Hp->VK->Prop)(to:TE)(t:TA):TE:=λσ H Q=>to σ H λx H1=>NP K T x H1/\t σ H1 λxs H2=>r x xs H2 Q
variable {o e:Expr}{es:List Expr}{to:TE}{t:TA}{name:Str}{apos au:Pos}{T id:String}{r:V->List V->Hp->VK->Prop}
theorem RT(pa:PlainAttrs T)(slot:Slot T name id)(O7:typeOf (.builtin id)=pure (.type "method_descriptor"))(hm:Ur X id r)(ho:PE X o to)
  (bB:attributeBase o name X.env (eval o X.env)=eval o X.env:=by rfl)(bA:(apos.endLine==au.line)=true:=by rfl):PE X (.Call (.Attribute o name apos) [] [] au) (N2 X.K T r to):=by
 intro pins s σ H Q I h
 refine wpAny_Call_method0_late bB bA (bJ (ho pins s σ H _ I h) λv s1 ⟨x,H1,I1,r1,ty,q1⟩=>?_)
 obtain ⟨h1,h2⟩:=Yi I1 r1 ty
 exact ⟨T,id,pa,slot,O7,h1,h2,QU rfl (PySem.evalArgs_none (hm pins s1 σ H1 x [] v [] Q I1 r1 .nil q1))⟩
theorem L3(pa:PlainAttrs T)(slot:Slot T name id)(O7:typeOf (.builtin id)=pure (.type "method_descriptor"))(hm:Ur X id r)(ho:PE X o to)(ha:PA X (e::es) t)
  (bB:attributeBase o name X.env (eval o X.env)=eval o X.env:=by rfl)
  (gE:((backTo au (starEach (e::es) X.env)).all (λx=>!x.1)&&(backToKw au (keywordEach [] X.env)).all (λx=>x.1.isSome)
   && decide ((e::es).length+([]:List Keyword).length+(if ([]:List Keyword).isEmpty then 0 else 1)<30))=true:=by rfl)
  (bA:(apos.endLine==au.line)=true:=by rfl)(hs:starEach (e::es) X.env=(false,eval e X.env)::starEach es X.env:=by rfl)(Cm:(backTo au (starEach es X.env)).any (·.1)=false:=by rfl):
  PE X (.Call (.Attribute o name apos) (e::es) [] au) (tBM X.K T r to t):=by
 intro pins s σ H Q I h
 refine wpAny_Call_method_late bB gE bA rfl (bJ (ho pins s σ H _ I h) λv s1 ⟨x,H1,I1,r1,ty,q1⟩=>?_)
 obtain ⟨h1,h2⟩:=Yi I1 r1 ty
 refine ⟨T,id,pa,slot,O7,h1,h2,?_⟩
 have hA:=ha au pins s1 σ H1 _ I1 q1
 rw [hs] at hA ⊢
 refine QU (by show (false||(backTo au (starEach es X.env)).any (·.1))=false;rw [Cm]<;>rfl) (WM ?_)
 exact bJ hA λus s2 ⟨vs,H2,I2,r2,q2⟩=>hm pins s2 σ H2 x vs v us Q I2 r1 r2 q2
end
end L2
namespace L2
open PySem PySem.Spec PyProof.Rows
def Nb(X:Cx)(id:String)(r:V->List V->Hp->VK->Prop):Prop:=
 ∀(pins:List (Addr×Obj)) (s:Shared) (σ:St) (H:Hp) (x:V) (xs:List V) (v:Value) (us:List Value) (Q:VK),Inv X pins σ H s->RelV x v->aL xs us->r x xs H Q ->
  wpAny (model X.prog X.w) X.A (call (.builtin id) (v::us)) (EP X pins σ Q) X.xe s
theorem aL.one:∀{x:V} {us:List Value},aL [x] us->∃u,us=[u]/\RelV x u
 | _,_,.cons r .nil=>⟨_,rfl,r⟩
theorem aL.zero:∀{us:List Value},aL [] us->us=[]
 | _,.nil=>rfl
theorem aL.dropLast(h:aL xs us):aL xs.dropLast us.dropLast:=by
 induction h with
 | nil=>exact .nil
 | cons r t ih =>
  cases t with
  | nil=>exact .nil
  | cons q t'=>exact .cons r ih
theorem aL.reverse(h:aL xs us):aL xs.reverse us.reverse:=by
 induction h with
 | nil=>exact .nil
 | cons r t ih=>rw [Lk,Lk];exact aL.append ih (.cons r .nil)
theorem b0a{α:Type}(l:List α):l.eraseIdx (l.length-1)=l.dropLast:=by
 induction l with
 | nil=>rfl
 | cons a r ih =>
  cases r with
  | nil=>rfl
  | cons b r =>
   have e:(a::b::r).length-1=((b::r).length-1)+1:=by
    have h1:(a::b::r).length=r.length+2:=rfl
    have h2:(b::r).length=r.length+1:=rfl
    omega
   rw [e,List.eraseIdx_cons_succ,ih]
   all_goals rfl
section
variable {X:Cx}{pins:List (Addr×Obj)}{σ:St}{H:Hp}{s:Shared}{l b:Addr}{xs ys zs:List V}
theorem Inv.Ag{aw its':List Value}{n:Nat}{t':Nat}(I:Inv X pins σ H s)(hH:H l=some (.lst xs))
  (e:s.heap.get? l=some { cls:=.type "list",data:=.seq aw.toArray n })(hf:f aw.toArray=its'.toArray)(hv:aL ys its')(hz:ys.length<=sizeLine):
  Inv X pins σ (upd H l (.lst ys)) { s with heap:=s.heap.update l (q8 f),toks:=t' }:=by
 have q:=PySem.IsL.update e f
 rw [hf] at q
 refine I.write (x:=l) (e:=l) (by rw [hH];exact trivial) (.inl rfl) (λb' u hb hu=>(IY s.heap (q8 f) (lx hb)).trans hu) ⟨_,q⟩ ?_
 exact ⟨hz,its',_,hv,q⟩
theorem Inv.OL(I:Inv X pins σ H s)(hv:aL ys aw)(hz:ys.length<=sizeLine):
  Inv X pins σ (upd H s.heap.objs.size (.lst ys)) { s with heap:=s.heap.push { cls:=.type "list",data:=.seq aw.toArray },toks:=t' }:=
 I.laid (λ_ _ q=>dY _ q) (cw _) ⟨hz,aw,0,hv,jx _ rfl⟩
theorem Inv.fresh(I:Inv X pins σ H s):H s.heap.objs.size=none:=I.bg.fresh (cw _)
theorem Inv.qF(I:Inv X pins σ H s)(hH:H l=some (.lst xs)):xs.length<=sizeLine/\∃(aw:List Value) (n:Nat),aL xs aw/\xs.length=aw.length/\s.heap.get? l=some { cls:=.type "list",data:=.seq aw.toArray n }:=by
 obtain ⟨z,aw,n,r,e⟩:=I.bg l _ hH
 exact ⟨z,aw,n,r,r.length,e⟩
theorem b2O(h:n<=sizeLine):Rg n=false:=by
 unfold Rg
 exact decide_eq_false (by omega)
end
section
variable {X:Cx}
def b46:V->List V->Hp->VK->Prop:=λx vs H Q=>∃l xs y,x=.ref l/\vs=[y]/\H l=some (.lst xs)/\xs.length<sizeLine/\Q .cj (upd H l (.lst (xs++[y])))
theorem ZH:Nb X "list.append" b46:=by
 intro pins s σ H x vs v us Q I rx rv h
 obtain ⟨l,xs,y,rfl,rfl,hH,hz,q⟩:=h
 cases rx
 obtain ⟨u,rfl,ru⟩:=rv.one
 obtain ⟨z,aw,n,r,hl,e⟩:=I.qF hH
 refine D3 QT ⟨_,e,rfl⟩ F.entry_list_append (F.args_list_append_2 _ _) (PySem.list_append l aw.toArray n u (by rw [gh];omega)) ⟨e,?_⟩
 refine ⟨.cj,_,I.Ag (its':=aw++[u]) hH e (by simp) (r.append (.cons ru .nil)) ?_,rfl,q⟩
 rw [fD,yv]
 omega
def b45:V->List V->Hp->VK->Prop:=λx vs H Q=>∃l b xs zs,x=.ref l/\vs=[.ref b]/\H l=some (.lst xs)/\H b=some (.lst zs)/\xs.length+zs.length<=sizeLine/\Q .cj (upd H l (.lst (xs++zs)))
theorem b1a:Nb X "list.extend" b45:=by
 intro pins s σ H x vs v us Q I rx rv h
 obtain ⟨l,b,xs,zs,rfl,rfl,hH,hB,hz,q⟩:=h
 cases rx
 obtain ⟨u,rfl,ru⟩:=rv.one
 cases ru
 obtain ⟨z,aw,n,r,hl,e⟩:=I.qF hH
 obtain ⟨z2,ft,n2,r2,DT,e2⟩:=I.qF hB
 have hsz:aw.toArray.size+ft.toArray.size<=sizeLine:=by rw [gh,gh];omega
 have Hl:¬(!aw.toArray.isEmpty&&Rg (aw.toArray.size+ft.toArray.size))=true:=by
  rw [b2O hsz,Bool.and_false]
  exact wj
 refine D3 WC ⟨_,e,rfl⟩ F.entry_list_extend (F.args_list_extend_2 _ _)
  (AutoSeq1.list_extend_list_list_0 l aw.toArray n b ft.toArray n2 Hl (by rw [gh];omega) (by omega)) ⟨e,e2,?_⟩
 refine ⟨.cj,_,I.Ag (its':=aw++ft) hH e (by simp) (r.append r2) ?_,rfl,q⟩
 rw [fD]
 omega
def Oi:V->List V->Hp->VK->Prop:=λx vs H Q=>∃l xs y,x=.ref l/\vs=[]/\H l=some (.lst xs)/\xs[xs.length-1]?=some y/\Q y (upd H l (.lst xs.dropLast))
theorem X4:Nb X "list.pop" Oi:=by
 intro pins s σ H x vs v us Q I rx rv h
 obtain ⟨l,xs,y,rfl,rfl,hH,hy,q⟩:=h
 cases rx
 have O6:=rv.zero
 subst O6
 obtain ⟨z,aw,n,r,hl,e⟩:=I.qF hH
 obtain ⟨u,hu,ru⟩:=r.get hy
 have Bo:aw.toArray[aw.toArray.size-1]?=some u:=by
  show aw.toArray[aw.length-1]?=some u
  rw [<-LH,<-hl]
  exact hu
 refine D3 Q1 ⟨_,e,rfl⟩ F.entry_list_pop (F.args_list_pop_1 _) (MeetsSeq.list_pop_last l aw.toArray n u Bo (by rw [gh];omega)) ⟨e,?_⟩
 refine ⟨y,_,I.Ag (its':=aw.dropLast) hH e ?_ r.dropLast ?_,ru,q⟩
 .show aw.toArray.eraseIdxIfInBounds (aw.toArray.size-1)=aw.dropLast.toArray
  rw [gh,List.eraseIdxIfInBounds_toArray,b0a]
 .rw [List.length_dropLast]
  omega
def b2B:V->List V->Hp->VK->Prop:=λx vs H Q=>∃l xs,x=.ref l/\vs=[]/\H l=some (.lst xs)/\Q .cj (upd H l (.lst xs.reverse))
theorem a9X:Nb X "list.reverse" b2B:=by
 intro pins s σ H x vs v us Q I rx rv h
 obtain ⟨l,xs,rfl,rfl,hH,q⟩:=h
 cases rx
 have O6:=rv.zero
 subst O6
 obtain ⟨z,aw,n,r,hl,e⟩:=I.qF hH
 refine D3 WD ⟨_,e,rfl⟩ F.entry_list_reverse (F.args_list_reverse_1 _) (AutoSeq1.list_reverse_list_0 l aw.toArray n (by rw [gh];omega)) ⟨e,?_⟩
 refine ⟨.cj,_,I.Ag (its':=aw.reverse) hH e (by simp) r.reverse ?_,rfl,q⟩
 rw [List.length_reverse]
 omega
def Oo:R2:=λx y H Q=>∃l b xs zs,x=.ref l/\y=.ref b/\H l=some (.lst xs)/\H b=some (.lst zs)/\xs.length+zs.length<=sizeLine/\∀p,H p=none->Q (.ref p) (upd H p (.lst (xs++zs)))
theorem B8:lG X (binaryOp .Add) Oo:=by
 intro pins s σ H x y v u Q I rx ry h
 obtain ⟨l,b,xs,zs,rfl,rfl,hH,hB,hz,q⟩:=h
 cases rx
 cases ry
 obtain ⟨z,aw,n,r,hl,e⟩:=I.qF hH
 obtain ⟨z2,ft,n2,r2,DT,e2⟩:=I.qF hB
 refine PySem.P.add_list e e2 ?_ (by rw [gh,gh];omega)
 have ea:aw.toArray++ft.toArray=(aw++ft).toArray:=by simp
 rw [ea]
 exact ⟨.ref _,_,I.OL (t':=s.toks) (r.append r2) (by rw [fD];omega),rfl,q _ I.fresh⟩
end
section
variable {prog:Program}{w:World}{A:Around}{E:Value->Shared->Prop}{s:Shared}
end
section
variable {X:Cx}
end
end L2
namespace Att
open PySem PySem.W PySem.Calls PyProof.Rows
theorem a5y:∀(ns:List Int) (vs:List Value),WellAll P h vs (ns.map WData.int)->IntsAre vs ns:=by
 intro ns
 induction ns with
 | nil =>
  intro vs w
  rw [List.map_nil] at w
  cases w
  exact .nil
 | cons n ns ih =>
  intro vs w
  rw [fE] at w
  cases w with
  | cons a b =>
   cases a
   exact .cons _ _ (ih _ b)
theorem b0G{l:OpenLaw}{n:Nat}(hn:l.most=some n){h:Heap}
  (Am:l.row.toRowW.claim.pre args=true)(Ci:WellAll P h vals args):
  ∃a vs ns,vals=[cR a]/\args=[WData.list (ns.map WData.int)]/\h.get? a=some { cls:=.type "list",data:=.seq vs.toArray }/\IntsAre vs ns/\ns.length<=n:=by
 have O9:WShape.hasAll [] args [.list .int]=true:=(pre_splitW Am).1
 have hc:l.pre.holds [] { args:=args }=true:=(pre_splitW Am).2
 obtain ⟨d,r,rfl,h1,h2⟩:=hasAllW_cons O9
 obtain rfl:=hasAllW_nil h2
 obtain ⟨xs,rfl,h3⟩:=hasW_list h1
 obtain ⟨ns,rfl⟩:=items_int h3
 have hlen:ns.length<=n:=by
  unfold OpenLaw.pre at hc
  have h4:(WTm.not (.lt (.lit (.int (n:Int))) (.len (.arg 0)))).holds [] { args:=[.list (ns.map .int)] }=true:=by
   have h4:=(holds_andW hc).1
   rw [hn] at h4
   exact h4
  have h5:=condW_of h4 (w_not (w_lt w_lit (w_len_list (w_arg rfl))))
  rw [bY] at h5
  refine Nat.le_of_not_lt λq=>?_
  have q':(n:Int)<((ns.length:Nat):Int):=by omega
  first
   | (rw [decide_eq_true q'] at h5;exact absurd h5 (by decide))
   | (simp at h5;omega)
 cases Ci with
 | cons w1 w2 =>
  cases w2
  cases w1 with
  | list ho qM=>exact ⟨_,_,ns,rfl,rfl,ho,a5y ns _ qM,hlen⟩
theorem b0R(l:OpenLaw)(args:List WData):l.row.toRowW.claim.post args (.bool true) args=true:=
 postW_of (r:=l.row.toRowW) (X:=(true==true))
  (show WShape.has [] (.bool true) .bool=true by first | rfl | decide | simp [WShape.has,WShape.arms,WShape.armsAll])
  (show (WTm.eq .res (.lit (.bool true))).value [] { args:=args,res:=some (.bool true),after:=args }=some (.bool (true==true)) from w_eq_bool (w_res rfl) w_lit) rfl
theorem pI{l:OpenLaw}{n:Nat}{loose:List Str}{d:DefRec}
  (hn:l.most=some n)(HA:d.params.defaults=[])
  (call:∀(w:World) (c6 aR:Shared) (mg mb:Str->Option Value) (fa:Addr) (o:Obj) (pm cd doc:Value) (a:Addr) (vs:List Value) (ns:List Int),
   Ground q loose [] XP w c6 mg mb aR.heap->YP w aR.heap ->
   aR.heap.get? fa=some o->o.data=.func (docDef d.name d.params d.body d.scope pm cd doc)->aR.heap.CodeRec cd d.name->mg d.name=some (.ref fa) ->
   aR.heap.get? a=some { cls:=.type "list",data:=.seq vs.toArray }->IntsAre vs ns->ns.length<=n->aR.gens=#[] ->
   codeAny (model l.prog w) callerA (.call (.ref fa) ⟨[.ref a],[]⟩) (λr s'=>r=.ok (.ret (.bool true))/\OldK aR.heap s'.heap/\s'.os=aR.os/\AllBare s'.gens) aR):
  WalkO q loose XP YP l.row.toRowW d [] (λf vs=>Qk f vs):=by
 intro w c6 aR mg mb G Y fa o pm cd doc dV kV ho hd bM hD Hk hg args vals as Am hlay hrd Ci KP
 obtain rfl:dV=.none:=Dflts.none hD HA
 obtain rfl:kV=.none:=Dflts.noKw hD
 obtain ⟨a,vs,ns,rfl,rfl,Cp,hints,hlen⟩:=b0G hn Am Ci
 refine enter_call (zx (call w c6 aR mg mb fa o pm cd doc a vs ns G Y ho (fd_plain hd) bM Hk Cp hints hlen hg) λr s' hq=>?_)
 obtain ⟨rfl,h2,h3,h4⟩:=hq
 exact ⟨.inl ⟨.bool true,.bool true,[],rfl,λ_=>rfl,.bool true,b0R l _,λ_=>⟨IS,λ_ hm=>(nomatch hm)⟩⟩,h2,h3,h4⟩
section
variable {prog:Program}{w:World}{A:Around}{E:Value->Shared->Prop}{s:Shared}{K:Frag}
end
end Att
namespace L2
open PySem PySem.Spec PyProof.Rows
theorem ZZ:∀{vs:List Value} {ns:List Int},IntsAre vs ns->aL (ns.map V.int) vs
 | _,_,.nil=>.nil
 | _,_,.cons n t h=>.cons ⟨t,rfl⟩ (ZZ h)
theorem MU{α:Type}{c:Prop}[Decidable c]{a b:α}(h:(if c then some a else none)=some b):c/\a=b:=by
 by_cases hc:c
 .rw [if_pos hc] at h;exact ⟨hc,gp h⟩
 .rw [if_neg hc] at h;cases h
def Ah:Str:="dealt.<locals>.<lambda>"
def Tb(K:aK)(H:Hp):Prop:=∀c P,wq K "dealt" = some (c,P)->H P=some (.tab Ah)
def L0(K:aK)(ts:List Addr):Bool:=match wq K "dealt" with
 | some (c,P)=>Wp K c P&&(K.lookup P).isNone&&ts.contains P
 | none=>true
theorem b2P{P:Program}{w:World}{K:aK}{mg mb:Str->Option Value}{CX:tN}{k:Nat}{fa a:Addr}{fd:FuncData}{x:Str}{sp:Sp}{aR:Shared}{vs:List Value}{ns:List Int}{ts:List Addr}
  (KX:K.In aR.heap)(Bp:aR.heap.Ns mainGlobals mg)(hb:aR.heap.Ns builtinsNs mb)(hbb:∀x:Str,x ≠ "__name__" -> mb x=bootBuiltins x)(Pg:aR.heap.NoLimit)(hg:aR.gens=#[])
  (hbm:∃bm ob,mg "__builtins__" = some (.ref bm)/\bm≠builtinsNs/\aR.heap.get? bm=some ob/\ob.cls=.type "module" /\ ob.dict=some builtinsNs/\ob.data=.plain)
  (hL:L0 K ts=true)(HH:∀P∈ts,aR.heap.get? P=some (Em #[]))
  (ha:aR.heap.get? a=some { cls:=.type "list",data:=.seq vs.toArray })(hi:IntsAre vs ns)(hl:ns.length<=sizeLine)(hr:bZ k callerA)
  (F:∀base:Heap,K.In base->base.Ns mainGlobals mg->bD P w K mg base CX k fa fd [x] sp)(HF:∀(s:Shared) (u:Value),BindsTo s fd ⟨[u],[]⟩ [(x,u)])
  (sG:∀H:Hp,Tb K H->ic K H a (ns.map V.int)->sp [.ref a] H (λv H'=>v=.bl true/\Tb K H') λ_ _ _=>False)
  (PF:∀H e s',CX [] H aR (λ_ _ _=>False) e s'->False):
  codeAny (model P w) callerA (.call (.ref fa) ⟨[.ref a],[]⟩) (λr s'=>r=.ok (.ret (.bool true))/\OldK aR.heap s'.heap/\s'.os=aR.os/\AllBare s'.gens) aR:=by
 have rv:=ZZ hi
 have ON:=hi.length
 have tabs:∀c P,wq K "dealt" = some (c,P)->Wp K c P=true/\K.lookup P=none/\aR.heap.get? P=some (Em #[]):=λc P e=>by
  unfold L0 at hL
  rw [e] at hL
  simp only [BE,Option.isNone_iff_eq_none,List.contains_iff_mem] at hL
  exact ⟨hL.1.1,hL.1.2,HH P hL.2⟩
 have core:∀H:Hp,Tb K H->ic K H a (ns.map V.int)->g7 P w H aR.heap->(∀b,H b≠none->(b=a/\∃o xs,H b=some (.jP o (.lst xs)))\/∃c,wq K "dealt" = some (c,b))->(H a≠none->K.lookup a=none) ->
   codeAny (model P w) callerA (.call (.ref fa) ⟨[.ref a],[]⟩) (λr s'=>r=.ok (.ret (.bool true))/\OldK aR.heap s'.heap/\s'.os=aR.os/\AllBare s'.gens) aR:=by
  intro H hO hS bg hA hK
  have nZ:∀{b:Addr} {o:Obj},aR.heap.get? b=some o->H b=none->(nW aR.heap H).get? b=some o:=λe n=>b23 e n
  have Vq:∀{b:Addr} {o:Obj},aR.heap.get? b=some o->(∀xs n,o.data≠.seq xs n)->(∀xs,o.data=.fields xs->o.cls≠.none)->H b=none:=λ{b o} e d d2=>by
   cases q:H b with
   | none=>rfl
   | some u =>
    rcases hA b (by rw [q];simp) with ⟨e',_⟩ | ⟨c,e'⟩
    .subst e'
     rw [ha] at e;cases e
     exact absurd rfl (d _ _)
    .rw [(tabs c b e').2.2] at e;cases e
     exact absurd rfl (d2 _ rfl)
  have KA:∀{b:Addr} {m:Str->Option Value},aR.heap.Ns b m->(nW aR.heap H).Ns b m:=λ{b m} ⟨o,es,ep,e,d,r⟩=>⟨o,es,ep,nZ e (Vq e (λ_ _ z=>by rw [d] at z;cases z) λ_ z=>by rw [d] at z;cases z),d,r⟩
  have VW:K.In (nW aR.heap H):=λb o e=>nZ (KX b o e) (by
   cases q:H b with
   | none=>rfl
   | some u =>
    rcases hA b (by rw [q];simp) with ⟨e',_⟩ | ⟨c,e'⟩
    .subst e'
     rw [hK (by rw [q];simp)] at e;cases e
    .rw [(tabs c b e').2.1] at e;cases e)
  have hM:Mod K mg (nW aR.heap H):=⟨VW,KA Bp,⟨mb,KA hb,hbb⟩,let ⟨mc,h1,h2⟩:=Pg;⟨mc,KA h1,h2⟩,let ⟨bm,ob,b1,b2,b3,b4,b5,b6⟩:=hbm;⟨bm,ob,b1,b2,nZ b3 (Vq b3 (λ_ _ z=>by rw [b6] at z;cases z) λ_ z=>by rw [b6] at z;cases z),b4,b5,b6⟩⟩
  have e0:rL P w K mg (nW aR.heap H) callerA [] aR H:=⟨rfl,hM,λb o e=>b5q e,Qc (b1I _ _),trivial,λb hb=>absurd (show b∈([]:List Addr) from hb) (by simp),bg,.of_eq hg⟩
  refine zx ((F _ VW (KA Bp)).run callerA [] aR H ⟨[.ref a],[]⟩ [.ref a] [.ref a] _ _ hr e0 (HF aR (.ref a)) (.cons rfl .nil) (sG H hO hS)) λr s' h=>?_
  cases r with
  | error e=>exact (PF H e s' h).elim
  | ok fl =>
   cases fl with
   | next=>exact eA h
   | brk=>exact eA h
   | cont=>exact eA h
   | ret u =>
    obtain ⟨v,H',os,bare,un,Hj,r',q,qT⟩:=h
    subst q
    obtain rfl:u=qa true:=r'
    have old:∀b o,aR.heap.get? b=some o->s'.heap.get? b=some o\/∃c ps,wq K "dealt" = some (c,b)/\s'.heap.get? b=some (Em ps):=λb o e=>by
     cases q:H b with
     | none=>exact .inl (un.keep b o e q (by intro z;exact absurd (show b∈([]:List Addr) from z) (by simp)) (by simp))
     | some u =>
      rcases hA b (by rw [q];simp) with ⟨_,ob,xs,z⟩ | ⟨c,e'⟩
      .have z2:=un.jl b ob _ z
       obtain ⟨e1,_⟩:=bg b _ z
       obtain ⟨e2,_⟩:=Hj b _ z2
       rw [e] at e1;cases e1
       exact .inl e2
      .obtain ⟨ps,e2,_⟩:=Hj b _ (qT c b e')
       exact .inr ⟨c,ps,e',e2⟩
    refine ⟨rfl,⟨λb o e=>?_,λb o e=>?_⟩,os,bare⟩
    .rcases old b o e with z | ⟨c,ps,e',z⟩
     .exact .inl z
     .obtain ⟨t1,_,t3⟩:=tabs c b e'
      rw [t3] at e;cases e
      exact .inr (.inl ⟨((PySem.W.codeHd_of_K KX t1).tab t3).isCodeTable,rfl,#[],ps,rfl,by rw [Array.empty_append];exact z⟩)
    .rcases old b o e with z | ⟨c,ps,e',z⟩
     .exact ⟨o,z⟩
     .exact ⟨_,z⟩
 have Vp:∀(H:Hp) (b:Addr),(∃c,wq K "dealt" = some (c,b))->cb P w H aR.heap b (.tab Ah):=λH b ⟨c,e⟩=>⟨#[],(tabs c b e).2.2,trivial,λpos cv h=>by simp [codeAmong] at h⟩
 have Vs:∀c b,wq K "dealt" = some (c,b)->b≠a:=λc b e z=>by
  have:=(tabs c b e).2.2
  rw [z,ha] at this
  cases this
 cases hk:K.lookup a with
 | some o =>
  have e:=KX a o hk
  rw [ha] at e
  cases e
  refine core (λb=>if (wq K "dealt").map (·.2)=some b then some (.tab Ah) else none) (λc b e=>if_pos (by rw [e];rfl)) (.inr ⟨_,vs.toArray,_,hk,rfl,rfl,rfl,by rw [gh,ON];exact hl,by simpa using rv⟩) (λb u z=>?_) (λb z=>?_) λz=>?_
  .obtain ⟨hc,rfl⟩:=(MU z)
   obtain ⟨⟨c,b'⟩,e,rfl⟩:=Ew.mp hc
   exact Vp _ _ ⟨c,e⟩
  .by_cases hc:(wq K "dealt").map (·.2)=some b
   .obtain ⟨⟨c,b'⟩,e,rfl⟩:=Ew.mp hc
    exact .inr ⟨c,e⟩
   .exact absurd (if_neg hc) z
  .by_cases hc:(wq K "dealt").map (·.2)=some a
   .obtain ⟨⟨c,b'⟩,e,e2⟩:=Ew.mp hc
    exact absurd e2 (Vs c b' e)
   .exact absurd (if_neg hc) z
 | none =>
  refine core (λb=>if b=a then some (.jP { cls:=.type "list",data:=.seq vs.toArray } (.lst (ns.map V.int))) else if (wq K "dealt").map (·.2)=some b then some (.tab Ah) else none) (λc b e=>by show (if b=a then _ else _)=_;rw [if_neg (Vs c b e),if_pos (by rw [e];rfl)]) (.inl (.inr ⟨{ cls:=.type "list",data:=.seq vs.toArray },if_pos rfl⟩)) (λb u z=>?_) (λb z=>?_) λ_=>hk
  .by_cases hb:b=a
   .have z':=(if_pos hb).symm.trans z
    cases z'
    subst hb
    exact ⟨ha,by rw [bY];exact hl,vs,_,rv,ha⟩
   .obtain ⟨hc,rfl⟩:=MU ((if_neg hb).symm.trans z)
    obtain ⟨⟨c,b'⟩,e,rfl⟩:=Ew.mp hc
    exact Vp _ _ ⟨c,e⟩
  .by_cases hb:b=a
   .exact .inl ⟨hb,_,_,if_pos hb⟩
   .by_cases hc:(wq K "dealt").map (·.2)=some b
    .obtain ⟨⟨c,b'⟩,e,rfl⟩:=Ew.mp hc
     exact .inr ⟨c,e⟩
    .exact absurd ((if_neg hb).trans (if_neg hc)) z
end L2
namespace L2
open PySem PySem.Spec PyProof.Rows
theorem zZ{l:QD}{n k:Nat}{q:Program}{loose:List Str}{XP:(Str->Option Value)->Heap->Prop}{YP:World->Heap->Prop}{d:DefRec}{K:Params->aK}{CX:World->tN}{sp:World->Sp}{x:Str}{ts:List Addr}
  (hn:l.most=some n)(KO:n<=sizeLine)(HA:d.params.defaults=[])(hr:bZ k callerA)
  (hY:∀(w:World) (h:Heap),YP w h->(K w.params).In h/\∀P∈ts,h.get? P=some (Em #[]))(hL:∀w:World,L0 (K w.params) ts=true)
  (F:∀(w:World) (mg:Str->Option Value) (fa:Addr) (h:Heap),(K w.params).In h->h.Ns mainGlobals mg->mg d.name=some (.ref fa) ->
   ∃fd:FuncData,(∀(s:Shared) (u:Value),BindsTo s fd ⟨[u],[]⟩ [(x,u)]) /\
    ∀base:Heap,(K w.params).In base->base.Ns mainGlobals mg->bD l.prog w (K w.params) mg base (CX w) k fa fd [x] (sp w))
  (sG:∀(w:World) (H:Hp) (a:Addr) (ns:List Int),ns.length<=n->Tb (K w.params) H->ic (K w.params) H a (ns.map V.int)->sp w [.ref a] H (λv H'=>v=.bl true/\Tb (K w.params) H') λ_ _ _=>False)
  (PF:∀(w:World) (H:Hp) (s:Shared) (e:Value) (s':Shared),CX w [] H s (λ_ _ _=>False) e s'->False):
  PySem.W.WalkO q loose XP YP l.row.toRowW d [] (λf vs=>Qk f vs):=by
 refine Att.pI hn HA λw c6 aR mg mb fa o pm cd doc a vs ns G Y ho hd bM Hk Cp hints hlen hg=>?_
 obtain ⟨KX,HH⟩:=hY w _ Y
 obtain ⟨fd,hb,hF⟩:=F w mg fa _ KX G.T.g Hk
 exact b2P KX G.T.g G.T.b G.T.builtins G.T.nolimit hg G.T.bmain (hL w) HH Cp hints (pE hlen KO) hr hF hb (λH hO hS=>sG w H a ns hlen hO hS) λH e s'=>PF w H aR e s'
end L2
namespace L2
open PySem PySem.Spec PyProof.Rows
def pN(s:Stmt)(j:Nat):Stmt:=match s with
 | .ClassDef _ _ _ body _ _ _ _ _ _ _=>body.getD j (.Pass ⟨0,0,0,0⟩)
 | _=>.Pass ⟨0,0,0,0⟩
def oa(s:Stmt):Arguments:=match s with
 | .FunctionDef _ a _ _ _ _ _ _ _ _=>a
 | _=>{ posonlyargs:=[],args:=[],vararg:=none,kwonlyargs:=[],kw_defaults:=[],kwarg:=none,defaults:=[] }
def hV(s:Stmt):List Stmt:=match s with
 | .FunctionDef _ _ b _ _ _ _ _ _ _=>b
 | _=>[]
def dg(s:Stmt):Scope:=match s with
 | .FunctionDef _ _ _ _ _ _ sc _ _ _=>sc
 | _=>{ kind:=.function,names:=[],isGenerator:=false,isCoroutine:=false }
abbrev jv:tN:=λ_ _ _ _ _ _=>False
abbrev E0:XK:=λ_ _ _=>False
theorem EI:Jt jv X E0:=λ_ _ _ _ _ _ _ h=>h.elim
structure tL(K:aK)(x qual:Str)(st:Stmt)(f:Addr)(fd:FuncData):Prop where
 ex:∃(oc:Value) (od:Option Addr) (kV doc pm:Value) (an:Option Addr) (dX ct:Value) (xD:Array (Option Value)),
  fd=mS x qual (oa st) (hV st) (dg st) .none kV doc pm an dX ct/\K.lookup f=some ⟨oc,od,.func fd,xD⟩/\IH K dX qual=true
 kp:sW K (.ref f)=true
section
variable {P:Program}{w:World}{K:aK}{mg:Str->Option Value}{base:Heap}
theorem tL.ok{x qual:Str}{st:Stmt}{f:Addr}{fd:FuncData}{N ps:List Str}{k:Nat}{sp:Sp}(F:tL K x qual st f fd)(S:bC N ps (dg st))(len:∀vs H Q E,sp vs H Q E->vs.length=ps.length)
  (br:∀(dX:Value) (A:Around) (outer:List Env) (s:Shared) (H:Hp) (vs:List V) (Q:VK) (E:XK),bZ k (A.deeper (envOfC qual (dg st) s.heap.objs.size f dX))->sp vs H Q E ->
   ∃t,oz (gO jv P w K mg base N qual (dg st) f dX A outer s H E).b8 (hV st) t/\t { nx:=λ_ H'=>Q .cj H',rt:=Q } (start N vs) H):bD P w K mg base jv (k+1) f fd ps sp:=by
 obtain ⟨oc,od,kV,doc,pm,an,dX,ct,xD,rfl,lk,bM⟩:=F.ex
 refine L4 lk bM S len λA outer s H vs Q E hr sG=>?_
 obtain ⟨t,h,q⟩:=br dX A outer s H vs Q E hr sG
 exact ⟨t,h.b8,q⟩
theorem tL.binds{x qual:Str}{st:Stmt}{f:Addr}{fd:FuncData}{ps:List Str}(F:tL K x qual st f fd)
  (h:∀(kV doc pm:Value) (an:Option Addr) (dX ct:Value) (us:List Value),us.length=ps.length->bindArgs (mS x qual (oa st) (hV st) (dg st) .none kV doc pm an dX ct) ⟨us,[]⟩=pure (ps.zip us)):Binds K fd ps []:=by
 obtain ⟨oc,od,kV,doc,pm,an,dX,ct,xD,rfl,lk,bM⟩:=F.ex
 exact .all (h kV doc pm an dX ct)
theorem Ma{x qual:Str}{st:Stmt}{f:Addr}{oc:Value}{od an:Option Addr}{xD:Array (Option Value)}{kV doc pm dX ct:Value}(l:K.lookup f=some ⟨oc,od,.func (mS x qual (oa st) (hV st) (dg st) .none kV doc pm an dX ct),xD⟩)
  (c:IH K dX qual=true)(k:sW K (.ref f)=true):tL K x qual st f (mS x qual (oa st) (hV st) (dg st) .none kV doc pm an dX ct):=⟨⟨oc,od,kV,doc,pm,an,dX,ct,xD,rfl,l,c⟩,k⟩
end
theorem Jh(hr:bZ k A):A.units+1<cLine:=Ln (Nat.add_le_add_left (by decide:1<=64) _) hr.units
section
variable {X:Cx}
end
def az(H H':Hp):Prop:=∀b o,H b=some o->H' b=some o
theorem az.refl(H:Hp):az H H:=λ_ _ h=>h
theorem az.trans(a:az H H1)(b:az H1 H2):az H H2:=λc o h=>b c o (a c o h)
theorem az.free(e:az H H')(h:H' l=Option.none):H l=Option.none:=by
 cases q:H l with
 | none=>rfl
 | some o =>
  rw [e l o q] at h
  cases h
end L2
set_option maxHeartbeats 4000000
namespace L2
open PySem PySem.Spec PyProof.Rows
section
variable {κ:Type}[DecidableEq κ]
noncomputable def kZ(aA:List (κ×V))(k:κ):Option V:=(aA.find? λkv=>decide (kv.1=k)).map (·.2)
noncomputable def putK(aA:List (κ×V))(k:κ)(v:V):List (κ×V):=
 if (aA.any λkv=>decide (kv.1=k))=true then aA.map (λkv=>if kv.1=k then (kv.1,v) else kv) else aA++[(k,v)]
theorem SY{p:κ×V}{r:List (κ×V)}{k:κ}(e:p.1=k):kZ (p::r) k=some p.2:=by simp [kZ,CQ,e]
theorem SX{p:κ×V}{r:List (κ×V)}{k:κ}(e:¬p.1=k):kZ (p::r) k=kZ r k:=by simp [kZ,CQ,e]
theorem Zr(k:κ):∀aA:List (κ×V),(aA.any λkv=>decide (kv.1=k))=(kZ aA k).isSome
 | []=>rfl
 | p::r=>by
  rw [La]
  by_cases e:p.1=k
  .simp only [SY e,decide_eq_true e,Bool.true_or,Option.isSome_some]
  .rw [SX e,decide_eq_false e,Bool.false_or];exact Zr k r
theorem Z2(aA:List (κ×V))(k:κ)(v:V):(putK aA k v).length<=aA.length+1:=by
 unfold putK
 split
 .rw [bY];omega
 .rw [fD,gq,QC];omega
theorem jb.gg{o:Option V}{u:Option Value}(r:jb o u):o.isSome=u.isSome:=by
 cases o with
 | none=>cases u with
  | none=>rfl
  | some _=>exact (show False from r).elim
 | some _=>cases u with
  | none=>exact (show False from r).elim
  | some _=>rfl
theorem KV.val{aA:List (κ×V)}{vs:List (κ×Value)}(r:KV aA vs)(k:κ):jb (kZ aA k) (valueAt vs k):=by
 unfold KV at r
 induction r with
 | nil=>exact D4
 | @cons p q ps qs h t ih =>
  obtain ⟨h1,h2⟩:=h
  by_cases e:p.1=k
  .have e':q.1=k:=h1.symm.trans e
   have b:valueAt (q::qs) k=some q.2:=by simp [valueAt,CQ,e']
   rw [SY e,b];exact h2
  .have e':¬q.1=k:=λz=>e (h1.trans z)
   have b:valueAt (q::qs) k=valueAt qs k:=by simp [valueAt,CQ,e']
   rw [SX e,b];exact ih
theorem KV.any{aA:List (κ×V)}{vs:List (κ×Value)}(r:KV aA vs)(k:κ):(aA.any λkv=>decide (kv.1=k))=vs.any λkv=>decide (kv.1=k):=by
 unfold KV at r
 induction r with
 | nil=>rfl
 | cons h t ih=>rw [La,La,ih,h.1]
theorem KV.B6{aA:List (κ×V)}{vs:List (κ×Value)}(r:KV aA vs)(k:κ){y:V}{u:Value}(ry:RelV y u):
  KV (aA.map λkv=>if kv.1=k then (kv.1,y) else kv) (vs.map λkv=>if kv.1=k then (kv.1,u) else kv):=by
 unfold KV at r ⊢
 induction r with
 | nil=>exact .nil
 | @cons p q ps qs h t ih =>
  rw [fE,fE]
  refine .cons ?_ ih
  obtain ⟨h1,h2⟩:=h
  by_cases e:p.1=k
  .rw [if_pos e,if_pos (h1.symm.trans e)];exact ⟨h1,ry⟩
  .rw [if_neg e,if_neg (λz=>e (h1.trans z))];exact ⟨h1,h2⟩
theorem KV.put{aA:List (κ×V)}{vs:List (κ×Value)}(r:KV aA vs)(k:κ){y:V}{u:Value}(ry:RelV y u):KV (putK aA k y) (stored vs k u):=by
 unfold putK stored
 rw [r.any k]
 by_cases e:(vs.any λkv=>decide (kv.1=k))=true
 .rw [if_pos e,if_pos e];exact r.B6 k ry
 .rw [if_neg e,if_neg e];exact Paired.snoc r ⟨rfl,ry⟩
theorem KV.length{aA:List (κ×V)}{vs:List (κ×Value)}(r:KV aA vs):aA.length=vs.length:=Paired.length r
end
theorem Jc{P:Program}{w:World}{k:Key}{u:Value}(r:RelV (kV k) u):(mY P w).is k u=true:=by
 cases k with
 | inl i=>obtain ⟨t,e⟩:=(show ∃t,u=K' i t from r);subst e;exact a8l P w i t
 | inr x=>obtain ⟨t,e⟩:=(show ∃t,u=CL x t from r);subst e;exact Z6 P w x t
theorem ZG{P:Program}{w:World}:∀{ks:List Key} {us:List Value},aL (ks.map kV) us->ItemsAre (mY P w) ks us
 | [],_,r=>by rw [List.map_nil] at r;cases r;exact .nil
 | k::ks,_,r=>by
  rw [fE] at r
  cases r with
  | cons h t=>exact .cons (Jc h) (ZG t)
abbrev KT(H:Hp):List (List Key×V)->List (List Key×Addr×Value)->Prop:=Paired λp q=>p.1=q.1/\H q.2.1=some (.tup (p.1.map kV))/\RelV p.2 q.2.2
theorem KT.val{H:Hp}{aA:List (List Key×V)}{xs:List (List Key×Addr×Value)}(r:KT H aA xs)(k:List Key):jb (kZ aA k) ((atKey xs k).map (·.2)):=by
 induction r with
 | nil=>exact D4
 | @cons p q ps qs h t ih =>
  obtain ⟨h1,_,h2⟩:=h
  by_cases e:p.1=k
  .have e':q.1=k:=h1.symm.trans e
   have b:atKey (q::qs) k=some q.2:=by simp [atKey,CQ,e']
   rw [SY e,b];exact h2
  .have e':¬q.1=k:=λz=>e (h1.trans z)
   have b:atKey (q::qs) k=atKey qs k:=by simp [atKey,CQ,e']
   rw [SX e,b];exact ih
theorem KT.B6{H:Hp}{aA:List (List Key×V)}{xs:List (List Key×Addr×Value)}(r:KT H aA xs)(k:List Key){y:V}{u:Value}(ry:RelV y u):
  KT H (aA.map λkv=>if kv.1=k then (kv.1,y) else kv) (xs.map (putAt k u)):=by
 induction r with
 | nil=>exact .nil
 | @cons p q ps qs h t ih =>
  rw [fE,fE]
  refine .cons ?_ ih
  obtain ⟨h1,h2,h3⟩:=h
  unfold putAt
  by_cases e:p.1=k
  .rw [if_pos e,if_pos (h1.symm.trans e)];exact ⟨h1,h2,ry⟩
  .rw [if_neg e,if_neg (λz=>e (h1.trans z))];exact ⟨h1,h2,h3⟩
theorem KT.put{H:Hp}{aA:List (List Key×V)}{xs:List (List Key×Addr×Value)}(r:KT H aA xs)(k:List Key){b:Addr}{y:V}{u:Value}(hb:H b=some (.tup (k.map kV)))(ry:RelV y u):
  KT H (putK aA k y) (storedH xs k b u):=by
 have e:(aA.any λkv=>decide (kv.1=k))=(atKey xs k).isSome:=by
  rw [Zr,(r.val k).gg,Qw]
 unfold putK storedH
 rw [e]
 by_cases q:(atKey xs k).isSome=true
 .rw [if_pos q,if_pos q];exact r.B6 k ry
 .rw [if_neg q,if_neg q];exact Paired.snoc r ⟨rfl,hb,ry⟩
theorem KT.keeps{H H':Hp}{aA:List (List Key×V)}{xs:List (List Key×Addr×Value)}(r:KT H aA xs)(ht:∀b ys,H b=some (.tup ys)->H' b=some (.tup ys)):KT H' aA xs:=
 Paired.Ce r λ_ _ z=>⟨z.1,ht _ _ z.2.1,z.2.2⟩
section
variable {P:Program}{w:World}{H:Hp}{h:Heap}{a:Addr}
theorem Xf{u:HO}(ok:g7 P w H h)(e:Rd H a u):cb P w H h a u:=e.ok ok
theorem ED{aA:List (Key×V)}(ok:g7 P w H h)(e:Rd H a (.dK aA)):aA.length<=sizeLine/\(a==sysModules)=false/\∃vs,KV aA vs/\h.DictOf (mY P w) a vs:=
 show cb P w H h a (.dK aA) from Xf ok e
theorem Io{aA:List (Key×V)}(ok:g7 P w H h)(e:H a=some (.dK aA)):aA.length<=sizeLine/\(a==sysModules)=false/\∃vs,KV aA vs/\h.DictOf (mY P w) a vs:=ED ok (.inl e)
theorem Jr{ks:List Key}(ok:g7 P w H h)(e:H a=some (.tup (ks.map kV))):(tupleKind (mY P w)).is h ks a:=by
 obtain ⟨_,aw,r,o,h1,h2,n,h3⟩:=(show cb P w H h a (.tup (ks.map kV)) from ok a _ e)
 exact ⟨o,aw.toArray,n,h1,h2,h3,by simpa using ZG r⟩
theorem EE{aA:List (List Key×V)}(ok:g7 P w H h)(e:Rd H a (.dT aA)):aA.length<=sizeLine/\(a==sysModules)=false /\
  ∃xs,KT H aA xs/\h.DictOfH (tupleKind (mY P w)) a xs:=by
 obtain ⟨z,y,xs,r,o,es,ep,h1,h2,h3,h4,h5⟩:=(show cb P w H h a (.dT aA) from Xf ok e)
 refine ⟨z,y,xs,r,o,es,ep,h1,h2,h3,h4,λx hx=>?_,h5⟩
 have all:∀{l:List (List Key×V)} {m:List (List Key×Addr×Value)},KT H l m->∀x∈m,(tupleKind (mY P w)).is h x.1 x.2.1:=by
  intro l m q
  induction q with
  | nil=>intro x hx;exact nomatch hx
  | @cons p q ps qs hq t ih =>
   intro x hx
   rcases cL.mp hx with e | hx
   .subst e
    exact Jr ok (by rw [<-hq.1];exact hq.2.1)
   .exact ih x hx
 exact all r x hx
theorem Im{aA:List (List Key×V)}(ok:g7 P w H h)(e:H a=some (.dT aA)):aA.length<=sizeLine/\(a==sysModules)=false /\
  ∃xs,KT H aA xs/\h.DictOfH (tupleKind (mY P w)) a xs:=EE ok (.inl e)
end
def my(H:Hp)(a:Addr)(y:V)(r:Option V):Prop:=
 (∃aA k,Rd H a (.dK aA)/\y=kV k/\r=kZ aA k)\/∃aA k b,Rd H a (.dT aA)/\y=.ref b/\H b=some (.tup (k.map kV))/\r=kZ aA k
def yP(H:Hp)(a:Addr)(y v:V)(H':Hp):Prop:=
 (∃aA k,H a=some (.dK aA)/\y=kV k/\aA.length<sizeLine/\H'=upd H a (.dK (putK aA k v))) \/
 ∃aA k b,H a=some (.dT aA)/\y=.ref b/\H b=some (.tup (k.map kV))/\aA.length<sizeLine/\H'=upd H a (.dT (putK aA k v))
theorem yP.k{H:Hp}{a:Addr}{aA:List (Key×V)}{k:Key}{v:V}(e:H a=some (.dK aA))(hl:aA.length<sizeLine):yP H a (kV k) v (upd H a (.dK (putK aA k v))):=.inl ⟨aA,k,e,rfl,hl,rfl⟩
section
variable {X:Cx}{pins:List (Addr×Obj)}{σ:St}{H:Hp}{s:Shared}{a:Addr}{y v:V}{u r:Value}{o:Option V}{A:Around}{E:Value->Shared->Prop}
theorem Inv.big(I:Inv X pins σ H s):sysModules<s.heap.objs.size:=by
 have h:mainGlobals<s.heap.objs.size:=(I.mod.glob.keeps I.bk).lt
 exact BA (by decide) h
theorem b1Y{Q:Value->Shared->Prop}(hu:A.units+1<cLine)(I:Inv X pins σ H s)(g:my H a y (some v))(ry:RelV y u)(h:∀w' s',Inv X pins σ H s'->RelV v w'->Q w' s'):
  wpAny (model X.prog X.w) A (getItem (.ref a) u) Q E s:=by
 rcases g with ⟨aA,k,e,ey,l⟩ | ⟨aA,k,b,e,ey,eb,l⟩
 .subst ey
  obtain ⟨z,hd,vs,rel,dd⟩:=ED I.bg e
  obtain ⟨w',hw,Aa⟩:=jb.some_of (v:=v) (o:=valueAt vs k) (by rw [l];exact rel.val k)
  exact wpAny_getItem_of (Jc ry) dd.mapOf hw (h w' _ (I.tok _) Aa)
 .subst ey
  cases (show u=cR b from ry)
  obtain ⟨z,hd,xs,rel,dd⟩:=EE I.bg e
  obtain ⟨w',hw,Aa⟩:=jb.some_of (v:=v) (o:=(atKey xs k).map (·.2)) (by rw [l];exact rel.val k)
  obtain ⟨p,hp,KI⟩:=Ew.mp hw
  refine wpAny_getItem_heap (Lm hu) (Jr I.bg eb) dd hp ?_
  rw [KI]
  exact h w' _ (I.tok _) Aa
theorem P8{Q:Value->Shared->Prop}(hu:A.units+1<cLine)(I:Inv X pins σ H s)(g:my H a y o)(ry:RelV y u)(h:∀s',Inv X pins σ H s'->Q (.bool o.isSome) s'):
  wpAny (model X.prog X.w) A (compareOp .In u (.ref a)) Q E s:=by
 rcases g with ⟨aA,k,e,ey,l⟩ | ⟨aA,k,b,e,ey,eb,l⟩
 .subst ey
  obtain ⟨z,hd,vs,rel,dd⟩:=ED I.bg e
  refine wpAny_in_of (Jc ry) hd dd.mapOf ?_
  rw [<-(rel.val k).gg,<-l]
  exact h _ (I.tok _)
 .subst ey
  cases (show u=cR b from ry)
  obtain ⟨z,hd,xs,rel,dd⟩:=EE I.bg e
  refine wpAny_in_heap (Lm hu) (Jr I.bg eb) hd dd ?_
  have q:=(rel.val k).gg
  rw [Qw] at q
  rw [<-q,<-l]
  exact h _ (I.tok _)
theorem b6d{Q:Value->Shared->Prop}(hu:A.units+1<cLine)(I:Inv X pins σ H s)(g:my H a y o)(ry:RelV y u)(h:∀s',Inv X pins σ H s'->Q (.bool (!o.isSome)) s'):
  wpAny (model X.prog X.w) A (compareOp .NotIn u (.ref a)) Q E s:=by
 rcases g with ⟨aA,k,e,ey,l⟩ | ⟨aA,k,b,e,ey,eb,l⟩
 .subst ey
  obtain ⟨z,hd,vs,rel,dd⟩:=ED I.bg e
  refine wpAny_notIn_of (Jc ry) hd dd.mapOf ?_
  rw [<-(rel.val k).gg,<-l]
  exact h _ (I.tok _)
 .subst ey
  cases (show u=cR b from ry)
  obtain ⟨z,hd,xs,rel,dd⟩:=EE I.bg e
  refine wpAny_notIn_heap (Lm hu) (Jr I.bg eb) hd dd ?_
  have q:=(rel.val k).gg
  rw [Qw] at q
  rw [<-q,<-l]
  exact h _ (I.tok _)
theorem YB{h':Heap}{t':Nat}{ob:HO}(I:Inv X pins σ H s)(mu:Ka (H a))(hs:yw a s.heap h')(he:∃q,h'.get? a=some q)(new:cb X.prog X.w (upd H a ob) h' a ob):
  Inv X pins σ (upd H a ob) { s with heap:=h',toks:=t' }:=
 I.write (x:=a) (e:=a) mu (.inl rfl) (λb q hb z=>(hs.2 b hb).trans z) he new
theorem b8K{P:Program}{w:World}{H':Hp}{h':Heap}{aA:List (Key×V)}{vs:List (Key×Value)}(z:aA.length<=sizeLine)(hd:(a==sysModules)=false)(rel:KV aA vs)(dd:h'.DictOf (mY P w) a vs):
  cb P w H' h' a (.dK aA):=⟨z,hd,vs,rel,dd⟩
theorem b1X{H':Hp}{Q:Unit->Shared->Prop}(hu:A.units+1<cLine)(I:Inv X pins σ H s)(g:yP H a y v H')(ry:RelV y u)(rv:RelV v r)(h:∀s',Inv X pins σ H' s'->Q () s'):
  wpAny (model X.prog X.w) A (setItem (.ref a) u r) Q E s:=by
 rcases g with ⟨aA,k,e,ey,l,eH⟩ | ⟨aA,k,b,e,ey,eb,l,eH⟩
 .subst ey eH
  obtain ⟨z,hd,vs,rel,dd⟩:=Io I.bg e
  have hz:vs.length<=sizeLine:=by rw [<-rel.length];exact z
  have hl:(putK aA k v).length<=sizeLine:=by have:=Z2 aA k v;omega
  refine wpAny_setItem_pairs (hsz:=hz) (Jc ry) dd λh' K5 hs=>h _ ?_
  have he:∃q,h'.get? a=some q:=let ⟨q,_,_,hq,_⟩:=K5;⟨q,hq⟩
  exact YB I (by rw [e];exact D4) hs he (b8K hl hd (rel.put k rv) K5)
 .subst ey eH
  cases (show u=cR b from ry)
  obtain ⟨z,hd,xs,rel,dd⟩:=Im I.bg e
  have hz:xs.length<=sizeLine:=by rw [<-Paired.length rel];exact z
  have hl:(putK aA k v).length<=sizeLine:=by have:=Z2 aA k v;omega
  refine wpAny_setItem_heap (hsz:=hz) (Lm hu) (Jr I.bg eb) dd λh' K5 hs=>h _ ?_
  obtain ⟨q,es,ep,hq,h2,h3,h4,_,h5⟩:=K5
  refine YB I (by rw [e];exact D4) hs ⟨q,hq⟩ ⟨hl,hd,_,(rel.put k eb rv).keeps λc ys ec=>?_,q,es,ep,hq,h2,h3,h4,h5⟩
  rw [dW (GW ec e (λz=>nomatch z))]
  exact ec
end
section
variable {X:Cx}{pins:List (Addr×Obj)}{σ:St}{H:Hp}{s:Shared}{a:Addr}{aA:List (Key×V)}{k:Key}{u:Value}{A:Around}{E:Value->Shared->Prop}
end
def A8(i:Expr):Prop:=∀ov iv,subscripted i false ov iv=operate [ov,iv] (getItem ov iv)
theorem b4W{prog:Program}{w:World}{A:Around}{E:Value->Shared->Prop}{s:Shared}{env:Env}{value slice:Expr}{pos:Pos}{T id:String}{Q:Value->Shared->Prop}
  (hl:typeLookup (.type T) "__getitem__" = pure (some (.builtin id)))(hs:A8 slice)
  (h:wpAny (model prog w) A (eval value env) (λo aR=>wpAny (model prog w) A (eval slice env) (λi eB=>eB.TypeIs o T/\wpAny (model prog w) A (getItem o i) Q E eB) E aR) E s):
  wpAny (model prog w) A (eval (.Subscript value slice pos) env) Q E s:=by
 refine Subscript_ (jy h (λo aR h₁=>jy h₁ (λi eB xQ=>?_) λ_ _ x=>x) λ_ _ x=>x)
 obtain ⟨hT,xQ⟩:=xQ
 unfold subscriptTail
 refine aF ?_
 rw [getitemInPython_of_ne hT.not_modules]
 refine aF (wpAny_specialOf hT hl ?_)
 have fin:wpAny (model prog w) A (subscripted slice false o i) (λr oV=>wpAny (model prog w) A (letTemporaryGo value o r >>= λ_=>pure r) Q E oV) E eB:=by
  rw [hs o i]
  exact wpAny_operating (jy xQ (λr oV Ak=>aF (wpAny_letTemporaryGo (bG Ak))) λ_ _ x=>x)
 first
  | exact bG (aF fin)
  | exact aF (bG (aF fin))
  | exact aF fin
theorem a8J{X:Cx}{pins:List (Addr×Obj)}{σ:St}{H:Hp}{s:Shared}{a:Addr}{y:V}{o:Option V}(I:Inv X pins σ H s)(g:my H a y o):s.TypeIs (.ref a) "dict":=by
 rcases g with ⟨aA,k,e,_,_⟩ | ⟨aA,k,b,e,_,_,_⟩
 .obtain ⟨_,_,vs,_,dd⟩:=ED I.bg e
  exact dd.typeIs
 .obtain ⟨_,_,xs,_,dd⟩:=EE I.bg e
  exact dd.typeIs
noncomputable def F4(td ty:TE):TE:=λσ H Q=>td σ H λx H1=>ty σ H1 λy H2=>∃a v,x=.ref a/\my H2 a y (some v)/\Q v H2
noncomputable def B0(ty td:TE):TE:=λσ H Q=>ty σ H λy H1=>td σ H1 λx H2=>∃a o,x=.ref a/\my H2 a y o/\Q (.bl o.isSome) H2
noncomputable def JH(ty td:TE):TE:=λσ H Q=>ty σ H λy H1=>td σ H1 λx H2=>∃a o,x=.ref a/\my H2 a y o/\Q (.bl (!o.isSome)) H2
noncomputable def Gf(td ty tv:TE):TS:=λD σ H=>tv σ H λv H1=>td σ H1 λx H2=>ty σ H2 λy H3=>∃a H4,x=.ref a/\yP H3 a y v H4/\D.nx σ H4
section
variable {X:Cx}{o i e value:Expr}{pos pos' NS:Pos}{td ty tv:TE}
theorem b5h(hu:X.A.units+1<cLine)(ho:PE X o td)(hi:PE X i ty)(hs:A8 i):PE X (.Subscript o i pos) (F4 td ty):=by
 intro pins s σ H Q I h
 refine b4W PySem.F.slot_dict_getitem.lookup hs (bJ (ho pins s σ H _ I h) λu s1 ⟨x,H1,I1,rx,q1⟩=>bJ (hi pins s1 σ H1 _ I1 q1) λiv s2 ⟨y,H2,I2,ry,a,v,ex,g,q2⟩=>?_)
 subst ex
 obtain rfl:u=cR a:=rx
 exact ⟨a8J I2 g,b1Y hu I2 g ry λw' s3 I3 Aa=>⟨v,H2,I3,Aa,q2⟩⟩
theorem b7N(hu:X.A.units+1<cLine)(hi:PE X i ty)(ho:PE X o td):PC X .In i o (B0 ty td):=by
 intro pins s σ H Q I h
 refine bJ (hi pins s σ H _ I h) λiv s1 ⟨y,H1,I1,ry,q1⟩=>bJ (ho pins s1 σ H1 _ I1 q1) λu s2 ⟨x,H2,I2,rx,a,ov,ex,g,q2⟩=>?_
 subst ex
 obtain rfl:u=cR a:=rx
 exact P8 hu I2 g ry λs3 I3=>⟨.bl ov.isSome,H2,I3,rfl,q2⟩
theorem ZJ(hu:X.A.units+1<cLine)(hi:PE X i ty)(ho:PE X o td):PC X .NotIn i o (JH ty td):=by
 intro pins s σ H Q I h
 refine bJ (hi pins s σ H _ I h) λiv s1 ⟨y,H1,I1,ry,q1⟩=>bJ (ho pins s1 σ H1 _ I1 q1) λu s2 ⟨x,H2,I2,rx,a,ov,ex,g,q2⟩=>?_
 subst ex
 obtain rfl:u=cR a:=rx
 exact b6d hu I2 g ry λs3 I3=>⟨.bl (!ov.isSome),H2,I3,rfl,q2⟩
theorem b49(hu:X.A.units+1<cLine)(ho:PE X o td)(hi:PE X i ty)(hv:PE X value tv)(hs:swapsWith value (some (.Subscript o i pos')) pos.line X.env=pure false):
  PS X (.Assign [.Subscript o i pos'] value pos) (Gf td ty tv):=by
 intro pins s σ H D I h
 refine wpAny_Assign_Subscript (bJ (hv pins s σ H _ I h) λr s1 ⟨v,H1,I1,rv,q1⟩=>bJ (ho pins s1 σ H1 _ I1 q1) λu s2 ⟨x,H2,I2,rx,q2⟩=>bJ (hi pins s2 σ H2 _ I2 q2) λiv s3 ⟨y,H3,I3,ry,a,H4,ex,g,q3⟩=>?_) hs
 subst ex
 obtain rfl:u=cR a:=rx
 exact b1X hu I3 g ry rv λs4 I4=>⟨σ,H4,I4,q3⟩
end
theorem b3n{P:Program}{w:World}{H:Hp}(h:Heap)(hb:sysModules<h.objs.size):cb P w H (h.push { cls:=.type "dict",data:=.dict #[] }) h.objs.size (.dK []):=
 ⟨uB _,beq_eq_false_iff_ne.mpr (lx (fg hb)),[],.nil,Wm h⟩
noncomputable def b7e:TE:=λ_ H Q=>∀p,H p=none->Q (.ref p) (upd H p (.dK []))
section
variable {X:Cx}{pos:Pos}
theorem b2H:PE X (.Dict [] [] pos) b7e:=λpins s σ H Q I h =>
 wpAny_Dict_empty ⟨.ref s.heap.objs.size,_,I.laid (a:=s.heap.objs.size) (o:=.dK []) (t':=s.toks) (λ_ _ q=>dY _ q) (cw _) (b3n s.heap I.big),rfl,h _ (I.bg.fresh (cw _))⟩
end
def IsD(H:Hp)(a:Addr):Prop:=(∃aA,Rd H a (.dK aA))\/∃aA,Rd H a (.dT aA)
theorem b8j{X:Cx}{pins:List (Addr×Obj)}{σ:St}{H:Hp}{s:Shared}{a:Addr}(I:Inv X pins σ H s)(d:IsD H a):
  s.TypeIs (.ref a) "dict" /\ (∀b,cR a=.ref b->∃ob,s.heap.get? b=some ob/\ob.dict=none)/\(a==sysModules)=false:=by
 rcases d with ⟨aA,e⟩ | ⟨aA,e⟩
 .obtain ⟨_,hd,vs,_,dd⟩:=ED I.bg e
  refine ⟨dd.typeIs,λb q=>?_,hd⟩
  cases q
  obtain ⟨ob,_,_,h1,h2,_⟩:=dd
  exact ⟨ob,h1,h2.2.1⟩
 .obtain ⟨_,hd,xs,_,dd⟩:=EE I.bg e
  refine ⟨dd.typeIs,λb q=>?_,hd⟩
  cases q
  obtain ⟨ob,_,_,h1,h2,_⟩:=dd
  exact ⟨ob,h1,h2.2.1⟩
section
variable {X:Cx}{pins:List (Addr×Obj)}{σ:St}{H:Hp}{s:Shared}{a:Addr}{y d:V}{u r:Value}{o:Option V}{A:Around}{E:Value->Shared->Prop}
end
section
variable {X:Cx}{o e f:Expr}{apos au:Pos}{td ty tx:TE}
end
section
variable {X:Cx}{pins:List (Addr×Obj)}{σ:St}{H:Hp}{s:Shared}{a:Addr}{aA:List (Key×V)}{A:Around}{E:Value->Shared->Prop}
end
section
variable {X:Cx}{pins:List (Addr×Obj)}{σ:St}{H:Hp}{s:Shared}{a:Addr}{y:V}{u:Value}{A:Around}{E:Value->Shared->Prop}
end
end L2
namespace DL
open PySem PySem.Spec PyProof.Rows L2
section
variable {prog:Program}{w:World}{A:Around}{E:Value->Shared->Prop}{s:Shared}
theorem b3p{ws:List Value}(ht:IsTup s.heap t #[])(hb:IsTup s.heap b ws.toArray)(h1:Q (.ref b) s):wpAny (model prog w) A (binaryOp .Add (.ref t) (.ref b)) Q E s:=by
 obtain ⟨⟨cls,dd,data,sl⟩,ho,hc,n,hd⟩:=id ht
 obtain ⟨⟨P',K4,data2,Gb⟩,Cq,uf,n2,hd2⟩:=id hb
 simp only at hc hd uf hd2
 subst hc hd uf hd2
 exact concat_meets ⟨_,ho,rfl⟩ ⟨_,Cq,rfl⟩ QN Qg QV QZ (Rh _ _)
   (tuple_addW0 t b #[] ws.toArray n n2 dd K4 sl Gb rfl) ⟨ho,Cq,h1⟩
end
section
variable {X:Cx}
noncomputable def Gq(K:aK):R2:=λx y H Q=>∃a b ys,x=.ref a/\y=.ref b/\jZ K H a []/\jZ K H b ys/\Q (.ref b) H
theorem b5p:lG X (binaryOp .Add) (Gq X.K):=by
 intro pins s σ H x y v u Q I rx ry h
 obtain ⟨a,b,ys,rfl,rfl,ha,hb,q1⟩:=h
 cases rx
 cases ry
 obtain ⟨aw,r1,p1,_⟩:=I.tuple ha
 obtain ⟨ft,r2,p2,_⟩:=I.tuple hb
 cases r1
 exact b3p p1 p2 ⟨.ref b,H,I,rfl,q1⟩
end
end DL
namespace DL
open PySem PySem.Spec PyProof.Rows L2
inductive D where
 | cj | bl (b:Bool) | int (i:Int) | str (x:Str) | tup (ds:List D) | lst (ro:Bool) (ds:List D) | exc (n:Str) | mm (fz:Bool) (aA:List (Int×Int))
 | obj (c:Str) (ns:List Str) (ds:List D) | i0 (ks:List Str) (ds:List D) | bw (ks:List Str) (ds:List D)
 deriving Inhabited
inductive Sl where
 | no | sh (d:D) | ow (ds:List D) | dw (aA:List (Int×Int)) | tw (ks:List Str) (ds:List D)
 deriving Inhabited
noncomputable abbrev En:=List Sl
noncomputable def Sl.d:Sl->D
 | .no=>.cj
 | .sh d=>d
 | .ow ds=>.lst false ds
 | .dw aA=>.mm false aA
 | .tw ks ds=>.i0 ks ds
def mn(p C:Addr)(h:Heap):Prop:=∃o,h.get? p=some o/\o.cls=.ref C
noncomputable abbrev mR(ks:List Str)(vs:List V):HO:=.dK ((ks.zip vs).map λq=>(.inr q.1,q.2))
mutual
inductive Is (K:aK) (O:Addr->Prop) (H:Hp):V->D->Prop
 | cj:Is K O H .cj .cj
 | bl (b:Bool):Is K O H (.bl b) (.bl b)
 | int (i:Int):Is K O H (.int i) (.int i)
 | str (x:Str):Is K O H (.str x) (.str x)
 | tup {p:Addr} {xs:List V} {ds:List D} (ho:¬O p) (hp:Rd H p (.tup xs)) (hs:aQ K O H xs ds):Is K O H (.ref p) (.tup ds)
 | t7 {p:Addr} {xs:List V} {ds:List D} (hp:jZ K (λ_=>none) p xs) (hs:aQ K O H xs ds):Is K O H (.ref p) (.tup ds)
 | lst {p:Addr} {xs:List V} {ds:List D} (ho:¬O p) (hp:H p=some (.lst xs)) (hs:aQ K O H xs ds):Is K O H (.ref p) (.lst false ds)
 | tT {p:Addr} {xs:List V} {ds:List D} (ho:¬O p) (hp:Rd H p (.lst xs)) (hs:aQ K O H xs ds):Is K O H (.ref p) (.lst true ds)
 | t8 {p:Addr} {xs:List V} {ds:List D} (hp:ic K (λ_=>none) p xs) (hs:aQ K O H xs ds):Is K O H (.ref p) (.lst true ds)
 | exc {p C:Addr} {n:Str} (ho:¬O p) (hn:iJ K mainGlobals n=some (some (.ref C))) (hp:H p=some (.ext (mn p C))):Is K O H (.ref p) (.exc n)
 | mm {p:Addr} {aA:List (Int×Int)} (ho:¬O p) (hp:H p=some (.dK (aA.map λq=>(.inl q.1,.int q.2)))):Is K O H (.ref p) (.mm false aA)
 | CI {p:Addr} {aA:List (Int×Int)} {o:Obj} (ho:¬O p) (hp:H p=some (.jP o (.dK (aA.map λq=>(.inl q.1,.int q.2))))):Is K O H (.ref p) (.mm true aA)
 | obj {p C dx:Addr} {c:Str} {ns:List Str} {vs:List V} {ds:List D} (ho:¬O p) (hn:iJ K mainGlobals c=some (some (.ref C))) (hp:H p=some (.ins C dx (ns.zip vs))) (hl:ns.length=vs.length) (hs:aQ K O H vs ds):Is K O H (.ref p) (.obj c ns ds)
 | i0 {p:Addr} {ks:List Str} {vs:List V} {ds:List D} (ho:¬O p) (hp:H p=some (mR ks vs)) (hl:ks.length=vs.length) (hs:aQ K O H vs ds):Is K O H (.ref p) (.i0 ks ds)
 | bw {p:Addr} {ks:List Str} {vs:List V} {ds:List D} {o:Obj} (ho:¬O p) (hp:H p=some (.jP o (mR ks vs))) (hl:ks.length=vs.length) (hs:aQ K O H vs ds):Is K O H (.ref p) (.bw ks ds)
inductive aQ (K:aK) (O:Addr->Prop) (H:Hp):List V->List D->Prop
 | nil:aQ K O H [] []
 | cons {x:V} {d:D} {xs:List V} {ds:List D} (h:Is K O H x d) (t:aQ K O H xs ds):aQ K O H (x::xs) (d::ds)
end
theorem Ys{O:Addr->Prop}{H H':Hp}(hH:∀q u,H q=some u->¬O q->H' q=some u){p:Addr}{u:HO}(ho:¬O p)(h:Rd H p u):Rd H' p u:=by
 rcases h with h | ⟨o,h⟩
 .exact .inl (hH p u h ho)
 .exact .inr ⟨o,hH p _ h ho⟩
theorem YZ(h:Rd H p u):H p≠none:=by
 rcases h with h | ⟨o,h⟩<;>rw [h]<;>exact λz=>nomatch z
theorem MF{K:aK}{H:Hp}{p:Addr}{xs:List V}(h:ic K (λ_=>none) p xs):ic K H p xs:=by
 rcases h with (h | ⟨o,h⟩) | h
 .cases h
 .cases h
 .exact .inr h
theorem MG{K:aK}{H:Hp}{p:Addr}{xs:List V}(h:jZ K (λ_=>none) p xs):jZ K H p xs:=by
 rcases h with (h | ⟨o,h⟩) | h
 .cases h
 .cases h
 .exact .inr h
section
variable {K:aK}{O O':Addr->Prop}{H H':Hp}
mutual
theorem Is.map(hO:∀q,H q≠none->¬O q->¬O' q)(hH:∀q u,H q=some u->¬O q->H' q=some u):∀{v:V} {d:D},Is K O H v d->Is K O' H' v d
 | _,_,.cj=>.cj
 | _,_,.bl b=>.bl b
 | _,_,.int i=>.int i
 | _,_,.str x=>.str x
 | _,_,.tup ho hp hs=>.tup (hO _ (YZ hp) ho) (Ys hH ho hp) (aQ.map hO hH hs)
 | _,_,.t7 hp hs=>.t7 hp (aQ.map hO hH hs)
 | _,_,.lst ho hp hs=>.lst (hO _ (by rw [hp];exact λz=>nomatch z) ho) (hH _ _ hp ho) (aQ.map hO hH hs)
 | _,_,.tT ho hp hs=>.tT (hO _ (YZ hp) ho) (Ys hH ho hp) (aQ.map hO hH hs)
 | _,_,.t8 hp hs=>.t8 hp (aQ.map hO hH hs)
 | _,_,.exc ho hn hp=>.exc (hO _ (by rw [hp];exact λz=>nomatch z) ho) hn (hH _ _ hp ho)
 | _,_,.mm ho hp=>.mm (hO _ (by rw [hp];exact λz=>nomatch z) ho) (hH _ _ hp ho)
 | _,_,.CI ho hp=>.CI (hO _ (by rw [hp];exact λz=>nomatch z) ho) (hH _ _ hp ho)
 | _,_,.obj ho hn hp hl hs=>.obj (hO _ (by rw [hp];exact λz=>nomatch z) ho) hn (hH _ _ hp ho) hl (aQ.map hO hH hs)
 | _,_,.i0 ho hp hl hs=>.i0 (hO _ (by rw [hp];exact λz=>nomatch z) ho) (hH _ _ hp ho) hl (aQ.map hO hH hs)
 | _,_,.bw ho hp hl hs=>.bw (hO _ (by rw [hp];exact λz=>nomatch z) ho) (hH _ _ hp ho) hl (aQ.map hO hH hs)
theorem aQ.map(hO:∀q,H q≠none->¬O q->¬O' q)(hH:∀q u,H q=some u->¬O q->H' q=some u):∀{v:List V} {d:List D},aQ K O H v d->aQ K O' H' v d
 | _,_,.nil=>.nil
 | _,_,.cons h t=>.cons (Is.map hO hH h) (aQ.map hO hH t)
end
theorem Is.grow(s:az H H')(h:Is K O H v d):Is K O H' v d:=h.map (λ_ _ z=>z) λq u e _=>s q u e
theorem aQ.grow(s:az H H')(h:aQ K O H v d):aQ K O H' v d:=h.map (λ_ _ z=>z) λq u e _=>s q u e
theorem Is.less(hO:∀q,O' q->O q)(h:Is K O H v d):Is K O' H v d:=h.map (λ_ _ z w=>z (hO _ w)) λ_ _ e _=>e
theorem aQ.less(hO:∀q,O' q->O q)(h:aQ K O H v d):aQ K O' H v d:=h.map (λ_ _ z w=>z (hO _ w)) λ_ _ e _=>e
theorem aQ.length:∀{v:List V} {d:List D},aQ K O H v d->v.length=d.length
 | _,_,.nil=>rfl
 | _,_,.cons _ t=>by rw [gq,gq,aQ.length t]
theorem aQ.append:∀{v w:List V} {d e:List D},aQ K O H v d->aQ K O H w e->aQ K O H (v++w) (d++e)
 | _,_,_,_,.nil,s=>s
 | _,_,_,_,.cons h t,s=>.cons h (aQ.append t s)
theorem aQ.get:∀{v:List V} {ds:List D} {i:Nat} {d:D},aQ K O H v ds->ds[i]?=some d->∃x,v[i]?=some x/\Is K O H x d
 | _,_,_,_,.nil,e=>by simp at e
 | _,_,0,_,.cons h _,e=>by simp at e;subst e;exact ⟨_,rfl,h⟩
 | _,_,i+1,d,.cons _ t,e=>by
  obtain ⟨u,h1,h2⟩:=aQ.get (i:=i) (d:=d) t (by simpa using e)
  exact ⟨u,by simpa using h1,h2⟩
theorem aQ.Cz:∀{v:List V} {ds:List D} {i:Nat} {x:V},aQ K O H v ds->v[i]?=some x->∃d,ds[i]?=some d/\Is K O H x d
 | _,_,_,_,.nil,e=>by simp at e
 | _,_,0,_,.cons h _,e=>by simp at e;subst e;exact ⟨_,rfl,h⟩
 | _,_,i+1,d,.cons _ t,e=>by
  obtain ⟨u,h1,h2⟩:=aQ.Cz (i:=i) (x:=d) t (by simpa using e)
  exact ⟨u,by simpa using h1,h2⟩
theorem aQ.take:∀{v:List V} {d:List D} (n:Nat),aQ K O H v d->aQ K O H (v.take n) (d.take n)
 | _,_,0,_=>.nil
 | _,_,_+1,.nil=>.nil
 | _,_,n+1,.cons h t=>.cons h (aQ.take n t)
theorem aQ.drop:∀{v:List V} {d:List D} (n:Nat),aQ K O H v d->aQ K O H (v.drop n) (d.drop n)
 | _,_,0,h=>h
 | _,_,_+1,.nil=>.nil
 | _,_,n+1,.cons _ t=>aQ.drop n t
theorem aQ.set(h:Is K O H x d):∀{v:List V} {ds:List D} (n:Nat),aQ K O H v ds->aQ K O H (v.set n x) (ds.set n d)
 | _,_,_,.nil=>.nil
 | _,_,0,.cons _ t=>.cons h t
 | _,_,n+1,.cons h' t=>.cons h' (aQ.set h n t)
theorem aQ.fq(h:aQ K O H v ds)(e:L2.fq ds i=some d):∃x,L2.fq v i=some x/\Is K O H x d:=by
 unfold L2.fq at e ⊢
 rw [h.length]
 cases q:ni ds.length i with
 | none=>rw [q] at e;cases e
 | some j =>
  rw [q] at e
  exact h.get e
theorem aQ.dropLast(h:aQ K O H v d):aQ K O H v.dropLast d.dropLast:=by
 rw [WB,WB,h.length]
 exact h.take _
theorem aQ.ints:∀(ns:List Int),aQ K O H (ns.map V.int) (ns.map D.int)
 | []=>.nil
 | n::r=>.cons (.int n) (aQ.ints r)
def Sq(K:aK)(H:Hp)(k:Bool)(p:Addr)(xs:List V):Prop:=if k=true then ic K H p xs else jZ K H p xs
noncomputable def iW:D->Option (Bool×List D)
 | .tup ds=>some (false,ds)
 | .lst _ ds=>some (true,ds)
 | _=>none
theorem Is.seq(h:Is K O H v d)(e:iW d=some (k,ds)):∃p xs,v=.ref p/\Sq K H k p xs/\aQ K O H xs ds:=by
 cases h with
 | tup ho hp hs=>cases e;exact ⟨_,_,rfl,.inl hp,hs⟩
 | t7 hp hs=>cases e;exact ⟨_,_,rfl,MG hp,hs⟩
 | lst ho hp hs=>cases e;exact ⟨_,_,rfl,.inl (.inl hp),hs⟩
 | tT ho hp hs=>cases e;exact ⟨_,_,rfl,.inl hp,hs⟩
 | t8 hp hs=>cases e;exact ⟨_,_,rfl,MF hp,hs⟩
 | _=>cases e
end
theorem Sq.grow{K:aK}{H H':Hp}{k:Bool}{p:Addr}{xs:List V}(s:az H H')(h:Sq K H k p xs):Sq K H' k p xs:=by
 cases k with
 | true =>
  rcases h with (h | ⟨o,h⟩) | h
  .exact .inl (.inl (s _ _ h))
  .exact .inl (.inr ⟨o,s _ _ h⟩)
  .exact .inr h
 | false =>
  rcases h with (h | ⟨o,h⟩) | h
  .exact .inl (.inl (s _ _ h))
  .exact .inl (.inr ⟨o,s _ _ h⟩)
  .exact .inr h
noncomputable def Sl.own:Sl->Prop
 | .ow _=>True
 | .dw _=>True
 | .tw _ _=>True
 | _=>False
noncomputable abbrev P4(aA:List (Int×Int)):HO:=.dK (aA.map λq=>(.inl q.1,.int q.2))
def oN(σ:L2.St)(env:En)(p:Addr):Prop:=∃(i:Nat) (s:Sl),env[i]?=some s/\s.own/\σ[i]?=some (some (V.ref p))
abbrev OO(O:Addr->Prop)(σ:L2.St)(env:En)(q:Addr):Prop:=O q\/oN σ env q
theorem _root_.L2.Tb.grow{K:aK}{H H':Hp}(s:az H H')(h:Tb K H):Tb K H':=λc P e=>s _ _ (h c P e)
def zQ(K:aK)(O:Addr->Prop)(H:Hp):Prop:=(∀q,O q->H q≠none)/\Tb K H
theorem zQ.grow{K:aK}{O:Addr->Prop}{H H':Hp}(s:az H H')(h:zQ K O H):zQ K O H':=⟨λq hq hn=>h.1 q hq (s.free hn),h.2.grow s⟩
structure Rel(K:aK)(O:Addr->Prop)(B:Hp)(σ:L2.St)(H:Hp)(env:En):Prop where
 same:az B H
 p8:zQ K O B
 len:σ.length=env.length
 sh:∀(i:Nat) (d:D),env[i]?=some (Sl.sh d)->∃v,σ[i]?=some (some v)/\Is K (OO O σ env) H v d
 ow:∀(i:Nat) (ds:List D),env[i]?=some (Sl.ow ds)->∃p xs,σ[i]?=some (some (V.ref p))/\B p=none/\H p=some (.lst xs)/\aQ K (OO O σ env) H xs ds
 dw:∀(i:Nat) (aA:List (Int×Int)),env[i]?=some (Sl.dw aA)->∃p,σ[i]?=some (some (V.ref p))/\B p=none/\H p=some (P4 aA)
 tw:∀(i:Nat) (ks:List Str) (ds:List D),env[i]?=some (Sl.tw ks ds)->∃p vs,σ[i]?=some (some (V.ref p))/\B p=none/\H p=some (mR ks vs)/\ks.length=vs.length/\aQ K (OO O σ env) H vs ds
 sep:∀(i j:Nat) (ds es:Sl) (p:Addr),env[i]?=some ds->env[j]?=some es->σ[i]?=some (some (V.ref p))->σ[j]?=some (some (V.ref p))->ds.own->es.own->i=j
noncomputable def Res(K:aK)(O:Addr->Prop)(B H:Hp)(v:V):Sl->Prop
 | .no=>False
 | .sh d=>Is K O H v d
 | .ow ds=>∃p xs,v=.ref p/\B p=none/\H p=some (.lst xs)/\aQ K (λq=>O q\/q=p) H xs ds
 | .dw aA=>∃p,v=.ref p/\B p=none/\H p=some (P4 aA)
 | .tw ks ds=>∃p vs,v=.ref p/\B p=none/\H p=some (mR ks vs)/\ks.length=vs.length/\aQ K (λq=>O q\/q=p) H vs ds
section
variable {K:aK}{O:Addr->Prop}{B H H' H1:Hp}{σ:L2.St}{env:En}{v:V}{r:Sl}
theorem Rel.ad(R:Rel K O B σ H env){i:Nat}{s:Sl}(h:env[i]?=some s)(ho:s.own):∃p u,σ[i]?=some (some (V.ref p))/\B p=none/\H p=some u:=by
 cases s with
 | ow ds=>obtain ⟨p,xs,e1,e2,e3,_⟩:=R.ow i ds h;exact ⟨p,_,e1,e2,e3⟩
 | dw aA=>obtain ⟨p,e1,e2,e3⟩:=R.dw i aA h;exact ⟨p,_,e1,e2,e3⟩
 | tw ks ds=>obtain ⟨p,vs,e1,e2,e3,_⟩:=R.tw i ks ds h;exact ⟨p,_,e1,e2,e3⟩
 | no=>exact ho.elim
 | sh d=>exact ho.elim
theorem Rel.oo(R:Rel K O B σ H env)(h:OO O σ env q):H q≠none:=by
 rcases h with h | ⟨i,s,h1,ho,h2⟩
 .intro z
  exact R.p8.1 q h (R.same.free z)
 .obtain ⟨p,u,e1,_,e3⟩:=R.ad h1 ho
  rw [h2] at e1
  cases e1
  rw [e3];exact λz=>nomatch z
theorem Rel.dm(R:Rel K O B σ H env):zQ K (OO O σ env) H:=⟨λ_=>R.oo,R.p8.2.grow R.same⟩
theorem Rel.grow(R:Rel K O B σ H env)(s:az H H'):Rel K O B σ H' env where
 same:=R.same.trans s
 p8:=R.p8
 len:=R.len
 sh:=λi d e=>let ⟨v,e1,h⟩:=R.sh i d e;⟨v,e1,h.grow s⟩
 ow:=λi ds e=>let ⟨p,xs,e1,e2,e3,h⟩:=R.ow i ds e;⟨p,xs,e1,e2,s _ _ e3,h.grow s⟩
 dw:=λi aA e=>let ⟨p,e1,e2,e3⟩:=R.dw i aA e;⟨p,e1,e2,s _ _ e3⟩
 tw:=λi ks ds e=>let ⟨p,vs,e1,e2,e3,e4,h⟩:=R.tw i ks ds e;⟨p,vs,e1,e2,s _ _ e3,e4,h.grow s⟩
 sep:=R.sep
theorem Res.from(s:az H1 B)(h:Res K O B H v r):Res K O H1 H v r:=by
 cases r with
 | no=>exact h
 | sh d=>exact h
 | ow ds=>obtain ⟨p,xs,e1,e2,e3,h⟩:=h;exact ⟨p,xs,e1,s.free e2,e3,h⟩
 | dw aA=>obtain ⟨p,e1,e2,e3⟩:=h;exact ⟨p,e1,s.free e2,e3⟩
 | tw ks ds=>obtain ⟨p,vs,e1,e2,e3,e4,h⟩:=h;exact ⟨p,vs,e1,s.free e2,e3,e4,h⟩
theorem Res.less(hO:∀q,O' q->O q)(h:Res K O B H v r):Res K O' B H v r:=by
 cases r with
 | no=>exact h
 | sh d=>exact Is.less hO h
 | ow ds=>obtain ⟨p,xs,e1,e2,e3,h⟩:=h;exact ⟨p,xs,e1,e2,e3,h.less λq z=>z.elim (λw=>.inl (hO _ w)) .inr⟩
 | dw aA=>exact h
 | tw ks ds=>obtain ⟨p,vs,e1,e2,e3,e4,h⟩:=h;exact ⟨p,vs,e1,e2,e3,e4,h.less λq z=>z.elim (λw=>.inl (hO _ w)) .inr⟩
theorem Res.is(hd:∀q,O q->B q≠none)(h:Res K O B H v r):Is K O H v r.d:=by
 cases r with
 | no=>exact h.elim
 | sh d=>exact h
 | ow ds =>
  obtain ⟨p,xs,rfl,e2,e3,h⟩:=h
  exact .lst (λz=>hd p z e2) e3 (h.less λ_=>.inl)
 | dw aA =>
  obtain ⟨p,rfl,e2,e3⟩:=h
  exact .mm (λz=>hd p z e2) e3
 | tw ks ds =>
  obtain ⟨p,vs,rfl,e2,e3,e4,h⟩:=h
  exact .i0 (λz=>hd p z e2) e3 e4 (h.less λ_=>.inl)
end
def EV(X:Cx)(e:Expr)(f:En->Option Sl):Prop:=
 ∃t:TE,PE X e t/\∀(O:Addr->Prop) (B:Hp) (σ:L2.St) (H:Hp) (env:En) (r:Sl) (Q:VK),Rel X.K O B σ H env->f env=some r ->
  (∀v H',az H H'->Res X.K (OO O σ env) H H' v r->Q v H')->t σ H Q
def BV(X:Cx)(e:Expr)(f:En->Option (Bool×List D)):Prop:=
 ∃t:TE,PE X e t/\∀(O:Addr->Prop) (B:Hp) (σ:L2.St) (H:Hp) (env:En) (k:Bool) (ds:List D) (Q:VK),Rel X.K O B σ H env->f env=some (k,ds) ->
  (∀p xs H',az H H'->Sq X.K H' k p xs->aQ X.K (OO O σ env) H' xs ds->Q (.ref p) H')->t σ H Q
def AV(X:Cx)(es:List Expr)(f:En->Option (List D)):Prop:=
 ∃t:TA,PA X es t/\∀(O:Addr->Prop) (B:Hp) (σ:L2.St) (H:Hp) (env:En) (ds:List D) (Q:List V->Hp->Prop),Rel X.K O B σ H env->f env=some ds ->
  (∀vs H',az H H'->aQ X.K (OO O σ env) H' vs ds->Q vs H')->t σ H Q
def TV(X:Cx)(e:Expr)(f:En->Option Bool):Prop:=
 ∃t:TT,PT X e t/\∀(O:Addr->Prop) (B:Hp) (σ:L2.St) (H:Hp) (env:En) (b:Bool) (Q:Bool->Hp->Prop),Rel X.K O B σ H env->f env=some b ->
  (∀H',az H H'->Q b H')->t σ H Q
def WV(X:Cx)(e:Expr)(f:En->Option Bool):Prop:=
 ∃t:TT,PW X e t/\∀(O:Addr->Prop) (B:Hp) (σ:L2.St) (H:Hp) (env:En) (b:Bool) (Q:Bool->Hp->Prop),Rel X.K O B σ H env->f env=some b ->
  (∀H',az H H'->Q b H')->t σ H Q
inductive Fl where
 | nx | bk | ct | rt (r:Sl)
def Gd(σ:L2.St)(env:En)(H:Hp)(aG:L2.St)(ag:En)(H':Hp):Prop:=∀q u,H q=some u->¬oN σ env q->H' q=some u/\¬oN aG ag q
theorem Gd.trans(a:Gd σ env H kF env1 H1)(b:Gd kF env1 H1 cF a8 H2):Gd σ env H cF a8 H2:=λq u e n =>
 let ⟨e1,n1⟩:=a q u e n
 b q u e1 n1
theorem Gd.from(s:az H H1)(b:Gd σ env H1 aG ag H'):Gd σ env H aG ag H':=λq u e n=>b q u (s _ _ e) n
theorem Gd.refl(s:az H H'):Gd σ env H σ env H':=λq u e n=>⟨s _ _ e,n⟩
noncomputable def fF(K:aK)(O:Addr->Prop)(B:Hp)(σ:L2.St)(H:Hp)(env:En)(D:Ends):Fl->En->Prop
 | .nx,ag=>∀aG H',Rel K O B aG H' ag->Gd σ env H aG ag H'->D.nx aG H'
 | .bk,ag=>∀aG H',Rel K O B aG H' ag->Gd σ env H aG ag H'->D.bk aG H'
 | .ct,ag=>∀aG H',Rel K O B aG H' ag->Gd σ env H aG ag H'->D.ct aG H'
 | .rt r,_=>∀v H',az B H'->Res K O B H' v r->D.rt v H'
theorem fF.from{K:aK}{O:Addr->Prop}{B:Hp}{σ kF:L2.St}{H H1:Hp}{env env1:En}{D:Ends}{fl:Fl}{ag:En}(g:Gd σ env H kF env1 H1)(h:fF K O B σ H env D fl ag):fF K O B kF H1 env1 D fl ag:=by
 cases fl with
 | nx=>exact λaG H' R g'=>h aG H' R (g.trans g')
 | bk=>exact λaG H' R g'=>h aG H' R (g.trans g')
 | ct=>exact λaG H' R g'=>h aG H' R (g.trans g')
 | rt r=>exact h
noncomputable abbrev SF:=En->Option (Fl×En)
def SV(X:Cx)(st:Stmt)(F:SF):Prop:=
 ∃t:TS,PS X st t/\∀(O:Addr->Prop) (B:Hp) (σ:L2.St) (H:Hp) (env:En) (fl:Fl) (ag:En) (D:Ends),Rel X.K O B σ H env->F env=some (fl,ag)->fF X.K O B σ H env D fl ag->t D σ H
def lz(X:Cx)(st:List Stmt)(F:SF):Prop:=
 ∃t:TS,oz X st t/\∀(O:Addr->Prop) (B:Hp) (σ:L2.St) (H:Hp) (env:En) (fl:Fl) (ag:En) (D:Ends),Rel X.K O B σ H env->F env=some (fl,ag)->fF X.K O B σ H env D fl ag->t D σ H
section
variable {X:Cx}{a b c:Expr}{pos:Pos}{fa fb fc:En->Option Sl}
noncomputable def eC(d:D):En->Option Sl:=λ_=>some (.sh d)
theorem aH{i j pos}:EV X (.Constant (.int i) j pos) (eC (.int i)):=⟨_,b7L,λ_ _ _ _ _ _ _ _ e k=>by
 obtain rfl:=gp e
 exact k _ _ (az.refl _) (Is.int i)⟩
theorem RD{i j pos}:EV X (.Constant (.bool i) j pos) (eC (.bl i)):=⟨_,Gz,λ_ _ _ _ _ _ _ _ e k=>by
 obtain rfl:=gp e
 exact k _ _ (az.refl _) (Is.bl i)⟩
theorem c8{x j pos}:EV X (.Constant (.str x) j pos) (eC (.str x)):=⟨_,b7I,λ_ _ _ _ _ _ _ _ e k=>by
 obtain rfl:=gp e
 exact k _ _ (az.refl _) (Is.str x)⟩
noncomputable def Ku:Option Sl->Option Sl
 | some (.sh d)=>some (.sh d)
 | _=>none
theorem b2s(h:Ku o=some r):∃d,o=some (Sl.sh d)/\r=.sh d:=by
 cases o with
 | none=>cases h
 | some s=>cases s with
  | sh d=>cases h;exact ⟨d,rfl,rfl⟩
  | no=>cases h
  | ow ds=>cases h
  | dw ds=>cases h
  | tw _ _=>cases h
noncomputable def eV(i:Nat):En->Option Sl:=λenv=>Ku env[i]?
theorem XJ(i:Nat)(hN:X.N[i]?=some x:=by rfl)(hv:gm X.env.scope x:=by first | exact cK rfl | exact bL (cK rfl) | exact bL (bL rfl))(hd:(x==("__debug__":Str))=false:=by decide)
  (bM:(x==("__classdict__":Str))=false:=by decide):EV X (.Name x pos) (eV i):=⟨_,oK hN hv hd bM,λO B σ H env r Q R e k=>by
 obtain ⟨d,e1,rfl⟩:=b2s e
 obtain ⟨v,e2,h⟩:=R.sh i d e1
 exact ⟨v,e2,k v H (az.refl _) h⟩⟩
noncomputable def B3:Option Sl->Option (Bool×List D)
 | some (.sh d)=>iW d
 | some (.ow ds)=>some (true,ds)
 | _=>none
noncomputable def bV(i:Nat):En->Option (Bool×List D):=λenv=>B3 env[i]?
theorem b8M(i:Nat)(hN:X.N[i]?=some x:=by rfl)(hv:gm X.env.scope x:=by first | exact cK rfl | exact bL (cK rfl) | exact bL (bL rfl))(hd:(x==("__debug__":Str))=false:=by decide)
  (bM:(x==("__classdict__":Str))=false:=by decide):BV X (.Name x pos) (bV i):=⟨_,oK hN hv hd bM,λO B σ H env k ds Q R e q=>by
 unfold bV at e
 cases h:env[i]? with
 | none=>rw [h] at e;cases e
 | some s =>
  rw [h] at e
  cases s with
  | no=>cases e
  | sh d =>
   obtain ⟨v,e2,hv⟩:=R.sh i d h
   obtain ⟨p,xs,rfl,h1,h2⟩:=hv.seq (show iW d=some (k,ds) from e)
   exact ⟨_,e2,q p xs H (az.refl _) h1 h2⟩
  | dw es=>cases e
  | tw _ _=>cases e
  | ow es =>
   obtain ⟨rfl,rfl⟩:true=k/\es=ds:=Prod.mk.inj (gp e)
   obtain ⟨p,xs,e2,_,e3,h2⟩:=R.ow i es h
   exact ⟨_,e2,q p xs H (az.refl _) (.inl (.inl e3)) h2⟩⟩
noncomputable def pG(f:En->Option Sl):En->Option (Bool×List D):=λenv=>(f env).bind λr=>iW r.d
theorem bind_some{α β:Type}{o:Option α}{f:α->Option β}{b:β}(h:o.bind f=some b):∃a,o=some a/\f a=some b:=by
 cases o with
 | none=>cases h
 | some a=>exact ⟨a,rfl,h⟩
theorem wD(h:EV X a fa):BV X a (pG fa):=by
 obtain ⟨t,ht,p⟩:=h
 refine ⟨t,ht,λO B σ H env k ds Q R e q=>?_⟩
 obtain ⟨r,e1,e2⟩:=bind_some e
 refine p O B σ H env r _ R e1 λv H' s h=>?_
 obtain ⟨p,xs,rfl,h1,h2⟩:=(h.is (λz=>R.oo)).seq e2
 exact q p xs H' s h1 h2
def nC(X:Cx)(f:Value->Value->Sem Value)(g:D->D->Option Sl):Prop:=
 ∃r:R2,lG X f r/\∀(O:Addr->Prop) (H:Hp) (x y:V) (a b:D) (s:Sl) (Q:VK),(∀q,O q->H q≠none)->Is X.K O H x a->Is X.K O H y b->g a b=some s ->
  (∀v H',az H H'->Res X.K O H H' v s->Q v H')->r x y H Q
noncomputable def ah(g:D->D->Option Sl)(fa fb:En->Option Sl):En->Option Sl:=λenv=>(fa env).bind λx=>(fb env).bind λy=>g x.d y.d
theorem S0(hg:∀(O:Addr->Prop) (H:Hp) (x y:V) (a b:D) (s:Sl) (Q:VK),(∀q,O q->H q≠none)->Is X.K O H x a->Is X.K O H y b->g a b=some s->(∀v H',az H H'->Res X.K O H H' v s->Q v H')->r x y H Q)(pa:∀(O:Addr->Prop) (B:Hp) (σ:L2.St) (H:Hp) (env:En) (r:Sl) (Q:VK),Rel X.K O B σ H env->fa env=some r->(∀v H',az H H'->Res X.K (OO O σ env) H H' v r->Q v H')->ta σ H Q)
  (pb:∀(O:Addr->Prop) (B:Hp) (σ:L2.St) (H:Hp) (env:En) (r:Sl) (Q:VK),Rel X.K O B σ H env->fb env=some r->(∀v H',az H H'->Res X.K (OO O σ env) H H' v r->Q v H')->tb σ H Q)
  (O:Addr->Prop)(B:Hp)(σ:L2.St)(H:Hp)(env:En)(s:Sl)(Q:VK)(R:Rel X.K O B σ H env)(e:ah g fa fb env=some s)
  (k:∀v H',az H H'->Res X.K (OO O σ env) H H' v s->Q v H'):FZ r ta tb σ H Q:=by
 obtain ⟨x,e1,e⟩:=bind_some e
 obtain ⟨y,e2,e⟩:=bind_some e
 refine pa O B σ H env x _ R e1 λv H1 s1 h1=>?_
 refine pb O B σ H1 env y _ (R.grow s1) e2 λu H2 s2 h2=>?_
 have R2:=(R.grow s1).grow s2
 refine hg (OO O σ env) H2 v u x.d y.d s Q (λq=>R2.oo) ((h1.is λq=>R.oo).grow s2) (h2.is λq=>(R.grow s1).oo) e λw H3 s3 h3=>?_
 exact k w H3 ((s1.trans s2).trans s3) (h3.from (s1.trans s2))
theorem bW(ho:nC X (binaryOp op) g)(ha:EV X a fa)(hb:EV X b fb):EV X (.BinOp a op b pos) (ah g fa fb):=by
 obtain ⟨r,hr,hg⟩:=ho
 obtain ⟨ta,pa,ka⟩:=ha
 obtain ⟨tb,pb,kb⟩:=hb
 exact ⟨_,Gx hr pa pb,S0 hg ka kb⟩
theorem Jw(ho:nC X (compareOp op) g)(ha:EV X a fa)(hb:EV X b fb)(hm:behindInMarks op b=false:=by exact X8 _):EV X (.Compare a [op] [b] pos) (ah g fa fb):=by
 obtain ⟨r,hr,hg⟩:=ho
 obtain ⟨ta,pa,ka⟩:=ha
 obtain ⟨tb,pb,kb⟩:=hb
 exact ⟨_,b5i hr pa pb hm,S0 hg ka kb⟩
noncomputable def AQ:Option Sl->Option Bool
 | some (.sh (.bl b))=>some b
 | _=>none
theorem E8{b:Bool}(h:AQ o=some b):o=some (Sl.sh (.bl b)):=by
 cases o with
 | none=>cases h
 | some s=>cases s with
  | no=>cases h
  | ow ds=>cases h
  | dw ds=>cases h
  | tw _ _=>cases h
  | sh d=>cases d<;>cases h;rfl
noncomputable def bT(f:En->Option Sl):En->Option Bool:=λenv=>AQ (f env)
theorem Dg{K:aK}{O:Addr->Prop}{H:Hp}{v:V}{b:Bool}(h:Is K O H v (.bl b)):v=.bl b:=by cases h;rfl
theorem rq{K:aK}{O:Addr->Prop}{H:Hp}{v:V}{b:Int}(h:Is K O H v (.int b)):v=.int b:=by cases h;rfl
theorem b8i{K:aK}{O:Addr->Prop}{H:Hp}{v:V}(h:Is K O H v .cj):v=.cj:=by cases h;rfl
theorem oJ{K:aK}{O:Addr->Prop}{H:Hp}{v:V}{b:Str}(h:Is K O H v (.str b)):v=.str b:=by cases h;rfl
theorem gf(ho:nC X (compareOp op) g)(ha:EV X a fa)(hb:EV X b fb)(hm:behindInMarks op b=false:=by exact X8 _):TV X (.Compare a [op] [b] pos) (bT (ah g fa fb)):=by
 obtain ⟨r,hr,hg⟩:=ho
 obtain ⟨ta,pa,ka⟩:=ha
 obtain ⟨tb,pb,kb⟩:=hb
 refine ⟨_,b48 hr pa pb hm,λO B σ H env k Q R e q=>?_⟩
 exact S0 hg ka kb O B σ H env _ _ R (E8 e) λv H' s h=>⟨k,Dg h,q H' s⟩
noncomputable def nK:D->Option Bool
 | .cj=>some false
 | .bl b=>some b
 | .int i=>some (i != 0)
 | .str y=>if y.length<=16777216 then some ((y.length:Int) != 0) else none
 | .tup ds=>some (!ds.isEmpty)
 | .lst _ ds=>some (!ds.isEmpty)
 | .exc _=>none
 | .mm _ _=>none
 | .obj _ _ _=>none
 | .i0 _ _=>none
 | .bw _ _=>none
theorem aQ.isEmpty{K:aK}{O:Addr->Prop}{H:Hp}{xs:List V}{ds:List D}(h:aQ K O H xs ds):xs.isEmpty=ds.isEmpty:=by cases h<;>rfl
theorem b4O{K:aK}{O:Addr->Prop}{H:Hp}{v:V}{d:D}{b:Bool}(h:Is K O H v d)(e:nK d=some b):Dx K v H b:=by
 cases h with
 | cj=>cases e;rfl
 | bl b=>cases e;rfl
 | int i=>cases e;rfl
 | str x =>
  unfold nK at e
  dsimp only at e
  by_cases hl:x.length<=16777216
  .rw [if_pos hl] at e;cases e;exact ⟨by rw [lr];exact hl,rfl⟩
  .rw [if_neg hl] at e;cases e
 | tup ho hp hs=>cases e;exact .inr (.inl ⟨_,.inl hp,by rw [hs.isEmpty]⟩)
 | t7 hp hs=>cases e;exact .inr (.inl ⟨_,MG hp,by rw [hs.isEmpty]⟩)
 | lst ho hp hs=>cases e;exact .inl ⟨_,.inl (.inl hp),by rw [hs.isEmpty]⟩
 | tT ho hp hs=>cases e;exact .inl ⟨_,.inl hp,by rw [hs.isEmpty]⟩
 | t8 hp hs=>cases e;exact .inl ⟨_,MF hp,by rw [hs.isEmpty]⟩
 | exc ho hn hp=>cases e
 | mm ho hp=>cases e
 | obj=>cases e
 | i0=>cases e
 | bw=>cases e
 | CI ho hp=>cases e
noncomputable def ie(f:En->Option Sl):En->Option Bool:=λenv=>(f env).bind λr=>nK r.d
theorem Md(ha:EV X a fa)(he:∀whole,isTrue a X.env whole=(do let v <-whole;standAt a.pos;holding [v] (truthy v)):=by intro _;rfl):TV X a (ie fa):=by
 obtain ⟨ta,pa,ka⟩:=ha
 refine ⟨_,Zx pa he,λO B σ H env k Q R e q=>?_⟩
 obtain ⟨r,e1,e2⟩:=bind_some e
 exact ka O B σ H env r _ R e1 λv H' s h=>⟨k,b4O (h.is λq=>R.oo) e2,q H' s⟩
noncomputable def LY(f:En->Option (Bool×List D)):En->Option Bool:=λenv=>(f env).bind λr=>some (!r.2.isEmpty)
theorem b4K{fa:En->Option (Bool×List D)}(ha:BV X a fa)(he:∀whole,isTrue a X.env whole=(do let v <-whole;standAt a.pos;holding [v] (truthy v)):=by intro _;rfl):TV X a (LY fa):=by
 obtain ⟨ta,pa,ka⟩:=ha
 refine ⟨_,Zx pa he,λO B σ H env k Q R e q=>?_⟩
 obtain ⟨⟨kk,ds⟩,e1,e2⟩:=bind_some e
 cases e2
 refine ka O B σ H env kk ds _ R e1 λp xs H' s h hs=>⟨_,?_,q H' s⟩
 cases kk with
 | true=>exact .inl ⟨xs,h,by rw [hs.isEmpty]⟩
 | false=>exact .inr (.inl ⟨xs,h,by rw [hs.isEmpty]⟩)
noncomputable def AR(f g:En->Option Bool):En->Option Bool:=λenv=>match f env with
 | some true=>g env
 | some false=>some false
 | none=>none
noncomputable def mI(f g:En->Option Bool):En->Option Bool:=λenv=>match f env with
 | some false=>g env
 | some true=>some true
 | none=>none
noncomputable def n9(f:En->Option Bool):En->Option Bool:=λenv=>(f env).map (!·)
variable {ga gb:En->Option Bool}{rest:List Expr}
theorem YX(ha:TV X a ga):WV X (.BoolOp .And [a] pos) ga:=let ⟨t,p,k⟩:=ha;⟨t,b47 p,k⟩
theorem Me(ha:TV X a ga):WV X (.BoolOp .Or [a] pos) ga:=let ⟨t,p,k⟩:=ha;⟨t,b7y p,k⟩
theorem Yj(ha:TV X a ga)(hb:WV X (.BoolOp .And (b::rest) pos) gb):WV X (.BoolOp .And (a::b::rest) pos) (AR ga gb):=by
 obtain ⟨t,p,k⟩:=ha
 obtain ⟨u,p',k'⟩:=hb
 refine ⟨_,b7z p p',λO B σ H env d Q R e q=>?_⟩
 unfold AR at e
 cases h:ga env with
 | none=>rw [h] at e;cases e
 | some x =>
  rw [h] at e
  refine k O B σ H env x _ R h λH1 s1=>?_
  cases x with
  | true =>
   rw [if_pos rfl]
   exact k' O B σ H1 env d Q (R.grow s1) e λH2 s2=>q H2 (s1.trans s2)
  | false =>
   cases e
   rw [if_neg wj]
   exact q H1 s1
theorem LZ(ha:TV X a ga)(hb:WV X (.BoolOp .Or (b::rest) pos) gb):WV X (.BoolOp .Or (a::b::rest) pos) (mI ga gb):=by
 obtain ⟨t,p,k⟩:=ha
 obtain ⟨u,p',k'⟩:=hb
 refine ⟨_,pw_or p p',λO B σ H env d Q R e q=>?_⟩
 unfold mI at e
 cases h:ga env with
 | none=>rw [h] at e;cases e
 | some x =>
  rw [h] at e
  refine k O B σ H env x _ R h λH1 s1=>?_
  cases x with
  | false =>
   rw [if_neg wj]
   exact k' O B σ H1 env d Q (R.grow s1) e λH2 s2=>q H2 (s1.trans s2)
  | true =>
   cases e
   rw [if_pos rfl]
   exact q H1 s1
theorem tP(h:WV X a ga):TV X a ga:=let ⟨t,p,k⟩:=h;⟨t,p.pt,k⟩
theorem JC(ha:TV X a ga):TV X (.UnaryOp .Not a pos) (n9 ga):=by
 obtain ⟨t,p,k⟩:=ha
 refine ⟨_,b7B p,λO B σ H env d Q R e q=>?_⟩
 unfold n9 at e
 cases h:ga env with
 | none=>rw [h] at e;cases e
 | some x =>
  rw [h] at e
  cases e
  exact k O B σ H env x _ R h λH1 s1=>q H1 s1
variable {e:Expr}{es:List Expr}
noncomputable def aa:En->Option (List D):=λ_=>some []
noncomputable def ae(f:En->Option Sl)(g:En->Option (List D)):En->Option (List D):=λenv=>(f env).bind λr=>(g env).bind λds=>some (r.d::ds)
theorem aN:AV X [] aa:=⟨_,mV,λO B σ H env ds Q R e q=>by
 obtain rfl:=gp e
 exact q [] H (az.refl _) .nil⟩
theorem ai(ha:EV X e fe)(hb:AV X es fs)(hs:starEach (e::es) X.env=(false,eval e X.env)::starEach es X.env:=by rfl):AV X (e::es) (ae fe fs):=by
 obtain ⟨t,p,k⟩:=ha
 obtain ⟨u,p',k'⟩:=hb
 refine ⟨_,kY p p' hs,λO B σ H env ds Q R e q=>?_⟩
 obtain ⟨r,e1,e2⟩:=bind_some e
 obtain ⟨ds',e4,e3⟩:=bind_some e2
 obtain rfl:=gp e3
 refine k O B σ H env r _ R e1 λv H1 s1 r1=>?_
 refine k' O B σ H1 env ds' _ (R.grow s1) e4 λvs H2 s2 r2=>?_
 exact q _ H2 (s1.trans s2) (.cons ((r1.is λq=>R.oo).grow s2) r2)
theorem mX(h:H p=none)(o:HO):az H (upd H p o):=λb u q=>by rw [dW (pO q h)];exact q
noncomputable def dF(f:En->Option (List D)):En->Option Sl:=λenv=>(f env).bind λds=>if ds.length<=16777216 then some (.sh (.tup ds)) else none
noncomputable def b9(f:En->Option (List D)):En->Option Sl:=λenv=>(f env).bind λds=>if ds.length<=16777216 then some (.ow ds) else none
theorem jg{α:Type}{c:Prop}[Decidable c]{x y:α}(h:(if c then some x else none)=some y):c/\x=y:=by
 by_cases hc:c
 .rw [if_pos hc] at h;exact ⟨hc,gp h⟩
 .rw [if_neg hc] at h;cases h
theorem Mv{K:aK}{O:Addr->Prop}{H:Hp}{p:Addr}{xs:List V}{ds:List D}(hO:∀q,O q->H q≠none)(hp:H p=none)(h:aQ K O H xs ds):Res K O H (upd H p (.tup xs)) (.ref p) (.sh (.tup ds)):=
 Is.tup (λz=>hO p z hp) (.inl kn) (h.grow (mX hp _))
theorem E3{K:aK}{O:Addr->Prop}{H:Hp}{p:Addr}{xs:List V}{ds:List D}(hp:H p=none)(h:aQ K O H xs ds):Res K O H (upd H p (.lst xs)) (.ref p) (.ow ds):=
 ⟨p,xs,rfl,hp,kn,h.map (λq hq hn z=>z.elim hn λw=>hq (by rw [w];exact hp)) λq u e _=>mX hp _ q u e⟩
theorem nB{x1}(h:AV X es fs):EV X (.Tuple es x1 pos) (dF fs):=by
 obtain ⟨t,p,k⟩:=h
 refine ⟨_,Ym p,λO B σ H env r Q R e q=>?_⟩
 obtain ⟨ds,e1,e2⟩:=bind_some e
 obtain ⟨hl,rfl⟩:=jg e2
 refine k O B σ H env ds _ R e1 λvs H1 s1 r1=>⟨by rw [r1.length,lr];exact hl,λp hp=>?_⟩
 exact q _ _ (s1.trans (mX hp _)) ((Mv (O:=OO O σ env) (H:=H1) (λ_ z=>(R.grow s1).oo z) hp r1).from s1)
theorem jY(h:AV X es fs):EV X (.List es pos) (b9 fs):=by
 obtain ⟨t,p,k⟩:=h
 refine ⟨_,b7J p,λO B σ H env r Q R e q=>?_⟩
 obtain ⟨ds,e1,e2⟩:=bind_some e
 obtain ⟨hl,rfl⟩:=jg e2
 refine k O B σ H env ds _ R e1 λvs H1 s1 r1=>⟨by rw [r1.length,lr];exact hl,λp hp=>?_⟩
 exact q _ _ (s1.trans (mX hp _)) ((E3 hp r1).from s1)
noncomputable def cW(f:En->Option (Bool×List D))(g:En->Option Sl):En->Option Sl:=λenv=>(f env).bind λx=>(g env).bind λy=>match y.d with
 | .int i=>(fq x.2 i).map .sh
 | _=>none
theorem eM{fa:En->Option (Bool×List D)}(ha:BV X a fa)(hb:EV X b fb)(hs:Sm b:=by exact λ_ _=>rfl):EV X (.Subscript a b pos) (cW fa fb):=by
 obtain ⟨t,p,k⟩:=ha
 obtain ⟨u,p',k'⟩:=hb
 refine ⟨_,XA b8d p p' hs,λO B σ H env r Q R e q=>?_⟩
 obtain ⟨⟨kk,ds⟩,e1,e2⟩:=bind_some e
 obtain ⟨y,e2,e3⟩:=bind_some e2
 refine k O B σ H env kk ds _ R e1 λl xs H1 s1 hq hx=>?_
 refine k' O B σ H1 env y _ (R.grow s1) e2 λw H2 s2 r2=>?_
 have hi:=r2.is λq=>(R.grow s1).oo
 cases hd:y.d with
 | int i =>
  rw [hd] at hi e3
  obtain rfl:=rq hi
  dsimp only at e3
  cases h:fq ds i with
  | none=>rw [h] at e3;cases e3
  | some d =>
   rw [h] at e3
   obtain rfl:=gp e3
   obtain ⟨v,h1,h2⟩:=(hx.grow s2).fq h
   have fO:=hq.grow s2
   have fin:=q v H2 (s1.trans s2) h2
   cases kk with
   | true=>exact .inl ⟨l,xs,i,v,rfl,rfl,fO,h1,fin⟩
   | false=>exact .inr (.inl ⟨l,xs,i,v,rfl,rfl,fO,h1,fin⟩)
 | _=>rw [hd] at e3;cases e3
end
noncomputable def LIM:Int:=10^250
theorem b5x(h1:-LIM<=j)(h2:j<=LIM):j.natAbs<2^900:=by
 have e:LIM<(2:Int)^900:=by unfold LIM;decide +kernel
 have e2:((2:Int)^900)=((2^900:Nat):Int):=by simp
 generalize (2^900:Nat)=m at *
 generalize LIM=l at *
 omega
theorem Yz(h1:-LIM<=j)(h2:j<=LIM):j.natAbs.log2<900:=by
 rcases Q9 j.natAbs with h0 | hp
 .rw [h0];decide
 .exact (Nat.log2_lt (D8 hp)).mpr (b5x h1 h2)
theorem Zl(h1:-LIM<=j)(h2:j<=LIM):Wh j<=900:=by
 have:=Yz h1 h2
 unfold Wh
 split<;>omega
def MulC(i j:Int):Prop:=(-(2^64)<i/\i<2^64)\/(-(2^64)<j/\j<2^64)\/((-LIM<=i/\i<=LIM)/\(-LIM<=j/\j<=LIM))
noncomputable instance (i j:Int):Decidable (MulC i j):=by unfold MulC;infer_instance
theorem MulC.ok(h:MulC i j):IntMulOk i j:=by
 rcases h with ⟨h1,h2⟩ | ⟨h1,h2⟩ | ⟨⟨h1,h2⟩,h3,h4⟩
 .exact .of_left (intBits_le_64 h1 h2)
 .exact .of_right (intBits_le_64 h1 h2)
 .exact mulOk_of_bits (Zl h1 h2) (Zl h3 h4) (by decide)
def DivC(_ j:Int):Prop:=0<j/\j<=LIM
noncomputable instance (i j:Int):Decidable (DivC i j):=by unfold DivC;infer_instance
def A9(_ j:Int):Prop:=0<j
noncomputable instance (i j:Int):Decidable (A9 i j):=by unfold A9;infer_instance
def PowC(i j:Int):Prop:=0<=j/\j<=1000000/\i.natAbs<2^64
noncomputable instance (i j:Int):Decidable (PowC i j):=by unfold PowC;infer_instance
noncomputable def gI(C:Int->Int->Prop)[∀i j,Decidable (C i j)](h:Int->Int->Int):D->D->Option Sl
 | .int i,.int j=>if C i j then some (.sh (.int (h i j))) else none
 | _,_=>none
noncomputable def gB(h:Int->Int->Bool):D->D->Option Sl
 | .int i,.int j=>some (.sh (.bl (h i j)))
 | _,_=>none
section
variable {X:Cx}
theorem Jk{f:Value->Value->Sem Value}{C:Int->Int->Prop}[∀i j,Decidable (C i j)]{h:Int->Int->Int}(ho:lG X f (rI C λi j=>.int (h i j))):nC X f (gI C h):=by
 refine ⟨_,ho,λO H x y a b s Q hO hx hy e q=>?_⟩
 cases a with
 | int i=>cases b with
  | int j =>
   obtain ⟨hc,rfl⟩:=jg (show (if C i j then some (Sl.sh (.int (h i j))) else none)=some s from e)
   exact ⟨i,j,rq hx,rq hy,hc,q _ H (az.refl _) (Is.int _)⟩
  | _=>cases e
 | _=>cases e
theorem Rr(ho:lG X f (B7 λi j=>.bl (h i j))):nC X f (gB h):=by
 refine ⟨_,ho,λO H x y a b s Q hO hx hy e q=>?_⟩
 cases a with
 | int i=>cases b with
  | int j =>
   obtain rfl:=gp (show some (Sl.sh (.bl (h i j)))=some s from e)
   exact ⟨i,j,rq hx,rq hy,q _ H (az.refl _) (Is.bl _)⟩
  | _=>cases e
 | _=>cases e
noncomputable def iG:D->D->Option Sl:=gI MulC λi j=>i*j
noncomputable def kD:D->D->Option Sl:=gI DivC λi j=>i/j
noncomputable def ej:D->D->Option Sl:=gI A9 λi j=>i%j
noncomputable def mj:D->D->Option Sl:=gI PowC λi j=>i^j.toNat
noncomputable def nX:D->D->Option Sl:=gI (λ_ _=>True) λi j=>i-j
noncomputable def vL:D->D->Option Sl:=gB λi j=>decide (i<j)
noncomputable def KZ:D->D->Option Sl:=gB λi j=>decide (i<=j)
noncomputable def yb:D->D->Option Sl:=gB λi j=>decide (j<i)
theorem tH:nC X (binaryOp .Mult) iG:=Jk (GH λ_ _ _ _ _ _ _ (hc:MulC _ _) q=>mul_int q hc.ok)
theorem Dj:nC X (binaryOp .FloorDiv) kD:=Jk (GH λi j _ _ _ _ _ (hc:DivC i j) q=>by
 have h1:(0:Int)<j:=hc.1
 have h2:=Yz (j:=j) (by have:(0:Int)<=LIM:=(by decide +kernel);omega) hc.2
 exact floordiv_int (by omega) (by rw [Int.fdiv_eq_ediv_of_nonneg i (by omega)];exact q) (.inl (PyProof.noPylong_of_log2 (by omega))))
theorem qc:nC X (binaryOp .Mod) ej:=Jk (GH λi j _ _ _ _ _ (hc:A9 i j) q=>by
 have h1:(0:Int)<j:=hc
 exact mod_int' (by omega) (by rw [Int.fmod_eq_emod_of_nonneg i (by omega)];exact q))
theorem AZ:nC X (binaryOp .Pow) mj:=Jk (GH λ_ _ _ _ _ _ _ (hc:PowC _ _) q=>pow_int_small hc.1 hc.2.1 hc.2.2 q)
theorem Sb:nC X (binaryOp .Sub) nX:=Jk (GH λ_ _ _ _ _ _ _ _ q=>sub_int q)
theorem EH:nC X (compareOp .Lt) vL:=Rr GC
theorem Xx:nC X (compareOp .LtE) KZ:=Rr GD
theorem De:nC X (compareOp .Gt) yb:=Rr GG
noncomputable def bb:D->D->Option Sl
 | .int i,.int j=>some (.sh (.int (i+j)))
 | .lst false a,.lst false b=>if a.length+b.length<=16777216 then some (.ow (a++b)) else none
 | .tup a,.tup b=>if a.length+b.length<=16777216 then some (.sh (.tup (a++b))) else none
 | .str a,.str b=>if a.length+b.length<=16777216 then some (.sh (.str (a++b))) else none
 | _,_=>none
theorem Jz{K:aK}{O:Addr->Prop}{H:Hp}{v:V}{ds:List D}(h:Is K O H v (.tup ds)):∃p xs,v=.ref p/\jZ K H p xs/\aQ K O H xs ds:=by
 obtain ⟨p,xs,e,h1,h2⟩:=h.seq (k:=false) rfl
 exact ⟨p,xs,e,h1,h2⟩
theorem RK{K:aK}{O:Addr->Prop}{H:Hp}{v:V}{ds:List D}(h:Is K O H v (.lst false ds)):∃p xs,v=.ref p/\¬O p/\H p=some (.lst xs)/\aQ K O H xs ds:=by
 cases h with
 | lst ho hp hs=>exact ⟨_,_,rfl,ho,hp,hs⟩
theorem aQ.iL{K:aK}{O:Addr->Prop}{H:Hp}{xs:List V}{ds:List D}(h:aQ K O H xs ds):xs=[]↔ds=[]:=by cases h<;>simp
theorem ZF{α:Type}{c:Prop}{d:Decidable c}{x y:α}(h:(@ite _ c d (some x) none)=some y):c/\x=y:=jg h
theorem iR:nC X (binaryOp .Add) bb:=by
 refine ⟨_,B9.or (B8.or (Ac.or (qA.or b5p))),λO H x y a b s Q hO hx hy e q=>?_⟩
 cases a with
 | int i=>cases b with
  | int j =>
   obtain rfl:=gp (show some (Sl.sh (.int (i+j)))=some s from e)
   exact .inl ⟨i,j,rq hx,rq hy,q _ H (az.refl _) (Is.int _)⟩
  | _=>cases e
 | lst r a=>cases r with
  | true=>cases b<;>cases e
  | false=>cases b with
   | lst r b=>cases r with
    | true=>cases e
    | false =>
     obtain ⟨hl,rfl⟩:=jg (show (if a.length+b.length<=16777216 then some (Sl.ow (a++b)) else none)=some s from e)
     obtain ⟨p1,xs,rfl,_,h1,i1⟩:=RK hx
     obtain ⟨p2,ys,rfl,_,h2,i2⟩:=RK hy
     exact .inr (.inl ⟨p1,p2,xs,ys,rfl,rfl,h1,h2,by rw [i1.length,i2.length,lr];exact hl,λp hp=>q _ _ (mX hp _) (E3 hp (i1.append i2))⟩)
   | _=>cases e
 | tup a=>cases b with
  | tup b =>
   obtain ⟨hl,rfl⟩:=ZF (show (if a.length+b.length<=16777216 then some (Sl.sh (.tup (a++b))) else none)=some s from e)
   obtain ⟨p1,xs,rfl,h1,i1⟩:=Jz hx
   obtain ⟨p2,ys,rfl,h2,i2⟩:=Jz hy
   by_cases h0:a=[]
   .subst h0
    cases i1
    exact .inr (.inr (.inr (.inr ⟨p1,p2,ys,rfl,rfl,h1,h2,q _ H (az.refl _) hy⟩)))
   refine .inr (.inr (.inl ⟨p1,p2,xs,ys,rfl,rfl,h1,h2,λz=>h0 (i1.iL.mp z),by rw [i1.length,i2.length,lr];exact hl,λz=>?_,λz p hp=>q _ _ (mX hp _) (Mv hO hp (i1.append i2))⟩))
   have z':=i2.iL.mp z
   subst z'
   rw [yu] at q
   exact q _ H (az.refl _) hx
  | _=>cases e
 | str a=>cases b with
  | str b =>
   obtain ⟨hl,rfl⟩:=jg (show (if a.length+b.length<=16777216 then some (Sl.sh (.str (a++b))) else none)=some s from e)
   exact .inr (.inr (.inr (.inl ⟨a,b,oJ hx,oJ hy,by rw [lr];exact hl,q _ H (az.refl _) (Is.str _)⟩)))
  | _=>cases e
 | _=>cases e
theorem map_some{α β:Type}{o:Option α}{f:α->β}{b:β}(h:o.map f=some b):∃a,o=some a/\f a=b:=by
 cases o with
 | none=>cases h
 | some a=>exact ⟨a,rfl,gp h⟩
noncomputable def D.nj:D->Bool
 | .cj=>true
 | _=>false
end
section
variable {X:Cx}{a b c:Expr}{pos p:Pos}{fa fb:En->Option Sl}{es:List Expr}{e:Expr}
theorem b1t{K:aK}{O:Addr->Prop}{H:Hp}{xs:List V}{i j:Int}(h:aQ K O H xs [.int i,.int j]):xs=[.int i,.int j]:=by
 cases h with
 | cons h t=>cases t with
  | cons h' t=>cases t;rw [rq h,rq h']
noncomputable def cV(f:En->Option (Bool×List D)):En->Option Sl:=λenv=>(f env).map λx=>.sh (.int x.2.length)
noncomputable def Jf(f:En->Option (Bool×List D)):En->Option Sl:=λenv=>(f env).map λx=>.ow x.2
variable {ba:En->Option (Bool×List D)}
theorem og(hg:Gl X "len")(hm:X.mg "len" = none)(ha:BV X a ba)(hs:starEach [a] X.env=[(false,eval a X.env)]:=by rfl):EV X (.Call (.Name "len" p) [a] [] pos) (cV ba):=by
 obtain ⟨t,pt,k⟩:=ha
 refine ⟨_,BK a7L hg hm QO (kY pt mV hs) (by decide) (by decide) hs rfl,λO B σ H env s Q R e q=>?_⟩
 obtain ⟨⟨kk,ds⟩,e1,rfl⟩:=map_some e
 refine k O B σ H env kk ds _ R e1 λl xs H1 s1 hq hx=>⟨l,xs,rfl,?_,?_⟩
 .cases kk with
  | true=>exact .inl hq
  | false=>exact .inr hq
 .rw [hx.length]
  exact q _ H1 s1 (Is.int _)
theorem YG(hg:Gl X "list")(hm:X.mg "list" = none)(ha:BV X a ba)(hs:starEach [a] X.env=[(false,eval a X.env)]:=by rfl):EV X (.Call (.Name "list" p) [a] [] pos) (Jf ba):=by
 obtain ⟨t,pt,k⟩:=ha
 refine ⟨_,Fe a7J hg hm (by decide +kernel) (kY pt mV hs) (by decide) (by decide) hs rfl,λO B σ H env s Q R e q=>?_⟩
 obtain ⟨⟨kk,ds⟩,e1,rfl⟩:=map_some e
 refine k O B σ H env kk ds _ R e1 λl xs H1 s1 hq hx=>⟨l,xs,rfl,?_,λp hp=>?_⟩
 .cases kk with
  | true=>exact .inl hq
  | false=>exact .inr hq
 .exact q _ _ (s1.trans (mX hp _)) ((E3 hp hx).from s1)
end
section
variable {K:aK}{O:Addr->Prop}{B H H1:Hp}{σ:L2.St}{env:En}{v:V}{r:Sl}{i:Nat}
theorem b5m(h:oN (σ.set i (some v)) (env.set i r) q):oN σ env q\/(r.own/\v=.ref q):=by
 obtain ⟨j,t,h1,ho,h2⟩:=h
 by_cases hj:i=j
 .subst hj
  rw [Qv] at h1 h2
  rw [if_pos rfl] at h1 h2
  split at h1
  .cases h1
   split at h2
   .cases h2;exact .inr ⟨ho,rfl⟩
   .cases h2
  .cases h1
 .rw [jo hj] at h1 h2
  exact .inl ⟨j,t,h1,ho,h2⟩
theorem Res.fresh(h:Res K O B H v r)(ho:r.own):∃p,v=.ref p/\B p=none/\H p≠none:=by
 cases r with
 | no=>exact ho.elim
 | sh d=>exact ho.elim
 | ow ds=>obtain ⟨p,xs,e1,e2,e3,_⟩:=h;exact ⟨p,e1,e2,by rw [e3];exact λz=>nomatch z⟩
 | dw aA=>obtain ⟨p,e1,e2,e3⟩:=h;exact ⟨p,e1,e2,by rw [e3];exact λz=>nomatch z⟩
 | tw ks ds=>obtain ⟨p,vs,e1,e2,e3,_⟩:=h;exact ⟨p,e1,e2,by rw [e3];exact λz=>nomatch z⟩
theorem Rel.set(R:Rel K O B σ H env)(s:az H H1)(h:Res K (OO O σ env) H H1 v r)(hi:i<env.length):
  Rel K O B (σ.set i (some v)) H1 (env.set i r)/\Gd σ env H (σ.set i (some v)) (env.set i r) H1:=by
 have new:∀q,oN (σ.set i (some v)) (env.set i r) q->oN σ env q\/(H q=none/\r.own/\v=.ref q):=λq z=>by
  rcases b5m z with z | ⟨ho,rfl⟩
  .exact .inl z
  .obtain ⟨p,e1,e2,_⟩:=h.fresh ho
   cases e1
   exact .inr ⟨e2,ho,rfl⟩
 have hO:∀q,H q≠none->¬OO O σ env q->¬OO O (σ.set i (some v)) (env.set i r) q:=λq hq hn z=>by
  rcases z with z | z
  .exact hn (.inl z)
  .rcases new q z with z | ⟨z,_⟩
   .exact hn (.inr z)
   .exact hq z
 have hH:∀q u,H q=some u->¬OO O σ env q->H1 q=some u:=λq u e _=>s q u e
 have xV:i<σ.length:=by rw [R.len];exact hi
 refine ⟨⟨R.same.trans s,R.p8,by simp [R.len],λj d e=>?_,λj ds e=>?_,λj aA e=>?_,λj ks ds e=>?_,λj k ds es p e1 e2 e3 e4 o1 o2=>?_⟩,λq u e n=>⟨s q u e,λz=>?_⟩⟩
 .by_cases hj:i=j
  .subst hj
   rw [n6 hi] at e
   cases e
   refine ⟨v,by rw [n6 xV],Is.less (O:=OO O σ env) (λq z=>z.elim .inl λz=>?_) h⟩
   rcases new q z with z | ⟨_,z,_⟩
   .exact .inr z
   .exact z.elim
  .rw [jo hj] at e
   obtain ⟨w,e1,h1⟩:=R.sh j d e
   exact ⟨w,by rw [jo hj];exact e1,h1.map hO hH⟩
 .by_cases hj:i=j
  .subst hj
   rw [n6 hi] at e
   cases e
   obtain ⟨p,xs,rfl,e2,e3,h1⟩:=h
   refine ⟨p,xs,by rw [n6 xV],R.same.free e2,e3,h1.less λq z=>?_⟩
   rcases z with z | z
   .exact .inl (.inl z)
   .rcases new q z with z | ⟨_,_,z⟩
    .exact .inl (.inr z)
    .cases z;exact .inr rfl
  .rw [jo hj] at e
   obtain ⟨p,xs,e1,e2,e3,h1⟩:=R.ow j ds e
   exact ⟨p,xs,by rw [jo hj];exact e1,e2,s _ _ e3,h1.map hO hH⟩
 .by_cases hj:i=j
  .subst hj
   rw [n6 hi] at e
   cases e
   obtain ⟨p,rfl,e2,e3⟩:=h
   exact ⟨p,by rw [n6 xV],R.same.free e2,e3⟩
  .rw [jo hj] at e
   obtain ⟨p,e1,e2,e3⟩:=R.dw j aA e
   exact ⟨p,by rw [jo hj];exact e1,e2,s _ _ e3⟩
 .by_cases hj:i=j
  .subst hj
   rw [n6 hi] at e
   cases e
   obtain ⟨p,vs,rfl,e2,e3,e4,h1⟩:=h
   refine ⟨p,vs,by rw [n6 xV],R.same.free e2,e3,e4,h1.less λq z=>?_⟩
   rcases z with z | z
   .exact .inl (.inl z)
   .rcases new q z with z | ⟨_,_,z⟩
    .exact .inl (.inr z)
    .cases z;exact .inr rfl
  .rw [jo hj] at e
   obtain ⟨p,vs,e1,e2,e3,e4,h1⟩:=R.tw j ks ds e
   exact ⟨p,vs,by rw [jo hj];exact e1,e2,s _ _ e3,e4,h1.map hO hH⟩
 .have other:∀j t,j≠i->env[j]?=some t->t.own->σ[j]?=some (some (V.ref p))->r.own->v≠.ref p:=λj t hj e ho e' hr z=>by
   obtain ⟨p',rfl,e2,_⟩:=h.fresh hr
   cases z
   obtain ⟨p2,u,e5,_,e6⟩:=R.ad e ho
   rw [e'] at e5
   cases e5
   rw [e2] at e6
   cases e6
  by_cases hj:i=j
  .by_cases hk:i=k
   .rw [<-hj,<-hk]
   .subst hj
    rw [n6 hi] at e1
    rw [n6 xV] at e3
    rw [jo hk] at e2 e4
    cases e1
    cases e3
    exact absurd rfl (other k es (lx hk) e2 o2 e4 o1)
  .by_cases hk:i=k
   .subst hk
    rw [n6 hi] at e2
    rw [n6 xV] at e4
    rw [jo hj] at e1 e3
    cases e2
    cases e4
    exact absurd rfl (other j ds (lx hj) e1 o1 e3 o2)
   .rw [jo hj] at e1 e3
    rw [jo hk] at e2 e4
    exact R.sep j k ds es p e1 e2 e3 e4 o1 o2
 .rcases new q z with z | ⟨z,_⟩
  .exact n z
  .rw [e] at z;cases z
theorem Rel.Uy{p:Addr}{u':HO}{t t':Sl}(R:Rel K O B σ H env)(he:env[i]?=some t)(ho:t.own)(iO:t'.own)(hs:σ[i]?=some (some (V.ref p)))
  (hx:(∀ds',t'=.ow ds'->∃m7,u'=.lst m7/\aQ K (OO O σ env) H m7 ds')/\(∀G4,t'=.dw G4->u'=P4 G4)/\∀ks' ds',t'=.tw ks' ds'->∃vs',u'=mR ks' vs'/\ks'.length=vs'.length/\aQ K (OO O σ env) H vs' ds'):
  Rel K O B σ (upd H p u') (env.set i t')/\Gd σ env H σ (env.set i t') (upd H p u'):=by
 have hi:i<env.length:=(pH.mp he).1
 have own:∀q,oN σ (env.set i t') q->oN σ env q:=λq ⟨j,es,e1,e3,e2⟩=>by
  by_cases hj:i=j
  .subst hj;exact ⟨i,t,he,ho,e2⟩
  .rw [jo hj] at e1;exact ⟨j,es,e1,e3,e2⟩
 have GA:oN σ env p:=⟨i,t,he,ho,hs⟩
 obtain ⟨p0,u0,f1,f2,f3⟩:=R.ad he ho
 rw [hs] at f1
 cases f1
 have hO:∀q,H q≠none->¬OO O σ env q->¬OO O σ (env.set i t') q:=λq _ hn z=>hn (z.elim .inl λz=>.inr (own q z))
 have hH:∀q u,H q=some u->¬OO O σ env q->upd H p u' q=some u:=λq u e n=>by
  rw [dW (λz=>n (.inr (by rw [z];exact GA)))]
  exact e
 refine ⟨⟨λq u e=>?_,R.p8,by simp [R.len],λj d e=>?_,λj es e=>?_,λj aA e=>?_,λj ks es e=>?_,λj k es fs q e1 e2 e3 e4 o1 o2=>?_⟩,λq u e n=>⟨?_,λz=>n (own q z)⟩⟩
 .rw [dW (pO e f2)];exact R.same q u e
 .by_cases hj:i=j
  .subst hj;rw [n6 hi] at e;cases e;exact iO.elim
  .rw [jo hj] at e
   obtain ⟨w,e1,h1⟩:=R.sh j d e
   exact ⟨w,e1,h1.map hO hH⟩
 .by_cases hj:i=j
  .subst hj
   rw [n6 hi] at e
   cases e
   obtain ⟨m7,hu,pf⟩:=hx.1 _ rfl
   exact ⟨p,m7,hs,f2,by rw [kn,hu],pf.map hO hH⟩
  .rw [jo hj] at e
   obtain ⟨p2,Nk,e1,e2,e3,h1⟩:=R.ow j es e
   refine ⟨p2,Nk,e1,e2,?_,h1.map hO hH⟩
   rw [dW (λz=>hj (R.sep i j t _ p he e hs (by rw [e1,z]) ho trivial))]
   exact e3
 .by_cases hj:i=j
  .subst hj
   rw [n6 hi] at e
   cases e
   exact ⟨p,hs,f2,by rw [kn,hx.2.1 _ rfl]⟩
  .rw [jo hj] at e
   obtain ⟨p2,e1,e2,e3⟩:=R.dw j aA e
   refine ⟨p2,e1,e2,?_⟩
   rw [dW (λz=>hj (R.sep i j t _ p he e hs (by rw [e1,z]) ho trivial))]
   exact e3
 .by_cases hj:i=j
  .subst hj
   rw [n6 hi] at e
   cases e
   obtain ⟨vs',hu,hl,pf⟩:=hx.2.2 _ _ rfl
   exact ⟨p,vs',hs,f2,by rw [kn,hu],hl,pf.map hO hH⟩
  .rw [jo hj] at e
   obtain ⟨p2,Nk,e1,e2,e3,e4,h1⟩:=R.tw j ks es e
   refine ⟨p2,Nk,e1,e2,?_,e4,h1.map hO hH⟩
   rw [dW (λz=>hj (R.sep i j t _ p he e hs (by rw [e1,z]) ho trivial))]
   exact e3
 .have fix:∀(j:Nat) (es:Sl),(env.set i t')[j]?=some es->es.own->∃gs:Sl,env[j]?=some gs/\gs.own:=λj es e o=>by
   by_cases hj:i=j
   .subst hj;exact ⟨t,he,ho⟩
   .rw [jo hj] at e;exact ⟨es,e,o⟩
  obtain ⟨g1,h1,q1⟩:=fix j es e1 o1
  obtain ⟨g2,h2,q2⟩:=fix k fs e2 o2
  exact R.sep j k g1 g2 q h1 h2 e3 e4 q1 q2
 .rw [dW (λz=>n (by rw [z];exact GA))];exact e
theorem Rel.wr(R:Rel K O B σ H env)(he:env[i]?=some (Sl.ow ds))(hs:σ[i]?=some (some (V.ref p)))(hx:aQ K (OO O σ env) H m7 ds'):
  Rel K O B σ (upd H p (.lst m7)) (env.set i (.ow ds'))/\Gd σ env H σ (env.set i (.ow ds')) (upd H p (.lst m7)):=
 R.Uy (t':=.ow ds') he trivial trivial hs ⟨λ_ e=>by cases e;exact ⟨m7,rfl,hx⟩,λ_ e=>(nomatch e),λ_ _ e=>(nomatch e)⟩
theorem Rel.wrT{p:Addr}{ks ks':List Str}{ds ds':List D}{vs':List V}(R:Rel K O B σ H env)(he:env[i]?=some (Sl.tw ks ds))(hs:σ[i]?=some (some (V.ref p)))(hl:ks'.length=vs'.length)(hx:aQ K (OO O σ env) H vs' ds'):
  Rel K O B σ (upd H p (mR ks' vs')) (env.set i (.tw ks' ds'))/\Gd σ env H σ (env.set i (.tw ks' ds')) (upd H p (mR ks' vs')):=
 R.Uy (t':=.tw ks' ds') he trivial trivial hs ⟨λ_ e=>(nomatch e),λ_ e=>(nomatch e),λ_ _ e=>by cases e;exact ⟨vs',rfl,hl,hx⟩⟩
end
section
variable {X:Cx}{st:Stmt}{rest:List Stmt}{F G:SF}{a b c e:Expr}{fa:En->Option Sl}{ga:En->Option Bool}{pos:Pos}
noncomputable def de:SF:=λenv=>some (.nx,env)
noncomputable def sBk:SF:=λenv=>some (.bk,env)
noncomputable def sCt:SF:=λenv=>some (.ct,env)
noncomputable def aD(F G:SF):SF:=λenv=>match F env with
 | some (.nx,env1)=>G env1
 | r=>r
theorem gj:lz X [] de:=⟨_,SJ,λO B σ H env fl ag D R e q=>by
 cases (show some (Fl.nx,env)=some (fl,ag) from e)
 exact q σ H R (Gd.refl (az.refl _))⟩
theorem bI(h:SV X st F):lz X [st] F:=let ⟨t,p,k⟩:=h;⟨t,SK p,k⟩
theorem b7(h:SV X st F)(h2:lz X rest G):lz X (st::rest) (aD F G):=by
 obtain ⟨t,p,k⟩:=h
 obtain ⟨u,p',k'⟩:=h2
 refine ⟨_,yJ p p',λO B σ H env fl ag D R e q=>?_⟩
 unfold aD at e
 cases hF:F env with
 | none=>rw [hF] at e;cases e
 | some x =>
  obtain ⟨f1,env1⟩:=x
  rw [hF] at e
  refine k O B σ H env f1 env1 _ R hF ?_
  cases f1 with
  | nx=>exact λaG H' R' g'=>k' O B aG H' env1 fl ag D R' e (q.from g')
  | bk=>cases e;exact q
  | ct=>cases e;exact q
  | rt r=>cases e;exact q
noncomputable def cz(c:En->Option Bool)(F G:SF):SF:=λenv=>match c env with
 | some true=>F env
 | some false=>G env
 | none=>none
theorem fZ(hc:TV X c ga)(ha:lz X sa F)(hb:lz X sb G):SV X (.If c sa sb pos) (cz ga F G):=by
 obtain ⟨tc,pc,kc⟩:=hc
 obtain ⟨t,p,k⟩:=ha
 obtain ⟨u,p',k'⟩:=hb
 refine ⟨_,XC pc p p',λO B σ H env fl ag D R e q=>?_⟩
 unfold cz at e
 cases h:ga env with
 | none=>rw [h] at e;cases e
 | some x =>
  rw [h] at e
  refine kc O B σ H env x _ R h λH1 s1=>?_
  cases x with
  | true =>
   rw [if_pos rfl]
   exact k O B σ H1 env fl ag D (R.grow s1) e (q.from (Gd.refl s1))
  | false =>
   rw [if_neg wj]
   exact k' O B σ H1 env fl ag D (R.grow s1) e (q.from (Gd.refl s1))
noncomputable def bz(f:En->Option Sl):SF:=λenv=>(f env).map λr=>(.rt r,env)
theorem gU(h:EV X e fa):SV X (.Return (some e) pos) (bz fa):=by
 obtain ⟨t,p,k⟩:=h
 refine ⟨_,Yp p,λO B σ H env fl ag D R e q=>?_⟩
 obtain ⟨r,e1,e2⟩:=map_some e
 cases e2
 exact k O B σ H env r _ R e1 λv H1 s1 r1=>q v H1 (R.same.trans s1) ((r1.from R.same).less λq z=>.inl z)
noncomputable def Ge:SF:=λenv=>some (.rt (.sh .cj),env)
noncomputable def zD(i:Nat):SF:=λenv=>match env[i]? with
 | some (.ow ds)=>some (.rt (.ow ds),env)
 | some (.dw ds)=>some (.rt (.dw ds),env)
 | some (.tw ks ds)=>some (.rt (.tw ks ds),env)
 | some (.sh d)=>some (.rt (.sh d),env)
 | _=>none
theorem b4S(i:Nat){x:Str}{p2:Pos}(hN:X.N[i]?=some x:=by rfl)(hv:gm X.env.scope x:=by first | exact cK rfl | exact bL (cK rfl) | exact bL (bL rfl))(hd:(x==("__debug__":Str))=false:=by decide)
  (bM:(x==("__classdict__":Str))=false:=by decide):SV X (.Return (some (.Name x p2)) pos) (zD i):=by
 refine ⟨_,Yp (oK hN hv hd bM),λO B σ H env fl ag D R e q=>?_⟩
 unfold zD at e
 cases h:env[i]? with
 | none=>rw [h] at e;cases e
 | some s =>
  rw [h] at e
  cases s with
  | no=>cases e
  | sh d =>
   cases e
   obtain ⟨v,e2,hv⟩:=R.sh i d h
   exact ⟨v,e2,q v H R.same (Is.less (λq z=>.inl z) hv)⟩
  | ow ds =>
   cases e
   obtain ⟨p,xs,e1,e2,e3,h1⟩:=R.ow i ds h
   exact ⟨_,e1,q _ H R.same ⟨p,xs,rfl,e2,e3,h1.less λq z=>z.elim .inl λz=>.inr ⟨i,.ow ds,h,trivial,by rw [z];exact e1⟩⟩⟩
  | dw aA =>
   cases e
   obtain ⟨p,e1,e2,e3⟩:=R.dw i aA h
   exact ⟨_,e1,q _ H R.same ⟨p,rfl,e2,e3⟩⟩
  | tw ks ds =>
   cases e
   obtain ⟨p,vs,e1,e2,e3,e4,h1⟩:=R.tw i ks ds h
   exact ⟨_,e1,q _ H R.same ⟨p,vs,rfl,e2,e3,e4,h1.less λq z=>z.elim .inl λz=>.inr ⟨i,.tw ks ds,h,trivial,by rw [z];exact e1⟩⟩⟩
noncomputable def kz(i:Nat)(f:En->Option Sl):SF:=λenv=>(f env).bind λr=>if i<env.length then some (.nx,env.set i r) else none
theorem b7h(hN:X.N.Nodup)(hi:X.N[i]?=some x)(hx:Loc X.env.scope x)(he:EV X e fa)(hs:swapsWith e (some (.Name x pos')) pos.line X.env=pure false:=by rfl)(hf:X.fn x=true\/X.env.scope.names.lookup x=some .local:=by first | exact .inl rfl | exact .inr rfl | assumption):
  SV X (.Assign [.Name x pos'] e pos) (kz i fa):=by
 obtain ⟨t,p,k⟩:=he
 refine ⟨_,RW hN hi hx p hs hf,λO B σ H env fl ag D R e q=>?_⟩
 obtain ⟨r,e1,e2⟩:=bind_some e
 obtain ⟨hl,e3⟩:=jg e2
 cases e3
 refine k O B σ H env r _ R e1 λv H1 s1 r1=>?_
 obtain ⟨R',g'⟩:=R.set s1 r1 hl
 exact q _ H1 R' g'
noncomputable def dM(i:Nat)(f:En->Option Sl):SF:=λenv=>(f env).bind λr=>if i<env.length then some (.nx,env.set i (.sh r.d)) else none
theorem YS(hN:X.N.Nodup)(hi:X.N[i]?=some x)(hx:Loc X.env.scope x)(he:EV X e fa)(hs:swapsWith e (some (.Name x pos')) pos.line X.env=pure false:=by rfl)(hf:X.fn x=true\/X.env.scope.names.lookup x=some .local:=by first | exact .inl rfl | exact .inr rfl | assumption):
  SV X (.Assign [.Name x pos'] e pos) (dM i fa):=by
 obtain ⟨t,p,k⟩:=he
 refine ⟨_,RW hN hi hx p hs hf,λO B σ H env fl ag D R e q=>?_⟩
 obtain ⟨r,e1,e2⟩:=bind_some e
 obtain ⟨hl,e3⟩:=jg e2
 cases e3
 refine k O B σ H env r _ R e1 λv H1 s1 r1=>?_
 obtain ⟨R',g'⟩:=R.set (r:=.sh r.d) s1 (r1.is λq=>R.oo) hl
 exact q _ H1 R' g'
noncomputable def rj(f:En->Option Sl):SF:=λenv=>(f env).map λ_=>(.nx,env)
theorem b4U(he:EV X e fa)(hs:swapsWith e none pos.line X.env=pure false:=by rfl):SV X (.Expr e pos) (rj fa):=by
 obtain ⟨t,p,k⟩:=he
 refine ⟨_,zI p hs,λO B σ H env fl ag D R e q=>?_⟩
 obtain ⟨r,e1,e2⟩:=map_some e
 cases e2
 exact k O B σ H env r _ R e1 λv H1 s1 r1=>q σ H1 (R.grow s1) (Gd.refl s1)
noncomputable def nN(i:Nat)(f:En->Option Sl):SF:=λenv=>match env[i]? with
 | some (.ow ds)=>(f env).bind λr=>if ds.length<16777216 then some (.nx,env.set i (.ow (ds++[r.d]))) else none
 | _=>none
theorem b0y{i:Nat}{x:Str}{p1 p2 au:Pos}(ha:EV X e fa)(hN:X.N[i]?=some x:=by rfl)(hv:gm X.env.scope x:=by first | exact cK rfl | exact bL (cK rfl) | exact bL (bL rfl))(hd:(x==("__debug__":Str))=false:=by decide)
  (bM:(x==("__classdict__":Str))=false:=by decide)(hs:starEach [e] X.env=[(false,eval e X.env)]:=by rfl)
  (bB:attributeBase (.Name x p1) "append" X.env (eval (.Name x p1) X.env)=eval (.Name x p1) X.env:=by rfl)
  (gE:((backTo au (starEach [e] X.env)).all (λx=>!x.1)&&(backToKw au (keywordEach [] X.env)).all (λx=>x.1.isSome)
   && decide ([e].length+([]:List Keyword).length+(if ([]:List Keyword).isEmpty then 0 else 1)<30))=true:=by rfl)
  (bA:(p2.endLine==au.line)=true:=by rfl)
  (qH:swapsWith (.Call (.Attribute (.Name x p1) "append" p2) [e] [] au) none pos.line X.env=pure false:=by rfl):
  SV X (.Expr (.Call (.Attribute (.Name x p1) "append" p2) [e] [] au) pos) (nN i fa):=by
 obtain ⟨t,p,k⟩:=ha
 refine ⟨_,zI (L3 Ex QT Ww ZH (oK hN hv hd bM) (kY p mV hs) bB gE bA hs rfl) qH,λO B σ H env fl ag D R e q=>?_⟩
 unfold nN at e
 cases h:env[i]? with
 | none=>rw [h] at e;cases e
 | some s =>
  rw [h] at e
  cases s with
  | no=>cases e
  | sh d=>cases e
  | dw aA=>cases e
  | tw _ _=>cases e
  | ow ds =>
   obtain ⟨r,e1,e2⟩:=bind_some e
   obtain ⟨hl,e3⟩:=jg e2
   cases e3
   obtain ⟨l,xs,f1,f2,f3,f4⟩:=R.ow i ds h
   refine ⟨_,f1,.inl ⟨rfl,_,ic.of f3⟩,?_⟩
   refine k O B σ H env r _ R e1 λv H1 s1 r1=>⟨l,xs,v,rfl,rfl,s1 _ _ f3,by rw [f4.length,lr];exact hl,?_⟩
   obtain ⟨R',g'⟩:=(R.grow s1).wr h f1 ((f4.grow s1).append (.cons (r1.is λq=>R.oo) .nil))
   exact q _ _ R' (g'.from s1)
end
section
variable {X:Cx}{st:Stmt}{F:SF}{a b c e tg it:Expr}{fa:En->Option Sl}{ba:En->Option (Bool×List D)}{ga:En->Option Bool}{pos:Pos}
noncomputable abbrev GF:=D->En->Option En
def GV(X:Cx)(tg:Expr)(g:GF):Prop:=
 ∃t:TG,PG X tg t/\∀(O:Addr->Prop) (B:Hp) (σ:L2.St) (H:Hp) (env ag:En) (v:V) (d:D) (Q:L2.St->Hp->Prop),Rel X.K O B σ H env->Is X.K (OO O σ env) H v d->g d env=some ag ->
  (∀aG H',Rel X.K O B aG H' ag->Gd σ env H aG ag H'->Q aG H')->t v σ H Q
noncomputable def gN(i:Nat):GF:=λd env=>if i<env.length then some (env.set i (.sh d)) else none
theorem b5S(hN:X.N.Nodup)(hi:X.N[i]?=some x)(hx:Loc X.env.scope x)(hf:X.fn x=true\/X.env.scope.names.lookup x=some .local:=by first | exact .inl rfl | exact .inr rfl | assumption):GV X (.Name x pos) (gN i):=by
 refine ⟨_,b5f hN hi hx hf,λO B σ H env ag v d Q R h e q=>?_⟩
 obtain ⟨hl,rfl⟩:=jg e
 obtain ⟨R',g'⟩:=R.set (r:=.sh d) (az.refl _) h hl
 exact q _ H R' g'
noncomputable abbrev DE:=List D->En->Option En
def Nd(X:Cx)(tg:List Expr)(g:DE):Prop:=
 ∃t:BR,J4 X tg t/\∀(O:Addr->Prop) (B:Hp) (σ:L2.St) (H:Hp) (env ag:En) (v:List V) (d:List D) (Q:L2.St->Hp->Prop),Rel X.K O B σ H env->aQ X.K (OO O σ env) H v d->g d env=some ag ->
  (∀aG H',Rel X.K O B aG H' ag->Gd σ env H aG ag H'->Q aG H')->t v σ H Q
noncomputable def tF:DE:=λds env=>match ds with
 | []=>some env
 | _::_=>none
noncomputable def kX(g:GF)(u:DE):DE:=λds env=>match ds with
 | d::r=>(g d env).bind (u r)
 | []=>none
theorem Dq:Nd X [] tF:=by
 refine ⟨_,b5e,λO B σ H env ag v d Q R h e q=>?_⟩
 cases h with
 | nil=>cases e;exact ⟨rfl,q σ H R (Gd.refl (az.refl _))⟩
 | cons _ _=>cases e
theorem Gd.G9{K:aK}{O:Addr->Prop}{σ aG:L2.St}{env ag:En}{H H':Hp}(g:Gd σ env H aG ag H'){v:List V}{d:List D}(h:aQ K (OO O σ env) H v d):aQ K (OO O aG ag) H' v d:=
 h.map (λq hq hn z=>by
  cases e:H q with
  | none=>exact hq e
  | some u =>
   obtain ⟨_,n'⟩:=g q u e λw=>hn (.inr w)
   exact z.elim (λw=>hn (.inl w)) n') λq u e n=>(g q u e λw=>n (.inr w)).1
theorem tI{es:List Expr}{g:GF}{u:DE}(h1:GV X e g)(h2:Nd X es u)
  (hs:(assignEach (e::es) X.env).map (·.2)=assign e X.env::(assignEach es X.env).map (·.2):=by rfl):Nd X (e::es) (kX g u):=by
 obtain ⟨t,p,k⟩:=h1
 obtain ⟨t',p',k'⟩:=h2
 refine ⟨_,b2F p p' hs,λO B σ H env ag v d Q R h e q=>?_⟩
 cases h with
 | nil=>cases e
 | cons h ht =>
  obtain ⟨env1,e1,e2⟩:=bind_some (show (g _ env).bind (u _)=some ag from e)
  refine ⟨_,_,rfl,k O B σ H env env1 _ _ _ R h e1 λkF H1 R1 g1=>?_⟩
  exact k' O B kF H1 env1 ag _ _ Q R1 (g1.G9 ht) e2 λcF H2 R2 g2=>q cF H2 R2 (g1.trans g2)
noncomputable def gT(n:Nat)(u:DE):GF:=λd env=>match d with
 | .tup ds=>if ds.length=n then u ds env else none
 | _=>none
theorem Dl{es:List Expr}{k n:Nat}{u:DE}(hc:X.calm=true)(h:Nd X es u)(hn:(assignEach es X.env).length=n:=by rfl)(qI:(assignEach es X.env).findIdx? (·.1)=none:=by rfl):GV X (.Tuple es k pos) (gT n u):=by
 obtain ⟨t,p,k'⟩:=h
 refine ⟨_,b7G hc p hn qI,λO B σ H env ag v d Q R h e q=>?_⟩
 cases d with
 | tup ds =>
  have e':(if ds.length=n then u ds env else none)=some ag:=e
  by_cases hl:ds.length=n
  .rw [if_pos hl] at e'
   obtain ⟨a,xs,rfl,h1,h2⟩:=Jz h
   exact ⟨a,xs,rfl,h1,by rw [h2.length];exact hl,k' O B σ H env ag xs ds Q R h2 e' q⟩
  .rw [if_neg hl] at e';cases e'
 | _=>cases e
noncomputable def forL(g:GF)(F:SF):List D->SF
 | [],env=>some (.nx,env)
 | d::ds,env=>match g d env with
  | none=>none
  | some env1=>match F env1 with
   | some (.nx,a8)=>forL g F ds a8
   | some (.ct,a8)=>forL g F ds a8
   | some (.bk,a8)=>some (.nx,a8)
   | some (.rt r,a8)=>some (.rt r,a8)
   | none=>none
structure Left(K:aK)(O:Addr->Prop)(B:Hp)(zR:L2.St)(H0:Hp)(jR:En)(g:GF)(F:SF)(ds:List D)(fl:Fl)(ag:En)(i:Nat)(σ:L2.St)(H:Hp):Prop where
 ex:∃env,Rel K O B σ H env/\Gd zR jR H0 σ env H/\forL g F (ds.drop i) env=some (fl,ag)
theorem S5{g:GF}{yR:TG}{tb:TS}{O:Addr->Prop}{B:Hp}{zR:L2.St}{H0:Hp}{jR ag:En}{fl:Fl}{D:Ends}{ds:List DL.D}{xs:List V}{i:Nat}{x:V}{σ:L2.St}{H:Hp}
  (kg:∀(O:Addr->Prop) (B:Hp) (σ:L2.St) (H:Hp) (env ag:En) (v:V) (d:DL.D) (Q:L2.St->Hp->Prop),Rel X.K O B σ H env->Is X.K (OO O σ env) H v d->g d env=some ag ->
   (∀aG H',Rel X.K O B aG H' ag->Gd σ env H aG ag H'->Q aG H')->yR v σ H Q)
  (kb:∀(O:Addr->Prop) (B:Hp) (σ:L2.St) (H:Hp) (env:En) (fl:Fl) (ag:En) (D:Ends),Rel X.K O B σ H env->F env=some (fl,ag)->fF X.K O B σ H env D fl ag->tb D σ H)
  (hx:aQ X.K (OO O zR jR) H0 xs ds)(hi:xs[i]?=some x)(q:fF X.K O B zR H0 jR D fl ag)(h:Left X.K O B zR H0 jR g F ds fl ag i σ H):
  yR x σ H λcF H2=>tb { D with nx:=Left X.K O B zR H0 jR g F ds fl ag (i+1),ct:=Left X.K O B zR H0 jR g F ds fl ag (i+1),bk:=D.nx } cF H2:=by
 obtain ⟨env,R,gd,e⟩:=h
 obtain ⟨d,hd,_⟩:=hx.Cz hi
 have Hs:i<ds.length:=(pH.mp hd).1
 have pk:ds.drop i=d::ds.drop (i+1):=by
  rw [IW Hs]
  rw [iP Hs] at hd
  rw [gp hd]
 obtain ⟨x',pf,hxd⟩:=(gd.G9 hx).get hd
 rw [hi] at pf
 cases pf
 rw [pk,forL] at e
 cases hg:g d env with
 | none=>rw [hg] at e;cases e
 | some env1 =>
  rw [hg] at e
  refine kg O B σ H env env1 x d _ R hxd hg λkF H1 R1 g1=>?_
  dsimp only at e
  cases hF:F env1 with
  | none=>rw [hF] at e;cases e
  | some y =>
   obtain ⟨f2,a8⟩:=y
   rw [hF] at e
   have go:=gd.trans g1
   refine kb O B kF H1 env1 f2 a8 _ R1 hF ?_
   cases f2 with
   | nx=>exact λcF H2 R2 g2=>⟨a8,R2,go.trans g2,e⟩
   | ct=>exact λcF H2 R2 g2=>⟨a8,R2,go.trans g2,e⟩
   | bk=>cases e;exact λcF H2 R2 g2=>q cF H2 R2 (go.trans g2)
   | rt r=>cases e;exact q
theorem MD{D:Ends}{ds:List DL.D}{n:Nat}(hn:ds.length<=n)
  (q:fF X.K O B zR H0 jR D fl ag)(h:Left X.K O B zR H0 jR g F ds fl ag n σ H):D.nx σ H:=by
 obtain ⟨env,R,gd,e⟩:=h
 rw [IX hn,forL] at e
 cases e
 exact q σ H R gd
noncomputable def jh(f:En->Option Sl)(g:GF)(F:SF):SF:=λenv=>(f env).bind λr=>(iW r.d).bind λx=>forL g F x.2 env
theorem Gd.sq{K:aK}{σ aG:L2.St}{env ag:En}{H H':Hp}(gd:Gd σ env H aG ag H'){k:Bool}{p:Addr}{xs:List V}(h:Sq K H k p xs)(hp:¬oN σ env p\/H p=none):Sq K H' k p xs:=by
 have rd:∀u,Rd H p u->Rd H' p u:=λu z=>by
  rcases z with z | ⟨o,z⟩
  .rcases hp with hp | hp
   .exact .inl (gd p _ z hp).1
   .rw [hp] at z;cases z
  .rcases hp with hp | hp
   .exact .inr ⟨o,(gd p _ z hp).1⟩
   .rw [hp] at z;cases z
 cases k with
 | true =>
  rcases h with h | h
  .exact .inl (rd _ h)
  .exact .inr h
 | false =>
  rcases h with h | h
  .exact .inl (rd _ h)
  .exact .inr h
theorem Is.w8{K:aK}{O:Addr->Prop}{H:Hp}{v:V}{d:D}{k:Bool}{ds:List D}(h:Is K O H v d)(e:iW d=some (k,ds)):∃p xs,v=.ref p/\Sq K H k p xs/\aQ K O H xs ds/\(¬O p\/∀H',Sq K H' k p xs):=by
 cases h with
 | tup ho hp hs=>cases e;exact ⟨_,_,rfl,.inl hp,hs,.inl ho⟩
 | t7 hp hs=>cases e;exact ⟨_,_,rfl,MG hp,hs,.inr λ_=>MG hp⟩
 | lst ho hp hs=>cases e;exact ⟨_,_,rfl,.inl (.inl hp),hs,.inl ho⟩
 | tT ho hp hs=>cases e;exact ⟨_,_,rfl,.inl hp,hs,.inl ho⟩
 | t8 hp hs=>cases e;exact ⟨_,_,rfl,MF hp,hs,.inr λ_=>MF hp⟩
 | _=>cases e
noncomputable def OX(K:aK)(tl:TE):TI:=λσ H R=>tl σ H λx H1=>∃a,x=.ref a/\(((∃xs,ic K H1 a xs)/\R (Ke K a) H1)\/((∃xs,jZ K H1 a xs)/\R (Kc K a) H1))
theorem Yn(hl:PE X l tl):PI X tg l (OX X.K tl):=by
 intro pins s σ H R I h
 refine bJ (hl pins s σ H _ I h) λv s1 ⟨x,H1,I1,r1,q1⟩=>?_
 obtain ⟨a,e,q1⟩:=q1
 subst e
 cases r1
 rcases q1 with ⟨⟨xs,hq⟩,q⟩ | ⟨⟨xs,hq⟩,q⟩
 .obtain ⟨aw,rv,p,hz⟩:=I1.list hq
  refine Lj p.isList ?_
  refine ⟨s1.heap.objs.size,[s1.heap.objs.size],_,_,H1,rfl,I1.kept (t':=s1.toks) λb o e=>dY _ e,b0r a _,⟨_,jx _ rfl,rfl,rfl⟩,λb hb=>?_,q⟩
  have e:b=s1.heap.objs.size:=by simpa using hb
  subst e
  exact I1.pA (cw _) (I1.bg.fresh (cw _))
 .obtain ⟨aw,rv,p,hz⟩:=I1.tuple hq
  refine wpAny_pyIter_tuple (show s1.heap.IsTuple a aw.toArray from p) ?_
  refine ⟨s1.heap.objs.size,[s1.heap.objs.size],_,_,H1,rfl,I1.kept (t':=s1.toks) λb o e=>dY _ e,a9F a _,⟨_,jx _ rfl,rfl,rfl⟩,λb hb=>?_,q⟩
  have e:b=s1.heap.objs.size:=by simpa using hb
  subst e
  exact I1.pA (cw _) (I1.bg.fresh (cw _))
theorem BI(hp:PassesOwn (model X.prog X.w) X.A X.env X.xe)(hc:X.calm=true)(hi:EV X it fa)(hg:GV X tg g)(hb:lz X body F)
  (hs:∀x,foldedSetIterable it X.env x=pure x:=by intro _;rfl):SV X (.For tg it body [] pos) (jh fa g F):=by
 obtain ⟨ti,pi,ki⟩:=hi
 obtain ⟨yR,pg,kg⟩:=hg
 obtain ⟨tb,pb,kb⟩:=hb
 refine ⟨_,Mf hp hc (Yn pi) pg pb hs,λO B σ H env fl ag D R e q=>?_⟩
 obtain ⟨r,e1,e2⟩:=bind_some e
 obtain ⟨⟨k,ds⟩,e4,e5⟩:=bind_some e2
 refine ki O B σ H env r _ R e1 λv H1 s1 r1=>?_
 obtain ⟨p,xs,rfl,h1,h2,h3⟩:=(r1.is λq=>R.oo).w8 e4
 refine ⟨p,rfl,?_⟩
 have q':fF X.K O B σ H1 env D fl ag:=q.from (Gd.refl s1)
 have keep:∀i cF H2,Left X.K O B σ H1 env g F ds fl ag i cF H2->Sq X.K H2 k p xs:=λi cF H2 L=>by
  rcases h3 with h3 | h3
  .obtain ⟨a8,_,gd,_⟩:=L
   exact gd.sq h1 (.inl λz=>h3 (.inr z))
  .exact h3 H2
 cases k with
 | true =>
  refine .inl ⟨⟨xs,h1⟩,?_⟩
  exact b25 (xs:=xs) (Left X.K O B σ H1 env g F ds fl ag) ⟨env,R.grow s1,Gd.refl (az.refl _),e5⟩ (λi cF H2 _ L=>keep i cF H2 L) (λi x cF H2 hx L=>S5 kg kb h2 hx q' L) (λcF H2 L=>MD (by rw [h2.length];exact cw _) q' L)
 | false =>
  refine .inr ⟨⟨xs,h1⟩,?_⟩
  exact b5V (xs:=xs) (Left X.K O B σ H1 env g F ds fl ag) ⟨env,R.grow s1,Gd.refl (az.refl _),e5⟩ (λi cF H2 _ L=>keep i cF H2 L) (λi x cF H2 hx L=>S5 kg kb h2 hx q' L) (λcF H2 L=>MD (by rw [h2.length];exact cw _) q' L)
noncomputable def eD(lo:Int)(n:Nat):List D:=(fx n).map λ(k:Nat)=>D.int (lo+(k:Int))
def R62(i:Int):Prop:=-(2^62)<=i/\i<2^62
noncomputable instance (i:Int):Decidable (R62 i):=by unfold R62;infer_instance
noncomputable def xA:List D->Option (List D)
 | [.int j]=>if R62 j then some (eD 0 j.toNat) else none
 | _=>none
noncomputable def Jn(h:List D->Option (List D))(f:En->Option (List D))(g:GF)(F:SF):SF:=λenv=>(f env).bind λds=>(h ds).bind λis=>forL g F is env
theorem b44{K:aK}{O:Addr->Prop}{H:Hp}(lo:Int)(n:Nat):aQ K O H ((fx n).map λ(k:Nat)=>V.int (lo+(k:Int))) (eD lo n):=by
 have h:=aQ.ints (K:=K) (O:=O) (H:=H) ((fx n).map λ(k:Nat)=>lo+(k:Int))
 rw [wm,wm] at h
 exact h
theorem Zh{K:aK}{O:Addr->Prop}{H:Hp}{xs:List V}{i:Int}(h:aQ K O H xs [.int i]):xs=[.int i]:=by
 cases h with
 | cons h t=>cases t;rw [rq h]
theorem b5W{tb:TS}{yR:TG}{g:GF}{lo:Int}{n:Nat}{O:Addr->Prop}{B:Hp}{σ:L2.St}{H:Hp}{env ag:En}{fl:Fl}{D:Ends}
  (kg:∀(O:Addr->Prop) (B:Hp) (σ:L2.St) (H:Hp) (env ag:En) (v:V) (d:DL.D) (Q:L2.St->Hp->Prop),Rel X.K O B σ H env->Is X.K (OO O σ env) H v d->g d env=some ag ->
   (∀aG H',Rel X.K O B aG H' ag->Gd σ env H aG ag H'->Q aG H')->yR v σ H Q)
  (kb:∀(O:Addr->Prop) (B:Hp) (σ:L2.St) (H:Hp) (env:En) (fl:Fl) (ag:En) (D:Ends),Rel X.K O B σ H env->F env=some (fl,ag)->fF X.K O B σ H env D fl ag->tb D σ H)
  (R:Rel X.K O B σ H env)(e:forL g F (eD lo n) env=some (fl,ag))(q:fF X.K O B σ H env D fl ag):
  ∃W:Nat->Nat->L2.St->Hp->Prop,(∃m,W 0 m σ H)/\∀i m σ H,W i m σ H ->
   ((tK lo n).stop i H/\D.nx σ H)\/((tK lo n).go i H/\∃N:L2.St->Hp->Prop,(∀aG H',N aG H'->∃m',m'<m/\W (i+1) m' aG H')/\∀x H',(tK lo n).BX i H x H'->yR x σ H' λcF H2=>tb { D with nx:=N,ct:=N,bk:=D.nx } cF H2):=by
 refine b1L (Left X.K O B σ H env g F (eD lo n) fl ag) ⟨env,R,Gd.refl (az.refl _),e⟩ (λi cF H2 hi L=>?_) (λcF H2 L=>MD (by simp [eD]) q L)
 exact S5 kg kb (b44 lo n) (by simp [hi]) q L
theorem ZC{body:List Stmt}{g:GF}{fs:En->Option (List D)}{p:Pos}(hp:PassesOwn (model X.prog X.w) X.A X.env X.xe)(hc:X.calm=true)(Hv:Gl X "range")(hm:X.mg "range" = none)(ha:AV X [a] fs)(hg:GV X tg g)(hb:lz X body F)
  (h1:starEach [a] X.env=[(false,eval a X.env)]:=by rfl)(hs:∀x,foldedSetIterable (.Call (.Name "range" p) [a] [] pos) X.env x=pure x:=by intro _;rfl){k9:Pos}:
  SV X (.For tg (.Call (.Name "range" p) [a] [] pos) body [] k9) (Jn xA fs g F):=by
 obtain ⟨ti,pi,ki⟩:=ha
 obtain ⟨yR,pg,kg⟩:=hg
 obtain ⟨tb,pb,kb⟩:=hb
 refine ⟨_,Mf hp hc (b0S Hv hm pi h1) pg pb hs,λO B σ H env fl ag D R e q=>?_⟩
 obtain ⟨ds,e1,e2⟩:=bind_some e
 obtain ⟨is,e2,e3⟩:=bind_some e2
 refine ki O B σ H env ds _ R e1 λvs H1 s1 r1=>?_
 unfold xA at e2
 split at e2
 .obtain ⟨⟨h1,h2⟩,rfl⟩:=jg e2
  exact ⟨_,Zh r1,h1,h2,b5W kg kb (R.grow s1) e3 (q.from (Gd.refl s1))⟩
 .cases e2
noncomputable def zY(c:En->Option Bool)(F:SF):Nat->SF
 | 0,_=>none
 | n+1,env=>match c env with
  | none=>none
  | some false=>some (.nx,env)
  | some true=>match F env with
   | some (.nx,a8)=>zY c F n a8
   | some (.ct,a8)=>zY c F n a8
   | some (.bk,a8)=>some (.nx,a8)
   | some (.rt r,a8)=>some (.rt r,a8)
   | none=>none
noncomputable def Mg(m:En->Nat)(c:En->Option Bool)(F:SF):SF:=λenv=>zY c F (m env) env
theorem ZD(m:En->Nat)(hp:PassesOwn (model X.prog X.w) X.A X.env X.xe)(hc:TV X c ga)(hb:lz X body F):SV X (.While c body [] pos) (Mg m ga F):=by
 obtain ⟨tc,pc,kc⟩:=hc
 obtain ⟨tb,pb,kb⟩:=hb
 refine ⟨_,b2D hp pc pb,λO B σ H env fl ag D R e q=>?_⟩
 refine ⟨λn kF H1=>∃env1,Rel X.K O B kF H1 env1/\Gd σ env H kF env1 H1/\zY ga F n env1=some (fl,ag),⟨m env,env,R,Gd.refl (az.refl _),e⟩,?_⟩
 rintro n kF H1 ⟨env1,R1,g1,e1⟩
 cases n with
 | zero=>cases e1
 | succ n =>
  rw [zY] at e1
  cases h:ga env1 with
  | none=>rw [h] at e1;cases e1
  | some x =>
   rw [h] at e1
   refine kc O B kF H1 env1 x _ R1 h λH2 s2=>?_
   cases x with
   | false =>
    rw [if_neg wj]
    cases e1
    exact q kF H2 (R1.grow s2) (g1.trans (Gd.refl s2))
   | true =>
    rw [if_pos rfl]
    refine ⟨λaG H'=>∃a8,Rel X.K O B aG H' a8/\Gd σ env H aG a8 H'/\zY ga F n a8=some (fl,ag),λaG H' ⟨a8,a1,a2,a3⟩=>⟨n,oG n,a8,a1,a2,a3⟩,?_⟩
    dsimp only at e1
    cases hF:F env1 with
    | none=>rw [hF] at e1;cases e1
    | some y =>
     obtain ⟨f2,a8⟩:=y
     rw [hF] at e1
     have go:=g1.trans (Gd.refl s2)
     refine kb O B kF H2 env1 f2 a8 _ (R1.grow s2) hF ?_
     cases f2 with
     | nx=>exact λcF H3 R2 g2=>⟨a8,R2,go.trans g2,e1⟩
     | ct=>exact λcF H3 R2 g2=>⟨a8,R2,go.trans g2,e1⟩
     | bk=>cases e1;exact λcF H3 R2 g2=>q cF H3 R2 (go.trans g2)
     | rt r=>cases e1;exact q
end
noncomputable def qu(K:aK)(n:Nat)(φ:List D->Option Sl):Sp:=λvs H Q _=>∃(O:Addr->Prop) (ds:List D) (r:Sl),zQ K O H/\aQ K O H vs ds/\vs.length=n/\φ ds=some r /\
 ∀v H',az H H'->Res K O H H' v r->Q v H'
noncomputable def iS(N:Nat)(ds:List D):En:=ds.map Sl.sh++nv (N-ds.length) Sl.no
noncomputable def cf(F:SF)(N:Nat)(ds:List D):Option Sl:=match F (iS N ds) with
 | some (.rt r,_)=>some r
 | some (.nx,_)=>some (.sh .cj)
 | _=>none
theorem Fg{K:aK}{O:Addr->Prop}{H:Hp}{N:List Str}{vs:List V}{ds:List D}(hO:zQ K O H)(h:aQ K O H vs ds):Rel K O H (start N vs) H (iS N.length ds):=by
 have hl:=h.length
 have GL:∀(i:Nat) (s:Sl),(iS N.length ds)[i]?=some s->s.own->False:=λi s e1 o=>by
  unfold iS at e1
  rw [IM] at e1
  split at e1
  .rw [mB] at e1
   obtain ⟨d,_,e⟩:=map_some e1
   cases e
   exact o
  .rw [C1] at e1
   split at e1
   .cases e1;exact o
   .cases e1
 have no:∀p,¬oN (start N vs) (iS N.length ds) p:=λp ⟨i,es,e1,o,_⟩=>GL i es e1 o
 refine ⟨az.refl _,hO,?_,λi d e=>?_,λi es e=>(GL i _ e trivial).elim,λi es e=>(GL i _ e trivial).elim,λi ks es e=>(GL i _ e trivial).elim,λi j es fs p e _ _ _ o _=>(GL i _ e o).elim⟩
 .simp [L2.start,iS,hl]
 .unfold iS at e
  rw [IM] at e
  split at e
  .rename_i hi
   rw [bY] at hi
   rw [mB] at e
   obtain ⟨d',e1,e2⟩:=map_some e
   cases e2
   obtain ⟨x,hx,hd⟩:=h.get e1
   refine ⟨x,?_,hd.less λq z=>z.elim id λz=>(no q z).elim⟩
   unfold L2.start
   rw [Rc (by rw [bY,hl];exact hi),mB,hx]
   rfl
  .rw [C1] at e
   split at e
   .cases e
   .cases e
section
variable {P:Program}{w:World}{K:aK}{mg:Str->Option Value}{base:Heap}
theorem PQ{x qual:Str}{st:Stmt}{f:Addr}{fd:FuncData}{N ps:List Str}{k:Nat}{F:SF}(Fn:tL K x qual st f fd)(S:bC N ps (dg st))
  (br:∀(dX:Value) (A:Around) (outer:List Env) (s:Shared) (H:Hp) (E:XK),bZ k (A.deeper (envOfC qual (dg st) s.heap.objs.size f dX)) ->
   lz (gO jv P w K mg base N qual (dg st) f dX A outer s H E).b8 (hV st) F):bD P w K mg base jv (k+1) f fd ps (qu K ps.length (cf F N.length)):=by
 refine Fn.ok S (λvs H Q E h=>?_) (λdX A outer s H vs Q E hr h=>?_)
 .obtain ⟨O,ds,r,_,_,hl,_⟩:=h
  exact hl
 obtain ⟨O,ds,r,hO,hi,hl,e,q⟩:=h
 obtain ⟨t,p,kk⟩:=br dX A outer s H E hr
 refine ⟨t,p,?_⟩
 unfold cf at e
 cases hF:F (iS N.length ds) with
 | none=>rw [hF] at e;cases e
 | some y =>
  obtain ⟨fl,ag⟩:=y
  rw [hF] at e
  refine kk O H (start N vs) H (iS N.length ds) fl ag _ (Fg hO hi) hF ?_
  cases fl with
  | nx=>cases e;exact λaG H' R' _=>q .cj H' R'.same Is.cj
  | bk=>cases e
  | ct=>cases e
  | rt r=>cases e;exact λv H' s h=>q v H' s h
end
section
variable {X:Cx}{k:Nat}{f:Addr}{fd:FuncData}{ps:List Str}{φ:List D->Option Sl}{x:Str}{p pos:Pos}{e:Expr}{es:List Expr}{fs:En->Option (List D)}
noncomputable def bh(n:Nat)(φ:List D->Option Sl)(fs:En->Option (List D)):En->Option Sl:=λenv=>(fs env).bind λds=>if ds.length=n then φ ds else none
theorem b13(ka:∀(O:Addr->Prop) (B:Hp) (σ:L2.St) (H:Hp) (env:En) (ds:List D) (Q:List V->Hp->Prop),Rel X.K O B σ H env->fs env=some ds->(∀vs H',az H H'->aQ X.K (OO O σ env) H' vs ds->Q vs H')->t σ H Q)
  (O:Addr->Prop)(B:Hp)(σ:L2.St)(H:Hp)(env:En)(r:Sl)(Q:VK)(R:Rel X.K O B σ H env)(e:bh n φ fs env=some r)(q:∀v H',az H H'->Res X.K (OO O σ env) H H' v r->Q v H'):RE (qu X.K n φ) [] E t σ H Q:=by
 obtain ⟨ds,e1,e2⟩:=bind_some e
 refine ka O B σ H env ds _ R e1 λvs H1 s1 r1=>?_
 by_cases hn:ds.length=n
 .rw [if_pos hn] at e2
  rw [yu]
  refine ⟨OO O σ env,ds,r,(R.grow s1).dm,r1,by rw [r1.length,hn],e2,λv H2 s2 r2=>q v H2 (s1.trans s2) (r2.from s1)⟩
 .rw [if_neg hn] at e2;cases e2
theorem b57(F:bD X.prog X.w X.K X.mg X.base jv k f fd ps (qu X.K ps.length φ))(hr:bZ k X.A)(hg:Gl X x)(hm:X.mg x=some (.ref f))(hk:sW X.K (.ref f)=true)(hb:Binds X.K fd ps [])
  (ha:AV X (e::es) fs)(eY:(x==("__debug__":Str))=false:=by decide)(he:starEach (e::es) X.env=(false,eval e X.env)::starEach es X.env:=by rfl)(fm:(backTo pos (starEach es X.env)).any (·.1)=false:=by rfl):
  EV X (.Call (.Name x p) (e::es) [] pos) (bh ps.length φ fs):=by
 obtain ⟨t,pt,ka⟩:=ha
 exact ⟨_,SH F hr hg hm hk hb .nil EI pt eY he fm,λO B σ H env r Q R e q=>b13 ka O B σ H env r Q R e q⟩
end
noncomputable def spT(K:aK):Sp:=λvs H Q _=>∃(a:Addr) (ns:List Int),vs=[.ref a]/\ic K H a (ns.map V.int)/\ns.length<=63/\Tb K H/\∀H',az H H'->Q (.bl true) H'
theorem b76{P:Program}{w:World}{K:aK}{mg:Str->Option Value}{base:Heap}{k:Nat}{f:Addr}{fd:FuncData}{φ:List D->Option Sl}(F:bD P w K mg base jv k f fd ["script"] (qu K 1 φ))
  (h:∀ns:List Int,ns.length<=63->φ [.lst true (ns.map D.int)]=some (Sl.sh (.bl true))):bD P w K mg base jv k f fd ["script"] (spT K):=by
 refine F.imp λvs H Q E q=>?_
 obtain ⟨a,ns,rfl,hs,hl,tb,q⟩:=q
 refine ⟨λ_=>False,[.lst true (ns.map D.int)],_,⟨λ_ z=>z.elim,tb⟩,.cons ?_ .nil,rfl,h ns hl,λv H' sm r=>?_⟩
 .rcases hs with hs | hs
  .exact .tT id hs (aQ.ints ns)
  .exact .t8 (.inr hs) (aQ.ints ns)
 .have r':Is K (λ_=>False) H' v (.bl true):=r
  rw [Dg r']
  exact q H' sm
theorem wW{l:QD}{q:Program}{loose:List Str}{XP:(Str->Option Value)->Heap->Prop}{YP:World->Heap->Prop}{d:DefRec}{K:Params->aK}{k:Nat}(hk:bZ k callerA)(hn:l.most=some 63)(HA:d.params.defaults=[])
  {ts:List Addr}(hY:∀(w:World) (h:Heap),YP w h->(K w.params).In h/\∀P∈ts,h.get? P=some (Em #[]))(hL:∀w:World,L0 (K w.params) ts=true)
  (F:∀(w:World) (mg:Str->Option Value) (fa:Addr) (h:Heap),(K w.params).In h->h.Ns mainGlobals mg->mg d.name=some (.ref fa) ->
   ∃fd:FuncData,(∀(s:Shared) (u:Value),BindsTo s fd ⟨[u],[]⟩ [("script",u)])/\∀base:Heap,(K w.params).In base->base.Ns mainGlobals mg->bD l.prog w (K w.params) mg base jv k fa fd ["script"] (spT (K w.params))):
  PySem.W.WalkO q loose XP YP l.row.toRowW d [] (λf vs=>Qk f vs):=
 L2.zZ (n:=63) (k:=k) (x:="script") (CX:=λ_=>jv) (sp:=λw=>spT (K w.params)) hn (by decide) HA hk hY hL F (λw _ a ns hl tb hS=>⟨a,ns,rfl,hS,hl,tb,λ_ sm=>⟨rfl,tb.grow sm⟩⟩) λ_ _ _ _ _ z=>z
section
variable {X:Cx}{a:Expr}{pos p p2:Pos}{fa:En->Option Sl}
noncomputable def cp(T:String):D->Bool
 | .cj=>false
 | .bl _=>(T == "bool" || T == "int")
 | .int _=>(T == "int")
 | .str _=>(T == "str")
 | .tup _=>(T == "tuple")
 | .lst _ _=>(T == "list")
 | .exc _=>false
 | .mm _ _=>false
 | .obj _ _ _=>false
 | .i0 _ _=>false
 | .bw _ _=>false
noncomputable def D.isExc:D->Bool
 | .exc _=>true
 | .mm _ _=>true
 | .obj _ _ _=>true
 | .i0 _ _=>true
 | .bw _ _=>true
 | _=>false
noncomputable def ub(T:String)(d:D):Option Sl:=if d.isExc=true then none else some (.sh (.bl (cp T d)))
end
section
variable {X:Cx}{a b c e:Expr}{fa fb:En->Option Sl}{pos:Pos}
noncomputable def qy(i:Nat)(f:En->Option Sl):SF:=λenv=>match env[i]? with
 | some (.ow ds)=>(f env).bind λr=>match r.d with
  | .lst false es=>if ds.length+es.length<=16777216 then some (.nx,env.set i (.ow (ds++es))) else none
  | _=>none
 | _=>none
theorem b0x{i:Nat}{x:Str}{p1 p2 au:Pos}(ha:EV X e fa)(hN:X.N[i]?=some x:=by rfl)(hv:gm X.env.scope x:=by first | exact cK rfl | exact bL (cK rfl) | exact bL (bL rfl))(hd:(x==("__debug__":Str))=false:=by decide)
  (bM:(x==("__classdict__":Str))=false:=by decide)(hs:starEach [e] X.env=[(false,eval e X.env)]:=by rfl)
  (bB:attributeBase (.Name x p1) "extend" X.env (eval (.Name x p1) X.env)=eval (.Name x p1) X.env:=by rfl)
  (gE:((backTo au (starEach [e] X.env)).all (λx=>!x.1)&&(backToKw au (keywordEach [] X.env)).all (λx=>x.1.isSome)
   && decide ([e].length+([]:List Keyword).length+(if ([]:List Keyword).isEmpty then 0 else 1)<30))=true:=by rfl)
  (bA:(p2.endLine==au.line)=true:=by rfl)
  (qH:swapsWith (.Call (.Attribute (.Name x p1) "extend" p2) [e] [] au) none pos.line X.env=pure false:=by rfl):
  SV X (.Expr (.Call (.Attribute (.Name x p1) "extend" p2) [e] [] au) pos) (qy i fa):=by
 obtain ⟨t,p,k⟩:=ha
 refine ⟨_,zI (L3 Ex WC PySem.F.type_list_extend b1a (oK hN hv hd bM) (kY p mV hs) bB gE bA hs rfl) qH,λO B σ H env fl ag D R e q=>?_⟩
 unfold qy at e
 cases h:env[i]? with
 | none=>rw [h] at e;cases e
 | some s =>
  rw [h] at e
  cases s with
  | no=>cases e
  | sh d=>cases e
  | dw ds=>cases e
  | tw _ _=>cases e
  | ow ds =>
   obtain ⟨r,e1,e2⟩:=bind_some e
   obtain ⟨l,xs,f1,f2,f3,f4⟩:=R.ow i ds h
   refine ⟨_,f1,.inl ⟨rfl,_,ic.of f3⟩,?_⟩
   refine k O B σ H env r _ R e1 λv H1 s1 r1=>?_
   have hi:=r1.is λq=>R.oo
   cases hd:r.d with
   | lst ro es =>
    rw [hd] at hi e2
    cases ro with
    | true=>cases e2
    | false =>
     obtain ⟨hl,e3⟩:=jg (show (if ds.length+es.length<=16777216 then some (Fl.nx,env.set i (.ow (ds++es))) else none)=some (fl,ag) from e2)
     cases e3
     obtain ⟨b,zs,rfl,hb,g1,g2⟩:=RK hi
     refine ⟨l,b,xs,zs,rfl,rfl,s1 _ _ f3,g1,by rw [f4.length,g2.length,lr];exact hl,?_⟩
     obtain ⟨R',g'⟩:=(R.grow s1).wr h f1 ((f4.grow s1).append g2)
     exact q _ _ R' (g'.from s1)
   | _=>rw [hd] at e2;cases e2
noncomputable def qx(i j:Nat):SF:=λenv=>match env[j]? with
 | some (.ow ds)=>(ds[ds.length-1]?).bind λd=>if i<env.length/\i≠j then some (.nx,(env.set j (.ow ds.dropLast)).set i (.sh d)) else none
 | _=>none
theorem b0u{i j:Nat}{x y:Str}{pos' p1 p2 au:Pos}(hN:X.N.Nodup)(hi:X.N[i]?=some x)(hx:Loc X.env.scope x)
  (Pz:X.N[j]?=some y:=by rfl)(hv:gm X.env.scope y:=by first | exact cK rfl | exact bL (cK rfl) | exact bL (bL rfl))(hd:(y==("__debug__":Str))=false:=by decide)
  (bM:(y==("__classdict__":Str))=false:=by decide)
  (bB:attributeBase (.Name y p1) "pop" X.env (eval (.Name y p1) X.env)=eval (.Name y p1) X.env:=by rfl)
  (bA:(p2.endLine==au.line)=true:=by rfl)
  (hs:swapsWith (.Call (.Attribute (.Name y p1) "pop" p2) [] [] au) (some (.Name x pos')) pos.line X.env=pure false:=by rfl)(hf:X.fn x=true\/X.env.scope.names.lookup x=some .local:=by first | exact .inl rfl | exact .inr rfl | assumption):
  SV X (.Assign [.Name x pos'] (.Call (.Attribute (.Name y p1) "pop" p2) [] [] au) pos) (qx i j):=by
 refine ⟨_,RW hN hi hx (RT Ex Q1 WA X4 (oK Pz hv hd bM) bB bA) hs hf,λO B σ H env fl ag D R e q=>?_⟩
 unfold qx at e
 cases h:env[j]? with
 | none=>rw [h] at e;cases e
 | some s =>
  rw [h] at e
  cases s with
  | no=>cases e
  | sh d=>cases e
  | dw ds=>cases e
  | tw _ _=>cases e
  | ow ds =>
   obtain ⟨d,e1,e2⟩:=bind_some e
   obtain ⟨⟨hl,sH⟩,e3⟩:=ZF e2
   cases e3
   obtain ⟨l,xs,f1,f2,f3,f4⟩:=R.ow j ds h
   obtain ⟨v,O5,O4⟩:=f4.get e1
   obtain ⟨R',g'⟩:=R.wr h f1 f4.dropLast
   refine ⟨_,f1,.inl ⟨rfl,_,ic.of f3⟩,l,xs,v,rfl,rfl,f3,by rw [f4.length];exact O5,?_⟩
   have O3:aQ X.K (OO O σ (env.set j (.ow ds.dropLast))) (upd H l (.lst xs.dropLast)) [v] [d]:=g'.G9 (.cons O4 .nil)
   cases O3 with
   | cons O3 _ =>
    obtain ⟨R2,g2⟩:=R'.set (r:=.sh d) (i:=i) (az.refl _) O3 (by simp;exact hl)
    exact q _ _ R2 (g'.trans g2)
noncomputable def EJ(i:Nat)(f g:En->Option Sl):SF:=λenv=>match env[i]? with
 | some (.ow ds)=>(f env).bind λr=>(g env).bind λk=>match k.d with
  | .int n=>(ni ds.length n).bind λj=>some (.nx,env.set i (.ow (ds.set j r.d)))
  | _=>none
 | _=>none
theorem b4T{i:Nat}{x:Str}{p1 p2:Pos}(ha:EV X e fa)(hb:EV X b fb)(hN:X.N[i]?=some x:=by rfl)(hv:gm X.env.scope x:=by first | exact cK rfl | exact bL (cK rfl) | exact bL (bL rfl))(hd:(x==("__debug__":Str))=false:=by decide)
  (bM:(x==("__classdict__":Str))=false:=by decide)
  (ue:∀v,assign (.Subscript (.Name x p1) b p2) X.env v=(do
   let ov <-holding [v] (eval (.Name x p1) X.env)
   let iv <-holding [v,ov] (eval b X.env)
   standAt p2
   holding [v,ov,iv] (setItem ov iv v)
   release [v,ov,iv] []):=by intro _;rfl)
  (hs:swapsWithSole [.Subscript (.Name x p1) b p2] e pos.line X.env=pure false:=by rfl)(hw:swappedStores [.Subscript (.Name x p1) b p2] e X.env=pure none:=by rfl)
  (h1:(assignEach [.Subscript (.Name x p1) b p2] X.env).map (·.2)=[assign (.Subscript (.Name x p1) b p2) X.env]:=by rfl):
  SV X (.Assign [.Subscript (.Name x p1) b p2] e pos) (EJ i fa fb):=by
 obtain ⟨t,p,k⟩:=ha
 obtain ⟨t',p',k'⟩:=hb
 refine ⟨_,b7D p (b7H (oK hN hv hd bM) p' b2u ue) hs hw h1,λO B σ H env fl ag D R e q=>?_⟩
 unfold EJ at e
 cases h:env[i]? with
 | none=>rw [h] at e;cases e
 | some s =>
  rw [h] at e
  cases s with
  | no=>cases e
  | sh d=>cases e
  | dw ds=>cases e
  | tw _ _=>cases e
  | ow ds =>
   obtain ⟨r,e1,e2⟩:=bind_some e
   obtain ⟨kk,e2,e3⟩:=bind_some e2
   obtain ⟨l,xs,f1,f2,f3,f4⟩:=R.ow i ds h
   refine k O B σ H env r _ R e1 λv H1 s1 r1=>⟨_,f1,?_⟩
   refine k' O B σ H1 env kk _ (R.grow s1) e2 λw H2 s2 r2=>?_
   have hi:=r2.is λq=>(R.grow s1).oo
   cases hd:kk.d with
   | int n =>
    rw [hd] at hi e3
    obtain rfl:=rq hi
    obtain ⟨j,e4,e5⟩:=bind_some (show (ni ds.length n).bind (λj=>some (Fl.nx,env.set i (.ow (ds.set j r.d))))=some (fl,ag) from e3)
    cases e5
    have rS:=s1.trans s2
    refine ⟨l,xs,n,j,rfl,rfl,rS _ _ f3,by rw [f4.length];exact e4,?_⟩
    obtain ⟨R',g'⟩:=(R.grow rS).wr h f1 ((f4.grow rS).set ((r1.is λq=>R.oo).grow s2) j)
    exact q _ _ R' (g'.from rS)
   | _=>rw [hd] at e3;cases e3
def PP(X:Cx)(e:Option Expr)(f:En->Option (Option Int)):Prop:=
 ∃t:TO,PO X e t/\∀(O:Addr->Prop) (B:Hp) (σ:L2.St) (H:Hp) (env:En) (o:Option Int) (Q:Option Int->Hp->Prop),Rel X.K O B σ H env->f env=some o->(∀H',az H H'->Q o H')->t σ H Q
noncomputable def vf:En->Option (Option Int):=λ_=>some none
noncomputable def tX(f:En->Option Sl):En->Option (Option Int):=λenv=>(f env).bind λr=>match r.d with
 | .int i=>some (some i)
 | _=>none
theorem Mj:PP X none vf:=⟨_,b5b,λO B σ H env o Q R e q=>by
 obtain rfl:=gp e
 exact q H (az.refl _)⟩
theorem Ml(h:EV X e fa):PP X (some e) (tX fa):=by
 obtain ⟨t,p,k⟩:=h
 refine ⟨_,b5a p,λO B σ H env o Q R e q=>?_⟩
 obtain ⟨r,e1,e2⟩:=bind_some e
 refine k O B σ H env r _ R e1 λv H1 s1 r1=>?_
 have hi:=r1.is λq=>R.oo
 cases hd:r.d with
 | int i =>
  rw [hd] at hi e2
  obtain rfl:=gp e2
  exact ⟨i,rq hi,q H1 s1⟩
 | _=>rw [hd] at e2;cases e2
noncomputable def cutD(xs:List D)(lo hi:Option Int):List D:=(xs.drop (HT.cH xs.length 0 lo)).take (HT.cH xs.length xs.length hi-HT.cH xs.length 0 lo)
theorem aQ.cut{K:aK}{O:Addr->Prop}{H:Hp}{xs:List V}{ds:List D}(h:aQ K O H xs ds)(lo hi:Option Int):aQ K O H (pC xs lo hi) (cutD ds lo hi):=by
 unfold pC cutD
 rw [h.length]
 exact (h.drop _).take _
noncomputable def uj(f:En->Option (Bool×List D))(lo hi:En->Option (Option Int)):En->Option Sl:=λenv=>(f env).bind λx=>(lo env).bind λl=>(hi env).bind λh =>
 if x.1=true then some (.ow (cutD x.2 l h)) else if ¬(HT.cH x.2.length 0 l=0/\HT.cH x.2.length x.2.length h=x.2.length) then some (.sh (.tup (cutD x.2 l h))) else none
theorem MC{ba:En->Option (Bool×List D)}{lo hi:Option Expr}{fl fh:En->Option (Option Int)}{p2:Pos}(ha:BV X a ba)(hl:PP X lo fl)(hh:PP X hi fh):EV X (.Subscript a (.Slice lo hi none p2) pos) (uj ba fl fh):=by
 obtain ⟨t,p,k⟩:=ha
 obtain ⟨tl,pl,kl⟩:=hl
 obtain ⟨th,ph,kh⟩:=hh
 refine ⟨_,b2G (z7.or b7q) p pl ph,λO B σ H env r Q R e q=>?_⟩
 obtain ⟨⟨kk,ds⟩,e1,e2⟩:=bind_some e
 obtain ⟨l,e2,e3⟩:=bind_some e2
 obtain ⟨h,e3,e4⟩:=bind_some e3
 refine k O B σ H env kk ds _ R e1 λpp xs H1 s1 hq hx=>?_
 refine kl O B σ H1 env l _ (R.grow s1) e2 λH2 s2=>?_
 refine kh O B σ H2 env h _ ((R.grow s1).grow s2) e3 λH3 s3=>?_
 have rS:=s1.trans (s2.trans s3)
 have fO:=hq.grow (s2.trans s3)
 have pf:=hx.grow (s2.trans s3)
 dsimp only at e4
 cases kk with
 | true =>
  rw [if_pos rfl] at e4
  obtain rfl:=gp e4
  exact .inl ⟨pp,xs,rfl,fO,λp hp=>q _ _ (rS.trans (mX hp _)) ((E3 hp (pf.cut l h)).from rS)⟩
 | false =>
  rw [if_neg wj] at e4
  obtain ⟨hw,rfl⟩:=jg e4
  exact .inr ⟨pp,xs,rfl,fO,by rw [pf.length];exact hw,λp hp=>q _ _ (rS.trans (mX hp _)) ((Mv (O:=OO O σ env) (H:=H3) (λ_ z=>(R.grow rS).oo z) hp (pf.cut l h)).from rS)⟩
end
structure Def(K:aK)(mg:Str->Option Value)(x:Str)(st:Stmt)(ps:List Str)(f:Addr)(fd:FuncData):Prop where
 fn:tL K x x st f fd
 bd:Binds K fd ps []
 m:mg x=some (.ref f)
end DL
namespace DL
open PySem PySem.Spec PyProof.Rows L2
structure Fx(X:Cx)(N:List Str)(sc:Scope)(k:Nat)(full:Bool:=true):Prop where
 n:X.N=N
 sc:X.env.scope=sc
 calm:X.calm=true
 fn:full=true->∀x,X.fn x=true
 own:PassesOwn (model X.prog X.w) X.A X.env X.xe
 room:bZ k X.A
 nd:N.Nodup
 top:full=true->X.stack=X.env::X.outer/\X.env.frame=some X.env.locals/\X.ex=[]
section
variable {X:Cx}{N:List Str}{sc:Scope}{k:Nat}{full:Bool}{pos p p1 p2 pos' au:Pos}{e a b:Expr}{fa fb:En->Option Sl}
theorem Fx.oE(h:Fx X N sc k full)(hv:gm sc x):gm X.env.scope x:=by rw [h.sc];exact hv
theorem Fx.loc(h:Fx X N sc k full)(hv:Loc sc x):Loc X.env.scope x:=by rw [h.sc];exact hv
theorem Fx.ix(h:Fx X N sc k full){i:Nat}{x:Str}(hN:N[i]?=some x):X.N[i]?=some x:=by rw [h.n];exact hN
theorem Fx.DH(h:Fx X N sc k full)(hf:full=true\/sc.names.lookup x=some .local):X.fn x=true\/X.env.scope.names.lookup x=some .local:=hf.elim (λe=>.inl (h.fn e x)) λe=>.inr (by rw [h.sc];exact e)
theorem Fx.xJ(h:Fx X N sc k full):X.N.Nodup:=by rw [h.n];exact h.nd
theorem Fx.g(h:Fx X N sc k full)(hg:sc.names.lookup x=some .globalImplicit:=by rfl):Gl X x:=by
 show X.env.kindOf x=some .globalImplicit
 unfold Iy
 rw [h.sc]
 exact hg
theorem Fx.v(h:Fx X N sc k full)(i:Nat)(hN:N[i]?=some x:=by rfl)(hv:gm sc x:=by first | exact cK rfl | exact bL (cK rfl) | exact bL (bL rfl))(hd:(x==("__debug__":Str))=false:=by rfl)
  (bM:(x==("__classdict__":Str))=false:=by rfl):EV X (.Name x pos) (eV i):=XJ i (h.ix hN) (h.oE hv) hd bM
theorem Fx.bv(h:Fx X N sc k full)(i:Nat)(hN:N[i]?=some x:=by rfl)(hv:gm sc x:=by first | exact cK rfl | exact bL (cK rfl) | exact bL (bL rfl))(hd:(x==("__debug__":Str))=false:=by rfl)
  (bM:(x==("__classdict__":Str))=false:=by rfl):BV X (.Name x pos) (bV i):=b8M i (h.ix hN) (h.oE hv) hd bM
theorem Fx.tg(h:Fx X N sc k full)(i:Nat)(hN:N[i]?=some x:=by rfl)(hv:Loc sc x:=by first | exact cK rfl | exact bL rfl)(hf:full=true\/sc.names.lookup x=some .local:=by first | exact cK rfl | exact bL rfl):GV X (.Name x pos) (gN i):=b5S h.xJ (h.ix hN) (h.loc hv) (h.DH hf)
theorem Fx.set(h:Fx X N sc k full)(i:Nat)(he:EV X e fa)(hN:N[i]?=some x:=by rfl)(hv:Loc sc x:=by first | exact cK rfl | exact bL rfl)
  (hs:swapsWith e (some (.Name x pos')) pos.line X.env=pure false:=by rfl)(hf:full=true\/sc.names.lookup x=some .local:=by first | exact cK rfl | exact bL rfl):SV X (.Assign [.Name x pos'] e pos) (kz i fa):=b7h h.xJ (h.ix hN) (h.loc hv) he hs (h.DH hf)
theorem Fx.cc(h:Fx X N sc k full)(i:Nat)(he:EV X e fa)(hN:N[i]?=some x:=by rfl)(hv:Loc sc x:=by first | exact cK rfl | exact bL rfl)
  (hs:swapsWith e (some (.Name x pos')) pos.line X.env=pure false:=by rfl)(hf:full=true\/sc.names.lookup x=some .local:=by first | exact cK rfl | exact bL rfl):SV X (.Assign [.Name x pos'] e pos) (dM i fa):=YS h.xJ (h.ix hN) (h.loc hv) he hs (h.DH hf)
theorem Fx.xB(h:Fx X N sc k full)(i:Nat)(hN:N[i]?=some x:=by rfl)(hv:gm sc x:=by first | exact cK rfl | exact bL (cK rfl) | exact bL (bL rfl))(hd:(x==("__debug__":Str))=false:=by rfl)
  (bM:(x==("__classdict__":Str))=false:=by rfl):SV X (.Return (some (.Name x p2)) pos) (zD i):=b4S i (h.ix hN) (h.oE hv) hd bM
theorem Fx.app(h:Fx X N sc k full)(i:Nat)(ha:EV X e fa)(hN:N[i]?=some x:=by rfl)(hv:gm sc x:=by first | exact cK rfl | exact bL (cK rfl) | exact bL (bL rfl))(hd:(x==("__debug__":Str))=false:=by rfl)
  (bM:(x==("__classdict__":Str))=false:=by rfl)(hs:starEach [e] X.env=[(false,eval e X.env)]:=by rfl)
  (bB:attributeBase (.Name x p1) "append" X.env (eval (.Name x p1) X.env)=eval (.Name x p1) X.env:=by rfl)
  (gE:((backTo au (starEach [e] X.env)).all (λx=>!x.1)&&(backToKw au (keywordEach [] X.env)).all (λx=>x.1.isSome)
   && decide ([e].length+([]:List Keyword).length+(if ([]:List Keyword).isEmpty then 0 else 1)<30))=true:=by rfl)
  (bA:(p2.endLine==au.line)=true:=by rfl)
  (qH:swapsWith (.Call (.Attribute (.Name x p1) "append" p2) [e] [] au) none pos.line X.env=pure false:=by rfl):
  SV X (.Expr (.Call (.Attribute (.Name x p1) "append" p2) [e] [] au) pos) (nN i fa):=b0y ha (h.ix hN) (h.oE hv) hd bM hs bB gE bA qH
theorem Fx.ext(h:Fx X N sc k full)(i:Nat)(ha:EV X e fa)(hN:N[i]?=some x:=by rfl)(hv:gm sc x:=by first | exact cK rfl | exact bL (cK rfl) | exact bL (bL rfl))(hd:(x==("__debug__":Str))=false:=by rfl)
  (bM:(x==("__classdict__":Str))=false:=by rfl)(hs:starEach [e] X.env=[(false,eval e X.env)]:=by rfl)
  (bB:attributeBase (.Name x p1) "extend" X.env (eval (.Name x p1) X.env)=eval (.Name x p1) X.env:=by rfl)
  (gE:((backTo au (starEach [e] X.env)).all (λx=>!x.1)&&(backToKw au (keywordEach [] X.env)).all (λx=>x.1.isSome)
   && decide ([e].length+([]:List Keyword).length+(if ([]:List Keyword).isEmpty then 0 else 1)<30))=true:=by rfl)
  (bA:(p2.endLine==au.line)=true:=by rfl)
  (qH:swapsWith (.Call (.Attribute (.Name x p1) "extend" p2) [e] [] au) none pos.line X.env=pure false:=by rfl):
  SV X (.Expr (.Call (.Attribute (.Name x p1) "extend" p2) [e] [] au) pos) (qy i fa):=b0x ha (h.ix hN) (h.oE hv) hd bM hs bB gE bA qH
theorem Fx.pop(h:Fx X N sc k full)(i j:Nat){x y:Str}(hN:N[i]?=some x:=by rfl)(hx:Loc sc x:=by first | exact cK rfl | exact bL rfl)(Pz:N[j]?=some y:=by rfl)(hv:gm sc y:=by first | exact cK rfl | exact bL (cK rfl) | exact bL (bL rfl))
  (hd:(y==("__debug__":Str))=false:=by rfl)(bM:(y==("__classdict__":Str))=false:=by rfl)
  (bB:attributeBase (.Name y p1) "pop" X.env (eval (.Name y p1) X.env)=eval (.Name y p1) X.env:=by rfl)
  (bA:(p2.endLine==au.line)=true:=by rfl)
  (hs:swapsWith (.Call (.Attribute (.Name y p1) "pop" p2) [] [] au) (some (.Name x pos')) pos.line X.env=pure false:=by rfl)(hf:full=true\/sc.names.lookup x=some .local:=by first | exact cK rfl | exact bL rfl):
  SV X (.Assign [.Name x pos'] (.Call (.Attribute (.Name y p1) "pop" p2) [] [] au) pos) (qx i j):=b0u h.xJ (h.ix hN) (h.loc hx) (h.ix Pz) (h.oE hv) hd bM bB bA hs (h.DH hf)
theorem Fx.item(h:Fx X N sc k full)(i:Nat){x:Str}(ha:EV X e fa)(hb:EV X b fb)(hN:N[i]?=some x:=by rfl)(hv:gm sc x:=by first | exact cK rfl | exact bL (cK rfl) | exact bL (bL rfl))(hd:(x==("__debug__":Str))=false:=by rfl)
  (bM:(x==("__classdict__":Str))=false:=by rfl)
  (ue:∀v,assign (.Subscript (.Name x p1) b p2) X.env v=(do
   let ov <-holding [v] (eval (.Name x p1) X.env)
   let iv <-holding [v,ov] (eval b X.env)
   standAt p2
   holding [v,ov,iv] (setItem ov iv v)
   release [v,ov,iv] []):=by intro _;rfl)
  (hs:swapsWithSole [.Subscript (.Name x p1) b p2] e pos.line X.env=pure false:=by rfl)(hw:swappedStores [.Subscript (.Name x p1) b p2] e X.env=pure none:=by rfl)
  (h1:(assignEach [.Subscript (.Name x p1) b p2] X.env).map (·.2)=[assign (.Subscript (.Name x p1) b p2) X.env]:=by rfl):
  SV X (.Assign [.Subscript (.Name x p1) b p2] e pos) (EJ i fa fb):=b4T ha hb (h.ix hN) (h.oE hv) hd bM ue hs hw h1
end
theorem G3{us:List Value}(h:us.length=0):us=[]:=by
 exact Lx.mp h
theorem b5A{us:List Value}(h:us.length=1):∃a0,us=[a0]:=by
 cases us with
 | nil=>cases h
 | cons a r =>
  have:=G3 (us:=r) (by simpa using h)
  exact ⟨a,by rw [this]⟩
theorem b5z{us:List Value}(h:us.length=2):∃a0 a1,us=[a0,a1]:=by
 cases us with
 | nil=>cases h
 | cons a r =>
  have:=b5A (us:=r) (by simpa using h)
  obtain ⟨b0,e⟩:=this
  exact ⟨a,b0,by rw [e]⟩
theorem b5y{us:List Value}(h:us.length=3):∃a0 a1 a2,us=[a0,a1,a2]:=by
 cases us with
 | nil=>cases h
 | cons a r =>
  have:=b5z (us:=r) (by simpa using h)
  obtain ⟨b0,b1,e⟩:=this
  exact ⟨a,b0,b1,by rw [e]⟩
theorem b75{us:List Value}(h:us.length=4):∃a0 a1 a2 a3,us=[a0,a1,a2,a3]:=by
 cases us with
 | nil=>cases h
 | cons a r =>
  have:=b5y (us:=r) (by simpa using h)
  obtain ⟨b0,b1,b2,e⟩:=this
  exact ⟨a,b0,b1,b2,by rw [e]⟩
section
variable {P:Program}{w:World}{K:aK}{mg:Str->Option Value}{base:Heap}
theorem HR{x qual:Str}{st:Stmt}{f:Addr}{fd:FuncData}{N ps:List Str}{k:Nat}{F:SF}(Fn:tL K x qual st f fd)(S:bC N ps (dg st))
  (br:∀X:Cx,X.prog=P->X.w=w->X.K=K->X.mg=mg->X.base=base->Fx X N (dg st) k->lz X (hV st) F):bD P w K mg base jv (k+1) f fd ps (qu K ps.length (cf F N.length)):=
 PQ Fn S λdX A outer s H E hr=>br _ rfl rfl rfl rfl rfl ⟨rfl,rfl,rfl,λ_ _=>rfl,AN,hr,S.nd,λ_=>⟨rfl,rfl,rfl⟩⟩
end
def Oz(P:Program)(w:World)(K:aK)(mg:Str->Option Value)(base:Heap)(x:Str)(st:Stmt)(ps:List Str)(j:Nat)(φ:List D->Option Sl):Prop:=∃f fd,Def K mg x st ps f fd/\bD P w K mg base jv j f fd ps (qu K ps.length φ)
inductive Sx:Cx->Program->World->aK->(Str->Option Value)->Heap->Prop
 | mk (X:Cx):Sx X X.prog X.w X.K X.mg X.base
theorem lp{P:Program}{w:World}{K:aK}{mg:Str->Option Value}{base:Heap}{x:Str}{st:Stmt}{f:Addr}{fd:FuncData}{N ps:List Str}{k:Nat}{F:SF}(D':Def K mg x st ps f fd)
  (br:∀X:Cx,Sx X P w K mg base->Fx X N (dg st) k->lz X (hV st) F)(S:bC N ps (dg st):=by exact ⟨rfl,rfl,rfl,by decide +kernel,rfl,by decide +kernel,by decide +kernel⟩):bD P w K mg base jv (k+1) f fd ps (qu K ps.length (cf F N.length)):=
 HR D'.fn S λX e1 e2 e3 e4 e5=>by subst e1 e2 e3 e4 e5;exact br X (.mk X)
theorem gZ{P:Program}{w:World}{K:aK}{mg:Str->Option Value}{base:Heap}{x:Str}{st:Stmt}{f:Addr}{fd:FuncData}{N ps:List Str}{k:Nat}{F:SF}(D':Def K mg x st ps f fd)
  (br:∀X:Cx,Sx X P w K mg base->Fx X N (dg st) k->lz X (hV st) F)(S:bC N ps (dg st):=by exact ⟨rfl,rfl,rfl,by decide +kernel,rfl,by decide +kernel,by decide +kernel⟩):Oz P w K mg base x st ps (k+1) (cf F N.length):=
 ⟨f,fd,D',lp D' br S⟩
theorem Ae{X X':Cx}{x:Str}{st:Stmt}{ps:List Str}{j:Nat}{φ:List D->Option Sl}(e1:X'.prog=X.prog)(e2:X'.w=X.w)(e3:X'.K=X.K)(e4:X'.mg=X.mg)(e5:X'.base=X.base)(O:Oz X.prog X.w X.K X.mg X.base x st ps j φ):Oz X'.prog X'.w X'.K X'.mg X'.base x st ps j φ:=by
 rw [e1,e2,e3,e4,e5];exact O
theorem Fx.cl{X:Cx}{N:List Str}{sc:Scope}{k j:Nat}{full:Bool}{x:Str}{st:Stmt}{ps:List Str}{φ:List D->Option Sl}{e:Expr}{es:List Expr}{fs:En->Option (List D)}{p pos:Pos}(h:Fx X N sc k full)(O:Oz X.prog X.w X.K X.mg X.base x st ps j φ)(ha:AV X (e::es) fs)(hj:j<=k:=by decide)(hg:sc.names.lookup x=some .globalImplicit:=by rfl)(eY:(x==("__debug__":Str))=false:=by decide)(he:starEach (e::es) X.env=(false,eval e X.env)::starEach es X.env:=by rfl)(fm:(backTo pos (starEach es X.env)).any (·.1)=false:=by rfl):
  EV X (.Call (.Name x p) (e::es) [] pos) (bh ps.length φ fs):=by
 obtain ⟨f,fd,D',F⟩:=O
 exact b57 F (h.room.mono hj) (h.g hg) D'.m D'.fn.kp D'.bd ha eY he fm
structure FI(K:aK)(n:Str)(t:Stmt)(f:Addr)(od an:Option Addr)(sl:Array (Option Value))(oc kV dc pm cd ct:Value):Prop where
 a:iJ K mainGlobals n=some (some (.ref f))
 l:K.lookup f=some ⟨oc,od,.func (mS n n (oa t) (hV t) (dg t) .none kV dc pm an cd ct),sl⟩
 c:IH K cd n=true
 k:sW K (.ref f)=true
section
variable {K:aK}{mg:Str->Option Value}{h:Heap}{n:Str}{t:Stmt}{f:Addr}{od an:Option Addr}{sl:Array (Option Value)}{oc kV dc pm cd ct:Value}{ps:List Str}
theorem KD(X:K.In h)(G:h.Ns mainGlobals mg)(i:FI K n t f od an sl oc kV dc pm cd ct)(hb:∀(kV doc pm:Value) (an:Option Addr) (dX ct:Value) (us:List Value),us.length=ps.length->bindArgs (mS n n (oa t) (hV t) (dg t) .none kV doc pm an dX ct) ⟨us,[]⟩=pure (ps.zip us)):Def K mg n t ps f (mS n n (oa t) (hV t) (dg t) .none kV dc pm an cd ct):=
 ⟨Ma i.l i.c i.k,(Ma i.l i.c i.k).binds hb,kW X G i.a⟩
theorem lW(X:K.In h)(G:h.Ns mainGlobals mg)(i:FI K n t f od an sl oc kV dc pm cd ct)(hb:∀(kV doc pm:Value) (an:Option Addr) (dX ct a0:Value),bindArgs (mS n n (oa t) (hV t) (dg t) .none kV doc pm an dX ct) ⟨[a0],[]⟩=pure (ps.zip [a0]):=by intros;rfl)(hl:ps.length=1:=by rfl):Def K mg n t ps f (mS n n (oa t) (hV t) (dg t) .none kV dc pm an cd ct):=
 KD X G i λ_ _ _ _ _ _ us hu=>by obtain ⟨_,rfl⟩:=b5A (hu.trans hl);exact hb ..
theorem t6(X:K.In h)(G:h.Ns mainGlobals mg)(i:FI K n t f od an sl oc kV dc pm cd ct)(hb:∀(kV doc pm:Value) (an:Option Addr) (dX ct a0 a1:Value),bindArgs (mS n n (oa t) (hV t) (dg t) .none kV doc pm an dX ct) ⟨[a0,a1],[]⟩=pure (ps.zip [a0,a1]):=by intros;rfl)(hl:ps.length=2:=by rfl):Def K mg n t ps f (mS n n (oa t) (hV t) (dg t) .none kV dc pm an cd ct):=
 KD X G i λ_ _ _ _ _ _ us hu=>by obtain ⟨_,_,rfl⟩:=b5z (hu.trans hl);exact hb ..
theorem xO(X:K.In h)(G:h.Ns mainGlobals mg)(i:FI K n t f od an sl oc kV dc pm cd ct)(hb:∀(kV doc pm:Value) (an:Option Addr) (dX ct a0 a1 a2:Value),bindArgs (mS n n (oa t) (hV t) (dg t) .none kV doc pm an dX ct) ⟨[a0,a1,a2],[]⟩=pure (ps.zip [a0,a1,a2]):=by intros;rfl)(hl:ps.length=3:=by rfl):Def K mg n t ps f (mS n n (oa t) (hV t) (dg t) .none kV dc pm an cd ct):=
 KD X G i λ_ _ _ _ _ _ us hu=>by obtain ⟨_,_,_,rfl⟩:=b5y (hu.trans hl);exact hb ..
theorem OJ(X:K.In h)(G:h.Ns mainGlobals mg)(i:FI K n t f od an sl oc kV dc pm cd ct)(hb:∀(kV doc pm:Value) (an:Option Addr) (dX ct a0 a1 a2 a3:Value),bindArgs (mS n n (oa t) (hV t) (dg t) .none kV doc pm an dX ct) ⟨[a0,a1,a2,a3],[]⟩=pure (ps.zip [a0,a1,a2,a3]):=by intros;rfl)(hl:ps.length=4:=by rfl):Def K mg n t ps f (mS n n (oa t) (hV t) (dg t) .none kV dc pm an cd ct):=
 KD X G i λ_ _ _ _ _ _ us hu=>by obtain ⟨_,_,_,_,rfl⟩:=b75 (hu.trans hl);exact hb ..
end
end DL
namespace DL
open PySem L2
theorem b8q(i j:Int):nX (.int i) (.int j)=some (.sh (.int (i-j))):=rfl
end DL
namespace DL
open PySem PySem.Spec PyProof.Rows L2
def Dk(K:aK)(O:Addr->Prop)(J:It)(H:Hp)(ds:List D):Prop:=
 ∀(O':Addr->Prop) (H2:Hp),(∀q u,H q=some u->¬O q->H2 q=some u/\¬O' q)->(∀q,O' q->H2 q≠none) ->
  ∀i:Nat,(∀d,ds[i]?=some d->J.go i H2/\∀x H3,J.BX i H2 x H3->az H2 H3/\Is K O' H3 x d)/\(ds.length<=i->J.stop i H2)
def IV(X:Cx)(tg it:Expr)(f:En->Option (List D)):Prop:=
 ∃wi:TI,PI X tg it wi/\∀(O:Addr->Prop) (B:Hp) (σ:L2.St) (H:Hp) (env:En) (ds:List D) (R:It->Hp->Prop),Rel X.K O B σ H env->f env=some ds ->
  (∀J H',az H H'->Dk X.K (OO O σ env) J H' ds->R J H')->wi σ H R
theorem b4Y{K:aK}{O:Addr->Prop}{H H2:Hp}{k:Bool}{p:Addr}{xs:List V}(kp:∀q u,H q=some u->¬O q->H2 q=some u)(h:Sq K H k p xs)(hp:¬O p):Sq K H2 k p xs:=by
 cases k with
 | true =>
  rcases h with (h | ⟨o,h⟩) | h
  .exact .inl (.inl (kp _ _ h hp))
  .exact .inl (.inr ⟨o,kp _ _ h hp⟩)
  .exact .inr h
 | false =>
  rcases h with (h | ⟨o,h⟩) | h
  .exact .inl (.inl (kp _ _ h hp))
  .exact .inl (.inr ⟨o,kp _ _ h hp⟩)
  .exact .inr h
noncomputable def fw(f:En->Option Sl):En->Option (List D):=λenv=>(f env).bind λr=>(iW r.d).map (·.2)
section
variable {X:Cx}{tg it:Expr}{fa:En->Option Sl}
theorem zE(hi:EV X it fa):IV X tg it (fw fa):=by
 obtain ⟨ti,pi,ki⟩:=hi
 refine ⟨_,Yn pi,λO B σ H env ds R Rl e q=>?_⟩
 obtain ⟨r,e1,e2⟩:=bind_some e
 obtain ⟨⟨k,ds'⟩,e4,e5⟩:=map_some e2
 cases e5
 refine ki O B σ H env r _ Rl e1 λv H1 s1 r1=>?_
 obtain ⟨p,xs,rfl,h1,h2,h3⟩:=(r1.is λq=>Rl.oo).w8 e4
 refine ⟨p,rfl,?_⟩
 have key:∀(O':Addr->Prop) (H2:Hp),(∀q u,H1 q=some u->¬OO O σ env q->H2 q=some u/\¬O' q)->Sq X.K H2 k p xs/\aQ X.K O' H2 xs ds':=λO' H2 kp=>by
  refine ⟨?_,h2.map (λq hq hn=>?_) λq u e n=>(kp q u e n).1⟩
  .rcases h3 with h3 | h3
   .exact b4Y (λq u e n=>(kp q u e n).1) h1 h3
   .exact h3 H2
  .cases e:H1 q with
   | none=>exact (hq e).elim
   | some u=>exact (kp q u e hn).2
 cases k with
 | true =>
  refine .inl ⟨⟨xs,h1⟩,q _ H1 s1 λO' H2 kp hO i=>⟨λd hd=>?_,λhl=>?_⟩⟩
  .obtain ⟨hq,hs⟩:=key O' H2 kp
   obtain ⟨x,hx,zd⟩:=hs.get hd
   refine ⟨⟨xs,x,hq,hx⟩,λy H3 hy=>?_⟩
   obtain ⟨rfl,hy⟩:=hy
   have:=hy xs hq
   rw [hx] at this
   cases this
   exact ⟨az.refl _,zd⟩
  .obtain ⟨hq,hs⟩:=key O' H2 kp
   exact ⟨xs,hq,by rw [hs.length];exact hl⟩
 | false =>
  refine .inr ⟨⟨xs,h1⟩,q _ H1 s1 λO' H2 kp hO i=>⟨λd hd=>?_,λhl=>?_⟩⟩
  .obtain ⟨hq,hs⟩:=key O' H2 kp
   obtain ⟨x,hx,zd⟩:=hs.get hd
   refine ⟨⟨xs,x,hq,hx⟩,λy H3 hy=>?_⟩
   obtain ⟨rfl,hy⟩:=hy
   have:=hy xs hq
   rw [hx] at this
   cases this
   exact ⟨az.refl _,zd⟩
  .obtain ⟨hq,hs⟩:=key O' H2 kp
   exact ⟨xs,hq,by rw [hs.length];exact hl⟩
theorem Zz{K:aK}{O:Addr->Prop}{H:Hp}(lo:Int)(n:Nat):Dk K O (tK lo n) H (eD lo n):=λO' H2 _ _ i=>by
 refine ⟨λd hd=>?_,λhl=>show n<=i by simpa [eD] using hl⟩
 unfold eD at hd
 rw [mB] at hd
 obtain ⟨k,hk,rfl⟩:=map_some hd
 obtain ⟨hi,rfl⟩:=pH.mp hk
 rw [wg] at hi
 refine ⟨hi,λx H3 hy=>?_⟩
 obtain ⟨rfl,rfl⟩:=hy
 rw [List.getElem_range]
 exact ⟨az.refl _,Is.int _⟩
noncomputable def iY(h:List D->Option (List D))(f:En->Option (List D)):En->Option (List D):=λenv=>(f env).bind h
noncomputable def wH(f:En->Option (List D))(g:GF)(F:SF):SF:=λenv=>(f env).bind λds=>forL g F ds env
theorem JG(hp:PassesOwn (model X.prog X.w) X.A X.env X.xe)(hc:X.calm=true)(hi:IV X tg it fi)(hg:GV X tg g)(hb:lz X body F)
  (hs:∀x,foldedSetIterable it X.env x=pure x:=by intro _;rfl):SV X (.For tg it body [] pos) (wH fi g F):=by
 obtain ⟨wi,pi,ki⟩:=hi
 obtain ⟨yR,pg,kg⟩:=hg
 obtain ⟨tb,pb,kb⟩:=hb
 refine ⟨_,Mf hp hc pi pg pb hs,λO B σ H env fl ag D R e q=>?_⟩
 obtain ⟨ds,e1,e2⟩:=bind_some e
 refine ki O B σ H env ds _ R e1 λJ H1 s1 wk=>?_
 have q':fF X.K O B σ H1 env D fl ag:=q.from (Gd.refl s1)
 refine ⟨λi m cF H2=>m=ds.length-i/\i<=ds.length/\Left X.K O B σ H1 env g F ds fl ag i cF H2,⟨ds.length,by simp,uB _,⟨env,R.grow s1,Gd.refl (az.refl _),e2⟩⟩,?_⟩
 rintro i m cF H2 ⟨rfl,hi,L⟩
 obtain ⟨a8,R2,gd,ee⟩:=id L
 have w:=wk (OO O cF a8) H2 (λa u ea na=>by
  obtain ⟨h1,h2⟩:=gd a u ea λz=>na (.inr z)
  exact ⟨h1,λz=>z.elim (λz=>na (.inl z)) h2⟩) (λa=>R2.oo) i
 by_cases fu:i<ds.length
 .obtain ⟨go,yl⟩:=w.1 ds[i] (by simp [fu])
  refine .inr ⟨go,Left X.K O B σ H1 env g F ds fl ag (i+1),λaG H' p'=>⟨ds.length-(i+1),by omega,rfl,fu,p'⟩,λx H3 hy=>?_⟩
  obtain ⟨s3,hx⟩:=yl x H3 hy
  have pk:ds.drop i=ds[i]::ds.drop (i+1):=IW fu
  rw [pk,forL] at ee
  cases Ct:g ds[i] a8 with
  | none=>rw [Ct] at ee;cases ee
  | some iZ =>
   rw [Ct] at ee
   refine kg O B cF H3 a8 iZ x ds[i] _ (R2.grow s3) hx Ct λKn H4 R4 g4=>?_
   dsimp only at ee
   cases hF:F iZ with
   | none=>rw [hF] at ee;cases ee
   | some y =>
    obtain ⟨f2,fX⟩:=y
    rw [hF] at ee
    have Cy:=gd.trans ((Gd.refl s3).trans g4)
    refine kb O B Kn H4 iZ f2 fX _ R4 hF ?_
    cases f2 with
    | nx=>exact λFH H5 R5 g5=>⟨fX,R5,Cy.trans g5,ee⟩
    | ct=>exact λFH H5 R5 g5=>⟨fX,R5,Cy.trans g5,ee⟩
    | bk=>cases ee;exact λFH H5 R5 g5=>q' FH H5 R5 (Cy.trans g5)
    | rt r=>cases ee;exact q'
 .exact .inl ⟨w.2 (by omega),MD (by omega) q' L⟩
end
noncomputable def rl(c7 sc:Scope):Scope:=
 { c7 with names:=c7.names.map λ(n,k)=>if (k==.free&&sc.kind==.function&&sc.names.lookup n==some .cell) then (n,.cell) else (n,k) }
theorem Td{sc:Scope}:∀{names:List (Str×NameKind)} {x:Str} {k:NameKind},names.lookup x=some k ->
  (names.map λ(n,k)=>if (k==uA&&sc.kind==.function&&sc.names.lookup n==some .cell) then (n,CU) else (n,k)).lookup x=some (if (k==uA&&sc.kind==.function&&sc.names.lookup x==some .cell) then CU else k)
 | [],_,_,h=>by simp at h
 | (n,k')::r,x,k,h=>by
  have ih:=@Td sc r x k
  show yq x ((if (k'==uA&&sc.kind==.function&&sc.names.lookup n==some .cell)=true then (n,CU) else (n,k'))::_)=_
  cases hx:x==n with
  | true =>
   simp only [qb,hx] at h
   cases h
   have e:x=n:=by simpa using hx
   subst e
   split<;>simp [qb]
  | false =>
   simp only [qb,hx] at h
   split
   .simp only [qb,hx];exact ih h
   .simp only [qb,hx];exact ih h
theorem a92{sc:Scope}:∀{names:List (Str×NameKind)} {x:Str} {k:NameKind},
  (names.map λ(n,k)=>if (k==uA&&sc.kind==.function&&sc.names.lookup n==some .cell) then (n,CU) else (n,k)).lookup x=some k->∃k',names.lookup x=some k'/\k=if (k'==uA&&sc.kind==.function&&sc.names.lookup x==some .cell) then CU else k'
 | names,x,k,h=>by
  cases e:names.lookup x with
  | some k'=>have:=Td (sc:=sc) e;rw [h] at this;exact ⟨k',rfl,gp this⟩
  | none =>
   exfalso
   induction names with
   | nil=>simp at h
   | cons y r ih =>
    obtain ⟨n,k'⟩:=y
    have h':yq x ((if (k'==uA&&sc.kind==.function&&sc.names.lookup n==some .cell)=true then (n,CU) else (n,k'))::(r.map λ(n,k)=>if (k==uA&&sc.kind==.function&&sc.names.lookup n==some .cell) then (n,CU) else (n,k)))=some k:=h
    cases hx:x==n with
    | true=>simp [qb,hx] at e
    | false =>
     simp only [qb,hx] at e
     apply ih _ e
     split at h'
     .simpa only [qb,hx] using h'
     .simpa only [qb,hx] using h'
noncomputable def jm(cells:List (Str×Addr)):List (Str×NameKind)->List (Str×Addr)->List (Str×Addr)
 | [],acc=>acc
 | (n,k)::r,acc=>jm cells r (if k==.free then (n,(cells.lookup n).getD 0)::acc else acc)
theorem Tt:∀(names:List (Str×NameKind)) (acc:List (Str×Addr)),(∀y∈names,y.2=.free->∃c,env.cells.lookup y.1=some c) ->
  (forIn names acc λ(x:Str×NameKind) r=>(if (x.2==.free)=true then do let a <-cellOf env x.1;pure (Ep ((x.1,a)::r)) else pure (Ep r):Sem (ForInStep (List (Str×Addr)))))=pure (jm env.cells names acc)
 | [],acc,_=>rfl
 | (n,k)::r,acc,h=>by
  rw [List.forIn_cons]
  have hr:∀y∈r,y.2=.free->∃c,env.cells.lookup y.1=some c:=λy hy=>h y (gn _ hy)
  cases hk:k==uA with
  | true =>
   have ek:k=.free:=by simpa using hk
   obtain ⟨c,hc⟩:=h (n,k) gi ek
   replace hc:env.cells.lookup n=some c:=hc
   have Pt:cellOf env n=pure c:=by unfold cellOf;rw [hc]
   simp only [if_true]
   rw [Pt]
   simp only [pure_bind]
   rw [Tt r _ hr]
   conv=>rhs;unfold jm
   rw [hk,hc]
   rfl
  | false =>
   simp only [AL,if_false,pure_bind]
   rw [Tt r _ hr]
   conv=>rhs;unfold jm
   rw [hk]
   rfl
theorem a6W(h:∀y∈sc.names,y.2=.free->∃c,env.cells.lookup y.1=some c):closureFor sc env=pure (jm env.cells sc.names []):=by
 unfold closureFor
 rw [<-Tt sc.names [] h]
 show (forIn sc.names [] _ >>= λcs=>pure cs)=_
 rw [bind_pure]
theorem Zb:∀(names:List (Str×NameKind)) (acc:List (Str×Addr)) {c:Addr},(jm cells names acc).lookup x=some c->acc.lookup x=some c\/((x,uA)∈names/\c=(cells.lookup x).getD 0)
 | [],acc,c,h=>.inl h
 | (n,k)::r,acc,c,h=>by
  unfold jm at h
  rcases Zb r _ h with h1 | ⟨h,e⟩
  .clear h
   have h:=h1
   clear h1
   cases hk:k==uA with
   | false=>rw [hk] at h;exact .inl (by simpa using h)
   | true =>
    rw [hk] at h
    simp only [if_true] at h
    have ek:k=.free:=by simpa using hk
    cases hx:x==n with
    | true =>
     simp only [qb,hx] at h
     have e:x=n:=by simpa using hx
     subst e ek
     exact .inr ⟨gi,(gp h).symm⟩
    | false =>
     simp only [qb,hx] at h
     exact .inl h
  .exact .inr ⟨gn _ h,e⟩
theorem ZT:∀(names:List (Str×NameKind)) (acc:List (Str×Addr)),((∃c,acc.lookup x=some c)\/(x,uA)∈names)->∃c,(jm cells names acc).lookup x=some c
 | [],acc,h=>h.elim id λz=>nomatch z
 | (n,k)::r,acc,h=>by
  unfold jm
  refine ZT r _ ?_
  cases hk:k==uA with
  | false =>
   rcases h with h | h
   .exact .inl (by simpa using h)
   .rcases cL.mp h with e | h
    .cases e;simp at hk
    .exact .inr h
  | true =>
   simp only [if_true]
   cases hx:x==n with
   | true=>exact .inl ⟨_,by simp only [qb,hx];rfl⟩
   | false =>
    rcases h with ⟨c,h⟩ | h
    .exact .inl ⟨c,by simp only [qb,hx];exact h⟩
    .rcases cL.mp h with e | h
     .cases e;simp at hx
     .exact .inr h
structure dO(N:List Str)(sc:Scope)(N':List Str)(caps:List Nat)(nt:Nat)(c7:Scope):Prop where
 kind:c7.kind=.function
 loc:∀y∈c7.names,y.2=.local->c7.names.lookup y.1=some .local
 xK:∀y∈c7.names,y.2≠.cell
 free:∀y∈c7.names,y.2=.free->sc.names.lookup y.1=some .cell\/sc.names.lookup y.1=some .free
 nd:N'.Nodup
 len:N'.length=nt+caps.length
 cap:caps.map (λi=>N[i]?)=(N'.drop nt).map some
 fr:∀x∈N'.drop nt,c7.names.lookup x=some .free
theorem TR{names:List (Str×NameKind)}{x:Str}(h:names.lookup x=some k):(x,k)∈names:=Ez h
noncomputable def lq:List Nat->En->Option En
 | [],_=>some []
 | i::is,env=>match env[i]? with
  | some (.sh d)=>(lq is env).map (Sl.sh d::·)
  | _=>none
noncomputable def oH(g:GF)(fc:En->Option Bool)(fe:En->Option Sl):List D->En->Option (List D)
 | [],_=>some []
 | d::ds,e=>(g d e).bind λe1=>(fc e1).bind λb=>if b=true then (fe e1).bind λr=>(oH g fc fe ds e1).bind λrs=>some (r.d::rs) else oH g fc fe ds e1
noncomputable def gS(fi:En->Option (List D))(caps:List Nat)(nt:Nat)(g:GF)(fc:En->Option Bool)(fe:En->Option Sl):En->Option Sl:=λenv =>
 (fi env).bind λds=>(lq caps env).bind λcs=>if ds.length<=16777216 then (oH g fc fe ds (nv nt Sl.no++cs)).map Sl.ow else none
noncomputable def g0:List Nat->L2.St->L2.St
 | [],_=>[]
 | i::is,σ=>(σ[i]?).getD none::g0 is σ
theorem YN{K:aK}{O:Addr->Prop}{B:Hp}{σ:L2.St}{H:Hp}{env:En}(R:Rel K O B σ H env):∀{caps:List Nat} {cs:En},lq caps env=some cs->cs.length=caps.length/\(g0 caps σ).length=caps.length /\
  ∀(j:Nat) (s:Sl),cs[j]?=some s->∃(d:D) (v:V) (i:Nat),s=Sl.sh d/\(g0 caps σ)[j]?=some (some v)/\Is K (OO O σ env) H v d/\caps[j]?=some i/\σ[i]?=some (some v)
 | [],cs,e=>by cases e;exact ⟨rfl,rfl,λj s h=>by simp at h⟩
 | i::is,cs,e=>by
  unfold lq at e
  cases h:env[i]? with
  | none=>rw [h] at e;cases e
  | some s =>
   rw [h] at e
   cases s with
   | no=>cases e
   | ow ds=>cases e
   | dw ds=>cases e
   | tw _ _=>cases e
   | sh d =>
    obtain ⟨cs',e1,rfl⟩:=map_some (show (lq is env).map (Sl.sh d::·)=some cs from e)
    obtain ⟨l1,l2,ih⟩:=YN R e1
    obtain ⟨v,hv,hi⟩:=R.sh i d h
    refine ⟨by simp [l1],by simp [g0,l2],λj s hj=>?_⟩
    cases j with
    | zero=>simp at hj;subst hj;exact ⟨d,v,i,rfl,by simp [g0,hv],hi,rfl,hv⟩
    | succ j =>
     obtain ⟨d',v',i',a1,a2,a3,a4,a5⟩:=ih j s (by simpa using hj)
     exact ⟨d',v',i',a1,by simpa [g0] using a2,a3,by simpa using a4,a5⟩
def FE(X:Cx)(ifs:List Expr)(f:En->Option Bool):Prop:=
 ∃t:TT,(∀(pins:List (Addr×Obj)) (s:Shared) (σ:L2.St) (H:Hp) (Q:Bool->Hp->Prop),Inv X pins σ H s->t σ H Q ->
   wpAny (model X.prog X.w) X.A (forIn ifs true λc r=>if r=true then do let ok <-isTrue c X.env (eval c X.env);pure (Ep ok) else pure (Ep r)) (TP X pins σ Q) X.xe s) /\
  ∀(O:Addr->Prop) (B:Hp) (σ:L2.St) (H:Hp) (env:En) (b:Bool) (Q:Bool->Hp->Prop),Rel X.K O B σ H env->f env=some b->(∀H',az H H'->Q b H')->t σ H Q
noncomputable def km:En->Option Bool:=λ_=>some true
theorem tG:FE X [] km:=⟨λ_ H Q=>Q true H,λpins s σ H Q I h=>wpAny_tests_nil ⟨H,I,h⟩,λO B σ H env b Q R e q=>by cases e;exact q H (az.refl _)⟩
theorem b8m(h:TV X c f):FE X [c] f:=by
 obtain ⟨t,p,k⟩:=h
 exact ⟨t,λpins s σ H Q I h=>wpAny_tests_one (p pins s σ H Q I h),k⟩
section
variable {prog:Program}{w:World}{A:Around}{R:Result->Shared->Prop}{s:Shared}
theorem a8M{elt target iter:Expr}{ifs:List Expr}{scope:Scope}{pos:Pos}{it acc:Value}{env:Env}(I:Nat->Shared->Prop){N:Value->Shared->Prop}(hN:∀x s',N x s'->False)
  (turn:∀n s,I n s->wpAny (model prog w) A (pyNext it) (λr aR=>match r with
   | none=>R (.ok .next) aR
   | some v=>wpAny (model prog w) A (letOwnedTupleGo target it v) (λ_ Be=>wpAny (model prog w) A (assign target env v) (λ_ eB =>
     wpAny (model prog w) A (forIn ifs true λc r=>if r=true then do let ok <-isTrue c env (eval c env);pure (Ep ok) else pure (Ep r)) (λok oV =>
      if ok=true then wpAny (model prog w) A (eval elt env) (λx F8 =>
       wpAny (model prog w) A (call (.builtin "list.append") [acc,x]) (λ_ F7=>∃m,m<n/\I m F7) N F8) N oV
      else ∃m,m<n/\I m oV) N eB) N Be) N aR) N s)
  (n:Nat)(h:I n s):
  codeAny (model prog w) A (.compLoop (.ListComp elt [⟨target,iter,ifs,0⟩] scope pos) 0 it acc env) R s:=by
 refine codeAny_loop rfl I (λn s hI=>?_) n h
 show wpAny _ A ((compTurn (.ListComp elt [⟨target,iter,ifs,0⟩] scope pos) 0 it acc env).onRaise (λx=>do noteFrame x env;theTreesLotGoes x)) _ _ s
 refine wpAny_noted ?_
 rw [compTurn_list]
 have no:∀{P:Value->Shared->Prop} (x:Value) (s':Shared),N x s'->P x s':=λx s' z=>(hN x s' z).elim
 refine aF (Lb (aF (jy (turn n s hI) (λr aR h₁=>?_) no)))
 cases r with
 | none=>exact bG h₁
 | some v =>
  refine aF (jy h₁ (λ_ Be Hf=>?_) no)
  refine aF (jy Hf (λ_ eB xQ=>aF (jy xQ (λok oV Ak=>?_) no)) no)
  cases ok with
  | false=>exact bG ⟨rfl,Ak⟩
  | true =>
   exact aF (aF (jy Ak (λx F8 O0=>aF (jy O0 (λ_ F7 OZ=>bG (bG ⟨rfl,OZ⟩)) no)) no))
end
section
variable {X:Cx}{N N':List Str}{sc c7:Scope}{k:Nat}{full:Bool}{elt iter tg:Expr}{ifs:List Expr}{pos:Pos}{fi:En->Option (List D)}{caps:List Nat}{nt:Nat}{g:GF}{fc:En->Option Bool}{fe:En->Option Sl}
noncomputable def Bt(X:Cx)(N':List Str)(c7:Scope)(ex:List Addr)(s:Shared)(H:Hp):Cx where
 prog:=X.prog
 w:=X.w
 K:=X.K
 mg:=X.mg
 base:=X.base
 A:=X.A
 N:=N'
 c6:=s
 yO:=H
 env:=compEnvC c7 (jm X.env.cells c7.names []) s.heap.objs.size X.env
 outer:=X.stack
 stack:=X.stack
 ex:=ex
 fn:=λ_=>false
 calm:=true
 pn:=[]
 xe:=λ_ _=>False
theorem BH(C:dO N sc N' caps nt c7)(qJ:X.env.scope=sc){pins:List (Addr×Obj)}{σ:L2.St}{H:Hp}{s:Shared}(I:Inv X pins σ H s){x:Str}{c:Addr}(h:(jm X.env.cells c7.names []).lookup x=some c):X.env.cells.lookup x=some c:=by
 rcases Zb _ _ h with h | ⟨h,e⟩
 .simp at h
 .obtain ⟨c',zf⟩:=I.ok.has x (by
   show X.env.scope.names.lookup x=_\/X.env.scope.names.lookup x=_
   rw [qJ]
   exact C.free _ h rfl)
  rw [zf] at e
  rw [e];exact zf
theorem XH(h:c7.names.lookup x=some .free):∃c,(jm X.env.cells c7.names []).lookup x=some c:=ZT _ _ (.inr (TR h))
theorem b3q(C:dO N sc N' caps nt c7)(qJ:X.env.scope=sc)(hc:X.calm=true){pins:List (Addr×Obj)}{σ:L2.St}{H:Hp}{s s3:Shared}{fp:List Addr}(I:Inv X pins σ H s)(I3:Inv X pins σ H s3)
  (hf:∀b∈fp,lB X pins H b)(Hy:∀b∈fp,∃o,s3.heap.get? b=some o)(hs:s3.heap.objs.size=s.heap.objs.size+1):(Bt X N' c7 (s.heap.objs.size::fp) s3 H).Ok:=by
 have small:∀x c,X.env.cells.lookup x=some c->c<s.heap.objs.size:=λx c e=>by
  obtain ⟨v,z⟩:=I.cell x c e
  exact z.lt
 have kd:∀x,((Bt X N' c7 (s.heap.objs.size::fp) s3 H).env.kindOf x=some .cell\/(Bt X N' c7 (s.heap.objs.size::fp) s3 H).env.kindOf x=some .free)->c7.names.lookup x=some .free:=λx h=>by
  have h':∃k,(rl c7 X.env.scope).names.lookup x=some k/\(k=.cell\/k=.free):=h.elim (λz=>⟨_,z,.inl rfl⟩) λz=>⟨_,z,.inr rfl⟩
  obtain ⟨k,e,hk⟩:=h'
  obtain ⟨k',e1,e2⟩:=a92 e
  have nc:k'≠.cell:=C.xK _ (TR e1)
  by_cases pz:(k'==uA&&X.env.scope.kind==.function&&X.env.scope.names.lookup x==some .cell)=true
  .have:k'=.free:=by
    have:=(BE _ _▸(BE _ _▸pz).1).1
    simpa using this
   rw [e1,this]
  .rw [if_neg pz] at e2
   subst e2
   rcases hk with rfl | rfl
   .exact (nc rfl).elim
   .exact e1
 refine ⟨I.ok.mod,C.kind,I.ok.glob,I.ok.blt,cw _,λx y c h1 h2=>I.ok.inj x y c (BH C qJ I h1) (BH C qJ I h2),λx h=>XH (kd x h),λ_ _ (z:false=true) _=>(nomatch z),λ_=>I.ok.hd hc,I.ok.frames,.inl rfl,λb hb=>⟨?_,λx c e=>?_⟩,λb o e=>?_,?_,λb o e hb=>?_,λb hb zc=>?_,I3.stack,λb hb=>I.jD b hb⟩
 .show b≠s3.heap.objs.size
  rcases cL.mp hb with rfl | hb
  .rw [hs];exact fg (oG _)
  .obtain ⟨o,e⟩:=Hy b hb
   exact fg (dU e)
 .have e':=BH C qJ I e
  rcases cL.mp hb with rfl | hb
  .exact fg (small x c e')
  .exact (hf b hb).2.2.2.2.1 x c e'
 .exact I3.bs b o e
 .exact pE I.ok.yB I3.sz
 .have lt:b<X.base.objs.size:=dU e
  have h0:=I.ok.yB
  have h1:=I.sz
  rcases cL.mp hb with rfl | hb
  .exact absurd (n5 lt (pE h0 h1)) (yx _)
  .rcases (hf b hb).2.2.2.1 with z | z
   .exact I.ok.qD b o e z
   .exact absurd (n5 lt (pE h0 z)) (yx _)
 .rcases cL.mp hb with rfl | hb
  .obtain ⟨_,o,ho,_⟩:=I.stack.mem zc
   exact absurd (dU ho) (yx _)
  .rcases cL.mp (I.ig b zc) with z | z
   .exact (hf b hb).2.1 z
   .exact (hf b hb).2.2.1 z
theorem Mp{α:Type}{n j:Nat}{x y:α}{l:List α}(h:(nv n x++l)[j]?=some y):y=x\/(n<=j/\l[j-n]?=some y):=by
 by_cases hj:j<n
 .rw [Rc (by simpa using hj),C1,if_pos hj] at h
  exact .inl (gp h).symm
 .rw [Rf (by simpa using hj),LJ] at h
  exact .inr ⟨by omega,h⟩
theorem b17(C:dO N sc N' caps nt c7)(qJ:X.env.scope=sc)(hN:X.N=N)(hc:X.calm=true){pins:List (Addr×Obj)}{σ:L2.St}{H:Hp}{s s3 s4:Shared}{fp:List Addr}(I:Inv X pins σ H s)(I3:Inv X pins σ H s3)
  (hf:∀b∈fp,lB X pins H b)(Hy:∀b∈fp,∃o,s3.heap.get? b=some o)(hs:s3.heap.objs.size=s.heap.objs.size+1)
  (Co:s4.os=s3.os)(hg:s4.gens=s3.gens)(hk:∀b o,s3.heap.get? b=some o->s4.heap.get? b=some o)(Bp:s4.heap.Ns s3.heap.objs.size λ_=>none):
  Inv (Bt X N' c7 (s.heap.objs.size::fp) s3 H) [] (nv nt none++g0 caps σ) H s4:=by
 have sl:∀(caps:List Nat) (σ:L2.St),(g0 caps σ).length=caps.length:=λcaps σ=>by
  induction caps with
  | nil=>rfl
  | cons i r ih=>simp [g0,ih]
 have sg:∀(caps:List Nat) (σ:L2.St) (j:Nat) (v:V),(g0 caps σ)[j]?=some (some v)->∃i,caps[j]?=some i/\σ[i]?=some (some v):=λcaps σ=>by
  induction caps with
  | nil=>intro j v h;simp [g0] at h
  | cons i r ih =>
   intro j v h
   cases j with
   | zero =>
    have h':(σ[i]?).getD none=some v:=by simpa [g0] using h
    refine ⟨i,rfl,?_⟩
    cases e:σ[i]? with
    | none=>rw [e] at h';cases h'
    | some o=>rw [e] at h';exact congrArg some h'
   | succ j =>
    obtain ⟨i',e1,e2⟩:=ih j v (by simpa [g0] using h)
    exact ⟨i',by simpa using e1,e2⟩
 refine ⟨b3q C qJ hc I I3 hf Hy hs,Co,by rw [hg];exact I3.bare,Un.kept hk,⟨_,Bp,λi x v h1 h2 h3=>?_⟩,λx c e=>?_,I3.bg.fresh (cw _),λx c e=>I3.dz x c (BH C qJ I e),λp hp=>absurd (show p∈([]:List (Addr×Obj)) from hp) (by simp),I3.bg.kept hk,?_⟩
 .have h1:N'[i]?=some x:=h1
  rcases Mp h2 with z | ⟨hi,h2⟩
  .cases z
  .obtain ⟨i',e1,e2⟩:=sg caps σ _ v h2
   have hd:(N'.drop nt)[i-nt]?=some x:=by rw [List.getElem?_drop,Nat.add_sub_cancel' hi];exact h1
   have hm:=congrArg (λl=>l[i-nt]?) C.cap
   simp only [mB,e1,hd,Option.map_some] at hm
   have hN':X.N[i']?=some x:=by rw [hN];exact gp hm
   have Hw:=C.fr x (Q6 hd)
   have mh:=C.free _ (TR Hw) rfl
   obtain ⟨m,hn,hl⟩:=I3.loc
   obtain ⟨u,r,l⟩:=hl i' x v hN' e2 (by rw [qJ];exact .inr mh)
   refine ⟨u,r,.inr ⟨?_,?_⟩⟩
   .have e:=Td (sc:=X.env.scope) Hw
    show (rl c7 X.env.scope).names.lookup x=_\/(rl c7 X.env.scope).names.lookup x=_
    have e':(rl c7 X.env.scope).names.lookup x=_:=e
    rw [e']
    split
    .exact .inl rfl
    .exact .inr rfl
   .rcases l with ⟨k,_⟩ | ⟨k,c,e,z⟩
    .exfalso
     have k:X.env.scope.names.lookup x=some .local:=k
     rw [qJ] at k
     dsimp only at mh
     rw [k] at mh
     rcases mh with z | z<;>cases z
    .obtain ⟨c',zf⟩:=XH (X:=X) Hw
     have:=BH C qJ I zf
     rw [e] at this
     cases this
     exact ⟨c,zf,z.keeps hk⟩
 .obtain ⟨v,z⟩:=I3.cell x c (BH C qJ I e)
  exact ⟨v,z.keeps hk⟩
 .show (nv nt none++g0 caps σ).length=N'.length
  rw [fD,LJ,sl,C.len]
theorem b2i(r:aL xs us):xs.length=us.length:=r.length
theorem b16{pins pl:List (Addr×Obj)}{σ aG:L2.St}{H2 H':Hp}{s2 s3 s1:Shared}{fp:List Addr}{h':Heap}{xs:List V}{ys:List Value}(I2:Inv X pins σ H2 s2)(hs3:s3.os=s2.os)(HI:∀b o,s2.heap.get? b=some o->s3.heap.get? b=some o)
  (hsz:s3.heap.objs.size=s2.heap.objs.size+1)(f2:∀b∈fp,lB X pins H2 b)(I':Inv (Bt X N' c7 (s2.heap.objs.size::fp) s3 H2) pl aG H' s1)(sb:yw s3.heap.objs.size s1.heap h')
  (hn:H' s2.heap.objs.size=none)(hl:∃n,s1.heap.get? s2.heap.objs.size=some { cls:=.type "list",data:=.seq ys.toArray n })(hv:aL xs ys)(hz:xs.length<=sizeLine):
  Inv X pins σ (upd H' s2.heap.objs.size (.lst xs)) { s1 with heap:=h' }:=by
 have ltC:∀b,b<s3.heap.objs.size->b≠s3.heap.objs.size:=λb h=>fg h
 have Vv:∀b,b<s2.heap.objs.size->b≠s2.heap.objs.size:=λb h=>fg h
 have out:∀b o,s2.heap.get? b=some o->b∉fp->b∉s2.heap.objs.size::fp:=λb o e n z=>(cL.mp z).elim (Vv b (dU e)) n
 have hC:H' s3.heap.objs.size=none:=I'.free
 have up:∀b o,s2.heap.get? b=some o->∀o',s1.heap.get? b=some o'->h'.get? b=some o':=λb o e o' e'=>(sb.2 b (ltC b (dU (HI b o e)))).trans e'
 have Bh:∀b u,H' b=some u->b≠s2.heap.objs.size:=λb u e z=>by rw [z,hn] at e;cases e
 have u:=I'.base
 refine I2.yp (s':={ s1 with heap:=h' }) (ch:=fp) (I'.os.trans hs3) ⟨λb o e n hb hx=>?_,λb o e n hb hx=>?_,λb o e n hx=>?_,λb o e hx=>?_,λb zs e=>?_,λb o v e=>?_,λb ps e=>?_⟩ (λb v e=>?_) I'.bare (λb hb=>?_)
 .exact up b o e o (u.keep b o (HI b o e) n hb (out b o e hx))
 .obtain ⟨sl,e1⟩:=u.slot b o (HI b o e) n hb (out b o e hx)
  exact ⟨sl,up b o e _ e1⟩
 .rw [dW (Vv b (dU e))]
  exact u.free b o (HI b o e) n (out b o e hx)
 .obtain ⟨o',e1⟩:=u.there b o (HI b o e) (out b o e hx)
  exact ⟨o',up b o e _ e1⟩
 .have:=u.jB b zs e
  rw [dW (Bh b _ this)];exact this
 .have:=u.jl b o v e
  rw [dW (Bh b _ this)];exact this
 .obtain ⟨more,this⟩:=u.jC b ps e
  exact ⟨more,by rw [dW (Bh b _ this)];exact this⟩
 .by_cases hb:b=s2.heap.objs.size
  .subst hb
   rw [kn] at e
   cases e
   obtain ⟨n,e1⟩:=hl
   exact ⟨hz,ys,n,hv,(sb.2 _ (by rw [hsz];exact fg (oG _))).trans e1⟩
  .rw [dW hb] at e
   refine (I'.bg b v e).nL (λc w hc q=>(sb.2 c ?_).trans q) (λc _ _ q=>by rw [dW (Bh c _ q)];exact q) λc zs q=>by rw [dW (Bh c _ q)];exact q
   rintro rfl
   rcases hc with z | z
   .rw [<-z,hC] at e;cases e
   .rw [hC] at z;cases z
 .obtain ⟨_,g1,_,g3,g4,g5⟩:=f2 b hb
  exact ⟨g3,g1,g4,g5⟩
theorem Tn(h:Fx X N sc k full)(C:dO N sc N' caps nt c7){wi:TI}(pi:PI X tg iter wi)(ki:∀(O:Addr->Prop) (B:Hp) (σ:L2.St) (H:Hp) (env:En) (ds:List D) (R:It->Hp->Prop),Rel X.K O B σ H env->fi env=some ds->(∀J H',az H H'->Dk X.K (OO O σ env) J H' ds->R J H')->wi σ H R)
  (hb:∀X':Cx,X'.prog=X.prog->X'.w=X.w->X'.K=X.K->X'.mg=X.mg->X'.base=X.base->Fx X' N' (rl c7 sc) k false->GV X' tg g/\FE X' ifs fc/\EV X' elt fe)
  (zc:∀x,foldedSetIterable iter X.env x=pure x){pins:List (Addr×Obj)}{s:Shared}{σ:L2.St}{H:Hp}(I:Inv X pins σ H s){O:Addr->Prop}{B:Hp}{env:En}{r:Sl}(R:Rel X.K O B σ H env)(e:gS fi caps nt g fc fe env=some r)
  {use:Option (Value->Sem Unit)}{QQ:Value->Shared->Prop}
  (fin:∀(C0 p:Addr) (H':Hp) (s':Shared),(∃m,s'.heap.Ns C0 m)->lB X pins H' C0->(∀h',yw C0 s'.heap h'->Inv X pins σ H' { s' with heap:=h' })->az H H'->Res X.K (OO O σ env) H H' (.ref p) r ->
   compPost (model X.prog X.w) X.A X.xe use QQ (.ref p) C0 (.ok .next) s'):
  wpAny (model X.prog X.w) X.A (comprehension (.ListComp elt [⟨tg,iter,ifs,0⟩] c7 pos) c7 X.env (firstIterPos [⟨tg,iter,ifs,0⟩] pos) (newList []) (firstAsync [⟨tg,iter,ifs,0⟩]) (firstIter [⟨tg,iter,ifs,0⟩] X.env) use) QQ X.xe s:=by
 obtain ⟨ds,e1,e2⟩:=bind_some e
 obtain ⟨cs,e3,e4⟩:=bind_some e2
 by_cases hlen:ds.length<=16777216
 case neg=>rw [if_neg hlen] at e4;cases e4
 rw [if_pos hlen] at e4
 obtain ⟨rs,e5,rfl⟩:=map_some e4
 have HD:closureFor c7 X.env=pure (jm X.env.cells c7.names []):=a6W λy hy hf=>I.ok.has y.1 (by
  show X.env.scope.names.lookup y.1=_\/X.env.scope.names.lookup y.1=_
  rw [h.sc]
  exact C.free y hy hf)
 have hpi:=pi pins s σ H (λJ H'=>az H H'/\Dk X.K (OO O σ env) J H' ds) I (ki O B σ H env ds _ R e1 λJ H' s' wk=>⟨s',wk⟩)
 refine wpAny_comprehension_free (use:=use) rfl zc HD C.kind C.loc (bJ hpi λxv s1 h1=>bJ h1 λKG s2 h2=>?_)
 obtain ⟨it,fp,tn,J,H2,rfl,I2,T,DJ,f2,rS,wk⟩:=h2
 refine zu (wpAny_newFunctionEnv C.xK (by intro y hy;simp at hy) (λh₁ qL qK=>?_) C.kind)
 dsimp only at qL qK ⊢
 generalize PD:s2.heap.push { cls:=.type "list",dict:=none,data:=.seq ([]:List Value).toArray }=H3 at qL qK ⊢
 have hsz:H3.objs.size=s2.heap.objs.size+1:=by rw [<-PD,n8]
 have G6:∀b o,s2.heap.get? b=some o->H3.get? b=some o:=λb o e=>by rw [<-PD];exact dY _ e
 have KE:∀b o,H3.get? b=some o->h₁.get? b=some o:=λb o e=>qK.extBut b o (fg (dU e)) (dY _ e)
 have I3:Inv X pins σ H2 { s2 with heap:=H3 }:=I2.kept (t':=s2.toks) G6
 have GN:∀b∈fp,b<s2.heap.objs.size:=λb hb=>by obtain ⟨o,eo,_⟩:=T.obj 0 _ DJ b hb;exact dU eo
 have Bh:∀b∈fp,b≠s2.heap.objs.size:=λb hb=>fg (GN b hb)
 have Hy:∀b∈fp,∃o,H3.get? b=some o:=λb hb=>by obtain ⟨o,eo,_⟩:=T.obj 0 _ DJ b hb;exact ⟨o,G6 b o eo⟩
 have R2:=R.grow rS
 obtain ⟨lc,ls,cg⟩:=YN R2 e3
 generalize p6:Bt X N' c7 (s2.heap.objs.size::fp) { s2 with heap:=H3 } H2=X'
 have I4:∀t,Inv X' [] (nv nt none++g0 caps σ) H2 { s2 with heap:=h₁,toks:=t }:=λt=>by
  rw [<-p6]
  exact b17 (s3:={ s2 with heap:=H3 }) (s4:={ s2 with heap:=h₁,toks:=t }) C h.sc h.n h.calm I2 I3 f2 Hy hsz rfl rfl KE (by simpa using qL)
 have hP:X'.prog=X.prog:=by rw [<-p6];rfl
 have hW:X'.w=X.w:=by rw [<-p6];rfl
 have hK:X'.K=X.K:=by rw [<-p6];rfl
 have hE:X'.env=compEnvC c7 (jm X.env.cells c7.names []) H3.objs.size X.env:=by rw [<-p6];rfl
 have hA:X'.A=X.A:=by rw [<-p6];rfl
 have hx:X'.xe=λ_ _=>False:=by rw [<-p6];rfl
 have Pp:X'.calm=true:=by rw [<-p6];rfl
 have hbd:=hb X' hP hW hK (by rw [<-p6];rfl) (by rw [<-p6];rfl) ⟨by rw [<-p6];rfl,by rw [hE];show rl c7 X.env.scope=_;rw [h.sc],Pp,λz=>(nomatch z),by rw [hx];exact AN,by rw [hA];exact h.room,C.nd,λz=>(nomatch z)⟩
 obtain ⟨⟨yR,pg,kg⟩,⟨tc,pc,kc⟩,te,pe,ke⟩:=hbd
 have PN:∀{H':Hp} {pl:List (Addr×Obj)},(∀b∈fp,H' b=none)->(∀p∈pl,∀b∈fp,p.1≠b)->∀b∈fp,lB X' pl H' b:=λ{H' pl} hn fm b hb=>by
  obtain ⟨_,g1,g2,g3,g4,g5⟩:=f2 b hb
  rw [<-p6]
  refine ⟨hn b hb,fg (n5 (GN b hb) (by show s2.heap.objs.size<=H3.objs.size;rw [hsz];exact zr _)),λz=>?_,.inl (gn _ hb),λx c e=>g4 x c (BH C h.sc I2 e),λp hp=>fm p (by simpa [Bt] using hp) b hb⟩
  rcases cL.mp (I2.ig b z) with z | z
  .exact g1 z
  .exact g2 z
 have R0:Rel X'.K (OO O σ env) H2 (nv nt none++g0 caps σ) H2 (nv nt Sl.no++cs):=by
  have qE:∀(i:Nat) (es:Sl),(nv nt Sl.no++cs)[i]?=some es->es.own->False:=λi es e o=>by
   rcases Mp e with z | ⟨_,z⟩
   .cases z;exact o
   .obtain ⟨d,_,_,z,_⟩:=cg _ _ z
    cases z;exact o
  have AW:∀p,¬oN (nv nt none++g0 caps σ) (nv nt Sl.no++cs) p:=λp ⟨i,es,e,o,_⟩=>qE i es e o
  rw [hK]
  refine ⟨az.refl _,R2.dm,by simp [lc,ls],λi d e=>?_,λi es e=>(qE i _ e trivial).elim,λi es e=>(qE i _ e trivial).elim,λi ks es e=>(qE i _ e trivial).elim,λi j es fs p e _ _ _ o=>(qE i es e o).elim⟩
  rcases Mp e with z | ⟨hi,z⟩
  .cases z
  .obtain ⟨d',v,i',z1,z2,z3,_⟩:=cg _ _ z
   cases z1
   refine ⟨v,?_,z3.less λp hp=>hp.elim id λz=>(AW p z).elim⟩
   rw [Rf (by simpa using hi),LJ]
   exact z2
 have loop:∀t,codeAny (model X.prog X.w) X.A (.compLoop (.ListComp elt [⟨tg,iter,ifs,0⟩] c7 pos) 0 (.ref it) (.ref s2.heap.objs.size) (compEnvC c7 (jm X.env.cells c7.names []) H3.objs.size X.env))
   (compPost (model X.prog X.w) X.A X.xe use QQ (.ref s2.heap.objs.size) H3.objs.size) { s2 with heap:=h₁,toks:=t }:=λt=>by
  refine a8M (N:=λ_ _=>False) (λn s'=>∃(i:Nat) (aG:L2.St) (H':Hp) (ag:En) (ys:List Value) (xs:List V) (Bf Kw:List D),n=ds.length-i/\i<=ds.length/\Inv X' [] aG H' s'/\tn i s'.heap/\(∀b∈fp,H' b=none)/\H' s2.heap.objs.size=none /\
    s'.heap.PlainList s2.heap.objs.size ys.toArray/\aL xs ys/\Rel X'.K (OO O σ env) H2 aG H' ag/\Gd (nv nt none++g0 caps σ) (nv nt Sl.no++cs) H2 aG ag H' /\
    aQ X'.K (OO (OO O σ env) aG ag) H' xs Bf/\oH g fc fe (ds.drop i) ag=some Kw/\Bf++Kw=rs/\Bf.length<=i) (λ_ _ z=>z) ?_ ds.length
   ⟨0,_,H2,_,[],[],[],rs,by simp,uB _,I4 t,T.keep _ _ _ DJ (λb _ o e=>KE b o (G6 b o e)),λb hb=>(f2 b hb).1,I2.bg.fresh (cw _),⟨_,KE _ _ (by rw [<-PD];exact jx _ rfl)⟩,.nil,R0,Gd.refl (az.refl _),.nil,by simpa using e5,rfl,cw _⟩
  rintro n s3 ⟨i,mG,FF,iZ,ys,xs,Bf,Kw,rfl,hi,J3,F',HP,ha3,Vi,vx,R3,VY,Ha,Iq,KH,hr1⟩
  have Gs:Inv X' (AY [s2.heap.objs.size] s3.heap) mG FF s3:=by
   refine J3.jL λp hp=>?_
   obtain ⟨hb,e⟩:=Te hp
   have hb:p.1=s2.heap.objs.size:=by simpa using hb
   obtain ⟨n,en⟩:=Vi
   rw [hb,en] at e
   refine ⟨by rw [hb,en];exact e,by rw [hb];exact ha3,?_,λz=>?_,λv z=>?_⟩
   .rw [hb,hE]
    show s2.heap.objs.size≠H3.objs.size
    rw [hsz]
    exact fg (oG _)
   .rw [hb,<-p6] at z
    obtain ⟨_,o,ho,_⟩:=I2.stack.mem z
    exact absurd (dU ho) (yx _)
   .rw [<-gp e] at z;cases z
  have apart:∀p∈AY [s2.heap.objs.size] s3.heap,∀b∈fp,p.1≠b:=λp hp b hb z=>by
   have e:p.1=s2.heap.objs.size:=by simpa using (Te hp).1
   exact Bh b hb (z.symm.trans e)
  have yD:∀{pl:List (Addr×Obj)} {aG:L2.St} {H':Hp} {s':Shared},Inv X' pl aG H' s'->(∀p∈AY [s2.heap.objs.size] s3.heap,p∈pl)->s'.heap.PlainList s2.heap.objs.size ys.toArray/\H' s2.heap.objs.size=none:=λ{pl aG H' s'} J ue=>by
   obtain ⟨n,en⟩:=Vi
   obtain ⟨q1,q2,_⟩:=J.pin _ (mD _ (ue _ (JQ (fp:=[s2.heap.objs.size]) (by simp) en)))
   exact ⟨⟨n,q1⟩,q2⟩
  have w:=wk (OO (OO O σ env) mG iZ) FF (λa u ea na=>by
   obtain ⟨h1,h2⟩:=VY a u ea λ⟨i,es,e,o,_⟩=>by
    rcases Mp e with z | ⟨_,z⟩
    .cases z;exact o
    .obtain ⟨d,_,_,z,_⟩:=cg _ _ z
     cases z;exact o
   exact ⟨h1,λz=>z.elim na h2⟩) (λa=>R3.oo) i
  by_cases fu:i<ds.length
  .obtain ⟨go,yl⟩:=w.1 ds[i] (by simp [fu])
   have pk:ds.drop i=ds[i]::ds.drop (i+1):=IW fu
   rw [pk,oH] at Iq
   obtain ⟨fX,c1,c2⟩:=bind_some Iq
   obtain ⟨b,c2,c3⟩:=bind_some c2
   have ti:=T.item X' hP hW hK Pp i _ s3 mG FF (λ_ _=>False) Gs (PN HP apart) F' go
   rw [hA] at ti
   refine bJ ti λr s4 ⟨u,hr,h4⟩=>?_
   subst hr
   refine bJ h4 λ_ s5 ⟨x,H5,I5,r5,y5,B2,PM⟩=>?_
   obtain ⟨Ob,hx5⟩:=yl x H5 y5
   have Uv:=I5.pinned (PN PM apart) (T.obj _ _ B2)
   have Bm:∀{aG:L2.St} {H':Hp} {s':Shared},Inv X' (AY [s2.heap.objs.size] s3.heap++AY fp s5.heap) aG H' s'->tn (i+1) s'.heap/\∀b∈fp,H' b=none:=λ{aG H' s'} J=>by
    refine ⟨T.keep _ _ _ B2 λb hb o e=>(J.pin (b,o) (mD _ (mD _ (JQ hb e)))).1,λb hb=>?_⟩
    obtain ⟨o,e,_⟩:=T.obj _ _ B2 b hb
    exact (J.pin (b,o) (mD _ (mD _ (JQ hb e)))).2.1
   have Vk:=pg _ s5 mG H5 x u _ Uv r5 (kg (OO O σ env) H2 mG H5 iZ fX x ds[i] (λpW H6=>Rel X'.K (OO O σ env) H2 pW H6 fX/\Gd mG iZ H5 pW fX H6) (R3.grow Ob) (hK▸hx5) c1 λpW H6 R6 g6=>⟨R6,g6⟩)
   rw [hP,hW,hA,hE,hx] at Vk
   refine bJ Vk λ_ s6 ⟨pW,H6,I6,R6,g6⟩=>?_
   have Vm:=pc _ s6 pW H6 (λb' H'=>b'=b/\az H6 H') I6 (kc (OO O σ env) H2 pW H6 fX b _ R6 c2 λH' s'=>⟨rfl,s'⟩)
   rw [hP,hW,hA,hE,hx] at Vm
   refine bJ Vm λok s7 ⟨H7,I7,bg,Oa⟩=>?_
   subst bg
   have R7:=R6.grow Oa
   have VX:=VY.trans ((Gd.refl Ob).trans (g6.trans (Gd.refl Oa)))
   have Vy:aQ X'.K (OO (OO O σ env) pW fX) H7 xs Bf:=((Gd.refl Ob).trans (g6.trans (Gd.refl Oa))).G9 Ha
   cases ok with
   | false =>
    rw [if_neg wj] at c3 ⊢
    obtain ⟨st7,fr7⟩:=Bm I7
    obtain ⟨pl7,ha7⟩:=yD I7 λp hp=>mC _ hp
    exact ⟨ds.length-(i+1),by omega,i+1,pW,H7,fX,ys,xs,Bf,Kw,rfl,fu,I7.jL (λ_ z=>nomatch z),st7,fr7,ha7,pl7,vx,R7,VX,Vy,c3,KH,by omega⟩
   | true =>
    rw [if_pos rfl] at c3 ⊢
    obtain ⟨r,d3,d4⟩:=bind_some c3
    obtain ⟨rs3,d5,d6⟩:=bind_some d4
    clear c3 d4 Iq
    obtain rfl:=gp d6
    have Vl:=pe _ s7 pW H7 (λv H'=>az H7 H'/\Is X'.K (OO (OO O σ env) pW fX) H' v r.d) I7 (ke (OO O σ env) H2 pW H7 fX r _ R7 d3 λv H' s' rr=>⟨s',rr.is λp=>R7.oo⟩)
    rw [hP,hW,hA,hE,hx] at Vl
    refine bJ Vl λy s8 ⟨v,H8,I8,ry,N9,hv⟩=>?_
    obtain ⟨st8,fr8⟩:=Bm I8
    obtain ⟨pl8,VR⟩:=yD I8 λp hp=>mC _ hp
    have hyl:ys.length=Bf.length:=by rw [<-b2i vx,Ha.length]
    refine wpAny_list_append_plain (hsz:=by rw [gh,hyl,lr];omega) pl8 λh' pl9 Ve=>?_
    have J8:Inv X' [] pW H8 s8:=I8.jL λ_ z=>nomatch z
    have J9:Inv X' [] pW H8 { s8 with heap:=h' }:=J8.turned (t':=s8.toks) (it:=s2.heap.objs.size) (λb o hb e=>(Ve.2 b hb).trans e) VR
     (by rw [hE];show s2.heap.objs.size≠H3.objs.size;rw [hsz];exact fg (oG _)) (.inl (by rw [<-p6];exact gi))
     (λx c e=>by
      rw [hE] at e
      obtain ⟨_,z⟩:=I2.cell x c (BH C h.sc I2 e)
      exact fg z.lt) (λp hp=>by rw [<-p6] at hp;exact absurd hp (by simp [Bt]))
    refine ⟨ds.length-(i+1),by omega,i+1,pW,H8,fX,ys++[y],xs++[v],Bf++[r.d],rs3,rfl,fu,J9,T.keep _ _ _ st8 λb hb o e=>(Ve.2 b (Bh b hb)).trans e,fr8,VR,by simpa using pl9,vx.append (.cons ry .nil),R7.grow N9,VX.trans (Gd.refl N9),(Vy.grow N9).append (.cons hv .nil),d5,by rw [<-KH];simp,by simp;omega⟩
  .have Hs:i=ds.length:=by omega
   have td:=T.done X' hP hW hK Pp i _ s3 mG FF (λ_ _=>False) Gs (PN HP apart) F' (w.2 (by omega))
   rw [hA] at td
   refine bJ td λr s4 ⟨hr,Kg⟩=>?_
   subst hr
   obtain ⟨pl4,Pw⟩:=yD Kg λp hp=>hp
   rw [IX (by omega),oH] at Iq
   obtain rfl:=gp Iq
   rw [yu] at KH
   subst KH
   obtain ⟨m4,VD,_⟩:=Kg.loc
   rw [hE] at VD
   obtain ⟨n4,en4⟩:=pl4
   rw [<-p6] at Kg
   have VP:H2 s2.heap.objs.size=none:=I2.bg.fresh (cw _)
   have VG:s2.heap.objs.size<=H3.objs.size:=by rw [hsz];exact zr _
   have hC0:FF H3.objs.size=none:=Kg.free
   have mz:H3.objs.size≠s2.heap.objs.size:=by rw [hsz];exact Nat.succ_ne_self _
   refine fin H3.objs.size s2.heap.objs.size (upd FF s2.heap.objs.size (.lst xs)) s4 ⟨m4,VD⟩ (I2.pA VG (by rw [dW mz];exact hC0)) (λh' sb=>b16 (s3:={ s2 with heap:=H3 }) (ys:=ys) I2 rfl G6 hsz f2 Kg sb Pw ⟨n4,en4⟩ vx (by rw [Ha.length,lr];omega)) ?_ ⟨_,xs,rfl,rS.free VP,kn,?_⟩
   .intro b o e
    have e2:=rS b o e
    rw [dW (pO e2 VP)]
    exact R3.same b o e2
   .rw [hK] at Ha
    refine Ha.map (λp hp hn z=>hn (.inl (z.elim id λz=>?_))) λp u e _=>by rw [dW (pO e Pw)];exact e
    rw [z,Pw] at hp
    exact (hp rfl).elim
 exact codeAny_compStart_list (loop _) (T.self _ 0 _ _ _ (T.keep _ _ _ DJ (λb _ o e=>KE b o (G6 b o e))) (loop _))
theorem yL(h:Fx X N sc k full)(C:dO N sc N' caps nt c7)(hi:IV X tg iter fi)
  (hb:∀X':Cx,X'.prog=X.prog->X'.w=X.w->X'.K=X.K->X'.mg=X.mg->X'.base=X.base->Fx X' N' (rl c7 sc) k false->GV X' tg g/\FE X' ifs fc/\EV X' elt fe)
  (zc:∀x,foldedSetIterable iter X.env x=pure x:=by intro _;rfl):EV X (.ListComp elt [⟨tg,iter,ifs,0⟩] c7 pos) (gS fi caps nt g fc fe):=by
 obtain ⟨wi,pi,ki⟩:=hi
 refine ⟨λσ H Q=>∃O B env r,Rel X.K O B σ H env/\gS fi caps nt g fc fe env=some r/\∀v H',az H H'->Res X.K (OO O σ env) H H' v r->Q v H',?_,λO B σ H env r Q R e q=>⟨O,B,env,r,R,e,q⟩⟩
 rintro pins s σ H Q I ⟨O,B,env,r,R,e,q⟩
 rw [eval_ListComp]
 exact Tn h C pi ki hb zc I R e (use:=none) λC0 p H' s' ⟨m,hn⟩ _ hI sm rr=>⟨m,hn,λh' sb=>⟨.ref p,H',hI h' sb,rfl,q _ H' sm rr⟩⟩
theorem YR{i:Nat}{x:Str}{pos' w5:Pos}(b:Bool)(h:Fx X N sc k full)(C:dO N sc N' caps nt c7)(hi:IV X tg iter fi)
  (hb:∀X':Cx,X'.prog=X.prog->X'.w=X.w->X'.K=X.K->X'.mg=X.mg->X'.base=X.base->Fx X' N' (rl c7 sc) k false->GV X' tg g/\FE X' ifs fc/\EV X' elt fe)
  (hN:N[i]?=some x:=by rfl)(hv:Loc sc x:=by first | exact cK rfl | exact bL rfl)(hf:full=true\/sc.names.lookup x=some .local:=by first | exact cK rfl | exact bL rfl)(h1:(sc.names.lookup x==some .local)=true:=by rfl)(h2:(pos'.line==pos.line)=true:=by rfl)(h3:(c7.names.any λ(n,k)=>n==x&&(k==.local||k==.cell))=false:=by rfl)
  (zc:∀x,foldedSetIterable iter X.env x=pure x:=by intro _;rfl):SV X (.Assign [.Name x pos'] (.ListComp elt [⟨tg,iter,ifs,0⟩] c7 pos) w5) (bif b then kz i (gS fi caps nt g fc fe) else dM i (gS fi caps nt g fc fe)):=by
 obtain ⟨wi,pi,ki⟩:=hi
 refine ⟨λD σ H=>∃O B env fl ag,Rel X.K O B σ H env/\(bif b then kz i (gS fi caps nt g fc fe) else dM i (gS fi caps nt g fc fe)) env=some (fl,ag)/\fF X.K O B σ H env D fl ag,?_,λO B σ H env fl ag D R e q=>⟨O,B,env,fl,ag,R,e,q⟩⟩
 rintro pins s σ H D I ⟨O,B,env,fl,ag,R,e,q⟩
 obtain ⟨r,e1,hl,VI,t,rfl,ht⟩:∃r,gS fi caps nt g fc fe env=some r/\i<env.length/\fl=.nx/\∃t,ag=env.set i t/\(t=r\/t=.sh r.d):=by
  cases b with
  | true =>
   dsimp only [cond] at e
   obtain ⟨r,e1,e2⟩:=bind_some e
   obtain ⟨hl,e3⟩:=jg e2
   cases e3
   exact ⟨r,e1,hl,rfl,_,rfl,.inl rfl⟩
  | false =>
   dsimp only [cond] at e
   obtain ⟨r,e1,e2⟩:=bind_some e
   obtain ⟨hl,e3⟩:=jg e2
   cases e3
   exact ⟨r,e1,hl,rfl,_,rfl,.inr rfl⟩
 subst VI
 have hs:swapsWith (.ListComp elt [⟨tg,iter,ifs,0⟩] c7 pos) (some (.Name x pos')) w5.line X.env=pure true:=by
  have hk:X.env.blockKind=.function:=by unfold Env.blockKind;rw [I.ok.kind];rfl
  have Pj:X.env.kindOf x=sc.names.lookup x:=by unfold Iy;rw [h.sc]
  unfold swapsWith
  dsimp only
  rw [hk,Pj,h1,show (pos'.line==(Expr.ListComp elt [⟨tg,iter,ifs,0⟩] c7 pos).pos.line)=true from h2,h3]
  rfl
 rw [exec_Assign_Name_used _ _ _ _ hs]
 refine aF (Lb (aF ?_))
 show wpAny _ _ (comprehension _ c7 X.env _ (newList []) _ _ (some (assign (.Name x pos') X.env)) >>= λ_=>pure ()) _ _ _
 refine aF (Tn h C pi ki hb zc I R e1 (use:=some (assign (.Name x pos') X.env)) λC0 p H' s' ⟨m,hn⟩ p5 hI sm rr=>?_)
 have I':Inv X pins σ H' s':=hI s'.heap (Qu _ _)
 refine Qz (TL (v:=.ref p) I' h.xJ (h.ix hN) (h.loc hv) rfl (λs2 I2 ⟨a,sb,ha⟩=>?_) (h.DH hf))
 have Pu:C0≠a:=λz=>by
  rcases ha with ha | ha
  .exact p5.2.1 (z.trans ha)
  .exact p5.2.2.2.2.1 x a ha z.symm
 obtain ⟨o,es,ep,ho,rest⟩:=hn
 refine ⟨m,⟨o,es,ep,(sb.2 C0 Pu).trans ho,rest⟩,λh' N7=>?_⟩
 refine bG (bG ?_)
 have I3:Inv X pins (σ.set i (some (.ref p))) H' { s2 with heap:=h' }:=I2.turned (t':=s2.toks) (it:=C0) (λb o hb e=>(N7.2 b hb).trans e) p5.1 p5.2.1 p5.2.2.2.1 p5.2.2.2.2.1 p5.2.2.2.2.2
 have hr:Res X.K (OO O σ env) H H' (.ref p) t:=by
  rcases ht with rfl | rfl
  .exact rr
  .exact rr.is λq=>R.oo
 obtain ⟨R',g'⟩:=R.set sm hr hl
 exact ⟨_,H',I3,q _ H' R' g'⟩
end
end DL
namespace DL
open PySem PySem.Spec PyProof.Rows L2
section
variable {X:Cx}{pins:List (Addr×Obj)}{σ:L2.St}{H:Hp}{s:Shared}
theorem b2v(I:Inv X pins σ H s)(hA:A'.handled=none)(hq:Sq X.K H k p xs)
  (h:∀(aw:List Value) (h2:Heap) (St:Nat->Heap->Prop),aL xs aw->Walks X.prog X.w A' s.heap.objs.size [s.heap.objs.size,p] [s.heap.objs.size] aw.length (λi v=>aw[i]?=some v) St->St 0 h2 ->
   (∀b o,s.heap.get? b=some o->h2.get? b=some o)->(∀b∈[s.heap.objs.size,p],b<h2.objs.size)->Q (.ref s.heap.objs.size) { s with heap:=h2 }):wpAny (model X.prog X.w) A' (pyIter (.ref p)) Q E s:=by
 cases k with
 | true =>
  obtain ⟨aw,rv,pl,hz⟩:=I.list (show ic X.K H p xs from hq)
  have fu:p<s.heap.objs.size:=by obtain ⟨o,n,e,_⟩:=pl;exact dU e
  refine Lj pl.isList ?_
  have W:=Qj (prog:=X.prog) (w:=X.w) hA s.heap.objs.size p (fg fu) aw.toArray
  refine h aw _ (λi h=>h.IsListIter s.heap.objs.size p i/\h.IsList p aw.toArray) rv (by simpa using W) ⟨⟨_,jx _ rfl,rfl,rfl⟩,pl.isList.push _⟩ (λb o e=>dY _ e) λb hb=>?_
  rw [n8]
  rcases cL.mp hb with rfl | hb
  .exact oG _
  .rw [je.mp hb];exact we fu
 | false =>
  obtain ⟨aw,rv,pl,hz⟩:=I.tuple (show jZ X.K H p xs from hq)
  have cu:s.heap.IsTuple p aw.toArray:=pl
  have fu:p<s.heap.objs.size:=by obtain ⟨o,e,_⟩:=pl;exact dU e
  refine wpAny_pyIter_tuple cu ?_
  have W:=Walks.tuple (prog:=X.prog) (w:=X.w) hA s.heap.objs.size p (fg fu) aw.toArray
  refine h aw _ (λi h=>h.IsTupleIter s.heap.objs.size p i/\h.IsTuple p aw.toArray) rv (by simpa using W) ⟨⟨_,jx _ rfl,rfl,rfl⟩,?_⟩ (λb o e=>dY _ e) λb hb=>?_
  .obtain ⟨o,e,r⟩:=cu
   exact ⟨o,dY _ e,r⟩
  .rw [n8]
   rcases cL.mp hb with rfl | hb
   .exact oG _
   .rw [je.mp hb];exact we fu
theorem b0g(I:Inv X pins σ H s){h2 h':Heap}{tk:Nat}(k1:∀b o,s.heap.get? b=some o->h2.get? b=some o)(k2:∀b o,b∉[s.heap.objs.size]->h2.get? b=some o->h'.get? b=some o):Inv X pins σ H { s with heap:=h',toks:=tk }:=
 I.kept λb o e=>k2 b o (λz=>absurd (dU e) (by rw [je.mp z];exact yx _)) (k1 b o e)
end
noncomputable def wF:List D->Option (List Int)
 | []=>some []
 | .int i::ds=>(wF ds).map (i::·)
 | _::_=>none
noncomputable def jU:List D->Option (List Bool)
 | []=>some []
 | .bl i::ds=>(jU ds).map (i::·)
 | _::_=>none
theorem ZW:∀(ns:List Int),wF (ns.map D.int)=some ns
 | []=>rfl
 | n::r=>by rw [fE,wF,ZW r];rfl
theorem Y8:∀(ns:List Bool),jU (ns.map D.bl)=some ns
 | []=>rfl
 | n::r=>by rw [fE,jU,Y8 r];rfl
theorem a55:∀{ds:List D} {ns:List Int},wF ds=some ns->ds=ns.map D.int
 | [],ns,e=>by cases e;rfl
 | .int i::ds,ns,e=>by
  obtain ⟨r,e1,rfl⟩:=map_some (show (wF ds).map (i::·)=some ns from e)
  rw [a55 e1];rfl
 | .cj::_,_,e=>by cases e
 | .bl _::_,_,e=>by cases e
 | .str _::_,_,e=>by cases e
 | .tup _::_,_,e=>by cases e
 | .lst _ _::_,_,e=>by cases e
theorem ZS:∀{ds:List D} {ns:List Bool},jU ds=some ns->ds=ns.map D.bl
 | [],ns,e=>by cases e;rfl
 | .bl i::ds,ns,e=>by
  obtain ⟨r,e1,rfl⟩:=map_some (show (jU ds).map (i::·)=some ns from e)
  rw [ZS e1];rfl
 | .cj::_,_,e=>by cases e
 | .int _::_,_,e=>by cases e
 | .str _::_,_,e=>by cases e
 | .tup _::_,_,e=>by cases e
 | .lst _ _::_,_,e=>by cases e
theorem ZE{K:aK}{O:Addr->Prop}{H:Hp}:∀{xs:List V} {ns:List Int},aQ K O H xs (ns.map D.int)->xs=ns.map V.int
 | _,[],.nil=>rfl
 | _,n::r,.cons h t=>by rw [rq h,ZE t];rfl
theorem Zg{K:aK}{O:Addr->Prop}{H:Hp}:∀{xs:List V} {ns:List Bool},aQ K O H xs (ns.map D.bl)->xs=ns.map V.bl
 | _,[],.nil=>rfl
 | _,n::r,.cons h t=>by rw [Dg h,Zg t];rfl
theorem b4J{ns:List Bool}(r:aL (ns.map V.bl) aw){i:Nat}(h:aw[i]?=some v):v=.bool (ns.getD i false):=by
 have hl:=r.length
 have hi:=(pH.mp h).1
 have mP:i<ns.length:=by rw [bY] at hl;omega
 obtain ⟨u,hu,ru⟩:=r.get (show (ns.map V.bl)[i]?=some (.bl ns[i]) by simp [mP])
 rw [h] at hu
 cases hu
 obtain rfl:v=qa ns[i]:=ru
 simp [mP]
section
variable {X:Cx}{a:Expr}{p pos:Pos}{ba:En->Option (Bool×List D)}
theorem ZL(ns:List Bool):(fx ns.length).all (λi=>ns.getD i false)=ns.all id:=by
 rw [IB,QL,QL]
 constructor
 .intro h x hx
  obtain ⟨i,hi,rfl⟩:=Eu.mp hx
  have:=h i (p9.mpr hi)
  simpa [hi] using this
 .intro h i hi
  have hi:=p9.mp hi
  have:=h ns[i] (oF hi)
  simpa [hi] using this
theorem b15(hc:X.calm=true):wC X (.builtin "all") (λxs H Q=>∃p k ns,xs=[.ref p]/\Sq X.K H k p (uz V.bl ns)/\Q (.bl (ns.all id)) H):=by
 intro pins s σ H xs us Q I r h
 obtain ⟨p,k,ns,rfl,hq,q⟩:=h
 obtain ⟨u,rfl,ru⟩:=r.one
 cases ru
 refine call_all_walk (b2v (A':=X.A.in1) I (I.ok.hd hc) hq λaw h2 St rv W st0 k1 p5=>?_)
 refine ⟨_,_,_,_,_,_,λi=>ns.getD i false,rfl,W,st0,λi v s Q E hP hQ=>?_,λh' tk hk=>?_⟩
 .rw [b4J rv hP]
  exact Ef hQ
 .have hl:aw.length=ns.length:=by rw [<-rv.length];simp
  rw [hl,ZL]
  exact ⟨.bl _,H,b0g I k1 hk,rfl,q⟩
noncomputable def AG(f:En->Option (Bool×List D)):En->Option Sl:=λenv=>(f env).bind λx=>(jU x.2).map λns=>.sh (.bl (ns.all id))
theorem b8B(hg:Gl X "all")(hm:X.mg "all" = none)(hc:X.calm=true)(ha:BV X a ba)(hs:starEach [a] X.env=[(false,eval a X.env)]:=by rfl):EV X (.Call (.Name "all" p) [a] [] pos) (AG ba):=by
 obtain ⟨t,pt,k⟩:=ha
 refine ⟨_,BK (b15 hc) hg hm (by decide +kernel) (kY pt mV hs) (by decide) (by decide) hs rfl,λO B σ H env s Q R e q=>?_⟩
 obtain ⟨⟨kk,ds⟩,e1,e2⟩:=bind_some e
 obtain ⟨ns,e3,rfl⟩:=map_some e2
 have V4:=ZS e3
 dsimp only at V4
 subst V4
 refine k O B σ H env kk _ _ R e1 λl xs H1 s1 hq hx=>⟨l,kk,ns,rfl,?_,q _ H1 s1 (Is.bl _)⟩
 rw [<-Zg hx];exact hq
end
end DL
namespace DL
open PySem PySem.Spec PyProof.Rows L2
noncomputable def kE:List (Option Bool)->Option (List Bool)
 | []=>some []
 | some b::r=>(kE r).map (b::·)
 | none::_=>none
noncomputable def bF:Nat->D->D->Option Bool
 | _,.int i,.int j=>some (decide (i=j))
 | _,.bl i,.bl j=>some (decide (i=j))
 | _,.str i,.str j=>some (decide (i=j))
 | _,.cj,.cj=>some true
 | _,.bl i,.int j=>some (decide ((if i then 1 else 0)=j))
 | _,.int i,.bl j=>some (decide (i=(if j then 1 else 0)))
 | n+1,.tup a,.tup b=>(kE (D7 (bF n) a b)).map λbs=>bs.all id&&decide (a.length=b.length)
 | n+1,.lst _ a,.lst _ b=>if a.length=b.length then (kE (D7 (bF n) a b)).map λbs=>bs.all id else some false
 | 0,.tup _,.tup _=>none
 | 0,.lst _ _,.lst _ _=>none
 | _,.exc _,_=>none
 | _,_,.exc _=>none
 | _,.mm _ _,_=>none
 | _,.obj _ _ _,_=>none
 | _,.i0 _ _,_=>none
 | _,.bw _ _,_=>none
 | _,_,.mm _ _=>none
 | _,_,.obj _ _ _=>none
 | _,_,.i0 _ _=>none
 | _,_,.bw _ _=>none
 | _,_,_=>some false
theorem E7:∀{os:List (Option Bool)} {bs:List Bool},kE os=some bs->os.length=bs.length/\∀(i:Nat) (b:Bool),bs[i]?=some b->os[i]?=some (some b)
 | [],bs,e=>by cases e;exact ⟨rfl,λi b h=>by simp at h⟩
 | some b::r,bs,e=>by
  obtain ⟨bs',e1,rfl⟩:=map_some (show (kE r).map (b::·)=some bs from e)
  obtain ⟨l,ih⟩:=E7 e1
  refine ⟨by simp [l],λi c h=>?_⟩
  cases i with
  | zero=>simpa using h
  | succ i=>simpa using ih i c (by simpa using h)
 | none::_,bs,e=>by cases e
theorem all_range{bs:List Bool}{n:Nat}(h:bs.length=n):(fx n).all (λi=>bs.getD i false)=bs.all id:=by rw [<-h];exact ZL bs
section
variable {X:Cx}{pins:List (Addr×Obj)}{σ:L2.St}{H:Hp}{s:Shared}{O O':Addr->Prop}
noncomputable def Kf(K:aK)(O:Addr->Prop)(H:Hp)(v:V):D->Prop
 | .cj=>v=.cj
 | .bl b=>v=.bl b
 | .int i=>v=.int i
 | .str x=>v=.str x
 | .tup ds=>∃p xs,v=.ref p/\jZ K H p xs/\aQ K O H xs ds
 | .lst _ ds=>∃p xs,v=.ref p/\ic K H p xs/\aQ K O H xs ds
 | .exc _=>True
 | .mm _ _=>True
 | .obj _ _ _=>True
 | .i0 _ _=>True
 | .bw _ _=>True
theorem Is.vJ{K:aK}{v:V}{d:D}(h:Is K O H v d):Kf K O H v d:=by
 cases d with
 | cj=>exact b8i h
 | bl b=>exact Dg h
 | int i=>exact rq h
 | str x=>exact oJ h
 | tup ds=>exact Jz h
 | lst r ds =>
  obtain ⟨p,xs,e,h1,h2⟩:=h.seq (k:=true) (ds:=ds) rfl
  exact ⟨p,xs,e,h1,h2⟩
 | exc n=>trivial
 | mm n m=>trivial
 | obj n1 m1 o1=>trivial
 | i0 n1 m1=>trivial
 | bw n1 m1=>trivial
theorem MH(I:Inv X pins σ H s)(h:jZ X.K H p xs)(h':ic X.K H p ys):False:=by
 obtain ⟨_,_,⟨o,e1,c1,_⟩,_⟩:=I.tuple h
 obtain ⟨_,_,⟨o',_,e2,c2,_⟩,_⟩:=I.list h'
 rw [e1] at e2
 cases e2
 rw [c1] at c2
 injection c2 with c3
 exact absurd c3 (by decide)
theorem zip_get{n:Nat}{i:Nat}{o:Option Bool}(h:(D7 (bF n) a b)[i]?=some o):∃x y,a[i]?=some x/\b[i]?=some y/\bF n x y=o:=by
 rw [Wz] at h
 cases ha:a[i]? with
 | none=>rw [ha] at h;simp at h
 | some x =>
  cases hb:b[i]? with
  | none=>rw [ha,hb] at h;simp at h
  | some y=>rw [ha,hb] at h;exact ⟨x,y,rfl,rfl,by simpa using h⟩
theorem Zd(I:Inv X pins σ H s):∀(n:Nat) {v:V} {d d':D} {b:Bool},Is X.K O H v d->Is X.K O' H v d'->bF n d d'=some b->b=true:=by
 intro n
 induction n with
 | zero =>
  intro v d d' b h h' e
  have h:=h.vJ
  have h':=h'.vJ
  cases d<;>cases d'<;>simp only [Kf] at h h'<;>simp only [bF,gP,reduceCtorEq] at e<;>first
   | (subst h;cases h';exact e.symm)
   | (subst h;cases h';rw [<-e];simp;done)
   | (subst h;cases h';done)
   | (subst h;obtain ⟨_,_,h',_⟩:=h';cases h';done)
   | (subst h';obtain ⟨_,_,h,_⟩:=h;cases h;done)
   | (obtain ⟨_,_,rfl,h,_⟩:=h;obtain ⟨_,_,hr,h',_⟩:=h';cases hr;first | exact (MH I h h').elim | exact (MH I h' h).elim)
 | succ n ih =>
  intro v d d' b h h' e
  have key:∀{xs:List V} {ds ds':List D} {bs:List Bool},aQ X.K O H xs ds->aQ X.K O' H xs ds'->kE (D7 (bF n) ds ds')=some bs->bs.all id=true:=λ{xs ds ds' bs} a1 a2 ea=>by
   obtain ⟨_,g⟩:=E7 ea
   rw [QL]
   intro c hc
   obtain ⟨i,hi,rfl⟩:=Eu.mp hc
   obtain ⟨x,y,ex,ey,exy⟩:=zip_get (g i _ (iP hi))
   obtain ⟨z,ez,iz⟩:=a1.get ex
   obtain ⟨z',V2,iz'⟩:=a2.get ey
   rw [ez] at V2
   cases V2
   exact ih iz iz' exy
  have h:=h.vJ
  have h':=h'.vJ
  cases d<;>cases d'<;>simp only [Kf] at h h'<;>simp only [bF,gP,reduceCtorEq] at e<;>first
   | (subst h;cases h';exact e.symm)
   | (subst h;cases h';rw [<-e];simp;done)
   | (subst h;cases h';done)
   | (subst h;obtain ⟨_,_,h',_⟩:=h';cases h';done)
   | (subst h';obtain ⟨_,_,h,_⟩:=h;cases h;done)
   | (obtain ⟨_,_,rfl,h,_⟩:=h;obtain ⟨_,_,hr,h',_⟩:=h';cases hr;first | exact (MH I h h').elim | exact (MH I h' h).elim)
   | skip
  .obtain ⟨_,xs,rfl,h,a1⟩:=h
   obtain ⟨_,ys,hr,h',a2⟩:=h'
   cases hr
   cases I.m8 h h'
   obtain ⟨bs,e1,rfl⟩:=map_some e
   rw [key a1 a2 e1,<-a1.length,<-a2.length]
   simp
  .obtain ⟨_,xs,rfl,h,a1⟩:=h
   obtain ⟨_,ys,hr,h',a2⟩:=h'
   cases hr
   cases I.o5 h h'
   rw [if_pos (by rw [<-a1.length,<-a2.length])] at e
   obtain ⟨bs,e1,rfl⟩:=map_some e
   exact key a1 a2 e1
theorem YV{xs:List V}{aw:List Value}{O:Addr->Prop}{K:aK}{ds:List D}(r:aL xs aw)(a:aQ K O H xs ds){j:Nat}(h:j<aw.toArray.size):∃d v,ds[j]?=some d/\Is K O H v d/\RelV v aw.toArray[j]:=by
 have hj:j<aw.length:=by simpa using h
 have hl:=r.length
 obtain ⟨d,hd,hv⟩:=a.Cz (i:=j) (x:=xs[j]'(by omega)) (iP (by omega))
 obtain ⟨u,hu,ru⟩:=r.get (i:=j) (x:=xs[j]'(by omega)) (iP (by omega))
 rw [iP hj] at hu
 refine ⟨d,_,hd,hv,?_⟩
 rw [List.getElem_toArray,gp hu]
 exact ru
open PySem.SeqAt in
theorem XM(I:Inv X pins σ H s)(hu:A.units<cLine)(h:Kf X.K O H v d)(h':Kf X.K O' H v' d')(r:RelV v u)(r':RelV v' u')(e:bF n d d'=some b)
  (hn:(∀a c,d=.tup a->d'=.tup c->False)/\∀a c r r',d=.lst r a->d'=.lst r' c->False):EqAt A s u u' b/\RcAt A s u u' b/\RcNeAt A s u u' (!b):=by
 cases d with
 | cj =>
  cases d' with
  | cj =>
   subst h;obtain rfl:u=lE:=r
   subst h';obtain rfl:u'=lE:=r'
   simp only [bF,gP] at e
   subst e
   exact ⟨EqAt.same _,RcAt.none_none,RcNeAt.none_none⟩
  | bl k' =>
   subst h;obtain rfl:u=lE:=r
   subst h';obtain rfl:u'=qa k':=r'
   simp only [bF,gP] at e
   subst e
   exact ⟨EqAt.none_bool k',RcAt.none_bool k',RcNeAt.none_bool k'⟩
  | int k' =>
   subst h;obtain rfl:u=lE:=r
   subst h';obtain ⟨t',rfl⟩:=r'
   simp only [bF,gP] at e
   subst e
   exact ⟨EqAt.none_int k' t',RcAt.none_int k' t',RcNeAt.none_int k' t'⟩
  | str k' =>
   subst h;obtain rfl:u=lE:=r
   subst h';obtain ⟨t',rfl⟩:=r'
   simp only [bF,gP] at e
   subst e
   exact ⟨EqAt.none_str k' t',RcAt.none_str k' t',RcNeAt.none_str k' t'⟩
  | tup ds' =>
   subst h;obtain rfl:u=lE:=r
   obtain ⟨p',m7,rfl,fO,_⟩:=h';obtain ⟨its',_,cu,_⟩:=I.tuple fO;obtain rfl:u'=cR p':=r';replace cu:s.heap.IsTuple p' its'.toArray:=cu
   simp only [bF,gP] at e
   subst e
   exact ⟨EqAt.none_tuple cu hu,RcAt.none_tuple cu hu,RcNeAt.none_tuple cu hu⟩
  | lst w9 ds' =>
   subst h;obtain rfl:u=lE:=r
   obtain ⟨p',m7,rfl,fO,_⟩:=h';obtain ⟨its',_,cu,_⟩:=I.list fO;obtain rfl:u'=cR p':=r';replace cu:=cu.isList
   simp only [bF,gP] at e
   subst e
   exact ⟨EqAt.none_list cu hu,RcAt.none_list cu hu,RcNeAt.none_list cu hu⟩
  | exc n'=>simp [bF] at e
  | mm n' m'=>simp [bF] at e
  | obj n1 m1 o1=>simp [bF] at e
  | i0 n1 m1=>simp [bF] at e
  | bw n1 m1=>simp [bF] at e
 | bl k =>
  cases d' with
  | cj =>
   subst h;obtain rfl:u=qa k:=r
   subst h';obtain rfl:u'=lE:=r'
   simp only [bF,gP] at e
   subst e
   exact ⟨EqAt.bool_none k,RcAt.bool_none k,RcNeAt.bool_none k⟩
  | bl k' =>
   subst h;obtain rfl:u=qa k:=r
   subst h';obtain rfl:u'=qa k':=r'
   simp only [bF,gP] at e
   subst e
   exact ⟨EqAt.bool_bool k k',RcAt.bool_bool k k',RcNeAt.bool_bool k k'⟩
  | int k' =>
   subst h;obtain rfl:u=qa k:=r
   subst h';obtain ⟨t',rfl⟩:=r'
   simp only [bF,gP] at e
   subst e
   exact ⟨EqAt.bool_int k k' t',RcAt.bool_int k k' t',RcNeAt.bool_int k k' t'⟩
  | str k' =>
   subst h;obtain rfl:u=qa k:=r
   subst h';obtain ⟨t',rfl⟩:=r'
   simp only [bF,gP] at e
   subst e
   exact ⟨EqAt.bool_str k k' t',RcAt.bool_str k k' t',RcNeAt.bool_str k k' t'⟩
  | tup ds' =>
   subst h;obtain rfl:u=qa k:=r
   obtain ⟨p',m7,rfl,fO,_⟩:=h';obtain ⟨its',_,cu,_⟩:=I.tuple fO;obtain rfl:u'=cR p':=r';replace cu:s.heap.IsTuple p' its'.toArray:=cu
   simp only [bF,gP] at e
   subst e
   exact ⟨EqAt.bool_tuple k cu hu,RcAt.bool_tuple k cu hu,RcNeAt.bool_tuple k cu hu⟩
  | lst w9 ds' =>
   subst h;obtain rfl:u=qa k:=r
   obtain ⟨p',m7,rfl,fO,_⟩:=h';obtain ⟨its',_,cu,_⟩:=I.list fO;obtain rfl:u'=cR p':=r';replace cu:=cu.isList
   simp only [bF,gP] at e
   subst e
   exact ⟨EqAt.bool_list k cu hu,RcAt.bool_list k cu hu,RcNeAt.bool_list k cu hu⟩
  | exc n'=>simp [bF] at e
  | mm n' m'=>simp [bF] at e
  | obj n1 m1 o1=>simp [bF] at e
  | i0 n1 m1=>simp [bF] at e
  | bw n1 m1=>simp [bF] at e
 | int k =>
  cases d' with
  | cj =>
   subst h;obtain ⟨t,rfl⟩:=r
   subst h';obtain rfl:u'=lE:=r'
   simp only [bF,gP] at e
   subst e
   exact ⟨EqAt.int_none k t,RcAt.int_none k t,RcNeAt.int_none k t⟩
  | bl k' =>
   subst h;obtain ⟨t,rfl⟩:=r
   subst h';obtain rfl:u'=qa k':=r'
   simp only [bF,gP] at e
   subst e
   exact ⟨EqAt.int_bool k t k',RcAt.int_bool k t k',RcNeAt.int_bool k t k'⟩
  | int k' =>
   subst h;obtain ⟨t,rfl⟩:=r
   subst h';obtain ⟨t',rfl⟩:=r'
   simp only [bF,gP] at e
   subst e
   exact ⟨EqAt.int_int k t k' t',RcAt.int_int k t k' t',RcNeAt.int_int k t k' t'⟩
  | str k' =>
   subst h;obtain ⟨t,rfl⟩:=r
   subst h';obtain ⟨t',rfl⟩:=r'
   simp only [bF,gP] at e
   subst e
   exact ⟨EqAt.int_str k t k' t',RcAt.int_str k t k' t',RcNeAt.int_str k t k' t'⟩
  | tup ds' =>
   subst h;obtain ⟨t,rfl⟩:=r
   obtain ⟨p',m7,rfl,fO,_⟩:=h';obtain ⟨its',_,cu,_⟩:=I.tuple fO;obtain rfl:u'=cR p':=r';replace cu:s.heap.IsTuple p' its'.toArray:=cu
   simp only [bF,gP] at e
   subst e
   exact ⟨EqAt.int_tuple k t cu hu,RcAt.int_tuple k t cu hu,RcNeAt.int_tuple k t cu hu⟩
  | lst w9 ds' =>
   subst h;obtain ⟨t,rfl⟩:=r
   obtain ⟨p',m7,rfl,fO,_⟩:=h';obtain ⟨its',_,cu,_⟩:=I.list fO;obtain rfl:u'=cR p':=r';replace cu:=cu.isList
   simp only [bF,gP] at e
   subst e
   exact ⟨EqAt.int_list k t cu hu,RcAt.int_list k t cu hu,RcNeAt.int_list k t cu hu⟩
  | exc n'=>simp [bF] at e
  | mm n' m'=>simp [bF] at e
  | obj n1 m1 o1=>simp [bF] at e
  | i0 n1 m1=>simp [bF] at e
  | bw n1 m1=>simp [bF] at e
 | str k =>
  cases d' with
  | cj =>
   subst h;obtain ⟨t,rfl⟩:=r
   subst h';obtain rfl:u'=lE:=r'
   simp only [bF,gP] at e
   subst e
   exact ⟨EqAt.str_none k t,RcAt.str_none k t,RcNeAt.str_none k t⟩
  | bl k' =>
   subst h;obtain ⟨t,rfl⟩:=r
   subst h';obtain rfl:u'=qa k':=r'
   simp only [bF,gP] at e
   subst e
   exact ⟨EqAt.str_bool k t k',RcAt.str_bool k t k',RcNeAt.str_bool k t k'⟩
  | int k' =>
   subst h;obtain ⟨t,rfl⟩:=r
   subst h';obtain ⟨t',rfl⟩:=r'
   simp only [bF,gP] at e
   subst e
   exact ⟨EqAt.str_int k t k' t',RcAt.str_int k t k' t',RcNeAt.str_int k t k' t'⟩
  | str k' =>
   subst h;obtain ⟨t,rfl⟩:=r
   subst h';obtain ⟨t',rfl⟩:=r'
   simp only [bF,gP] at e
   subst e
   exact ⟨EqAt.str_str k t k' t',RcAt.str_str k t k' t',RcNeAt.str_str k t k' t'⟩
  | tup ds' =>
   subst h;obtain ⟨t,rfl⟩:=r
   obtain ⟨p',m7,rfl,fO,_⟩:=h';obtain ⟨its',_,cu,_⟩:=I.tuple fO;obtain rfl:u'=cR p':=r';replace cu:s.heap.IsTuple p' its'.toArray:=cu
   simp only [bF,gP] at e
   subst e
   exact ⟨EqAt.str_tuple k t cu hu,RcAt.str_tuple k t cu hu,RcNeAt.str_tuple k t cu hu⟩
  | lst w9 ds' =>
   subst h;obtain ⟨t,rfl⟩:=r
   obtain ⟨p',m7,rfl,fO,_⟩:=h';obtain ⟨its',_,cu,_⟩:=I.list fO;obtain rfl:u'=cR p':=r';replace cu:=cu.isList
   simp only [bF,gP] at e
   subst e
   exact ⟨EqAt.str_list k t cu hu,RcAt.str_list k t cu hu,RcNeAt.str_list k t cu hu⟩
  | exc n'=>simp [bF] at e
  | mm n' m'=>simp [bF] at e
  | obj n1 m1 o1=>simp [bF] at e
  | i0 n1 m1=>simp [bF] at e
  | bw n1 m1=>simp [bF] at e
 | tup ds =>
  cases d' with
  | cj =>
   obtain ⟨p,xs,rfl,hq,_⟩:=h;obtain ⟨aw,_,pl,_⟩:=I.tuple hq;obtain rfl:u=cR p:=r;replace pl:s.heap.IsTuple p aw.toArray:=pl
   subst h';obtain rfl:u'=lE:=r'
   simp only [bF,gP] at e
   subst e
   exact ⟨EqAt.tuple_none pl hu,RcAt.tuple_none pl hu,RcNeAt.tuple_none pl hu⟩
  | bl k' =>
   obtain ⟨p,xs,rfl,hq,_⟩:=h;obtain ⟨aw,_,pl,_⟩:=I.tuple hq;obtain rfl:u=cR p:=r;replace pl:s.heap.IsTuple p aw.toArray:=pl
   subst h';obtain rfl:u'=qa k':=r'
   simp only [bF,gP] at e
   subst e
   exact ⟨EqAt.tuple_bool k' pl hu,RcAt.tuple_bool k' pl hu,RcNeAt.tuple_bool k' pl hu⟩
  | int k' =>
   obtain ⟨p,xs,rfl,hq,_⟩:=h;obtain ⟨aw,_,pl,_⟩:=I.tuple hq;obtain rfl:u=cR p:=r;replace pl:s.heap.IsTuple p aw.toArray:=pl
   subst h';obtain ⟨t',rfl⟩:=r'
   simp only [bF,gP] at e
   subst e
   exact ⟨EqAt.tuple_int k' t' pl hu,RcAt.tuple_int k' t' pl hu,RcNeAt.tuple_int k' t' pl hu⟩
  | str k' =>
   obtain ⟨p,xs,rfl,hq,_⟩:=h;obtain ⟨aw,_,pl,_⟩:=I.tuple hq;obtain rfl:u=cR p:=r;replace pl:s.heap.IsTuple p aw.toArray:=pl
   subst h';obtain ⟨t',rfl⟩:=r'
   simp only [bF,gP] at e
   subst e
   exact ⟨EqAt.tuple_str k' t' pl hu,RcAt.tuple_str k' t' pl hu,RcNeAt.tuple_str k' t' pl hu⟩
  | tup ds'=>exact (hn.1 _ _ rfl rfl).elim
  | lst w9 ds' =>
   obtain ⟨p,xs,rfl,hq,_⟩:=h;obtain ⟨aw,_,pl,_⟩:=I.tuple hq;obtain rfl:u=cR p:=r;replace pl:s.heap.IsTuple p aw.toArray:=pl
   obtain ⟨p',m7,rfl,fO,_⟩:=h';obtain ⟨its',_,cu,_⟩:=I.list fO;obtain rfl:u'=cR p':=r';replace cu:=cu.isList
   simp only [bF,gP] at e
   subst e
   exact ⟨EqAt.tuple_list pl cu hu,RcAt.tuple_list pl cu hu,RcNeAt.tuple_list pl cu hu⟩
  | exc n'=>simp [bF] at e
  | mm n' m'=>simp [bF] at e
  | obj n1 m1 o1=>simp [bF] at e
  | i0 n1 m1=>simp [bF] at e
  | bw n1 m1=>simp [bF] at e
 | lst ro ds =>
  cases d' with
  | cj =>
   obtain ⟨p,xs,rfl,hq,_⟩:=h;obtain ⟨aw,_,pl,_⟩:=I.list hq;obtain rfl:u=cR p:=r;replace pl:=pl.isList
   subst h';obtain rfl:u'=lE:=r'
   simp only [bF,gP] at e
   subst e
   exact ⟨EqAt.list_none pl hu,RcAt.list_none pl hu,RcNeAt.list_none pl hu⟩
  | bl k' =>
   obtain ⟨p,xs,rfl,hq,_⟩:=h;obtain ⟨aw,_,pl,_⟩:=I.list hq;obtain rfl:u=cR p:=r;replace pl:=pl.isList
   subst h';obtain rfl:u'=qa k':=r'
   simp only [bF,gP] at e
   subst e
   exact ⟨EqAt.list_bool k' pl hu,RcAt.list_bool k' pl hu,RcNeAt.list_bool k' pl hu⟩
  | int k' =>
   obtain ⟨p,xs,rfl,hq,_⟩:=h;obtain ⟨aw,_,pl,_⟩:=I.list hq;obtain rfl:u=cR p:=r;replace pl:=pl.isList
   subst h';obtain ⟨t',rfl⟩:=r'
   simp only [bF,gP] at e
   subst e
   exact ⟨EqAt.list_int k' t' pl hu,RcAt.list_int k' t' pl hu,RcNeAt.list_int k' t' pl hu⟩
  | str k' =>
   obtain ⟨p,xs,rfl,hq,_⟩:=h;obtain ⟨aw,_,pl,_⟩:=I.list hq;obtain rfl:u=cR p:=r;replace pl:=pl.isList
   subst h';obtain ⟨t',rfl⟩:=r'
   simp only [bF,gP] at e
   subst e
   exact ⟨EqAt.list_str k' t' pl hu,RcAt.list_str k' t' pl hu,RcNeAt.list_str k' t' pl hu⟩
  | tup ds' =>
   obtain ⟨p,xs,rfl,hq,_⟩:=h;obtain ⟨aw,_,pl,_⟩:=I.list hq;obtain rfl:u=cR p:=r;replace pl:=pl.isList
   obtain ⟨p',m7,rfl,fO,_⟩:=h';obtain ⟨its',_,cu,_⟩:=I.tuple fO;obtain rfl:u'=cR p':=r';replace cu:s.heap.IsTuple p' its'.toArray:=cu
   simp only [bF,gP] at e
   subst e
   exact ⟨EqAt.list_tuple pl cu hu,RcAt.list_tuple pl cu hu,RcNeAt.list_tuple pl cu hu⟩
  | lst w9 ds'=>exact (hn.2 _ _ _ _ rfl rfl).elim
  | exc n'=>simp [bF] at e
  | mm n' m'=>simp [bF] at e
  | obj n1 m1 o1=>simp [bF] at e
  | i0 n1 m1=>simp [bF] at e
  | bw n1 m1=>simp [bF] at e
 | exc n=>cases d'<;>simp [bF] at e
 | mm n m=>cases d'<;>simp [bF] at e
 | obj n1 m1 o1=>cases d'<;>simp [bF] at e
 | i0 n1 m1=>cases d'<;>simp [bF] at e
 | bw n1 m1=>cases d'<;>simp [bF] at e
open PySem.SeqAt in
theorem RP(I:Inv X pins σ H s):∀(n:Nat) {A:Around} {u u':Value} {v v':V} {d d':D} {b:Bool},A.units+n<cLine->Is X.K O H v d->Is X.K O' H v' d'->RelV v u->RelV v' u'->bF n d d'=some b ->
  EqAt A s u u' b/\RcAt A s u u' b/\RcNeAt A s u u' (!b):=by
 intro n
 induction n with
 | zero =>
  intro A u u' v v' d d' b hu h h' r r' e
  refine XM I (by omega) h.vJ h'.vJ r r' e ⟨?_,?_⟩
  .rintro a c rfl rfl;simp [bF] at e
  .rintro a c ro w9 rfl rfl;simp [bF] at e
 | succ n ih =>
  intro A u u' v v' d d' b hu h h' r r' e
  have elems:∀{xs ys:List V} {aw ft:List Value} {ds es:List D} {bs:List Bool},aL xs aw->aL ys ft->aQ X.K O H xs ds->aQ X.K O' H ys es->kE (D7 (bF n) ds es)=some bs ->
    ∀j (h1:j<aw.toArray.size) (h2:j<ft.toArray.size),EqAt A.in1 s aw.toArray[j] ft.toArray[j] (bs.getD j false):=λ{xs ys aw ft ds es bs} rx ry ax ay ea j h1 h2=>by
   obtain ⟨d1,v1,e1,i1,r1⟩:=YV rx ax h1
   obtain ⟨d2,v2,e2,i2,r2⟩:=YV ry ay h2
   obtain ⟨hl,g⟩:=E7 ea
   have hz:(D7 (bF n) ds es)[j]?=some (bF n d1 d2):=by rw [Wz,e1,e2]
   have hj:j<bs.length:=by rw [<-hl];exact (pH.mp hz).1
   have:=g j bs[j] (iP hj)
   rw [hz] at this
   have e3:bs.getD j false=bs[j]:=by simp [hj]
   rw [e3]
   exact (ih (A:=A.in1) (by show A.units+1+n<_;omega) i1 i2 r1 r2 (gp this)).1
  by_cases ht:∃a c,d=.tup a/\d'=.tup c
  .obtain ⟨ds,es,rfl,rfl⟩:=ht
   simp only [bF] at e
   obtain ⟨bs,e1,rfl⟩:=map_some e
   obtain ⟨p,xs,rfl,hq,ax⟩:=h.vJ
   obtain ⟨p',ys,rfl,fO,ay⟩:=h'.vJ
   obtain ⟨aw,rx,pl,_⟩:=I.tuple hq
   obtain ⟨ft,ry,cu,_⟩:=I.tuple fO
   obtain rfl:u=cR p:=r
   obtain rfl:u'=cR p':=r'
   have pl:s.heap.IsTuple p aw.toArray:=pl
   have cu:s.heap.IsTuple p' ft.toArray:=cu
   have hlen:bs.length=min ds.length es.length:=by rw [<-(E7 e1).1,Wg]
   have l1:aw.toArray.size=ds.length:=by rw [gh,<-rx.length,ax.length]
   have l2:ft.toArray.size=es.length:=by rw [gh,<-ry.length,ay.length]
   have val:((fx (min aw.toArray.size ft.toArray.size)).all (λj=>bs.getD j false)&&aw.toArray.size==ft.toArray.size)=(bs.all id&&decide (ds.length=es.length)):=by
    rw [l1,l2,all_range hlen]
    rfl
   have rc:=RcAt.tuples pl cu (by omega) (elems rx ry ax ay e1)
   have rn:=RcNeAt.tuples pl cu (by omega) (elems rx ry ax ay e1)
   rw [val] at rc rn
   refine ⟨?_,rc,rn⟩
   by_cases hp:p=p'
   .subst hp
    have:=Zd I (n+1) h h' (show bF (n+1) (.tup ds) (.tup es)=some (bs.all id&&decide (ds.length=es.length)) by simp only [bF];rw [e1];rfl)
    rw [this]
    exact EqAt.same _
   .exact .of_refs hp rc
  by_cases hl:∃a c ro w9,d=.lst ro a/\d'=.lst w9 c
  .obtain ⟨ds,es,ro,w9,rfl,rfl⟩:=hl
   have e0:=e
   simp only [bF] at e
   obtain ⟨p,xs,rfl,hq,ax⟩:=h.vJ
   obtain ⟨p',ys,rfl,fO,ay⟩:=h'.vJ
   obtain ⟨aw,rx,pl,_⟩:=I.list hq
   obtain ⟨ft,ry,cu,_⟩:=I.list fO
   obtain rfl:u=cR p:=r
   obtain rfl:u'=cR p':=r'
   have l1:aw.toArray.size=ds.length:=by rw [gh,<-rx.length,ax.length]
   have l2:ft.toArray.size=es.length:=by rw [gh,<-ry.length,ay.length]
   have fin:RcAt A s (.ref p) (.ref p') b->RcNeAt A s (.ref p) (.ref p') (!b)->EqAt A s (.ref p) (.ref p') b/\RcAt A s (.ref p) (.ref p') b/\RcNeAt A s (.ref p) (.ref p') (!b):=λrc rn=>by
    refine ⟨?_,rc,rn⟩
    by_cases hp:p=p'
    .subst hp
     rw [Zd I (n+1) h h' e0]
     exact EqAt.same _
    .exact .of_refs hp rc
   by_cases hlen:ds.length=es.length
   .rw [if_pos hlen] at e
    obtain ⟨bs,e1,rfl⟩:=map_some e
    have Ap:bs.length=ds.length:=by rw [<-(E7 e1).1,Wg];omega
    have rc:=RcAt.lists pl.isList cu.isList (by omega) (by omega) (elems rx ry ax ay e1)
    have rn:=RcNeAt.lists pl.isList cu.isList (by omega) (by omega) (elems rx ry ax ay e1)
    rw [l1,all_range Ap] at rc rn
    exact fin rc rn
   .rw [if_neg hlen] at e
    cases e
    have mz:(aw.toArray.size != ft.toArray.size)=true:=by rw [l1,l2];simpa using hlen
    exact fin (RcAt.lists_lengths pl.isList cu.isList mz (by omega)) (RcNeAt.lists_lengths pl.isList cu.isList mz (by omega))
  refine XM I (by omega) h.vJ h'.vJ r r' e ⟨λa c e1 e2=>ht ⟨a,c,e1,e2⟩,λa c ro w9 e1 e2=>hl ⟨a,c,ro,w9,e1,e2⟩⟩
noncomputable def bK:D->D->Option Sl:=λa b=>(bF 8 a b).map λk=>.sh (.bl k)
noncomputable def qN:D->D->Option Sl:=λa b=>(bF 8 a b).map λk=>.sh (.bl !k)
theorem jA(hu:X.A.units+8<cLine):nC X (compareOp .Eq) bK:=by
 refine ⟨λx y H Q=>∃O O' a b k,Is X.K O H x a/\Is X.K O' H y b/\bF 8 a b=some k/\Q (.bl k) H,?_,λO H x y a b s Q hO hx hy e q=>?_⟩
 .intro pins s σ H x y v u Q I rx ry h
  obtain ⟨O,O',a,b,k,hx,hy,e,q⟩:=h
  exact (RP I 8 hu hx hy rx ry e).2.1 _ _ _ _ ⟨.bl k,H,I,rfl,q⟩
 .obtain ⟨k,e1,rfl⟩:=map_some e
  exact ⟨O,O,a,b,k,hx,hy,e1,q _ H (az.refl _) (Is.bl _)⟩
theorem b7Q(hu:X.A.units+8<cLine):nC X (compareOp .NotEq) qN:=by
 refine ⟨λx y H Q=>∃O O' a b k,Is X.K O H x a/\Is X.K O' H y b/\bF 8 a b=some k/\Q (.bl !k) H,?_,λO H x y a b s Q hO hx hy e q=>?_⟩
 .intro pins s σ H x y v u Q I rx ry h
  obtain ⟨O,O',a,b,k,hx,hy,e,q⟩:=h
  exact (RP I 8 hu hx hy rx ry e).2.2 _ _ _ _ ⟨.bl _,H,I,rfl,q⟩
 .obtain ⟨k,e1,rfl⟩:=map_some e
  exact ⟨O,O,a,b,k,hx,hy,e1,q _ H (az.refl _) (Is.bl _)⟩
end
theorem Fx.u8{X:Cx}{N:List Str}{sc:Scope}{k:Nat}{full:Bool}(h:Fx X N sc k full):X.A.units+8<cLine:=by have:=h.room.un;omega
theorem qh{X X':Cx}{x:Str}(e4:X'.mg=X.mg)(h:X.mg x=none):X'.mg x=none:=by rw [e4];exact h
end DL
namespace DL
open PySem PySem.Spec PyProof.Rows L2
theorem b0q{P:Program}{w:World}{K:aK}{tg:Expr}(it:Addr)(lo:Int)(n:Nat):Turn P w K tg (tK lo n) [it] it (λi h=>IsLongIter h it (lo+(i:Nat)*1) ((n:Int)-(i:Nat)) 1) where
 mem:=by simp
 obj:=λi h st b hb=>by
  have e:b=it:=by simpa using hb
  subst e
  exact ⟨_,st,λv z=>by
   have z':Data.fields _=Data.cell v:=z
   cases z'⟩
 keep:=λi h h' st k=>k it (by simp) _ st
 item:=by
  intro X hP hw hK hc i pins s σ H E I hf st hg
  subst hP hw hK
  obtain ⟨f0,f1,f2,f3,f4,f5⟩:=hf it (by simp)
  have W:=Walks.longrange (prog:=X.prog) (w:=X.w) (I.ok.hd hc) it lo 1 n
  refine W.item i s _ _ hg st λv h' tk hv jw kk=>?_
  obtain ⟨t,rfl⟩:=hv
  have I1:Inv X pins σ H { s with heap:=h',toks:=tk }:=I.turned (λb o hb e=>kk b o (by simpa using hb) e) f0 f1 f3 f4 f5
  refine ⟨_,rfl,Df (s:={ s with heap:=h',toks:=tk }) (n:="longrange_iterator") jw rfl rfl (by decide) ⟨.int (lo+i),H,I1,⟨t,?_⟩,⟨rfl,rfl⟩,jw,λb hb=>(hf b hb).1⟩⟩
  rw [Int.mul_one]
 done:=by
  intro X hP hw hK hc i pins s σ H E I hf st hg
  subst hP hw hK
  obtain ⟨f0,f1,f2,f3,f4,f5⟩:=hf it (by simp)
  exact wpAny_pyNext_long_end (I.ok.hd hc) st (by have:n<=i:=hg;omega) λh' eb=>⟨rfl,I.turned (t':=s.toks) (λb o hb e=>eb b o hb e) f0 f1 f3 f4 f5⟩
 self:=λ_ _ _ _ _ st h=>wpAny_pyIter_longiter st h
section
variable {X:Cx}{tg:Expr}
theorem ZM{pins:List (Addr×Obj)}{σ:L2.St}{H:Hp}{s:Shared}{R:It->Hp->Prop}{E:Value->Shared->Prop}{lo hi:Int}{t u v:Tok}{tk:Nat}(I:Inv X pins σ H s)
  (q:R (tK lo (hi-lo).toNat) H):wpAny (model X.prog X.w) X.A (pyIter (.ref s.heap.objs.size)) (Uq X pins σ tg R) E { s with heap:=s.heap.push { cls:=.type "range",data:=.fields #[.int lo t,.int hi u,.int 1 v] },toks:=tk }:=by
 have I1:Inv X pins σ H { s with heap:=s.heap.push { cls:=.type "range",data:=.fields #[.int lo t,.int hi u,.int 1 v] },toks:=tk }:=I.kept λb o e=>dY _ e
 have e1:lo+((0:Nat):Int)*1=lo:=by simp
 have e2:(((hi-lo).toNat:Nat):Int)-((0:Nat):Int)=Ws lo hi 1:=by rw [rangeSize_one];split<;>omega
 have fin:∀b∈[(s.heap.push { cls:=.type "range",data:=.fields #[.int lo t,.int hi u,.int 1 v] }).objs.size],lB X pins H b:=λb hb=>by
  have e:b=(s.heap.push { cls:=.type "range",data:=.fields #[.int lo t,.int hi u,.int 1 v] }).objs.size:=by simpa using hb
  subst e
  exact I1.pA (cw _) (I1.bg.fresh (cw _))
 by_cases Hg:Builtin.Range.small lo hi 1=true
 .refine wpAny_pyIter_range (Qm ..) Hg ?_
  refine ⟨_,[(s.heap.push { cls:=.type "range",data:=.fields #[.int lo t,.int hi u,.int 1 v] }).objs.size],_,_,H,rfl,I1.kept (t':=tk) λb o e=>dY _ e,a5T _ lo (hi-lo).toNat,?_,fin,q⟩
  show IsRangeIter _ _ (lo+((0:Nat):Int)*1) ((((hi-lo).toNat:Nat):Int)-((0:Nat):Int)) 1
  rw [e1,e2]
  exact jx _ rfl
 .refine wpAny_pyIter_longrange (Qm ..) (by simpa using Hg) ?_
  refine ⟨_,[(s.heap.push { cls:=.type "range",data:=.fields #[.int lo t,.int hi u,.int 1 v] }).objs.size],_,_,H,rfl,I1.kept (t':=tk) λb o e=>dY _ e,b0q _ lo (hi-lo).toNat,?_,fin,q⟩
  show IsLongIter _ _ (lo+((0:Nat):Int)*1) ((((hi-lo).toNat:Nat):Int)-((0:Nat):Int)) 1
  rw [e1,e2]
  exact jx _ rfl
noncomputable def b8o(ta:TA):TI:=λσ H R=>ta σ H λvs H1=>∃j:Int,vs=[.int j]/\R (tK 0 j.toNat) H1
noncomputable def b8n(ta:TA):TI:=λσ H R=>ta σ H λvs H1=>∃i j:Int,vs=[.int i,.int j]/\R (tK i (j-i).toNat) H1
theorem a9L(hg:Gl X "range")(hm:X.mg "range" = none)(ha:PA X [a] ta)(hs:starEach [a] X.env=[(false,eval a X.env)]:=by rfl):PI X tg (.Call (.Name "range" p) [a] [] pos) (b8o ta):=by
 intro pins s σ H R I h
 refine Call_ (EW I hg hm boot_range (LO (bJ (ha pos pins s σ H _ I h) λus s1 ⟨vs,H1,I1,r1,q1⟩=>?_) hs rfl))
 obtain ⟨j,e,q⟩:=q1
 subst e
 cases r1 with
 | cons r rr =>
  cases rr
  obtain ⟨t,rfl⟩:=r
  exact call_range_1 (ZM I1 (by simpa using q))
theorem a9K{a b:Expr}{ta:TA}{p pos:Pos}(hg:Gl X "range")(hm:X.mg "range" = none)(ha:PA X [a,b] ta)(hs:starEach [a,b] X.env=[(false,eval a X.env),(false,eval b X.env)]:=by rfl)(ll:starEach [b] X.env=[(false,eval b X.env)]:=by rfl):
  PI X tg (.Call (.Name "range" p) [a,b] [] pos) (b8n ta):=by
 intro pins s σ H R I h
 refine Call_ (EW I hg hm boot_range (LO (bJ (ha pos pins s σ H _ I h) λus s1 ⟨vs,H1,I1,r1,q1⟩=>?_) (by rw [hs,ll]) (by rw [ll];rfl)))
 obtain ⟨i,j,e,q⟩:=q1
 subst e
 cases r1 with
 | cons r rr =>
  cases rr with
  | cons r' rr =>
   cases rr
   obtain ⟨t,rfl⟩:=r
   obtain ⟨t',rfl⟩:=r'
   exact call_range_2 (ZM I1 q)
noncomputable def tE:List D->Option (List D)
 | [.int j]=>some (eD 0 j.toNat)
 | _=>none
noncomputable def Jl:List D->Option (List D)
 | [.int i,.int j]=>some (eD i (j-i).toNat)
 | _=>none
theorem Fc(Hv:Gl X "range")(hm:X.mg "range" = none)(ha:AV X [a] fs)(h1:starEach [a] X.env=[(false,eval a X.env)]:=by rfl):IV X tg (.Call (.Name "range" p) [a] [] pos) (iY tE fs):=by
 obtain ⟨ti,pi,ki⟩:=ha
 refine ⟨_,a9L Hv hm pi h1,λO B σ H env ds R Rl e q=>?_⟩
 obtain ⟨as,e1,e2⟩:=bind_some e
 refine ki O B σ H env as _ Rl e1 λvs H1 s1 r1=>?_
 unfold tE at e2
 split at e2
 .cases e2
  exact ⟨_,Zh r1,q _ H1 s1 (Zz _ _)⟩
 .cases e2
theorem Zj{a b:Expr}{fs:En->Option (List D)}{p pos:Pos}(Hv:Gl X "range")(hm:X.mg "range" = none)(ha:AV X [a,b] fs)(h1:starEach [a,b] X.env=[(false,eval a X.env),(false,eval b X.env)]:=by rfl)
  (h2:starEach [b] X.env=[(false,eval b X.env)]:=by rfl):IV X tg (.Call (.Name "range" p) [a,b] [] pos) (iY Jl fs):=by
 obtain ⟨ti,pi,ki⟩:=ha
 refine ⟨_,a9K Hv hm pi h1 h2,λO B σ H env ds R Rl e q=>?_⟩
 obtain ⟨as,e1,e2⟩:=bind_some e
 refine ki O B σ H env as _ Rl e1 λvs H1 s1 r1=>?_
 unfold Jl at e2
 split at e2
 .cases e2
  exact ⟨_,_,b1t r1,q _ H1 s1 (Zz _ _)⟩
 .cases e2
end
end DL
namespace DL
open PySem PySem.Spec PyProof.Rows L2
def Vf(b:Bool)(h:Heap)(l:Addr)(items:Array Value):Prop:=match b with
 | true=>h.IsList l items
 | false=>h.IsTuple l items
section
variable {prog:Program}{w:World}{A:Around}{E:Value->Shared->Prop}{s:Shared}
end
end DL
namespace DL
open PySem PySem.Spec PyProof.Rows L2
section
variable {X:Cx}{pins:List (Addr×Obj)}{σ:L2.St}{H:Hp}{s:Shared}
theorem Xm(I:Inv X pins σ H s)(h:Sq X.K H b l xs):∃aw:List Value,aL xs aw/\Vf b s.heap l aw.toArray:=by
 cases b with
 | true=>obtain ⟨aw,r,p,_⟩:=I.list h;exact ⟨aw,r,p.isList⟩
 | false=>obtain ⟨aw,r,p,_⟩:=I.tuple h;exact ⟨aw,r,p⟩
end
section
variable {prog:Program}{w:World}{A:Around}{E:Value->Shared->Prop}{s:Shared}
end
section
variable {X:Cx}{elts:List Expr}{kk:Nat}{tp:Pos}
end
end DL
namespace SO
section pure
variable {α:Type}
variable {κ:α->Int}{la lb out:List α}{ia ib:Nat}
end pure
open PySem PyProof.Rows
section
variable {prog:Program}{w:World}{A:Around}{E:Value->Shared->Prop}{s:Shared}
variable {kd:SortKind}{κ:Keyed->Int}{C:Keyed->Prop}
end
section
variable {κ:Keyed->Int}
end
section
variable {prog:Program}{w:World}{A:Around}{E:Value->Shared->Prop}{s:Shared}{kd:SortKind}{κ:Keyed->Int}{C:Keyed->Prop}
variable {a b:Array Keyed}
end
section
variable {prog:Program}{w:World}{A:Around}{E:Value->Shared->Prop}{s:Shared}{kd:SortKind}{κ:Keyed->Int}{C:Keyed->Prop}{a b:Array Keyed}
variable {out:Array Keyed}{na nb:Nat}
end
section
variable {prog:Program}{w:World}{A:Around}{E:Value->Shared->Prop}{s:Shared}{kd:SortKind}{κ:Keyed->Int}{C:Keyed->Prop}
end
section
variable {prog:Program}{w:World}{A:Around}{E:Value->Shared->Prop}{s:Shared}{kd:SortKind}{κ:Keyed->Int}{C:Keyed->Prop}
end
section
variable {prog:Program}{w:World}{A:Around}{E:Value->Shared->Prop}{s:Shared}{kd:SortKind}{κ:Keyed->Int}{C:Keyed->Prop}
variable {Se:Array Keyed}
end
end SO
namespace TS
open PySem PyProof.Rows
section
variable {prog:Program}{w:World}{A:Around}{E:Value->Shared->Prop}{s:Shared}
variable {ky:Value->Int}{Se:Array Keyed}
end
end TS
namespace DL
open PySem PySem.Spec PyProof.Rows L2
section
variable {X:Cx}
theorem b14:wC X (.type "int") (λxs H Q=>∃b:Bool,xs=[.bl b]/\Q (.int (if b then 1 else 0)) H):=by
 intro pins s σ H xs vs Q I r h
 obtain ⟨b,rfl,q⟩:=h
 obtain ⟨u,rfl,ru⟩:=r.one
 cases ru
 exact call_int_bool ⟨.int _,H,I.tok _,⟨_,rfl⟩,q⟩
noncomputable def LQ(f:En->Option Sl):En->Option Sl:=λenv=>(AQ (f env)).map λb=>.sh (.int (if b then 1 else 0))
theorem b56(hg:Gl X "int")(hm:X.mg "int" = none)(he:EV X e fa)(hs:starEach [e] X.env=[(false,eval e X.env)]:=by rfl):EV X (.Call (.Name "int" p) [e] [] pos) (LQ fa):=by
 obtain ⟨t,pt,k⟩:=he
 refine ⟨_,Fe b14 hg hm (by decide +kernel) (kY pt mV hs) (by decide) (by decide) hs rfl,λO B σ H env s Q R e q=>?_⟩
 obtain ⟨b,e1,rfl⟩:=map_some e
 refine k O B σ H env _ _ R (E8 e1) λv H1 s1 r1=>?_
 obtain rfl:=Dg r1
 exact ⟨b,rfl,q _ H1 s1 (Is.int _)⟩
end
end DL
namespace DL
open PySem PySem.Spec PyProof.Rows L2 PySem.SeqAt
section
variable {X:Cx}{pins:List (Addr×Obj)}{s:Shared}{σ:L2.St}{H:Hp}
theorem Hb(e:Value->Bool)(hl:Vf b s.heap l items)(he:∀y,y∈items->EqAt A.in1 s y x (e y))
  (h:Q (.bool (items.any e)) s):wpAny (model prog w) A (compareOp .In x (.ref l)) Q E s:=by
 cases b with
 | true=>exact in_listAt e hl he h
 | false=>exact in_tupleAt e hl he h
noncomputable def inD(a:D)(ds:List D):Option Bool:=(kE (ds.map λd=>bF 7 d a)).map λbs=>bs.any id
noncomputable def Bs:D->D->Option Sl:=λa d=>(iW d).bind λx=>(inD a x.2).map λk=>.sh (.bl k)
theorem Xw(hu:X.A.units+8<cLine):nC X (compareOp .In) Bs:=by
 refine ⟨λx y H Q=>∃O p k xs a ds bs,y=.ref p/\Sq X.K H k p xs/\aQ X.K O H xs ds/\Is X.K O H x a/\kE (ds.map λd=>bF 7 d a)=some bs/\Q (.bl (bs.any id)) H,?_,λO H x y a b s Q hO hx hy e q=>?_⟩
 .intro pins s σ H x y v u Q I rx ry h
  obtain ⟨O,p,k,xs,a,ds,bs,rfl,hq,hs,ha,hb,q⟩:=h
  cases ry
  obtain ⟨aw,rv,hl⟩:=Xm I hq
  obtain ⟨l1,g1⟩:=E7 hb
  have hlen:aw.length=bs.length:=by rw [<-rv.length,hs.length,<-l1,bY]
  have at_:∀(j:Nat) (y:Value) (b:Bool),aw[j]?=some y->bs[j]?=some b->EqAt X.A.in1 s y v b:=λj y b h1 h2=>by
   have h3:=g1 j b h2
   rw [mB] at h3
   cases hd:ds[j]? with
   | none=>rw [hd] at h3;cases h3
   | some d =>
    rw [hd] at h3
    have h4:bF 7 d a=some b:=gp h3
    obtain ⟨z,hz,iz⟩:=hs.get hd
    obtain ⟨y',Bo,rz⟩:=rv.get hz
    rw [h1] at Bo;cases Bo
    exact (RP I 7 (A:=X.A.in1) (by show X.A.units+1+7<cLine;omega) iz ha rz rx h4).1
  classical
  have e1:aw.toArray.any (λy=>decide (∃j:Nat,aw[j]?=some y/\bs[j]?=some true))=bs.any id:=by
   rw [IB]
   simp only [List.any_toArray,Lr,decide_eq_true_eq,id]
   constructor
   .rintro ⟨y,hy,j,h1,h2⟩
    exact ⟨true,Q6 h2,rfl⟩
   .rintro ⟨b,hb,rfl⟩
    obtain ⟨j,hj⟩:=Wy.mp hb
    have Hn:j<aw.length:=by rw [hlen];exact (pH.mp hj).1
    exact ⟨aw[j],oF Hn,j,iP Hn,hj⟩
  refine Hb (λy=>decide (∃j:Nat,aw[j]?=some y/\bs[j]?=some true)) hl (λy hy=>?_) ?_
  .by_cases ht:∃j:Nat,aw[j]?=some y/\bs[j]?=some true
   .rw [decide_eq_true ht]
    obtain ⟨j,h1,h2⟩:=ht
    exact at_ j y true h1 h2
   .rw [decide_eq_false ht]
    obtain ⟨j,hj⟩:=Wy.mp (List.mem_toArray.mp hy)
    have Hn:j<bs.length:=by rw [<-hlen];exact (pH.mp hj).1
    refine at_ j y false hj ?_
    rw [iP Hn]
    cases HG:bs[j] with
    | false=>rfl
    | true=>exact absurd ⟨j,hj,by rw [iP Hn,HG]⟩ ht
  .rw [e1]
   exact ⟨.bl (bs.any id),H,I,rfl,q⟩
 .obtain ⟨⟨k,ds⟩,e1,e2⟩:=bind_some e
  obtain ⟨b1,e3,rfl⟩:=map_some e2
  obtain ⟨bs,e4,rfl⟩:=map_some e3
  obtain ⟨p,xs,rfl,hq,hs⟩:=hy.seq e1
  exact ⟨O,p,k,xs,a,ds,bs,rfl,hq,hs,hx,e4,q _ H (az.refl _) (Is.bl _)⟩
end
end DL
namespace DL
open PySem PySem.Spec PyProof.Rows L2
section
variable {X:Cx}{N:List Str}{sc:Scope}{k:Nat}{full:Bool}{pos pos' p1 p2 p3 p4:Pos}{e c:Expr}{fa:En->Option Sl}{ga:En->Option Bool}
noncomputable def Xl(i j:Nat)(c:En->Option Bool)(f:En->Option Sl):SF:=λenv=>match env[i]? with
 | some (.ow ds)=>forL (gN j) (cz c (bz f) de) ds env
 | _=>none
end
end DL
namespace DL
open PySem L2
def Wo{α:Type}(o:Option α)(Q:α->Prop):Prop:=∃a,o=some a/\Q a
section
variable {α β:Type}
theorem a0e{a:α}{Q:α->Prop}:Wo (some a) Q↔Q a:=⟨λ⟨_,e,h⟩=>by cases e;exact h,λh=>⟨a,rfl,h⟩⟩
theorem Wo_none:Wo (none:Option α) Q↔False:=⟨λ⟨_,e,_⟩=>(nomatch e),eA⟩
theorem a0k{o:Option α}{f:α->Option β}{Q:β->Prop}:Wo (o.bind f) Q↔Wo o λa=>Wo (f a) Q:=by
 cases o with
 | none=>simp [Wo]
 | some a=>simp [Wo]
theorem a1p{o:Option α}{f:α->β}{Q:β->Prop}:Wo (o.map f) Q↔Wo o λa=>Q (f a):=by
 cases o with
 | none=>simp [Wo]
 | some a=>simp [Wo]
theorem pM{c:Prop}[Decidable c]{a:α}{Q:α->Prop}:Wo (if c then some a else none) Q↔c/\Q a:=by
 by_cases h:c
 .rw [if_pos h,a0e];exact ⟨λz=>⟨h,z⟩,λz=>z.2⟩
 .rw [if_neg h,Wo_none];exact ⟨eA,λz=>h z.1⟩
theorem Wo.mono{o:Option α}{P Q:α->Prop}(h:Wo o P)(k:∀a,P a->Q a):Wo o Q:=let ⟨a,e,p⟩:=h;⟨a,e,k a p⟩
theorem Wo.eq{o:Option α}{a:α}(h:Wo o λx=>x=a):o=some a:=let ⟨_,e,p⟩:=h;by rw [e,p]
theorem jf{o:Option α}{P Q:α->Prop}(k:∀a,P a↔Q a):Wo o P↔Wo o Q:=⟨λh=>h.mono λa=>(k a).mp,λh=>h.mono λa=>(k a).mpr⟩
end
noncomputable def nM(G:SF)(Q:Fl×En->Prop):Fl×En->Prop
 | (.nx,e)=>Wo (G e) Q
 | p=>Q p
theorem a2l:nM G Q (.nx,e)↔Wo (G e) Q:=hU
theorem b0F:nM G Q (.bk,e)↔Q (.bk,e):=hU
theorem b0E:nM G Q (.ct,e)↔Q (.ct,e):=hU
theorem b0D:nM G Q (.rt r,e)↔Q (.rt r,e):=hU
theorem Wo_seq:Wo (aD F G env) Q↔Wo (F env) (nM G Q):=by
 unfold aD
 cases h:F env with
 | none=>simp [Wo]
 | some p =>
  obtain ⟨fl,e⟩:=p
  rw [a0e]
  cases fl with
  | nx=>exact hU
  | bk=>rw [b0F];exact a0e
  | ct=>rw [b0E];exact a0e
  | rt r=>rw [b0D];exact a0e
theorem a39:Wo (cz c F G env) Q↔Wo (c env) λb=>(b=true->Wo (F env) Q)/\(b=false->Wo (G env) Q):=by
 unfold cz
 cases h:c env with
 | none=>simp [Wo]
 | some b=>cases b<;>simp [a0e]
theorem b6C:Wo (de env) Q↔Q (.nx,env):=a0e
theorem Wo_bk:Wo (sBk env) Q↔Q (.bk,env):=a0e
theorem Wo_ct:Wo (sCt env) Q↔Q (.ct,env):=a0e
theorem Wo_ret:Wo (bz f env) Q↔Wo (f env) λr=>Q (.rt r,env):=a1p
theorem b6A:Wo (Ge env) Q↔Q (.rt (.sh .cj),env):=a0e
theorem b80:Wo (kz i f env) Q↔Wo (f env) λr=>i<env.length/\Q (.nx,env.set i r):=by
 unfold kz;rw [a0k];simp only [pM]
theorem a2E:Wo (dM i f env) Q↔Wo (f env) λr=>i<env.length/\Q (.nx,env.set i (.sh r.d)):=by
 unfold dM;rw [a0k];simp only [pM]
theorem b60{f:En->Option Sl}{env:En}{Q:Fl×En->Prop}:Wo (rj f env) Q↔Wo (f env) λ_=>Q (.nx,env):=a1p
noncomputable def ra:Option Sl->(Sl->Prop)->Prop
 | some (.sh d),Q=>Q (.sh d)
 | _,_=>False
theorem b6f:ra (some (.sh d)) Q↔Q (.sh d):=hU
theorem Wo_eV:Wo (eV i env) Q↔ra env[i]? Q:=by
 unfold eV
 cases env[i]? with
 | none=>simp [Ku,ra,Wo]
 | some s=>cases s<;>simp [Ku,ra,Wo]
theorem Wo_eC:Wo (eC d env) Q↔Q (.sh d):=a0e
theorem a9D:Wo (ah g fa fb env) Q↔Wo (fa env) λx=>Wo (fb env) λy=>Wo (g x.d y.d) Q:=by
 unfold ah;rw [a0k];simp only [a0k]
theorem b6O:Wo (bb (.int i) (.int j)) Q↔Q (.sh (.int (i+j))):=a0e
theorem b6G:Wo (nX (.int i) (.int j)) Q↔Q (.sh (.int (i-j))):=by rw [b8q,a0e]
theorem b6J:Wo (iG (.int i) (.int j)) Q↔MulC i j/\Q (.sh (.int (i*j))):=pM
theorem b6N:Wo (kD (.int i) (.int j)) Q↔DivC i j/\Q (.sh (.int (i/j))):=pM
theorem b88:Wo (Bs a d) Q↔Wo (iW d) λx=>Wo (inD a x.2) λk=>Q (.sh (.bl k)):=by
 unfold Bs
 rw [a0k]
 simp only [a1p]
theorem b6K:Wo (ej (.int i) (.int j)) Q↔0<j/\Q (.sh (.int (i%j))):=pM
theorem b6H:Wo (mj (.int i) (.int j)) Q↔PowC i j/\Q (.sh (.int (i^j.toNat))):=pM
theorem b86:Wo (vL (.int i) (.int j)) Q↔Q (.sh (.bl (decide (i<j)))):=a0e
theorem b87:Wo (KZ (.int i) (.int j)) Q↔Q (.sh (.bl (decide (i<=j)))):=a0e
theorem b89:Wo (yb (.int i) (.int j)) Q↔Q (.sh (.bl (decide (j<i)))):=a0e
theorem b9a:Wo (bK (.int i) (.int j)) Q↔Q (.sh (.bl (decide (i=j)))):=a0e
theorem b85:Wo (qN (.int i) (.int j)) Q↔Q (.sh (.bl (!decide (i=j)))):=a0e
theorem b6M:Wo (bK (.bl i) (.bl j)) Q↔Q (.sh (.bl (decide (i=j)))):=a0e
theorem b6I:Wo (qN (.bl i) (.bl j)) Q↔Q (.sh (.bl (!decide (i=j)))):=a0e
theorem b3D:Wo (bK (.int i) .cj) Q↔Q (.sh (.bl false)):=a0e
theorem b3A:Wo (qN (.int i) .cj) Q↔Q (.sh (.bl true)):=a0e
theorem b3C:Wo (bK .cj (.int i)) Q↔Q (.sh (.bl false)):=a0e
theorem b3z:Wo (qN .cj (.int i)) Q↔Q (.sh (.bl true)):=a0e
theorem b3B:Wo (bK .cj .cj) Q↔Q (.sh (.bl true)):=a0e
theorem b3y:Wo (qN .cj .cj) Q↔Q (.sh (.bl false)):=a0e
theorem a9B:Wo (bT f env) Q↔Wo (f env) λr=>Wo (AQ (some r)) Q:=by
 unfold bT
 cases f env with
 | none=>simp [AQ,Wo]
 | some r=>rw [a0e]
theorem b9k:Wo (AQ (some (.sh (.bl b)))) Q↔Q b:=a0e
theorem b6u:Wo (ie f env) Q↔Wo (f env) λr=>Wo (nK r.d) Q:=a0k
theorem b6t:Wo (nK (.bl b)) Q↔Q b:=a0e
theorem b6s:Wo (nK (.int b)) Q↔Q (b != 0):=a0e
theorem b6p:Wo (nK (.tup ds)) Q↔Q (!ds.isEmpty):=a0e
theorem b6r:Wo (nK (.lst r ds)) Q↔Q (!ds.isEmpty):=a0e
theorem b6q:Wo (nK .cj) Q↔Q false:=a0e
theorem b3s:Wo (LY f env) Q↔Wo (f env) λr=>Q (!r.2.isEmpty):=by
 unfold LY;rw [a0k];simp only [a0e]
theorem b6w:Wo (AR f g env) Q↔Wo (f env) λb=>(b=true->Wo (g env) Q)/\(b=false->Q false):=by
 unfold AR
 cases f env with
 | none=>simp [Wo]
 | some b=>cases b<;>simp [a0e]
theorem b8X:Wo (mI f g env) Q↔Wo (f env) λb=>(b=true->Q true)/\(b=false->Wo (g env) Q):=by
 unfold mI
 cases f env with
 | none=>simp [Wo]
 | some b=>cases b<;>simp [a0e]
theorem b6v:Wo (n9 f env) Q↔Wo (f env) λb=>Q (!b):=a1p
theorem b66:Wo (aa env) Q↔Q []:=a0e
theorem b3Q:Wo (ae f g env) Q↔Wo (f env) λr=>Wo (g env) λds=>Q (r.d::ds):=by
 unfold ae;rw [a0k];simp only [a0k,a0e]
theorem b6U:Wo (dF f env) Q↔Wo (f env) λds=>ds.length<=16777216/\Q (.sh (.tup ds)):=by
 unfold dF;rw [a0k];simp only [pM]
theorem b6V:Wo (b9 f env) Q↔Wo (f env) λds=>ds.length<=16777216/\Q (.ow ds):=by
 unfold b9;rw [a0k];simp only [pM]
noncomputable def mT:Option Sl->(Bool×List D->Prop)->Prop
 | some (.sh (.tup ds)),Q=>Q (false,ds)
 | some (.sh (.lst _ ds)),Q=>Q (true,ds)
 | some (.ow ds),Q=>Q (true,ds)
 | _,_=>False
theorem b8R:mT (some (.sh (.tup ds))) Q↔Q (false,ds):=hU
theorem b8T:mT (some (.sh (.lst r ds))) Q↔Q (true,ds):=hU
theorem b8S:mT (some (.ow ds)) Q↔Q (true,ds):=hU
theorem Wo_bV:Wo (bV i env) Q↔mT env[i]? Q:=by
 unfold bV
 cases env[i]? with
 | none=>simp [B3,mT,Wo]
 | some s=>cases s with
  | no=>simp [B3,mT,Wo]
  | dw ds=>simp [B3,mT,Wo]
  | tw _ _=>simp [B3,mT,Wo]
  | ow ds=>simp [B3,mT,Wo]
  | sh d=>cases d<;>simp [B3,mT,Wo,iW]
theorem b9i:Wo (pG f env) Q↔Wo (f env) λr=>Wo (iW r.d) Q:=a0k
theorem b8Y:Wo (iW (.tup ds)) Q↔Q (false,ds):=a0e
theorem b8Z:Wo (iW (.lst r ds)) Q↔Q (true,ds):=a0e
theorem b6W:Wo (cV f env) Q↔Wo (f env) λx=>Q (.sh (.int x.2.length)):=a1p
theorem b3M:Wo (Jf f env) Q↔Wo (f env) λx=>Q (.ow x.2):=a1p
def OT(xs:List D)(d:D)(Q:Sl->Prop):Prop:=match d with
 | .int i=>Wo (fq xs i) λd=>Q (.sh d)
 | _=>False
theorem ixQ_i:OT xs (.int i) Q↔Wo (fq xs i) λd=>Q (.sh d):=hU
theorem b4A:Wo (cW f g env) Q↔Wo (f env) λx=>Wo (g env) λy=>OT x.2 y.d Q:=by
 unfold cW
 rw [a0k]
 refine jf λx=>?_
 rw [a0k]
 refine jf λy=>?_
 unfold OT
 cases y.d<;>simp [a1p,Wo_none]
theorem jX{α:Type}{xs:List α}{n:Nat}:fq xs (n:Int)=xs[n]?:=by
 unfold fq ni
 rw [if_pos (by omega)]
 by_cases h:n<xs.length
 .rw [if_pos (by omega)];simp
 .rw [if_neg (by omega),CZ (by omega)];rfl
theorem b6j{α:Type}{x:α}{xs:List α}:fq (x::xs) 0=some x:=jX (n:=0)
theorem atI_1{α:Type}{x y:α}{xs:List α}:fq (x::y::xs) 1=some y:=jX (n:=1)
theorem atI_2{α:Type}{x y z:α}{xs:List α}:fq (x::y::z::xs) 2=some z:=jX (n:=2)
theorem atI_3{α:Type}{x y z u:α}{xs:List α}:fq (x::y::z::u::xs) 3=some u:=jX (n:=3)
theorem b3O:Wo (bh n φ fs env) Q↔Wo (fs env) λds=>ds.length=n/\Wo (φ ds) Q:=by
 unfold bh
 rw [a0k]
 have h:∀ds:List D,Wo (if ds.length=n then φ ds else none) Q↔ds.length=n/\Wo (φ ds) Q:=λds=>by
  by_cases h:ds.length=n<;>simp [h,Wo_none]
 simp only [h]
theorem b2W:Wo (ub T (.cj)) Q↔Q (.sh (.bl (cp T (.cj)))):=a0e
theorem b5N:Wo (ub T (.bl b)) Q↔Q (.sh (.bl (cp T (.bl b)))):=a0e
theorem b2Y:Wo (ub T (.int i)) Q↔Q (.sh (.bl (cp T (.int i)))):=a0e
theorem b2V:Wo (ub T (.str x)) Q↔Q (.sh (.bl (cp T (.str x)))):=a0e
theorem b2U:Wo (ub T (.tup ds)) Q↔Q (.sh (.bl (cp T (.tup ds)))):=a0e
theorem b2X:Wo (ub T (.lst r ds)) Q↔Q (.sh (.bl (cp T (.lst r ds)))):=a0e
noncomputable def dA(Q:Sl->Prop):Fl×En->Prop
 | (.rt r,_)=>Q r
 | (.nx,_)=>Q (.sh .cj)
 | _=>False
theorem b1R:dA Q (.rt r,e)↔Q r:=hU
theorem b6a:dA Q (.nx,e)↔Q (.sh .cj):=hU
theorem nA:Wo (cf F N ds) Q↔Wo (F (iS N ds)) (dA Q):=by
 unfold cf
 cases F (iS N ds) with
 | none=>simp [Wo]
 | some p =>
  obtain ⟨fl,e⟩:=p
  rw [a0e]
  cases fl<;>simp [a0e,Wo_none,dA]
theorem b9b:Wo (jh f g F env) Q↔Wo (f env) λr=>Wo (iW r.d) λx=>Wo (forL g F x.2 env) Q:=by
 unfold jh;rw [a0k];simp only [a0k]
theorem b6P:Wo (Jn h f g F env) Q↔Wo (f env) λds=>Wo (h ds) λis=>Wo (forL g F is env) Q:=by
 unfold Jn;rw [a0k];simp only [a0k]
theorem b6y:Wo (xA [.int j]) Q↔R62 j/\Q (eD 0 j.toNat):=pM
noncomputable def AS(I:En->Prop)(Q:Fl×En->Prop):Fl×En->Prop
 | (.nx,e)=>I e
 | (.ct,e)=>I e
 | (.bk,e)=>Q (.nx,e)
 | (.rt r,e)=>Q (.rt r,e)
theorem b2m:AS I Q (.nx,e)↔I e:=hU
theorem b2n:AS I Q (.ct,e)↔I e:=hU
theorem b2o:AS I Q (.bk,e)↔Q (.nx,e):=hU
theorem b2l:AS I Q (.rt r,e)↔Q (.rt r,e):=hU
theorem Mt{α:Type}(enc:α->D)(I:List α->En->Prop)(xs:List α)(turn:∀pre a post env,xs=pre++a::post->I pre env->Wo (g (enc a) env) λe=>Wo (F e) (AS (I (pre++[a])) Q))
  (done:∀env,I xs env->Q (.nx,env)):∀{env:En},I [] env->Wo (forL g F (xs.map enc) env) Q:=by
 have key:∀(post pre:List α) (env:En),xs=pre++post->I pre env->Wo (forL g F (post.map enc) env) Q:=by
  intro post
  induction post with
  | nil =>
   intro pre env e h
   rw [yu] at e
   subst e
   exact ⟨_,rfl,done env h⟩
  | cons a post ih =>
   intro pre env e h
   obtain ⟨e1,h1,p,h2,h3⟩:=turn pre a post env e h
   rw [fE]
   unfold forL
   rw [h1]
   dsimp only
   rw [h2]
   obtain ⟨fl,e2⟩:=p
   cases fl with
   | nx=>exact ih (pre++[a]) e2 (by rw [e,C4];rfl) h3
   | ct=>exact ih (pre++[a]) e2 (by rw [e,C4];rfl) h3
   | bk=>exact ⟨_,rfl,h3⟩
   | rt r=>exact ⟨_,rfl,h3⟩
 exact λ{env} h=>key xs [] env rfl h
theorem SM(lo:Int)(n:Nat)(I:Nat->En->Prop)(turn:∀(k:Nat) env,k<n->I k env->Wo (g (.int (lo+k)) env) λe=>Wo (F e) (AS (I (k+1)) Q))
  (done:∀env,I n env->Q (.nx,env))(h:I 0 env):Wo (forL g F (eD lo n) env) Q:=by
 unfold eD
 refine Mt (λ(k:Nat)=>D.int (lo+(k:Int))) (λpre env=>I pre.length env) (fx n) (λpre a post env e h=>?_) (λenv h=>done env (by simpa using h)) h
 have hl:=congrArg CN e
 have ha:(fx n)[pre.length]?=some a:=by rw [e];simp
 simp at hl
 rw [Wf (by omega)] at ha
 cases ha
 simpa using turn pre.length env (by omega) h
theorem b0i:Wo (gN i d env) Q↔i<env.length/\Q (env.set i (.sh d)):=pM
theorem Wo_gT:Wo (gT n u (.tup ds) env) Q↔ds.length=n/\Wo (u ds env) Q:=by
 unfold gT
 by_cases h:ds.length=n<;>simp [h,Wo_none]
theorem b3x:Wo (tF [] env) Q↔Q env:=a0e
theorem b2c:Wo (kX g u (d::ds) env) Q↔Wo (g d env) λe=>Wo (u ds e) Q:=a0k
noncomputable def bS:Option Sl->(List D->Prop)->Prop
 | some (.ow ds),Q=>Q ds
 | _,_=>False
theorem a9y:bS (some (.ow ds)) Q↔Q ds:=hU
theorem b9l:Wo (nN i f env) Q↔bS env[i]? λds=>Wo (f env) λr=>ds.length<16777216/\Q (.nx,env.set i (.ow (ds++[r.d]))):=by
 unfold nN
 cases env[i]? with
 | none=>simp [Wo_none,bS]
 | some s=>cases s with
  | no=>simp [Wo_none,bS]
  | dw d=>simp [Wo_none,bS]
  | tw _ _=>simp [Wo_none,bS]
  | sh d=>simp [Wo_none,bS]
  | ow ds=>dsimp only [bS];rw [a0k];simp only [pM]
def CG(env:En)(i:Nat)(ds:List D)(d:D)(Q:Fl×En->Prop):Prop:=match d with
 | .lst false es=>ds.length+es.length<=16777216/\Q (.nx,env.set i (.ow (ds++es)))
 | _=>False
theorem b8w:CG env i ds (.lst false es) Q↔ds.length+es.length<=16777216/\Q (.nx,env.set i (.ow (ds++es))):=hU
theorem b9c:Wo (qy i f env) Q↔bS env[i]? λds=>Wo (f env) λr=>CG env i ds r.d Q:=by
 unfold qy
 cases env[i]? with
 | none=>simp [Wo_none,bS]
 | some s=>cases s with
  | no=>simp [Wo_none,bS]
  | dw d=>simp [Wo_none,bS]
  | tw _ _=>simp [Wo_none,bS]
  | sh d=>simp [Wo_none,bS]
  | ow ds =>
   dsimp only [bS];rw [a0k]
   refine jf λr=>?_
   unfold CG
   cases r.d with
   | lst ro es=>cases ro<;>simp [pM,Wo_none]
   | _=>simp [Wo_none]
theorem b82:Wo (qx i j env) Q↔bS env[j]? λds=>Wo ds[ds.length-1]? λd=>(i<env.length/\i≠j)/\Q (.nx,(env.set j (.ow ds.dropLast)).set i (.sh d)):=by
 unfold qx
 cases env[j]? with
 | none=>simp [Wo_none,bS]
 | some s=>cases s with
  | no=>simp [Wo_none,bS]
  | dw d=>simp [Wo_none,bS]
  | tw _ _=>simp [Wo_none,bS]
  | sh d=>simp [Wo_none,bS]
  | ow ds=>dsimp only [bS];rw [a0k];simp only [pM]
def Rw(env:En)(i:Nat)(ds:List D)(d:D)(k:D)(Q:Fl×En->Prop):Prop:=match k with
 | .int n=>Wo (ni ds.length n) λj=>Q (.nx,env.set i (.ow (ds.set j d)))
 | _=>False
theorem b5L:Rw env i ds d (.int n) Q↔Wo (ni ds.length n) λj=>Q (.nx,env.set i (.ow (ds.set j d))):=hU
theorem b6E:Wo (EJ i f g env) Q↔bS env[i]? λds=>Wo (f env) λr=>Wo (g env) λk=>Rw env i ds r.d k.d Q:=by
 unfold EJ
 cases env[i]? with
 | none=>simp [Wo_none,bS]
 | some s=>cases s with
  | no=>simp [Wo_none,bS]
  | dw d=>simp [Wo_none,bS]
  | tw _ _=>simp [Wo_none,bS]
  | sh d=>simp [Wo_none,bS]
  | ow ds =>
   dsimp only [bS];rw [a0k]
   refine jf λr=>?_
   rw [a0k]
   refine jf λk=>?_
   unfold Rw
   cases k.d<;>simp [a0k,a0e,Wo_none]
noncomputable def EC(env:En):Option Sl->(Fl×En->Prop)->Prop
 | some (.ow ds),Q=>Q (.rt (.ow ds),env)
 | some (.dw ds),Q=>Q (.rt (.dw ds),env)
 | some (.tw ks ds),Q=>Q (.rt (.tw ks ds),env)
 | some (.sh d),Q=>Q (.rt (.sh d),env)
 | _,_=>False
theorem b6i:EC env (some (.ow ds)) Q↔Q (.rt (.ow ds),env):=hU
theorem b6h:EC env (some (.sh d)) Q↔Q (.rt (.sh d),env):=hU
theorem b6z:Wo (zD i env) Q↔EC env env[i]? Q:=by
 unfold zD
 cases env[i]? with
 | none=>simp [Wo_none,EC]
 | some s=>cases s<;>simp [Wo_none,a0e,EC]
theorem b84:Wo (vf env) Q↔Q none:=a0e
def pQ(d:D)(Q:Option Int->Prop):Prop:=match d with
 | .int i=>Q (some i)
 | _=>False
theorem pQ_i:pQ (.int i) Q↔Q (some i):=hU
theorem b83:Wo (tX f env) Q↔Wo (f env) λr=>pQ r.d Q:=by
 unfold tX
 rw [a0k]
 refine jf λr=>?_
 unfold pQ
 cases r.d<;>simp [a0e,Wo_none]
theorem b9e:Wo (uj f lo hi env) Q↔Wo (f env) λx=>Wo (lo env) λl=>Wo (hi env) λh =>
  (x.1=true->Q (.ow (cutD x.2 l h)))/\(x.1=false->¬(HT.cH x.2.length 0 l=0/\HT.cH x.2.length x.2.length h=x.2.length)/\Q (.sh (.tup (cutD x.2 l h)))):=by
 unfold uj
 rw [a0k]
 simp only [a0k]
 have h:∀(x:Bool×List D) (l h:Option Int),Wo (if x.1=true then some (Sl.ow (cutD x.2 l h)) else if ¬(HT.cH x.2.length 0 l=0/\HT.cH x.2.length x.2.length h=x.2.length) then some (.sh (.tup (cutD x.2 l h))) else none) Q ↔
   (x.1=true->Q (.ow (cutD x.2 l h)))/\(x.1=false->¬(HT.cH x.2.length 0 l=0/\HT.cH x.2.length x.2.length h=x.2.length)/\Q (.sh (.tup (cutD x.2 l h)))):=λx l h=>by
  obtain ⟨k,ds⟩:=x
  cases k
  .simp only [AL,if_false,pM];simp
  .simp [a0e]
 simp only [h]
theorem Sl_sh:Sl.d (.sh d)=d:=rfl
theorem Sl_ow:Sl.d (.ow ds)=.lst false ds:=rfl
theorem b3G:Wo (bb (.lst false a) (.lst false b)) Q↔a.length+b.length<=16777216/\Q (.ow (a++b)):=pM
theorem b3E:Wo (bb (.tup a) (.tup b)) Q↔a.length+b.length<=16777216/\Q (.sh (.tup (a++b))):=pM
theorem b3F:Wo (bb (.str a) (.str b)) Q↔a.length+b.length<=16777216/\Q (.sh (.str (a++b))):=pM
theorem a8x :cp "int" .cj=false:=rfl
theorem a95:cp "int" (.bl b)=true:=rfl
theorem a8z:cp "int" (.int i)=true:=rfl
theorem a8w:cp "int" (.str x)=false:=rfl
theorem a8v:cp "int" (.tup ds)=false:=rfl
theorem a8y:cp "int" (.lst r ds)=false:=rfl
theorem a7x :cp "bool" .cj=false:=rfl
theorem a8A:cp "bool" (.bl b)=true:=rfl
theorem a7z:cp "bool" (.int i)=false:=rfl
theorem a7w:cp "bool" (.str x)=false:=rfl
theorem a7v:cp "bool" (.tup ds)=false:=rfl
theorem a7y:cp "bool" (.lst r ds)=false:=rfl
theorem a8r :cp "str" .cj=false:=rfl
theorem a94:cp "str" (.bl b)=false:=rfl
theorem a8t:cp "str" (.int i)=false:=rfl
theorem a8q:cp "str" (.str x)=true:=rfl
theorem a8p:cp "str" (.tup ds)=false:=rfl
theorem a8s:cp "str" (.lst r ds)=false:=rfl
theorem a7s :cp "list" .cj=false:=rfl
theorem a8u:cp "list" (.bl b)=false:=rfl
theorem a7u:cp "list" (.int i)=false:=rfl
theorem a7r:cp "list" (.str x)=false:=rfl
theorem a7q:cp "list" (.tup ds)=false:=rfl
theorem a7t:cp "list" (.lst r ds)=true:=rfl
theorem a6K :cp "tuple" .cj=false:=rfl
theorem a7p:cp "tuple" (.bl b)=false:=rfl
theorem a6M:cp "tuple" (.int i)=false:=rfl
theorem a6J:cp "tuple" (.str x)=false:=rfl
theorem a6I:cp "tuple" (.tup ds)=true:=rfl
theorem a6L:cp "tuple" (.lst r ds)=false:=rfl
theorem E9{α β:Type}{f:α->β}{xs:List α}{i:Int}(z:α)(h0:0<=i)(h:i<xs.length):fq (xs.map f) i=some (f (xs.getD i.toNat z)):=by
 unfold fq ni
 rw [bY,if_pos h0,if_pos h]
 have:i.toNat<xs.length:=by omega
 simp [this]
theorem a8R:Wo (forL g F [] env) Q↔Q (.nx,env):=a0e
theorem a4H:Wo (forL g F (d::ds) env) Q↔Wo (g d env) λe=>Wo (F e) (AS (λe=>Wo (forL g F ds e) Q) Q):=by
 rw [forL]
 cases g d env with
 | none=>simp [Wo_none]
 | some e =>
  rw [a0e]
  dsimp only
  cases F e with
  | none=>simp [Wo_none]
  | some p =>
   obtain ⟨fl,e2⟩:=p
   rw [a0e]
   cases fl<;>simp [AS,a0e]
theorem b1x:D.nj .cj=true:=rfl
theorem b2Z:D.nj (.bl b)=false:=rfl
theorem b1z:D.nj (.int i)=false:=rfl
theorem b1w:D.nj (.str x)=false:=rfl
theorem b1v:D.nj (.tup ds)=false:=rfl
theorem b1y:D.nj (.lst r ds)=false:=rfl
theorem Yv(xs:List Int){i:Int}(h0:0<=i)(h1:i<xs.length)(h:∀v∈xs,Q (.int v))(e:ds=xs.map D.int:=by rfl):Wo (fq ds i) Q:=by
 have hi:i.toNat<xs.length:=by omega
 rw [e,E9 0 h0 h1,a0e,show xs.getD i.toNat 0=xs[i.toNat] by simp [hi]]
 exact h _ (oF hi)
theorem b61:Wo (gS fi caps nt g fc fe env) Q↔Wo (fi env) λds=>Wo (lq caps env) λcs=>ds.length<=16777216/\Wo (oH g fc fe ds (nv nt Sl.no++cs)) λrs=>Q (.ow rs):=by
 unfold gS
 rw [a0k]
 refine jf λds=>?_
 rw [a0k]
 refine jf λcs=>?_
 by_cases h:ds.length<=16777216
 .rw [if_pos h,a1p];exact ⟨λz=>⟨h,z⟩,λz=>z.2⟩
 .rw [if_neg h,Wo_none];exact ⟨eA,λz=>h z.1⟩
theorem b63:Wo (lq [] env) Q↔Q []:=a0e
theorem b62:Wo (lq (i::is) env) Q↔ra env[i]? λs=>Wo (lq is env) λcs=>Q (s::cs):=by
 rw [lq]
 cases h:env[i]? with
 | none=>simp [Wo_none,ra]
 | some s=>cases s<;>simp [Wo_none,ra,a1p]
theorem rep0{l:En}:nv 0 Sl.no++l=l:=rfl
theorem rep1{l:En}:nv 1 Sl.no++l=Sl.no::l:=rfl
theorem rep2{l:En}:nv 2 Sl.no++l=Sl.no::Sl.no::l:=rfl
theorem rep3{l:En}:nv 3 Sl.no++l=Sl.no::Sl.no::Sl.no::l:=rfl
theorem rep4{l:En}:nv 4 Sl.no++l=Sl.no::Sl.no::Sl.no::Sl.no::l:=rfl
theorem b3r:Wo (km env) Q↔Q true:=a0e
theorem b3P:Wo (oH g fc fe [] e) Q↔Q []:=a0e
theorem a4Y:Wo (oH g fc fe (d::ds) e) Q↔Wo (g d e) λe1=>Wo (fc e1) λb =>
  (b=true->Wo (fe e1) λr=>Wo (oH g fc fe ds e1) λrs=>Q (r.d::rs))/\(b=false->Wo (oH g fc fe ds e1) Q):=by
 rw [oH,a0k]
 refine jf λe1=>?_
 rw [a0k]
 refine jf λb=>?_
 cases b
 .rw [if_neg wj];simp
 .rw [if_pos rfl,a0k];simp only [a0k,a0e];simp
theorem b6S:Wo (fw f env) Q↔Wo (f env) λr=>Wo (iW r.d) λx=>Q x.2:=by
 unfold fw;rw [a0k];simp only [a1p]
theorem b6T:Wo (iY h f env) Q↔Wo (f env) λds=>Wo (h ds) Q:=a0k
theorem b2d:Wo (wH f g F env) Q↔Wo (f env) λds=>Wo (forL g F ds env) Q:=a0k
theorem comp_map{α:Type}(enc:α->D)(f:α->D)(P:En->Prop)(xs:List α)
  (h:∀a∈xs,∀e,P e->Wo (g (enc a) e) λe1=>P e1/\Wo (fc e1) λb=>b=true/\Wo (fe e1) λr=>r.d=f a):∀{e:En},P e->oH g fc fe (xs.map enc) e=some (xs.map f):=by
 induction xs with
 | nil=>intro e _;rfl
 | cons a xs ih =>
  intro e he
  obtain ⟨e1,g1,p1,b,c1,rfl,r,f1,f2⟩:=h a gi e he
  rw [fE,oH,g1,BD,c1,BD,if_pos rfl,f1,BD,ih (λb hb=>h b (gn _ hb)) p1,f2]
  rfl
theorem b6Z:Wo (AG f env) Q↔Wo (f env) λx=>Wo (jU x.2) λns=>Q (.sh (.bl (ns.all id))):=by
 unfold AG;rw [a0k];simp only [a1p]
theorem b6F:Wo (wF (ns.map D.int)) Q↔Q ns:=by rw [ZW,a0e]
theorem b9h:Wo (jU (ns.map D.bl)) Q↔Q ns:=by rw [Y8,a0e]
theorem b3v:Wo (wF []) Q↔Q []:=a0e
theorem b3w:Wo (wF (.int i::ds)) Q↔Wo (wF ds) λns=>Q (i::ns):=by
 show Wo ((wF ds).map (i::·)) Q↔_
 rw [a1p]
theorem b64:Wo (jU []) Q↔Q []:=a0e
theorem b65:Wo (jU (.bl i::ds)) Q↔Wo (jU ds) λns=>Q (i::ns):=by
 show Wo ((jU ds).map (i::·)) Q↔_
 rw [a1p]
theorem MS(I:Nat->En->Prop)(turn:∀n env,I n env->Wo (c env) λb=>(b=true->Wo (F env) (AS (λe=>∃m,m<n/\I m e) Q))/\(b=false->Q (.nx,env))):
  ∀(fuel n:Nat) {env:En},n<fuel->I n env->Wo (zY c F fuel env) Q
 | 0,n,env,h,_=>absurd h (Lq _)
 | fuel+1,n,env,h,hI=>by
  obtain ⟨b,e1,h1,h2⟩:=turn n env hI
  rw [zY,e1]
  cases b with
  | false=>exact ⟨_,rfl,h2 rfl⟩
  | true =>
   obtain ⟨⟨fl,e2⟩,e3,h3⟩:=h1 rfl
   dsimp only
   rw [e3]
   cases fl with
   | nx=>obtain ⟨m,hm,PB⟩:=h3;exact MS I turn fuel m (by omega) PB
   | ct=>obtain ⟨m,hm,PB⟩:=h3;exact MS I turn fuel m (by omega) PB
   | bk=>exact ⟨_,rfl,h3⟩
   | rt r=>exact ⟨_,rfl,h3⟩
theorem Zp:Wo (Mg m c F env) Q↔Wo (zY c F (m env) env) Q:=hU
noncomputable def uq{α:Type}(xs:List α)(lo hi:Option Int):List α:=(xs.drop (HT.cH xs.length 0 lo)).take (HT.cH xs.length xs.length hi-HT.cH xs.length 0 lo)
theorem MA{α:Type}{f:α->D}(xs:List α)(lo hi:Option Int):cutD (xs.map f) lo hi=(uq xs lo hi).map f:=by
 unfold cutD uq
 rw [bY,<-List.map_drop,<-List.map_take]
theorem b1Z{α:Type}(xs:List α){n:Nat}:uq xs (some (n:Int)) none=xs.drop n:=by
 unfold uq
 rw [HT.rR,HT.oY]
 by_cases h:n<=xs.length
 .rw [Lp h,QS (by simp)]
 .rw [Nat.min_eq_right (by omega),IX (cw _),IX (by omega)];simp
theorem Ss{α:Type}(xs:List α){n:Nat}:uq xs none (some (n:Int))=xs.take n:=by
 unfold uq
 rw [HT.rR,HT.oY]
 simp only [Nat.sub_zero,List.drop_zero]
 by_cases h:n<=xs.length
 .rw [Lp h]
 .rw [Nat.min_eq_right (by omega),QS (cw _),QS (by omega)]
theorem b3u:Wo (tE [.int j]) Q↔Q (eD 0 j.toNat):=a0e
theorem b3t:Wo (Jl [.int i,.int j]) Q↔Q (eD i (j-i).toNat):=a0e
def slQ(d:D)(l h:Option Int)(Q:Sl->Prop):Prop:=match d with
 | .tup ds=>Q (.sh (.tup (cutD ds l h)))
 | _=>False
theorem slQ_t:slQ (.tup ds) l h Q↔Q (.sh (.tup (cutD ds l h))):=hU
def Sf(i:Nat)(env:En)(a b:Sl)(Q:Fl×En->Prop):Prop:=match a,b with
 | .sh (.int m),.sh (.int n)=>Q (.nx,env.set i (.sh (.int (m+n))))
 | _,_=>False
theorem b8Q:Sf i env (.sh (.int m)) (.sh (.int n)) Q↔Q (.nx,env.set i (.sh (.int (m+n)))):=hU
theorem b6Q:Wo (Xl i j c f env) Q↔bS env[i]? λds=>Wo (forL (gN j) (cz c (bz f) de) ds env) Q:=by
 unfold Xl
 cases h:env[i]? with
 | none=>simp [Wo_none,bS]
 | some s=>cases s<;>simp [Wo_none,bS]
theorem b3N:Wo (LQ f env) Q↔Wo (f env) λr=>Wo (AQ (some r)) λb=>Q (.sh (.int (if b=true then 1 else 0))):=by
 unfold LQ
 cases f env with
 | none=>simp [Wo,AQ]
 | some r=>rw [a0e,a1p]
end DL
namespace DL
theorem Y3(h:-(10^250)<=i)(h2:i<=10^250)(h3:-(10^250)<=j)(h4:j<=10^250):MulC i j:=.inr (.inr ⟨⟨h,h2⟩,h3,h4⟩)
theorem b6c(h:0<j)(h2:j<=10^250):DivC i j:=⟨h,h2⟩
end DL
namespace DL
open PySem PySem.Spec PyProof.Rows L2
def Tr(h:Heap)(e T:Addr)(c:Value):Prop:=∃oe vs a0 oT ts,h.get? e=some oe/\(oe.cls=c/\vs[0]?=some a0)/\oe.data=.fields vs/\vs[1]?=some (.ref T)/\T≠e/\h.get? T=some oT/\oT.data=.fields ts/\ts[3]?=some .none
structure Lies(h0:Heap)(H:Hp)(h:Heap)(e:Addr)(c:Value):Prop where
 new:h0.get? e=none
 un:H e=none
 tr:∃T,h0.get? T=none/\H T=none/\Tr h e T c
theorem b2N(x:cb P w H h a o):∃u,h.get? a=some u:=by
 induction o with
 | lst xs=>obtain ⟨_,_,_,_,e⟩:=x;exact ⟨_,e⟩
 | tup xs=>obtain ⟨_,_,_,ob,e,_⟩:=x;exact ⟨_,e⟩
 | dK aA=>obtain ⟨_,_,_,_,o,_,_,e,_⟩:=x;exact ⟨_,e⟩
 | dT aA=>obtain ⟨_,_,_,_,o,_,_,e,_⟩:=x;exact ⟨_,e⟩
 | set S n=>obtain ⟨o,_,_,_,e,_⟩:=x;exact ⟨_,e⟩
 | tab q=>obtain ⟨_,e,_⟩:=x;exact ⟨_,e⟩
 | ins C dx fs=>obtain ⟨_,_,_,e,_⟩:=x;exact ⟨_,e⟩
 | own y=>obtain ⟨ob,e⟩:=x;exact ⟨_,e⟩
 | xd fs=>obtain ⟨_,⟨_,_,_,e,_⟩,_⟩:=x;exact ⟨_,e⟩
 | Kx lo hi=>obtain ⟨_,_,_,e⟩:=x;exact ⟨_,e⟩
 | jP ob u ih=>obtain ⟨e,_⟩:=x;exact ⟨_,e⟩
 | Bd ps=>exact ⟨_,x⟩
 | met f y=>exact ⟨_,x⟩
 | ext φ=>obtain ⟨_,⟨o,e⟩,_⟩:=x;exact ⟨_,e⟩
theorem XS(x:g7 P w H h)(e:H a=some o):∃u,h.get? a=some u:=b2N (x a o e)
theorem b20(x:g7 P w H h)(e:h.get? a=none):H a=none:=by
 cases q:H a with
 | none=>rfl
 | some o=>obtain ⟨u,z⟩:=XS x q;rw [e] at z;cases z
theorem T7{h b0 b1:Heap}:∀{l:List Env},h.FunFrames b0 l->(∀L∈jQ l,b1.get? L=none)->h.FunFrames b1 l
 | [],_,_=>trivial
 | env::r,⟨k,⟨L,o,hf,_,ho,hd⟩,t⟩,hb =>
  ⟨k,⟨L,o,hf,hb L (by unfold jQ;rw [EA,hf];exact gi),ho,hd⟩,
   T7 t λL' m=>hb L' (by unfold jQ at m ⊢;rw [EA,hf];exact gn _ m)⟩
noncomputable def Ao(h:Heap)(e T:Addr)(l:List Env):Heap:=QH h (e::T::jQ l)
theorem XN(t:Tr h e T c)(hl:h.FunFrames b0 l):∃a0,Heap.FlyingW (Ao h e T l) l e c a0 h:=by
 obtain ⟨oe,vs,a0,oT,ts,he,hc,hd,h1,hT,DZ,DY,h3⟩:=t
 refine ⟨a0,λb o q=>Ra _ q,IP _ gi,T7 hl λL m=>IP _ (gn _ (gn _ m)),?_⟩
 exact ⟨oe,vs,T,oT,ts,he,hc,hd,h1,IP _ (gn _ gi),hT,DZ,DY,h3⟩
theorem S7{h h1 h' b0 B:Heap}(hl:h.FunFrames b0 l)(hB:∀b o,h.get? b=some o->b∉jQ l->b∉ex->B.get? b=some o)(st:B.StaysIn h')(k1:∀b o,h.get? b=some o->h1.get? b=some o)(up:h1.UpToSlots h'):Un (jQ l) ex H H h h':=by
 have sl:∀b o,h.get? b=some o->b∈jQ l->∃s,h'.get? b=some { o with slots:=s }:=λb o e m=>by
  obtain ⟨_,o',iO,hd⟩:=hl.mem m
  rw [e] at iO;cases iO
  exact up b o (k1 b o e) hd
 refine ⟨λb o e _ n1 n2=>st b o (hB b o e n1 n2),λb o e _ m _=>sl b o e m,λ_ _ _ n _=>n,λb o e n2=>?_,λ_ _ q=>q,λ_ _ _ q=>q,λ_ ps q=>⟨#[],by rw [q];simp⟩⟩
 by_cases m:b∈jQ l
 .obtain ⟨s,q⟩:=sl b o e m;exact ⟨_,q⟩
 .exact ⟨o,st b o (hB b o e m n2)⟩
theorem SD(a:Un fs [] H0 H h0 h)(b:Un fs2 K2 H H' h h')(hf:∀x∈fs2,x∈fs\/h0.get? x=none)(hx:∀x∈K2,h0.get? x=none):Un fs [] H0 H' h0 h' where
 keep:=λc o q n hc _=>b.keep c o (a.keep c o q n hc (by simp)) (a.free c o q n (by simp)) (λz=>(hf c z).elim hc λy=>by rw [q] at y;cases y) λz=>by rw [hx c z] at q;cases q
 slot:=λc o q n hc _=>by
  obtain ⟨sl,e1⟩:=a.slot c o q n hc (by simp)
  have nx:c∉K2:=λz=>by rw [hx c z] at q;cases q
  obtain ⟨s2,e2⟩:=b.any e1 (a.free c o q n (by simp)) nx
  exact ⟨s2,e2⟩
 free:=λc o q n _=>by
  obtain ⟨o',e1⟩:=a.there c o q (by simp)
  exact b.free c o' e1 (a.free c o q n (by simp)) λz=>by rw [hx c z] at q;cases q
 there:=λc o q _=>by
  obtain ⟨o',e1⟩:=a.there c o q (by simp)
  exact b.there c o' e1 λz=>by rw [hx c z] at q;cases q
 jB:=λc xs q=>b.jB c xs (a.jB c xs q)
 jl:=λc o u q=>b.jl c o u (a.jl c o u q)
 jC:=λc ps q=>by
  obtain ⟨m1,e1⟩:=a.jC c ps q
  obtain ⟨m2,e2⟩:=b.jC c _ e1
  exact ⟨m1++m2,by rw [e2,Lo]⟩
theorem S'{P:Program}{w:World}{H:Hp}{fs ex:List Addr}{h h':Heap}(ok:g7 P w H h)(B:Heap)(hB:∀b o,h.get? b=some o->b∉fs->b∉ex->B.get? b=some o)(st:B.StaysIn h')(hf:∀b∈fs,H b=none)(hx:∀b∈ex,H b=none):g7 P w H h':=λa o e=>by
 refine (ok a o e).nL (λb u hb q=>st b u (hB b u q ?_ ?_)) (λ_ _ _ q=>q) λ_ _ q=>q
 .intro z
  rcases hb with rfl | hb
  .rw [hf _ z] at e;cases e
  .rw [hf _ z] at hb;cases hb
 .intro z
  rcases hb with rfl | hb
  .rw [hx _ z] at e;cases e
  .rw [hx _ z] at hb;cases hb
theorem Yh{P:Program}{w:World}{H:Hp}{h0 h h' b0 B:Heap}{l l':List Env}{ex:List Addr}{e:Addr}{c a0:Value}(ok:g7 P w H h)(hl:h.FunFrames b0 l)(hB:∀b o,h.get? b=some o->b∉jQ l->b∉ex->B.get? b=some o)(fl:Heap.FlyingW B l' e c a0 h')
  (up:∀b o,h.get? b=some o->b∈jQ l->∃sl,h'.get? b=some { o with slots:=sl })(hf:∀b∈jQ l,H b=none)(hx:∀b∈ex,H b=none)(t0:∀b o,h0.get? b=some o->∃o',h.get? b=some o')(x0:∀b∈ex,h0.get? b=none):
  ∃T,h0.get? T=none/\H T=none/\Tr h' e T c:=by
 obtain ⟨_,_,_,oe,vs,T,oT,ts,he,hc,hd,h1,hn,hT,DZ,DY,h3⟩:=fl
 have key:∀o,h.get? T=some o->T∈ex:=λo q=>by
  by_cases m:T∈jQ l
  .exfalso
   obtain ⟨_,o',iO,KN⟩:=hl.mem m
   rw [q] at iO;cases iO
   obtain ⟨sl,q'⟩:=up T o q m
   rw [DZ] at q';cases q'
   exact KN ts DY
  .by_cases n:T∈ex
   .exact n
   .have:=hB T o q m n
    rw [hn] at this;cases this
 refine ⟨T,?_,?_,oe,vs,a0,oT,ts,he,hc,hd,h1,hT,DZ,DY,h3⟩
 .cases q:h0.get? T with
  | none=>rfl
  | some o =>
   obtain ⟨o',q'⟩:=t0 T o q
   rw [x0 T (key o' q')] at q;cases q
 .cases q:H T with
  | none=>rfl
  | some o =>
   obtain ⟨u,q'⟩:=XS ok q
   rw [hx T (key u q')] at q;cases q
noncomputable def mF(P:Program)(w:World):tN:=λouter H s E e s'=>∃ea c H',e=.ref ea/\s'.os=s.os/\AllBare s'.gens/\Un (jQ outer) [] H H' s.heap s'.heap/\g7 P w H' s'.heap/\Lies s.heap H' s'.heap ea c/\E c none H'
def Xk(X:Cx)(W:L2.St->Hp->Value->Prop):Prop:=∀(pins:List (Addr×Obj)) (σ:L2.St) (H:Hp) (s:Shared) (e:Value) (s':Shared),Inv X pins σ H s->mF X.prog X.w X.stack H s (λc _ H'=>W σ H' c) e s'->X.xe e s'
def Xr(X:Cx)(W:L2.St->Hp->Value->Prop):Prop:=∀(pins:List (Addr×Obj)) (σ:L2.St) (H:Hp) (s:Shared) (h':Heap) (e:Addr) (c:Value) (vs:List Value),Inv X pins σ H s->Heap.MadeExcOf s.heap h' e c vs->W σ H c->X.xe (.ref e) { s with heap:=h' }
section
variable {P:Program}{w:World}{K:aK}{mg:Str->Option Value}{base:Heap}{N:List Str}{qual:Str}{scope:Scope}{f:Addr}{cd:Value}{A:Around}{outer:List Env}{s:Shared}{H:Hp}{E:XK}
theorem Mu{X:Cx}{pins:List (Addr×Obj)}{σ:L2.St}{H':Hp}{s1:Shared}(I:Inv X pins σ H' s1)(hx:X.ex=[]){a:Addr}(h:s1.heap.get? a=none):X.c6.heap.get? a=none:=by
 cases q:X.c6.heap.get? a with
 | none=>rfl
 | some o =>
  obtain ⟨o',e⟩:=I.base.there a o q (by rw [hx];simp)
  rw [h] at e;cases e
theorem RG:Xk (gO (mF P w) P w K mg base N qual scope f cd A outer s H E) λ_ H' c=>E c none H':=by
 intro pins σ H1 s1 e s' I hc
 obtain ⟨ea,c,H',rfl,os,bare,un,bg,⟨new,Cj,T,Cd,hT,tr⟩,hE⟩:=hc
 have J:Inv (gO (mF P w) P w K mg base N qual scope f cd A outer s H E) pins σ H' s':=I.yp os un bg bare (by simp)
 have hl:=J.stack
 have gR:=J.jD
 obtain ⟨a0,fl⟩:=XN tr hl
 show wpAny _ _ (leaving _ _) _ _ s'
 have ne:s.heap.get? ea=none:=Mu I rfl new
 have nT:s.heap.get? T=none:=Mu I rfl Cd
 have hB:∀b o,s'.heap.get? b=some o->b∉jQ (gO (mF P w) P w K mg base N qual scope f cd A outer s H E).stack->b∉[ea,T]->(Ao s'.heap ea T (gO (mF P w) P w K mg base N qual scope f cd A outer s H E).stack).get? b=some o:=λb o q n1 n2 =>
  LL _ q λz=>by
   rcases cL.mp z with z | z
   .exact n2 (by simp [z])
   .rcases cL.mp z with z | z
    .exact n2 (by simp [z])
    .exact n1 z
 refine wpAny_leaves_onW (outer:=outer) J.ok.frames rfl fl λh' CF up=>?_
 have U:=S7 (H:=H') hl hB CF.1 (λ_ _ q=>q) up
 have hx:∀b∈[ea,T],H' b=none:=λb z=>by
  rcases cL.mp z with z | z
  .rw [z];exact Cj
  .rw [je.mp z];exact hT
 have x0:∀b∈[ea,T],s.heap.get? b=none:=λb z=>by
  rcases cL.mp z with z | z
  .rw [z];exact ne
  .rw [je.mp z];exact nT
 refine ⟨ea,c,H',rfl,J.os,bare,?_,S' bg _ hB CF.1 gR hx,⟨ne,Cj,?_⟩,hE⟩
 .refine SD J.base U (λx z=>?_) x0
  rcases cL.mp (J.ig x z) with z | z
  .exact .inr (by rw [z];exact LC J.ok.above)
  .exact .inl z
 .exact Yh bg hl hB CF (λb o q m=>U.any q (gR b m) λz=>by
    obtain ⟨_,o',iO,KN⟩:=hl.mem m
    obtain ⟨oe,vs,a0',oT,ts,he,_,hd,_,_,DZ,DY,_⟩:=tr
    rcases cL.mp z with z | z
    .rw [z,he] at iO;cases iO;exact KN vs hd
    .rw [je.mp z,DZ] at iO;cases iO;exact KN ts DY) gR hx (λb o q=>J.base.there b o q (by show b∉[];simp)) x0
theorem RH:Xr (gO (mF P w) P w K mg base N qual scope f cd A outer s H E) λ_ H' c=>E c none H':=by
 intro pins σ H1 s1 h1 ea c vs J hx hE
 have hl:=J.stack
 have gR:=J.jD
 have ne:s.heap.get? ea=none:=Mu J rfl hx.new
 have hB:∀b o,s1.heap.get? b=some o->b∉jQ (gO (mF P w) P w K mg base N qual scope f cd A outer s H E).stack->b∉([]:List Addr)->(QH s1.heap (jQ (gO (mF P w) P w K mg base N qual scope f cd A outer s H E).stack)).get? b=some o:=λb o q n1 _=>LL _ q n1
 show wpAny _ _ (leaving _ _) _ _ _
 refine wpAny_leaves_madeW (s:={ s1 with heap:=h1 }) (outer:=outer) J.ok.frames rfl (λb o q=>Ra _ q) (T7 hl λL m=>IP _ m) hx λh' t CF _ _ up=>?_
 have U:=S7 (H:=H1) hl hB CF.1 hx.keeps up
 refine ⟨ea,c,H1,rfl,J.os,J.bare,?_,S' J.bg _ hB CF.1 gR (by simp),⟨ne,b20 J.bg hx.new,?_⟩,hE⟩
 .refine SD J.base U (λx z=>?_) (by simp)
  rcases cL.mp (J.ig x z) with z | z
  .exact .inr (by rw [z];exact LC J.ok.above)
  .exact .inl z
 .exact Yh J.bg hl hB CF (λb o q m=>U.any q (gR b m) (by simp)) gR (by simp) (λb o q=>J.base.there b o q (by show b∉[];simp)) (by simp)
end
end DL
namespace DL
open PySem PySem.Spec PyProof.Rows L2
noncomputable def DK(K:aK)(mg:Str->Option Value)(n:Nat)(ρ:List D->Option Str):Sp:=λvs H _ E=>∃(O:Addr->Prop) (ds:List D) (nm:Str),zQ K O H/\aQ K O H vs ds/\vs.length=n/\ρ ds=some nm/\∀c H',mg nm=some c->az H H'->E c none H'
def EX(X:Cx)(W:L2.St->Hp->Value->Prop)(e:Expr)(r:En->Option Str):Prop:=
 ∃t:TE,PE X e t/\∀(O:Addr->Prop) (B:Hp) (σ:L2.St) (H:Hp) (env:En) (nm:Str) (Q:VK),Rel X.K O B σ H env->r env=some nm->(∀c H',X.mg nm=some c->az H H'->W σ H' c)->t σ H Q
noncomputable abbrev RF:=En->Option (Str×En)
def XV(X:Cx)(W:L2.St->Hp->Value->Prop)(st:Stmt)(r:RF):Prop:=
 ∃t:TS,PS X st t/\∀(O:Addr->Prop) (B:Hp) (σ:L2.St) (H:Hp) (env:En) (nm:Str) (ag:En) (D:Ends),Rel X.K O B σ H env->r env=some (nm,ag) ->
  (∀aG H' c,X.mg nm=some c->Rel X.K O B aG H' ag->Gd σ env H aG ag H'->W aG H' c)->t D σ H
def wM(X:Cx)(W:L2.St->Hp->Value->Prop)(st:List Stmt)(r:RF):Prop:=
 ∃t:TS,oz X st t/\∀(O:Addr->Prop) (B:Hp) (σ:L2.St) (H:Hp) (env:En) (nm:Str) (ag:En) (D:Ends),Rel X.K O B σ H env->r env=some (nm,ag) ->
  (∀aG H' c,X.mg nm=some c->Rel X.K O B aG H' ag->Gd σ env H aG ag H'->W aG H' c)->t D σ H
section
variable {X:Cx}{W:L2.St->Hp->Value->Prop}{e a b c:Expr}{es:List Expr}{st:Stmt}{rest sa sb:List Stmt}{F G:SF}{r r':RF}{re:En->Option Str}{fa:En->Option Sl}{ga:En->Option Bool}{fs:En->Option (List D)}{pos p au np:Pos}
noncomputable def pY:RF:=λ_=>none
noncomputable def oj:SF:=λ_=>none
theorem yK:SV X st oj:=⟨λ_ _ _=>False,λ_ _ _ _ _ _ h=>h.elim,λ_ _ _ _ _ _ _ _ _ e _=>by cases e⟩
theorem FN:XV X W st pY:=⟨λ_ _ _=>False,λ_ _ _ _ _ _ h=>h.elim,λ_ _ _ _ _ _ _ _ _ e _=>by cases e⟩
theorem EV.b8(h:EV X.b8 e fa):EV X e fa:=let ⟨t,p,k⟩:=h;⟨t,p.b8,k⟩
theorem TV.b8(h:TV X.b8 e ga):TV X e ga:=let ⟨t,p,k⟩:=h;⟨t,p.b8,k⟩
theorem lz.b8(h:lz X.b8 rest F):lz X rest F:=let ⟨t,p,k⟩:=h;⟨t,p.b8,k⟩
theorem SV.b8(h:SV X.b8 st F):SV X st F:=let ⟨t,p,k⟩:=h;⟨t,λpins s σ H D I hw=>jy (p pins s σ H D (I.gW _) hw) (λ_ _ q=>q.cG) λ_ _ z=>eA z,k⟩
theorem AV.b8(h:AV X.b8 es fs):AV X es fs:=let ⟨t,p,k⟩:=h;⟨t,λpo pins s σ H Q I hw=>jy (p po pins s σ H Q (I.gW _) hw) (λ_ _ ⟨v,H',I',r,q⟩=>⟨v,H',I'.cG,r,q⟩) λ_ _ z=>eA z,k⟩
theorem JF:wM X W [] pY:=⟨λ_ _ _=>False,λ_ _ _ _ _ _ h=>h.elim,λ_ _ _ _ _ _ _ _ _ e _=>by cases e⟩
noncomputable def oZ(r:RF)(F:SF)(r':RF):RF:=λenv=>match r env with
 | some x=>some x
 | none=>match F env with
  | some (.nx,env1)=>r' env1
  | _=>none
theorem uM(h:XV X W st r):wM X W [st] r:=let ⟨t,p,k⟩:=h;⟨t,SK p,k⟩
theorem Zt(h:XV X W st r)(hv:SV X st F)(h2:wM X W rest r'):wM X W (st::rest) (oZ r F r'):=by
 obtain ⟨t,p,k⟩:=h
 obtain ⟨v,pv,kv⟩:=hv
 obtain ⟨u,p',k'⟩:=h2
 refine ⟨λD σ H=>t { D with nx:=u D } σ H\/v { D with nx:=u D } σ H,λpins s σ H D I hw=>?_,λO B σ H env nm ag D R e q=>?_⟩
 .rcases hw with hw | hw
  .exact yJ p p' pins s σ H D I hw
  .exact yJ pv p' pins s σ H D I hw
 .unfold oZ at e
  cases hr:r env with
  | some x =>
   rw [hr] at e
   obtain rfl:=gp e
   exact .inl (k O B σ H env nm ag _ R hr q)
  | none =>
   rw [hr] at e
   cases hF:F env with
   | none=>rw [hF] at e;cases e
   | some x =>
    obtain ⟨fl,env1⟩:=x
    rw [hF] at e
    cases fl with
    | nx=>exact .inr (kv O B σ H env .nx env1 _ R hF λaG H' R' g'=>k' O B aG H' env1 nm ag D R' e λcF H2 c hc R2 g2=>q cF H2 c hc R2 (g'.trans g2))
    | bk=>cases e
    | ct=>cases e
    | rt z=>cases e
noncomputable def pZ(c:En->Option Bool)(r r':RF):RF:=λenv=>match c env with
 | some true=>r env
 | some false=>r' env
 | none=>none
theorem Jj(hc:TV X c ga)(ha:wM X W sa r)(hb:wM X W sb r'):XV X W (.If c sa sb pos) (pZ ga r r'):=by
 obtain ⟨tc,pc,kc⟩:=hc
 obtain ⟨t,p,k⟩:=ha
 obtain ⟨u,p',k'⟩:=hb
 refine ⟨_,XC pc p p',λO B σ H env nm ag D R e q=>?_⟩
 unfold pZ at e
 cases h:ga env with
 | none=>rw [h] at e;cases e
 | some x =>
  rw [h] at e
  refine kc O B σ H env x _ R h λH1 s1=>?_
  cases x with
  | true =>
   rw [if_pos rfl]
   exact k O B σ H1 env nm ag D (R.grow s1) e λcF H2 c hc R2 g2=>q cF H2 c hc R2 ((Gd.refl s1).trans g2)
  | false =>
   rw [if_neg wj]
   exact k' O B σ H1 env nm ag D (R.grow s1) e λcF H2 c hc R2 g2=>q cF H2 c hc R2 ((Gd.refl s1).trans g2)
noncomputable def rE(re:En->Option Str):RF:=λenv=>(re env).map λnm=>(nm,env)
theorem SG(h:EX X W e re)(hs:swapsWith e none pos.line X.env=pure false:=by rfl):XV X W (.Expr e pos) (rE re):=by
 obtain ⟨t,p,k⟩:=h
 refine ⟨_,zI p hs,λO B σ H env nm ag D R e q=>?_⟩
 obtain ⟨n1,e1,e2⟩:=map_some e
 cases e2
 exact k O B σ H env nm _ R e1 λc H' hc s=>q σ H' c hc (R.grow s) (Gd.refl s)
noncomputable def yI(n:Nat)(ρ:List D->Option Str)(fs:En->Option (List D)):En->Option Str:=λenv=>(fs env).bind λds=>if ds.length=n then ρ ds else none
theorem Xj{k:Nat}{f:Addr}{fd:FuncData}{ps:List Str}{sp:Sp}{pins:List (Addr×Obj)}{σ:L2.St}{H:Hp}{s:Shared}{Q:VK}{us:List Value}{vs:List V}(F:bD X.prog X.w X.K X.mg X.base (mF X.prog X.w) k f fd ps sp)(hr:bZ k X.A)(hb:Binds X.K fd ps [])(hx:Xk X W)
  (I:Inv X pins σ H s)(rv:aL vs us)(h:sp (vs++[]) H Q λc _ H'=>W σ H' c):wpAny (model X.prog X.w) X.A (call (.ref f) us) (EP X pins σ Q) X.xe s:=by
 have r2:aL (vs++[]) (us++[]):=rv.append .nil
 have hl:(us++[]).length=ps.length:=by rw [<-r2.length];exact F.len _ _ _ _ h
 refine CP (zx (F.run X.A X.stack s H ⟨us,[]⟩ (us++[]) (vs++[]) Q _ hr I.jR (hb s us I.kA hl) r2 h) λz s' hq=>?_)
 cases z with
 | error e=>exact hx pins σ H s e s' I hq
 | ok fl =>
  cases fl with
  | ret u=>exact I.after hq
  | next=>exact eA hq
  | brk=>exact eA hq
  | cont=>exact eA hq
theorem b50{k:Nat}{f:Addr}{fd:FuncData}{ps:List Str}{ρ:List D->Option Str}{x:Str}(F:bD X.prog X.w X.K X.mg X.base (mF X.prog X.w) k f fd ps (DK X.K X.mg ps.length ρ))(hr:bZ k X.A)(hg:Gl X x)(hm:X.mg x=some (.ref f))(hk:sW X.K (.ref f)=true)(hb:Binds X.K fd ps [])
  (hx:Xk X W)(ha:AV X (e::es) fs)(eY:(x==("__debug__":Str))=false:=by decide)(he:starEach (e::es) X.env=(false,eval e X.env)::starEach es X.env:=by rfl)(fm:(backTo pos (starEach es X.env)).any (·.1)=false:=by rfl):
  EX X W (.Call (.Name x p) (e::es) [] pos) (yI ps.length ρ fs):=by
 obtain ⟨t,pt,ka⟩:=ha
 refine ⟨λσ H Q=>t σ H λvs H1=>DK X.K X.mg ps.length ρ (vs++[]) H1 Q λc _ H'=>W σ H' c,λpins s σ H Q I h=>?_,λO B σ H env nm Q R e q=>?_⟩
 .refine C6 (zH I hg hm ?_ eY)
  refine Ey (h₀:=X.base) I.ok.mod.vB hk (bJ (pt pos pins s σ H _ I h) λus s1 ⟨vs,H1,I1,r,q⟩=>⟨I1.kA,?_⟩) he fm
  exact Xj F hr hb hx I1 r q
 .obtain ⟨ds,e1,e2⟩:=bind_some e
  refine ka O B σ H env ds _ R e1 λvs H1 s1 r1=>?_
  by_cases hn:ds.length=ps.length
  .rw [if_pos hn] at e2
   rw [yu]
   exact ⟨OO O σ env,ds,nm,(R.grow s1).dm,r1,by rw [r1.length,hn],e2,λc H' hc s=>q c H' hc (s1.trans s)⟩
  .rw [if_neg hn] at e2;cases e2
end
noncomputable abbrev EL:List Value:=[.type "ValueError",.type "Exception",.type "BaseException",.type "object"]
structure uT(K:aK)(C:Addr):Prop where
 ob:∃(bm:List Value) (N:Addr) (nm q:Str) (bs:List Value) (hdct:Bool) (sn:List Str) (sub:List Value) (ab:Bool) (col:Option Bool) (dd:Option Addr) (k0 k1 k2 k3 k5:Option Value),K.lookup C=some (excClassObj nm q C N bs bm hdct sn sub ab col dd k0 k1 k2 k3 k5 "ValueError.__new__") /\
  Ek K N=true/\iJ K N "__init__" = some none/\Ej K EL bm=true
section
variable {X:Cx}{W:L2.St->Hp->Value->Prop}{e:Expr}{es:List Expr}{fs:En->Option (List D)}{pos p au np:Pos}{x:Str}{C:Addr}
noncomputable def oi(nm:Str)(fs:En->Option (List D)):RF:=λenv=>(fs env).bind λds=>if ds.length<=16777216 then some (nm,env) else none
theorem JJ(hc:X.calm=true)(hx:Xr X W)(ec:uT X.K C)(hg:Gl X x)(hm:X.mg x=some (.ref C))(ha:AV X (e::es) fs)(eY:(x==("__debug__":Str))=false:=by decide)
  (he:starEach (e::es) X.env=(false,eval e X.env)::starEach es X.env:=by rfl)(fm:(backTo au (starEach es X.env)).any (·.1)=false:=by rfl):XV X W (.Raise (some (.Call (.Name x np) (e::es) [] au)) none pos) (oi x fs):=by
 obtain ⟨t,pt,ka⟩:=ha
 refine ⟨λD σ H=>t σ H λvs H1=>vs.length<=sizeLine/\W σ H1 (.ref C),λpins s σ H D I h=>?_,λO B σ H env nm ag D R e q=>?_⟩
 .obtain ⟨bm,N,nm,q,bs,hdct,sn,sub,ab,col,dd,k0,k1,k2,k3,k5,lk,n1,n2,tl⟩:=ec.ob
  have T:=V' I.kA tl
  refine wpAny_Raise_call_subT (C:=C) (nm:=nm) (q:=q) (N:=N) (bs:=bs) (bm:=bm) (hdct:=hdct) (sn:=sn) (sub:=sub) (ab:=ab) (col:=col) (dd:=dd) (k0:=k0) (k1:=k1) (k2:=k2) (k3:=k3) (k5:=k5)
   PySem.F.excBase_ValueError (mN:=X.base.nsMap N) (T.hasType (by decide +kernel)) (I.ok.hd hc) (by rw [he];show (false||(backTo au (starEach es X.env)).any (·.1))=false;rw [fm];rfl) (PySem.W.nsMap_none_of_in I.mod.vB n1 n2) (zH I hg hm ⟨rfl,?_⟩ eY)
  have h1:=pt au pins s σ H _ I h
  rw [he] at h1 ⊢
  refine WM (jy h1 (λus s2 ⟨vs,H2,I2,r2,hl,q2⟩=>?_) λ_ _ y=>y)
  exact ⟨rfl,by show us.length<=_;rw [<-r2.length];exact hl,I2.kA _ _ lk,(Heap.Ns.of_isNs (PySem.W.isNs_of_in I2.mod.vB n1)).keeps I2.bk,V' I2.kA tl,λh' ea hm=>hx pins σ H2 s2 h' ea _ _ I2 hm q2⟩
 .obtain ⟨ds,e1,e2⟩:=bind_some e
  obtain ⟨hl,e3⟩:=jg e2
  cases e3
  exact ka O B σ H env ds _ R e1 λvs H1 s1 r1=>⟨by rw [r1.length,lr];exact hl,q σ H1 _ hm (R.grow s1) (Gd.refl s1)⟩
end
section
variable {P:Program}{w:World}{K:aK}{mg:Str->Option Value}{base:Heap}
noncomputable def lR(r:RF)(N:Nat)(ds:List D):Option Str:=(r (iS N ds)).map (·.1)
theorem HW{x qual:Str}{st:Stmt}{f:Addr}{fd:FuncData}{N ps:List Str}{k:Nat}{r:RF}(Fn:tL K x qual st f fd)(S:bC N ps (dg st))
  (br:∀(X:Cx) (W:L2.St->Hp->Value->Prop),X.prog=P->X.w=w->X.K=K->X.mg=mg->X.base=base->Fx X.b8 N (dg st) k->Xk X W->Xr X W->wM X W (hV st) r):bD P w K mg base (mF P w) (k+1) f fd ps (DK K mg ps.length (lR r N.length)):=by
 obtain ⟨oc,od,kV,doc,pm,an,dX,ct,xD,rfl,lk,bM⟩:=Fn.ex
 refine L4 lk bM S (λvs H Q E h=>?_) λA outer s H vs Q E hr sG=>?_
 .obtain ⟨O,ds,nm,_,_,hl,_⟩:=h
  exact hl
 obtain ⟨O,ds,nm,hO,hi,hl,e,q⟩:=sG
 obtain ⟨t,p,kk⟩:=br (gO (mF P w) P w K mg base N qual (dg st) f dX A outer s H E) (λ_ H' c=>E c none H') rfl rfl rfl rfl rfl ⟨rfl,rfl,rfl,λ_ _=>rfl,AN,hr,S.nd,λ_=>⟨rfl,rfl,rfl⟩⟩ RG RH
 obtain ⟨⟨GS,ag⟩,e1,e2⟩:=map_some e
 cases e2
 exact ⟨t,p,kk O H (start N vs) H (iS N.length ds) GS ag _ (Fg hO hi) e1 λaG H' c hc R' _=>q c H' hc R'.same⟩
end
def Xz(P:Program)(w:World)(K:aK)(mg:Str->Option Value)(base:Heap)(x:Str)(st:Stmt)(ps:List Str)(j:Nat)(ρ:List D->Option Str):Prop:=∃f fd,Def K mg x st ps f fd/\bD P w K mg base (mF P w) j f fd ps (DK K mg ps.length ρ)
theorem HQ{P:Program}{w:World}{K:aK}{mg:Str->Option Value}{base:Heap}{x:Str}{st:Stmt}{f:Addr}{fd:FuncData}{N ps:List Str}{k:Nat}{r:RF}(D':Def K mg x st ps f fd)
  (br:∀(X:Cx) (W:L2.St->Hp->Value->Prop),Sx X P w K mg base->Fx X.b8 N (dg st) k->Xk X W->Xr X W->wM X W (hV st) r)(S:bC N ps (dg st):=by exact ⟨rfl,rfl,rfl,by decide +kernel,rfl,by decide +kernel,by decide +kernel⟩):Xz P w K mg base x st ps (k+1) (lR r N.length):=
 ⟨f,fd,D',HW D'.fn S λX W e1 e2 e3 e4 e5=>by subst e1 e2 e3 e4 e5;exact br X W (.mk X)⟩
theorem Fx.Ux{X:Cx}{W:L2.St->Hp->Value->Prop}{N:List Str}{sc:Scope}{k j:Nat}{full:Bool}{x:Str}{st:Stmt}{ps:List Str}{ρ:List D->Option Str}{e:Expr}{es:List Expr}{fs:En->Option (List D)}{p pos:Pos}(h:Fx X.b8 N sc k full)(O:Xz X.prog X.w X.K X.mg X.base x st ps j ρ)(hx:Xk X W)(ha:AV X (e::es) fs)(hj:j<=k:=by decide)(hg:sc.names.lookup x=some .globalImplicit:=by rfl)(eY:(x==("__debug__":Str))=false:=by decide)(he:starEach (e::es) X.env=(false,eval e X.env)::starEach es X.env:=by rfl)(fm:(backTo pos (starEach es X.env)).any (·.1)=false:=by rfl):
  EX X W (.Call (.Name x p) (e::es) [] pos) (yI ps.length ρ fs):=by
 obtain ⟨f,fd,D',F⟩:=O
 exact b50 F (h.room.mono hj) (h.g hg) D'.m D'.fn.kp D'.bd hx ha eY he fm
end DL
namespace DL
open PySem PySem.Spec PyProof.Rows L2
section
variable {X:Cx}{pins:List (Addr×Obj)}{σ:L2.St}{H:Hp}{s:Shared}{h':Heap}
theorem b5P(J:Inv X pins σ H s)(hx:X.ex=[])(U:Un (jQ X.stack) K2 H H s.heap h')(bg:g7 X.prog X.w H h')
  (n0:∀b∈K2,X.c6.heap.get? b=none/\b≠X.env.locals/\(∀x c,X.env.cells.lookup x=some c->c≠b)/\∀p∈X.pn++pins,p.1≠b):Inv X pins σ H { s with heap:=h' }:=by
 have cellK:∀x c v,X.env.cells.lookup x=some c->s.heap.IsCell c v->h'.IsCell c v:=λx c v e ⟨o,ho,hd⟩=>by
  obtain ⟨sl,q⟩:=U.any ho (J.dz x c e) λz=>(n0 c z).2.2.1 x c e rfl
  exact ⟨_,q,hd⟩
 have hb:=J.base
 rw [hx] at hb
 refine ⟨J.ok,J.os,J.bare,?_,?_,λx c e=>?_,J.free,J.dz,λp hp=>?_,bg,J.len⟩
 .rw [hx]
  refine SD hb U (λx z=>?_) λb z=>(n0 b z).1
  rcases cL.mp (J.ig x z) with z | z
  .exact .inr (by rw [z];exact LC J.ok.above)
  .exact .inl z
 .obtain ⟨m,⟨o,es,ep,ho,r⟩,hl⟩:=J.loc
  obtain ⟨sl,q⟩:=U.any ho J.free λz=>(n0 _ z).2.1 rfl
  refine ⟨m,⟨_,es,ep,q,r⟩,λi x v e1 e2 e3=>?_⟩
  obtain ⟨u,ru,l⟩:=hl i x v e1 e2 e3
  refine ⟨u,ru,?_⟩
  rcases l with l | ⟨k,c,e,z⟩
  .exact .inl l
  .exact .inr ⟨k,c,e,cellK x c _ e z⟩
 .obtain ⟨v,z⟩:=J.cell x c e
  exact ⟨v,cellK x c v e z⟩
 .obtain ⟨e,n,ne,nf,d⟩:=J.pin p hp
  exact ⟨U.keep p.1 p.2 e n (λz=>(cL.mp (J.ig _ z)).elim ne nf) λz=>(n0 p.1 z).2.2.2 p hp rfl,n,ne,nf,d⟩
theorem b1B(J:Inv X pins σ H s)(h1:H e=none)(h0:X.c6.heap.get? e=none)(h2:mn e C s.heap)(h3:e≠X.env.locals)(h4:∀x c,X.env.cells.lookup x=some c->c≠e)(h5:∀p∈X.pn++pins,p.1≠e):
  Inv X pins σ (upd H e (.ext (mn e C))) s:=by
 have ne:∀{b:Addr} {u:HO},H b=some u->b≠e:=λq=>pO q h1
 refine ⟨J.ok,J.os,J.bare,⟨J.base.keep,J.base.slot,λb o q n hx=>?_,J.base.there,λb xs q=>?_,λb o u q=>?_,λb ps q=>?_⟩,J.loc,J.cell,?_,λx c q=>?_,λp hp=>?_,λb u q=>?_,J.len⟩
 .rw [dW (λz=>by rw [z,h0] at q;cases q)];exact J.base.free b o q n hx
 .have:=J.base.jB b xs q;rw [dW (ne this)];exact this
 .have:=J.base.jl b o u q;rw [dW (ne this)];exact this
 .obtain ⟨m,q'⟩:=J.base.jC b ps q;exact ⟨m,by rw [dW (ne q')];exact q'⟩
 .rw [dW (lx h3)];exact J.free
 .rw [dW (h4 x c q)];exact J.dz x c q
 .obtain ⟨a,n,r⟩:=J.pin p hp
  exact ⟨a,by rw [dW (h5 p hp)];exact n,r⟩
 .by_cases hb:b=e
  .subst hb
   rw [kn] at q;cases q
   obtain ⟨o,ho,hc⟩:=h2
   exact ⟨⟨o,ho,hc⟩,⟨o,ho⟩,λg1 g2 ⟨o1,e1,e2⟩ k=>⟨o1,k o1 e1,e2⟩⟩
  .rw [dW hb] at q
   exact (J.bg b u q).nL (λ_ _ _ z=>z) (λc _ _ z=>by rw [dW (ne z)];exact z) λc xs z=>by rw [dW (ne z)];exact z
noncomputable abbrev HC(X:Cx)(v:Value):Cx:={ X with A:=X.A.mark (some v),calm:=false,xe:=λ_ _=>False }
theorem Zf(J:Inv X pins σ H s)(v:Value):Inv (HC X v) pins σ H s:=
 ⟨⟨J.ok.mod,J.ok.kind,J.ok.glob,J.ok.blt,J.ok.above,J.ok.inj,J.ok.has,J.ok.CJ,λz=>(nomatch z),J.ok.frames,J.ok.DI,J.ok.K1,J.ok.bs,J.ok.yB,J.ok.qD,J.ok.ui,J.ok.jO,J.ok.AD⟩,J.os,J.bare,J.base,J.loc,J.cell,J.free,J.dz,J.pin,J.bg,J.len⟩
theorem MO(ok:X.Ok)(J:Inv (HC X v) pins σ H s):Inv X pins σ H s:=⟨ok,J.os,J.bare,J.base,J.loc,J.cell,J.free,J.dz,J.pin,J.bg,J.len⟩
noncomputable abbrev Kz(X:Cx)(pins:List (Addr×Obj))(E:Value->Shared->Prop):Cx:={ X with xe:=E,pn:=X.pn++pins }
theorem b5O(J:Inv X pins σ H s)(E:Value->Shared->Prop):Inv (Kz X pins E) [] σ H s:=
 ⟨⟨J.ok.mod,J.ok.kind,J.ok.glob,J.ok.blt,J.ok.above,J.ok.inj,J.ok.has,J.ok.CJ,J.ok.hd,J.ok.frames,J.ok.DI,J.ok.K1,J.ok.bs,J.ok.yB,J.ok.qD,J.ok.ui,J.ok.jO,J.ok.AD⟩,J.os,J.bare,J.base,J.loc,J.cell,J.free,J.dz,λp hp=>J.pin p (by simpa using hp),J.bg,J.len⟩
theorem b1A(ok:X.Ok)(J:Inv (Kz X pins E) more σ H s):Inv X pins σ H s:=
 ⟨ok,J.os,J.bare,J.base,J.loc,J.cell,J.free,J.dz,λp hp=>J.pin p (mC _ hp),J.bg,J.len⟩
theorem name_goes{M:Model}{A:Around}{E:Value->Shared->Prop}{i:Nat}{n:Str}{pos:Pos}{Q:Unit->Shared->Prop}(J:Inv X pins σ H s)(hN:X.N.Nodup)(hi:X.N[i]?=some n)(hl:X.env.kindOf n=some .local)
  (q:∀s',Inv X pins (σ.set i none) H s'->Q () s'):wpAny M A (do bindName X.env n .none;unbindBehindTheSuite X.env n pos) Q E s:=by
 obtain ⟨m,hn,KP⟩:=id J.loc
 have Cv:(X.env.scope.kind==.class||(X.env.scope.kind==.module&&X.env.locals != X.env.globals))=false:=by rw [J.ok.kind];rfl
 refine wpAny_nameGoes_keeps hl hn Cv λh1 v hn1 sb=>q _ ?_
 have sm:∀b o,b≠X.env.locals->s.heap.get? b=some o->h1.get? b=some o:=λb o hb e=>(sb.2 b hb).trans e
 have DP:∀b o,X.c6.heap.get? b=some o->b≠X.env.locals:=λb o e=>fg (n5 (dU e) J.ok.above)
 refine ⟨J.ok,J.os,J.bare,⟨λb o e k f x=>sm b o (DP b o e) (J.base.keep b o e k f x),λb o e k f x=>?_,J.base.free,λb o e x=>?_,J.base.jB,J.base.jl,J.base.jC⟩,⟨_,hn1,λj y w e1 e2 e3=>?_⟩,λx c e=>?_,J.free,J.dz,λp hp=>?_,λb u e=>?_,by rw [QE];exact J.len⟩
 .obtain ⟨sl,e1⟩:=J.base.slot b o e k f x
  exact ⟨sl,sm b _ (DP b o e) e1⟩
 .obtain ⟨o',e1⟩:=J.base.there b o e x
  exact ⟨o',sm b _ (DP b o e) e1⟩
 .have hj:j≠i:=λz=>by
   subst z
   rw [n6 (by rw [J.len];exact (pH.mp hi).1)] at e2
   cases e2
  rw [jo (lx hj)] at e2
  obtain ⟨u',r',q'⟩:=KP j y w e1 e2 e3
  refine ⟨u',r',?_⟩
  rcases q' with ⟨k,e⟩ | ⟨k,c,e,z⟩
  .refine .inl ⟨k,?_⟩
   have:y≠n:=λe=>hj (S8 hN e1 (e▸hi))
   simp [this,e]
  .exact .inr ⟨k,c,e,z.sameBut sb (J.AH y c e)⟩
 .obtain ⟨w',z⟩:=J.cell x c e
  exact ⟨w',z.sameBut sb (J.AH x c e)⟩
 .obtain ⟨e,n,ne,nf,d⟩:=J.pin p hp
  exact ⟨sm p.1 p.2 ne e,n,ne,nf,d⟩
 .refine (J.bg b u e).nL (λc w hc z=>sm c w ?_ z) (λ_ _ _ z=>z) λ_ _ z=>z
  rintro rfl
  rcases hc with hc | hc
  .rw [<-hc,J.free] at e;cases e
  .rw [J.free] at hc;cases hc
end
theorem Rel.drop{K:aK}{O:Addr->Prop}{B H:Hp}{σ:L2.St}{env:En}(R:Rel K O B σ H env)(i:Nat):Rel K O B (σ.set i none) H (env.set i .no)/\Gd σ env H (σ.set i none) (env.set i .no) H:=by
 have own:∀q,oN (σ.set i none) (env.set i .no) q->oN σ env q:=λq ⟨j,ds,e1,o,e2⟩=>by
  by_cases hj:j=i
  .subst hj
   rw [Qv] at e1
   simp at e1
   rw [<-e1.2] at o
   exact o.elim
  .rw [jo (lx hj)] at e1 e2
   exact ⟨j,ds,e1,o,e2⟩
 have oo:∀q,OO O (σ.set i none) (env.set i .no) q->OO O σ env q:=λq z=>z.elim .inl λz=>.inr (own q z)
 have at_:∀{j:Nat} {x:Sl},(env.set i .no)[j]?=some x->x≠.no->j≠i/\env[j]?=some x:=λ{j x} e hx=>by
  by_cases hj:j=i
  .subst hj
   rw [Qv] at e
   simp at e
   exact absurd e.2.symm hx
  .rw [jo (lx hj)] at e
   exact ⟨hj,e⟩
 refine ⟨⟨R.same,R.p8,by simp [R.len],λj d e=>?_,λj ds e=>?_,λj ds e=>?_,λj ks ds e=>?_,λj k ds es p e1 e2 e3 e4 o1 o2=>?_⟩,λq u e n=>⟨e,λz=>n (own q z)⟩⟩
 .obtain ⟨hj,e⟩:=at_ e (λz=>nomatch z)
  obtain ⟨v,e1,h⟩:=R.sh j d e
  exact ⟨v,by rw [jo (lx hj)];exact e1,h.less oo⟩
 .obtain ⟨hj,e⟩:=at_ e (λz=>nomatch z)
  obtain ⟨p,xs,e1,e2,e3,h⟩:=R.ow j ds e
  exact ⟨p,xs,by rw [jo (lx hj)];exact e1,e2,e3,h.less oo⟩
 .obtain ⟨hj,e⟩:=at_ e (λz=>nomatch z)
  obtain ⟨p,e1,e2,e3⟩:=R.dw j ds e
  exact ⟨p,by rw [jo (lx hj)];exact e1,e2,e3⟩
 .obtain ⟨hj,e⟩:=at_ e (λz=>nomatch z)
  obtain ⟨p,xs,e1,e2,e3,e4,h⟩:=R.tw j ks ds e
  exact ⟨p,xs,by rw [jo (lx hj)];exact e1,e2,e3,e4,h.less oo⟩
 .obtain ⟨hj,e1⟩:=at_ e1 (λz=>by rw [z] at o1;exact o1)
  obtain ⟨hk,e2⟩:=at_ e2 (λz=>by rw [z] at o2;exact o2)
  rw [jo (lx hj)] at e3
  rw [jo (lx hk)] at e4
  exact R.sep j k ds es p e1 e2 e3 e4 o1 o2
end DL
namespace DL
open PySem PySem.Spec PyProof.Rows L2
structure Hx(X:Cx)(N:List Str)(sc:Scope):Prop where
 n:X.N=N
 sc:X.env.scope=sc
 fn:∀x,X.fn x=true
 nd:N.Nodup
noncomputable def mL(i:Nat)(hit:Str->Bool)(Fb:SF)(rb:RF)(Fh:SF):SF:=λenv=>match Fb env with
 | some x=>some x
 | none=>match rb env with
  | none=>none
  | some (nm,env1)=>if hit nm=true/\i<env1.length then (match Fh (env1.set i (.sh (.exc nm))) with
    | some (fl,a8)=>some (fl,a8.set i .no)
    | none=>none) else none
section
variable {X:Cx}{N:List Str}{sc:Scope}{k i:Nat}{n Cn:Str}{hc:Value}{body w4:List Stmt}{b0:Stmt}{Fb Fh:SF}{rb:RF}{hit:Str->Bool}{np Hi pos:Pos}
theorem b7g(h:Fx X N sc k)(hi:N[i]?=some n)(KP:sc.names.lookup n=some .local)(hg:Gl X Cn)(hm:X.mg Cn=some hc)
  (HE:∀nm c,hit nm=true->X.mg nm=some c->∃C,c=.ref C/\iJ X.K mainGlobals nm=some (some (.ref C))/\yA X.K (.ref C) hc=some true)
  (hb:∀X':Cx,X'.prog=X.prog->X'.w=X.w->X'.K=X.K->X'.mg=X.mg->X'.base=X.base->Fx X' N sc k->lz X' body Fb)
  (hx:∀(X':Cx) (W:L2.St->Hp->Value->Prop),X'.prog=X.prog->X'.w=X.w->X'.K=X.K->X'.mg=X.mg->X'.base=X.base->Fx X'.b8 N sc k->Xk X' W->wM X' W body rb)
  (hh:∀X':Cx,X'.prog=X.prog->X'.w=X.w->X'.K=X.K->X'.mg=X.mg->X'.base=X.base->Hx X' N sc->lz X' (b0::w4) Fh)
  (eY:(Cn==("__debug__":Str))=false:=by decide):
  SV X (.Try body [.ExceptHandler (some (.Name Cn np)) (some n) (b0::w4) Hi] [] [] pos) (mL i hit Fb rb Fh):=by
 refine ⟨λD σ H=>∃(O:Addr->Prop) (B:Hp) (env:En) (fl:Fl) (ag:En),Rel X.K O B σ H env/\mL i hit Fb rb Fh env=some (fl,ag)/\fF X.K O B σ H env D fl ag,λpins s σ H D I hw=>?_,λO B σ H env fl ag D R e q=>⟨O,B,env,fl,ag,R,e,q⟩⟩
 obtain ⟨O,B,env,fl,ag,R,e,q⟩:=hw
 refine wpAny_Try_except ?_
 unfold mL at e
 cases hF:Fb env with
 | some x =>
  obtain ⟨f1,env1⟩:=x
  rw [hF] at e
  cases e
  obtain ⟨t,p,kk⟩:=hb X.b8 rfl rfl rfl rfl rfl ⟨h.n,h.sc,h.calm,h.fn,AN,h.room,h.nd,h.top⟩
  refine jy (p pins s σ H D (I.gW _) (kk O B σ H env fl ag D R hF q)) (λf s1 hq=>?_) λ_ _ z=>eA z
  have hq:=hq.cG
  cases f with
  | next=>exact IC hq
  | brk=>exact hq
  | cont=>exact hq
  | ret u=>exact hq
 | none =>
  rw [hF] at e
  dsimp only at e
  cases hr:rb env with
  | none=>rw [hr] at e;cases e
  | some y =>
  obtain ⟨nm,env1⟩:=y
  rw [hr] at e
  dsimp only at e
  obtain ⟨⟨Pk,Hs⟩,e⟩:(hit nm=true/\i<env1.length)/\(match Fh (env1.set i (.sh (.exc nm))) with
    | some (fl,a8)=>some (fl,a8.set i .no)
    | none=>none)=some (fl,ag):=by
   split at e
   .rename_i hh;exact ⟨hh,e⟩
   .cases e
  cases hH:Fh (env1.set i (.sh (.exc nm))) with
  | none=>rw [hH] at e;cases e
  | some z =>
  obtain ⟨f2,a8⟩:=z
  rw [hH] at e
  cases e
  obtain ⟨qI,Hw,hex⟩:=h.top rfl
  have xk:Xk (Kz X pins λe aR=>wpAny (model X.prog X.w) X.A (noteFrame e X.env) (λ_ eB=>wpAny (model X.prog X.w) X.A (setFlight e none) (λ_ oV=>wpAny (model X.prog X.w) X.A (handleBy e X.env [.ExceptHandler (some (.Name Cn np)) (some n) (b0::w4) Hi]) (SP X pins D) X.xe oV) X.xe eB) X.xe aR)
    (λaG H' c=>X.mg nm=some c/\Rel X.K O B aG H' env1/\Gd σ env H aG env1 H'):=by
   intro Vj kF H1 s1 e1 s' I1 xX
   obtain ⟨ea,c,H',rfl,os,bare,un,bg,⟨new,Cj,T,Cd,hT,tr⟩,hmc,R1,g1⟩:=xX
   obtain ⟨C,rfl,Bp,Pn⟩:=HE nm c Pk hmc
   have Kh:Inv X pins kF H1 s1:=b1A I.ok I1
   have J:Inv X pins kF H' s':=Kh.yp os un bg bare (by simp)
   have hl:=J.stack
   have gR:=J.jD
   obtain ⟨a0,fly⟩:=XN tr hl
   have fresh:∀a,s1.heap.get? a=none->X.c6.heap.get? a=none/\a≠X.env.locals/\(∀x c,X.env.cells.lookup x=some c->c≠a)/\∀p∈X.pn++pins,p.1≠a:=λa ha=>by
    refine ⟨Mu Kh hex ha,λz=>?_,λx c e z=>?_,λp hp z=>?_⟩
    .obtain ⟨m,⟨o,_,_,ho,_⟩,_⟩:=Kh.loc
     rw [<-z,ha] at ho;cases ho
    .obtain ⟨v,o,ho,_⟩:=Kh.cell x c e
     rw [z,ha] at ho;cases ho
    .have:=(Kh.pin p hp).1
     rw [z,ha] at this;cases this
   have n0:∀b∈[ea,T],X.c6.heap.get? b=none/\b≠X.env.locals/\(∀x c,X.env.cells.lookup x=some c->c≠b)/\∀p∈X.pn++pins,p.1≠b:=λb z=>by
    rcases cL.mp z with z | z
    .rw [z];exact fresh ea new
    .rw [je.mp z];exact fresh T Cd
   have hx0:∀b∈[ea,T],H' b=none:=λb z=>by
    rcases cL.mp z with z | z
    .rw [z];exact Cj
    .rw [je.mp z];exact hT
   have hB:∀b o,s'.heap.get? b=some o->b∉jQ X.stack->b∉[ea,T]->(Ao s'.heap ea T X.stack).get? b=some o:=λb o q n1 n2 =>
    LL _ q λz=>by
     rcases cL.mp z with z | z
     .exact n2 (by simp [z])
     .rcases cL.mp z with z | z
      .exact n2 (by simp [z])
      .exact n1 z
   have land:∀h5:Heap,(Ao s'.heap ea T X.stack).StaysIn h5->s'.heap.UpToSlots h5->Inv X pins kF H' { s' with heap:=h5 }:=λh5 st up =>
    b5P J hex (S7 (H:=H') hl hB st (λ_ _ q=>q) up) (S' bg _ hB st gR hx0) n0
   show wpAny (model X.prog X.w) X.A (noteFrame (.ref ea) X.env) _ X.xe s'
   have HY:=fly
   rw [qI] at HY
   refine wpAny_looks_onW (env:=X.env) (outer:=X.outer) (by rw [J.ok.frames,qI]) Hw HY λh4 held U7=>?_
   refine wpAny_landsW held λh5 PR U6=>?_
   have J5:=land h5 (by rw [qI];exact PR.1) (U7.trans U6)
   obtain ⟨ob,hob,KJ⟩:=PR.there
   refine wpAny_handleBy_cons (codeAny_handlers_test ?_) (by intro q;cases q)
   refine zH (X:=HC X (.ref ea)) (Zf J5 _) hg hm ?_ eY
   refine PySem.W.exm_one (e:=ea) (h:=h5) J5.kA (KJ▸(PySem.W.Looks.ld hob).andThen .now) Pn _ _ _ _ (λ_ _ q=>q) ?_
   refine codeAny_handlers_suite_as ?_
   refine lands_againW PR λh6 V0 up6=>?_
   have J6:=land h6 (by rw [qI];exact V0.1) ((U7.trans U6).trans up6)
   obtain ⟨ob6,Pc,Pb⟩:=V0.there
   obtain ⟨f0,f1,f2',f3⟩:=fresh ea new
   have J7:=b1B (C:=C) J6 Cj f0 ⟨ob6,Pc,Pb⟩ (lx λz=>f1 z.symm) f2' f3
   have Ht:X.N[i]?=some n:=h.ix hi
   have Cs:X.env.kindOf n=some .local:=by unfold Iy;rw [h.sc];exact KP
   refine SU (X:=HC X (.ref ea)) (v:=.ref ea) (Zf J7 _) h.xJ Ht (cK Cs) rfl (λs8 J8=>?_) (cK (h.fn rfl n))
   have sm:az H' (upd H' ea (.ext (mn ea C))):=λb o q=>by rw [dW (pO q Cj)];exact q
   have R7:=R1.grow sm
   obtain ⟨R8,g8⟩:=R7.set (r:=.sh (.exc nm)) (az.refl _) (Is.exc (p:=ea) (C:=C) (λz=>R1.oo z Cj) Bp kn) Hs
   have PL:=(g1.trans (Gd.refl sm)).trans g8
   obtain ⟨th,ph,kh⟩:=hh (HC X (.ref ea)) rfl rfl rfl rfl rfl ⟨h.n,h.sc,h.fn rfl,h.nd⟩
   cases fl with
   | nx =>
    refine jy (ph pins s8 _ _ { nx:=λaG H2=>Rel X.K O B aG H2 a8/\Gd σ env H aG a8 H2,rt:=λ_ _=>False } J8 (kh O B _ _ _ .nx a8 _ R8 hH λaG H2 R' g'=>⟨R',PL.trans g'⟩)) (λf s9 hq=>?_) λ_ _ z=>eA z
    cases f with
    | next =>
     obtain ⟨Nf,H9,J9,R9,g9⟩:=hq
     obtain ⟨J1,HN⟩:=R9.drop i
     exact name_goes (MO J.ok J9) h.xJ Ht Cs λOc DB=>⟨_,H9,DB,q _ _ J1 (g9.trans HN)⟩
    | brk=>obtain ⟨_,_,_,z⟩:=hq;exact eA z
    | cont=>obtain ⟨_,_,_,z⟩:=hq;exact eA z
    | ret u=>obtain ⟨_,_,_,_,_,z⟩:=hq;exact eA z
   | bk =>
    refine jy (ph pins s8 _ _ { nx:=λ_ _=>False,bk:=λaG H2=>Rel X.K O B aG H2 a8/\Gd σ env H aG a8 H2,rt:=λ_ _=>False } J8 (kh O B _ _ _ .bk a8 _ R8 hH λaG H2 R' g'=>⟨R',PL.trans g'⟩)) (λf s9 hq=>?_) λ_ _ z=>eA z
    cases f with
    | brk =>
     obtain ⟨Nf,H9,J9,R9,g9⟩:=hq
     obtain ⟨J1,HN⟩:=R9.drop i
     exact name_goes (MO J.ok J9) h.xJ Ht Cs λOc DB=>⟨_,H9,DB,q _ _ J1 (g9.trans HN)⟩
    | next=>obtain ⟨_,_,_,z⟩:=hq;exact eA z
    | cont=>obtain ⟨_,_,_,z⟩:=hq;exact eA z
    | ret u=>obtain ⟨_,_,_,_,_,z⟩:=hq;exact eA z
   | ct =>
    refine jy (ph pins s8 _ _ { nx:=λ_ _=>False,ct:=λaG H2=>Rel X.K O B aG H2 a8/\Gd σ env H aG a8 H2,rt:=λ_ _=>False } J8 (kh O B _ _ _ .ct a8 _ R8 hH λaG H2 R' g'=>⟨R',PL.trans g'⟩)) (λf s9 hq=>?_) λ_ _ z=>eA z
    cases f with
    | cont =>
     obtain ⟨Nf,H9,J9,R9,g9⟩:=hq
     obtain ⟨J1,HN⟩:=R9.drop i
     exact name_goes (MO J.ok J9) h.xJ Ht Cs λOc DB=>⟨_,H9,DB,q _ _ J1 (g9.trans HN)⟩
    | next=>obtain ⟨_,_,_,z⟩:=hq;exact eA z
    | brk=>obtain ⟨_,_,_,z⟩:=hq;exact eA z
    | ret u=>obtain ⟨_,_,_,_,_,z⟩:=hq;exact eA z
   | rt r =>
    refine jy (ph pins s8 _ _ { nx:=λ_ _=>False,rt:=D.rt } J8 (kh O B _ _ _ (.rt r) a8 _ R8 hH λv H2 s2 r2=>q v H2 s2 r2)) (λf s9 hq=>?_) λ_ _ z=>eA z
    cases f with
    | ret u =>
     obtain ⟨v,Nf,H9,J9,rv,z⟩:=hq
     exact name_goes (MO J.ok J9) h.xJ Ht Cs λOc DB=>⟨v,_,H9,DB,rv,z⟩
    | next=>obtain ⟨_,_,_,z⟩:=hq;exact eA z
    | brk=>obtain ⟨_,_,_,z⟩:=hq;exact eA z
    | cont=>obtain ⟨_,_,_,z⟩:=hq;exact eA z
  obtain ⟨t,p,kk⟩:=hx (Kz X pins _) _ rfl rfl rfl rfl rfl ⟨h.n,h.sc,h.calm,h.fn,AN,h.room,h.nd,h.top⟩ xk
  refine jy (p [] s σ H { nx:=λ_ _=>False,rt:=λ_ _=>False } (b5O I _) (kk O B σ H env nm env1 _ R hr λaG H' c xX R' g'=>⟨xX,R',g'⟩)) (λf s1 hq=>?_) λ_ _ z=>z
  cases f with
  | next=>obtain ⟨_,_,_,z⟩:=hq;exact eA z
  | brk=>obtain ⟨_,_,_,z⟩:=hq;exact eA z
  | cont=>obtain ⟨_,_,_,z⟩:=hq;exact eA z
  | ret u=>obtain ⟨_,_,_,_,_,z⟩:=hq;exact eA z
end
end DL
namespace DL
open PySem PySem.W PySem.Spec PySem.Calls PyProof.Rows L2 PySem.Builtin.ObjectAttr PySem.Builtin PySem.Builtin.Getset_descriptor
section
variable {prog:Program}{w:World}{A:Around}{E:Value->Shared->Prop}{s:Shared}{K:Frag}{x C:Addr}
theorem Ms(p:mn x C h)(M:Model):Looks M h (typeOf (.ref x)) (.ref C):=by
 obtain ⟨o,h1,h2⟩:=p
 exact h2▸(Looks.ld h1).andThen .now
structure m6(K:Frag)(C:Addr):Prop where
 ga:findIn K (.ref C) "__getattribute__" = some (some (.builtin "BaseException.__getattribute__"))
 no:findIn K (.ref C) "__getattr__" = some none
 at_:findIn K (.ref C) "__class__" = some (some (.builtin "object.__class__"))
 get:specialIn K (.builtin "object.__class__") "__get__" = some (some (.builtin "getset_descriptor.__get__"))
 tk:takesIn K (.builtin "object.__class__")=some true
 mro:mroIn K C (.type "object")=some true
 mrB:mroIn K C (.type "BaseException")=some true
theorem a93(k:m6 K C)(X:K.In h):Looks M h (find (.ref x) (.ref C) "__class__") (.bind (.builtin "getset_descriptor.__get__") (.builtin "object.__class__")):=by
 have d:Looks M h (dataDescriptor? (some (.builtin "object.__class__")) (some (.builtin "getset_descriptor.__get__"))) (some (.builtin "getset_descriptor.__get__",.builtin "object.__class__")):=
  (looks_takesIn X k.tk).andThen .now
 exact (Ld X k.at_).andThen ((show Looks M h (getOf (some (.builtin "object.__class__"))) (some (.builtin "getset_descriptor.__get__")) from looks_specialIn X k.get).andThen (d.andThen (Looks.tag .now)))
theorem b5Z(k:m6 K C)(X:K.In s.heap)(p:mn x C s.heap)(q:R (.ok (.ret (.ref C))) s):
  codeAny (model prog w) A (.call (.builtin "getset_descriptor.__get__") ⟨[.builtin "object.__class__",.ref x,tp],[]⟩) R s:=by
 obtain ⟨hp,gs,dr,tk,os⟩:=s
 have T0:=Ms p (model prog w)
 have T1:=looks_mroIn (M:=model prog w) X k.mro
 refine Q5 KF.slot_gs.plain KF.entry_gs ?_
 refine KF.slot_gs.check _ _ _ _ _ _ _ _ KF.type_class (KF.args_gs _ _ _) ?_
 unfold Builtin.«getset_descriptor.__get__» descrGet
 rw [dga_obj]
 apply aF
 apply bG
 unfold descrGetter descrCheckInstance descrNameAndClass isInstance
 simp only [KF.owner_class]
 repeat lk
 refine ⟨V9 _ (by decide +kernel),?_⟩
 apply AM KF.entry_class
 unfold Builtin.«object.__class__» shownTypeOf
 repeat lk
 exact q
theorem b8x(k:m6 K C)(X:K.In s.heap)(p:mn x C s.heap)(q:R (.ok (.ret (.ref C))) s):
  codeAny (model prog w) A (.call (.builtin "BaseException.__getattribute__") ⟨[.ref x,.str "__class__" tk],[]⟩) R s:=by
 obtain ⟨hp,gs,dr,tt,os⟩:=s
 have T0:=Ms p (model prog w)
 have T2:=a93 (M:=model prog w) (x:=x) k X
 have T4:=looks_mroIn (M:=model prog w) X k.mrB
 have kd:builtinKind "BaseException.__getattribute__" = some .slot:=by decide +kernel
 have sp:splitId "BaseException.__getattribute__" = some ("BaseException","__getattribute__"):=by decide +kernel
 have ar:=F.args_bexc_ga (.ref x) (.str "__class__" tk)
 refine Q5 F.attr_ValueError.ga.plain F.entry_bexc_ga ?_
 have ti:Looks (model prog w) hp (isInstance (.ref x) (.type "BaseException")) true:=T0.andThen T4
 simp only [checkBuiltinCall,kd,sp]
 refine aF (ti.at ?_)
 simp only [Bool.not_true,AL,if_false]
 refine zq ar ?_
 unfold Builtin.«object.__getattribute__»
 apply aF
 refine zq (a:=(cR x,[CL "__class__" tk])) rfl ?_
 apply aF
 apply bG
 refine aF (T0.at ?_)
 refine aF (T2.at ?_)
 show wpAny _ _ (holding [.builtin "object.__class__"] (call (.builtin "getset_descriptor.__get__") [.builtin "object.__class__",.ref x,.ref C]) >>= ret) _ _ _
 apply aF
 apply q0
 apply CP
 refine b5Z (s:=⟨hp,gs,dr,tt,os⟩) k X p ?_
 apply bG
 exact q
theorem b1O(k:m6 K C)(X:K.In s.heap)(p:mn x C s.heap)(q:Q (some (.ref C)) { s with toks:=s.toks+1 }):wpAny (model prog w) A (getAttr? (.ref x) "__class__") Q E s:=by
 obtain ⟨hp,gs,dr,tk,os⟩:=s
 have T0:=Ms p (model prog w)
 have T1:=Ld (M:=model prog w) X k.ga
 have T3:=Ld (M:=model prog w) X k.no
 have b:=F.attr_ValueError.ga.bind (.ref x)
 unfold getAttr? getAttrBy? getAttrBy
 apply aF
 apply wpAny_mkText
 apply aF
 apply IG
 apply q0
 refine aF (T0.at ?_)
 refine aF (T1.at ?_)
 have ne:(IE "BaseException.__getattribute__" == IE "object.__getattribute__")=false:=by decide +kernel
 have ne':(onTheHeap (cR C)&&IE "BaseException.__getattribute__" == IE "object.__getattribute__")=false:=by rw [ne];rfl
 dsimp only
 rw [ne']
 simp only [AL,if_false]
 unfold getAttrByItsOwn hookBefore
 have oh:onTheHeap (cR C)=true:=rfl
 rw [oh,if_pos rfl]
 refine aF (T3.at ?_)
 apply aF
 apply IG
 apply q0
 unfold callGetattribute boundAndCalled
 simp only [QP,AL,if_false]
 refine aF (zq b ?_)
 apply CP
 refine b8x (s:=⟨hp,gs,dr,tk+1,os⟩) k X p ?_
 refine handed_on rfl ?_
 exact bG q
theorem b5C(k:m6 K C)(cd:(clsIn K C).isSome=true):KitX K (.ref x) (.ref C) (mn x C) where
 ty:=λM h _ p=>Ms p M
 it:=λM h X p=>by
  unfold clsIn at cd
  split at cd
  .rename_i ho
   intro A' Q' E' s' kp q
   unfold isType loadHead
   apply aF
   exact wpAny_loadPart (kp _ _ (X _ _ ho)) (bG q)
  .cases cd
 ne:=λh tp dd aw n sl X htp=>by
  rw [Bool.eq_false_iff]
  intro q
  obtain rfl:C=tp:=Value.ref.inj (beq_iff_eq.mp q)
  unfold clsIn at cd
  split at cd
  .rename_i ho
   have z:=(X _ _ ho).symm.trans htp
   cases z
  .cases cd
 ca:=λX p q=>b1O k X p q
end
section
variable {X:Cx}{a:Expr}{pos p p2:Pos}{fa:En->Option Sl}
def Oj(K:Frag)(c:Value)(cv:V):List V->Hp->VK->Prop:=λxs H Q=>∃p C b,xs=[.ref p,cv]/\H p=some (.ext (mn p C))/\m6 K C/\(clsIn K C).isSome=true/\kitOne K (.ref C) c=some b/\Q (.bl b) H
theorem Y9(hr:∀u,RelV cv u->u=c):wC X (.builtin "isinstance") (Oj X.K c cv):=by
 intro pins s σ H xs us Q I r h
 obtain ⟨p,C,b,rfl,hp,k,cd,e,q⟩:=h
 obtain ⟨u,w',rfl,r1,r2⟩:=vals2 r
 obtain rfl:=hr w' r2
 obtain rfl:u=cR p:=r1
 obtain ⟨hc,_,_⟩:=I.bg p _ hp
 exact kia_one (b5C k cd) I.kA hc e (by intro z;cases z) λtk=>⟨.bl b,H,I.tok _,rfl,q⟩
noncomputable def jT(tab:Str->Option Bool)(f:En->Option Sl):En->Option Sl:=λenv=>(f env).bind λr=>match r.d with
 | .exc n=>(tab n).map λb=>.sh (.bl b)
 | _=>none
theorem XW{K:Frag}{O:Addr->Prop}{H:Hp}{v:V}{n:Str}(h:Is K O H v (.exc n)):∃p C,v=.ref p/\nsIn K mainGlobals n=some (some (.ref C))/\H p=some (.ext (mn p C)):=by
 cases h with
 | exc ho hn hp=>exact ⟨_,_,rfl,hn,hp⟩
theorem Jx(hg:Gl X "isinstance")(hm:X.mg "isinstance" = none)(Br:Gl X x)(Bq:X.mg x=some (.ref C2))
  (ht:∀n b C,tab n=some b->nsIn X.K mainGlobals n=some (some (.ref C))->m6 X.K C/\(clsIn X.K C).isSome=true/\kitOne X.K (.ref C) (.ref C2)=some b)(ha:EV X a fa)
  (hd:(x==("__debug__":Str))=false:=by decide)
  (hs:starEach [a,.Name x p2] X.env=[(false,eval a X.env),(false,eval (.Name x p2) X.env)]:=by rfl)(ll:starEach [.Name x p2] X.env=[(false,eval (.Name x p2) X.env)]:=by rfl):
  EV X (.Call (.Name "isinstance" p) [a,.Name x p2] [] pos) (jT tab fa):=by
 obtain ⟨t,pt,k⟩:=ha
 have pn:PE X (.Name x p2) (λ_ H Q=>Q (.ref C2) H):=λpins s σ H Q I h=>zH I Br Bq ⟨.ref C2,H,I,rfl,h⟩ hd
 refine ⟨_,BK (Y9 (c:=.ref C2) (cv:=.ref C2) λu r=>r) hg hm (by decide +kernel) (kY pt (kY pn mV ll) (by rw [hs,ll])) (by decide) (by decide) (by rw [hs,ll]) (by rw [ll];rfl),λO B σ H env s Q R e q=>?_⟩
 obtain ⟨r,e1,e2⟩:=bind_some e
 refine k O B σ H env r _ R e1 λv H1 s1 r1=>?_
 have hi:=r1.is λq=>R.oo
 cases hd:r.d with
 | exc n =>
  rw [hd] at e2 hi
  obtain ⟨b,e3,e4⟩:=map_some e2
  subst e4
  obtain ⟨pp,C,rfl,hn,hp⟩:=XW hi
  obtain ⟨c1,c2,c3⟩:=ht n b C e3 hn
  exact ⟨pp,C,b,rfl,hp,c1,c2,c3,q _ H1 s1 (Is.bl _)⟩
 | _=>rw [hd] at e2;cases e2
theorem b55(hg:Gl X "isinstance")(hm:X.mg "isinstance" = none)(Br:Gl X x)(Bq:X.mg x=none)(hv:bootBuiltins x=some (.type T))
  (ht:∀n b C,tab n=some b->nsIn X.K mainGlobals n=some (some (.ref C))->m6 X.K C/\(clsIn X.K C).isSome=true/\kitOne X.K (.ref C) (.type T)=some b)(ha:EV X a fa)
  (hn:x ≠ "__name__":=by decide)(hd:(x==("__debug__":Str))=false:=by decide)
  (hs:starEach [a,.Name x p2] X.env=[(false,eval a X.env),(false,eval (.Name x p2) X.env)]:=by rfl)(ll:starEach [.Name x p2] X.env=[(false,eval (.Name x p2) X.env)]:=by rfl):
  EV X (.Call (.Name "isinstance" p) [a,.Name x p2] [] pos) (jT tab fa):=by
 obtain ⟨t,pt,k⟩:=ha
 refine ⟨_,BK (Y9 (c:=.type T) (cv:=.ty T) λu r=>r) hg hm (by decide +kernel) (kY pt (kY (b5j (v:=.ty T) Br Bq hv rfl hn hd) mV ll) (by rw [hs,ll])) (by decide) (by decide) (by rw [hs,ll]) (by rw [ll];rfl),λO B σ H env s Q R e q=>?_⟩
 obtain ⟨r,e1,e2⟩:=bind_some e
 refine k O B σ H env r _ R e1 λv H1 s1 r1=>?_
 have hi:=r1.is λq=>R.oo
 cases hd:r.d with
 | exc n =>
  rw [hd] at e2 hi
  obtain ⟨b,e3,e4⟩:=map_some e2
  subst e4
  obtain ⟨pp,C,rfl,hn,hp⟩:=XW hi
  obtain ⟨c1,c2,c3⟩:=ht n b C e3 hn
  exact ⟨pp,C,b,rfl,hp,c1,c2,c3,q _ H1 s1 (Is.bl _)⟩
 | _=>rw [hd] at e2;cases e2
end
section
variable {X:Cx}{N:List Str}{sc:Scope}{pos p p1 p2 pos' au:Pos}{e a b:Expr}{fa fb:En->Option Sl}
theorem Hx.v(h:Hx X N sc)(i:Nat)(hN:N[i]?=some x:=by rfl)(hv:gm sc x:=by first | exact cK rfl | exact bL (cK rfl) | exact bL (bL rfl))(hd:(x==("__debug__":Str))=false:=by rfl)
  (bM:(x==("__classdict__":Str))=false:=by rfl):EV X (.Name x pos) (eV i):=XJ i (by rw [h.n];exact hN) (by rw [h.sc];exact hv) hd bM
theorem Hx.g(h:Hx X N sc)(hg:sc.names.lookup x=some .globalImplicit:=by rfl):Gl X x:=by
 show X.env.kindOf x=some .globalImplicit
 unfold Iy
 rw [h.sc]
 exact hg
end
structure Cl(K:Frag)(mg:Str->Option Value)(x:Str)(C:Addr):Prop where
 ns:nsIn K mainGlobals x=some (some (.ref C))
 m:mg x=some (.ref C)
 ck:m6 K C
 cd:(clsIn K C).isSome=true
def Ro(K:Frag)(c:Value)(tab:Str->Option Bool):Prop:=∀n b C,tab n=some b->nsIn K mainGlobals n=some (some (.ref C))->m6 K C/\(clsIn K C).isSome=true/\kitOne K (.ref C) c=some b
noncomputable def uL:Str->Option Bool:=λ_=>none
noncomputable def cZ(x:Str)(b:Bool)(tab:Str->Option Bool):Str->Option Bool:=λn=>if n=x then some b else tab n
theorem E6{K:Frag}{c:Value}:Ro K c uL:=λn b C e _=>by cases e
theorem jz{K:Frag}{mg:Str->Option Value}{c:Value}{x:Str}{C:Addr}{b:Bool}{tab:Str->Option Bool}(k:Cl K mg x C)(s:kitOne K (.ref C) c=some b)(r:Ro K c tab):Ro K c (cZ x b tab):=λn b' C' e hn=>by
 unfold cZ at e
 split at e
 .rename_i h
  subst h
  cases e
  obtain rfl:C=C':=by have:=k.ns.symm.trans hn;cases this;rfl
  exact ⟨k.ck,k.cd,s⟩
 .exact r n b' C' e hn
def Rn(K:Frag)(mg:Str->Option Value)(hc:Value)(hit:Str->Bool):Prop:=∀nm c,hit nm=true->mg nm=some c->∃C,c=.ref C/\nsIn K mainGlobals nm=some (some (.ref C))/\exmOne K (.ref C) hc=some true
noncomputable def L5:Str->Bool:=λ_=>false
noncomputable def pL(x:Str)(hit:Str->Bool):Str->Bool:=λn=>decide (n=x)||hit n
theorem b5R{K:Frag}{mg:Str->Option Value}{hc:Value}:Rn K mg hc L5:=λn c e _=>by cases e
theorem JL{K:Frag}{mg:Str->Option Value}{hc:Value}{x:Str}{C:Addr}{hit:Str->Bool}(k:Cl K mg x C)(s:exmOne K (.ref C) hc=some true)(r:Rn K mg hc hit):Rn K mg hc (pL x hit):=λn c e hm=>by
 unfold pL at e
 by_cases h:n=x
 .subst h
  obtain rfl:c=.ref C:=by have:=hm.symm.trans k.m;cases this;rfl
  exact ⟨C,rfl,k.ns,s⟩
 .exact r n c (by simpa [h] using e) hm
theorem Hx.cc{X:Cx}{N:List Str}{sc:Scope}{pos pos':Pos}{e:Expr}{fa:En->Option Sl}(h:Hx X N sc)(i:Nat){x:Str}(he:EV X e fa)(hN:N[i]?=some x:=by rfl)(hv:Loc sc x:=by first | exact cK rfl | exact bL rfl)
  (hs:swapsWith e (some (.Name x pos')) pos.line X.env=pure false:=by rfl):SV X (.Assign [.Name x pos'] e pos) (dM i fa):=YS (by rw [h.n];exact h.nd) (by rw [h.n];exact hN) (by rw [h.sc];exact hv) he hs (.inl (h.fn x))
theorem b2a:Wo (oj env) Q↔False:=Wo_none
end DL
namespace DL
open PySem PySem.Spec PyProof.Rows L2
theorem b5X{P:Program}{w:World}{K:aK}{mg:Str->Option Value}{base:Heap}{k n:Nat}{f:Addr}{fd:FuncData}{ps:List Str}{φ:List D->Option Sl}(h:∀ds r,φ ds=some r->False):bD P w K mg base jv k f fd ps (qu K n φ):=
 ⟨λvs H Q E q=>by obtain ⟨O,ds,r,_,_,_,e,_⟩:=q;exact (h ds r e).elim,λA outer s H args us vs Q E _ _ _ _ q=>by obtain ⟨O,ds,r,_,_,_,e,_⟩:=q;exact (h ds r e).elim⟩
section
variable {X:Cx}{W:L2.St->Hp->Value->Prop}{it tg:Expr}{re:En->Option Str}{pos:Pos}
end
theorem b5l{P:Program}{w:World}{K:aK}{mg:Str->Option Value}{base:Heap}{x:Str}{st:Stmt}{ps:List Str}{j:Nat}{f:Addr}{fd:FuncData}(D':Def K mg x st ps f fd):Oz P w K mg base x st ps j λ_=>none:=⟨f,fd,D',b5X λ_ _ z=>nomatch z⟩
end DL
namespace DL
open PySem PySem.Spec PyProof.Rows L2
section
variable {X:Cx}{W:L2.St->Hp->Value->Prop}{it tg:Expr}{pos:Pos}
noncomputable def yH(g:GF)(F:SF)(r:RF):List D->RF
 | [],_=>none
 | d::l,env=>match g d env with
  | none=>none
  | some iZ=>match r iZ with
   | some x=>some x
   | none=>match F iZ with
    | some (.nx,fX)=>yH g F r l fX
    | some (.ct,fX)=>yH g F r l fX
    | _=>none
noncomputable def tD(fi:En->Option (List D))(g:GF)(F:SF)(r:RF):RF:=λenv=>(fi env).bind λds=>yH g F r ds env
def WZ(K:aK)(O:Addr->Prop)(B:Hp)(σ:L2.St)(H1:Hp)(env:En)(g:GF)(F:SF)(r:RF)(ds:List D)(x:Str×En)(i:Nat)(cF:L2.St)(H2:Hp):Prop:=∃a8,Rel K O B cF H2 a8/\Gd σ env H1 cF a8 H2/\yH g F r (ds.drop i) a8=some x
theorem Mx(hp:PassesOwn (model X.prog X.w) X.A X.env X.xe)(hc:X.calm=true)(hi:IV X tg it fi)(hg:GV X tg g)(hb:lz X body F)(hx:wM X W body r)
  (hs:∀x,foldedSetIterable it X.env x=pure x:=by intro _;rfl):XV X W (.For tg it body [] pos) (tD fi g F r):=by
 obtain ⟨wi,pi,ki⟩:=hi
 obtain ⟨yR,pg,kg⟩:=hg
 obtain ⟨tb,pb,kb⟩:=hb
 obtain ⟨tx,px,kx⟩:=hx
 have both:oz X body (λD σ H=>tx D σ H\/tb D σ H):=λpins s σ H D I hw=>hw.elim (px pins s σ H D I) (pb pins s σ H D I)
 refine ⟨_,Mf hp hc pi pg both hs,λO B σ H env nm ag D R e q=>?_⟩
 obtain ⟨ds,e1,e2⟩:=bind_some e
 refine ki O B σ H env ds _ R e1 λJ H1 s1 wk=>?_
 refine ⟨λi m cF H2=>m=ds.length-i/\i<=ds.length/\WZ X.K O B σ H1 env g F r ds (nm,ag) i cF H2,⟨ds.length,by simp,uB _,⟨env,R.grow s1,Gd.refl (az.refl _),e2⟩⟩,?_⟩
 rintro i m cF H2 ⟨rfl,hi,L⟩
 obtain ⟨a8,R2,gd,ee⟩:=id L
 have w:=wk (OO O cF a8) H2 (λa u ea na=>by
  obtain ⟨h1,h2⟩:=gd a u ea λz=>na (.inr z)
  exact ⟨h1,λz=>z.elim (λz=>na (.inl z)) h2⟩) (λa=>R2.oo) i
 by_cases fu:i<ds.length
 .obtain ⟨go,yl⟩:=w.1 ds[i] (by simp [fu])
  refine .inr ⟨go,WZ X.K O B σ H1 env g F r ds (nm,ag) (i+1),λaG H' p'=>⟨ds.length-(i+1),by omega,rfl,fu,p'⟩,λx H3 hy=>?_⟩
  obtain ⟨s3,hx⟩:=yl x H3 hy
  have pk:ds.drop i=ds[i]::ds.drop (i+1):=IW fu
  rw [pk,yH] at ee
  cases Ct:g ds[i] a8 with
  | none=>rw [Ct] at ee;cases ee
  | some iZ =>
   rw [Ct] at ee
   refine kg O B cF H3 a8 iZ x ds[i] _ (R2.grow s3) hx Ct λKn H4 R4 g4=>?_
   dsimp only at ee
   have Cy:=gd.trans ((Gd.refl s3).trans g4)
   cases hr:r iZ with
   | some y =>
    rw [hr] at ee
    obtain rfl:=gp ee
    exact .inl (kx O B Kn H4 iZ nm ag _ R4 hr λaG H' c hc R' g'=>q aG H' c hc R' ((Gd.refl s1).trans (Cy.trans g')))
   | none =>
    rw [hr] at ee
    dsimp only at ee
    cases hF:F iZ with
    | none=>rw [hF] at ee;cases ee
    | some y =>
     obtain ⟨f2,fX⟩:=y
     rw [hF] at ee
     refine .inr (kb O B Kn H4 iZ f2 fX _ R4 hF ?_)
     cases f2 with
     | nx=>exact λFH H5 R5 g5=>⟨fX,R5,Cy.trans g5,ee⟩
     | ct=>exact λFH H5 R5 g5=>⟨fX,R5,Cy.trans g5,ee⟩
     | bk=>cases ee
     | rt r=>cases ee
 .rw [IX (by omega)] at ee
  cases ee
theorem PI.b8(h:PI X.b8 tg it wi):PI X tg it wi:=λpins s σ H R I hw=>jy (h pins s σ H R (I.gW _) hw) (λv s1 h1=>jy h1 (λKG s2 h2=>by
  obtain ⟨a,fp,tn,J,H2,e,I2,T,rest⟩:=h2
  exact ⟨a,fp,tn,J,H2,e,I2.cG,T,rest⟩) λ_ _ z=>eA z) λ_ _ z=>eA z
theorem IV.b8(h:IV X.b8 tg it fi):IV X tg it fi:=let ⟨t,p,k⟩:=h;⟨t,PI.b8 p,k⟩
theorem GV.b8(h:GV X.b8 tg g):GV X tg g:=let ⟨t,p,k⟩:=h;⟨t,λpins s σ H v u Q I r hw=>jy (p pins s σ H v u Q (I.gW _) r hw) (λ_ _ ⟨aG,H',I',q⟩=>⟨aG,H',I'.cG,q⟩) λ_ _ z=>eA z,k⟩
end
section
variable {P:Program}{w:World}{K:aK}{mg:Str->Option Value}{base:Heap}
theorem b8t{x qual:Str}{st:Stmt}{f:Addr}{fd:FuncData}{N ps:List Str}{k:Nat}{r:RF}(Fn:tL K x qual st f fd)(S:bC N ps (dg st))
  (br:∀(X:Cx) (W:L2.St->Hp->Value->Prop),X.prog=P->X.w=w->X.K=K->X.mg=mg->X.base=base->Fx X.b8 N (dg st) k->Xk X W->Xr X W->PassesOwn (model X.prog X.w) X.A X.env X.xe->wM X W (hV st) r):bD P w K mg base (mF P w) (k+1) f fd ps (DK K mg ps.length (lR r N.length)):=by
 obtain ⟨oc,od,kV,doc,pm,an,dX,ct,xD,rfl,lk,bM⟩:=Fn.ex
 refine L4 lk bM S (λvs H Q E h=>?_) λA outer s H vs Q E hr sG=>?_
 .obtain ⟨O,ds,nm,_,_,hl,_⟩:=h
  exact hl
 obtain ⟨O,ds,nm,hO,hi,hl,e,q⟩:=sG
 obtain ⟨t,p,kk⟩:=br (gO (mF P w) P w K mg base N qual (dg st) f dX A outer s H E) (λ_ H' c=>E c none H') rfl rfl rfl rfl rfl ⟨rfl,rfl,rfl,λ_ _=>rfl,AN,hr,S.nd,λ_=>⟨rfl,rfl,rfl⟩⟩ RG RH PassesOwn.leaving
 obtain ⟨⟨GS,ag⟩,e1,e2⟩:=map_some e
 cases e2
 exact ⟨t,p,kk O H (start N vs) H (iS N.length ds) GS ag _ (Fg hO hi) e1 λaG H' c hc R' _=>q c H' hc R'.same⟩
end
theorem XR{P:Program}{w:World}{K:aK}{mg:Str->Option Value}{base:Heap}{x:Str}{st:Stmt}{f:Addr}{fd:FuncData}{N ps:List Str}{k:Nat}{r:RF}(D':Def K mg x st ps f fd)
  (br:∀(X:Cx) (W:L2.St->Hp->Value->Prop),Sx X P w K mg base->Fx X.b8 N (dg st) k->Xk X W->Xr X W->PassesOwn (model X.prog X.w) X.A X.env X.xe->wM X W (hV st) r)(S:bC N ps (dg st):=by exact ⟨rfl,rfl,rfl,by decide +kernel,rfl,by decide +kernel,by decide +kernel⟩):Xz P w K mg base x st ps (k+1) (lR r N.length):=
 ⟨f,fd,D',b8t D'.fn S λX W e1 e2 e3 e4 e5=>by subst e1 e2 e3 e4 e5;exact br X W (.mk X)⟩
end DL
namespace DL
open PySem PySem.Spec PyProof.Rows L2
section
variable {X:Cx}{a b c:Expr}{pos:Pos}{fa fb fc:En->Option Sl}
theorem b2k(ho:nC X (compareOp op) g)(iO:nC X (compareOp GI) g')(ha:EV X a fa)(hb:EV X b fb)(hc:EV X c fc)(hm:lastMarks [op,GI] [b,c]=false:=by with_unfolding_all rfl):
  TV X (.Compare a [op,GI] [b,c] pos) (AR (bT (ah g fa fb)) (bT (ah g' fb fc))):=by
 obtain ⟨r,hr,hg⟩:=ho
 obtain ⟨r',hr',Pl⟩:=iO
 obtain ⟨ta,pa,ka⟩:=ha
 obtain ⟨tb,pb,kb⟩:=hb
 obtain ⟨tc,pc,kc⟩:=hc
 refine ⟨_,b2C hr hr' pa pb pc hm,λO B σ H env k Q R e q=>?_⟩
 unfold AR at e
 cases e1:bT (ah g fa fb) env with
 | none=>rw [e1] at e;cases e
 | some b1 =>
  rw [e1] at e
  obtain ⟨x,ex,e3⟩:=bind_some (E8 e1)
  obtain ⟨y,ey,e4⟩:=bind_some e3
  refine ka O B σ H env x _ R ex λv H1 s1 h1=>?_
  refine kb O B σ H1 env y _ (R.grow s1) ey λu H2 s2 h2=>?_
  have R2:=(R.grow s1).grow s2
  refine hg (OO O σ env) H2 v u x.d y.d _ _ (λq=>R2.oo) ((h1.is λq=>R.oo).grow s2) (h2.is λq=>(R.grow s1).oo) e4 λw H3 s3 h3=>?_
  refine ⟨b1,Dg h3,?_⟩
  cases b1 with
  | false =>
   cases e
   rw [if_neg (by decide)]
   exact ⟨false,rfl,q H3 ((s1.trans s2).trans s3)⟩
  | true =>
   rw [if_pos rfl]
   obtain ⟨y',V3,e5⟩:=bind_some (E8 e)
   rw [ey] at V3
   cases V3
   obtain ⟨z,ez,e6⟩:=bind_some e5
   have R3:=R2.grow s3
   refine kc O B σ H3 env z _ R3 ez λw' H4 s4 h4=>?_
   have R4:=R3.grow s4
   refine Pl (OO O σ env) H4 u w' y.d z.d _ _ (λq=>R4.oo) (((h2.is λq=>(R.grow s1).oo).grow s3).grow s4) (h4.is λq=>R3.oo) e6 λw2 H5 s5 h5=>?_
   exact ⟨k,Dg h5,q H5 ((((s1.trans s2).trans s3).trans s4).trans s5)⟩
end
end DL
namespace DL
open PySem PySem.Spec PyProof.Rows L2
section
variable {X:Cx}
def PJ(X:Cx)(es:List Expr)(tj:Str->L2.St->Hp->VK->Prop):Prop:=
 ∀(out:Str) (pins:List (Addr×Obj)) (s:Shared) (σ:L2.St) (H:Hp) (Q:VK),Inv X pins σ H s->tj out σ H Q->wpAny (model X.prog X.w) X.A (joinParts out (evalEach es X.env)) (EP X pins σ Q) X.xe s
theorem b7E:PJ X [] (λout _ H Q=>out.length<=sizeLine/\Q (.str out) H):=by
 intro out pins s σ H Q I h
 exact joinParts_nil ⟨.str out,H,I.tok _,⟨_,rfl⟩,h.2⟩ h.1
theorem b5c(he:PE X e t)(hs:PJ X es tj):PJ X (e::es) (λout σ H Q=>t σ H λx H1=>∃y,x=.str y/\(out++y).length<=sizeLine/\tj (out++y) σ H1 Q):=by
 intro out pins s σ H Q I h
 show wpAny _ _ (joinParts out (eval e X.env::evalEach es X.env)) _ _ s
 refine joinParts_cons (bJ (he pins s σ H _ I h) λv s1 ⟨x,H1,I1,r1,q1⟩=>?_)
 obtain ⟨y,rfl,hz,q⟩:=q1
 obtain ⟨u,rfl⟩:=r1
 exact ⟨hz,hs _ pins s1 σ H1 Q I1 q⟩
theorem Gy(h:PE X a t):PE X (.FormattedValue a (-1) none pos) (λσ H Q=>t σ H λx H1=>∃y,x=.str y/\y.length<=sizeLine/\Q x H1):=by
 intro pins s σ H Q I hw
 refine FormattedValue_plain (bJ (h pins s σ H _ I hw) λv s1 ⟨x,H1,I1,r1,q1⟩=>?_)
 obtain ⟨y,rfl,hz,q⟩:=q1
 obtain ⟨u,rfl⟩:=r1
 exact formatField_str (λt' tk=>⟨.str y,H1,I1.tok tk,⟨_,rfl⟩,q⟩) hz
noncomputable def mJ:Option Sl->Option Str
 | some (.sh (.str y))=>some y
 | _=>none
theorem Dw(h:mJ o=some y):o=some (.sh (.str y)):=by
 unfold mJ at h
 split at h
 .cases h;rfl
 .cases h
def JV(X:Cx)(es:List Expr)(f:En->Option Str):Prop:=
 ∃tj,PJ X es tj/\∀(O:Addr->Prop) (B:Hp) (σ:L2.St) (H:Hp) (env:En) (y out:Str) (Q:VK),Rel X.K O B σ H env->f env=some y->(out++y).length<=sizeLine->(∀H',az H H'->Q (.str (out++y)) H')->tj out σ H Q
noncomputable def gY:En->Option Str:=λ_=>some AJ
noncomputable def gk(fe:En->Option Sl)(f:En->Option Str):En->Option Str:=λenv=>(mJ (fe env)).bind λy=>(f env).map λz=>y++z
noncomputable def uk(fa:En->Option Sl):En->Option Sl:=λenv=>(mJ (fa env)).bind λy=>if y.length<=16777216 then some (.sh (.str y)) else none
theorem RM:JV X [] gY:=by
 refine ⟨_,b7E,λO B σ H env y out Q R e hz q=>?_⟩
 cases e
 have:=q H (az.refl _)
 rw [Str.append_empty] at this hz
 exact ⟨hz,this⟩
theorem Dr(he:EV X e fe)(hs:JV X es f):JV X (e::es) (gk fe f):=by
 obtain ⟨t,pt,kt⟩:=he
 obtain ⟨tj,pj,kj⟩:=hs
 refine ⟨_,b5c pt pj,λO B σ H env y out Q R e hz q=>?_⟩
 obtain ⟨y1,e1,e2⟩:=bind_some e
 obtain ⟨z,e3,rfl⟩:=map_some e2
 refine kt O B σ H env _ _ R (Dw e1) λv H1 s1 r1=>?_
 obtain rfl:=oJ r1
 rw [<-Str.append_assoc] at hz q
 refine ⟨y1,rfl,?_,kj O B σ H1 env z (out++y1) Q (R.grow s1) e3 hz λH' s'=>q H' (s1.trans s')⟩
 rw [Bw] at hz
 omega
theorem Xe(h:EV X a fa):EV X (.FormattedValue a (-1) none pos) (uk fa):=by
 obtain ⟨t,pt,k⟩:=h
 refine ⟨_,Gy pt,λO B σ H env s Q R e q=>?_⟩
 obtain ⟨y,e1,e2⟩:=bind_some e
 obtain ⟨hz,rfl⟩:=jg e2
 refine k O B σ H env _ _ R (Dw e1) λv H1 s1 r1=>?_
 obtain rfl:=oJ r1
 exact ⟨y,rfl,by rw [lr];exact hz,q _ H1 s1 (Is.str _)⟩
noncomputable def oI(f:En->Option Str):En->Option Sl:=λenv=>(f env).bind λy=>if y.length<=16777216 then some (.sh (.str y)) else none
theorem Sy(h:JV X (e::e'::es) f):EV X (.JoinedStr (e::e'::es) pos) (oI f):=by
 obtain ⟨tj,pj,k⟩:=h
 refine ⟨λσ H Q=>tj AJ σ H Q,λpins s σ H Q I hw=>JoinedStr_many (pj AJ pins s σ H Q I hw),λO B σ H env s Q R e q=>?_⟩
 obtain ⟨y,e1,e2⟩:=bind_some e
 obtain ⟨hz,rfl⟩:=jg e2
 refine k O B σ H env y AJ Q R e1 (by rw [Str.empty_append,lr];exact hz) λH' s'=>?_
 rw [Str.empty_append]
 exact q _ H' s' (Is.str _)
noncomputable def Us(x:Str):It:=⟨λi _=>i<x.cps.size,λi H v H'=>H'=H/\∃c,x.cps[i]?=some c/\v=.str ⟨#[c]⟩,λi _=>x.cps.size<=i⟩
theorem b0p{P:Program}{w:World}{K:aK}{tg:Expr}(it:Addr)(x:Str)(t:Tok):Turn P w K tg (Us x) [it] it (λi h=>h.IsStrIter it "str_ascii_iterator" x t i) where
 mem:=by simp
 obj:=λi h st b hb=>by
  have e:b=it:=by simpa using hb
  subst e
  obtain ⟨o,ho,hc,hd⟩:=st
  exact ⟨o,ho,λv z=>by rw [hd] at z;cases z⟩
 keep:=λi h h' st k=>by
  obtain ⟨o,ho,r⟩:=st
  exact ⟨o,k it (by simp) o ho,r⟩
 item:=by
  intro X hP hw hK hc i pins s σ H E I hf st hg
  subst hP hw hK
  obtain ⟨f0,f1,f2,f3,f4,f5⟩:=hf it (by simp)
  have W:=Walks.strAscii (prog:=X.prog) (w:=X.w) (I.ok.hd hc) it x t
  refine W.item i s _ _ hg st λv h' tk hv jw kk=>?_
  obtain ⟨c,u,hx,rfl⟩:=hv
  have I1:Inv X pins σ H { s with heap:=h',toks:=tk }:=I.turned (λb o hb e=>kk b o (by simpa using hb) e) f0 f1 f3 f4 f5
  obtain ⟨o,ho,zf,hd⟩:=id jw
  exact ⟨_,rfl,Df (s:={ s with heap:=h',toks:=tk }) (n:="str_ascii_iterator") ho zf hd (by decide) ⟨.str ⟨#[c]⟩,H,I1,⟨u,rfl⟩,⟨rfl,c,hx,rfl⟩,jw,λb hb=>(hf b hb).1⟩⟩
 done:=by
  intro X hP hw hK hc i pins s σ H E I hf st hg
  subst hP hw hK
  obtain ⟨f0,f1,f2,f3,f4,f5⟩:=hf it (by simp)
  exact wpAny_pyNext_ascii_end (I.ok.hd hc) st (by have Pl:x.cps.size<=i:=hg;simpa using Pl) λh' eb=>⟨rfl,I.turned (t':=s.toks) (λb o hb e=>eb b o hb e) f0 f1 f3 f4 f5⟩
 self:=λ_ _ _ _ _ st h=>wpAny_pyIter_striter_ascii st h
theorem b5d{tg e:Expr}{t:TE}(h:PE X e t):PI X tg e (λσ H R=>t σ H λx H1=>∃z,x=.str z/\z.cps.all (·<128)=true/\R (Us z) H1):=by
 intro pins s σ H R I hw
 refine bJ (h pins s σ H _ I hw) λv s1 ⟨x,H1,I1,r1,q1⟩=>?_
 obtain ⟨z,rfl,ha,q⟩:=q1
 obtain ⟨u,rfl⟩:=r1
 refine wpAny_pyIter_ascii ha ?_
 refine ⟨s1.heap.objs.size,[s1.heap.objs.size],_,_,H1,rfl,I1.kept (t':=s1.toks) λb o e=>dY _ e,b0p _ z u,⟨_,jx _ rfl,rfl,rfl⟩,λb hb=>?_,q⟩
 have e:b=s1.heap.objs.size:=by simpa using hb
 subst e
 exact I1.pA (cw _) (I1.bg.fresh (cw _))
noncomputable def wZ(x:Str):List D:=x.cps.toList.map λc=>.str ⟨#[c]⟩
theorem b2j{K:aK}{O:Addr->Prop}{H:Hp}(x:Str):Dk K O (Us x) H (wZ x):=λO' H2 _ _ i=>by
 refine ⟨λd hd=>?_,λhl=>show x.cps.size<=i by simpa [wZ] using hl⟩
 unfold wZ at hd
 rw [mB] at hd
 obtain ⟨c,hc,rfl⟩:=map_some hd
 have hi:i<x.cps.size:=by simpa using (pH.mp hc).1
 refine ⟨hi,λv H3 hy=>?_⟩
 obtain ⟨rfl,c',hx,rfl⟩:=hy
 have:c'=c:=by
  rw [<-LH,hc] at hx
  exact (gp hx).symm
 subst this
 exact ⟨az.refl _,Is.str _⟩
noncomputable def yi(f:En->Option Sl):En->Option (List D):=λenv=>(mJ (f env)).bind λy=>if y.cps.all (·<128)=true then some (wZ y) else none
theorem b5K(h:EV X e fa):IV X tg e (yi fa):=by
 obtain ⟨t,p,k⟩:=h
 refine ⟨_,b5d p,λO B σ H env ds R Rl e q=>?_⟩
 obtain ⟨y,e1,e2⟩:=bind_some e
 obtain ⟨ha,rfl⟩:=jg e2
 refine k O B σ H env _ _ Rl (Dw e1) λv H1 s1 r1=>?_
 obtain rfl:=oJ r1
 exact ⟨y,rfl,ha,q _ H1 s1 (b2j y)⟩
noncomputable def EF(f:En->Option Sl):En->Option Sl:=λenv=>(mJ (f env)).bind λy=>if y.length<=16777216 then some (.sh (.int y.length)) else none
theorem b54(hg:Gl X "len")(hm:X.mg "len" = none)(ha:EV X a fa)(hs:starEach [a] X.env=[(false,eval a X.env)]:=by rfl):EV X (.Call (.Name "len" p) [a] [] pos) (EF fa):=by
 obtain ⟨t,pt,k⟩:=ha
 refine ⟨_,BK a7K hg hm QO (kY pt mV hs) (by decide) (by decide) hs rfl,λO B σ H env s Q R e q=>?_⟩
 obtain ⟨y,e1,e2⟩:=bind_some e
 obtain ⟨hz,rfl⟩:=jg e2
 refine k O B σ H env _ _ R (Dw e1) λv H1 s1 r1=>?_
 obtain rfl:=oJ r1
 exact ⟨y,rfl,by rw [lr];exact hz,q _ H1 s1 (Is.int _)⟩
end
end DL
namespace DL
open PySem PySem.Spec PyProof.Rows L2
section
variable {X X':Cx}
def Kk(mg:Str->Option Value)(x:Str)(n:Int):Prop:=∃t,mg x=some (.int n t)
def Kj(mg:Str->Option Value)(x y:Str):Prop:=∃t,mg x=some (.str y t)
theorem S4(hg:Gl X x)(hm:Kk X.mg x n)(hd:(x==("__debug__":Str))=false:=by decide):EV X (.Name x pos) (eC (.int n)):=by
 obtain ⟨t,hm⟩:=hm
 refine ⟨_,SI (v:=.int n) hg hm ⟨t,rfl⟩ hd,λO B σ H env s Q R e q=>?_⟩
 cases e
 exact q _ H (az.refl _) (Is.int _)
theorem b3b(hg:Gl X x)(hm:Kj X.mg x y)(hd:(x==("__debug__":Str))=false:=by decide):EV X (.Name x pos) (eC (.str y)):=by
 obtain ⟨t,hm⟩:=hm
 refine ⟨_,SI (v:=.str y) hg hm ⟨t,rfl⟩ hd,λO B σ H env s Q R e q=>?_⟩
 cases e
 exact q _ H (az.refl _) (Is.str _)
theorem HJ(e4:X'.mg=X.mg)(h:Kj X.mg x y):Kj X'.mg x y:=by rw [e4];exact h
end
section
variable {X:Cx}{N:List Str}{sc:Scope}{k:Nat}{full:Bool}{pos pos':Pos}{e:Expr}{fa:En->Option Sl}
end
end DL
namespace DL
open PySem PySem.Spec PyProof.Rows L2
section
variable {X X':Cx}
theorem MU{α:Type}{c:Prop}[Decidable c]{o:Option α}{y:α}(h:(if c then o else none)=some y):c/\o=some y:=by
 split at h
 .exact ⟨‹c›,h⟩
 .cases h
noncomputable def uh:D->D->Option Sl
 | .str i,.str j=>some (.sh (.bl (!(Wr j i 0 j.length 1).isEmpty)))
 | _,_=>none
theorem b7S:nC X (compareOp .In) uh:=by
 refine ⟨_,b0X,λO H x y a b s Q hO hx hy e q=>?_⟩
 unfold uh at e
 split at e
 .cases e
  exact ⟨_,_,oJ hx,oJ hy,q _ H (az.refl _) (Is.bl _)⟩
 .cases e
noncomputable def jS(fa fb:En->Option Sl):En->Option Sl:=λenv=>(mJ (fa env)).bind λz=>match fb env with
 | some (.sh (.int i))=>if z.length<=16777216 then (fq z.cps.toList i).map λc=>.sh (.str ⟨#[c]⟩) else none
 | _=>none
theorem Jy(ha:EV X a fa)(hb:EV X b fb)(hs:Sm b:=by exact λ_ _=>rfl):EV X (.Subscript a b pos) (jS fa fb):=by
 obtain ⟨t,p,k⟩:=ha
 obtain ⟨u,p',k'⟩:=hb
 refine ⟨_,XA XZ p p' hs,λO B σ H env r Q R e q=>?_⟩
 obtain ⟨z,e1,e2⟩:=bind_some e
 split at e2
 .rename_i i e3
  obtain ⟨hz,e4⟩:=MU e2
  obtain ⟨c,e5,rfl⟩:=map_some e4
  refine k O B σ H env _ _ R (Dw e1) λv H1 s1 r1=>?_
  obtain rfl:=oJ r1
  refine k' O B σ H1 env _ _ (R.grow s1) e3 λw H2 s2 r2=>?_
  obtain rfl:=rq r2
  exact ⟨z,i,c,rfl,rfl,by rw [lr];exact hz,e5,q _ H2 (s1.trans s2) (Is.str _)⟩
 .cases e2
theorem b7M(h:PE X a t):PE X (.FormattedValue a 114 none pos) (λσ H Q=>t σ H λx H1=>∃y,x=.str y/\(reprText y).length<=sizeLine/\Q (.str (reprText y)) H1):=by
 intro pins s σ H Q I hw
 refine wpAny_FormattedValue_repr (bJ (h pins s σ H _ I hw) λv s1 ⟨x,H1,I1,r1,q1⟩=>?_)
 obtain ⟨y,rfl,hz,q⟩:=q1
 obtain ⟨u,rfl⟩:=r1
 exact wpAny_pyReprObj_str (formatField_str (λt' tk=>⟨.str _,H1,I1.tok tk,⟨_,rfl⟩,q⟩) hz) hz
noncomputable def mQ(fa:En->Option Sl):En->Option Sl:=λenv=>(mJ (fa env)).bind λy=>if (reprText y).length<=16777216 then some (.sh (.str (reprText y))) else none
theorem b8z(h:EV X a fa):EV X (.FormattedValue a 114 none pos) (mQ fa):=by
 obtain ⟨t,pt,k⟩:=h
 refine ⟨_,b7M pt,λO B σ H env s Q R e q=>?_⟩
 obtain ⟨y,e1,e2⟩:=bind_some e
 obtain ⟨hz,rfl⟩:=jg e2
 refine k O B σ H env _ _ R (Dw e1) λv H1 s1 r1=>?_
 obtain rfl:=oJ r1
 exact ⟨y,rfl,by rw [lr];exact hz,q _ H1 s1 (Is.str _)⟩
def Nc(K:aK)(mg:Str->Option Value)(x:Str)(ys:List Str):Prop:=∃a:Addr,mg x=some (.ref a)/\jZ K (λ_=>none) a (ys.map V.str)
theorem Zi{K:aK}{O:Addr->Prop}{H:Hp}:∀ys:List Str,aQ K O H (ys.map V.str) (ys.map D.str)
 | []=>.nil
 | y::ys=>.cons (.str y) (Zi ys)
theorem b3a(hg:Gl X x)(hm:Nc X.K X.mg x ys)(hd:(x==("__debug__":Str))=false:=by decide):EV X (.Name x pos) (eC (.tup (ys.map D.str))):=by
 obtain ⟨a,hm,hs⟩:=hm
 refine ⟨_,SI (v:=.ref a) hg hm rfl hd,λO B σ H env s Q R e q=>?_⟩
 cases e
 exact q _ H (az.refl _) (Is.t7 hs (Zi ys))
theorem Z0:∀(ys:List (Str×Tok)),aL ((ys.map (·.1)).map V.str) (ys.map λp=>CL p.1 p.2)
 | []=>.nil
 | y::ys=>.cons ⟨y.2,rfl⟩ (Z0 ys)
theorem b8p{K:aK}{mg:Str->Option Value}{x:Str}{a:Addr}{ys:List (Str×Tok)}{o:Obj}{n:Nat}(hm:mg x=some (.ref a))(hk:K.lookup a=some o)(hc:o.cls=.type "tuple")(hd:o.data=.seq (ys.map λp=>CL p.1 p.2).toArray n)(hl:ys.length<=1000):Nc K mg x (ys.map (·.1)):=
 ⟨a,hm,.inr ⟨o,_,n,hk,hc,hd,by rw [gh,bY,lr];omega,Z0 ys⟩⟩
end
end DL
namespace TS
open PySem PyProof.Rows
section
variable {prog:Program}{w:World}{A:Around}{E:Value->Shared->Prop}{s:Shared}
theorem Ga{l0:Addr}{vs:List Value}{n:Nat}{P:PySem.Fin->Shared->Prop}{κ:SortKind}{R:Array Value->Prop}(KQ:s.heap.get? l0=some (seqObj "list" vs.toArray n))(hZ:vs.length<=sizeLine)(hR:vs.length<2->R vs.toArray)(hz:∀out,R out->out.size=vs.length)
  (run:∀S:Shared,(∀b o,b≠l0->s.heap.get? b=some o->S.heap.get? b=some o)->2<=vs.length->(∀{A:Around} {E:Value->Shared->Prop} {Q:SortKind->Shared->Prop},Q κ S->wpAny (model prog w) A (keyKind' vs.toArray) Q E S)/\∀{A:Around} {E:Value->Shared->Prop},wpS (model prog w) A E S sortRuns' (λ_ jw=>R ((arrOf jw).map (·.2))/\failedOf jw=none) (Qi κ (pairsOf vs) #[] 7 none))
  (h:∀out:Array Value,R out->P (.done (.ret .none)) { s with heap:=sortedHeap s.heap l0 vs out }):wpAny (model prog w) A (Builtin.«list.sort» ⟨[.ref l0],[]⟩) P E s:=by
 have fu:l0<s.heap.objs.size:=dU KQ
 obtain ⟨k1,VE⟩:∃k1,(s.heap.update l0 (q8 λ_=>#[])).get? l0=some (seqObj "list" #[] k1):=⟨_,get?_update_seq KQ λ_=>#[]⟩
 rw [list_sort_plain]
 have VS:vs.toArray.size<=sizeLine:=by rw [gh];exact hZ
 have hZ2:vs.toArray.toList.length<=sizeLine:=VS
 refine aF (listItems_at KQ rfl (aF (listUpdate_at (hsz:=VS) KQ rfl (aF (seqEpoch_at VE rfl (aF (wpAny_newTuple (hsz:=hZ2) (aF (wpAny_newList (q0 ?_))))))))))
 have zb:(((s.heap.update l0 (q8 λ_=>#[])).push (seqObj "tuple" vs.toArray 0)).push (seqObj "list" #[] 0)).get? l0=some (seqObj "list" #[] k1):=dY _ (dY _ VE)
 have up:∀b o,b≠l0->s.heap.get? b=some o->(((s.heap.update l0 (q8 λ_=>#[])).push (seqObj "tuple" vs.toArray 0)).push (seqObj "list" #[] 0)).get? b=some o:=λb o hb e =>
  dY _ (dY _ ((IY _ _ (lx hb)).trans e))
 dsimp only
 show wpAny _ _ _ _ _ { s with heap:=((s.heap.update l0 (q8 λ_=>#[])).push (seqObj "tuple" vs.toArray 0)).push (seqObj "list" #[] 0) }
 generalize hS:({ s with heap:=((s.heap.update l0 (q8 λ_=>#[])).push (seqObj "tuple" vs.toArray 0)).push (seqObj "list" #[] 0) }:Shared)=S
 have VU:S.heap=((s.heap.update l0 (q8 λ_=>#[])).push (seqObj "tuple" vs.toArray 0)).push (seqObj "list" #[] 0):=by rw [<-hS]
 have DT:S.heap.get? l0=some (seqObj "list" #[] k1):=by rw [VU];exact zb
 have ends:∀st:SortSt,R ((arrOf st).map (·.2))->failedOf st=none ->
   wpAny (model prog w) A (do
    let touched:=(<-seqEpoch l0) != k1
    Builtin.List.listUpdate (.ref l0) λ_=>(arrOf st).map (·.2)
    if let some e:=failedOf st then rule "list.sort.comparison-raised";throw e
    if touched then rule "list.sort.modified";raiseError "ValueError" "list modified during sort"
    ret .none) P E S:=λst hr hf=>by
  refine aF (seqEpoch_at DT rfl (aF (listUpdate_at DT rfl ?_ (hsz2:=?_))))
  .rw [hf]
   simp only [bne_self_eq_false,AL,if_false]
   refine bG ?_
   have:=h _ hr
   rw [<-hS]
   exact this
  .rw [hz _ hr];omega
 have hsz:vs.toArray.size=vs.length:=by simp
 by_cases h2:vs.toArray.size<2
 .rw [if_pos h2]
  refine aF (bG ?_)
  rw [if_pos h2,StateT.run_pure]
  refine aF (bG ?_)
  refine ends (Qi general' (pairsOf vs) #[] 7 none) ?_ rfl
  have e:(pairsOf vs).map (·.2)=vs.toArray:=by
   apply QK.mp
   rw [Array.toList_map,pairsOf_toList,List.map_snd_zip (cw _)]
  show R ((pairsOf vs).map (·.2))
  rw [e]
  exact hR (by omega)
 .rw [if_neg h2]
  obtain ⟨r1,r2⟩:=run S (λb o hb e=>by rw [VU];exact up b o hb e) (by omega)
  refine aF (r1 ?_)
  rw [if_neg h2]
  refine aF (jy r2 (λr s' hr=>?_) λ_ _ z=>z)
  obtain ⟨rfl,p1,p2⟩:=hr
  exact ends r.2 p1 p2
end
end TS
namespace KS
open PySem PySem.W PyProof.Rows
noncomputable def go{α:Type}(cmp:Nat->Nat->Bool):KasT α->α
 | .ret a=>a
 | .ask i j k=>go cmp (k (cmp i j))
theorem E2{α β:Type}(cmp:Nat->Nat->Bool)(f:α->KasT β):∀t:KasT α,go cmp (t.bind f)=go cmp (f (go cmp t))
 | .ret a=>rfl
 | .ask i j k=>E2 cmp f (k (cmp i j))
section
variable (K:Nat->Int)
noncomputable def kI(p:Array Nat)(i:Nat):Int:=K (p.getD i 0)
def A7(p:Array Nat)(k:Nat):Prop:=∀i j,i<=j->j<k->kI K p i<=kI K p j
def J'(p:Array Nat)(k:Nat):Prop:=∀i j,i<=j->j<k->kI K p j<=kI K p i
noncomputable abbrev ja(i j:Nat):Bool:=decide (K i<K j)
variable {K}
theorem Jb(h:p[i]?=q[j]?):kI K p i=kI K q j:=by
 unfold kI
 rw [WS,WS,h]
theorem RN(hj:j<=p.size)(k:Nat):kI K (mirror p i j ((j-i)/2)) k=if i<=k/\k<j then kI K p (i+j-1-k) else kI K p k:=by
 have e:=getElem?_mirror_all (i:=i) hj k
 by_cases h1:i<=k/\k<j
 .rw [if_pos h1] at e ⊢;exact Jb e
 .rw [if_neg h1] at e ⊢;exact Jb e
theorem JD(hj:j<=p.size)(he:∀k,i<=k->k<j->kI K p k=kI K p (j-1))(k:Nat):kI K (mirror p i j ((j-i)/2)) k=kI K p k:=by
 rw [RN hj]
 split
 .rw [he _ (by omega) (by omega),he k (by omega) (by omega)]
 .rfl
theorem zy:∀(f n:Nat),1<=n->A7 K p n->∃m,go (ja K) (kas_asc p f n)=m/\n<=m/\m<=n+f/\A7 K p m/\(m=n+f\/kI K p m<kI K p (m-1))
 | 0,n,_,hs=>⟨n,rfl,by lia,by lia,hs,.inl rfl⟩
 | f+1,n,hn,hs=>by
  unfold kas_asc
  show ∃m,go (ja K) (if decide (kI K p n<kI K p (n-1))=true then .ret n else kas_asc p f (n+1))=m/\_
  by_cases c:kI K p n<kI K p (n-1)
  .rw [if_pos (decide_eq_true c)]
   exact ⟨n,rfl,by lia,by lia,hs,.inr c⟩
  .rw [if_neg (by simpa using c)]
   obtain ⟨m,e,m1,m2,m3,m4⟩:=zy f (n+1) (by lia) λi j sH hj=>by
    by_cases d:j<n
    .exact hs i j sH d
    .obtain rfl:j=n:=by lia
     by_cases d2:i=j
     .subst d2;exact CM _
     .have:=hs i (j-1) (by lia) (by lia);lia
   exact ⟨m,e,by lia,by lia,m3,m4.elim (λz=>.inl (by lia)) .inr⟩
theorem desc:∀(f:Nat) (p:Array Nat) (n q:Nat),1<=n->n+f<=p.size->J' K p n->q+1<=n->(∀i,n-(q+1)<=i->i<n->kI K p i=kI K p (n-1)) ->
  ∃p' m q',go (ja K) (Bu f p n q)=(p',m,q')/\p'.Perm p/\n<=m/\m<=n+f/\J' K p' m/\q'+1<=m/\∀i,m-(q'+1)<=i->i<m->kI K p' i=kI K p' (m-1)
 | 0,p,n,q,_,_,hs,hq,he=>⟨p,n,q,rfl,IA _,by lia,by lia,hs,hq,he⟩
 | f+1,p,n,q,hn,hz,hs,hq,he=>by
  have next:∀p':Array Nat,(∀k,kI K p' k=kI K p k)->kI K p n<=kI K p (n-1)->J' K p' (n+1):=λp' hk hl i j sH hj=>by
   rw [hk,hk]
   by_cases d:j<n
   .exact hs i j sH d
   .obtain rfl:j=n:=by lia
    by_cases d2:i=j
    .subst d2;exact CM _
    .have:=hs i (j-1) (by lia) (by lia);lia
  unfold Bu
  show ∃p' m q',go (ja K) (if decide (kI K p n<kI K p (n-1))=true then (if q>0 then Bu f (sV p (n-(q+1)) n) (n+1) 0 else Bu f p (n+1) 0) else .ask (p.getD (n-1) 0) (p.getD n 0) λd=>if d=true then .ret (p,n,q) else Bu f p (n+1) (q+1))=(p',m,q')/\_
  by_cases c:kI K p n<kI K p (n-1)
  .rw [if_pos (decide_eq_true c)]
   by_cases cq:q>0
   .rw [if_pos cq]
    obtain ⟨p',m,q',e,k1,k2,k3,k4,k5,k6⟩:=desc f (sV p (n-(q+1)) n) (n+1) 0 (by lia) (by unfold sV;rw [mirror_size];lia) (next _ (JD (by lia) he) (by lia)) (by lia) λi h1 h2=>by congr 1;lia
    exact ⟨p',m,q',e,k1.trans (BB _ _ _ _),by lia,by lia,k4,k5,k6⟩
   .rw [if_neg cq]
    obtain ⟨p',m,q',e,k1,k2,k3,k4,k5,k6⟩:=desc f p (n+1) 0 (by lia) (by lia) (next _ (λ_=>rfl) (by lia)) (by lia) λi h1 h2=>by congr 1;lia
    exact ⟨p',m,q',e,k1,by lia,by lia,k4,k5,k6⟩
  .rw [if_neg (by simpa using c)]
   show ∃p' m q',go (ja K) (if decide (kI K p (n-1)<kI K p n)=true then .ret (p,n,q) else Bu f p (n+1) (q+1))=(p',m,q')/\_
   by_cases c2:kI K p (n-1)<kI K p n
   .rw [if_pos (decide_eq_true c2)]
    exact ⟨p,n,q,rfl,IA _,by lia,by lia,hs,hq,he⟩
   .rw [if_neg (by simpa using c2)]
    have heq:kI K p n=kI K p (n-1):=by lia
    obtain ⟨p',m,q',e,k1,k2,k3,k4,k5,k6⟩:=desc f p (n+1) (q+1) (by lia) (by lia) (next _ (λ_=>rfl) (by lia)) (by lia) λi h1 h2=>by
     rw [show n+1-1=n by lia]
     by_cases d:i=n
     .subst d;rfl
     .rw [heq];exact he i (by lia) (by lia)
    exact ⟨p',m,q',e,k1,by lia,by lia,k4,k5,k6⟩
theorem Yg(h1:1<=n)(hn:n<=nrem)(hz:nrem<=p.size)(hs:J' K p n):∃m p',go (ja K) (kas_tail3 n nrem p)=(m,p')/\p'.Perm p/\1<=m/\m<=nrem/\A7 K p' m:=by
 unfold kas_tail3
 rw [E2]
 obtain ⟨m,e,m1,m2,m3,_⟩:=zy (K:=K) (p:=sV p 0 n) (nrem-n) n h1 λi j sH hj=>by
  unfold sV
  rw [RN (by lia),RN (by lia),if_pos (by lia),if_pos (by lia)]
  exact hs _ _ (by lia) (by lia)
 rw [e]
 exact ⟨m,_,rfl,BB _ _ _ _,by lia,by lia,m3⟩
theorem Xb(hn:n+1<=nrem)(hz:nrem<=p.size)(hs:J' K p (n+1)):∃m p',go (ja K) (II n nrem p)=(m,p')/\p'.Perm p/\1<=m/\m<=nrem/\A7 K p' m:=by
 unfold II
 rw [E2]
 obtain ⟨p',m,q',e,k1,k2,k3,k4,k5,k6⟩:=desc (K:=K) (nrem-(n+1)) p (n+1) 0 (by lia) (by lia) hs (by lia) λi h1 h2=>by congr 1;lia
 have DS:p'.size=p.size:=k1.size_eq
 rw [e]
 dsimp only
 by_cases c:q'>0
 .rw [if_pos c]
  obtain ⟨a,b,e2,j1,j2,j3,j4⟩:=Yg (K:=K) (p:=sV p' (m-(q'+1)) m) (n:=m) (nrem:=nrem) (by lia) (by lia) (by unfold sV;rw [mirror_size];lia) λi j sH hj=>by
   unfold sV
   rw [JD (by lia) k6,JD (by lia) k6]
   exact k4 i j sH hj
  exact ⟨a,b,e2,j1.trans ((BB _ _ _ _).trans k1),j2,j3,j4⟩
 .rw [if_neg c]
  obtain ⟨a,b,e2,j1,j2,j3,j4⟩:=Yg (K:=K) (p:=p') (n:=m) (nrem:=nrem) (by lia) (by lia) (by lia) k4
  exact ⟨a,b,e2,j1.trans k1,j2,j3,j4⟩
theorem cnt(h1:1<=nrem)(hz:nrem<=p.size):∃m p',go (ja K) (kas_count nrem p)=(m,p')/\p'.Perm p/\1<=m/\m<=nrem/\A7 K p' m:=by
 unfold kas_count
 rw [E2]
 obtain ⟨n,e,n1,n2,n3,n4⟩:=zy (K:=K) (p:=p) (nrem-1) 1 (by lia) λi j sH hj=>by
  obtain rfl:i=j:=by lia
  exact CM _
 rw [e]
 by_cases c:n=nrem
 .rw [if_pos (by simpa using c)]
  exact ⟨n,p,rfl,IA _,n1,by lia,n3⟩
 rw [if_neg (by simpa using c)]
 have fu:kI K p n<kI K p (n-1):=n4.resolve_left (by lia)
 by_cases c2:n>1
 .rw [if_pos c2]
  show ∃m p',go (ja K) (if decide (kI K p 0<kI K p (n-1))=true then .ret (n,p) else II n nrem (sV p 0 n))=(m,p')/\_
  by_cases c3:kI K p 0<kI K p (n-1)
  .rw [if_pos (decide_eq_true c3)]
   exact ⟨n,p,rfl,IA _,n1,by lia,n3⟩
  .rw [if_neg (by simpa using c3)]
   have qM:∀k,0<=k->k<n->kI K p k=kI K p (n-1):=λk _ hk=>by
    have:=n3 0 k (by lia) hk
    have:=n3 k (n-1) (by lia) (by lia)
    lia
   obtain ⟨a,b,e2,j1,j2,j3,j4⟩:=Xb (K:=K) (p:=sV p 0 n) (n:=n) (nrem:=nrem) (by lia) (by unfold sV;rw [mirror_size];lia) λi j sH hj=>by
    unfold sV
    rw [JD (by lia) qM,JD (by lia) qM]
    by_cases d:j<n
    .rw [qM i (by lia) (by lia),qM j (by lia) d];exact CM _
    .obtain rfl:j=n:=by lia
     by_cases d2:i=j
     .subst d2;exact CM _
     .rw [qM i (by lia) (by lia)];lia
   exact ⟨a,b,e2,j1.trans (BB _ _ _ _),j2,j3,j4⟩
 .rw [if_neg c2]
  obtain rfl:n=1:=by lia
  exact Xb (K:=K) (by lia) hz λi j sH hj=>by
   by_cases d:i=j
   .subst d;exact CM _
   .obtain ⟨rfl,rfl⟩:i=0/\j=1:=by lia
    exact Int.le_of_lt fu
theorem place(hs:A7 K p k):∀(f l r:Nat),l<=r->r<=k->r-l<=f->(∀i,i<l->kI K p i<=kI K p k)->(∀i,r<=i->i<k->kI K p k<kI K p i) ->
  ∃m,go (ja K) (D5 p k f l r)=m/\m<=k/\(∀i,i<m->kI K p i<=kI K p k)/\∀i,m<=i->i<k->kI K p k<kI K p i
 | 0,l,r,h1,h2,h3,h4,h5=>by
  obtain rfl:l=r:=by lia
  exact ⟨l,rfl,h2,h4,h5⟩
 | f+1,l,r,h1,h2,h3,h4,h5=>by
  unfold D5
  by_cases c:l≥r
  .rw [if_pos c]
   obtain rfl:l=r:=by lia
   exact ⟨l,rfl,h2,h4,h5⟩
  .rw [if_neg c]
   show ∃m,go (ja K) (if decide (kI K p k<kI K p ((l+r)/2))=true then D5 p k f l ((l+r)/2) else D5 p k f ((l+r)/2+1) r)=m/\_
   by_cases c2:kI K p k<kI K p ((l+r)/2)
   .rw [if_pos (decide_eq_true c2)]
    exact place hs f l _ (by lia) (by lia) (by lia) h4 λi z1 z2=>by
     have:=hs ((l+r)/2) i z1 z2;lia
   .rw [if_neg (by simpa using c2)]
    exact place hs f _ r (by lia) (by lia) (by lia) (λi z=>by
     have:=hs i ((l+r)/2) (by lia) (by lia);lia) h5
theorem bin:∀(f:Nat) (p:Array Nat) (k:Nat),1<=k->k+f<=p.size->A7 K p k->∃p',go (ja K) (kas_bin f p k)=p'/\p'.Perm p/\A7 K p' (k+f)
 | 0,p,k,_,_,hs=>⟨p,rfl,IA _,hs⟩
 | f+1,p,k,hk,hz,hs=>by
  unfold kas_bin
  rw [E2]
  obtain ⟨l,e,l1,l2,l3⟩:=place (K:=K) hs k 0 k (by lia) (by lia) (by lia) (λi z=>by lia) λi z1 z2=>by lia
  rw [e]
  have hb:=getElem?_bubble (xs:=p) (src:=k) (by lia) (k-l) (by lia)
  rw [show k-(k-l)=l by lia] at hb
  have kb:∀m,kI K (bubble p k (k-l)) m=if m=l then kI K p k else if l<m/\m<=k then kI K p (m-1) else kI K p m:=λm=>by
   have e:=hb m
   by_cases c1:m=l
   .rw [if_pos c1] at e ⊢;exact Jb e
   .rw [if_neg c1] at e ⊢
    by_cases c2:l<m/\m<=k
    .rw [if_pos c2] at e ⊢;exact Jb e
    .rw [if_neg c2] at e ⊢;exact Jb e
  obtain ⟨p',e',j1,j2⟩:=bin f (bubble p k (k-l)) (k+1) (by lia) (by rw [bubble_size];lia) λi j sH hj=>by
   rw [kb,kb]
   repeat' split
   all_goals first
    | (exfalso;lia)
    | exact CM _
    | exact l2 _ (by lia)
    | exact Int.le_of_lt (l3 _ (by lia) (by lia))
    | exact hs _ _ (by lia) (by lia)
  exact ⟨p',e',j1.trans (bubble_perm _ _ _),by rw [show k+(f+1)=k+1+f by lia];exact j2⟩
noncomputable def ord(K:Nat->Int)(n:Nat):List Nat:=(go (ja K) (Iv n)).toList
theorem xE(K:Nat->Int)(n:Nat)(h:1<=n):(ord K n).Perm (fx n)/\(ord K n).Pairwise λi j=>K i<=K j:=by
 have key:∃p',go (ja K) (Iv n)=p'/\p'.Perm (Qp (fx n))/\A7 K p' n:=by
  unfold Iv
  rw [E2]
  obtain ⟨m,p,e,k1,k2,k3,k4⟩:=cnt (K:=K) (p:=Qp (fx n)) (nrem:=n) h (by simp)
  rw [e]
  dsimp only
  have hz:p.size=n:=by rw [k1.size_eq];simp
  by_cases c:m<n
  .rw [if_pos c]
   obtain ⟨p',e',j1,j2⟩:=bin (K:=K) (n-max m 1) p (max m 1) (by lia) (by lia) (by rw [show max m 1=m by lia];exact k4)
   exact ⟨p',e',j1.trans k1,by rw [show max m 1+(n-max m 1)=n by lia] at j2;exact j2⟩
  .rw [if_neg c]
   obtain rfl:m=n:=by lia
   exact ⟨p,rfl,k1,k4⟩
 obtain ⟨p,e,k1,k2⟩:=key
 unfold ord
 rw [e]
 refine ⟨WU.mp k1,Wx.mpr λi j hi hj sH=>?_⟩
 have hz:p.size=n:=by rw [k1.size_eq];simp
 simp only [tf] at hi hj
 have:=k2 i j (by lia) (by lia)
 unfold kI at this
 simpa [hi,hj] using this
end
end KS
namespace KS
open PySem PySem.W PyProof.Rows
noncomputable def Ok{α:Type}(n:Nat)(R:α->Prop):KasT α->Prop
 | .ret a=>R a
 | .ask i j k=>i<n/\j<n/\∀b,Ok n R (k b)
theorem Ok.bind{α β:Type}{n:Nat}{R:α->Prop}{S:β->Prop}{f:α->KasT β}(hf:∀a,R a->Ok n S (f a)):∀{t:KasT α},Ok n R t->Ok n S (t.bind f)
 | .ret a,h=>hf a h
 | .ask i j k,h=>⟨h.1,h.2.1,λb=>Ok.bind hf (h.2.2 b)⟩
theorem Bb{α:Type}{n:Nat}{cm:Nat->Nat->(Bool->Shared->Prop)->Shared->Prop}{cmp:Nat->Nat->Bool}{s:Shared}(h:∀i j,i<n->j<n->∀Q,Q (cmp i j) s->cm i j Q s){R:α->Prop}{Q:α->Shared->Prop}:∀{t:KasT α},Ok n R t->Q (go cmp t) s->t.kasWp cm Q s
 | .ret _,_,q=>q
 | .ask i j k,o,q=>h i j o.1 o.2.1 _ (Bb h (o.2.2 (cmp i j)) q)
section
variable {n:Nat}
def En(n:Nat)(p:Array Nat):Prop:=∀k,p.getD k 0<n
theorem En.perm(h0:0<n)(h:En n p)(e:q.Perm p):En n q:=λk=>by
 by_cases hk:k<q.size
 .have hm:q[k]∈p.toList:=(WU.mp e).mem_iff.mp (by simp)
  obtain ⟨i,hi,e2⟩:=Eu.mp hm
  have:=h i
  rw [tf] at hi
  simp only [zt,hi,hk,dite_true] at this ⊢
  simp at e2
  have e3:q[k]=p[i]:=e2.symm
  show q[k]<n
  rw [e3]
  exact this
 .simp [zt,hk,h0]
theorem RS{p:Array Nat}(h:En n p):∀f m,Ok n (λ_=>True) (kas_asc p f m)
 | 0,m=>trivial
 | f+1,m=>by
  unfold kas_asc
  refine ⟨h _,h _,λb=>?_⟩
  dsimp only
  split
  .trivial
  .exact RS h f (m+1)
theorem Mh(h0:0<n):∀f (p:Array Nat) m q,En n p->Ok n (λr=>En n r.1) (Bu f p m q)
 | 0,p,m,q,h=>h
 | f+1,p,m,q,h=>by
  unfold Bu
  refine ⟨h _,h _,λb=>?_⟩
  dsimp only
  split
  .split
   .exact Mh h0 f _ _ _ (h.perm h0 (BB _ _ _ _))
   .exact Mh h0 f _ _ _ h
  .refine ⟨h _,h _,λb=>?_⟩
   dsimp only
   split
   .exact h
   .exact Mh h0 f _ _ _ h
theorem Zv(h0:0<n)(h:En n p)(a b:Nat):Ok n (λr=>En n r.2) (kas_tail3 a b p):=by
 unfold kas_tail3
 have e:En n (sV p 0 a):=h.perm h0 (BB _ _ _ _)
 exact (RS e _ _).bind λm _=>(show Ok n (λr:Nat×Array Nat=>En n r.2) (.ret (m,sV p 0 a)) from e)
theorem Zn(h0:0<n)(h:En n p)(a b:Nat):Ok n (λr=>En n r.2) (II a b p):=by
 unfold II
 refine (Mh h0 _ _ _ _ h).bind λr hr=>?_
 split
 .exact Zv h0 (hr.perm h0 (BB _ _ _ _)) _ _
 .exact Zv h0 hr _ _
theorem b2L(h0:0<n)(h:En n p)(b:Nat):Ok n (λr=>En n r.2) (kas_count b p):=by
 unfold kas_count
 refine (RS h _ _).bind λm _=>?_
 split
 .exact h
 .split
  .refine ⟨h _,h _,λb=>?_⟩
   dsimp only
   split
   .exact h
   .exact Zn h0 (h.perm h0 (BB _ _ _ _)) _ _
  .exact Zn h0 h _ _
theorem SQ{p:Array Nat}(h:En n p)(k:Nat):∀f l r,Ok n (λ_=>True) (D5 p k f l r)
 | 0,l,r=>trivial
 | f+1,l,r=>by
  unfold D5
  split
  .trivial
  .refine ⟨h _,h _,λb=>?_⟩
   dsimp only
   split
   .exact SQ h k f _ _
   .exact SQ h k f _ _
theorem X9(h0:0<n):∀f (p:Array Nat) k,En n p->Ok n (λ_=>True) (kas_bin f p k)
 | 0,p,k,h=>trivial
 | f+1,p,k,h=>by
  unfold kas_bin
  exact (SQ h k _ _ _).bind λl _=>X9 h0 f _ _ (h.perm h0 (bubble_perm _ _ _))
theorem Ad(h0:0<n):Ok n (λ_=>True) (Iv n):=by
 unfold Iv
 have e:En n (Qp (fx n)):=λk=>by
  by_cases hk:k<n
  .simp [zt,hk]
  .simp [zt,hk,h0]
 refine (b2L h0 e n).bind λr hr=>?_
 split
 .exact X9 h0 _ _ _ hr
 .trivial
end
end KS
namespace SE
open PySem PyProof.Rows
def lA(l:List Nat):Prop:=l.Pairwise (·<·)
theorem lA.lt{xs:Array Nat}(h:lA xs.toList){a b d:Nat}(VQ:a<b)(hb:b<xs.size):xs.getD a d<xs.getD b d:=by
 have ha:a<xs.size:=BA VQ hb
 have:=(Wx.mp h) a b (by simpa using ha) (by simpa using hb) VQ
 simp only [Q4] at this
 simpa [zt,ha,hb] using this
structure Bl(xs:Array Nat)(j r:Nat):Prop where
 le:r<=xs.size
 lo:∀k,k<r->xs.getD k j<j
 hi:∀k,r<=k->k<xs.size->j<=xs.getD k j
theorem Rv{xs:Array Nat}{j:Nat}(hr:lA xs.toList):∀(n lo hi:Nat),hi-lo<=n->lo<=hi->hi<=xs.size->(∀k,k<lo->xs.getD k j<j)->(∀k,hi<=k->k<xs.size->j<=xs.getD k j)->Bl xs j (V7 xs j n lo hi)
 | 0,lo,hi,a,b,c,d,e=>by
  have:lo=hi:=by omega
  subst this
  exact ⟨c,d,e⟩
 | n+1,lo,hi,a,b,c,d,e=>by
  unfold V7
  split
  .rename_i fu
   dsimp only
   split
   .rename_i hm
    refine Rv hr n _ _ (by omega) (by omega) c (λk hk=>?_) e
    rcases Lg k ((lo+hi)/2) with q | q
    .exact BA (hr.lt q (by omega)) hm
    .rw [show k=(lo+hi)/2 by omega];exact hm
   .rename_i hm
    refine Rv hr n _ _ (by omega) (by omega) (by omega) d (λk hk hs=>?_)
    rcases Lg ((lo+hi)/2) k with q | q
    .exact D9 (Ln (Nat.not_lt.mp hm) (hr.lt q hs))
    .rw [show k=(lo+hi)/2 by omega];exact Nat.not_lt.mp hm
  .have:lo=hi:=by omega
   subst this
   exact ⟨c,d,e⟩
theorem Y7{xs:Array Nat}(hr:lA xs.toList)(j:Nat):Bl xs j (yz xs j):=
 Rv hr _ _ _ (cw _) (uB _) (cw _) (λ_ h=>absurd h (Lq _)) λk h h'=>absurd h' (by omega)
theorem b2z{xs:Array Nat}(hr:lA xs.toList){j:Nat}(hj:(xs[yz xs j]?==some j)=false):lA (SetTable.insertAt xs (yz xs j) j).toList:=by
 have B:=Y7 hr j
 generalize yz xs j=r at B hj
 rw [SetTable.toList_insertAt]
 have e1:xs.toList=xs.toList.take r++xs.toList.drop r:=(Q8 r _).symm
 have p:=hr
 unfold lA at p
 rw [e1,WL] at p
 have lo:∀a∈xs.toList.take r,a<j:=λa ha=>by
  obtain ⟨k,hk,e⟩:=Eu.mp ha
  rw [Ec] at hk
  rw [List.getElem_take] at e
  have DU:k<xs.size:=by simp at hk;omega
  have:=B.lo k (by omega)
  simp only [Q4] at e
  simp only [zt,DU,dif_pos] at this
  rw [<-e];exact this
 have hi:∀a∈xs.toList.drop r,j<a:=λa ha=>by
  obtain ⟨k,hk,e⟩:=Eu.mp ha
  rw [Ls] at hk
  rw [List.getElem_drop] at e
  have DU:r+k<xs.size:=by simp at hk;omega
  have h1:=B.hi (r+k) (by omega) DU
  simp only [Q4] at e
  simp only [zt,DU,dif_pos] at h1
  have h1:j<=a:=by rw [<-e];exact h1
  rcases Nat.lt_or_eq_of_le h1 with q | q
  .exact q
  .exfalso
   rcases Q9 k with z | z
   .subst z
    rw [Et (by omega:r<xs.size)] at hj
    have e':xs[r]'(by omega)=j:=by rw [q];exact e
    rw [e'] at hj
    simp at hj
   .have:=hr.lt (d:=j) (show r<r+k by omega) DU
    have h2:=B.hi r (cw _) (by omega)
    have h3:xs.getD (r+k) j=a:=by simp only [zt,DU,dif_pos];exact e
    omega
 show Qf _ _
 first
 | (refine WL.mpr ⟨p.1,Ei.mpr ⟨hi,p.2.1⟩,λa ha b hb=>?_⟩
    rcases cL.mp hb with q | q
    .rw [q];exact lo a ha
    .exact p.2.2 a ha b q)
structure Tb(bt:Bool)(t:SetTable):Prop where
 led:t.led=true\/bt=true
 PZ:t.dummies=#[]
 rise:t.plain=true->lA t.place.toList
theorem b2q(bt:Bool):Tb bt (.fresh 0 0 (!bt)):=⟨by cases bt<;>simp [SetTable.fresh],rfl,λ_=>IS⟩
theorem Tb.rM{bt:Bool}{t:SetTable}(h:Tb bt t)(n:Nat):Tb bt (t.standIn n):=⟨h.led,rfl,λz=>absurd z (by simp [SetTable.standIn])⟩
theorem Tb.off{bt:Bool}{t:SetTable}(h:Tb bt t):Tb bt { t with plain:=false }:=⟨h.led,h.PZ,λz=>absurd z (by simp)⟩
theorem YI(j:Nat):SetTable.has #[] j=false:=by simp [SetTable.has]
theorem a5Z{t:SetTable}(hd:t.dummies=#[])(f:Nat->Int)(h:Int):∀(n:Nat) (p:Wj) (j:Nat) (q:Option Nat),p.dummy=none->Qt t f h n p=some (.empty j q)->q=none/\(t.place[yz t.place j]?==some j)=false
 | 0,p,j,q,_,e=>by simp [Qt] at e
 | n+1,p,j,q,hp,e=>by
  have ad:∀p:Wj,(t.advance p).dummy=p.dummy:=λp=>by unfold SetTable.advance;split<;>rfl
  unfold Qt at e
  unfold SetTable.slot at e
  rw [hd,YI] at e
  dsimp only at e
  by_cases hl:(t.place[yz t.place p.j]?==some p.j)=true
  .rw [if_pos hl] at e
   dsimp only at e
   split at e
   .simp at e
   .exact a5Z hd f h n _ j q (by rw [ad];exact hp) e
  .rw [if_neg hl] at e
   simp only [AL,if_false,gP,SetTable.Met.empty.injEq] at e
   obtain ⟨rfl,rfl⟩:=e
   exact ⟨hp,Bool.eq_false_iff.mpr hl⟩
theorem Tb.lay{bt:Bool}{t:SetTable}(T:Tb bt t)(es:Array (Int×Value))(h:Int)(x:Value):Tb bt (layNew t es h x).2.1:=by
 unfold layNew
 cases hf:t.freeSlot h with
 | none=>exact T.rM _
 | some z =>
  obtain ⟨slot,wd⟩:=z
  dsimp only
  have key:wd=false/\(t.place[yz t.place slot]?==some slot)=false:=by
   unfold SetTable.freeSlot SetTable.probe at hf
   split at hf
   .rename_i j q e
    obtain ⟨rfl,b⟩:=a5Z T.PZ _ _ _ _ j q rfl e
    simp only [QM,Option.isSome_none,gP,Lf] at hf
    obtain ⟨rfl,rfl⟩:=hf
    exact ⟨rfl,b⟩
   .cases hf
  show Tb bt ((t.put slot).1.orStandIn _)
  have hp:Tb bt (t.put slot).1:=by
   unfold SetTable.put
   refine ⟨T.led,?_,λz=>?_⟩
   .dsimp only;rw [T.PZ,YI];rfl
   .exact b2z (T.rise z) key.2
  unfold SetTable.orStandIn
  split
  .exact hp
  .exact hp.rM _
theorem Tb.Gi{bt:Bool}{t:SetTable}(T:Tb bt t)(es:Array (Int×Value))(n:Nat):Tb bt (relayAll t es n).2.1:=by
 unfold relayAll
 cases hf:t.relaid (es.map (·.1)) n with
 | none=>exact T.rM _
 | some z =>
  obtain ⟨t',order⟩:=z
  dsimp only
  split
  .show Tb bt t'
   unfold SetTable.relaid SetTable.laid at hf
   simp only [Option.bind_eq_bind,Option.bind_eq_some_iff] at hf
   obtain ⟨ow,_,e⟩:=hf
   simp only [Option.pure_def,gP,Lf] at e
   obtain ⟨rfl,_⟩:=e
   refine ⟨T.led,rfl,λ_=>?_⟩
   show lA _
   unfold lA
   dsimp only
   have sub:List.Sublist (((fx (QB n-1+1)).filterMap λj=>(ow.getD j none).map (j,·)).map (·.1)) (fx (QB n-1+1)):=by
    generalize fx (QB n-1+1)=l
    induction l with
    | nil=>exact List.Sublist.slnil
    | cons a l ih =>
     rw [EA]
     cases ow.getD a none with
     | none=>exact ih.cons _
     | some k=>exact ih.cons₂ _
   exact List.Pairwise.sublist sub List.pairwise_lt_range
  .exact T.rM _
end SE
namespace SE
open PySem PyProof.Rows PySem.Calls
theorem MV{α β:Type}{f:α->β}{l m:List β}(h:l.Perm m):∀ts:List α,m=ts.map f->∃us:List α,us.Perm ts/\l=us.map f:=by
 induction h with
 | nil=>intro ts e;exact ⟨[],by rw [List.map_eq_nil_iff.mp e.symm],rfl⟩
 | cons a _ ih =>
  intro ts e
  obtain ⟨b,U8,rfl,rfl,rfl⟩:=Q3.mp e.symm
  obtain ⟨us,p,rfl⟩:=ih U8 rfl
  exact ⟨b::us,p.cons _,rfl⟩
 | swap a b l =>
  intro ts e
  obtain ⟨x,U8,rfl,rfl,e'⟩:=Q3.mp e.symm
  obtain ⟨y,NQ,rfl,rfl,rfl⟩:=Q3.mp e'
  exact ⟨y::x::NQ,Wi ..,rfl⟩
 | trans _ _ i1 i2 =>
  intro ts e
  obtain ⟨us,p,e1⟩:=i2 ts e
  obtain ⟨vs,q,e2⟩:=i1 us e1
  exact ⟨vs,q.trans p,e2⟩
section
variable {prog:Program}{w:World}{K:Type}[DecidableEq K]{knd:KeyKind prog w K}{A:Around}{E:Value->Shared->Prop}{s:Shared}
noncomputable def sY(w:World):Bool:=w.params.followText "set-order"
def El(knd:KeyKind prog w K)(q:K×Int×Value):Prop:=knd.is q.1 q.2.2=true/\q.2.1=knd.hash q.1/\q.2.2.scannable=true
structure Sd(knd:KeyKind prog w K)(es:Array (Int×Value))(t:SetTable)(dR:List (K×Int×Value)):Prop where
 AF:es.toList=dR.map (·.2)
 el:∀q∈dR,El knd q
 fits:t.fits es.size=true
 tb:Tb (sY w) t
 lt:es.size<scanBound
theorem Sd.of{es:Array (Int×Value)}{t:SetTable}{dR:List (K×Int×Value)}(S:Sd knd es t dR):ElemsOf knd es.toList:=by
 rw [S.AF]
 intro e he
 obtain ⟨q,hq,rfl⟩:=jW.mp he
 obtain ⟨a,b,c⟩:=S.el q hq
 exact ⟨⟨q.1,a,b⟩,c⟩
theorem Sd.len{es:Array (Int×Value)}{t:SetTable}{dR:List (K×Int×Value)}(S:Sd knd es t dR):es.size=dR.length:=by
 rw [<-tf,S.AF,bY]
def Sa(knd:KeyKind prog w K)(o:Obj)(ks:List K):Prop:=o.ExactSet/\∃es ep t dR,o.data=.set es ep t/\Sd knd es t dR/\ks=dR.map (·.1)
theorem Yr{a:Addr}{o:Obj}{es:Array (Int×Value)}{ep:Nat}{t:SetTable}(ho:s.heap.get? a=some o)(hd:o.data=.set es ep t)(yj:Array (Int×Value))(t':SetTable):
  (s.heap.update a (K7 yj t')).get? a=some { o with data:=.set yj (ep+1) t' }:=by
 have:=LI (K7 yj t') ho (by rw [putSet_of yj t' hd];rfl)
 rwa [putSet_of yj t' hd] at this
theorem YT{g:Bool->Sem Unit}(hg:∀(b:Bool) (aR:Shared) (Q':Unit->Shared->Prop),Q' () aR->wpAny (model prog w) A (g b) Q' E aR)
  {a:Addr}{o:Obj}{es:Array (Int×Value)}{ep:Nat}{t:SetTable}(ho:s.heap.get? a=some o)(hex:o.ExactSet)(hd:o.data=.set es ep t)
  {lD:Array (Int×Value)}{t2:SetTable}{dR:List (K×Int×Value)}(S:Sd knd lD t2 dR){wd:Bool}{R:Option Bool->Shared->Prop}
  (h:∀h' o' ks',yw a s.heap h'->h'.get? a=some o'->Sa knd o' ks'->ks'.Perm (dR.map (·.1))->R (some true) { s with heap:=h' }):
  wpAny (model prog w) A (storeSet a lD t2 >>= λ_=>if (!wd&&t2.tooFull)=true then (g (relayAll t2 lD (CW lD.size)).2.2 >>= λ_=>storeSet a (relayAll t2 lD (CW lD.size)).1 (relayAll t2 lD (CW lD.size)).2.1 >>= λ_=>pure (some true)) else pure (some true)) R E s:=by
 refine aF (wpAny_storeSet_of ho hd ?_ (Ed S.lt))
 have o1:=Yr ho hd lD t2
 have sb:=We s.heap a (K7 lD t2)
 split
 .have p:=relayAll_perm t2 lD (CW lD.size)
  have f:=relayAll_fits t2 lD (CW lD.size)
  have T:=S.tb.Gi lD (CW lD.size)
  generalize relayAll t2 lD (CW lD.size)=rl at p f T ⊢
  obtain ⟨PU,t3,gv⟩:=rl
  dsimp only at p f T ⊢
  obtain ⟨us,pu,eu⟩:=MV p dR S.AF
  have z:PU.size=lD.size:=by rw [<-tf,p.length_eq,tf]
  have S2:Sd knd PU t3 us:=⟨eu,λq hq=>S.el q (pu.mem_iff.mp hq),f,T,by rw [z];exact S.lt⟩
  refine aF (hg _ _ _ ?_)
  refine aF (wpAny_storeSet_of o1 rfl ?_ (Ed S2.lt))
  exact bG (h _ _ _ (sb.trans (We _ a _)) (Yr (s:={ s with heap:=s.heap.update a (K7 lD t2) }) o1 rfl PU t3) ⟨hex,_,_,_,us,rfl,S2,rfl⟩ (pu.map _))
 .exact bG (h _ _ _ sb o1 ⟨hex,_,_,_,dR,rfl,S,rfl⟩ (CV _))
theorem b8V{a:Addr}{o:Obj}{ks:List K}{k:K}{x:Value}{Q:Bool->Shared->Prop}(ho:s.heap.get? a=some o)(S:Sa knd o ks)(hk:knd.is k x=true)(hx:x.scannable=true)(room:ks.length+1<scanBound)
  (h:∀b h' o' ks',yw a s.heap h'->h'.get? a=some o'->Sa knd o' ks'->ks'.Perm (if k∈ks then ks else ks++[k])->Q b { s with heap:=h' }):
  wpAny (model prog w) A (setAddHashed a x (knd.hash k)) Q E s:=by
 obtain ⟨hex,es,ep,t,dR,hd,D,rfl⟩:=S
 rw [bY] at room
 have VL:=D.of
 unfold setAddHashed setAddHashedIn
 refine q0 (aF (IQ ho hd D.fits ?_))
 dsimp only
 rw [byScan_of hx D.lt VL,if_pos rfl]
 unfold setAddByScan
 refine aF (aF (K6 (aF (wpAny_setScan_of hk ho hd D.fits VL ?_))))
 have mem:∀e∈es.toList,knd.is k e.2=true->k∈dR.map (·.1):=λe he hp=>by
  rw [D.AF] at he
  obtain ⟨q,hq,rfl⟩:=jW.mp he
  exact jW.mpr ⟨q,hq,knd.inj _ _ _ (D.el q hq).1 hp⟩
 cases hr:List.findIdx? (λe=>knd.is k e.2) es.toList with
 | some j =>
  obtain ⟨hj,hp,_⟩:=List.findIdx?_eq_some_iff_getElem.mp hr
  have hm:=mem _ (oF hj) hp
  refine bG (bG ?_)
  have:=h false s.heap o (dR.map (·.1)) (Qu a s.heap) ho ⟨hex,es,ep,t,dR,hd,D,rfl⟩ (by rw [if_pos hm])
  exact this
 | none =>
  have hm:k∉dR.map (·.1):=λz=>by
   obtain ⟨q,hq,e⟩:=jW.mp z
   have:=List.findIdx?_eq_none_iff.mp hr q.2 (by rw [D.AF];exact jW.mpr ⟨q,hq,rfl⟩)
   rw [<-e,(D.el q hq).1] at this
   exact C8 this
  rw [if_neg hm] at h
  have p:=layNew_perm t es (knd.hash k) x
  have f:=layNew_fits t es (knd.hash k) x
  have T:=D.tb.lay es (knd.hash k) x
  dsimp only
  generalize layNew t es (knd.hash k) x=ly at p f T ⊢
  obtain ⟨lD,t1,wd,gv⟩:=ly
  dsimp only at p f T ⊢
  rw [V6] at p
  obtain ⟨us,pu,eu⟩:=MV p (dR++[(k,knd.hash k,x)]) (by rw [D.AF,nz];rfl)
  have z:lD.size=dR.length+1:=by rw [<-tf,p.length_eq,fD,tf,D.len];rfl
  have el1:∀q∈us,El knd q:=λq hq=>by
   rcases jV.mp (pu.mem_iff.mp hq) with m | m
   .exact D.el q m
   .rw [je.mp m];exact ⟨hk,rfl,hx⟩
  have mk:∀t2:SetTable,t2.fits lD.size=true->Tb (sY w) t2->Sd knd lD t2 us:=λt2 a b=>⟨eu,el1,a,b,by rw [z];exact room⟩
  have fin:∀h' o' ks',yw a s.heap h'->h'.get? a=some o'->Sa knd o' ks'->ks'.Perm (us.map (·.1))->Q true { s with heap:=h' }:=λh' o' ks' c1 c2 c3 c4 =>
   h true h' o' ks' c1 c2 c3 (c4.trans (by simpa using pu.map (·.1)))
  have hg:∀(b:Bool) (aR:Shared) (Q':Unit->Shared->Prop),Q' () aR->wpAny (model prog w) A (match b with | true=>rule "set.scan.the-table-gave-way" | false=>pure ()) Q' E aR:=λb aR Q' hq=>by
   cases b
   .exact bG hq
   .exact K6 hq
  refine aF (hg _ _ _ ?_)
  split
  .refine aF ?_
   rw [hashByValue_scannable 8 hx]
   refine bG (YT hg ho hex hd (mk _ ?_ ?_) λh' o' ks' c1 c2 c3 c4=>bG (fin h' o' ks' c1 c2 c3 c4))
   .split
    .exact f
    .exact SetTable.fits_plain_off f
   .split
    .exact T
    .exact T.off
  .refine aF (bG ?_)
   rw [if_pos rfl]
   exact YT hg ho hex hd (mk _ f T) λh' o' ks' c1 c2 c3 c4=>bG (fin h' o' ks' c1 c2 c3 c4)
end
end SE
namespace SE
open PySem PyProof.Rows PySem.Calls
section
variable {prog:Program}{w:World}{K:Type}[DecidableEq K]{knd:KeyKind prog w K}{A:Around}{E:Value->Shared->Prop}{s:Shared}{R:Result->Shared->Prop}{I:Addr}{fp wr:List Addr}{G:Array GenState->Array GenState->Prop}{n:Nat}{P:Nat->Value->Prop}{St:Nat->Shared->Prop}
structure Kd(val:Nat->K)(i:Nat)(ks:List K):Prop where
 nd:ks.Nodup
 mem:∀x,x∈ks↔∃j,j<i/\val j=x
 len:ks.length<=i
theorem Kd.nil(val:Nat->K):Kd val 0 []:=⟨List.nodup_nil,λx=>⟨λz=>(nomatch z),λ⟨j,hj,_⟩=>absurd hj (Lq _)⟩,cw _⟩
theorem Kd.succ{val:Nat->K}{i:Nat}{ks ks':List K}(D:Kd val i ks)(p:ks'.Perm (if val i∈ks then ks else ks++[val i])):Kd val (i+1) ks':=by
 have m:∀x,(∃j,j<i+1/\val j=x)↔x∈ks\/x=val i:=λx=>by
  rw [D.mem]
  constructor
  .rintro ⟨j,hj,e⟩
   rcases Nat.lt_succ_iff_lt_or_eq.mp hj with q | q
   .exact .inl ⟨j,q,e⟩
   .exact .inr (by rw [<-e,q])
  .rintro (⟨j,hj,e⟩ | e)
   .exact ⟨j,we hj,e⟩
   .exact ⟨i,oG _,e.symm⟩
 by_cases h:val i∈ks
 .rw [if_pos h] at p
  exact ⟨p.nodup_iff.mpr D.nd,λx=>by rw [m,p.mem_iff];exact ⟨.inl,λz=>z.elim id λe=>e▸h⟩,by rw [p.length_eq];exact Nat.le_succ_of_le D.len⟩
 .rw [if_neg h] at p
  refine ⟨p.nodup_iff.mpr (C3.mpr ⟨D.nd,by simp,?_⟩),λx=>by rw [m,p.mem_iff,jV,je],by rw [p.length_eq,fD];exact Nat.succ_le_succ D.len⟩
  intro a ha b hb
  rw [je.mp hb]
  exact λe=>h (e▸ha)
theorem JI(W:WalksS prog w A.in1 I fp wr G n P St)(S:Addr)(p7:S∉fp)(val:Nat->K)(Al:∀i v,P i v->knd.is (val i) v=true/\v.scannable=true)(hb:n+1<scanBound):
  ∀(m i:Nat) (s:Shared) (o:Obj) (ks:List K),n-i=m->i<=n->St i s->s.heap.get? S=some o->Sa knd o ks->Kd val i ks ->
   (∀s' o' ks',Moved (S::wr) G s s'->s'.heap.get? S=some o'->Sa knd o' ks'->Kd val n ks'->R (.ok (.ret .none)) s') ->
   codeAny (model prog w) A (.builtin "set.update.loop" ⟨[.ref S,.ref I],[]⟩) R s
 | 0,i,s,o,ks,hm,hi,st,ho,Z,D,hR=>by
  have e:i=n:=by omega
  subst e
  refine AM WK ?_
  rw [C7 QY _]
  show wpAny _ A.in1 (pyNext (.ref I) >>= _) _ _ s
  exact aF (W.done s _ _ st λs' mv=>bG (hR s' o ks (mv.mono λb hb=>gn _ hb) (mv.heap S _ (λh=>p7 (W.sub _ h)) ho) Z D))
 | m+1,i,s,o,ks,hm,hi,st,ho,Z,D,hR=>by
  have fu:i<n:=by omega
  refine AM WK ?_
  rw [C7 QY _]
  show wpAny _ A.in1 (pyNext (.ref I) >>= _) _ _ s
  refine aF (W.item i s _ _ fu st λv s' hP jw mv=>?_)
  obtain ⟨hv,hs⟩:=Al i v hP
  have iO:=mv.heap S _ (λh=>p7 (W.sub _ h)) ho
  show wpAny _ A.in1 (holding [v] (setAdd S v) >>= _) _ _ s'
  refine aF (q0 ?_)
  unfold setAdd
  refine q0 (aF (knd.pyHash (k:=val i) hv ?_))
  have len:=D.len
  refine b8V (s:={ s' with toks:=s'.toks+1 }) iO Z hv hs (by omega) λb h' o' ks' sb o2 Z' pm=>?_
  refine bG ⟨CT QY _,JI W S p7 val Al hb m (i+1) _ o' ks' (by omega) fu (W.frame _ s' _ _ jw (zr _) λb hb o e=>?_) o2 Z' (D.succ pm) λB5 o'' OP OI=>?_⟩
  .rw [sb.2 b (λh:b=S=>p7 (by rw [<-h];exact hb))];exact e
  .refine hR B5 o'' OP (Moved.trans W.gtrans ((mv.mono λb hb=>gn _ hb).then_heap (zr _) λb o hb e=>?_) OI)
   rw [sb.2 b (λh:b=S=>hb (by rw [h];exact gi))];exact e
noncomputable def lU(w:World):Obj:={ cls:=.type "set",dict:=none,data:=.set #[] 0 (.fresh 0 0 (!sY w)) }
theorem b5r:Sa knd (lU w) []:=⟨⟨rfl,rfl,rfl⟩,#[],0,_,[],rfl,⟨rfl,λ_ z=>(nomatch z),by rfl,b2q _,by decide⟩,rfl⟩
theorem b3o(a:Value){Q₁:Value->Shared->Prop}(h:Q₁ (.ref s.heap.objs.size) { s with heap:=s.heap.push (lU w) }):
  codeAny (model prog w) A (.call (.builtin "set.__new__") ⟨[.type "set",a],[]⟩) (wants Q₁ E) s:=by
 refine codeAny_of_tree ?_
 show wpAny _ A.in1 (checkBuiltinCall "set.__new__" ⟨[.type "set",a],[]⟩ >>= λ_=>again (.builtin "set.__new__" ⟨[.type "set",a],[]⟩)) _ _ s
 refine aF (zq (F.newCall_set_1 a) (bG ⟨CT F.plain_set_new _,AM F.entry_set_new ?_⟩))
 rw [C7 F.plain_set_new _]
 unfold Builtin.«set.__new__» Builtin.Frozenset.newClass
 have ue:=sub_set_self
 obtain ⟨hp,g,d,tk,os⟩:=s
 dsimp only
 wp_walk
 refine IU (bG ?_)
 dsimp only
 simp only [newObj]
 exact aF (wpAny_alloc (bG (bG h)))
theorem iI{l:Addr}{items:Array Value}{Q:Value->Shared->Prop}(hh:A.handled=none)(hl:s.heap.IsList l items)(val:Nat->K)(Al:∀(i:Nat) (v:Value),items[i]?=some v->knd.is (val i) v=true/\v.scannable=true)(hb:items.size+1<scanBound)
  (h:∀(h':Heap) (tk:Nat) o ks,(∀b o,b<s.heap.objs.size->s.heap.get? b=some o->h'.get? b=some o)->h'.get? s.heap.objs.size=some o->Sa knd o ks->Kd val items.size ks->Q (.ref s.heap.objs.size) { s with heap:=h',toks:=tk }):
  wpAny (model prog w) A (call (.type "set") [.ref l]) Q E s:=by
 obtain ⟨c,tl,hmro⟩:=Bz.mro
 have a1:=Bz.made
 have a2:=Bz.sub
 have a3:=Bz.notType
 have a4:=Bz.canCreate
 have a5:=F.typeCall_set_1 (.ref l)
 have hS:(s.heap.push (lU w)).get? s.heap.objs.size=some (lU w):=jx _ rfl
 have hT:({ s with heap:=s.heap.push (lU w) }:Shared).TypeIs (.ref s.heap.objs.size) "set":=⟨_,hS,rfl⟩
 refine CP (codeAny_of_tree (show wpAny _ _ (callAny (.type "set") _) _ _ _ from bG ⟨V9 _ (by decide +kernel),AM F.entry_type_call ?_⟩))
 rw [Around.under_plain (weight_type_call_type "set" [.ref l] []) rfl]
 repeat (any_goals (first | assumption | wp_step))
 refine zx (b3o (.ref l) (E:=E) (Q₁:=λobj aR=>obj=.ref s.heap.objs.size/\aR={ s with heap:=s.heap.push (lU w) }) ⟨rfl,rfl⟩) λr aR hr=>?_
 cases r with
 | error e=>exact hr
 | ok fl =>
  cases fl with
  | ret obj =>
   obtain ⟨rfl,rfl⟩:=hr
   have a6:=Bz.init.lookup
   have a7:=Bz.init.bind (.ref s.heap.objs.size)
   repeat (any_goals (first | assumption | wp_step))
   refine zx (Q5 (R:=wants (λr eB=>r=.none/\Q (.ref s.heap.objs.size) eB) E) Bz.init.plain F.entry_set_init (check_set_init_1 hT ?_)) λOe eB xT=>?_
   .obtain ⟨ol,hol,HE,nl,hdl⟩:=id hl
    have zb:(s.heap.push (lU w)).IsList l items:=hl.push _
    have VT:({ s with heap:=s.heap.push (lU w) }:Shared).TypeIs (.ref l) "list":=zb.typeIs
    have xV:l<s.heap.objs.size:=dU hol
    have n1:=F.sub_list_set
    have n2:=F.sub_list_frozenset
    have n3:(Bv "list" == Bv "dict")=false:=by decide
    unfold Builtin.«set.__init__» noKeywords Builtin.Frozenset.updateFrom
    generalize hPI:pyIter=PI
    wp_walk
    subst hPI
    refine Lj zb (aF (wpAny_runValue ?_))
    have mz:l≠(s.heap.push (lU w)).objs.size:=by rw [n8];exact fg (we xV)
    have p7:s.heap.objs.size∉[(s.heap.push (lU w)).objs.size,l]:=by
     rw [n8];simp only [cL,sX,or_false,not_or]
     exact ⟨fg (oG _),D8 xV⟩
    refine JI (knd:=knd) ((Qj (by simp [hh]) _ l mz items).toS) s.heap.objs.size p7 val Al hb (items.size-0) 0 _ (lU w) [] (by omega) (uB _) ⟨⟨_,jx _ rfl,rfl,rfl⟩,(zb.push _)⟩ (dY _ hS) b5r (Kd.nil val) λs' o' ks' hm iO Z D=>?_
    obtain ⟨h',g',d',pX,GB⟩:=s'
    have e1:g'=s.gens:=hm.gens
    have e2:d'=s.drawn:=hm.drawn
    have e3:GB=s.os:=hm.os
    subst e1;subst e2;subst e3
    show wpAny _ _ (pure _ >>= _) _ _ _
    refine bG (show wpAny _ _ (ret lE) _ _ _ from bG ⟨rfl,h h' pX o' ks' (λb o hb e=>hm.heap b o ?_ (dY _ (dY _ e))) iO Z D⟩)
    simp only [cL,sX,or_false,not_or]
    exact ⟨fg hb,fg (by rw [n8];exact we hb)⟩
   .cases Oe with
    | error e=>exact xT
    | ok HX =>
     cases HX with
     | ret r =>
      obtain ⟨rfl,hq⟩:=xT
      repeat (any_goals (first | assumption | wp_step))
     | _=>exact xT.elim
  | _=>exact hr.elim
end
end SE
namespace SE
open PySem PyProof.Rows PySem.Calls
section
variable {prog:Program}{w:World}{K:Type}[DecidableEq K]{knd:KeyKind prog w K}{A:Around}{E:Value->Shared->Prop}{s:Shared}
noncomputable def nx(w:World)(a:Addr)(es:Array (Int×Value))(ep:Nat)(t:SetTable)(slot given:Nat):Option (Value×Nat):=
 if sY w=true then ((pickOrder (w.params.setOrder a ep) es)[given]?).map λe=>(e.2,slot)
 else match es[yz t.place slot]?,t.place[yz t.place slot]? with
  | some (_,x),some j=>some (x,j+1)
  | _,_=>none
theorem Y4{a:Addr}{o:Obj}{es:Array (Int×Value)}{ep:Nat}{t:SetTable}{dR:List (K×Int×Value)}(ho:s.heap.get? a=some o)(hd:o.data=.set es ep t)(S:Sd knd es t dR)(pk:sY w=false->t.plain=true\/es.size<=1){slot given:Nat}
  {Q:Option (Value×Nat)->Shared->Prop}(h:Q (nx w a es ep t slot given) s):wpAny (model prog w) A (setNext a slot given ep) Q E s:=by
 unfold setNext
 refine aF (IQ ho hd S.fits ?_)
 dsimp only
 unfold setsByText
 refine aF (aF (IU (bG ?_)))
 unfold nx at h
 by_cases hb:sY w=true
 .rw [if_pos hb] at h
  have Aq:(model prog w).w.params.followText "set-order" = true:=hb
  dsimp only
  rw [if_pos Aq]
  rw [if_neg (by simp)]
  refine aF ?_
  unfold setWalk setsByText
  refine aF (IQ ho hd S.fits ?_)
  dsimp only
  refine aF (aF (IU (bG ?_)))
  dsimp only
  rw [if_pos Aq]
  refine aF (IU (bG (bG h)))
 .rw [if_neg hb] at h
  have Aq:¬((model prog w).w.params.followText "set-order" = true):=hb
  dsimp only
  rw [if_neg Aq]
  have hl:t.led=true:=S.tb.led.resolve_right hb
  refine Iz (λhz=>?_) (λ_=>?_)
  .exfalso
   have hz:(!t.plain&&decide (es.size>1))=true:=hz
   simp only [BE,Bool.not_eq_true',decide_eq_true_eq] at hz
   rcases pk (by simpa using hb) with q | q
   .rw [q] at hz;exact C8 hz.1
   .omega
  .show wpAny _ _ ((if (!t.led&&!es.isEmpty)=true then unsupported "set:maker-not-led" else pure ()) >>= _) _ _ _
   rw [hl]
   simp only [Bool.not_true,QP,AL,if_false]
   exact aF (bG (bG h))
noncomputable def yF(first:Value)(i:Nat)(a:Addr)(n ep:Nat):Obj:={ cls:=.type "set_iterator",data:=.fields #[first,rawInt i,.ref a,rawInt n,rawInt ep] }
theorem slot_next:Slot "set_iterator" "__next__" "set_iterator.__next__":=
 .of (owner:="set_iterator") (n:="__next__") (by rw [QR,Q7];kernel_rfl) (by decide +kernel) (by decide +kernel) (by decide +kernel)
  (by first | exact .inl (by decide +kernel) | exact .inr (by decide +kernel)) (by rw [isSubtype_type];kernel_rfl)
theorem Tv:entryFor table "set_iterator.__next__" = some Builtin.«set_iterator.__next__»:=entryFor_of_tree (by kernel_rfl)
theorem Yl:Manifest.owners.lookup (String.ofList ['r','o','t','a','r','e','t','i','_','t','e','s'].reverse)=some Manifest.sig_set_iterator:=by kernel_rfl
theorem Tj(a:Value):argsOk "set_iterator.__next__" ⟨[a],[]⟩:=by
 unfold argsOk;rw [signature?_of (id:="set_iterator.__next__") (n:=['_','_','t','x','e','n','_','_']) (o:=['r','o','t','a','r','e','t','i','_','t','e','s']) (by kernel_rfl) Yl];kernel_rfl
theorem Xt{I a:Addr}{i slot:Nat}{o:Obj}{es:Array (Int×Value)}{ep:Nat}{t:SetTable}{dR:List (K×Int×Value)}{Q:Option Value->Shared->Prop}(hI:s.heap.get? I=some (yF (rawInt slot) i a es.size ep))(ho:s.heap.get? a=some o)(hd:o.data=.set es ep t)(S:Sd knd es t dR)(pk:sY w=false->t.plain=true\/es.size<=1)
  {x:Value}{j:Nat}(hx:nx w a es ep t slot i=some (x,j))(hQ:∀h',h'.get? I=some (yF (rawInt j) (i+1) a es.size ep)->yw I s.heap h'->Q (some x) { s with heap:=h' }):wpAny (model prog w) A (pyNext (.ref I)) Q E s:=by
 have hT:s.TypeIs (.ref I) "set_iterator":=⟨_,hI,rfl⟩
 unfold pyNext
 refine aF (IG (Ly (name:=CY "__next__") hT slot_next (C9 slot_next hT Tv ?_ (Tj _))))
 unfold Builtin.«set_iterator.__next__»
 refine aF (zq (a:=(cR I,[])) rfl ?_)
 dsimp only
 refine aF (Lc hI rfl ?_)
 show wpAny _ _ (setEntries a >>= _) _ _ _
 refine aF (IK ho hd S.fits ?_)
 rw [if_neg (by simp)]
 show wpAny _ _ (setNext a (slot:Int).toNat (i:Int).toNat (ep:Int).toNat >>= _) _ _ _
 simp only [Ee]
 refine aF (Y4 ho hd S pk ?_)
 rw [hx]
 dsimp only
 refine aF (Eh hI (by simp) λh1 e1 b1=>?_)
 refine aF (Eh e1 (by simp) λh2 e2 b2=>?_)
 exact bG ⟨x,rfl,bG (hQ _ (by rw [e2];rfl) (b1.trans b2))⟩
end
end SE
namespace SE
open PySem PyProof.Rows PySem.Calls
section
variable {prog:Program}{w:World}{K:Type}[DecidableEq K]{knd:KeyKind prog w K}{A:Around}{E:Value->Shared->Prop}{s:Shared}
theorem ZY{I:Addr}{Q:Option Value->Shared->Prop}(hT:s.TypeIs (.ref I) "set_iterator")(hm:wpAny (model prog w) A.in1 (Builtin.«set_iterator.__next__» ⟨[.ref I],[]⟩) (λ_ _=>False) (λe s'=>∃h',s'={ s with heap:=h' }/\K9 I s.heap h'/\s'.TypeIs e "StopIteration") s)
  (hQ:∀h',K9 I s.heap h'->Q none { s with heap:=h' }):wpAny (model prog w) A (pyNext (.ref I)) Q E s:=by
 unfold pyNext
 refine aF (IG (Ly (name:=CY "__next__") hT slot_next (C9 slot_next hT Tv (jy hm (λ_ _ z=>z.elim) λe s' z=>?_) (Tj _))))
 obtain ⟨h',rfl,k,t⟩:=z
 exact aF (wpAny_isInstance (T:="StopIteration") (b:=true) t isSubtype_stop (bG (hQ _ k)))
theorem Xo{Q:PySem.Fin->Shared->Prop}(hh:A.handled=none)(h:∀e h',(∀b o,s.heap.get? b=some o->h'.get? b=some o)->({ s with heap:=h' }:Shared).TypeIs e "StopIteration" -> E e { s with heap:=h' }):
  wpAny (model prog w) A (newExc (.type "StopIteration") [] >>= λe=>raiseNew e) Q E s:=by
 refine aF ?_
 simp only [newExc,newTuple]
 refine aF (zu ?_ (by size_fits))
 refine aF (m:=firstArgMember _ _) (zq (a:=lE) (by first | rfl | (simp only [firstArgMember];rfl)) (zu ?_ (by size_fits)))
 simp only [raiseNew]
 refine aF (wpAny_handled ?_)
 rw [hh]
 refine aF (bG (wpAny_throw ?_))
 refine h _ _ (λb o e=>dY _ (dY _ e)) ?_
 exact ⟨_,jx _ rfl,rfl⟩
theorem X7{I a:Addr}{i slot:Nat}{o:Obj}{es:Array (Int×Value)}{ep:Nat}{t:SetTable}{dR:List (K×Int×Value)}{Q:Option Value->Shared->Prop}(hh:A.handled=none)(hI:s.heap.get? I=some (yF (rawInt slot) i a es.size ep))(ho:s.heap.get? a=some o)(hd:o.data=.set es ep t)(S:Sd knd es t dR)(pk:sY w=false->t.plain=true\/es.size<=1)
  (hx:nx w a es ep t slot i=none)(hQ:∀h',K9 I s.heap h'->Q none { s with heap:=h' }):wpAny (model prog w) A (pyNext (.ref I)) Q E s:=by
 refine ZY ⟨_,hI,rfl⟩ ?_ hQ
 unfold Builtin.«set_iterator.__next__»
 refine aF (zq (a:=(cR I,[])) rfl ?_)
 dsimp only
 refine aF (Lc hI rfl ?_)
 show wpAny _ _ (setEntries a >>= _) _ _ _
 refine aF (IK ho hd S.fits ?_)
 rw [if_neg (by simp)]
 show wpAny _ _ (setNext a (slot:Int).toNat (i:Int).toNat (ep:Int).toNat >>= _) _ _ _
 simp only [Ee]
 refine aF (Y4 ho hd S pk ?_)
 rw [hx]
 dsimp only
 refine aF (Eh hI (by simp) λh1 e1 b1=>?_)
 exact Xo (by simp [hh]) λe h' k t=>⟨h',rfl,λb o hb eo=>k b o (b1.extBut b o hb eo),t⟩
theorem GU{I a tp:Addr}{i:Nat}{o ot:Obj}{es:Array (Int×Value)}{ep nt:Nat}{t:SetTable}{dR:List (K×Int×Value)}{ps:List Nat}{Q:Option Value->Shared->Prop}(hI:s.heap.get? I=some (yF (.ref tp) i a es.size ep))(ho:s.heap.get? a=some o)(hd:o.data=.set es ep t)(S:Sd knd es t dR)
  (ht:s.heap.get? tp=some ot)(DX:ot.data=.seq (ps.map λ(p:Nat)=>rawInt p).toArray nt){x:Value}{p:Nat}{hv:Int}(hp:ps[i]?=some p)(hx:es[p]?=some (hv,x))(hQ:∀h',h'.get? I=some (yF (.ref tp) (i+1) a es.size ep)->yw I s.heap h'->Q (some x) { s with heap:=h' }):wpAny (model prog w) A (pyNext (.ref I)) Q E s:=by
 have hT:s.TypeIs (.ref I) "set_iterator":=⟨_,hI,rfl⟩
 unfold pyNext
 refine aF (IG (Ly (name:=CY "__next__") hT slot_next (C9 slot_next hT Tv ?_ (Tj _))))
 unfold Builtin.«set_iterator.__next__»
 refine aF (zq (a:=(cR I,[])) rfl ?_)
 dsimp only
 refine aF (Lc hI rfl ?_)
 show wpAny _ _ (setEntries a >>= _) _ _ _
 refine aF (IK ho hd S.fits ?_)
 rw [if_neg (by simp)]
 show wpAny _ _ (seqItems? (.ref tp) >>= _) _ _ _
 refine aF (wpAny_seqItems ht DX ?_)
 dsimp only
 have e1:((ps.map λ(p:Nat)=>rawInt p).toArray)[((i:Int)).toNat]?=some (rawInt p):=by rw [Ee,LG,mB,hp];rfl
 rw [e1]
 show wpAny _ _ (setNextDrawn a (p:Int).toNat (ep:Int).toNat >>= _) _ _ _
 simp only [Ee]
 unfold setNextDrawn
 refine aF (aF (IQ ho hd S.fits ?_))
 dsimp only
 rw [if_neg (by simp),hx]
 refine bG (aF (Eh hI (by simp) λh2 e2 b2=>?_))
 exact bG ⟨x,rfl,bG (hQ _ (by rw [e2];rfl) b2)⟩
theorem b7Z{I a tp:Addr}{i:Nat}{o ot:Obj}{es:Array (Int×Value)}{ep nt:Nat}{t:SetTable}{dR:List (K×Int×Value)}{ps:List Nat}{Q:Option Value->Shared->Prop}(hh:A.handled=none)(hI:s.heap.get? I=some (yF (.ref tp) i a es.size ep))(ho:s.heap.get? a=some o)(hd:o.data=.set es ep t)(S:Sd knd es t dR)
  (ht:s.heap.get? tp=some ot)(DX:ot.data=.seq (ps.map λ(p:Nat)=>rawInt p).toArray nt)(hp:ps[i]?=none)(hQ:∀h',K9 I s.heap h'->Q none { s with heap:=h' }):wpAny (model prog w) A (pyNext (.ref I)) Q E s:=by
 refine ZY ⟨_,hI,rfl⟩ ?_ hQ
 unfold Builtin.«set_iterator.__next__»
 refine aF (zq (a:=(cR I,[])) rfl ?_)
 dsimp only
 refine aF (Lc hI rfl ?_)
 show wpAny _ _ (setEntries a >>= _) _ _ _
 refine aF (IK ho hd S.fits ?_)
 rw [if_neg (by simp)]
 show wpAny _ _ (seqItems? (.ref tp) >>= _) _ _ _
 refine aF (wpAny_seqItems ht DX ?_)
 dsimp only
 have e1:((ps.map λ(p:Nat)=>rawInt p).toArray)[((i:Int)).toNat]?=none:=by rw [Ee,LG,mB,hp];rfl
 rw [e1]
 refine aF (Eh hI (by simp) λh1 e1 b1=>?_)
 refine aF (Eh e1 (by simp) λh2 e2 b2=>?_)
 exact Xo (by simp [hh]) λe h' k t=>⟨h',rfl,λb o hb eo=>k b o ((b1.trans b2).extBut b o hb eo),t⟩
theorem Y1:Slot "set_iterator" "__iter__" "set_iterator.__iter__":=
 .of (owner:="set_iterator") (n:="__iter__") (by rw [QR,Q7];kernel_rfl) (by decide +kernel) (by decide +kernel) (by decide +kernel)
  (by first | exact .inl (by decide +kernel) | exact .inr (by decide +kernel)) (by rw [isSubtype_type];kernel_rfl)
theorem b6k(a:Value):argsOk "set_iterator.__iter__" ⟨[a],[]⟩:=by
 unfold argsOk;rw [signature?_of (id:="set_iterator.__iter__") (n:=['_','_','r','e','t','i','_','_']) (o:=['r','o','t','a','r','e','t','i','_','t','e','s']) (by kernel_rfl) Yl];kernel_rfl
theorem b3e:entryFor table "set_iterator.__iter__" = some Builtin.«dict_keyiterator.__iter__»:=
 entryFor_alias (id':="dict_keyiterator.__iter__") (by kernel_rfl) (by first | rfl | decide +kernel | (unfold String.splitOn;simp +decide [V5])) (by decide +kernel) (by kernel_rfl)
theorem b3d:entryFor table "set.__iter__" = some Builtin.«frozenset.__iter__»:=
 entryFor_alias (id':="frozenset.__iter__") (by kernel_rfl) (by first | rfl | decide +kernel | (unfold String.splitOn;simp +decide [V5])) (by decide +kernel) (by kernel_rfl)
theorem SN{I:Addr}{Q:Value->Shared->Prop}(hT:s.TypeIs (.ref I) "set_iterator")(h:Q (.ref I) s):wpAny (model prog w) A (pyIter (.ref I)) Q E s:=by
 refine wpAny_pyIter_slot hT Y1 (C9 Y1 hT b3e ?_ (b6k _))
 show wpAny _ _ (ret (.ref I)) _ _ s
 exact bG ⟨_,rfl,"set_iterator",_,hT,slot_next.lookup,h⟩
end
end SE
namespace SE
open PySem PyProof.Rows PySem.Calls
theorem Tu{α:Type}:∀{l:List α} {i:Nat} (h:i<l.length),(l[i]::l.eraseIdx i).Perm l
 | _::_,0,_=>CV _
 | x::l,i+1,h=>by
  have h':i<l.length:=LK h
  show (l[i]::x::l.eraseIdx i).Perm (x::l)
  exact (Wi x _ _).trans ((Tu h').cons x)
theorem ZK{α:Type}(next:Nat->Nat):∀(n k:Nat) (left:List α) (out:Array α),n=left.length->(pickOrder.go next n k left out).toList.Perm (out.toList++left)
 | 0,k,left,out,e=>by
  rw [Lx.mp e.symm,yu]
  exact CV _
 | n+1,k,left,out,e=>by
  unfold pickOrder.go
  have hp:0<left.length:=by omega
  have hi:next k%left.length<left.length:=Nat.mod_lt _ hp
  rw [iP hi]
  dsimp only
  refine (ZK next n (k+1) _ _ (by rw [WT hi];omega)).trans ?_
  rw [V6,C4]
  refine List.Perm.append_left _ ?_
  exact Tu hi
section
variable {prog:Program}{w:World}{K:Type}[DecidableEq K]{knd:KeyKind prog w K}{A:Around}{E:Value->Shared->Prop}{s:Shared}
theorem b4G{src:Source}{n:Nat}{Q:Nat->Shared->Prop}(hn:n≠0)(h:∀i d',i<n->Q i { s with drawn:=d' }):wpAny (model prog w) A (choose src n) Q E s:=λΓ p hΓ=>by
 unfold choose
 rw [Sem.wp_choose]
 exact ⟨hn,h _ _ (Nat.mod_lt _ (Nat.pos_of_ne_zero hn))⟩
theorem YW{α:Type}:∀(n:Nat) (xs:List α) (s:Shared) (Q:List α->Shared->Prop),n=xs.length->(∀ys d',ys.Perm xs->Q ys { s with drawn:=d' })->wpAny (model prog w) A (drawOrder n xs) Q E s
 | 0,xs,s,Q,e,h=>by
  unfold drawOrder
  rw [Lx.mp e.symm] at h
  exact bG (h [] s.drawn (CV _))
 | n+1,[],s,Q,e,h=>by simp at e
 | n+1,x::xs,s,Q,e,h=>by
  unfold drawOrder
  refine aF (b4G (by simp) λi d' hi=>?_)
  rw [iP hi]
  dsimp only
  refine aF (YW n _ _ _ (by rw [WT hi,<-e];rfl) λys d'' p=>bG ?_)
  exact h _ d'' ((p.cons _).trans (Tu hi))
def Pv(us:List (K×Int×Value))(i:Nat)(v:Value):Prop:=(us[i]?).map (·.2.2)=some v
theorem LS{es:Array (Int×Value)}{us:List (K×Int×Value)}(e:es.toList=us.map (·.2))(i:Nat):es[i]?=(us[i]?).map (·.2):=by
 rw [<-LH,e,mB]
theorem FP{I a:Addr}{o:Obj}{es:Array (Int×Value)}{ep:Nat}{t:SetTable}{dR:List (K×Int×Value)}(hh:A.handled=none)(mz:a≠I)(hd:o.data=.set es ep t)(S:Sd knd es t dR)(hb:sY w=false)(pk:t.plain=true\/es.size<=1):
  Walks prog w A I [I,a] [I] dR.length (Pv dR) (λi h=>h.get? I=some (yF (rawInt ((if i=0 then 0 else t.place.getD (i-1) 0+1:Nat))) i a es.size ep)/\h.get? a=some o):=by
 have hz:t.place.size=es.size:=by
  have:=S.fits
  simp only [SetTable.fits,BE,beq_iff_eq] at this
  exact this.1
 have hr:lA t.place.toList:=by
  rcases pk with q | q
  .exact S.tb.rise q
  .unfold lA
   have:t.place.toList.length<=1:=by rw [tf,hz];exact q
   generalize t.place.toList=l at this
   cases l with
   | nil=>exact IS
   | cons x l=>cases l with
    | nil=>exact QX _ _
    | cons y l=>simp at this
 have key:∀i,i<=es.size->yz t.place (if i=0 then 0 else t.place.getD (i-1) 0+1)=i:=λi hi=>by
  have B:=Y7 hr (if i=0 then 0 else t.place.getD (i-1) 0+1)
  generalize yz t.place (if i=0 then 0 else t.place.getD (i-1) 0+1)=r at B
  have le:=B.le
  by_cases KR:i=0
  .subst KR
   rw [if_pos rfl] at B
   rcases Q9 r with q | q
   .exact q
   .exact absurd (B.lo 0 q) (Lq _)
  .rw [if_neg KR] at B
   have gd:∀k d d',k<es.size->t.place.getD k d=t.place.getD k d':=λk d d' hk=>by simp [zt,hz,hk]
   rcases Nat.lt_trichotomy r i with q | q | q
   .have:=B.hi r (cw _) (by omega)
    exfalso
    rw [gd r _ 0 (by omega)] at this
    rcases Lg r (i-1) with z | z
    .have:=hr.lt (d:=0) z (by omega);omega
    .rw [show r=i-1 by omega] at this;omega
   .exact q
   .have:=B.lo i q
    rw [gd i _ 0 (by omega)] at this
    have:=hr.lt (d:=0) (show i-1<i by omega) (by omega)
    omega
 have len:=S.len
 have nxt:∀i,i<es.size->nx w a es ep t (if i=0 then 0 else t.place.getD (i-1) 0+1) i=(dR[i]?).map λq=>(q.2.2,t.place.getD i 0+1):=λi hi=>by
  unfold nx
  rw [if_neg (by simp [hb]),key i (D9 hi),LS S.AF,iP (by omega),Et (by omega)]
  simp [zt,hz,hi]
 exact {
  sub:=λb hb=>by simp at hb;simp [hb]
  frame:=λi h h' st k=>⟨k I (by simp) _ st.1,k a (by simp) _ st.2⟩
  item:=λi s Q E hi st hQ=>by
   have mP:i<es.size:=by omega
   have e:=nxt i mP
   rw [iP hi] at e
   refine Xt st.1 st.2 hd S (λ_=>pk) e λh' g sb=>hQ _ h' s.toks (by unfold Pv;rw [iP hi];rfl) ⟨?_,(sb.2 a mz).trans st.2⟩ λb o hb eo=>sb.extBut b o (λh=>hb (by simp [h])) eo
   rw [g,if_neg (Nat.succ_ne_zero i)];rfl
  done:=λs Q E st hQ=>by
   refine X7 hh st.1 st.2 hd S (λ_=>pk) ?_ λh' g=>hQ h' s.toks λb o hb eo=>g b o (λh=>hb (by simp [h])) eo
   unfold nx
   rw [if_neg (by simp [hb]),<-len,key es.size (cw _),Array.getElem?_eq_none (cw _)]
  self:=λi s Q E st hQ=>SN ⟨_,st.1,rfl⟩ hQ }
theorem FO{I a:Addr}{o:Obj}{es:Array (Int×Value)}{ep:Nat}{t:SetTable}{dR us:List (K×Int×Value)}(hh:A.handled=none)(mz:a≠I)(hd:o.data=.set es ep t)(S:Sd knd es t dR)(hb:sY w=true)(hu:(pickOrder (w.params.setOrder a ep) es).toList=us.map (·.2)):
  Walks prog w A I [I,a] [I] us.length (Pv us) (λi h=>h.get? I=some (yF (rawInt (0:Nat)) i a es.size ep)/\h.get? a=some o) where
 sub:=λb hb=>by simp at hb;simp [hb]
 frame:=λi h h' st k=>⟨k I (by simp) _ st.1,k a (by simp) _ st.2⟩
 item:=λi s Q E hi st hQ=>by
  refine Xt st.1 st.2 hd S (λz=>by rw [hb] at z;exact C8 z) (x:=(us[i]).2.2) (j:=0) ?_ λh' g sb=>hQ _ h' s.toks (by unfold Pv;rw [iP hi];rfl) ⟨g,(sb.2 a mz).trans st.2⟩ λb o hb eo=>sb.extBut b o (λh=>hb (by simp [h])) eo
  unfold nx
  rw [if_pos hb,LS hu,iP hi];rfl
 done:=λs Q E st hQ=>by
  refine X7 hh st.1 st.2 hd S (λz=>by rw [hb] at z;exact C8 z) ?_ λh' g=>hQ h' s.toks λb o hb eo=>g b o (λh=>hb (by simp [h])) eo
  unfold nx
  rw [if_pos hb,LS hu,CZ (cw _)];rfl
 self:=λi s Q E st hQ=>SN ⟨_,st.1,rfl⟩ hQ
theorem wW{I a tp:Addr}{o ot:Obj}{es:Array (Int×Value)}{ep nt:Nat}{t:SetTable}{dR:List (K×Int×Value)}{ps:List Nat}(hh:A.handled=none)(mz:a≠I)(hnt:tp≠I)(hd:o.data=.set es ep t)(S:Sd knd es t dR)(DX:ot.data=.seq (ps.map λ(p:Nat)=>rawInt p).toArray nt)(hp:∀p∈ps,p<es.size):
  Walks prog w A I [I,a,tp] [I] ps.length (λi v=>((ps[i]?).bind λp=>es[p]?).map (·.2)=some v) (λi h=>h.get? I=some (yF (.ref tp) i a es.size ep)/\h.get? a=some o/\h.get? tp=some ot) where
 sub:=λb hb=>by simp at hb;simp [hb]
 frame:=λi h h' st k=>⟨k I (by simp) _ st.1,k a (by simp) _ st.2.1,k tp (by simp) _ st.2.2⟩
 item:=λi s Q E hi st hQ=>by
  have h1:=hp _ (oF hi)
  refine GU st.1 st.2.1 hd S st.2.2 DX (iP hi) (Et h1) λh' g sb=>hQ _ h' s.toks ?_ ⟨g,(sb.2 a mz).trans st.2.1,(sb.2 tp hnt).trans st.2.2⟩ λb o hb eo=>sb.extBut b o (λh=>hb (by simp [h])) eo
  rw [iP hi,BD,Et h1];rfl
 done:=λs Q E st hQ=>b7Z hh st.1 st.2.1 hd S st.2.2 DX (CZ (cw _)) λh' g=>hQ h' s.toks λb o hb eo=>g b o (λh=>hb (by simp [h])) eo
 self:=λi s Q E st hQ=>SN ⟨_,st.1,rfl⟩ hQ
end
end SE
namespace SE
open PySem PyProof.Rows PySem.Calls
theorem W3{α β:Type}{f:α->Option β}:∀(l:List α),(∀x∈l,(f x).isSome=true)->∀i:Nat,(l.filterMap f)[i]?=(l[i]?).bind f
 | [],_,i=>rfl
 | x::l,h,i=>by
  obtain ⟨y,e⟩:=LA.mp (h x gi)
  rw [Wv e]
  cases i with
  | zero=>simp [e]
  | succ i=>simpa using W3 l (λx hx=>h x (gn _ hx)) i
theorem XO{α β:Type}{f:α->Option β}:∀(l:List α),(∀x∈l,(f x).isSome=true)->(l.filterMap f).length=l.length
 | [],_=>rfl
 | x::l,h=>by
  obtain ⟨y,e⟩:=LA.mp (h x gi)
  rw [Wv e,gq,gq,XO l λx hx=>h x (gn _ hx)]
section
variable {prog:Program}{w:World}{K:Type}[DecidableEq K]{knd:KeyKind prog w K}{A A2:Around}{E:Value->Shared->Prop}{s:Shared}
theorem b2R{a:Addr}{o:Obj}{es:Array (Int×Value)}{ep:Nat}{t:SetTable}{dR:List (K×Int×Value)}{Q:Value->Shared->Prop}(hh:A2.handled=none)(ho:s.heap.get? a=some o)(hex:o.ExactSet)(hd:o.data=.set es ep t)(S:Sd knd es t dR)
  (h:∀(h':Heap) d' (I:Addr) (fp:List Addr) St us,s.heap.objs.size<=I->(∀b o,s.heap.get? b=some o->h'.get? b=some o)->us.Perm dR->Walks prog w A2 I fp [I] us.length (Pv us) St->St 0 h'->(∀b∈fp,b=a\/s.heap.objs.size<=b)->(∀b,b=I\/b∈fp->b<h'.objs.size)->Q (.ref I) { s with heap:=h',drawn:=d' }):
  wpAny (model prog w) A (pyIter (.ref a)) Q E s:=by
 have hT:s.TypeIs (.ref a) "set":=⟨o,ho,hex.1⟩
 have ha:a<s.heap.objs.size:=dU ho
 refine wpAny_pyIter_slot hT F.slot_set_iter (C9 F.slot_set_iter hT b3d ?_ (F.args_set_iter_1 _))
 unfold Builtin.«frozenset.__iter__»
 refine aF (m:=Builtin.Frozenset.slot0 "__iter__" _) (zq (a:=a) rfl ?_)
 refine aF ?_
 unfold Builtin.Frozenset.sizeOf
 refine aF (IK ho hd S.fits (bG ?_))
 refine aF ?_
 unfold setDrawn setsByText
 refine aF (IQ ho hd S.fits ?_)
 dsimp only
 refine aF (aF (IU (bG (bG ?_))))
 have ng:∀(c:Bool),c=false->(∀us St,us.Perm dR->Walks prog w A2 s.heap.objs.size [s.heap.objs.size,a] [s.heap.objs.size] us.length (Pv us) St->St 0 (s.heap.push (yF (rawInt (0:Nat)) 0 a es.size ep))->Q (.ref s.heap.objs.size) { s with heap:=s.heap.push (yF (rawInt (0:Nat)) 0 a es.size ep) }):=λc _ us St pu W st =>
  h _ s.drawn _ _ St us (cw _) (λb o e=>dY _ e) pu W st (λb hb=>by
   simp only [cL,sX,or_false] at hb
   rcases hb with q | q
   .exact .inr (by rw [q];exact cw _)
   .exact .inl q) λb hb=>by
    rw [n8]
    simp only [cL,sX,or_false] at hb
    rcases hb with q | q | q
    .rw [q];exact oG _
    .rw [q];exact oG _
    .rw [q];exact we ha
 refine Iz (λhz=>?_) (λhz=>?_)
 .have hz:(!(sY w)&&(!t.plain&&decide (es.size>1)))=true:=hz
  simp only [BE,Bool.not_eq_true',decide_eq_true_eq] at hz
  refine aF (YW _ _ _ _ (by simp) λps d' pp=>?_)
  have fu:∀p∈ps,p<es.size:=λp hp=>p9.mp (pp.mem_iff.mp hp)
  have hsz:(ps.map λ(p:Nat)=>rawInt p).length<=sizeLine:=by
   rw [bY,pp.length_eq,wg]
   exact Ed S.lt
  refine aF (wpAny_newTuple ?_ hsz)
  have len:=S.len
  refine aF (m:=setEpoch a) (wpAny_setEpoch_of (dY _ ho) hd S.fits ?_)
  refine aF (zu (bG ⟨_,rfl,"set_iterator",_,⟨_,jx _ rfl,rfl⟩,slot_next.lookup,?_⟩) (by size_fits))
  have Vd:∀p∈ps,(dR[p]?).isSome=true:=λp hp=>by
   rw [iP (by have:=fu p hp;omega)];rfl
  have W:=wW (prog:=prog) (w:=w) (A:=A2) (I:=(s.heap.push { cls:=.type "tuple",data:=.seq (ps.map λ(p:Nat)=>rawInt p).toArray }).objs.size) (tp:=s.heap.objs.size) (ot:={ cls:=.type "tuple",data:=.seq (ps.map λ(p:Nat)=>rawInt p).toArray }) (nt:=0) (ps:=ps) hh (by rw [n8];exact fg (we ha)) (by rw [n8];exact fg (oG _)) hd S rfl fu
  have eP:(λ(i:Nat) (v:Value)=>((ps[i]?).bind λp=>es[p]?).map (·.2)=some v)=Pv (ps.filterMap λp=>dR[p]?):=by
   funext i v
   unfold Pv
   rw [W3 ps Vd i]
   cases ps[i]? with
   | none=>rfl
   | some p=>rw [BD,BD,LS S.AF,Option.map_map];rfl
  rw [eP,<-XO ps Vd] at W
  refine h _ d' _ _ _ (ps.filterMap λp=>dR[p]?) (by rw [n8];exact zr _) (λb o e=>dY _ (dY _ e)) ?_ W ⟨jx _ rfl,dY _ (dY _ ho),dY _ (jx _ rfl)⟩ (λb hb=>?_) λb hb=>?_
  .have:=pp.filterMap λp=>dR[p]?
   rw [len,List.filterMap_getElem?_range_length] at this
   exact this
  .simp only [cL,sX,or_false,n8] at hb
   rcases hb with q | q | q
   .exact .inr (by rw [q];exact zr _)
   .exact .inl q
   .exact .inr (by rw [q];exact cw _)
  .rw [n8,n8]
   simp only [cL,sX,or_false,n8] at hb
   rcases hb with q | q | q | q
   .rw [q];exact oG _
   .rw [q];exact oG _
   .rw [q];exact we (we ha)
   .rw [q];exact we (oG _)
 .have hz:¬((!(sY w)&&(!t.plain&&decide (es.size>1)))=true):=hz
  rw [QJ] at hz
  refine aF (bG ?_)
  refine aF (m:=setEpoch a) (wpAny_setEpoch_of ho hd S.fits ?_)
  refine aF (zu (bG ⟨_,rfl,"set_iterator",_,⟨_,jx _ rfl,rfl⟩,slot_next.lookup,?_⟩) (by size_fits))
  by_cases hb:sY w=true
  .obtain ⟨us,pu,eu⟩:=MV (f:=λq:K×Int×Value=>q.2) (ZK (w.params.setOrder a ep) es.size 0 es.toList #[] (tf).symm) dR (by simpa using S.AF)
   exact ng _ hz us _ pu (FO hh (fg ha) hd S hb eu) ⟨jx _ rfl,dY _ ho⟩
  .refine ng _ hz dR _ (CV _) (FP hh (fg ha) hd S (by simpa using hb) ?_) ⟨jx _ rfl,dY _ ho⟩
   have Aq:sY w=false:=by simpa using hb
   rw [Aq] at hz
   simp only [Bool.not_false,Bool.true_and,Bool.and_eq_false_iff,Bool.not_eq_false',decide_eq_false_iff_not] at hz
   exact hz.imp id λq=>by omega
end
end SE
namespace SE
open PySem PyProof.Rows PySem.Calls PySem.W
section
variable {prog:Program}{w:World}{K:Type}[DecidableEq K]{knd:KeyKind prog w K}{A:Around}{E:Value->Shared->Prop}{s:Shared}
theorem b22{r:Addr}{Q:Bool->Shared->Prop}(hT:s.TypeIs (.ref r) "set")(h:Q false s):wpAny (model prog w) A (WR (.ref r)) Q E s:=by
 unfold WR
 refine aF (wpAny_specialOf hT F.slot_set_len.lookup ?_)
 generalize VF:("set.__len__":String)=id0
 wp_delta
 rw [show splitId id0=some ("set","__len__") from by subst VF;decide +kernel]
 subst VF
 refine aF (wpAny_isInstance (T:="set") (b:=true) hT sub_set_self ?_)
 refine Iz (λz=>absurd z (by decide)) (λ_=>Iz (λ_=>?_) (λz=>absurd (by decide +kernel) z))
 exact aF (IJ hT (bG h))
theorem b2S{us:List (K×Int×Value)}{acc:Array Value}(h:ItemsOf (Pv us) acc us.length):acc.toList=us.map (·.2.2):=by
 refine List.ext_getElem? λi=>?_
 rw [mB]
 rcases Lg i us.length with q | q
 .have hs:i<acc.size:=by rw [h.1];exact q
  have:=h.2 i acc[i] (Et hs)
  unfold Pv at this
  rw [this,LH,Et hs]
 .rw [CZ q,CZ (by rw [tf,h.1];exact q)];rfl
theorem a8N{a:Addr}{o:Obj}{ks:List K}{R:List Value->Shared->Prop}(hh:A.handled=none)(ho:s.heap.get? a=some o)(Z:Sa knd o ks)
  (h:∀(h':Heap) d' tk (us:List (K×Int×Value)),(∀b o,s.heap.get? b=some o->h'.get? b=some o)->s.heap.objs.size<=h'.objs.size->(us.map (·.1)).Perm ks->(∀q∈us,knd.is q.1 q.2.2=true)->us.length<scanBound->R (us.map (·.2.2)) { s with heap:=h',drawn:=d',toks:=tk }):
  wpAny (model prog w) A (collect (.ref a)) R E s:=by
 obtain ⟨hex,es,ep,t,dR,hd,S,rfl⟩:=Z
 have ha:a<s.heap.objs.size:=dU ho
 unfold collect
 refine aF (wpAny_runValue (AM entry_proto_collect' ?_))
 rw [C7 F.plain_proto_collect _]
 show wpAny _ A.in1 (newList [] >>= λl=>again (.builtin "list.__iadd__" ⟨[l,.ref a],[]⟩)) _ _ s
 refine aF (zu (bG ⟨CT F.plain_list_iadd _,AM entry_list_iadd' ?_⟩))
 rw [C7 F.plain_list_iadd _]
 show wpAny _ A.in1 (WY (.ref s.heap.objs.size) (.ref a) (.ref s.heap.objs.size)) _ _ _
 generalize hg:s.heap.push { cls:=.type "list",data:=.seq ([]:List Value).toArray }=g
 have gs:g.objs.size=s.heap.objs.size+1:=by rw [<-hg];exact n8 ..
 have gl:g.get? s.heap.objs.size=some { cls:=.type "list",data:=.seq #[] }:=by rw [<-hg];exact jx _ rfl
 have up:∀b o,s.heap.get? b=some o->g.get? b=some o:=λb o e=>by rw [<-hg];exact dY _ e
 have ga:=up a o ho
 have hT:({ s with heap:=g }:Shared).TypeIs (.ref a) "set":=⟨o,ga,hex.1⟩
 unfold WY
 refine aF (IJ hT ?_)
 have h1:Wu (.ref s.heap.objs.size) (.ref a)=false:=by simp [Wu,D8 ha]
 have h2:(Bv "set" == Bv "list")=false:=by decide
 have h3:(Bv "set" == Bv "tuple")=false:=by decide
 simp only [h1,h2,h3,Bool.or_false,AL,if_false]
 refine aF (b2R (A2:=A.in1) (s:={ s with heap:=g }) (by simp [hh]) ga hex hd S λh' d' I fp St us hI k pu W st hf VI=>?_)
 have p7:s.heap.objs.size∉fp:=λz=>by
  rcases hf _ z with q | q
  .exact absurd q (D8 ha)
  .simp only [gs] at q;omega
 have hSI:s.heap.objs.size≠I:=by simp only [gs] at hI;omega
 have end_:∀(h1:Heap) (c1 tk:Nat),St 0 h1->(∀b o,b≠s.heap.objs.size->s.heap.get? b=some o->h1.get? b=some o)->h1.get? s.heap.objs.size=some { cls:=.type "list",data:=.seq #[] c1 } ->
   codeAny (model prog w) A (.builtin "list.extend.loop" ⟨[.ref s.heap.objs.size,.ref I,.ref s.heap.objs.size],[]⟩) (λr s'=>∃(h':Heap) (pX:Nat) (acc:Array Value) (c':Nat),r=.ok (.ret (.ref s.heap.objs.size))/\s'={ s with heap:=h',drawn:=d',toks:=pX }/\(∀b o,s.heap.get? b=some o->h'.get? b=some o)/\h'.get? s.heap.objs.size=some { cls:=.type "list",dict:=none,data:=.seq acc c',slots:=#[] }/\acc.toList=us.map (·.2.2)) { s with heap:=h1,drawn:=d',toks:=tk }:=λh1 c1 tk st1 k1 g1=>by
  refine codeAny_extend_loopS W.toS ?_ _ p7 _ us.length 0 _ #[] c1 rfl (uB _) st1 g1 (ItemsOf.nil _) λs' acc c' mv g' it=>?_
  .rw [pu.length_eq,<-S.len];exact Ed S.lt
  .have e:=Moved.eq_with mv
   refine ⟨s'.heap,s'.toks,acc,c',rfl,e,λb o eo=>mv.heap b o (λz=>?_) (k1 b o (fg (dU eo)) eo),g',b2S it⟩
   have hb:=dU eo
   simp only [cL,sX,or_false] at z
   simp only [gs] at hI
   rcases z with z | z
   .exact fg hb z
   .exact fg (n5 hb (Li hI)) z
 refine aF (q0 (b22 ⟨o,k a o ga,hex.1⟩ ?_))
 have g1:=k _ _ gl
 have fin:∀(eB:Shared) (h':Heap) (pX:Nat) (acc:Array Value) (c':Nat) (f:Array Value->Sem (List Value)),(∀xs,f xs=pure xs.toList)->eB={ s with heap:=h',drawn:=d',toks:=pX }->(∀b o,s.heap.get? b=some o->h'.get? b=some o)->s.heap.objs.size<h'.objs.size->acc.toList=us.map (·.2.2)->wpAny (model prog w) A (f acc) R E eB:=λeB h' pX acc c' f hf e2 e3 e6 e5=>by
  subst e2
  rw [hf,e5]
  exact bG (h h' d' pX us e3 (D9 e6) (pu.map _) (λq hq=>(S.el q (pu.mem_iff.mp hq)).1) (by rw [pu.length_eq,<-S.len];exact S.lt))
 refine Iz (λ_=>?_) (λ_=>?_)
 rotate_left
 .refine bG ⟨CT F.plain_extend_loop _,zx (end_ _ 0 s.toks st (λb o hb e=>k b o (up b o e)) g1) λq eB ⟨h',pX,acc,c',e1,e2,e3,e4,e5⟩=>?_⟩
  subst e1;subst e2
  show wpAny _ A (load s.heap.objs.size >>= _) _ _ _
  exact aF (K8 e4 (fin _ h' pX acc c' (λxs=>pure xs.toList) (λ_=>rfl) rfl e3 (dU e4) e5))
 refine aF (K6 (aF ?_))
 show wpAny _ _ (updateSeq s.heap.objs.size (·.push .none) >>= λ_=>updateSeq s.heap.objs.size (·.pop)) _ _ _
 refine aF (wpAny_updateSeq g1 rfl ?_)
 have g2:=LI (q8 (·.push lE)) g1 rfl
 refine wpAny_updateSeq (hz:=by seq_fits) g2 rfl ?_
 have g3:=LI (q8 (·.pop)) g2 rfl
 have Vn:∀b o,b≠s.heap.objs.size->h'.get? b=some o->((h'.update s.heap.objs.size (q8 (·.push lE))).update s.heap.objs.size (q8 (·.pop))).get? b=some o:=λb o hb e =>
  (IY _ _ (lx hb)).trans ((IY _ _ (lx hb)).trans e)
 refine bG ⟨CT F.plain_extend_loop _,zx (end_ _ _ s.toks (W.frame 0 _ _ st λb hb o e=>Vn b o (λz=>p7 (z▸hb)) e) (λb o hb e=>Vn b o hb (k b o (up b o e))) g3) λq eB ⟨h',pX,acc,c',e1,e2,e3,e4,e5⟩=>?_⟩
 subst e1;subst e2
 show wpAny _ A (load s.heap.objs.size >>= _) _ _ _
 exact aF (K8 e4 (fin _ h' pX acc c' (λxs=>pure xs.toList) (λ_=>rfl) rfl e3 (dU e4) e5))
end
end SE
namespace SE
open PySem PyProof.Rows PySem.Calls
theorem qY{α:Type}{p q:α->Bool}:∀(l:List α),(∀x∈l,p x=true->q x=true)->(∃x∈l,q x=true/\p x=false)->l.countP p<l.countP q
 | [],_,⟨_,z,_⟩=>nomatch z
 | a::l,h,⟨x,hx,h1,h2⟩=>by
  have mono:l.countP p<=l.countP q:=List.countP_mono_left λy hy=>h y (gn _ hy)
  rcases cL.mp hx with e | hx
  .subst e
   rw [Lw h1,QW (by rw [h2];exact wj)]
   exact Nat.lt_succ_of_le mono
  .have ih:=qY l (λy hy=>h y (gn _ hy)) ⟨x,hx,h1,h2⟩
   by_cases ha:p a=true
   .rw [Lw ha,Lw (h a gi ha)]
    exact QI ih
   .rw [QW ha]
    by_cases hb:q a=true
    .rw [Lw hb];exact we ih
    .rw [QW hb];exact ih
structure Ol{K:Type}(lt:K->K->Bool):Prop where
 Bn:∀a,lt a a=false
 tr:∀{a b c},lt a b=true->lt b c=true->lt a c=true
 FT:∀{a b},a≠b->lt a b=true\/lt b a=true
section
variable {prog:Program}{w:World}{K:Type}[DecidableEq K]{knd:By prog w K}{lt:K->K->Bool}{A:Around}{E:Value->Shared->Prop}{s:Shared}
structure Od(knd:By prog w K)(lt:K->K->Bool):Prop where
 ol:Ol lt
 one:∀{a b:K} {u v:Value} {A:Around} {E:Value->Shared->Prop} {s:Shared} {Q:Bool->Shared->Prop},knd.is a u=true->knd.is b v=true->Q (lt a b) s->wpAny (model prog w) A (oneLt' true u v) Q E s
 kind:∀{us:List (K×Value)},(∀q∈us,knd.is q.1 q.2=true)->2<=us.length->keyKind' (us.map (·.2)).toArray=pure oneType'
noncomputable def rk(lt:K->K->Bool)(ks:List K)(k:K):Int:=(ks.countP λx=>lt x k:Nat)
theorem LW(O:Od knd lt){ks:List K}{a b:K}(ha:a∈ks)(h:lt a b=true):rk lt ks a<rk lt ks b:=by
 unfold rk
 have:=qY (p:=λx=>lt x a) (q:=λx=>lt x b) ks (λx _ z=>O.ol.tr z h) ⟨a,ha,h,O.ol.Bn a⟩
 omega
theorem Yt(O:Od knd lt){ks:List K}{a b:K}(ha:a∈ks)(hb:b∈ks):rk lt ks a<rk lt ks b↔lt a b=true:=by
 refine ⟨λz=>?_,LW O ha⟩
 by_cases e:a=b
 .subst e;omega
 .rcases O.ol.FT e with q | q
  .exact q
  .have:=LW O hb q;omega
noncomputable def ky(knd:By prog w K)(lt:K->K->Bool)(ks:List K)(v:Value):Int:=match ks.find? λk=>knd.is k v with
 | some k=>rk lt ks k
 | none=>0
theorem RC{ks:List K}{k:K}{v:Value}(hk:k∈ks)(h:knd.is k v=true):ky knd lt ks v=rk lt ks k:=by
 unfold ky
 cases hf:ks.find? λk=>knd.is k v with
 | none=>exact absurd h (by simpa using List.find?_eq_none.mp hf k hk)
 | some k'=>rw [knd.inj v k' k (List.find?_some (p:=λk=>knd.is k v) hf) h]
theorem sf:∀{ks ns:List K},ks.Nodup->(∀x∈ks,x∈ns)->ks.length<=ns.length
 | [],_,_,_=>uB _
 | x::ks,ns,h,m=>by
  have hx:=m x gi
  have h':=yt.mp h
  have:=sf (ns:=ns.erase x) h'.2 λy hy=>(List.mem_erase_of_ne (show y≠x from λz=>h'.1 (z▸hy))).mpr (m y (gn _ hy))
  have e:=List.length_erase_of_mem hx
  have:=List.length_pos_of_mem hx
  rw [gq]
  omega
theorem b4Z(O:Od knd lt){ks:List K}{us:List (K×Value)}(hks:ks.Nodup)(hu:(us.map (·.1)).Perm ks)(hi:∀q∈us,knd.is q.1 q.2=true)(S:Shared)(h2:2<=us.length)(vK:us.length<64):
  (∀{A:Around} {E:Value->Shared->Prop} {Q:SortKind->Shared->Prop},Q oneType' S->wpAny (model prog w) A (keyKind' (us.map (·.2)).toArray) Q E S) /\
  ∀{A:Around} {E:Value->Shared->Prop},wpS (model prog w) A E S sortRuns' (λ_ jw=>((((arrOf jw).map (·.2)).toList.Perm (us.map (·.2)))/\((arrOf jw).map (·.2)).toList.Pairwise λx y=>ky knd lt ks x<ky knd lt ks y)/\failedOf jw=none) (Qi oneType' (pairsOf (us.map (·.2))) #[] 7 none):=by
 have mem:∀q∈us,q.1∈ks:=λq hq=>hu.mem_iff.mp (jW.mpr ⟨q,hq,rfl⟩)
 have kq:∀q∈us,ky knd lt ks q.2=rk lt ks q.1:=λq hq=>RC (mem q hq) (hi q hq)
 refine ⟨λ{A E Q} hQ=>by rw [O.kind hi h2];exact bG hQ,λ{A E}=>?_⟩
 have hl:(us.map (·.2)).length=us.length:=bY ..
 have ga:∀i (h:i<us.length),(us.map (·.2)).getD i lE=(us[i]).2:=λi h=>by simp [h]
 generalize hK:(λi:Nat=>ky knd lt ks ((us.map (·.2)).getD i lE))=K
 have Ki:∀i (h:i<us.length),K i=rk lt ks (us[i]).1:=λi h=>by
  rw [<-hK]
  show ky knd lt ks _=_
  rw [ga i h,kq _ (oF h)]
 have nd:(us.map (·.1)).Nodup:=hu.nodup_iff.mpr hks
 obtain ⟨o1,o2⟩:=KS.xE K us.length (by omega)
 unfold wpS
 refine jy (PySem.W.kat_run (ks:=us.map (·.2)) (vs:=us.map (·.2)) (κ:=oneType') (Q:=λjw s'=>s'=S/\((((arrOf jw).map (·.2)).toList.Perm (us.map (·.2)))/\((arrOf jw).map (·.2)).toList.Pairwise λx y=>ky knd lt ks x<ky knd lt ks y)/\failedOf jw=none) (G:=λp s'=>s'=S/\p.toList=KS.ord K us.length) rfl (by rw [hl];exact h2) (by rw [hl];exact vK) (λp jw s' hz ha hf hp=>⟨hp.1,?_,hf⟩) ?_) (λr s' h=>h) λ_ _ z=>z
 .rw [PySem.W.kat_snds rfl ha,hp.2]
  constructor
  .refine (o1.map λi=>(us.map (·.2)).getD i lE).trans ?_
   have:(fx us.length).map (λi=>(us.map (·.2)).getD i lE)=us.map (·.2):=by
    refine List.ext_getElem (by simp) λi h1 h2=>?_
    simp at h1
    simp [h1]
   rw [this]
  .show Qf _ ((KS.ord K us.length).map λi=>(us.map (·.2)).getD i lE)
   rw [Lh]
   have od:(KS.ord K us.length).Nodup:=o1.nodup_iff.mpr List.nodup_range
   refine (List.Pairwise.and o2 od).imp_of_mem λ{i j} mP DV h=>?_
   have Hu:=p9.mp (o1.mem_iff.mp mP)
   have Ho:=p9.mp (o1.mem_iff.mp DV)
   have e1:=Ki i Hu
   have e2:=Ki j Ho
   rw [ga i Hu,ga j Ho,kq _ (oF Hu),kq _ (oF Ho),<-e1,<-e2]
   have mz:(us[i]).1≠(us[j]).1:=λz=>h.2 (by
    have:=(List.getElem_inj (xs:=us.map (·.1)) (i:=i) (j:=j) (h₀:=by simpa using Hu) (h₁:=by simpa using Ho) nd).mp (by simpa using z)
    exact this)
   have hle:=h.1
   have m1:=mem _ (oF Hu)
   have m2:=mem _ (oF Ho)
   rcases O.ol.FT mz with q | q
   .have:=LW O m1 q;omega
   .have:=LW O m2 q;omega
 .rw [hl]
  refine KS.Bb (n:=us.length) (cmp:=KS.ja K) (λi j mP DV Q hQ=>?_) (KS.Ad (by omega)) ⟨rfl,rfl⟩
  unfold PySem.W.kas_ask
  rw [ga i mP,ga j DV,keyLt'_oneType]
  refine O.one (hi _ (oF mP)) (hi _ (oF DV)) ?_
  have:KS.ja K i j=lt (us[i]).1 (us[j]).1:=by
   show decide (K i<K j)=_
   rw [Ki i mP,Ki j DV,IB,decide_eq_true_eq]
   exact Yt O (mem _ (oF mP)) (mem _ (oF DV))
  rwa [this] at hQ
theorem qv(O:Od knd lt){a:Addr}{o:Obj}{ks:List K}{Q:Value->Shared->Prop}(hh:A.handled=none)(ho:s.heap.get? a=some o)(Z:Sa knd o ks)(Pe:ks.Nodup)(vK:ks.length<64)
  (h:∀(h':Heap) d' tk D e (us:List (K×Value)),(∀b o,s.heap.get? b=some o->h'.get? b=some o)->s.heap.objs.size<=D->h'.get? D=some (seqObj "list" (us.map (·.2)).toArray e)->(us.map (·.1)).Perm ks->(us.map (·.1)).Pairwise (λx y=>lt x y=true)->(∀q∈us,knd.is q.1 q.2=true)->us.length<scanBound->Q (.ref D) { s with heap:=h',drawn:=d',toks:=tk }):
  wpAny (model prog w) A (call (.builtin "sorted") [.ref a]) Q E s:=by
 refine Calls.call_function_entry kind_sorted plain_sorted entry_sorted (args_sorted1 _) ?_
 unfold Builtin.«sorted»
 refine aF (m:=checkCount "sorted" 1 1 _) (bG (aF (a8N (by simp [hh]) ho Z λh1 d' tk us k1 sz pu iu lu=>?_)))
 generalize hv:us.map (λq=>(q.1,q.2.2))=vs
 have e1:us.map (·.2.2)=vs.map (·.2):=by rw [<-hv,wm];rfl
 have e2:us.map (·.1)=vs.map (·.1):=by rw [<-hv,wm];rfl
 have iv:∀q∈vs,knd.is q.1 q.2=true:=λq hq=>by
  rw [<-hv] at hq
  obtain ⟨r,hr,rfl⟩:=jW.mp hq
  exact iu r hr
 have lv:vs.length<scanBound:=by rw [<-hv,bY];exact lu
 rw [e2] at pu
 rw [e1]
 have hZ:(vs.map (·.2)).length<=sizeLine:=by rw [bY];exact Ed lv
 refine aF (wpAny_newList (hsz:=hZ) ?_)
 have z2:(h1.push (seqObj "list" (vs.map (·.2)).toArray 0)).get? h1.objs.size=some (seqObj "list" (vs.map (·.2)).toArray 0):=jx _ rfl
 have mem:∀q∈vs,q.1∈ks:=λq hq=>pu.mem_iff.mp (jW.mpr ⟨q,hq,rfl⟩)
 refine aF (q0 (C9 slot_list_sort ⟨_,z2,rfl⟩ entry_list_sort (TS.Ga (κ:=oneType') (R:=λout=>out.toList.Perm (vs.map (·.2))/\out.toList.Pairwise λx y=>ky knd lt ks x<ky knd lt ks y) z2 hZ (λhl=>?_) (λout ho=>?_) (λS _ h2=>b4Z O Pe pu iv S (by rwa [bY] at h2) (by have:=pu.length_eq;rw [bY] at this;omega)) λout o1=>⟨_,rfl,?_⟩) (args_list_sort _)))
 .refine ⟨CV _,?_⟩
  rw [bY] at hl
  show Qf _ (vs.map (·.2))
  cases vs with
  | nil=>exact IS
  | cons x l=>cases l with
   | nil=>exact QX _ _
   | cons y l=>simp at hl;omega
 .rw [<-tf,ho.1.length_eq]
 .refine bG ⟨_,rfl,?_⟩
  obtain ⟨ws,pw,ew⟩:=MV o1.1 vs rfl
  obtain ⟨e,he⟩:=sortedHeap_at (out:=out) z2
  have k2:∀b o,s.heap.get? b=some o->(sortedHeap (h1.push (seqObj "list" (vs.map (·.2)).toArray 0)) h1.objs.size (vs.map (·.2)) out).get? b=some o:=λb o eb=>by
   have hb:b<h1.objs.size:=dU (k1 b o eb)
   rw [sortedHeap_old (fg hb) (by rw [n8];exact we hb)]
   exact dY _ (k1 b o eb)
  refine h _ d' tk _ e ws k2 sz (by rw [he];congr 1;congr 1;rw [<-ew]) ((pw.map _).trans pu) ?_ (λq hq=>iv q (pw.mem_iff.mp hq)) (by rw [pw.length_eq];exact lv)
  have p:=o1.2
  rw [ew,Lh] at p
  rw [Lh]
  refine p.imp_of_mem λ{x y} hx hy z=>?_
  have pf:=pw.mem_iff.mp hx
  have Bo:=pw.mem_iff.mp hy
  rw [RC (mem x pf) (iv x pf),RC (mem y Bo) (iv y Bo)] at z
  exact (Yt O (mem x pf) (mem y Bo)).mp z
end
end SE
namespace SE
open PySem PyProof.Rows
noncomputable def ltI:Int->Int->Bool:=λa b=>decide (a<b)
noncomputable def lX:Str->Str->Bool:=λa b=>decide (a.cps.toList<b.cps.toList)
theorem nQ:Ol ltI where
 Bn:=λa=>by simp [ltI]
 tr:=λh1 h2=>by simp [ltI] at *;omega
 FT:=λh=>by simp [ltI];omega
theorem Cb{prog:Program}{w:World}:Od (intKind prog w) ltI where
 ol:=nQ
 one:=λ{a b u v A E s Q} ha hb hQ=>by
  obtain ⟨t,rfl⟩:=IT ha
  obtain ⟨t',rfl⟩:=IT hb
  exact oneLt_int hQ
 kind:=λ{us} h h2=>by
  have key:∀us:List (Int×Value),(∀q∈us,(intKind prog w).is q.1 q.2=true)->IntsAre (us.map (·.2)) (us.map (·.1)):=λus=>by
   induction us with
   | nil=>intro _;exact .nil
   | cons q us ih =>
    intro h
    obtain ⟨t,e⟩:=IT (h q gi)
    rw [fE,fE,e]
    exact .cons _ t (ih λq hq=>h q (gn _ hq))
  have k:=key us h
  match us,h2,k with
  | a::b::us,_,k=>exact keyKind_ints k
theorem Z3:∀{a b:List Nat},a≠b->a<b\/b<a
 | [],[],h=>absurd rfl h
 | [],_::_,_=>.inl List.Lex.nil
 | _::_,[],_=>.inr List.Lex.nil
 | x::a,y::b,h=>by
  rcases Nat.lt_trichotomy x y with q | q | q
  .exact .inl (List.Lex.rel q)
  .subst q
   rcases Z3 (a:=a) (b:=b) (λe=>h (by rw [e])) with z | z
   .exact .inl (List.Lex.cons z)
   .exact .inr (List.Lex.cons z)
  .exact .inr (List.Lex.rel q)
theorem eS:Ol lX where
 Bn:=λa=>by simp [lX,List.lt_irrefl]
 tr:=λh1 h2=>by
  unfold lX at *
  rw [decide_eq_true_eq] at *
  exact List.lt_trans h1 h2
 FT:=λ{a b} h=>by
  unfold lX
  rw [decide_eq_true_eq,decide_eq_true_eq]
  refine Z3 λe=>h ?_
  obtain ⟨x⟩:=a
  obtain ⟨y⟩:=b
  have e':x=y:=QK.mp e
  rw [e']
theorem Ca{prog:Program}{w:World}:Od (ID prog w) lX where
 ol:=eS
 one:=λ{a b u v A E s Q} ha hb hQ=>by
  obtain ⟨t,rfl⟩:=IL ha
  obtain ⟨t',rfl⟩:=IL hb
  exact oneLt_str hQ
 kind:=λ{us} h h2=>by
  have key:∀us:List (Str×Value),(∀q∈us,(ID prog w).is q.1 q.2=true)->StrsAre (us.map (·.2)) (us.map (·.1)):=λus=>by
   induction us with
   | nil=>intro _;exact .nil
   | cons q us ih =>
    intro h
    obtain ⟨t,e⟩:=IL (h q gi)
    rw [fE,fE,e]
    exact .cons _ t (ih λq hq=>h q (gn _ hq))
  have k:=key us h
  match us,h2,k with
  | a::b::us,_,k=>exact keyKind_strs k
noncomputable def ins{K:Type}(lt:K->K->Bool)(x:K):List K->List K
 | []=>[x]
 | y::l=>if lt x y=true then x::y::l else if lt y x=true then y::ins lt x l else y::l
noncomputable def lC{K:Type}(lt:K->K->Bool):List K->List K
 | []=>[]
 | x::l=>ins lt x (lC lt l)
section
variable {K:Type}[DecidableEq K]{lt:K->K->Bool}
theorem SA(O:Ol lt)(x z:K):∀l:List K,z∈ins lt x l↔z=x\/z∈l
 | []=>by simp [ins]
 | y::l=>by
  unfold ins
  split
  .simp
  .split
   .rw [cL,SA O x z l,cL]
    constructor
    .rintro (q | q | q)
     .exact .inr (.inl q)
     .exact .inl q
     .exact .inr (.inr q)
    .rintro (q | q | q)
     .exact .inr (.inl q)
     .exact .inl q
     .exact .inr (.inr q)
   .rename_i h1 h2
    have e:x=y:=Ri λz=>(O.FT z).elim h1 h2
    subst e
    simp
theorem YK(O:Ol lt)(x:K):∀l:List K,l.Pairwise (λa b=>lt a b=true)->(ins lt x l).Pairwise (λa b=>lt a b=true)
 | [],_=>QX _ _
 | y::l,h=>by
  obtain ⟨h1,h2⟩:=Ei.mp h
  unfold ins
  split
  .rename_i q
   refine Ei.mpr ⟨λz hz=>?_,h⟩
   rcases cL.mp hz with e | e
   .rw [e];exact q
   .exact O.tr q (h1 z e)
  .split
   .rename_i q
    refine Ei.mpr ⟨λz hz=>?_,YK O x l h2⟩
    rcases (SA O x z l).mp hz with e | e
    .rw [e];exact q
    .exact h1 z e
   .exact h
theorem iK(O:Ol lt)(z:K):∀l:List K,z∈lC lt l↔z∈l
 | []=>hU
 | x::l=>by unfold lC;rw [SA O,iK O z l,cL]
theorem jE(O:Ol lt):∀l:List K,(lC lt l).Pairwise (λa b=>lt a b=true)
 | []=>IS
 | x::l=>YK O x _ (jE O l)
theorem rf(O:Ol lt):∀{l m:List K},l.Pairwise (λa b=>lt a b=true)->m.Pairwise (λa b=>lt a b=true)->(∀z,z∈l↔z∈m)->l=m
 | [],[],_,_,_=>rfl
 | [],b::m,_,_,h=>absurd ((h b).mpr gi) (λz=>nomatch z)
 | a::l,[],_,_,h=>absurd ((h a).mp gi) (λz=>nomatch z)
 | a::l,b::m,hl,hm,h=>by
  obtain ⟨l1,l2⟩:=Ei.mp hl
  obtain ⟨m1,m2⟩:=Ei.mp hm
  have no:∀{x y:K},lt x y=true->lt y x=true->False:=λ{x y} p q=>by
   have:=O.tr p q
   rw [O.Bn] at this
   exact C8 this
  have e:a=b:=by
   rcases cL.mp ((h a).mp gi) with q | q
   .exact q
   .rcases cL.mp ((h b).mpr gi) with r | r
    .exact r.symm
    .exact (no (m1 a q) (l1 b r)).elim
  subst e
  rw [rf O l2 m2 λz=>?_]
  constructor
  .intro hz
   rcases cL.mp ((h z).mp (gn _ hz)) with q | q
   .subst q
    have:=l1 z hz
    rw [O.Bn] at this
    exact C8 this
   .exact q
  .intro hz
   rcases cL.mp ((h z).mpr (gn _ hz)) with q | q
   .subst q
    have:=m1 z hz
    rw [O.Bn] at this
    exact C8 this
   .exact q
end
end SE
namespace DL
open PySem PySem.Spec PyProof.Rows L2
theorem _root_.L2.Inv.drawn{X:Cx}{pins:List (Addr×Obj)}{σ:List (Option V)}{H:Hp}{s:Shared}(I:Inv X pins σ H s)(d':Drawn):Inv X pins σ H { s with drawn:=d' }:=
 ⟨I.ok,I.os,I.bare,I.base,I.loc,I.cell,I.free,I.dz,I.pin,I.bg,I.len⟩
section
variable {X:Cx}{K:Type}[DecidableEq K]{knd:By X.prog X.w K}{lt:K->K->Bool}{mk:K->V}
structure Kv(knd:By X.prog X.w K)(mk:K->V):Prop where
 to:∀{k:K} {u:Value},RelV (mk k) u->knd.is k u=true/\u.scannable=true
 of:∀{k:K} {u:Value},knd.is k u=true->RelV (mk k) u
noncomputable def sE(knd:By X.prog X.w K)(a:Addr)(ks:List K):HO:=.ext λh=>∃o,h.get? a=some o/\SE.Sa knd o ks
theorem iI(T:Kv knd mk)(dk:K)(hc:X.calm=true):wC X (.type "set") (λxs H Q=>∃(p:Addr) (ns:List K),xs=[.ref p]/\Sq X.K H true p (ns.map mk)/\ns.length+1<scanBound /\
  ∀(a:Addr) (ks:List K),ks.Nodup->(∀x,x∈ks↔x∈ns)->H a=none->Q (.ref a) (upd H a (sE knd a ks))):=by
 intro pins s σ H xs us Q I r h
 obtain ⟨p,ns,rfl,hq,hb,q⟩:=h
 obtain ⟨u,rfl,ru⟩:=r.one
 cases ru
 obtain ⟨aw,rv,pl⟩:=Xm (b:=true) I hq
 have hl:aw.length=ns.length:=by rw [<-rv.length,bY]
 refine SE.iI (knd:=knd) (items:=aw.toArray) (I.ok.hd hc) pl (λi=>ns.getD i dk) (λi v hv=>?_) (by rw [gh,hl];exact hb) λh' tk o ks k ho Z D=>?_
 .rw [LG] at hv
  have hi:i<ns.length:=by
   have:=(pH.mp hv).1
   omega
  obtain ⟨u,e1,e2⟩:=aL.get (x:=mk ns[i]) rv (i:=i) (by rw [mB,iP hi];rfl)
  rw [hv] at e1
  cases e1
  rw [LN,iP hi]
  exact T.to e2
 .have fr:H s.heap.objs.size=none:=I.bg.fresh (cw _)
  refine ⟨.ref s.heap.objs.size,_,I.laid (o:=sE knd s.heap.objs.size ks) (t':=tk) (λb o e=>k b o (dU e) e) (cw _) ⟨⟨o,ho,Z⟩,⟨o,ho⟩,λh1 h2 ⟨o,e,z⟩ kk=>⟨o,kk _ e,z⟩⟩,rfl,q _ ks D.nd (λx=>?_) fr⟩
  rw [D.mem,gh,hl]
  constructor
  .rintro ⟨j,hj,e⟩
   rw [<-e,LN,iP hj]
   exact oF hj
  .intro hx
   obtain ⟨j,hj,e⟩:=Eu.mp hx
   exact ⟨j,hj,by rw [LN,iP hj];exact e⟩
theorem a4G(T:Kv knd mk)(O:SE.Od knd lt)(hc:X.calm=true):wC X (.builtin "sorted") (λxs H Q=>∃(p:Addr) (ks:List K),xs=[.ref p]/\H p=some (sE knd p ks)/\ks.Nodup/\ks.length<64 /\
  ∀(ms:List K) (a:Addr),ms.Perm ks->ms.Pairwise (λx y=>lt x y=true)->H a=none->Q (.ref a) (upd H a (.lst (ms.map mk)))):=by
 intro pins s σ H xs vs Q I r h
 obtain ⟨p,ks,rfl,hp,Pe,vK,q⟩:=h
 obtain ⟨u,rfl,ru⟩:=r.one
 cases ru
 obtain ⟨⟨o,ho,Z⟩,_⟩:=I.bg p _ hp
 refine SE.qv O (I.ok.hd hc) ho Z Pe vK λh' d' tk D e us k sz hD pu zy iu lu=>?_
 have fr:H D=none:=I.bg.fresh sz
 refine ⟨.ref D,_,(I.laid (o:=.lst ((us.map (·.1)).map mk)) (t':=tk) k sz ⟨?_,us.map (·.2),e,?_,hD⟩).drawn d',rfl,q _ D pu zy fr⟩
 .rw [bY,bY];exact Ed lu
 .clear hD pu zy lu
  induction us with
  | nil=>exact .nil
  | cons x us ih=>exact .cons (T.of (iu x gi)) (ih λq hq=>iu q (gn _ hq))
theorem X2:Kv (intKind X.prog X.w) V.int:=⟨λ{k u} ⟨t,e⟩=>by subst e;exact ⟨by simp [intKind,Qn],rfl⟩,λh=>IT h⟩
theorem RO:Kv (ID X.prog X.w) V.str:=⟨λ{k u} ⟨t,e⟩=>by subst e;exact ⟨by simp [ID,Qh],rfl⟩,λh=>IL h⟩
theorem Gw(h1:PE X e t1)(h2:PE X e t2):PE X e (λσ H Q=>t1 σ H Q\/t2 σ H Q):=λpins s σ H Q I h=>h.elim (h1 pins s σ H Q I) (h2 pins s σ H Q I)
theorem XX{K:aK}{O:Addr->Prop}{H:Hp}:∀ws:List Int,aQ K O H (ws.map V.int) (ws.map D.int)
 | []=>.nil
 | _::ws=>.cons (Is.int _) (XX ws)
theorem XY{K:aK}{O:Addr->Prop}{H:Hp}:∀ws:List Str,aQ K O H (ws.map V.str) (ws.map D.str)
 | []=>.nil
 | _::ws=>.cons (Is.str _) (XY ws)
noncomputable def rm:List D->Option (List Str)
 | []=>some []
 | .str x::ds=>(rm ds).map (x::·)
 | _::_=>none
theorem TB:∀{ds:List D} {ss:List Str},rm ds=some ss->ds=ss.map D.str
 | [],ss,h=>by cases h;rfl
 | .str x::ds,ss,h=>by
  obtain ⟨s',h1,rfl⟩:=map_some (show (rm ds).map (x::·)=some ss from h)
  rw [TB h1];rfl
theorem Ta{K:aK}{O:Addr->Prop}{H:Hp}:∀{xs:List V} {ns:List Str},aQ K O H xs (ns.map D.str)->xs=ns.map V.str
 | _,[],h=>by cases h;rfl
 | _,n::ns,h=>by
  cases h with
  | cons a t =>
   cases a
   rw [Ta t];rfl
noncomputable def sset(ds:List D):Option (List D):=match wF ds with
 | some ns=>if ns.length<64 then some ((SE.lC SE.ltI ns).map D.int) else none
 | none=>(rm ds).bind λss=>if ss.length<64 then some ((SE.lC SE.lX ss).map D.str) else none
noncomputable def LR(f:En->Option Sl):En->Option Sl:=λenv=>(f env).bind λr=>match r.d with
 | .lst _ ds=>(sset ds).map Sl.ow
 | _=>none
theorem b53{e:Expr}{fa:En->Option Sl}{p pos p2 k9:Pos}(hc:X.calm=true)(hg:Gl X "sorted")(hm:X.mg "sorted" = none)(Br:Gl X "set")(Bq:X.mg "set" = none)(he:EV X e fa)(hs:starEach [e] X.env=[(false,eval e X.env)]:=by rfl)
  (ll:starEach [.Call (.Name "set" p2) [e] [] k9] X.env=[(false,eval (.Call (.Name "set" p2) [e] [] k9) X.env)]:=by rfl):EV X (.Call (.Name "sorted" p) [.Call (.Name "set" p2) [e] [] k9] [] pos) (LR fa):=by
 obtain ⟨t,pt,k⟩:=he
 have P1:=BK (p:=p) (pos:=pos) (a4G X2 SE.Cb hc) hg hm (by decide +kernel) (kY (Fe (p:=p2) (pos:=k9) (iI X2 (0:Int) hc) Br Bq (by decide +kernel) (kY pt mV hs) (by decide) (by decide) hs rfl) mV ll) (by decide) (by decide) ll rfl
 have P2:=BK (p:=p) (pos:=pos) (a4G RO SE.Ca hc) hg hm (by decide +kernel) (kY (Fe (p:=p2) (pos:=k9) (iI RO ("":Str) hc) Br Bq (by decide +kernel) (kY pt mV hs) (by decide) (by decide) hs rfl) mV ll) (by decide) (by decide) ll rfl
 refine ⟨_,Gw P1 P2,λO B σ H env s Q R e q=>?_⟩
 obtain ⟨r,e1,e2⟩:=bind_some e
 cases hd:r.d with
 | lst b ds =>
  rw [hd] at e2
  obtain ⟨rs,e3,rfl⟩:=map_some (show (sset ds).map Sl.ow=some s from e2)
  unfold sset at e3
  split at e3
  .rename_i ns e4
   obtain ⟨vK,rfl⟩:=jg e3
   refine .inl (k O B σ H env r _ R e1 λv H1 s1 r1=>?_)
   have hi:=r1.is λq=>R.oo
   rw [hd] at hi
   have Ik:=a55 e4
   subst Ik
   obtain ⟨a,xs,rfl,h2,h3⟩:=hi.seq (k:=true) rfl
   have ex:=ZE h3
   subst ex
   refine ⟨a,ns,rfl,h2,BA (QI vK) (by decide),λc ks nd mem hc=>⟨c,ks,rfl,kn,nd,Ln (SE.sf nd λx hx=>(mem x).mp hx) vK,λms d pm zy hd=>?_⟩⟩
   have xR:ms=SE.lC SE.ltI ns:=SE.rf SE.nQ zy (SE.jE SE.nQ ns) λz=>by rw [pm.mem_iff,mem,SE.iK SE.nQ]
   have zd:H1 d=none:=by
    by_cases z:d=c
    .rw [z,kn] at hd;cases hd
    .rwa [dW z] at hd
   rw [<-xR] at q
   refine q _ _ ((s1.trans (mX hc _)).trans (mX hd _)) ((E3 hd ?_).from (s1.trans (mX hc _)))
   exact XX _
  .rename_i e4
   obtain ⟨ss,e5,e6⟩:=bind_some e3
   obtain ⟨vK,rfl⟩:=jg e6
   refine .inr (k O B σ H env r _ R e1 λv H1 s1 r1=>?_)
   have hi:=r1.is λq=>R.oo
   rw [hd] at hi
   have Ik:=TB e5
   subst Ik
   obtain ⟨a,xs,rfl,h2,h3⟩:=hi.seq (k:=true) rfl
   have ex:=Ta h3
   subst ex
   refine ⟨a,ss,rfl,h2,BA (QI vK) (by decide),λc ks nd mem hc=>⟨c,ks,rfl,kn,nd,Ln (SE.sf nd λx hx=>(mem x).mp hx) vK,λms d pm zy hd=>?_⟩⟩
   have xR:ms=SE.lC SE.lX ss:=SE.rf SE.eS zy (SE.jE SE.eS ss) λz=>by rw [pm.mem_iff,mem,SE.iK SE.eS]
   rw [<-xR] at q
   refine q _ _ ((s1.trans (mX hc _)).trans (mX hd _)) ((E3 hd ?_).from (s1.trans (mX hc _)))
   exact XY _
 | _=>rw [hd] at e2;cases e2
end
end DL
namespace DL
open PySem L2
def N6(d:D)(Q:Sl->Prop):Prop:=match d with
 | .lst _ ds=>Wo (sset ds) λrs=>Q (.ow rs)
 | _=>False
theorem Gc{r:Bool}{ds:List D}{Q:Sl->Prop}:N6 (.lst r ds) Q↔Wo (sset ds) λrs=>Q (.ow rs):=hU
theorem b3K{f:En->Option Sl}{env:En}{Q:Sl->Prop}:Wo (LR f env) Q↔Wo (f env) λr=>N6 r.d Q:=by
 unfold LR
 rw [a0k]
 refine jf λr=>?_
 cases r.d<;>simp [N6,Wo_none,a1p]
end DL
namespace DL
open PySem PySem.Spec PyProof.Rows L2
section
variable {K:aK}{O O':Addr->Prop}{H:Hp}{p:Addr}{ys:List V}
end
end DL
namespace DL
open PySem PySem.Spec PyProof.Rows L2
theorem MI{K:aK}{O:Addr->Prop}{H:Hp}{f:Str}{d:D}:∀{ns:List Str} {vs:List V} {ds:List D},aQ K O H vs ds->(ns.zip ds).lookup f=some d->∃v,(ns.zip vs).lookup f=some v/\Is K O H v d
 | [],_,_,_,e=>by cases e
 | n::ns,_,_,.nil,e=>by cases e
 | n::ns,_,_,.cons h t,e=>by
  rw [Eg,qb] at e ⊢
  by_cases z:(f==n)=true
  .rw [z] at e ⊢
   cases e
   exact ⟨_,rfl,h⟩
  .rw [QJ] at z
   rw [z] at e ⊢
   exact MI t e
theorem Zu{m:Str}:∀{ns:List Str} {vs:List V},m∉ns->(ns.zip vs).lookup m=none
 | [],_,_=>rfl
 | n::ns,[],_=>rfl
 | n::ns,v::vs,h=>by
  rw [Eg,qb]
  have:(m==n)=false:=by
   rw [beq_eq_false_iff_ne]
   exact λe=>h (by rw [e];exact gi)
  rw [this]
  exact Zu λz=>h (gn _ z)
theorem Mo{f:Str}{y:V}:∀{ns:List Str} {us:List V},f∉ns->ns.length=us.length->gX f y (ns.zip us)=(ns++[f]).zip (us++[y])
 | [],[],_,_=>rfl
 | [],_::_,_,h=>by cases h
 | _::_,[],_,h=>by cases h
 | n::ns,u::us,h,hl=>by
  show (if n=f then _ else (n,u)::gX f y (ns.zip us))=(n,u)::(ns++[f]).zip (us++[y])
  rw [if_neg (λe=>h (by rw [e];exact gi)),Mo (λz=>h (gn _ z)) (by simpa using hl)]
theorem zC{α:Type}{c:Prop}[Decidable c]{x:Option α}{y:α}(h:(if c then x else none)=some y):c/\x=some y:=by
 by_cases hc:c
 .rw [if_pos hc] at h;exact ⟨hc,h⟩
 .rw [if_neg hc] at h;cases h
theorem b2K{σ:L2.St}{env:En}{x:Option V}{q:Addr}(h:oN (x::σ) (.no::env) q):oN σ env q:=by
 obtain ⟨i,s,e1,o,e2⟩:=h
 cases i with
 | zero=>cases e1;exact o.elim
 | succ i=>exact ⟨i,s,by simpa using e1,o,by simpa using e2⟩
theorem SS{K:aK}{O:Addr->Prop}{B H:Hp}{σ:L2.St}{env:En}(x:Option V)(R:Rel K O B σ H env):Rel K O B (x::σ) H (.no::env):=by
 have oo:∀q,OO O (x::σ) (.no::env) q->OO O σ env q:=λq z=>z.elim .inl λz=>.inr (b2K z)
 refine ⟨R.same,R.p8,by simp [R.len],λi d e=>?_,λi ds e=>?_,λi ks e=>?_,λi ks ds e=>?_,λi j ds es p e1 e2 e3 e4 o1 o2=>?_⟩
 .cases i with
  | zero=>cases e
  | succ i=>obtain ⟨v,f1,f2⟩:=R.sh i d (by simpa using e);exact ⟨v,by simpa using f1,f2.less oo⟩
 .cases i with
  | zero=>cases e
  | succ i=>obtain ⟨p,xs,f1,f2,f3,f4⟩:=R.ow i ds (by simpa using e);exact ⟨p,xs,by simpa using f1,f2,f3,f4.less oo⟩
 .cases i with
  | zero=>cases e
  | succ i=>obtain ⟨p,f1,f2,f3⟩:=R.dw i ks (by simpa using e);exact ⟨p,by simpa using f1,f2,f3⟩
 .cases i with
  | zero=>cases e
  | succ i=>obtain ⟨p,xs,f1,f2,f3,f4,f5⟩:=R.tw i ks ds (by simpa using e);exact ⟨p,xs,by simpa using f1,f2,f3,f4,f5.less oo⟩
 .cases i with
  | zero=>cases e1;exact o1.elim
  | succ i =>
   cases j with
   | zero=>cases e2;exact o2.elim
   | succ j=>rw [R.sep i j ds es p (by simpa using e1) (by simpa using e2) (by simpa using e3) (by simpa using e4) o1 o2]
def yQ(K:aK)(c:Str)(P:Addr->Prop):Prop:=∀C,iJ K mainGlobals c=some (some (.ref C))->nD K C/\P C
noncomputable def HZ(cs:List Str)(f:Str):D->Option D
 | .obj c ns ds=>if c∈cs then (ns.zip ds).lookup f else none
 | _=>none
noncomputable def qV(cs:List Str)(f:Str)(fo:En->Option Sl):En->Option Sl:=λenv=>(fo env).bind λr=>(HZ cs f r.d).map Sl.sh
section
variable {X:Cx}{e o:Expr}{es:List Expr}{f m:Str}{pos apos p:Pos}{fo:En->Option Sl}{fs:En->Option (List D)}{cs:List Str}
theorem L8(ho:EV X o fo)(hc:∀c∈cs,yQ X.K c λC=>ao X.K C f)(hb:attributeBase o f X.env (eval o X.env)=eval o X.env:=by rfl):EV X (.Attribute o f pos) (qV cs f fo):=by
 obtain ⟨t,pt,k⟩:=ho
 refine ⟨_,RU pt hb,λO B σ H env s Q R e q=>?_⟩
 obtain ⟨r,e1,e2⟩:=bind_some e
 obtain ⟨d,e3,rfl⟩:=map_some e2
 refine k O B σ H env r _ R e1 λv H1 s1 r1=>?_
 have hi:=r1.is λq=>R.oo
 cases hd:r.d with
 | obj c ns ds =>
  rw [hd] at hi e3
  obtain ⟨hm,e4⟩:=zC (show (if c∈cs then (ns.zip ds).lookup f else none)=some d from e3)
  cases hi with
  | obj ho hn hp hl hs =>
   obtain ⟨u,hu,iu⟩:=MI hs e4
   obtain ⟨c1,c2⟩:=hc c hm _ hn
   exact ⟨_,_,_,_,u,rfl,hp,c1,c2,hu,q u H1 s1 iu⟩
 | _=>rw [hd] at e3;cases e3
noncomputable def Yf(X:Cx)(m:Str)(j:Nat)(ta:TE)(t:TA):TE:=λσ H Q=>ta σ H λx H1=>∃a C dx fs f fd ps sp,x=.ref a/\H1 a=some (.ins C dx fs)/\nD X.K C/\aP X.K C m f/\fs.lookup m=none/\Binds X.K fd ps []/\bD X.prog X.w X.K X.mg X.base jv j f fd ps sp /\
 t σ H1 λvs H2=>sp (x::vs) H2 Q E0
theorem b0T{pl:Sem Bool}{j:Nat}{ta:TE}(he:PE X o ta)(hr:bZ j X.A)
  (ht:eval (.Call (.Attribute o m apos) [] [] pos) X.env=(eval o X.env >>= λov=>standAt apos.atName >>= λ_=>holding [ov] (getMethod ov m pl) >>= λz=>callWith pos z.1 z.2 (backTo pos (starEach [] X.env)) (backToKw pos (keywordEach [] X.env))):=by rfl):
  PE X (.Call (.Attribute o m apos) [] [] pos) (Yf X m j ta F0):=by
 intro pins s σ H Q I h
 refine WO (pl:=pl) (bJ (he pins s σ H _ I h) λu s1 ⟨x,H1,I1,rx,a,C,dx,fs,f,fd,ps,sp,ex,ea,c,hm,l,hb,F,q⟩=>?_) ht
 subst ex
 obtain rfl:u=cR a:=rx
 exact a97 I1 ea c hm l (PySem.W.callWith_K0 (first:=[.ref a]) I1.kA hm.kp (RX (us:=[.ref a]) (vs:=[.ref a]) (dvs:=[]) (E:=E0) F hr hb .nil EI I1 (.cons rfl .nil) q))
noncomputable abbrev fj:=List (Str×(List D->Option Sl))
def MT(X:Cx)(m:Str)(n j:Nat)(tab:fj):Prop:=∀c φ,tab.lookup c=some φ->yQ X.K c λC=>∃f fd ps,aP X.K C m f/\ps.length=n/\Binds X.K fd ps []/\bD X.prog X.w X.K X.mg X.base jv j f fd ps (qu X.K n φ)
noncomputable def wG(m:Str)(n:Nat)(tab:fj)(d:D)(as:List D):Option Sl:=match d with
 | .obj c ns ds=>if m∈ns\/as.length+1≠n then none else (tab.lookup c).bind λφ=>φ (.obj c ns ds::as)
 | _=>none
noncomputable def pK(m:Str)(n:Nat)(tab:fj)(fo:En->Option Sl)(fa:En->Option (List D)):En->Option Sl:=λenv=>(fo env).bind λr=>(fa env).bind λas=>wG m n tab r.d as
theorem b1b{t:TE}{u:TA}{n j:Nat}{tab:fj}(T:MT X m n j tab)
  (k:∀(O:Addr->Prop) (B:Hp) (σ:L2.St) (H:Hp) (env:En) (r:Sl) (Q:VK),Rel X.K O B σ H env->fo env=some r->(∀v H',az H H'->Res X.K (OO O σ env) H H' v r->Q v H')->t σ H Q)
  (ka:∀(O:Addr->Prop) (B:Hp) (σ:L2.St) (H:Hp) (env:En) (ds:List D) (Q:List V->Hp->Prop),Rel X.K O B σ H env->fs env=some ds->(∀vs H',az H H'->aQ X.K (OO O σ env) H' vs ds->Q vs H')->u σ H Q)
  (O:Addr->Prop)(B:Hp)(σ:L2.St)(H:Hp)(env:En)(s:Sl)(Q:VK)(R:Rel X.K O B σ H env)(e:pK m n tab fo fs env=some s)(q:∀v H',az H H'->Res X.K (OO O σ env) H H' v s->Q v H'):Yf X m j t u σ H Q:=by
 obtain ⟨r,e1,e2⟩:=bind_some e
 obtain ⟨as,e3,e4⟩:=bind_some e2
 refine k O B σ H env r _ R e1 λv H1 s1 r1=>?_
 have hi:=r1.is λq=>R.oo
 cases hd:r.d with
 | obj c ns ds =>
  rw [hd] at hi e4
  unfold wG at e4
  dsimp only at e4
  split at e4
  .cases e4
  .rename_i nk
   rw [not_or] at nk
   obtain ⟨φ,e5,e6⟩:=bind_some e4
   have mP:=hi
   cases hi with
   | obj ho hn hp hl hs =>
    obtain ⟨c1,f,fd,ps,c2,c3,c4,c5⟩:=T c φ e5 _ hn
    refine ⟨_,_,_,_,f,fd,ps,_,rfl,hp,c1,c2,Zu nk.1,c4,c5,?_⟩
    refine ka O B σ H1 env as _ (R.grow s1) e3 λvs H2 s2 r2=>?_
    have nl:as.length+1=n:=Qs.mp nk.2
    exact ⟨OO O σ env,_,s,((R.grow s1).grow s2).dm,.cons (mP.grow s2) r2,by rw [gq,r2.length];exact nl,e6,λv H3 s3 r3=>q v H3 ((s1.trans s2).trans s3) (r3.from (s1.trans s2))⟩
 | _=>rw [hd] at e4;cases e4
theorem b29{n j:Nat}{tab:fj}{pl:Sem Bool}(ho:EV X o fo)(hr:bZ j X.A)(T:MT X m n j tab)
  (ht:eval (.Call (.Attribute o m apos) [] [] pos) X.env=(eval o X.env >>= λov=>standAt apos.atName >>= λ_=>holding [ov] (getMethod ov m pl) >>= λz=>callWith pos z.1 z.2 (backTo pos (starEach [] X.env)) (backToKw pos (keywordEach [] X.env))):=by rfl):
  EV X (.Call (.Attribute o m apos) [] [] pos) (pK m n tab fo aa):=by
 obtain ⟨t,pt,k⟩:=ho
 refine ⟨_,b0T pt hr ht,λO B σ H env s Q R e q=>b1b T k (λO B σ H env ds Q R e q=>?_) O B σ H env s Q R e q⟩
 obtain rfl:=gp (show some []=some ds from e)
 exact q [] H (az.refl _) .nil
noncomputable def DM(K:aK)(C:Addr)(n:Nat)(ns:List Str)(ψ:List D->Option (List D)):Sp:=λvs H Q _=>∃(O:Addr->Prop) (p dx:Addr) (ws:List V) (ds fs:List D),vs=.ref p::ws/\ws.length=n/\H p=some (.ins C dx [])/\zQ K O H/\O p/\aQ K O H ws ds/\ψ ds=some fs /\
 ∀(us:List V) (H':Hp),ns.length=us.length->(∀q u,H q=some u->q≠p->H' q=some u)->H' p=some (.ins C dx (ns.zip us))->aQ K O H' us fs->Q .cj H'
noncomputable def iH(c:Str)(n:Nat)(ns:List Str)(ψ:List D->Option (List D))(fa:En->Option (List D)):En->Option Sl:=λenv=>(fa env).bind λas=>if as.length=n then (ψ as).map λds=>Sl.sh (.obj c ns ds) else none
theorem Ie{c:Str}{C f:Addr}{fd:FuncData}{ps:List Str}{n j:Nat}{ns:List Str}{ψ:List D->Option (List D)}(M:Mk X.K C f)(F:bD X.prog X.w X.K X.mg X.base jv j f fd ps (DM X.K C n ns ψ))(hr:bZ (j+1) X.A)(hg:Gl X c)(hm:X.mg c=some (.ref C))(hn:iJ X.K mainGlobals c=some (some (.ref C)))(hb:Binds X.K fd ps [])
  (ha:AV X (e::es) fs)(eY:(c==("__debug__":Str))=false:=by decide)(he:starEach (e::es) X.env=(false,eval e X.env)::starEach es X.env:=by rfl)(fm:(backTo pos (starEach es X.env)).any (·.1)=false:=by rfl):
  EV X (.Call (.Name c p) (e::es) [] pos) (iH c n ns ψ fs):=by
 obtain ⟨t,pt,ka⟩:=ha
 refine ⟨_,b5g M F hr hg hm hb .nil (EI (X:=X)) pt eY he fm,λO B σ H env r Q R e q=>?_⟩
 obtain ⟨as,e1,e2⟩:=bind_some e
 obtain ⟨hl,e3⟩:=zC e2
 obtain ⟨gs,e4,rfl⟩:=map_some e3
 refine ka O B σ H env as _ R e1 λvs H1 s1 r1=>?_
 intro x dx nx OF ne
 have nO:¬OO O σ env x:=λz=>(R.grow s1).oo z nx
 have up1:∀q u,H1 q=some u->upd (upd H1 dx (.own x)) x (.ins C dx []) q=some u:=λq u e=>by rw [dW (pO e nx),dW (pO e OF)];exact e
 refine ⟨λq=>OO O σ env q\/q=x,x,dx,vs,as,gs,by rw [yu],by rw [r1.length];exact hl,kn,⟨λq hq=>?_,(R.grow s1).dm.2.grow λq u e=>up1 q u e⟩,.inr rfl,r1.map (λq hq hn z=>z.elim hn λe=>hq (by rw [e];exact nx)) λq u e _=>up1 q u e,e4,λus H' nV kp hp hs=>⟨rfl,?_⟩⟩
 .rcases hq with hq | rfl
  .cases hz:H1 q with
   | none=>exact absurd hz ((R.grow s1).oo hq)
   | some u=>rw [up1 q u hz];exact λz=>nomatch z
  .rw [kn];exact λz=>nomatch z
 .have sm:az H1 H':=λq u e=>kp q u (up1 q u e) (pO e nx)
  exact q _ H' (s1.trans sm) (Is.obj nO hn hp nV (hs.less λq z=>.inl z))
def BU(X:Cx)(hJ:List Stmt)(C:Addr)(F:En->List Str->List D->Option (List Str×List D)):Prop:=
 ∃t:TS,oz X hJ t/\∀(O:Addr->Prop) (σ:L2.St) (H:Hp) (env:En) (p dx:Addr) (ns:List Str) (us:List V) (ds:List D) (iX:List Str) (ds':List D) (Dn:Ends),Rel X.K O H σ H env->(∀(i:Nat) s,env[i]?=some s->¬s.own)->O p->σ[0]?=some (some (V.ref p))->H p=some (.ins C dx (ns.zip us))->ns.length=us.length->aQ X.K O H us ds->F env ns ds=some (iX,ds') ->
  (∀(H':Hp) (qt:List V),(∀q u,H q=some u->q≠p->H' q=some u)->H' p=some (.ins C dx (iX.zip qt))->iX.length=qt.length->aQ X.K O H' qt ds'->Dn.nx σ H')->t Dn σ H
noncomputable def iB:En->List Str->List D->Option (List Str×List D):=λ_ ns ds=>some (ns,ds)
noncomputable def cI(f:Str)(fe:En->Option Sl)(F:En->List Str->List D->Option (List Str×List D)):En->List Str->List D->Option (List Str×List D):=λenv ns ds=>(fe env).bind λr=>if f∈ns\/900<ns.length then none else F env (ns++[f]) (ds++[r.d])
theorem wI{C:Addr}:BU X [] C iB:=⟨_,SJ,λO σ H env p dx ns us ds iX ds' Dn R no op hs hp hl hi e q=>by
 cases (show some (ns,ds)=some (iX,ds') from e)
 exact q H us (λ_ _ e _=>e) hp hl hi⟩
theorem b8h{C:Addr}{fe:En->Option Sl}{F:En->List Str->List D->Option (List Str×List D)}{hJ:List Stmt}{x:Str}{p1 pos':Pos}(hv:EV X e fe)(hr:BU X hJ C F)(c:nD X.K C)(n:ao X.K C f)
  (hN:X.N[0]?=some x)(eX:gm X.env.scope x)(hd:(x==("__debug__":Str))=false:=by rfl)(bM:(x==("__classdict__":Str))=false:=by rfl)
  (hs:swapsWith e (some (.Attribute (.Name x p1) f pos')) pos.line X.env=pure false:=by rfl):BU X (.Assign [.Attribute (.Name x p1) f pos'] e pos::hJ) C (cI f fe F):=by
 obtain ⟨t,pt,k⟩:=hv
 obtain ⟨u,pu,ku⟩:=hr
 refine ⟨_,yJ (RV (oK hN eX hd bM) pt hs) pu,λO σ H env p dx ns us ds iX ds' Dn R no op hs hp hl hi e q=>?_⟩
 obtain ⟨r,e1,e2⟩:=bind_some e
 split at e2
 .cases e2
 rename_i nk
 rw [not_or] at nk
 have qE:∀q,oN σ env q->False:=λq ⟨i,s,h1,h2,_⟩=>no i s h1 h2
 refine k O H σ H env r _ R e1 λv H1 s1 r1=>?_
 have iv:=(r1.is λq=>R.oo).less (O':=O) λq z=>.inl z
 refine ⟨.ref p,hs,p,C,dx,ns.zip us,rfl,s1 _ _ hp,c,n,by rw [yr];omega,?_⟩
 rw [Mo nk.1 hl]
 have kp:∀q u,H1 q=some u->q≠p->upd H1 p (.ins C dx ((ns++[f]).zip (us++[v]))) q=some u:=λq u e ne=>by rw [dW ne];exact e
 have mp:∀{w:V} {d:D},Is X.K O H1 w d->Is X.K O (upd H1 p (.ins C dx ((ns++[f]).zip (us++[v])))) w d:=λh=>h.map (λ_ _ z=>z) λq u e nq=>kp q u e λz=>nq (by rw [z];exact op)
 have G0:∀{w:List V} {d:List D},aQ X.K O H1 w d->aQ X.K O (upd H1 p (.ins C dx ((ns++[f]).zip (us++[v])))) w d:=λh=>h.map (λ_ _ z=>z) λq u e nq=>kp q u e λz=>nq (by rw [z];exact op)
 refine ku O σ _ env p dx (ns++[f]) (us++[v]) (ds++[r.d]) iX ds' Dn ⟨az.refl _,⟨λq hq=>?_,λc' P e'=>?_⟩,R.len,λi d e=>?_,λi es e=>(no i _ e trivial).elim,λi es e=>(no i _ e trivial).elim,λi ks es e=>(no i _ e trivial).elim,λi j es fs q e1 _ _ _ o _=>(no i _ e1 o).elim⟩ no op hs kn (by rw [fD,fD,hl];rfl) ((G0 (hi.grow s1)).append (.cons (mp iv) .nil)) e2 λH' qt kq An nV mP=>q H' qt (λq u e ne=>kq q u (kp q u (s1 _ _ e) ne) ne) An nV mP
 .by_cases z:q=p
  .rw [z,kn];exact λz=>nomatch z
  .rw [dW z]
   cases hz:H q with
   | none=>exact absurd hz (R.p8.1 q hq)
   | some u=>rw [s1 _ _ hz];exact λz=>nomatch z
 .have e3:=R.p8.2 c' P e'
  exact kp _ _ (s1 _ _ e3) λz=>by rw [z,hp] at e3;cases e3
 .obtain ⟨w,f1,f2⟩:=R.sh i d e
  refine ⟨w,f1,(mp ((f2.grow s1).less λq z=>.inl z)).less λq z=>z.elim id λz=>(qE q z).elim⟩
end
section
variable {P:Program}{w:World}{K:aK}{mg:Str->Option Value}{base:Heap}
noncomputable def dj(F:En->List Str->List D->Option (List Str×List D))(N:Nat)(ns:List Str)(ds:List D):Option (List D):=match F (.no::iS (N-1) ds) [] [] with
 | some (iX,fs)=>if iX=ns then some fs else none
 | none=>none
theorem YH{qual:Str}{st:Stmt}{f C:Addr}{fd:FuncData}{N ps:List Str}{k n:Nat}{ns:List Str}{F:En->List Str->List D->Option (List Str×List D)}(Fn:tL K "__init__" qual st f fd)(S:bC N ps (dg st))(mO:ps.length=n+1)(hN:1<=N.length)
  (br:∀X:Cx,X.prog=P->X.w=w->X.K=K->X.mg=mg->X.base=base->Fx X N (dg st) k->BU X (hV st) C F):bD P w K mg base jv (k+1) f fd ps (DM K C n ns (dj F N.length ns)):=by
 refine Fn.ok S (λvs H Q E h=>?_) (λdX A outer s H vs Q E hr h=>?_)
 .obtain ⟨O,p,dx,ws,ds,fs,rfl,hl,_⟩:=h
  rw [gq,hl,mO]
 obtain ⟨O,p,dx,ws,ds,fs,rfl,hl,hp,dm,op,hi,e,q⟩:=h
 obtain ⟨t,pt,kk⟩:=br (gO jv P w K mg base N qual (dg st) f dX A outer s H E).b8 rfl rfl rfl rfl rfl ⟨rfl,rfl,rfl,λ_ _=>rfl,AN,hr,S.nd,λ_=>⟨rfl,rfl,rfl⟩⟩
 refine ⟨t,pt,?_⟩
 have R0:=Fg (N:=N.tail) dm hi
 have R1:=SS (some (V.ref p)) R0
 have es:some (V.ref p)::start N.tail ws=start N (V.ref p::ws):=by
  unfold L2.start
  rw [fE,Eb,Ea,gq,Ql,Qo 1]
 rw [es,Ea] at R1
 unfold dj at e
 cases hF:F (.no::iS (N.length-1) ds) [] [] with
 | none=>rw [hF] at e;cases e
 | some y =>
  obtain ⟨iX,CD⟩:=y
  rw [hF] at e
  obtain ⟨rfl,rfl⟩:=jg (show (if iX=ns then some CD else none)=some fs from e)
  refine kk O _ H _ p dx [] [] [] iX CD _ R1 (λi s h1 h2=>?_) op rfl hp rfl .nil hF λH' qt kp An nV mP=>q qt H' nV kp An mP
  cases i with
  | zero=>cases h1;exact h2
  | succ i =>
   have h1:(iS (N.length-1) ds)[i]?=some s:=by simpa using h1
   unfold iS at h1
   rw [IM] at h1
   split at h1
   .rw [mB] at h1
    obtain ⟨d,_,e⟩:=map_some h1
    cases e
    exact h2
   .rw [C1] at h1
    split at h1
    .cases h1;exact h2
    .cases h1
end
end DL
namespace DL
open PySem PySem.Spec PyProof.Rows L2
structure cP(K:aK)(c:Str)(C:Addr):Prop where
 a:iJ K mainGlobals c=some (some (.ref C))
 c:nD K C
theorem cP.n{K:aK}{c:Str}{C:Addr}{P:Addr->Prop}(h:cP K c C)(p:P C):yQ K c P:=λC' e=>by
 rw [h.a] at e
 cases e
 exact ⟨h.c,p⟩
def FL(K:aK)(f:Str)(cs:List Str):Prop:=∀c∈cs,yQ K c λC=>ao K C f
theorem RQ{K:aK}{f:Str}:FL K f []:=λ_ h=>nomatch h
theorem zG{K:aK}{f c:Str}{C:Addr}{cs:List Str}(h:cP K c C)(n:ao K C f)(T:FL K f cs):FL K f (c::cs):=λc' hc=>by
 rcases cL.mp hc with rfl | hc
 .exact h.n n
 .exact T c' hc
structure c9(K:aK)(f:Addr)(x qual:Str)(st:Stmt)(ps:List Str)(fd:FuncData):Prop where
 fn:tL K x qual st f fd
 bd:Binds K fd ps []
def Om(P:Program)(w:World)(K:aK)(mg:Str->Option Value)(base:Heap)(f:Addr)(x qual:Str)(st:Stmt)(ps:List Str)(j:Nat)(φ:List D->Option Sl):Prop:=∃fd,c9 K f x qual st ps fd/\bD P w K mg base jv j f fd ps (qu K ps.length φ)
theorem EM{P:Program}{w:World}{K:aK}{mg:Str->Option Value}{base:Heap}{x qual:Str}{st:Stmt}{f:Addr}{fd:FuncData}{N ps:List Str}{k:Nat}{F:SF}(D':c9 K f x qual st ps fd)
  (br:∀X:Cx,Sx X P w K mg base->Fx X N (dg st) k->lz X (hV st) F)(S:bC N ps (dg st):=by exact ⟨rfl,rfl,rfl,by decide +kernel,rfl,by decide +kernel,by decide +kernel⟩):Om P w K mg base f x qual st ps (k+1) (cf F N.length):=
 ⟨fd,D',HR D'.fn S λX e1 e2 e3 e4 e5=>by subst e1 e2 e3 e4 e5;exact br X (.mk X)⟩
def uS(P:Program)(w:World)(K:aK)(mg:Str->Option Value)(base:Heap)(m:Str)(n j:Nat)(tab:fj):Prop:=∀c φ,tab.lookup c=some φ->yQ K c λC=>∃f fd ps,aP K C m f/\ps.length=n/\Binds K fd ps []/\bD P w K mg base jv j f fd ps (qu K n φ)
section
variable {P:Program}{w:World}{K:aK}{mg:Str->Option Value}{base:Heap}{m c:Str}{n j:Nat}{tab:fj}
theorem Mc:uS P w K mg base m n j []:=λc φ e=>nomatch e
theorem hX{C f:Addr}{x qual:Str}{st:Stmt}{ps:List Str}{i:Nat}{φ:List D->Option Sl}(h:cP K c C)(hm:aP K C m f)(O:Om P w K mg base f x qual st ps i φ)(T:uS P w K mg base m n j tab)(hj:i<=j:=by decide)(hl:ps.length=n:=by rfl):uS P w K mg base m n j ((c,φ)::tab):=λc' φ' e=>by
 rw [qb] at e
 by_cases z:(c'==c)=true
 .rw [z] at e
  cases e
  obtain rfl:c'=c:=by simpa using z
  obtain ⟨fd,D',F⟩:=O
  exact h.n ⟨f,fd,ps,hm,hl,D'.bd,by rw [<-hl];exact F.mono hj⟩
 .rw [QJ] at z
  rw [z] at e
  exact T c' φ' e
end
structure FM(K:aK)(n q:Str)(t:Stmt)(f:Addr)(od an:Option Addr)(sl:Array (Option Value))(oc kV dc pm cd ct:Value):Prop where
 l:K.lookup f=some ⟨oc,od,.func (mS n q (oa t) (hV t) (dg t) .none kV dc pm an cd ct),sl⟩
 c:IH K cd q=true
 k:sW K (.ref f)=true
theorem lV{K:aK}{n q:Str}{t:Stmt}{f:Addr}{od an:Option Addr}{sl:Array (Option Value)}{oc kV dc pm cd ct:Value}{ps:List Str}(i:FM K n q t f od an sl oc kV dc pm cd ct)(hb:∀(kV doc pm:Value) (an:Option Addr) (dX ct:Value) (us:List Value),us.length=ps.length->bindArgs (mS n q (oa t) (hV t) (dg t) .none kV doc pm an dX ct) ⟨us,[]⟩=pure (ps.zip us)):
  c9 K f n q t ps (mS n q (oa t) (hV t) (dg t) .none kV dc pm an cd ct):=⟨Ma i.l i.c i.k,(Ma i.l i.c i.k).binds hb⟩
def jr(P:Program)(w:World)(K:aK)(mg:Str->Option Value)(base:Heap)(c:Str)(n:Nat)(ns:List Str)(j:Nat)(ψ:List D->Option (List D)):Prop:=∃C f fd ps,Mk K C f/\bD P w K mg base jv j f fd ps (DM K C n ns ψ)/\mg c=some (.ref C)/\iJ K mainGlobals c=some (some (.ref C))/\Binds K fd ps []
theorem G5{c:Str}{n j:Nat}{ns:List Str}{ψ:List D->Option (List D)}{X X':Cx}(e1:X'.prog=X.prog)(e2:X'.w=X.w)(e3:X'.K=X.K)(e4:X'.mg=X.mg)(e5:X'.base=X.base)(T:jr X.prog X.w X.K X.mg X.base c n ns j ψ):jr X'.prog X'.w X'.K X'.mg X'.base c n ns j ψ:=by
 rw [e1,e2,e3,e4,e5];exact T
theorem AU{P:Program}{w:World}{K:aK}{mg:Str->Option Value}{base:Heap}{c qual:Str}{st:Stmt}{f C:Addr}{fd:FuncData}{N ps:List Str}{k n:Nat}{ns:List Str}{F:En->List Str->List D->Option (List Str×List D)}(h:cP K c C)(hm:mg c=some (.ref C))(M:Mk K C f)(D':c9 K f "__init__" qual st ps fd)
  (br:∀X:Cx,Sx X P w K mg base->Fx X N (dg st) k->BU X (hV st) C F)(mO:ps.length=n+1:=by rfl)(hN:1<=N.length:=by decide)(S:bC N ps (dg st):=by exact ⟨rfl,rfl,rfl,by decide +kernel,rfl,by decide +kernel,by decide +kernel⟩):jr P w K mg base c n ns (k+1) (dj F N.length ns):=
 ⟨C,f,fd,ps,M,YH D'.fn S mO hN λX e1 e2 e3 e4 e5=>by subst e1 e2 e3 e4 e5;exact br X (.mk X),hm,h.a,D'.bd⟩
section
variable {X:Cx}{N:List Str}{sc:Scope}{k j n:Nat}{full:Bool}{e o:Expr}{es:List Expr}{m c f:Str}{pos p apos pos' p1:Pos}{fo fe:En->Option Sl}{fs:En->Option (List D)}{tab:fj}
theorem Fx.Af(h:Fx X N sc k full)(T:uS X.prog X.w X.K X.mg X.base m n j tab)(ho:EV X o fo)(hj:j<=k:=by decide){pl:Sem Bool}
  (ht:eval (.Call (.Attribute o m apos) [] [] pos) X.env=(eval o X.env >>= λov=>standAt apos.atName >>= λ_=>holding [ov] (getMethod ov m pl) >>= λz=>callWith pos z.1 z.2 (backTo pos (starEach [] X.env)) (backToKw pos (keywordEach [] X.env))):=by rfl):
  EV X (.Call (.Attribute o m apos) [] [] pos) (pK m n tab fo aa):=b29 (pl:=pl) ho (h.room.mono hj) T ht
theorem Fx.lg{ns:List Str}{ψ:List D->Option (List D)}(h:Fx X N sc k full)(T:jr X.prog X.w X.K X.mg X.base c n ns j ψ)(ha:AV X (e::es) fs)(hj:j+1<=k:=by decide)(hg:sc.names.lookup c=some .globalImplicit:=by rfl)(eY:(c==("__debug__":Str))=false:=by rfl)
  (he:starEach (e::es) X.env=(false,eval e X.env)::starEach es X.env:=by rfl)(fm:(backTo pos (starEach es X.env)).any (·.1)=false:=by rfl):EV X (.Call (.Name c p) (e::es) [] pos) (iH c n ns ψ fs):=by
 obtain ⟨C,f,fd,ps,M,F,hm,hn,hb⟩:=T
 exact Ie M F (h.room.mono hj) (h.g hg) hm hn hb ha eY he fm
theorem Fx.fN{C:Addr}{hJ:List Stmt}{F:En->List Str->List D->Option (List Str×List D)}{x:Str}(h:Fx X N sc k full)(c:nD X.K C)(n:ao X.K C f)(hv:EV X e fe)(hr:BU X hJ C F)(hN:N[0]?=some x:=by rfl)(eX:gm sc x:=by first | exact cK rfl | exact bL (cK rfl) | exact bL (bL rfl))(hd:(x==("__debug__":Str))=false:=by rfl)(bM:(x==("__classdict__":Str))=false:=by rfl)
  (hs:swapsWith e (some (.Attribute (.Name x p1) f pos')) pos.line X.env=pure false:=by rfl):BU X (.Assign [.Attribute (.Name x p1) f pos'] e pos::hJ) C (cI f fe F):=b8h hv hr c n (h.ix hN) (h.oE eX) hd bM hs
end
noncomputable def G'(tab:List (Str×Bool)):D->Option Sl
 | .obj c _ _=>(tab.lookup c).map λb=>.sh (.bl b)
 | _=>none
noncomputable def PY(tab:List (Str×Bool))(fo:En->Option Sl):En->Option Sl:=λenv=>(fo env).bind λr=>G' tab r.d
section
variable {X:Cx}{a:Expr}{p p2 pos:Pos}{fa:En->Option Sl}
end
end DL
namespace DL
open PySem PySem.Spec PyProof.Rows L2
noncomputable def iQ{α:Type}:List Str->List α->Str->Option α
 | k::ks,x::xs,y=>if k=y then some x else iQ ks xs y
 | _,_,_=>none
noncomputable def k8{α:Type}:List Str->List α->Str->α->List α
 | k::ks,x::xs,y,z=>(if k=y then z else x)::k8 ks xs y z
 | _,xs,_,_=>xs
noncomputable def yG(ks:List Str)(y:Str):List Str:=if y∈ks then ks else ks++[y]
noncomputable def uK{α:Type}(ks:List Str)(xs:List α)(y:Str)(z:α):List α:=if y∈ks then k8 ks xs y z else xs++[z]
theorem ER:∀(ks:List Str) (vs:List V) (k:Str),kZ ((ks.zip vs).map λq=>((.inr q.1:Key),q.2)) (.inr k)=iQ ks vs k
 | [],_,_=>rfl
 | _::_,[],_=>rfl
 | n::ks,v::vs,k=>by
  unfold kZ
  rw [Eg,fE,CQ,iQ]
  by_cases h:n=k
  .simp [h]
  .have:¬((wc n:Key)=.inr k):=λz=>h (Iw z)
   simp only [this,decide_false,if_neg h]
   exact ER ks vs k
theorem W':∀(ks:List Str) (vs:List V) (k:Str),ks.length=vs.length->(((ks.zip vs).map λq=>((.inr q.1:Key),q.2)).any λkv=>decide (kv.1=(.inr k:Key)))=decide (k∈ks)
 | [],_,_,_=>by simp
 | _::_,[],_,h=>by cases h
 | n::ks,v::vs,k,h=>by
  rw [Eg,fE,La,W' ks vs k (by simpa using h)]
  by_cases e:n=k
  .simp [e]
  .have:¬((wc n:Key)=.inr k):=λz=>e (Iw z)
   have e':¬(k=n):=λz=>e z.symm
   simp [this,e']
theorem XE:∀(ks:List Str) (vs:List V) (k:Str) (v:V),((ks.zip vs).map λq=>((.inr q.1:Key),q.2)).map (λkv=>if kv.1=(.inr k:Key) then (kv.1,v) else kv)=(ks.zip (k8 ks vs k v)).map λq=>((.inr q.1:Key),q.2)
 | [],_,_,_=>rfl
 | _::_,[],_,_=>rfl
 | n::ks,x::vs,k,v=>by
  rw [k8,Eg,Eg,fE,fE,fE,XE ks vs k v]
  by_cases e:n=k
  .have:(wc n:Key)=.inr k:=by rw [e]
   simp [this,e]
  .have:¬((wc n:Key)=.inr k):=λz=>e (Iw z)
   simp [this,e]
theorem ZA{α:Type}:∀(ks:List Str) (xs:List α) (y:Str) (z:α),(k8 ks xs y z).length=xs.length
 | [],xs,_,_=>by cases xs<;>rfl
 | _::_,[],_,_=>rfl
 | k::ks,x::xs,y,z=>by rw [k8,gq,gq,ZA ks xs y z]
theorem Zy{α:Type}{ks:List Str}{xs:List α}(h:ks.length=xs.length)(y:Str)(z:α):(yG ks y).length=(uK ks xs y z).length:=by
 unfold yG uK
 split
 .rw [ZA];exact h
 .rw [fD,fD,h];rfl
theorem b7A{ks:List Str}{vs:List V}(h:ks.length=vs.length)(k:Str)(v:V):HO.dK (putK ((ks.zip vs).map λq=>((.inr q.1:Key),q.2)) (.inr k) v)=mR (yG ks k) (uK ks vs k v):=by
 unfold putK yG uK
 rw [W' ks vs k h]
 by_cases e:k∈ks
 .simp only [e,decide_true,if_true]
  congr 1
  exact XE ks vs k v
 .simp only [e,decide_false,if_false]
  congr 1
  rw [List.zip_append h,nz]
  rfl
theorem aQ.k8{K:aK}{O:Addr->Prop}{H:Hp}{y:Str}{v:V}{d:D}(h:Is K O H v d):∀{ks:List Str} {vs:List V} {ds:List D},aQ K O H vs ds->aQ K O H (DL.k8 ks vs y v) (DL.k8 ks ds y d)
 | [],_,_,.nil=>.nil
 | [],_,_,.cons a t=>.cons a t
 | _::_,_,_,.nil=>.nil
 | k::ks,_,_,.cons a t=>by
  unfold DL.k8
  refine .cons ?_ (aQ.k8 h t)
  split
  .exact h
  .exact a
theorem aQ.Oq{K:aK}{O:Addr->Prop}{H:Hp}{y:Str}{v:V}{d:D}(h:Is K O H v d){ks:List Str}{vs:List V}{ds:List D}(t:aQ K O H vs ds):aQ K O H (uK ks vs y v) (uK ks ds y d):=by
 unfold uK
 split
 .exact aQ.k8 h t
 .exact t.append (.cons h .nil)
theorem EY{K:aK}{O:Addr->Prop}{H:Hp}{y:Str}:∀{ks:List Str} {vs:List V} {ds:List D},aQ K O H vs ds->(iQ ks ds y=none/\iQ ks vs y=none)\/∃v d,iQ ks ds y=some d/\iQ ks vs y=some v/\Is K O H v d
 | [],_,_,_=>.inl ⟨by cases ‹List D›<;>rfl,by cases ‹List V›<;>rfl⟩
 | _::_,_,_,.nil=>.inl ⟨rfl,rfl⟩
 | k::ks,_,_,.cons a t=>by
  unfold iQ
  split
  .exact .inr ⟨_,_,rfl,rfl,a⟩
  .exact EY t
noncomputable def BG:Option Sl->Option Str
 | some (.sh (.str n))=>some n
 | _=>none
theorem JK{o:Option Sl}{n:Str}(h:BG o=some n):o=some (.sh (.str n)):=by
 unfold BG at h
 split at h
 .cases h;rfl
 .cases h
section
variable {X:Cx}{e a b k v:Expr}{fa fb fk fv:En->Option Sl}{pos p1 p2 au:Pos}{i:Nat}{x:Str}
noncomputable def PX:En->Option Sl:=λ_=>some (.tw [] [])
theorem b51:EV X (.Dict [] [] pos) PX:=⟨_,b2H,λO B σ H env r Q R e q=>by
 cases e
 exact λp hp=>q _ _ (mX hp _) ⟨p,[],rfl,hp,kn,rfl,.nil⟩⟩
noncomputable def DN(i:Nat)(f g:En->Option Sl):SF:=λenv=>match env[i]? with
 | some (.tw ks ds)=>(f env).bind λr=>(BG (g env)).bind λk=>if ks.length<16777216 then some (.nx,env.set i (.tw (yG ks k) (uK ks ds k r.d))) else none
 | _=>none
theorem b4R(ha:EV X e fa)(hb:EV X b fb)(hu:X.A.units+1<cLine)(hN:X.N[i]?=some x)(hv:gm X.env.scope x)(hd:(x==("__debug__":Str))=false:=by decide)(bM:(x==("__classdict__":Str))=false:=by decide)
  (hs:swapsWith e (some (.Subscript (.Name x p1) b p2)) pos.line X.env=pure false:=by rfl):SV X (.Assign [.Subscript (.Name x p1) b p2] e pos) (DN i fa fb):=by
 obtain ⟨ta,pa,ka⟩:=ha
 obtain ⟨tb,pb,kb⟩:=hb
 refine ⟨_,b49 hu (oK hN hv hd bM) pb pa hs,λO B σ H env fl ag Dn R e q=>?_⟩
 unfold DN at e
 split at e
 .rename_i ks ds he
  obtain ⟨r,e1,e⟩:=bind_some e
  obtain ⟨n,e2,e⟩:=bind_some e
  obtain ⟨hl,e3⟩:=jg e
  cases e3
  obtain ⟨p,vs,f1,f2,f3,f4,f5⟩:=R.tw i ks ds he
  refine ka O B σ H env _ _ R e1 λvv H1 s1 r1=>⟨_,f1,?_⟩
  refine kb O B σ H1 env _ _ (R.grow s1) (JK e2) λvk H2 s2 r2=>?_
  have h2:vk=.str n:=oJ r2
  subst h2
  have hi:=(r1.is λq=>R.oo).grow s2
  refine ⟨p,_,rfl,yP.k (k:=.inr n) (s2 _ _ (s1 _ _ f3)) (by rw [bY,yr,lr];omega),?_⟩
  obtain ⟨R',g'⟩:=(R.grow (s1.trans s2)).wrT (ks':=yG ks n) (ds':=uK ks ds n r.d) (vs':=uK ks vs n vv) he f1 (Zy f4 n vv) (((f5.grow s1).grow s2).Oq hi)
  rw [b7A f4]
  exact q _ _ R' (g'.from (s1.trans s2))
 .cases e
noncomputable def D1(fd fk:En->Option Sl):En->Option Sl:=λenv=>(fd env).bind λr=>(BG (fk env)).bind λk=>match r.d with
 | .i0 ks ds=>(iQ ks ds k).map Sl.sh
 | .bw ks ds=>(iQ ks ds k).map Sl.sh
 | _=>none
theorem b52(ha:EV X a fa)(hb:EV X b fb)(hu:X.A.units+1<cLine)(hs:A8 b):EV X (.Subscript a b pos) (D1 fa fb):=by
 obtain ⟨ta,pa,ka⟩:=ha
 obtain ⟨tb,pb,kb⟩:=hb
 refine ⟨_,b5h hu pa pb hs,λO B σ H env s Q R e q=>?_⟩
 obtain ⟨r,e0,e⟩:=bind_some e
 obtain ⟨n,e1,e⟩:=bind_some e
 refine ka O B σ H env _ _ R e0 λvd H1 s1 r1=>kb O B σ H1 env _ _ (R.grow s1) (JK e1) λvk H2 s2 r2=>?_
 have h2:vk=.str n:=oJ r2
 subst h2
 have hi:=(r1.is λq=>R.oo).grow s2
 cases hd:r.d with
 | i0 ks ds =>
  rw [hd] at hi e
  obtain ⟨d,e3,rfl⟩:=map_some e
  cases hi with
  | i0 ho hp hl hs =>
   rcases EY (y:=n) hs with ⟨z,_⟩ | ⟨v,d',z1,z2,z3⟩
   .rw [e3] at z;cases z
   .rw [e3] at z1
    cases z1
    exact ⟨_,v,rfl,.inl ⟨_,.inr n,.inl hp,rfl,by rw [ER,z2]⟩,q _ _ (s1.trans s2) z3⟩
 | bw ks ds =>
  rw [hd] at hi e
  obtain ⟨d,e3,rfl⟩:=map_some e
  cases hi with
  | bw ho hp hl hs =>
   rcases EY (y:=n) hs with ⟨z,_⟩ | ⟨v,d',z1,z2,z3⟩
   .rw [e3] at z;cases z
   .rw [e3] at z1
    cases z1
    exact ⟨_,v,rfl,.inl ⟨_,.inr n,(.inr ⟨_,hp⟩:Rd _ _ _),rfl,by rw [ER,z2]⟩,q _ _ (s1.trans s2) z3⟩
 | _=>rw [hd] at e;cases e
noncomputable def gM(neg:Bool)(fk fd:En->Option Sl):En->Option Sl:=λenv=>(BG (fk env)).bind λk=>(fd env).bind λr=>match r.d with
 | .i0 ks ds=>some (.sh (.bl (neg != (iQ ks ds k).isSome)))
 | .bw ks ds=>some (.sh (.bl (neg != (iQ ks ds k).isSome)))
 | _=>none
theorem b2p{O:Addr->Prop}{H:Hp}{vd:V}{ks:List Str}{ds:List D}{K:aK}(hi:Is K O H vd (.i0 ks ds))(n:Str):∃p ov,vd=.ref p/\my H p (.str n) ov/\ov.isSome=(iQ ks ds n).isSome:=by
 cases hi with
 | i0 ho hp hl hs =>
  refine ⟨_,_,rfl,.inl ⟨_,.inr n,.inl hp,rfl,rfl⟩,?_⟩
  rw [ER]
  rcases EY (y:=n) hs with ⟨z1,z2⟩ | ⟨v,d',z1,z2,z3⟩<;>rw [z1,z2]<;>rfl
theorem b0s{O:Addr->Prop}{H:Hp}{vd:V}{ks:List Str}{ds:List D}{K:aK}(hi:Is K O H vd (.bw ks ds))(n:Str):∃p ov,vd=.ref p/\my H p (.str n) ov/\ov.isSome=(iQ ks ds n).isSome:=by
 cases hi with
 | bw ho hp hl hs =>
  refine ⟨_,_,rfl,.inl ⟨_,.inr n,(.inr ⟨_,hp⟩:Rd _ _ _),rfl,rfl⟩,?_⟩
  rw [ER]
  rcases EY (y:=n) hs with ⟨z1,z2⟩ | ⟨v,d',z1,z2,z3⟩<;>rw [z1,z2]<;>rfl
end
end DL
namespace DL
open PySem PySem.Spec PyProof.Rows L2
section
variable {X:Cx}{N:List Str}{sc:Scope}{k:Nat}{full:Bool}{e a b:Expr}{fa fb:En->Option Sl}{pos p1 p2 p:Pos}
theorem YU{neg:Bool}{op:CmpOp}{td:TE->TE->TE}(hc:∀ta tb,PE X a ta->PE X b tb->PC X op a b (td ta tb))(hr:∀ta tb σ H Q,td ta tb σ H Q=(ta σ H λy H1=>tb σ H1 λx H2=>∃p o,x=.ref p/\my H2 p y o/\Q (.bl (neg != o.isSome)) H2))(ha:EV X a fa)(hb:EV X b fb)(hm:behindInMarks op b=false):
  TV X (.Compare a [op] [b] pos) (bT (gM neg fa fb)):=by
 obtain ⟨ta,pa,ka⟩:=ha
 obtain ⟨tb,pb,kb⟩:=hb
 refine ⟨_,Yq (hc ta tb pa pb) hm,λO B σ H env c Q R e q=>?_⟩
 have e:=E8 e
 obtain ⟨n,e1,e⟩:=bind_some e
 obtain ⟨r,e0,e⟩:=bind_some e
 show td ta tb σ H _
 rw [hr]
 refine ka O B σ H env _ _ R (JK e1) λvk H1 s1 r1=>kb O B σ H1 env _ _ (R.grow s1) e0 λvd H2 s2 r2=>?_
 have h2:vk=.str n:=oJ r1
 subst h2
 have hi:=r2.is λq=>(R.grow s1).oo
 cases hd:r.d with
 | i0 ks ds =>
  rw [hd] at hi e
  cases e
  obtain ⟨p,ov,rfl,g,eo⟩:=b2p hi n
  exact ⟨p,ov,rfl,g,_,by rw [eo],q _ (s1.trans s2)⟩
 | bw ks ds =>
  rw [hd] at hi e
  cases e
  obtain ⟨p,ov,rfl,g,eo⟩:=b0s hi n
  exact ⟨p,ov,rfl,g,_,by rw [eo],q _ (s1.trans s2)⟩
 | _=>rw [hd] at e;cases e
theorem Fx.BZ(h:Fx X N sc k full)(ha:EV X a fa)(hb:EV X b fb)(hm:behindInMarks .In b=false:=by rfl):TV X (.Compare a [.In] [b] pos) (bT (gM false fa fb)):=
 YU (neg:=false) (td:=B0) (λta tb pa pb=>b7N (Jh h.room) pa pb) (λta tb σ H Q=>by unfold B0;simp only [Bool.false_bne]) ha hb hm
theorem Fx.oQ(h:Fx X N sc k full)(ha:EV X a fa)(hb:EV X b fb)(hm:behindInMarks .NotIn b=false:=by rfl):TV X (.Compare a [.NotIn] [b] pos) (bT (gM true fa fb)):=
 YU (neg:=true) (td:=JH) (λta tb pa pb=>ZJ (Jh h.room) pa pb) (λta tb σ H Q=>by unfold JH;simp only [Bool.true_bne]) ha hb hm
theorem Fx.NR(h:Fx X N sc k full)(i:Nat){x:Str}(ha:EV X e fa)(hb:EV X b fb)(hN:N[i]?=some x:=by rfl)(hv:gm sc x:=by first | exact cK rfl | exact bL (cK rfl) | exact bL (bL rfl))(hd:(x==("__debug__":Str))=false:=by rfl)(bM:(x==("__classdict__":Str))=false:=by rfl)
  (hs:swapsWith e (some (.Subscript (.Name x p1) b p2)) pos.line X.env=pure false:=by rfl):SV X (.Assign [.Subscript (.Name x p1) b p2] e pos) (DN i fa fb):=b4R ha hb (Jh h.room) (h.ix hN) (h.oE hv) hd bM hs
theorem Fx.FV(h:Fx X N sc k full)(ha:EV X a fa)(hb:EV X b fb)(hs:A8 b:=by intro _ _;rfl):EV X (.Subscript a b pos) (D1 fa fb):=b52 ha hb (Jh h.room) hs
end
end DL
namespace DL
open PySem PySem.Spec PyProof.Rows L2
section
variable {K:aK}{O O' L:Addr->Prop}{H:Hp}
end
section
variable {X:Cx}{e o:Expr}{es:List Expr}{f m:Str}{pos apos p:Pos}{fo:En->Option Sl}{fs:En->Option (List D)}
end
section
variable {P:Program}{w:World}{K:aK}{mg:Str->Option Value}{base:Heap}
end
section
variable {X:Cx}{N:List Str}{sc:Scope}{k j n:Nat}{full:Bool}{e o:Expr}{es:List Expr}{m c f:Str}{pos p apos pos' p1:Pos}{fo fe:En->Option Sl}{fs:En->Option (List D)}
end
end DL
namespace DL
open PySem L2
section
variable {env:En}{Q:Sl->Prop}{fo fk fd:En->Option Sl}{fa:En->Option (List D)}
theorem b6Y{cs:List Str}{f:Str}:Wo (qV cs f fo env) Q↔Wo (fo env) λr=>Wo (HZ cs f r.d) λd=>Q (.sh d):=by
 unfold qV
 rw [a0k]
 exact jf λr=>a1p
theorem b3L{m:Str}{n:Nat}{tab:fj}:Wo (pK m n tab fo fa env) Q↔Wo (fo env) λr=>Wo (fa env) λas=>Wo (wG m n tab r.d as) Q:=by
 unfold pK
 rw [a0k]
 exact jf λr=>a0k
theorem b9f{c:Str}{n:Nat}{ns:List Str}{ψ:List D->Option (List D)}:Wo (iH c n ns ψ fa env) Q↔Wo (fa env) λas=>as.length=n/\Wo (ψ as) λds=>Q (.sh (.obj c ns ds)):=by
 unfold iH
 rw [a0k]
 refine jf λas=>?_
 by_cases h:as.length=n
 .rw [if_pos h,a1p];exact ⟨λz=>⟨h,z⟩,λz=>z.2⟩
 .rw [if_neg h];exact ⟨λz=>(Wo_none.mp z).elim,λz=>(h z.1).elim⟩
theorem b6X{tab:List (Str×Bool)}:Wo (PY tab fo env) Q↔Wo (fo env) λr=>Wo (G' tab r.d) Q:=a0k
theorem b9d:Wo (PX env) Q↔Q (.tw [] []):=a0e
def Ks(d:D)(k:Str)(Q:Sl->Prop):Prop:=match d with
 | .i0 ks ds=>Wo (iQ ks ds k) λd=>Q (.sh d)
 | .bw ks ds=>Wo (iQ ks ds k) λd=>Q (.sh d)
 | _=>False
theorem tgQ_d{ks:List Str}{ds:List D}{k:Str}:Ks (.i0 ks ds) k Q↔Wo (iQ ks ds k) λd=>Q (.sh d):=hU
theorem tgQ_f{ks:List Str}{ds:List D}{k:Str}:Ks (.bw ks ds) k Q↔Wo (iQ ks ds k) λd=>Q (.sh d):=hU
theorem b9j{o:Option Sl}{Q:Str->Prop}:Wo (BG o) Q↔∃n,o=some (.sh (.str n))/\Q n:=by
 constructor
 .rintro ⟨n,e,q⟩
  exact ⟨n,JK e,q⟩
 .rintro ⟨n,rfl,q⟩
  exact ⟨n,rfl,q⟩
theorem Mr{g:En->Option Sl}{Q:Str->Prop}:Wo (BG (g env)) Q↔Wo (g env) λr=>∃n,r=.sh (.str n)/\Q n:=by
 rw [b9j]
 constructor
 .rintro ⟨n,e,q⟩;exact ⟨_,e,n,rfl,q⟩
 .rintro ⟨r,e,n,rfl,q⟩;exact ⟨n,e,q⟩
theorem XF:Wo (D1 fd fk env) Q↔Wo (fd env) λr=>Wo (fk env) λs=>∃k,s=.sh (.str k)/\Ks r.d k Q:=by
 unfold D1
 rw [a0k]
 refine jf λr=>?_
 rw [a0k,Mr]
 refine jf λs=>?_
 refine exists_congr λk=>and_congr_right λ_=>?_
 cases r.d<;>simp [Ks,Wo_none,a1p]
def Kr(neg:Bool)(d:D)(k:Str)(Q:Sl->Prop):Prop:=match d with
 | .i0 ks ds=>Q (.sh (.bl (neg != (iQ ks ds k).isSome)))
 | .bw ks ds=>Q (.sh (.bl (neg != (iQ ks ds k).isSome)))
 | _=>False
theorem tiQ_d{neg:Bool}{ks:List Str}{ds:List D}{k:Str}:Kr neg (.i0 ks ds) k Q↔Q (.sh (.bl (neg != (iQ ks ds k).isSome))):=hU
theorem tiQ_f{neg:Bool}{ks:List Str}{ds:List D}{k:Str}:Kr neg (.bw ks ds) k Q↔Q (.sh (.bl (neg != (iQ ks ds k).isSome))):=hU
theorem Yu{neg:Bool}:Wo (gM neg fk fd env) Q↔Wo (fk env) λs=>∃k,s=.sh (.str k)/\Wo (fd env) λr=>Kr neg r.d k Q:=by
 unfold gM
 rw [a0k,Mr]
 refine jf λs=>?_
 refine exists_congr λk=>and_congr_right λ_=>?_
 rw [a0k]
 refine jf λr=>?_
 cases r.d<;>simp [Kr,Wo_none,a0e]
theorem b81{i:Nat}{f g:En->Option Sl}{ks:List Str}{ds:List D}{Q:Fl×En->Prop}(he:env[i]?=some (.tw ks ds)):Wo (DN i f g env) Q↔Wo (f env) λr=>Wo (g env) λs=>∃k,s=.sh (.str k)/\ks.length<16777216/\Q (.nx,env.set i (.tw (yG ks k) (uK ks ds k r.d))):=by
 unfold DN
 rw [he]
 dsimp only
 rw [a0k]
 refine jf λr=>?_
 rw [a0k,Mr]
 refine jf λs=>?_
 refine exists_congr λk=>and_congr_right λ_=>?_
 by_cases h:ks.length<16777216
 .rw [if_pos h,a0e];exact ⟨λz=>⟨h,z⟩,λz=>z.2⟩
 .rw [if_neg h];exact ⟨λz=>(Wo_none.mp z).elim,λz=>(h z.1).elim⟩
theorem Sl_tw{ks:List Str}{ds:List D}:(Sl.tw ks ds).d=.i0 ks ds:=rfl
end
end DL
namespace DL
open PySem PySem.Spec PyProof.Rows L2
def DG(X:Cx)(es:List Expr)(f:En->Option (List D×En)):Prop:=
 ∃t:TA,PA X es t/\∀(O:Addr->Prop) (B:Hp) (σ:L2.St) (H:Hp) (env:En) (ds:List D) (ag:En) (Q:List V->Hp->Prop),Rel X.K O B σ H env->f env=some (ds,ag) ->
  (∀vs H',Rel X.K O B σ H' ag->Gd σ env H σ ag H'->aQ X.K (OO O σ ag) H' vs ds->Q vs H')->t σ H Q
def Km(X:Cx)(e:Expr)(f:En->Option (D×En)):Prop:=
 ∃t:TE,PE X e t/\∀(O:Addr->Prop) (B:Hp) (σ:L2.St) (H:Hp) (env:En) (d:D) (ag:En) (Q:VK),Rel X.K O B σ H env->f env=some (d,ag) ->
  (∀v H',Rel X.K O B σ H' ag->Gd σ env H σ ag H'->Is X.K (OO O σ ag) H' v d->Q v H')->t σ H Q
noncomputable def tU(i:Nat)(env:En):Option (D×En):=match env[i]? with
 | some (.ow ds)=>(ds[ds.length-1]?).map λd=>(d,env.set i (.ow ds.dropLast))
 | _=>none
noncomputable def ES(i:Nat)(fs:En->Option (List D)):En->Option (List D×En):=λenv=>(tU i env).bind λp=>(fs p.2).map λrs=>(p.1::rs,p.2)
noncomputable def L6(f:En->Option Sl)(g:En->Option (List D×En)):En->Option (List D×En):=λenv=>(f env).bind λr=>(g env).map λp=>(r.d::p.1,p.2)
noncomputable def LU(g:En->Option (List D×En)):En->Option (D×En):=λenv=>(g env).bind λp=>if p.1.length<=16777216 then some (.tup p.1,p.2) else none
noncomputable def Jv(n:Nat)(φ:List D->Option Sl)(g:En->Option (List D×En)):En->Option (D×En):=λenv=>(g env).bind λp=>if p.1.length=n then (φ p.1).map λr=>(r.d,p.2) else none
noncomputable def Dh(i:Nat)(g:En->Option (D×En)):SF:=λenv=>match env[i]? with
 | some (.ow _)=>(g env).bind λp=>match p.2[i]? with
  | some (.ow ds)=>if ds.length<16777216 then some (.nx,p.2.set i (.ow (ds++[p.1]))) else none
  | _=>none
 | _=>none
theorem Gd.Vz{K:aK}{O:Addr->Prop}{σ aG:L2.St}{env ag:En}{H H':Hp}(g:Gd σ env H aG ag H'){v:V}{d:D}(h:Is K (OO O σ env) H v d):Is K (OO O aG ag) H' v d:=by
 cases g.G9 (.cons h .nil) with
 | cons h _=>exact h
section
variable {X:Cx}{e:Expr}{es:List Expr}{pos p1 p2 au p:Pos}{fs:En->Option (List D)}{fe:En->Option Sl}{g:En->Option (List D×En)}
theorem b6m{i:Nat}{x:Str}(hb:AV X es fs)(hN:X.N[i]?=some x)(hv:gm X.env.scope x)(hd:(x==("__debug__":Str))=false:=by decide)
  (bM:(x==("__classdict__":Str))=false:=by decide)
  (bB:attributeBase (.Name x p1) "pop" X.env (eval (.Name x p1) X.env)=eval (.Name x p1) X.env:=by rfl)
  (bA:(p2.endLine==au.line)=true:=by rfl)
  (hs:starEach (.Call (.Attribute (.Name x p1) "pop" p2) [] [] au::es) X.env=(false,eval (.Call (.Attribute (.Name x p1) "pop" p2) [] [] au) X.env)::starEach es X.env:=by rfl):
  DG X (.Call (.Attribute (.Name x p1) "pop" p2) [] [] au::es) (ES i fs):=by
 obtain ⟨u,pu,ku⟩:=hb
 refine ⟨_,kY (RT Ex Q1 WA X4 (oK hN hv hd bM) bB bA) pu hs,λO B σ H env ds ag Q R e q=>?_⟩
 obtain ⟨⟨d,env1⟩,e1,e2⟩:=bind_some e
 obtain ⟨rs,e3,e4⟩:=map_some e2
 cases e4
 unfold tU at e1
 split at e1
 .rename_i ds he
  obtain ⟨d',e5,e6⟩:=map_some e1
  cases e6
  obtain ⟨l,xs,f1,f2,f3,f4⟩:=R.ow i ds he
  obtain ⟨v,O5,O4⟩:=f4.get e5
  obtain ⟨R',g'⟩:=R.wr he f1 f4.dropLast
  refine ⟨_,f1,.inl ⟨rfl,_,ic.of f3⟩,l,xs,v,rfl,rfl,f3,by rw [f4.length];exact O5,?_⟩
  refine ku O B σ _ _ rs _ R' e3 λvs H2 s2 r2=>q _ H2 (R'.grow s2) (g'.trans (Gd.refl s2)) (.cons ((g'.Vz O4).grow s2) r2)
 .cases e1
theorem b6l(ha:EV X e fe)(hb:DG X es g)(hs:starEach (e::es) X.env=(false,eval e X.env)::starEach es X.env:=by rfl):DG X (e::es) (L6 fe g):=by
 obtain ⟨t,pt,k⟩:=ha
 obtain ⟨u,pu,ku⟩:=hb
 refine ⟨_,kY pt pu hs,λO B σ H env ds ag Q R e q=>?_⟩
 obtain ⟨r,e1,e2⟩:=bind_some e
 obtain ⟨⟨rs,env1⟩,e3,e4⟩:=map_some e2
 cases e4
 refine k O B σ H env r _ R e1 λv H1 s1 r1=>?_
 refine ku O B σ H1 env rs env1 _ (R.grow s1) e3 λvs H2 R2 g2 r2=>q _ H2 R2 (g2.from s1) (.cons (g2.Vz (r1.is λq=>R.oo)) r2)
theorem b8C{x1}(h:DG X es g):Km X (.Tuple es x1 pos) (LU g):=by
 obtain ⟨t,pt,k⟩:=h
 refine ⟨_,Ym pt,λO B σ H env r ag Q R e q=>?_⟩
 obtain ⟨⟨ds,env1⟩,e1,e2⟩:=bind_some e
 obtain ⟨hl,e3⟩:=jg e2
 cases e3
 refine k O B σ H env ds env1 _ R e1 λvs H1 R1 g1 r1=>⟨by rw [r1.length,lr];exact hl,λp hp=>?_⟩
 exact q _ _ (R1.grow (mX hp _)) (g1.trans (Gd.refl (mX hp _))) (Mv (O:=OO O σ env1) (H:=H1) (λ_ z=>R1.oo z) hp r1)
theorem b59{k:Nat}{f:Addr}{fd:FuncData}{ps:List Str}{φ:List D->Option Sl}{x:Str}(F:bD X.prog X.w X.K X.mg X.base jv k f fd ps (qu X.K ps.length φ))(hr:bZ k X.A)(hg:Gl X x)(hm:X.mg x=some (.ref f))(hk:sW X.K (.ref f)=true)(hb:Binds X.K fd ps [])
  (ha:DG X (e::es) g)(eY:(x==("__debug__":Str))=false:=by decide)(he:starEach (e::es) X.env=(false,eval e X.env)::starEach es X.env:=by rfl)(fm:(backTo pos (starEach es X.env)).any (·.1)=false:=by rfl):
  Km X (.Call (.Name x p) (e::es) [] pos) (Jv ps.length φ g):=by
 obtain ⟨t,pt,ka⟩:=ha
 refine ⟨_,SH F hr hg hm hk hb .nil (EI (X:=X)) pt eY he fm,λO B σ H env r ag Q R e q=>?_⟩
 obtain ⟨⟨ds,env1⟩,e1,e2⟩:=bind_some e
 refine ka O B σ H env ds env1 _ R e1 λvs H1 R1 g1 r1=>?_
 obtain ⟨hl,e3⟩:=zC e2
 obtain ⟨r',e4,e5⟩:=map_some e3
 cases e5
 rw [yu]
 exact ⟨OO O σ env1,ds,r',R1.dm,r1,by rw [r1.length];exact hl,e4,λv H2 s2 r2=>q v H2 (R1.grow s2) (g1.trans (Gd.refl s2)) (r2.is λq=>R1.oo)⟩
theorem b4V{i:Nat}{x:Str}{g:En->Option (D×En)}(ha:Km X e g)(hN:X.N[i]?=some x)(hv:gm X.env.scope x)(hd:(x==("__debug__":Str))=false:=by decide)
  (bM:(x==("__classdict__":Str))=false:=by decide)(hs:starEach [e] X.env=[(false,eval e X.env)]:=by rfl)
  (bB:attributeBase (.Name x p1) "append" X.env (eval (.Name x p1) X.env)=eval (.Name x p1) X.env:=by rfl)
  (gE:((backTo au (starEach [e] X.env)).all (λx=>!x.1)&&(backToKw au (keywordEach [] X.env)).all (λx=>x.1.isSome)
   && decide ([e].length+([]:List Keyword).length+(if ([]:List Keyword).isEmpty then 0 else 1)<30))=true:=by rfl)
  (bA:(p2.endLine==au.line)=true:=by rfl)
  (qH:swapsWith (.Call (.Attribute (.Name x p1) "append" p2) [e] [] au) none pos.line X.env=pure false:=by rfl):
  SV X (.Expr (.Call (.Attribute (.Name x p1) "append" p2) [e] [] au) pos) (Dh i g):=by
 obtain ⟨t,pt,k⟩:=ha
 refine ⟨_,zI (L3 Ex QT Ww ZH (oK hN hv hd bM) (kY pt mV hs) bB gE bA hs rfl) qH,λO B σ H env fl ag Dn R e q=>?_⟩
 unfold Dh at e
 split at e
 .rename_i ds0 he
  obtain ⟨⟨d,env1⟩,e1,e2⟩:=bind_some e
  dsimp only at e2
  split at e2
  .rename_i ds VM
   obtain ⟨hl,e3⟩:=jg e2
   cases e3
   obtain ⟨l,xs,f1,f2,f3,f4⟩:=R.ow i ds0 he
   refine ⟨_,f1,.inl ⟨rfl,_,ic.of f3⟩,?_⟩
   refine k O B σ H env d env1 _ R e1 λv H1 R1 g1 r1=>?_
   obtain ⟨l',m7,h1,h2,h3,h4⟩:=R1.ow i ds VM
   rw [f1] at h1
   cases h1
   refine ⟨l,m7,v,rfl,rfl,h3,by rw [h4.length,lr];exact hl,?_⟩
   obtain ⟨R',g'⟩:=R1.wr VM f1 (h4.append (.cons r1 .nil))
   exact q _ _ R' (g1.trans g')
  .cases e2
 .cases e
variable {N:List Str}{sc:Scope}{k j:Nat}{full:Bool}
theorem Fx.Y6(h:Fx X N sc k full)(i:Nat){x:Str}(hb:AV X es fs)(hN:N[i]?=some x:=by rfl)(hv:gm sc x:=by first | exact cK rfl | exact bL (cK rfl) | exact bL (bL rfl))(hd:(x==("__debug__":Str))=false:=by rfl)
  (bM:(x==("__classdict__":Str))=false:=by rfl)
  (bB:attributeBase (.Name x p1) "pop" X.env (eval (.Name x p1) X.env)=eval (.Name x p1) X.env:=by rfl)
  (bA:(p2.endLine==au.line)=true:=by rfl)
  (hs:starEach (.Call (.Attribute (.Name x p1) "pop" p2) [] [] au::es) X.env=(false,eval (.Call (.Attribute (.Name x p1) "pop" p2) [] [] au) X.env)::starEach es X.env:=by rfl):
  DG X (.Call (.Attribute (.Name x p1) "pop" p2) [] [] au::es) (ES i fs):=b6m hb (h.ix hN) (h.oE hv) hd bM bB bA hs
theorem Fx.clP(h:Fx X N sc k full){x:Str}{st:Stmt}{ps:List Str}{φ:List D->Option Sl}(O:Oz X.prog X.w X.K X.mg X.base x st ps j φ)(ha:DG X (e::es) g)(hj:j<=k:=by decide)(hg:sc.names.lookup x=some .globalImplicit:=by rfl)(eY:(x==("__debug__":Str))=false:=by decide)(he:starEach (e::es) X.env=(false,eval e X.env)::starEach es X.env:=by rfl)(fm:(backTo pos (starEach es X.env)).any (·.1)=false:=by rfl):
  Km X (.Call (.Name x p) (e::es) [] pos) (Jv ps.length φ g):=by
 obtain ⟨f,fd,D',F⟩:=O
 exact b59 F (h.room.mono hj) (h.g hg) D'.m D'.fn.kp D'.bd ha eY he fm
theorem Fx.Jp(h:Fx X N sc k full)(i:Nat){x:Str}{g:En->Option (D×En)}(ha:Km X e g)(hN:N[i]?=some x:=by rfl)(hv:gm sc x:=by first | exact cK rfl | exact bL (cK rfl) | exact bL (bL rfl))(hd:(x==("__debug__":Str))=false:=by rfl)
  (bM:(x==("__classdict__":Str))=false:=by rfl)(hs:starEach [e] X.env=[(false,eval e X.env)]:=by rfl)
  (bB:attributeBase (.Name x p1) "append" X.env (eval (.Name x p1) X.env)=eval (.Name x p1) X.env:=by rfl)
  (gE:((backTo au (starEach [e] X.env)).all (λx=>!x.1)&&(backToKw au (keywordEach [] X.env)).all (λx=>x.1.isSome)
   && decide ([e].length+([]:List Keyword).length+(if ([]:List Keyword).isEmpty then 0 else 1)<30))=true:=by rfl)
  (bA:(p2.endLine==au.line)=true:=by rfl)
  (qH:swapsWith (.Call (.Attribute (.Name x p1) "append" p2) [e] [] au) none pos.line X.env=pure false:=by rfl):
  SV X (.Expr (.Call (.Attribute (.Name x p1) "append" p2) [e] [] au) pos) (Dh i g):=b4V ha (h.ix hN) (h.oE hv) hd bM hs bB gE bA qH
end
end DL
namespace DL
open PySem PySem.Spec PyProof.Rows L2
section
variable {X:Cx}
noncomputable def F9:D->Option Str
 | .int i=>if i.natAbs.log2<1920 then some (toString i) else none
 | .str y=>some y
 | _=>none
noncomputable def Xd(f:En->Option Sl):En->Option Sl:=λenv=>(f env).bind λr=>(F9 r.d).map λy=>.sh (.str y)
noncomputable def wK(sep:Str)(ls:List Str):Nat:=ls.foldl (λa x=>a+x.length+sep.length) 0
noncomputable def mU(sep:Str):List Str->Str
 | [y]=>y
 | ls=>Builtin.Str.glued sep ls
theorem Xp{K:aK}{O:Addr->Prop}{H:Hp}:∀{xs:List V} {ds:List D} {ls:List Str},aQ K O H xs ds->rm ds=some ls->xs=ls.map V.str
 | _,_,_,.nil,e=>by cases e;rfl
 | _,_,_,.cons (d:=d) h t,e=>by
  cases d with
  | str y =>
   obtain ⟨r,e1,rfl⟩:=map_some (show (rm _).map (y::·)=some _ from e)
   obtain rfl:=oJ h
   rw [Xp t e1]
   rfl
  | _=>cases e
theorem Xs:∀{ls:List Str} {us:List Value},aL (ls.map V.str) us->∃l:List (Str×Tok),us=strValues l/\l.map (·.1)=ls
 | [],us,h=>by cases h;exact ⟨[],rfl,rfl⟩
 | y::ls,_,.cons h t=>by
  obtain ⟨k,rfl⟩:=h
  obtain ⟨l,rfl,rfl⟩:=Xs t
  exact ⟨(y,k)::l,rfl,rfl⟩
theorem b5u:Ur X "str.join" (λx xs H Q=>∃z a ls,x=.str z/\xs=[.ref a]/\ic X.K H a (ls.map V.str)/\wK z ls<=sizeLine/\(mU z ls).length<=sizeLine/\Q (.str (mU z ls)) H):=by
 intro pins s σ H x xs v us Q I r rs h
 obtain ⟨z,a,ls,rfl,rfl,hq,hl,hj,q⟩:=h
 obtain ⟨t,rfl⟩:=r
 obtain ⟨u',rfl,rfl⟩:=vals1 rs
 obtain ⟨aw,vv,pl,_⟩:=I.list hq
 obtain ⟨l,hu,rfl⟩:=Xs vv
 have hu':aw=strValues l:=hu
 subst hu'
 refine D3 F.slot_str_join (typeIs_str _ _ _) F.entry_str_join (F.args_str_join_2 _ _) (meets_str_join_list z t a l ?_) ⟨pl.isList,?_⟩
 .unfold Builtin.Str.tooLong
  rw [List.foldl_toArray']
  .exact decide_eq_false (Nat.not_lt.mpr hl)
  .simp
 .cases l with
  | nil=>exact ⟨hj,.str _,H,I.tok _,⟨_,rfl⟩,q⟩
  | cons p l=>cases l with
   | nil=>exact ⟨.str _,H,I,⟨_,rfl⟩,q⟩
   | cons p' l=>exact ⟨hj,.str _,H,I.tok _,⟨_,rfl⟩,q⟩
noncomputable def CH(fo:En->Option Sl)(fe:En->Option (Bool×List D)):En->Option Sl:=λenv=>(mJ (fo env)).bind λz=>(fe env).bind λx=>if x.1=true then (rm x.2).bind λls=>if wK z ls<=16777216/\(mU z ls).length<=16777216 then some (.sh (.str (mU z ls))) else none else none
theorem W2{o e:Expr}{fo:En->Option Sl}{fe:En->Option (Bool×List D)}{apos au:Pos}(ho:EV X o fo)(he:BV X e fe)(bB:attributeBase o "join" X.env (eval o X.env)=eval o X.env:=by rfl)
  (gE:((backTo au (starEach [e] X.env)).all (λx=>!x.1)&&(backToKw au (keywordEach [] X.env)).all (λx=>x.1.isSome)&&decide ([e].length+([]:List Keyword).length+(if ([]:List Keyword).isEmpty then 0 else 1)<30))=true:=by rfl)
  (bA:(apos.endLine==au.line)=true:=by rfl)(hs:starEach [e] X.env=[(false,eval e X.env)]:=by rfl):EV X (.Call (.Attribute o "join" apos) [e] [] au) (CH fo fe):=by
 obtain ⟨to,po,ko⟩:=ho
 obtain ⟨te,pe,ke⟩:=he
 refine ⟨_,L3 (T:="str") F.plainAttrs_str F.slot_str_join F.type_str_join b5u po (kY pe mV hs) bB gE bA hs rfl,λO B σ H env r Q R e q=>?_⟩
 obtain ⟨z,e1,e2⟩:=bind_some e
 obtain ⟨⟨kk,ds⟩,e3,e4⟩:=bind_some e2
 obtain ⟨hk,e5⟩:=zC e4
 obtain ⟨ls,e6,e7⟩:=bind_some e5
 obtain ⟨⟨hl,hj⟩,rfl⟩:=jg e7
 refine ko O B σ H env _ _ R (Dw e1) λv H1 s1 r1=>?_
 obtain rfl:=oJ r1
 refine ⟨rfl,?_⟩
 refine ke O B σ H1 env _ _ _ (R.grow s1) e3 λpp xs H2 s2 hq hx=>?_
 cases (show kk=true from hk)
 refine ⟨z,pp,ls,rfl,rfl,by rw [<-Xp hx e6];exact hq,by rw [lr];exact hl,by rw [lr];exact hj,q _ H2 (s1.trans s2) (Is.str _)⟩
noncomputable def tS(i:Nat):SF:=λenv=>match env[i]? with
 | some (.ow ds)=>some (.nx,env.set i (.ow ds.reverse))
 | _=>none
theorem aQ.rev{K:aK}{O:Addr->Prop}{H:Hp}:∀{v:List V} {d:List D},aQ K O H v d->aQ K O H v.reverse d.reverse
 | _,_,.nil=>.nil
 | _,_,.cons h t=>by
  rw [Lk,Lk]
  exact (aQ.rev t).append (.cons h .nil)
theorem b7i{i:Nat}{x:Str}{p1 p2 au pos:Pos}(hN:X.N[i]?=some x)(hv:gm X.env.scope x)(hd:(x==("__debug__":Str))=false)(bM:(x==("__classdict__":Str))=false)
  (bB:attributeBase (.Name x p1) "reverse" X.env (eval (.Name x p1) X.env)=eval (.Name x p1) X.env)(bA:(p2.endLine==au.line)=true)
  (qH:swapsWith (.Call (.Attribute (.Name x p1) "reverse" p2) [] [] au) none pos.line X.env=pure false):SV X (.Expr (.Call (.Attribute (.Name x p1) "reverse" p2) [] [] au) pos) (tS i):=by
 refine ⟨_,zI (RT Ex WD PySem.F.type_list_reverse a9X (oK hN hv hd bM) bB bA) qH,λO B σ H env fl ag D R e q=>?_⟩
 unfold tS at e
 split at e
 .rename_i ds h
  cases e
  obtain ⟨l,xs,f1,f2,f3,f4⟩:=R.ow i ds h
  refine ⟨_,f1,.inl ⟨rfl,_,ic.of f3⟩,⟨l,xs,rfl,rfl,f3,?_⟩⟩
  obtain ⟨R',g'⟩:=R.wr h f1 f4.rev
  exact q _ _ R' g'
 .cases e
theorem Fx.rev{N:List Str}{sc:Scope}{k:Nat}{full:Bool}{p1 p2 au pos:Pos}(h:Fx X N sc k full)(i:Nat){x:Str}(hN:N[i]?=some x:=by rfl)(hv:gm sc x:=by first | exact cK rfl | exact bL (cK rfl) | exact bL (bL rfl))(hd:(x==("__debug__":Str))=false:=by rfl)
  (bM:(x==("__classdict__":Str))=false:=by rfl)(bB:attributeBase (.Name x p1) "reverse" X.env (eval (.Name x p1) X.env)=eval (.Name x p1) X.env:=by rfl)(bA:(p2.endLine==au.line)=true:=by rfl)
  (qH:swapsWith (.Call (.Attribute (.Name x p1) "reverse" p2) [] [] au) none pos.line X.env=pure false:=by rfl):
  SV X (.Expr (.Call (.Attribute (.Name x p1) "reverse" p2) [] [] au) pos) (tS i):=b7i (h.ix hN) (h.oE hv) hd bM bB bA qH
end
end DL
namespace DL
open PySem PySem.Spec PyProof.Rows L2
def Ya(K:aK)(O:Addr->Prop)(B:Hp)(σ:L2.St)(H:Hp)(env:En)(D:Ends)(ag:En):Prop:=∀aG H',Rel K O B aG H' ag->Gd σ env H aG ag H'->aG[0]?=σ[0]?->D.nx aG H'
def zO(X:Cx)(st:Stmt)(F:SF):Prop:=
 ∃t:TS,PS X st t/\∀(O:Addr->Prop) (B:Hp) (σ:L2.St) (H:Hp) (env:En) (ag:En) (D:Ends),Rel X.K O B σ H env->F env=some (.nx,ag)->Ya X.K O B σ H env D ag->t D σ H
section
variable {X:Cx}{N N':List Str}{sc c7:Scope}{k:Nat}{full:Bool}{elt iter tg:Expr}{ifs:List Expr}{pos:Pos}{fi:En->Option (List D)}{caps:List Nat}{nt:Nat}{g:GF}{fc:En->Option Bool}{fe:En->Option Sl}
theorem Y0{i:Nat}{x:Str}{pos' w5:Pos}(h:Fx X N sc k full)(C:dO N sc N' caps nt c7)(hi:IV X tg iter fi)
  (hb:∀X':Cx,X'.prog=X.prog->X'.w=X.w->X'.K=X.K->X'.mg=X.mg->X'.base=X.base->Fx X' N' (rl c7 sc) k false->GV X' tg g/\FE X' ifs fc/\EV X' elt fe)
  (KR:i≠0:=by decide)(hN:N[i]?=some x:=by rfl)(hv:Loc sc x:=by first | exact cK rfl | exact bL rfl)(hf:full=true\/sc.names.lookup x=some .local:=by first | exact cK rfl | exact bL rfl)(h1:(sc.names.lookup x==some .local)=true:=by rfl)(h2:(pos'.line==pos.line)=true:=by rfl)(h3:(c7.names.any λ(n,k)=>n==x&&(k==.local||k==.cell))=false:=by rfl)
  (zc:∀x,foldedSetIterable iter X.env x=pure x:=by intro _;rfl):zO X (.Assign [.Name x pos'] (.ListComp elt [⟨tg,iter,ifs,0⟩] c7 pos) w5) (dM i (gS fi caps nt g fc fe)):=by
 obtain ⟨wi,pi,ki⟩:=hi
 refine ⟨λD σ H=>∃O B env ag,Rel X.K O B σ H env/\dM i (gS fi caps nt g fc fe) env=some (.nx,ag)/\Ya X.K O B σ H env D ag,?_,λO B σ H env ag D R e q=>⟨O,B,env,ag,R,e,q⟩⟩
 rintro pins s σ H D I ⟨O,B,env,ag,R,e,q⟩
 obtain ⟨r,e1,e2⟩:=bind_some e
 obtain ⟨hl,e3⟩:=jg e2
 cases e3
 have hs:swapsWith (.ListComp elt [⟨tg,iter,ifs,0⟩] c7 pos) (some (.Name x pos')) w5.line X.env=pure true:=by
  have hk:X.env.blockKind=.function:=by unfold Env.blockKind;rw [I.ok.kind];rfl
  have Pj:X.env.kindOf x=sc.names.lookup x:=by unfold Iy;rw [h.sc]
  unfold swapsWith
  dsimp only
  rw [hk,Pj,h1,show (pos'.line==(Expr.ListComp elt [⟨tg,iter,ifs,0⟩] c7 pos).pos.line)=true from h2,h3]
  rfl
 rw [exec_Assign_Name_used _ _ _ _ hs]
 refine aF (Lb (aF ?_))
 show wpAny _ _ (comprehension _ c7 X.env _ (newList []) _ _ (some (assign (.Name x pos') X.env)) >>= λ_=>pure ()) _ _ _
 refine aF (Tn h C pi ki hb zc I R e1 (use:=some (assign (.Name x pos') X.env)) λC0 p H' s' ⟨m,hn⟩ p5 hI sm rr=>?_)
 have I':Inv X pins σ H' s':=hI s'.heap (Qu _ _)
 refine Qz (TL (v:=.ref p) I' h.xJ (h.ix hN) (h.loc hv) rfl (λs2 I2 ⟨a,sb,ha⟩=>?_) (h.DH hf))
 have Pu:C0≠a:=λz=>by
  rcases ha with ha | ha
  .exact p5.2.1 (z.trans ha)
  .exact p5.2.2.2.2.1 x a ha z.symm
 obtain ⟨o,es,ep,ho,rest⟩:=hn
 refine ⟨m,⟨o,es,ep,(sb.2 C0 Pu).trans ho,rest⟩,λh' N7=>?_⟩
 refine bG (bG ?_)
 have I3:Inv X pins (σ.set i (some (.ref p))) H' { s2 with heap:=h' }:=I2.turned (t':=s2.toks) (it:=C0) (λb o hb e=>(N7.2 b hb).trans e) p5.1 p5.2.1 p5.2.2.2.1 p5.2.2.2.2.1 p5.2.2.2.2.2
 obtain ⟨R',g'⟩:=R.set (r:=.sh r.d) sm (rr.is λq=>R.oo) hl
 exact ⟨_,H',I3,q _ H' R' g' (jo KR)⟩
theorem Mq{e:Expr}{fa:En->Option Sl}(he:EV X e fa)(hs:swapsWith e none pos.line X.env=pure false:=by rfl):zO X (.Expr e pos) (rj fa):=by
 obtain ⟨t,p,k⟩:=he
 refine ⟨_,zI p hs,λO B σ H env ag D R e q=>?_⟩
 obtain ⟨r,e1,e2⟩:=map_some e
 cases e2
 exact k O B σ H env r _ R e1 λv H1 s1 r1=>q σ H1 (R.grow s1) (Gd.refl s1) rfl
end
section
variable {K:aK}{O:Addr->Prop}{B H H':Hp}{σ:L2.St}{env:En}{p C dx:Addr}
theorem Rel.rebase(R:Rel K O B σ H env)(no:∀(i:Nat) s,env[i]?=some s->¬s.own):Rel K O H σ H env:=
 ⟨az.refl _,R.p8.grow R.same,R.len,R.sh,λi es e=>(no i _ e trivial).elim,λi es e=>(no i _ e trivial).elim,λi ks es e=>(no i _ e trivial).elim,R.sep⟩
theorem Rel.NO{fs:List (Str×V)}(R:Rel K O H σ H env)(no:∀(i:Nat) s,env[i]?=some s->¬s.own)(op:O p)(hp:H p=some (.ins C dx fs))(kp:∀q u,H q=some u->q≠p->H' q=some u)(An:H' p≠none):Rel K O H' σ H' env:=by
 refine ⟨az.refl _,⟨λq hq=>?_,λc' P e'=>?_⟩,R.len,λi d e=>?_,λi es e=>(no i _ e trivial).elim,λi es e=>(no i _ e trivial).elim,λi ks es e=>(no i _ e trivial).elim,λi j es fs q e1 _ _ _ o _=>(no i _ e1 o).elim⟩
 .by_cases z:q=p
  .rw [z];exact An
  .cases hz:H q with
   | none=>exact absurd hz (R.p8.1 q hq)
   | some u=>rw [kp _ _ hz z];exact λz=>nomatch z
 .have e3:=R.p8.2 c' P e'
  exact kp _ _ e3 λz=>by rw [z,hp] at e3;cases e3
 .obtain ⟨w,f1,f2⟩:=R.sh i d e
  exact ⟨w,f1,f2.map (λ_ _ z=>z) λq u e nq=>kp q u e λz=>nq (by rw [z];exact .inl op)⟩
end
noncomputable abbrev IF:=En->List Str->List D->Option (List Str×List D)
def pU(X:Cx)(hJ:List Stmt)(C:Addr)(F:IF):Prop:=
 ∃t:TS,oz X hJ t/\∀(O:Addr->Prop) (σ:L2.St) (H:Hp) (env:En) (p dx:Addr) (ns:List Str) (us:List V) (ds:List D) (iX:List Str) (ds':List D) (Dn:Ends),Rel X.K O H σ H env->(∀(i:Nat) s,env[i]?=some s->¬s.own)->O p->σ[0]?=some (some (V.ref p))->H p=some (.ins C dx (ns.zip us))->ns.length=us.length->aQ X.K O H us ds->F env ns ds=some (iX,ds') ->
  (∀(aG:L2.St) (H':Hp) (qt:List V),(∀q u,H q=some u->q≠p->H' q=some u)->H' p=some (.ins C dx (iX.zip qt))->iX.length=qt.length->aQ X.K O H' qt ds'->Dn.nx aG H')->t Dn σ H
noncomputable def AW:En->Bool
 | []=>true
 | .no::r=>AW r
 | .sh _::r=>AW r
 | _=>false
theorem Fd:∀{env:En},AW env=true->∀(i:Nat) s,env[i]?=some s->¬s.own
 | [],_,i,s,e=>by simp at e
 | .no::r,h,0,s,e=>by cases e;exact id
 | .no::r,h,i+1,s,e=>Fd (env:=r) h i s (by simpa using e)
 | .sh _::r,h,0,s,e=>by cases e;exact id
 | .sh _::r,h,i+1,s,e=>Fd (env:=r) h i s (by simpa using e)
 | .ow _::_,h,_,_,_=>by cases h
 | .dw _::_,h,_,_,_=>by cases h
 | .tw _ _::_,h,_,_,_=>by cases h
noncomputable def Aj(G:SF)(F:IF):IF:=λenv ns ds=>match G env with
 | some (.nx,ag)=>if AW ag=true then F ag ns ds else none
 | _=>none
noncomputable def OY(φ:List D->Option Sl)(f:Str)(F:IF):IF:=λenv ns ds=>((ns.zip ds).lookup f).bind λd=>(φ [d]).bind λ_=>F env ns ds
noncomputable def Ji(n:Nat)(BF:List Str)(ψ:List D->Option (List D))(fa:En->Option (List D))(F:IF):IF:=λenv ns _=>if ns=[] then (fa env).bind λas=>if as.length=n then (ψ as).bind λgs=>F env BF gs else none else none
section
variable {X:Cx}{C:Addr}{F:IF}{st:Stmt}{hJ:List Stmt}
theorem Mb:pU X [] C iB:=⟨_,SJ,λO σ H env p dx ns us ds iX ds' Dn R no op hs hp hl hi e q=>by
 cases (show some (ns,ds)=some (iX,ds') from e)
 exact q σ H us (λ_ _ e _=>e) hp hl hi⟩
theorem Ry{G:SF}(h:zO X st G)(hr:pU X hJ C F):pU X (st::hJ) C (Aj G F):=by
 obtain ⟨t,pt,k⟩:=h
 obtain ⟨u,pu,ku⟩:=hr
 refine ⟨_,yJ pt pu,λO σ H env p dx ns us ds iX ds' Dn R no op hs hp hl hi e q=>?_⟩
 unfold Aj at e
 split at e
 .rename_i ag hG
  obtain ⟨nk,e2⟩:=zC e
  refine k O H σ H env ag _ R hG λaG H' R' g' h0=>?_
  have sm:=R'.same
  exact ku O aG H' ag p dx ns us ds iX ds' Dn (R'.rebase (Fd nk)) (Fd nk) op (h0.trans hs) (sm _ _ hp) hl (hi.grow sm) e2 λcF H2 FQ kp=>q cF H2 FQ λq u e ne=>kp q u (sm _ _ e) ne
 .cases e
theorem b8f{e:Expr}{f x:Str}{fe:En->Option Sl}{p1 pos' pos:Pos}(hv:EV X e fe)(hr:pU X hJ C F)(c:nD X.K C)(n:ao X.K C f)
  (hN:X.N[0]?=some x)(eX:gm X.env.scope x)(hd:(x==("__debug__":Str))=false:=by rfl)(bM:(x==("__classdict__":Str))=false:=by rfl)
  (hs:swapsWith e (some (.Attribute (.Name x p1) f pos')) pos.line X.env=pure false:=by rfl):pU X (.Assign [.Attribute (.Name x p1) f pos'] e pos::hJ) C (cI f fe F):=by
 obtain ⟨t,pt,k⟩:=hv
 obtain ⟨u,pu,ku⟩:=hr
 refine ⟨_,yJ (RV (oK hN eX hd bM) pt hs) pu,λO σ H env p dx ns us ds iX ds' Dn R no op hs hp hl hi e q=>?_⟩
 obtain ⟨r,e1,e2⟩:=bind_some e
 split at e2
 .cases e2
 rename_i nk
 rw [not_or] at nk
 refine k O H σ H env r _ R e1 λv H1 s1 r1=>?_
 have iv:=(r1.is λq=>R.oo).less (O':=O) λq z=>.inl z
 refine ⟨.ref p,hs,p,C,dx,ns.zip us,rfl,s1 _ _ hp,c,n,by rw [yr];omega,?_⟩
 rw [Mo nk.1 hl]
 have kp:∀q u,H1 q=some u->q≠p->upd H1 p (.ins C dx ((ns++[f]).zip (us++[v]))) q=some u:=λq u e ne=>by rw [dW ne];exact e
 have mp:∀{w:V} {d:D},Is X.K O H1 w d->Is X.K O (upd H1 p (.ins C dx ((ns++[f]).zip (us++[v])))) w d:=λh=>h.map (λ_ _ z=>z) λq u e nq=>kp q u e λz=>nq (by rw [z];exact op)
 have G0:∀{w:List V} {d:List D},aQ X.K O H1 w d->aQ X.K O (upd H1 p (.ins C dx ((ns++[f]).zip (us++[v])))) w d:=λh=>h.map (λ_ _ z=>z) λq u e nq=>kp q u e λz=>nq (by rw [z];exact op)
 have R1:Rel X.K O H1 σ H1 env:=(R.grow s1).rebase no
 exact ku O σ _ env p dx (ns++[f]) (us++[v]) (ds++[r.d]) iX ds' Dn (R1.NO no op (s1 _ _ hp) kp (by rw [kn];exact λz=>nomatch z)) no op hs kn (by rw [fD,fD,hl];rfl) ((G0 (hi.grow s1)).append (.cons (mp iv) .nil)) e2 λaG H' qt kq An nV mP=>q aG H' qt (λq u e ne=>kq q u (kp q u (s1 _ _ e) ne) ne) An nV mP
theorem G8{x f y:Str}{g:Addr}{fd:FuncData}{ps:List Str}{j:Nat}{φ:List D->Option Sl}{p1 p2 p3 pos au:Pos}(Fn:bD X.prog X.w X.K X.mg X.base jv j g fd ps (qu X.K ps.length φ))(mO:ps.length=1)(Hh:bZ j X.A)(hg:Gl X y)(hm:X.mg y=some (.ref g))(hk:sW X.K (.ref g)=true)(hb:Binds X.K fd ps [])
  (hr:pU X hJ C F)(c:nD X.K C)(n:ao X.K C f)(hN:X.N[0]?=some x)(eX:gm X.env.scope x)(hd:(x==("__debug__":Str))=false:=by rfl)(bM:(x==("__classdict__":Str))=false:=by rfl)
  (Ap:attributeBase (.Name x p1) f X.env (eval (.Name x p1) X.env)=eval (.Name x p1) X.env:=by rfl)
  (eY:(y==("__debug__":Str))=false:=by decide)(he:starEach [.Attribute (.Name x p1) f p2] X.env=[(false,eval (.Attribute (.Name x p1) f p2) X.env)]:=by rfl)
  (hs:swapsWith (.Call (.Name y p3) [.Attribute (.Name x p1) f p2] [] au) none pos.line X.env=pure false:=by rfl):
  pU X (.Expr (.Call (.Name y p3) [.Attribute (.Name x p1) f p2] [] au) pos::hJ) C (OY φ f F):=by
 obtain ⟨u,pu,ku⟩:=hr
 refine ⟨_,yJ (zI (SH Fn Hh hg hm hk hb .nil (EI (X:=X)) (kY (RU (oK hN eX hd bM) Ap) mV he) eY he rfl) hs) pu,λO σ H env p dx ns us ds iX ds' Dn R no op hs hp hl hi e q=>?_⟩
 obtain ⟨d,e1,e2⟩:=bind_some e
 obtain ⟨r,e3,e4⟩:=bind_some e2
 obtain ⟨v,hv,iv⟩:=MI hi e1
 refine ⟨.ref p,hs,p,C,dx,ns.zip us,v,rfl,hp,c,n,hv,?_⟩
 refine (show qu X.K ps.length φ [v] H (λ_ H1=>u Dn σ H1) E0 from ?_)
 refine ⟨O,[d],r,R.p8,.cons iv .nil,by rw [mO];rfl,e3,λw H1 s1 r1=>?_⟩
 exact ku O σ H1 env p dx ns us ds iX ds' Dn ((R.grow s1).rebase no) no op hs (s1 _ _ hp) hl (hi.grow s1) e4 λcF H2 FQ kp=>q cF H2 FQ λq u e ne=>kp q u (s1 _ _ e) ne
structure pV(K:aK)(C0 m:Addr):Prop where
 g:Qr K (.ref C0) "__getattribute__" = some (some (.builtin "type.__getattribute__"))
 r:Wl K C0 (.type "type")=true
 f:Wk K (.ref C0) (.type "type") "__init__" = some (.val (.ref m))
 k:sW K (.ref m)=true
theorem b5k{c:Str}{C0 f:Addr}{fd:FuncData}{ps:List Str}{j:Nat}{sp:Sp}{e:Expr}{es:List Expr}{t:TA}{p apos pos:Pos}{pl:Sem Bool}(b:pV X.K C0 f)(Fn:bD X.prog X.w X.K X.mg X.base jv j f fd ps sp)(hr:bZ j X.A)(hg:Gl X c)(hm:X.mg c=some (.ref C0))(hb:Binds X.K fd ps [])(ha:PA X (e::es) t)
  (eY:(c==("__debug__":Str))=false:=by decide)(qI:starEach (e::es) X.env=(false,eval e X.env)::starEach es X.env:=by rfl)(fm:(backTo pos (starEach es X.env)).any (·.1)=false:=by rfl)
  (ht:eval (.Call (.Attribute (.Name c p) "__init__" apos) (e::es) [] pos) X.env=(eval (.Name c p) X.env >>= λov=>standAt apos.atName >>= λ_=>holding [ov] (getMethod ov "__init__" pl) >>= λz=>callWith pos z.1 z.2 (backTo pos (starEach (e::es) X.env)) (backToKw pos (keywordEach [] X.env))):=by rfl):
  PE X (.Call (.Attribute (.Name c p) "__init__" apos) (e::es) [] pos) (RE sp [] E0 t):=by
 intro pins s σ H Q I h
 refine WO (pl:=pl) (zH I hg hm ?_ eY) ht
 refine PySem.W.method_cls I.kA b.g (PySem.W.cls_value I.kA b.r b.f rfl ?_)
 have I1:Inv X pins σ H { s with toks:=s.toks+1 }:=I.tok _
 refine Ey (first:=[]) (h₀:=X.base) I.ok.mod.vB b.k (bJ (ha pos pins _ σ H _ I1 h) λus s1 ⟨vs,H1,I1,r,q⟩=>⟨I1.kA,?_⟩) qI fm
 exact RX Fn hr hb .nil EI I1 r q
theorem b5I{c x:Str}{C0 f:Addr}{fd:FuncData}{ps:List Str}{j n:Nat}{BF:List Str}{ψ:List D->Option (List D)}{fs:En->Option (List D)}{es:List Expr}{p p1 apos au pos:Pos}{pl:Sem Bool}(b:pV X.K C0 f)(Fn:bD X.prog X.w X.K X.mg X.base jv j f fd ps (DM X.K C n BF ψ))(Hh:bZ j X.A)(hg:Gl X c)(hm:X.mg c=some (.ref C0))(hb:Binds X.K fd ps [])
  (ha:AV X es fs)(hr:pU X hJ C F)(hN:X.N[0]?=some x)(eX:gm X.env.scope x)(hd:(x==("__debug__":Str))=false:=by rfl)(bM:(x==("__classdict__":Str))=false:=by rfl)
  (eY:(c==("__debug__":Str))=false:=by decide)(qI:starEach (.Name x p1::es) X.env=(false,eval (.Name x p1) X.env)::starEach es X.env:=by rfl)(fm:(backTo au (starEach es X.env)).any (·.1)=false:=by rfl)
  (ht:eval (.Call (.Attribute (.Name c p) "__init__" apos) (.Name x p1::es) [] au) X.env=(eval (.Name c p) X.env >>= λov=>standAt apos.atName >>= λ_=>holding [ov] (getMethod ov "__init__" pl) >>= λz=>callWith au z.1 z.2 (backTo au (starEach (.Name x p1::es) X.env)) (backToKw au (keywordEach [] X.env))):=by rfl)
  (hs:swapsWith (.Call (.Attribute (.Name c p) "__init__" apos) (.Name x p1::es) [] au) none pos.line X.env=pure false:=by rfl):
  pU X (.Expr (.Call (.Attribute (.Name c p) "__init__" apos) (.Name x p1::es) [] au) pos::hJ) C (Ji n BF ψ fs F):=by
 obtain ⟨t,pt,ka⟩:=ha
 obtain ⟨u,pu,ku⟩:=hr
 refine ⟨_,yJ (zI (b5k (pl:=pl) b Fn Hh hg hm hb (kY (oK hN eX hd bM) pt qI) eY qI fm ht) hs) pu,λO σ H env p dx ns us ds iX ds' Dn R no op hs hp hl hi e q=>?_⟩
 obtain ⟨hn0,e1⟩:=zC e
 subst hn0
 obtain rfl:us=[]:=Lx.mp hl.symm
 obtain ⟨as,e2,e3⟩:=bind_some e1
 obtain ⟨hln,e4⟩:=zC e3
 obtain ⟨gs,e5,e6⟩:=bind_some e4
 refine ⟨.ref p,hs,?_⟩
 refine ka O H σ H env as _ R e2 λvs H1 s1 r1=>?_
 have R1:Rel X.K O H1 σ H1 env:=(R.grow s1).rebase no
 have i1:aQ X.K O H1 vs as:=r1.less λq z=>.inl z
 refine ⟨O,p,dx,vs,as,gs,by rw [yu],by rw [r1.length];exact hln,s1 _ _ hp,R1.p8,op,i1,e5,λFQ H2 DT Vw KI hi2=>?_⟩
 exact ku O σ H2 env p dx BF FQ gs iX ds' Dn (R1.NO no op (s1 _ _ hp) Vw (by rw [KI];exact λz=>nomatch z)) no op hs KI DT hi2 e6 λmG H3 us3 kp3=>q mG H3 us3 λq u e ne=>kp3 q u (Vw q u (s1 _ _ e) ne) ne
end
section
variable {P:Program}{w:World}{K:aK}{mg:Str->Option Value}{base:Heap}
theorem b28{qual:Str}{st:Stmt}{f C:Addr}{fd:FuncData}{N ps:List Str}{k n:Nat}{ns:List Str}{F:IF}(Fn:tL K "__init__" qual st f fd)(S:bC N ps (dg st))(mO:ps.length=n+1)(hN:1<=N.length)
  (br:∀X:Cx,X.prog=P->X.w=w->X.K=K->X.mg=mg->X.base=base->Fx X N (dg st) k->pU X (hV st) C F):bD P w K mg base jv (k+1) f fd ps (DM K C n ns (dj F N.length ns)):=by
 refine Fn.ok S (λvs H Q E h=>?_) (λdX A outer s H vs Q E hr h=>?_)
 .obtain ⟨O,p,dx,ws,ds,fs,rfl,hl,_⟩:=h
  rw [gq,hl,mO]
 obtain ⟨O,p,dx,ws,ds,fs,rfl,hl,hp,dm,op,hi,e,q⟩:=h
 obtain ⟨t,pt,kk⟩:=br (gO jv P w K mg base N qual (dg st) f dX A outer s H E).b8 rfl rfl rfl rfl rfl ⟨rfl,rfl,rfl,λ_ _=>rfl,AN,hr,S.nd,λ_=>⟨rfl,rfl,rfl⟩⟩
 refine ⟨t,pt,?_⟩
 have R0:=Fg (N:=N.tail) dm hi
 have R1:=SS (some (V.ref p)) R0
 have es:some (V.ref p)::start N.tail ws=start N (V.ref p::ws):=by
  unfold L2.start
  rw [fE,Eb,Ea,gq,Ql,Qo 1]
 rw [es,Ea] at R1
 unfold dj at e
 cases hF:F (.no::iS (N.length-1) ds) [] [] with
 | none=>rw [hF] at e;cases e
 | some y =>
  obtain ⟨iX,CD⟩:=y
  rw [hF] at e
  obtain ⟨rfl,rfl⟩:=jg (show (if iX=ns then some CD else none)=some fs from e)
  refine kk O _ H _ p dx [] [] [] iX CD _ R1 (λi s h1 h2=>?_) op rfl hp rfl .nil hF λaG H' qt kp An nV mP=>q qt H' nV kp An mP
  cases i with
  | zero=>cases h1;exact h2
  | succ i =>
   have h1:(iS (N.length-1) ds)[i]?=some s:=by simpa using h1
   unfold iS at h1
   rw [IM] at h1
   split at h1
   .rw [mB] at h1
    obtain ⟨d,_,e⟩:=map_some h1
    cases e
    exact h2
   .rw [C1] at h1
    split at h1
    .cases h1;exact h2
    .cases h1
theorem L9{c qual:Str}{st:Stmt}{f C:Addr}{fd:FuncData}{N ps:List Str}{k n:Nat}{ns:List Str}{F:IF}(h:cP K c C)(hm:mg c=some (.ref C))(M:Mk K C f)(D':c9 K f "__init__" qual st ps fd)
  (br:∀X:Cx,Sx X P w K mg base->Fx X N (dg st) k->pU X (hV st) C F)(mO:ps.length=n+1:=by rfl)(hN:1<=N.length:=by decide)(S:bC N ps (dg st):=by exact ⟨rfl,rfl,rfl,by decide +kernel,rfl,by decide +kernel,by decide +kernel⟩):jr P w K mg base c n ns (k+1) (dj F N.length ns):=
 ⟨C,f,fd,ps,M,b28 D'.fn S mO hN λX e1 e2 e3 e4 e5=>by subst e1 e2 e3 e4 e5;exact br X (.mk X),hm,h.a,D'.bd⟩
def BS(P:Program)(w:World)(K:aK)(mg:Str->Option Value)(base:Heap)(C0 C f:Addr)(b:Str)(n:Nat)(ns:List Str)(j:Nat)(ψ:List D->Option (List D)):Prop:=∃fd ps,pV K C0 f/\mg b=some (.ref C0)/\bD P w K mg base jv j f fd ps (DM K C n ns ψ)/\Binds K fd ps []
theorem Ru{b qual:Str}{st:Stmt}{f C0 C:Addr}{fd:FuncData}{N ps:List Str}{k n:Nat}{ns:List Str}{F:IF}(hbf:pV K C0 f)(hm:mg b=some (.ref C0))(D':c9 K f "__init__" qual st ps fd)
  (br:∀X:Cx,Sx X P w K mg base->Fx X N (dg st) k->BU X (hV st) C F)(mO:ps.length=n+1:=by rfl)(hN:1<=N.length:=by decide)(S:bC N ps (dg st):=by exact ⟨rfl,rfl,rfl,by decide +kernel,rfl,by decide +kernel,by decide +kernel⟩):BS P w K mg base C0 C f b n ns (k+1) (dj F N.length ns):=
 ⟨fd,ps,hbf,hm,YH D'.fn S mO hN λX e1 e2 e3 e4 e5=>by subst e1 e2 e3 e4 e5;exact br X (.mk X),D'.bd⟩
end
section
variable {X:Cx}{N:List Str}{sc:Scope}{k j n:Nat}{full:Bool}{C:Addr}{F:IF}{hJ:List Stmt}{x:Str}
theorem Fx.DQ{e:Expr}{f:Str}{fe:En->Option Sl}{p1 pos' pos:Pos}(h:Fx X N sc k full)(c:nD X.K C)(n:ao X.K C f)(hv:EV X e fe)(hr:pU X hJ C F)(hN:N[0]?=some x:=by rfl)(eX:gm sc x:=by first | exact cK rfl | exact bL (cK rfl) | exact bL (bL rfl))(hd:(x==("__debug__":Str))=false:=by rfl)(bM:(x==("__classdict__":Str))=false:=by rfl)
  (hs:swapsWith e (some (.Attribute (.Name x p1) f pos')) pos.line X.env=pure false:=by rfl):pU X (.Assign [.Attribute (.Name x p1) f pos'] e pos::hJ) C (cI f fe F):=b8f hv hr c n (h.ix hN) (h.oE eX) hd bM hs
theorem Fx.iwc{f y:Str}{st:Stmt}{ps:List Str}{φ:List D->Option Sl}{p1 p2 p3 pos au:Pos}(h:Fx X N sc k full)(O:Oz X.prog X.w X.K X.mg X.base y st ps j φ)(c:nD X.K C)(n:ao X.K C f)(hr:pU X hJ C F)(hj:j<=k:=by decide)(mO:ps.length=1:=by rfl)(hg:sc.names.lookup y=some .globalImplicit:=by rfl)
  (hN:N[0]?=some x:=by rfl)(eX:gm sc x:=by first | exact cK rfl | exact bL (cK rfl) | exact bL (bL rfl))(hd:(x==("__debug__":Str))=false:=by rfl)(bM:(x==("__classdict__":Str))=false:=by rfl)
  (Ap:attributeBase (.Name x p1) f X.env (eval (.Name x p1) X.env)=eval (.Name x p1) X.env:=by rfl)
  (eY:(y==("__debug__":Str))=false:=by decide)(he:starEach [.Attribute (.Name x p1) f p2] X.env=[(false,eval (.Attribute (.Name x p1) f p2) X.env)]:=by rfl)
  (hs:swapsWith (.Call (.Name y p3) [.Attribute (.Name x p1) f p2] [] au) none pos.line X.env=pure false:=by rfl):
  pU X (.Expr (.Call (.Name y p3) [.Attribute (.Name x p1) f p2] [] au) pos::hJ) C (OY φ f F):=by
 obtain ⟨g,fd,D',Fn⟩:=O
 exact G8 Fn mO (h.room.mono hj) (h.g hg) D'.m D'.fn.kp D'.bd hr c n (h.ix hN) (h.oE eX) hd bM Ap eY he hs
theorem Fx.OU{b:Str}{C0 f:Addr}{BF:List Str}{ψ:List D->Option (List D)}{fs:En->Option (List D)}{es:List Expr}{p p1 apos au pos:Pos}{pl:Sem Bool}(h:Fx X N sc k full)(T:BS X.prog X.w X.K X.mg X.base C0 C f b n BF j ψ)(ha:AV X es fs)(hr:pU X hJ C F)(hj:j<=k:=by decide)(hg:sc.names.lookup b=some .globalImplicit:=by rfl)
  (hN:N[0]?=some x:=by rfl)(eX:gm sc x:=by first | exact cK rfl | exact bL (cK rfl) | exact bL (bL rfl))(hd:(x==("__debug__":Str))=false:=by rfl)(bM:(x==("__classdict__":Str))=false:=by rfl)
  (eY:(b==("__debug__":Str))=false:=by decide)(qI:starEach (.Name x p1::es) X.env=(false,eval (.Name x p1) X.env)::starEach es X.env:=by rfl)(fm:(backTo au (starEach es X.env)).any (·.1)=false:=by rfl)
  (ht:eval (.Call (.Attribute (.Name b p) "__init__" apos) (.Name x p1::es) [] au) X.env=(eval (.Name b p) X.env >>= λov=>standAt apos.atName >>= λ_=>holding [ov] (getMethod ov "__init__" pl) >>= λz=>callWith au z.1 z.2 (backTo au (starEach (.Name x p1::es) X.env)) (backToKw au (keywordEach [] X.env))):=by rfl)
  (hs:swapsWith (.Call (.Attribute (.Name b p) "__init__" apos) (.Name x p1::es) [] au) none pos.line X.env=pure false:=by rfl):
  pU X (.Expr (.Call (.Attribute (.Name b p) "__init__" apos) (.Name x p1::es) [] au) pos::hJ) C (Ji n BF ψ fs F):=by
 obtain ⟨fd,ps,B,hm,Fn,hb⟩:=T
 exact b5I (pl:=pl) B Fn (h.room.mono hj) (h.g hg) hm hb ha hr (h.ix hN) (h.oE eX) hd bM eY qI fm ht hs
end
end DL
namespace DL
open PySem PySem.Spec PyProof.Rows L2
section
variable {X:Cx}
theorem a8O{K:Type}[DecidableEq K]{knd:By X.prog X.w K}:wC X (.builtin "len") (λxs H Q=>∃(p:Addr) (ks:List K),xs=[.ref p]/\H p=some (sE knd p ks)/\Q (.int ks.length) H):=by
 intro pins s σ H xs vs Q I r h
 obtain ⟨p,ks,rfl,hp,q⟩:=h
 obtain ⟨u,rfl,ru⟩:=r.one
 cases ru
 obtain ⟨⟨o,ho,ex,es,ep,t,dR,hd,S,rfl⟩,_⟩:=I.bg p _ hp
 have hl:es.size=(dR.map (·.1)).length:=by rw [S.len,bY]
 have hb:(scanBound:Int)<=2^62:=by decide
 refine PySem.call_len_set ho ex hd S.fits (by have:=S.lt;omega) ?_
 exact ⟨.int _,H,I.tok _,⟨_,by rw [hl]⟩,q⟩
theorem Rq{ks ss:List Str}(nd:ks.Nodup)(mem:∀x,x∈ks↔x∈ss):ks.length=(SE.lC SE.lX ss).length:=by
 have h2:(SE.lC SE.lX ss).Nodup:=(SE.jE SE.eS ss).imp λ{a b} h e=>by
  subst e
  have h:=(SE.eS.Bn a).symm.trans h
  cases h
 exact ((List.perm_ext_iff_of_nodup nd h2).mpr λx=>by rw [mem,SE.iK SE.eS]).length_eq
noncomputable def Dp(f:En->Option Sl):En->Option Sl:=λenv=>(f env).bind λr=>match r.d with
 | .lst _ ds=>(rm ds).bind λss=>if ss.length+1<4096 then some (.sh (.int (SE.lC SE.lX ss).length)) else none
 | _=>none
theorem ZV{e:Expr}{fa:En->Option Sl}{p pos p2 k9:Pos}(hc:X.calm=true)(hg:Gl X "len")(hm:X.mg "len" = none)(Br:Gl X "set")(Bq:X.mg "set" = none)(he:EV X e fa)(hs:starEach [e] X.env=[(false,eval e X.env)]:=by rfl)
  (ll:starEach [.Call (.Name "set" p2) [e] [] k9] X.env=[(false,eval (.Call (.Name "set" p2) [e] [] k9) X.env)]:=by rfl):EV X (.Call (.Name "len" p) [.Call (.Name "set" p2) [e] [] k9] [] pos) (Dp fa):=by
 obtain ⟨t,pt,k⟩:=he
 refine ⟨_,BK (p:=p) (pos:=pos) (a8O (knd:=ID X.prog X.w)) hg hm QO (kY (Fe (p:=p2) (pos:=k9) (iI RO ("":Str) hc) Br Bq (by decide +kernel) (kY pt mV hs) (by decide) (by decide) hs rfl) mV ll) (by decide) (by decide) ll rfl,λO B σ H env s Q R e q=>?_⟩
 obtain ⟨r,e1,e2⟩:=bind_some e
 cases hd:r.d with
 | lst b ds =>
  rw [hd] at e2
  obtain ⟨ss,e5,e6⟩:=bind_some (show (rm ds).bind (λss=>if ss.length+1<4096 then some (Sl.sh (.int (SE.lC SE.lX ss).length)) else none)=some s from e2)
  obtain ⟨vK,rfl⟩:=jg e6
  refine k O B σ H env r _ R e1 λv H1 s1 r1=>?_
  have hi:=r1.is λq=>R.oo
  rw [hd] at hi
  have Ik:=TB e5
  subst Ik
  obtain ⟨a,xs,rfl,h2,h3⟩:=hi.seq (k:=true) rfl
  have ex:=Ta h3
  subst ex
  refine ⟨a,ss,rfl,h2,vK,λc ks nd mem hc=>⟨c,ks,rfl,kn,?_⟩⟩
  rw [Rq nd mem]
  exact q _ _ (s1.trans (mX hc _)) (Is.int _)
 | _=>rw [hd] at e2;cases e2
end
end DL
namespace DPr
open PySem PySem.Spec PyProof.Rows
theorem ZU:entryFor table "dict.update.loop" = some Builtin.«dict.update.loop»:=entryFor_of_tree (by kernel_rfl)
theorem MP:plainId "dict.update.loop" = true:=by decide +kernel
theorem b1j:typeLookup (.type "list") "keys" = pure none:=by rw [QR,Q7];kernel_rfl
section
variable {prog:Program}{w:World}{A:Around}{E:Value->Shared->Prop}{s:Shared}{K:Type}[DecidableEq K]{knd:KeyKind prog w K}{R:Result->Shared->Prop}
theorem b1i{a:Addr}{o:Obj}{xs:Array Value}{k:Nat}{Q:Option Value->Shared->Prop}(hx:s.heap.get? a=some o)(hc:o.cls=.type "list")(HB:o.data=.seq xs k)(hd:o.dict=none)(hA:A.handled=none)
  (h:∀h' tk,(∀b o,s.heap.get? b=some o->h'.get? b=some o)->Q none { s with heap:=h',toks:=tk }):wpAny (model prog w) A (getAttr? (.ref a) "keys") Q E s:=by
 obtain ⟨c,mm,dat,sl⟩:=o
 simp only at hc HB hd
 subst hc HB hd
 obtain ⟨hp,g,d,tk,os⟩:=s
 have hT:∀pX,(⟨hp,g,d,pX,os⟩:Shared).TypeIs (.ref a) "list":=λ_=>⟨_,hx,rfl⟩
 have f1:=sub_AttributeError
 have f3:=Q0.lookup
 have f4:=Q0.bind (.ref a)
 have f5:=am_list_getattr_none
 unfold getAttr? getAttrBy? getAttrBy
 repeat (any_goals (first | assumption | exact hT _ | ((with_reducible show wpAny _ _ (call (IE "list.__getattribute__") _ _) _ _ _);refine D3 Q0 (hT _) am_entry_list_getattribute (F.args_list_getattribute_2 _ _) (meets_getattribute_miss_list a xs k sl "keys" _ b1j (by decide +kernel) (by decide +kernel)) ⟨hx,hA,λh' pX e pf=>?_⟩) | wp_step))
 obtain ⟨t',u',he⟩:=pf.there
 show wpAny _ _ (getattributeRaised _ _ _ _ _ _ _) _ _ _
 unfold getattributeRaised
 repeat (any_goals (first | assumption | wp_step))
 exact h _ _ pf.of.keeps
theorem JI{I:Addr}{fp wr:List Addr}{G:Array GenState->Array GenState->Prop}{n:Nat}{P:Nat->Value->Prop}{St:Nat->Shared->Prop}(W:WalksS prog w A.in1 I fp wr G n P St)(S:Addr)(p7:S∉fp)(aA:List (K×Value))(hn:aA.length=n)(nd:(aA.map (·.1)).Nodup)(hz:n<=sizeLine)
  (T:Nat->Addr)(hP:∀i v,P i v->v=.ref (T i))(hT:∀i,i<n->T i∉S::wr):
  ∀(m i:Nat) (s:Shared) (j:Int) (t:Tok),n-i=m->i<=n->St i s->s.heap.DictOf knd S (aA.take i)->(∀i q,aA[i]?=some q->∃key,knd.is q.1 key=true/\s.heap.IsTuple (T i) #[key,q.2]) ->
   (∀s',Moved (S::wr) G s s'->s'.heap.DictOf knd S aA->R (.ok (.ret .none)) s') ->
   codeAny (model prog w) A (.builtin "dict.update.loop" ⟨[.ref S,.ref I,.int j t,.none],[]⟩) R s
 | 0,i,s,j,t,hm,hi,st,D,hk,hR=>by
  have e:i=n:=by omega
  subst e
  refine AM ZU ?_
  rw [C7 MP _]
  show wpAny _ A.in1 (pyNext (.ref I) >>= _) _ _ s
  refine aF (W.done s _ _ st λs' mv=>?_)
  have Py:S∉wr:=λh=>p7 (W.sub _ h)
  show wpAny _ A.in1 (Builtin.Dict.addKeywords S [] >>= _) _ _ s'
  refine aF (bG (bG (hR s' (mv.mono λb hb=>gn _ hb) ?_)))
  rw [<-hn,List.take_length] at D
  obtain ⟨o,es,ep,ho,rest⟩:=D
  exact ⟨o,es,ep,mv.heap S _ Py ho,rest⟩
 | m+1,i,s,j,t,hm,hi,st,D,hk,hR=>by
  have fu:i<n:=by omega
  have Py:S∉wr:=λh=>p7 (W.sub _ h)
  refine AM ZU ?_
  rw [C7 MP _]
  show wpAny _ A.in1 (pyNext (.ref I) >>= _) _ _ s
  refine aF (W.item i s _ _ fu st λv s' hv jw mv=>?_)
  obtain rfl:=hP i v hv
  have hq:aA[i]?=some aA[i]:=iP (by omega)
  have kp:∀i' q,aA[i']?=some q->∃key,knd.is q.1 key=true/\s'.heap.IsTuple (T i') #[key,q.2]:=λi' q e=>by
   obtain ⟨key,h1,o,h2,h3⟩:=hk i' q e
   have hl:i'<n:=by
    have:=(pH.mp e).1
    omega
   exact ⟨key,h1,o,mv.heap _ _ (λz=>hT i' hl (gn _ z)) h2,h3⟩
  obtain ⟨key,xW,o,ho,hc,nn,hd⟩:=kp i _ hq
  have D':s'.heap.DictOf knd S (aA.take i):=by
   obtain ⟨o,es,ep,ho,rest⟩:=D
   exact ⟨o,es,ep,mv.heap S _ Py ho,rest⟩
  show wpAny _ A.in1 (holding [cR (T i)] _ >>= _) _ _ s'
  refine aF (q0 ?_)
  refine aF (wpAny_tryCatch ?_)
  unfold Builtin.Dict.pairItems
  refine aF (IJ ⟨o,ho,hc⟩ ?_)
  rw [if_pos (by decide)]
  unfold seqItems?
  refine aF (aF (K8 ho ?_))
  rw [hd]
  refine bG (bG ?_)
  show wpAny _ A.in1 (holding [key,aA[i].2] (dictSet S key aA[i].2)) _ _ s'
  refine q0 (wpAny_dictSet_pairs (hsz:=by rw [Ec];omega) xW D' λh' D2 sb=>?_)
  have nm:aA[i].1∉(aA.take i).map (·.1):=λz=>by
   rw [<-Q8 i aA,nz,C3] at nd
   have e2:aA[i].1∈(aA.drop i).map (·.1):=by
    rw [IW (by omega),fE]
    exact gi
   exact nd.2.2 _ z _ e2 rfl
  have est:stored (aA.take i) aA[i].1 aA[i].2=aA.take (i+1):=by
   unfold stored
   rw [if_neg ?_,List.take_succ,hq]
   .rfl
   .intro z
    rw [Lr] at z
    obtain ⟨x,hx,e⟩:=z
    exact nm (jW.mpr ⟨x,hx,by simpa using e⟩)
  rw [est] at D2
  refine bG ⟨CT MP _,JI W S p7 aA hn nd hz T hP hT m (i+1) _ _ _ (by omega) fu (W.frame _ s' _ _ jw (zr _) λb hb o e=>?_) D2 (λi' q e=>?_) λB5 OI=>?_⟩
  .rw [sb.2 b (λh:b=S=>p7 (by rw [<-h];exact hb))];exact e
  .obtain ⟨OR,h1,o',h2,h3⟩:=kp i' q e
   have hl:i'<n:=by
    have:=(pH.mp e).1
    omega
   exact ⟨OR,h1,o',(sb.2 _ (λz=>hT i' hl (by rw [z];exact gi))).trans h2,h3⟩
  .refine hR B5 (Moved.trans W.gtrans ((mv.mono λb hb=>gn _ hb).then_heap (zr _) λb o hb e=>?_) OI)
   rw [sb.2 b (λh:b=S=>hb (by rw [h];exact gi))];exact e
theorem uy{l:Addr}{o:Obj}{items:Array Value}{nn:Nat}{Q:Value->Shared->Prop}(hh:A.handled=none)(ho:s.heap.get? l=some o)(hc:o.cls=.type "list")(hd:o.data=.seq items nn)(Po:o.dict=none)
  (aA:List (K×Value))(hn:aA.length=items.size)(nd:(aA.map (·.1)).Nodup)(hz:items.size<=sizeLine)(T:Nat->Addr)(hI:∀(i:Nat) (v:Value),items[i]?=some v->v=.ref (T i))(hT:∀(i:Nat) (q:K×Value),aA[i]?=some q->∃key,knd.is q.1 key=true/\s.heap.IsTuple (T i) #[key,q.2])
  (h:∀h' tk,(∀b o,s.heap.get? b=some o->h'.get? b=some o)->h'.DictOf knd s.heap.objs.size aA->Q (.ref s.heap.objs.size) { s with heap:=h',toks:=tk }):wpAny (model prog w) A (call (.type "dict") [.ref l]) Q E s:=by
 refine callType_codes (Q₁:=λobj aR=>obj=.ref s.heap.objs.size/\aR={ s with heap:=s.heap.push { cls:=.type "dict",data:=.dict #[] } }) F.kt_called_dict (F.kt_typeCall_dict_1 _) F.entry_dict_init (kt_code_dict_new _ ⟨rfl,rfl⟩) ?_
 rintro obj aR ⟨rfl,rfl⟩
 have Cr:(s.heap.push { cls:=.type "dict",data:=.dict #[] }).DictOf knd s.heap.objs.size []:=Wm s.heap
 have KL:(s.heap.push { cls:=.type "dict",data:=.dict #[] }).get? l=some o:=dY _ ho
 refine ⟨Cr.typeIs,F.args_dict_init_2 _ _,?_⟩
 unfold Builtin.«dict.__init__»
 refine aF ?_
 unfold Builtin.Dict.selfAndRest
 refine aF (wpAny_notOrdered_dict Cr.typeIs ?_)
 show wpAny _ _ (pure (s.heap.objs.size,[cR l])) _ _ _
 refine bG ?_
 show wpAny _ _ (WJ "dict.__init__" s.heap.objs.size (.ref l) [] .none) _ _ _
 unfold WJ
 refine aF (IJ (T:="list") ⟨o,KL,hc⟩ ?_)
 rw [if_pos (by decide)]
 refine aF (b1i (s:={ s with heap:=s.heap.push { cls:=.type "dict",data:=.dict #[] } }) KL hc hd Po (by exact hh) λh1 tk1 Bj=>?_)
 rw [if_pos (by rfl)]
 refine aF (K6 ?_)
 have zb:h1.IsList l items:=⟨o,Bj _ _ KL,hc,nn,hd⟩
 refine aF (Lj (s:={ s with heap:=h1,toks:=tk1 }) zb ?_)
 have xV:l<h1.objs.size:=dU (Bj _ _ KL)
 have VV:h1.DictOf knd s.heap.objs.size []:=by
  obtain ⟨o',es,ep,e1,rest⟩:=Cr
  exact ⟨o',es,ep,Bj _ _ e1,rest⟩
 have Px:s.heap.objs.size<h1.objs.size:=by
  obtain ⟨o',es,ep,e1,rest⟩:=VV
  exact dU e1
 have Pf:l<s.heap.objs.size:=dU ho
 have mz:l≠h1.objs.size:=fg xV
 have p7:s.heap.objs.size∉[h1.objs.size,l]:=by
  simp only [cL,sX,or_false,not_or]
  exact ⟨fg Px,D8 Pf⟩
 have VT:∀i,i<items.size->T i<s.heap.objs.size:=λi hi=>by
  obtain ⟨key,_,o',e1,_⟩:=hT i aA[i] (iP (by omega))
  exact dU e1
 refine bG ⟨CT MP _,JI (knd:=knd) ((Qj (by simp [hh]) h1.objs.size l mz items).toS) s.heap.objs.size p7 aA hn nd hz T hI (λi hi=>?_) (items.size-0) 0 _ _ _ (by omega) (uB _) ⟨⟨_,jx _ rfl,rfl,rfl⟩,zb.push _⟩ (VV.push _) (λi q e=>?_) λs' hm D=>?_⟩
 .have KY:=VT i hi
  simp only [cL,sX,or_false,not_or]
  exact ⟨fg KY,fg (BA KY Px)⟩
 .obtain ⟨key,KY,o',e1,e2⟩:=hT i q e
  exact ⟨key,KY,o',dY _ (Bj _ _ (dY _ e1)),e2⟩
 .obtain ⟨h',g',d',pX,GB⟩:=s'
  have e1:g'=s.gens:=hm.gens
  have e2:d'=s.drawn:=hm.drawn
  have e3:GB=s.os:=hm.os
  subst e1;subst e2;subst e3
  refine ⟨rfl,h h' pX (λb o hb=>hm.heap b o ?_ (dY _ (Bj _ _ (dY _ hb)))) D⟩
  have Aq:=dU hb
  simp only [cL,sX,or_false,not_or]
  exact ⟨fg Aq,fg (BA Aq Px)⟩
end
end DPr
namespace DL
open PySem PySem.Spec PyProof.Rows L2
noncomputable def jq(K:aK)(H:Hp):List Addr->List Str->List V->Prop
 | [],[],[]=>True
 | t::T,k::ks,v::vs=>jZ K H t [.str k,v]/\jq K H T ks vs
 | _,_,_=>False
noncomputable def AX:List D->Option (List Str×List D)
 | []=>some ([],[])
 | .tup [.str k,d]::r=>(AX r).map λp=>(k::p.1,d::p.2)
 | _=>none
theorem Zw{K:aK}{O:Addr->Prop}{H:Hp}:∀{ds:List D} {xs:List V} {ks:List Str} {es:List D},aQ K O H xs ds->AX ds=some (ks,es)->∃(T:List Addr) (vs:List V),xs=T.map V.ref/\jq K H T ks vs/\aQ K O H vs es
 | [],_,_,_,.nil,e=>by cases e;exact ⟨[],[],rfl,trivial,.nil⟩
 | d::ds,_,_,_,.cons h t,e=>by
  unfold AX at e
  split at e
  .rename_i hh;cases hh
  .rename_i k d' r hh
   cases hh
   obtain ⟨⟨ks',yj⟩,e1,e2⟩:=map_some e
   cases e2
   obtain ⟨T,vs,rfl,h1,h2⟩:=Zw t e1
   obtain ⟨p,ys,rfl,h3,h4⟩:=Jz h
   cases h4 with
   | cons a b=>cases b with
    | cons b c=>cases c with
     | nil =>
      obtain rfl:=oJ a
      exact ⟨p::T,_::vs,rfl,⟨h3,h1⟩,.cons b h2⟩
  .cases e
section
variable {X:Cx}{pins:List (Addr×Obj)}{σ:L2.St}{H:Hp}{s:Shared}
theorem jq.len{K:aK}:∀{T:List Addr} {ks:List Str} {vs:List V},jq K H T ks vs->ks.length=vs.length/\T.length=vs.length
 | [],[],[],_=>⟨rfl,rfl⟩
 | _::T,_::ks,_::vs,h=>by
  obtain ⟨a,b⟩:=jq.len h.2
  exact ⟨by rw [gq,gq,a],by rw [gq,gq,b]⟩
 | [],[],_::_,h=>h.elim
 | [],_::_,_,h=>h.elim
 | _::_,[],_,h=>h.elim
 | _::_,_::_,[],h=>h.elim
theorem Zq(I:Inv X pins σ H s):∀{T:List Addr} {ks:List Str} {vs:List V},jq X.K H T ks vs->∃us:List Value,us.length=vs.length/\KV ((ks.zip vs).map λq=>((.inr q.1:Key),q.2)) ((ks.zip us).map λq=>((.inr q.1:Key),q.2)) /\
  ∀(i:Nat) (q:Key×Value),((ks.zip us).map λq=>((.inr q.1:Key),q.2))[i]?=some q->∃key,(mY X.prog X.w).is q.1 key=true/\s.heap.IsTuple (T.getD i 0) #[key,q.2]
 | [],[],[],_=>⟨[],rfl,.nil,λi q e=>by simp at e⟩
 | t::T,k::ks,v::vs,h=>by
  obtain ⟨us,h1,h2,h3⟩:=Zq I h.2
  obtain ⟨aw,r,tp,_⟩:=I.tuple h.1
  cases r with
  | cons a b=>cases b with
   | cons b c=>cases c with
    | nil =>
     obtain ⟨tk,rfl⟩:=a
     rename_i u
     refine ⟨u::us,by rw [gq,gq,h1],.cons ⟨rfl,b⟩ h2,λi q e=>?_⟩
     cases i with
     | zero =>
      cases e
      exact ⟨.str k tk,Z6 _ _ k tk,tp⟩
     | succ i=>exact h3 i q (by simpa using e)
 | [],[],_::_,h=>h.elim
 | [],_::_,_,h=>h.elim
 | _::_,[],_,h=>h.elim
 | _::_,_::_,[],h=>h.elim
theorem Zs:∀{T:List Addr} {us:List Value},aL (T.map V.ref) us->us=T.map cR
 | [],_,.nil=>rfl
 | t::T,_,.cons h r=>by
  cases (show _=cR t from h)
  rw [Zs r]
  rfl
theorem b0e(hc:X.calm=true):wC X (.type "dict") (λxs H Q=>∃l T ks vs,xs=[.ref l]/\ic X.K H l (T.map V.ref)/\jq X.K H T ks vs/\ks.Nodup/\∀p o,H p=none->Q (.ref p) (upd H p (.jP o (mR ks vs)))):=by
 intro pins s σ H xs us Q I r h
 obtain ⟨l,T,ks,vs,rfl,hq,ht,nd,q⟩:=h
 obtain ⟨u,rfl,ru⟩:=r.one
 cases ru
 obtain ⟨aw,vv,⟨o,n,ho,HE,Po,hd⟩,hz⟩:=I.list hq
 obtain rfl:=Zs vv
 obtain ⟨l1,l2⟩:=ht.len
 obtain ⟨us,hl,kv,hp⟩:=Zq I ht
 rw [bY] at hz
 have Cs:((ks.zip us).map λq=>((.inr q.1:Key),q.2)).length=((T.map cR).toArray).size:=by
  rw [bY,yr,gh,bY];omega
 have ndk:(((ks.zip us).map λq=>((.inr q.1:Key),q.2)).map (·.1)).Nodup:=by
  rw [wm]
  have e:(ks.zip us).map ((·.1)∘λq=>((.inr q.1:Key),q.2))=ks.map wc:=by
   rw [<-List.map_fst_zip (l₁:=ks) (l₂:=us) (by omega),wm]
   rw [List.map_fst_zip (by omega)]
   rfl
  rw [e]
  exact List.Pairwise.map _ (λa b h z=>h (Iw z)) nd
 refine DPr.uy (knd:=mY X.prog X.w) (I.ok.hd hc) ho HE hd Po _ Cs ndk (by rw [gh,bY];exact hz) (λi=>T.getD i 0) (λi v e=>?_) hp λh' tk kp dd=>?_
 .rw [LG,mB] at e
  obtain ⟨t,e1,rfl⟩:=map_some e
  rw [LN,e1]
  rfl
 .obtain ⟨od,es,ep,hod,rest⟩:=id dd
  refine ⟨.ref s.heap.objs.size,_,I.laid (o:=.jP od (mR ks vs)) (t':=tk) kp (cw _) ⟨hod,?_,beq_eq_false_iff_ne.mpr (lx (fg I.big)),_,kv,dd⟩,rfl,q _ od (I.bg.fresh (cw _))⟩
  rw [bY,yr]
  omega
noncomputable def ET(f:En->Option Sl):En->Option Sl:=λenv=>(f env).bind λr=>match r.d with
 | .lst _ ds=>(AX ds).bind λp=>if p.1.Nodup then some (.sh (.bw p.1 p.2)) else none
 | _=>none
theorem Ze{a:Expr}{fa:En->Option Sl}{p pos:Pos}(hc:X.calm=true)(hg:Gl X "dict")(hm:X.mg "dict" = none)(ha:EV X a fa)(hs:starEach [a] X.env=[(false,eval a X.env)]:=by rfl):EV X (.Call (.Name "dict" p) [a] [] pos) (ET fa):=by
 obtain ⟨t,pt,k⟩:=ha
 refine ⟨_,Fe (b0e hc) hg hm (by decide +kernel) (kY pt mV hs) (by decide) (by decide) hs rfl,λO B σ H env s Q R e q=>?_⟩
 obtain ⟨r,e1,e2⟩:=bind_some e
 refine k O B σ H env r _ R e1 λv H1 s1 r1=>?_
 have hi:=r1.is λq=>R.oo
 cases hd:r.d with
 | lst b ds =>
  rw [hd] at hi e2
  obtain ⟨⟨ks,es⟩,e3,e4⟩:=bind_some (show (AX ds).bind (λp=>if p.1.Nodup then some (Sl.sh (.bw p.1 p.2)) else none)=some s from e2)
  obtain ⟨nd,rfl⟩:=jg e4
  obtain ⟨l,xs,rfl,h2,h3⟩:=hi.seq (k:=true) rfl
  obtain ⟨T,vs,rfl,h4,h5⟩:=Zw h3 e3
  refine ⟨l,T,ks,vs,rfl,h2,h4,nd,λp o hp=>q _ _ (s1.trans (mX hp _)) ?_⟩
  exact Is.bw (λz=>(R.grow s1).oo z hp) kn h4.len.1 (h5.grow (mX hp _))
 | _=>rw [hd] at e2;cases e2
end
end DL
namespace DL
open PySem PySem.Spec PyProof.Rows L2
noncomputable abbrev Ig(ks:List Str)(vs:List V):List (Key×V):=(ks.zip vs).map λq=>((.inr q.1:Key),q.2)
theorem Sk:∀{ks:List Str} {vs:List V} {us:List (Key×Value)} {i:Nat} {k:Str} {v:V},KV (Ig ks vs) us->ks[i]?=some k->vs[i]?=some v->∃u,us[i]?=some (.inr k,u)/\RelV v u
 | [],_,_,i,k,v,_,e,_=>by simp at e
 | _::_,[],_,i,k,v,_,_,e=>by simp at e
 | c::ks,x::vs,_,i,k,v,r,e1,e2=>by
  cases r with
  | cons h t =>
   rename_i b bs
   cases i with
   | zero =>
    simp at e1 e2
    subst e1 e2
    obtain ⟨h1,h2⟩:=h
    obtain ⟨b1,b2⟩:=b
    simp only at h1 h2
    subst h1
    exact ⟨b2,rfl,h2⟩
   | succ i =>
    obtain ⟨u,e3,e4⟩:=Sk (i:=i) t (by simpa using e1) (by simpa using e2)
    exact ⟨u,by simpa using e3,e4⟩
theorem MB{X:Cx}{pins:List (Addr×Obj)}{σ:L2.St}{H:Hp}{s:Shared}{l:Addr}{o:Obj}{ks:List Str}{vs:List V}{ep:Nat}(I:Inv X pins σ H s)(e:H l=some (.jP o (mR ks vs)))(Cu:∃es,o.data=.dict es ep):∃us,KV (Ig ks vs) us/\Heap.DictAt (mY X.prog X.w) s.heap l us ep:=by
 obtain ⟨ho,z,hd,us,rel,o',yj,K3,iO,r1,r2,r3⟩:=(show cb X.prog X.w H s.heap l (.jP o (mR ks vs)) from I.bg l _ e)
 rw [ho] at iO
 cases iO
 obtain ⟨es,he⟩:=Cu
 rw [he] at r2
 cases r2
 exact ⟨us,rel,o,_,ho,r1,he,r3⟩
noncomputable def DD(l:Addr)(o:Obj)(ks:List Str)(vs:List V):It:=
 ⟨λi H=>H l=some (.jP o (mR ks vs))/\i<ks.length,λi H v H'=>∃k,ks[i]?=some k/\v=.str k/\H'=H,λi H=>H l=some (.jP o (mR ks vs))/\ks.length<=i⟩
noncomputable def DC(l:Addr)(o:Obj)(ks:List Str)(vs:List V):It:=
 ⟨λi H=>H l=some (.jP o (mR ks vs))/\i<ks.length,λi H v H'=>vs[i]?=some v/\H'=H,λi H=>H l=some (.jP o (mR ks vs))/\ks.length<=i⟩
section
variable {P:Program}{w:World}{K:aK}{tg:Expr}{it l:Addr}{o:Obj}{ks:List Str}{vs:List V}{ep:Nat}
theorem b5E{k:Str}{key:Value}(h:Dd (.inr k) key=true):∃t,key=.str k t:=by
 rcases zN h with ⟨a,t,e1,e2⟩ | ⟨a,t,e1,e2⟩
 .cases e1
 .cases e1;exact ⟨t,e2⟩
theorem b4N(hl:ks.length=vs.length)(Cu:∃es,o.data=.dict es ep):Turn P w K tg (DD l o ks vs) [it] it (λi h=>h.IsKeyIter it l i ks.length ep) where
 mem:=by simp
 obj:=λi h ⟨ob,he,h1,h2⟩ c hc=>by
  have:c=it:=by simpa using hc
  subst this
  exact ⟨_,he,λv q=>by rw [h2] at q;cases q⟩
 keep:=λi h h' st k=>st.at λo e=>k it (by simp) o e
 item:=by
  intro X hP hw hK hc i pins s σ H E I hf he hg
  subst hP hw hK
  obtain ⟨nV,hi⟩:=hg
  obtain ⟨us,rel,da⟩:=MB I nV Cu
  have hlen:us.length=ks.length:=by rw [<-rel.length,bY,yr];omega
  obtain ⟨u,eu,ru⟩:=Sk rel (iP hi) (iP (by omega:i<vs.length))
  obtain ⟨f0,f1,f2,f3,f4,f5⟩:=hf it (by simp)
  rw [<-hlen] at he
  refine wpAny_pyNext_dict_item he da eu λkey h' xW Hz sb=>?_
  obtain ⟨t,rfl⟩:=b5E xW
  obtain ⟨ob,eb,h1,h2⟩:=id Hz
  refine ⟨_,rfl,Df (s:={ s with heap:=h' }) eb h1 h2 (by decide) ⟨.str ks[i],H,I.turned (t':=s.toks) (it:=it) (λc o hc y=>(sb.2 c hc).trans y) f0 f1 f3 f4 f5,⟨_,rfl⟩,⟨_,iP hi,rfl,rfl⟩,by rw [<-hlen];exact Hz,λc hc=>?_⟩⟩
  have:c=it:=by simpa using hc
  subst this
  exact f0
 done:=by
  intro X hP hw hK hc i pins s σ H E I hf he hg
  subst hP hw hK
  obtain ⟨nV,hi⟩:=hg
  obtain ⟨us,rel,da⟩:=MB I nV Cu
  have hlen:us.length=ks.length:=by rw [<-rel.length,bY,yr];omega
  obtain ⟨f0,f1,f2,f3,f4,f5⟩:=hf it (by simp)
  rw [<-hlen] at he
  exact wpAny_pyNext_dict_end (I.ok.hd hc) he da (CZ (by omega)) λh' kp=>⟨rfl,I.turned (t':=s.toks) (it:=it) (λc o hc y=>kp c o hc y) f0 f1 f3 f4 f5⟩
 self:=λA i s Q E st h=>wpAny_pyIter_keyiter st h
theorem b4M(hl:ks.length=vs.length)(Cu:∃es,o.data=.dict es ep):Turn P w K tg (DC l o ks vs) [it] it (λi h=>h.IsValIter it l i ks.length ep) where
 mem:=by simp
 obj:=λi h ⟨ob,he,h1,h2⟩ c hc=>by
  have:c=it:=by simpa using hc
  subst this
  exact ⟨_,he,λv q=>by rw [h2] at q;cases q⟩
 keep:=λi h h' st k=>st.at λo e=>k it (by simp) o e
 item:=by
  intro X hP hw hK hc i pins s σ H E I hf he hg
  subst hP hw hK
  obtain ⟨nV,hi⟩:=hg
  obtain ⟨us,rel,da⟩:=MB I nV Cu
  have hlen:us.length=ks.length:=by rw [<-rel.length,bY,yr];omega
  obtain ⟨u,eu,ru⟩:=Sk rel (iP hi) (iP (by omega:i<vs.length))
  obtain ⟨f0,f1,f2,f3,f4,f5⟩:=hf it (by simp)
  rw [<-hlen] at he
  refine wpAny_pyNext_values_item he da eu λh' Hz sb=>?_
  obtain ⟨ob,eb,h1,h2⟩:=id Hz
  refine ⟨_,rfl,Df (s:={ s with heap:=h' }) eb h1 h2 (by decide) ⟨vs[i],H,I.turned (t':=s.toks) (it:=it) (λc o hc y=>(sb.2 c hc).trans y) f0 f1 f3 f4 f5,ru,⟨iP _,rfl⟩,by rw [<-hlen];exact Hz,λc hc=>?_⟩⟩
  have:c=it:=by simpa using hc
  subst this
  exact f0
 done:=by
  intro X hP hw hK hc i pins s σ H E I hf he hg
  subst hP hw hK
  obtain ⟨nV,hi⟩:=hg
  obtain ⟨us,rel,da⟩:=MB I nV Cu
  have hlen:us.length=ks.length:=by rw [<-rel.length,bY,yr];omega
  obtain ⟨f0,f1,f2,f3,f4,f5⟩:=hf it (by simp)
  rw [<-hlen] at he
  exact wpAny_pyNext_values_end (I.ok.hd hc) he da (CZ (by omega)) λh' kp=>⟨rfl,I.turned (t':=s.toks) (it:=it) (λc o hc y=>kp c o hc y) f0 f1 f3 f4 f5⟩
 self:=λA i s Q E st h=>wpAny_pyIter_valiter st h
end
section
variable {K:aK}{O:Addr->Prop}{H:Hp}{l:Addr}{o:Obj}{ks:List Str}{vs:List V}{ds:List D}
theorem b2T{O':Addr->Prop}{H2:Hp}(kp:∀q u,H q=some u->¬O q->H2 q=some u/\¬O' q)(h:aQ K O H vs ds):aQ K O' H2 vs ds:=h.map (λq hq hn z=>by
  cases e:H q with
  | none=>exact hq e
  | some u=>exact (kp q u e hn).2 z) λq u e n=>(kp q u e n).1
theorem b4I(h1:H l=some (.jP o (mR ks vs)))(n1:¬O l):Dk K O (DD l o ks vs) H (ks.map D.str):=λO' H2 kp hO i=>by
 have p1:=(kp l _ h1 n1).1
 refine ⟨λd hd=>?_,λhl=>⟨p1,by simpa using hl⟩⟩
 rw [mB] at hd
 obtain ⟨k,ek,rfl⟩:=map_some hd
 refine ⟨⟨p1,(pH.mp ek).1⟩,λv H3 hv=>?_⟩
 obtain ⟨k',e1,rfl,rfl⟩:=hv
 rw [ek] at e1
 cases e1
 exact ⟨az.refl _,.str _⟩
theorem b4H(h1:H l=some (.jP o (mR ks vs)))(n1:¬O l)(hl:ks.length=vs.length)(hs:aQ K O H vs ds):Dk K O (DC l o ks vs) H ds:=λO' H2 kp hO i=>by
 have p1:=(kp l _ h1 n1).1
 have ll:=b2T kp hs
 refine ⟨λd hd=>?_,λh=>⟨p1,by rw [hl,hs.length];exact h⟩⟩
 refine ⟨⟨p1,by rw [hl,hs.length];exact (pH.mp hd).1⟩,λv H3 hv=>?_⟩
 obtain ⟨e1,rfl⟩:=hv
 obtain ⟨v',e2,h2⟩:=ll.get hd
 rw [e1] at e2
 cases e2
 exact ⟨az.refl _,h2⟩
end
noncomputable def U'(mk:Addr->Obj->List Str->List V->It)(t:TE):TI:=λσ H R=>t σ H λv H1=>∃p o ks vs,v=.ref p/\H1 p=some (.jP o (mR ks vs))/\ks.length=vs.length/\R (mk p o ks vs) H1
section
variable {X:Cx}{tg e:Expr}{te:TE}{elts:List Expr}{kk:Nat}{tp p2 au:Pos}{fa:En->Option Sl}
theorem Xv{pins:List (Addr×Obj)}{σ:L2.St}{H:Hp}{s:Shared}{p:Addr}{o:Obj}{ks:List Str}{vs:List V}(I:Inv X pins σ H s)(hl:H p=some (.jP o (mR ks vs)))(hk:ks.length=vs.length):
  ∃us es ep,s.heap.get? p=some o/\o.data=.dict es ep/\(p==sysModules)=false/\us.length=ks.length/\Heap.DictAt (mY X.prog X.w) s.heap p us ep/\Heap.DictOf (mY X.prog X.w) s.heap p us:=by
 obtain ⟨ho,z,zd,us,rel,dd⟩:=(show cb X.prog X.w H s.heap p (.jP o (mR ks vs)) from I.bg p _ hl)
 obtain ⟨o',es,ep,iO,r1,r2,r3⟩:=id dd
 rw [ho] at iO
 cases iO
 exact ⟨us,es,ep,ho,r2,zd,by rw [<-rel.length,bY,yr];omega,⟨o,es,ho,r1,r2,r3⟩,dd⟩
theorem Gv(he:PE X e te):PI X tg e (U' DD te):=by
 intro pins s σ H R I h
 refine bJ (he pins s σ H _ I h) λu s1 ⟨v,H1,I1,rv,p,o,ks,vs,ev,hl,hk,hR⟩=>?_
 subst ev
 obtain rfl:u=cR p:=rv
 obtain ⟨us,es,ep,ho,hd,Hg,hlen,da,dd⟩:=Xv I1 hl hk
 refine wpAny_pyIter_dict Hg da ⟨_,_,_,_,H1,rfl,I1.kept (t':=s1.toks) (λb ob e=>dY _ e),b4N (ep:=ep) hk ⟨es,hd⟩,⟨_,jx _ rfl,rfl,by rw [hlen];rfl⟩,λc hc=>?_,hR⟩
 have:c=s1.heap.objs.size:=by simpa using hc
 subst this
 exact I1.pA (cw _) (I1.bg.fresh (cw _))
theorem Gu(he:PE X e te)(bB:attributeBase e "values" X.env (eval e X.env)=eval e X.env:=by rfl)
  (gE:((backTo au (starEach [] X.env)).all (λx=>!x.1)&&(backToKw au (keywordEach [] X.env)).all (λx=>x.1.isSome)
   && decide (([]:List Expr).length+([]:List Keyword).length+(if ([]:List Keyword).isEmpty then 0 else 1)<30))=true:=by rfl)
  (bA:(p2.endLine==au.line)=true:=by rfl)(O8:backTo au (starEach [] X.env)=[]:=by rfl):PI X tg (.Call (.Attribute e "values" p2) [] [] au) (U' DC te):=by
 intro pins s σ H R I h
 refine wpAny_Call_method bB gE bA PySem.F.plainAttrs_dict Wt PySem.F.type_dict_values (bJ (he pins s σ H _ I h) λu s1 ⟨v,H1,I1,rv,p,o,ks,vs,ev,hl,hk,hR⟩=>?_)
 subst ev
 obtain rfl:u=cR p:=rv
 obtain ⟨t1,t2,t3⟩:=b8j I1 (.inl ⟨_,.inr ⟨_,hl⟩⟩)
 refine ⟨t1,t2,?_⟩
 rw [O8]
 refine QU rfl (evalArgs_empty ?_)
 obtain ⟨us,es,ep,ho,hd,Hg,hlen,da,dd⟩:=Xv I1 hl hk
 refine call_meetsIn Wt t1 PySem.F.entry_dict_values (PySem.F.args_dict_values_1 _) (meets_dict_values (mY X.prog X.w) p t3) ⟨⟨us,dd⟩,?_⟩
 have Bj:∀b ob,s1.heap.get? b=some ob->(s1.heap.push { cls:=.type "dict_values",data:=.fields #[.ref p] }).get? b=some ob:=λb ob e=>dY _ e
 have hz:(s1.heap.push { cls:=.type "dict_values",data:=.fields #[.ref p] }).objs.size=s1.heap.objs.size+1:=n8 ..
 refine wpAny_pyIter_values (s:={ s1 with heap:=s1.heap.push { cls:=.type "dict_values",data:=.fields #[.ref p] } }) (v:=s1.heap.objs.size) (knd:=mY X.prog X.w) ⟨_,jx _ rfl,rfl,rfl⟩ (da.at' λo e=>Bj _ _ e) ⟨_,_,_,_,H1,rfl,I1.kept (t':=s1.toks) (λb ob e=>dY _ (Bj b ob e)),b4M (ep:=ep) hk ⟨es,hd⟩,⟨_,jx _ rfl,rfl,by rw [hlen];rfl⟩,λc hc=>?_,hR⟩
 have:c=s1.heap.objs.size+1:=by
  have:c=(s1.heap.push { cls:=.type "dict_values",data:=.fields #[.ref p] }).objs.size:=by simpa using hc
  rw [this,hz]
 subst this
 exact I1.pA (by omega) (I1.bg.fresh (by omega))
noncomputable def D0(f:En->Option Sl):En->Option (List D):=λenv=>(f env).bind λr=>match r.d with
 | .bw ks _=>some (ks.map D.str)
 | _=>none
noncomputable def AE(f:En->Option Sl):En->Option (List D):=λenv=>(f env).bind λr=>match r.d with
 | .bw _ ds=>some ds
 | _=>none
theorem W7(ha:EV X e fa):IV X tg e (D0 fa):=by
 obtain ⟨t,pt,k⟩:=ha
 refine ⟨_,Gv pt,λO B σ H env ds R Rl e q=>?_⟩
 obtain ⟨r,e1,e2⟩:=bind_some e
 refine k O B σ H env r _ Rl e1 λv H1 s1 r1=>?_
 have hi:=r1.is λq=>Rl.oo
 cases hd:r.d with
 | bw ks es =>
  rw [hd] at hi e2
  cases e2
  cases hi with
  | bw ho hp hl hs=>exact ⟨_,_,_,_,rfl,hp,hl,q _ H1 s1 (b4I hp ho)⟩
 | _=>rw [hd] at e2;cases e2
theorem Rx(ha:EV X e fa)(bB:attributeBase e "values" X.env (eval e X.env)=eval e X.env:=by rfl)
  (gE:((backTo au (starEach [] X.env)).all (λx=>!x.1)&&(backToKw au (keywordEach [] X.env)).all (λx=>x.1.isSome)
   && decide (([]:List Expr).length+([]:List Keyword).length+(if ([]:List Keyword).isEmpty then 0 else 1)<30))=true:=by rfl)
  (bA:(p2.endLine==au.line)=true:=by rfl)(O8:backTo au (starEach [] X.env)=[]:=by rfl):IV X tg (.Call (.Attribute e "values" p2) [] [] au) (AE fa):=by
 obtain ⟨t,pt,k⟩:=ha
 refine ⟨_,Gu pt bB gE bA O8,λO B σ H env ds R Rl e q=>?_⟩
 obtain ⟨r,e1,e2⟩:=bind_some e
 refine k O B σ H env r _ Rl e1 λv H1 s1 r1=>?_
 have hi:=r1.is λq=>Rl.oo
 cases hd:r.d with
 | bw ks es =>
  rw [hd] at hi e2
  cases e2
  cases hi with
  | bw ho hp hl hs=>exact ⟨_,_,_,_,rfl,hp,hl,q _ H1 s1 (b4H hp ho hl hs)⟩
 | _=>rw [hd] at e2;cases e2
end
end DL
namespace DL
open PySem PySem.Spec PyProof.Rows L2
noncomputable def Jg(neg:Bool)(fk:En->Option Sl)(i:Nat):En->Option Sl:=λenv=>(BG (fk env)).bind λk=>match env[i]? with
 | some (.tw ks ds)=>some (.sh (.bl (neg != (iQ ks ds k).isSome)))
 | _=>none
section
variable {X:Cx}{N:List Str}{sc:Scope}{k:Nat}{full:Bool}{a:Expr}{fa:En->Option Sl}{pos p:Pos}{i:Nat}{x:Str}
theorem b4L{neg:Bool}{op:CmpOp}{td:TE->TE->TE}(hc:∀ta tb,PE X a ta->PE X (.Name x p) tb->PC X op a (.Name x p) (td ta tb))(hr:∀ta tb σ H Q,td ta tb σ H Q=(ta σ H λy H1=>tb σ H1 λx H2=>∃p o,x=.ref p/\my H2 p y o/\Q (.bl (neg != o.isSome)) H2))(ha:EV X a fa)
  (hN:X.N[i]?=some x)(hv:gm X.env.scope x)(hd:(x==("__debug__":Str))=false)(bM:(x==("__classdict__":Str))=false)(hm:behindInMarks op (.Name x p)=false):TV X (.Compare a [op] [.Name x p] pos) (bT (Jg neg fa i)):=by
 obtain ⟨ta,pa,ka⟩:=ha
 refine ⟨_,Yq (hc ta _ pa (oK hN hv hd bM)) hm,λO B σ H env c Q R e q=>?_⟩
 have e:=E8 e
 obtain ⟨n,e1,e⟩:=bind_some e
 show td ta _ σ H _
 rw [hr]
 refine ka O B σ H env _ _ R (JK e1) λvk H1 s1 r1=>?_
 have h2:vk=.str n:=oJ r1
 subst h2
 split at e
 .rename_i ks ds he
  cases e
  obtain ⟨pp,vs,f1,f2,f3,f4,f5⟩:=R.tw i ks ds he
  refine ⟨_,f1,pp,_,rfl,.inl ⟨_,.inr n,.inl (s1 _ _ f3),rfl,rfl⟩,_,?_,q _ s1⟩
  rw [ER]
  rcases EY (y:=n) f5 with ⟨z1,z2⟩ | ⟨v,d',z1,z2,z3⟩<;>rw [z1,z2]<;>rfl
 .cases e
theorem Fx.FR(h:Fx X N sc k full)(i:Nat){x:Str}(ha:EV X a fa)(hN:N[i]?=some x:=by rfl)(hv:gm sc x:=by first | exact cK rfl | exact bL (cK rfl) | exact bL (bL rfl))(hd:(x==("__debug__":Str))=false:=by rfl)(bM:(x==("__classdict__":Str))=false:=by rfl)(hm:behindInMarks .NotIn (.Name x p)=false:=by rfl):TV X (.Compare a [.NotIn] [.Name x p] pos) (bT (Jg true fa i)):=
 b4L (neg:=true) (td:=JH) (λta tb pa pb=>ZJ (Jh h.room) pa pb) (λta tb σ H Q=>by unfold JH;simp only [Bool.true_bne]) ha (h.ix hN) (h.oE hv) hd bM hm
end
theorem b6B{i:Nat}{env:En}{Q:D×En->Prop}:Wo (tU i env) Q↔bS env[i]? λds=>Wo ds[ds.length-1]? λd=>Q (d,env.set i (.ow ds.dropLast)):=by
 unfold tU
 cases h:env[i]? with
 | none=>simp [bS,Wo_none]
 | some s=>cases s<;>simp [bS,Wo_none,a1p]
section
variable {env:En}
theorem ZN{i:Nat}{fs:En->Option (List D)}{Q:List D×En->Prop}:Wo (ES i fs env) Q↔Wo (tU i env) λp=>Wo (fs p.2) λrs=>Q (p.1::rs,p.2):=by
 unfold ES;rw [a0k];exact jf λp=>a1p
theorem b2g{f:En->Option Sl}{g:En->Option (List D×En)}{Q:List D×En->Prop}:Wo (L6 f g env) Q↔Wo (f env) λr=>Wo (g env) λp=>Q (r.d::p.1,p.2):=by
 unfold L6;rw [a0k];exact jf λp=>a1p
theorem Dm{α:Type}{c:Prop}[Decidable c]{x:Option α}{Q:α->Prop}:Wo (if c then x else none) Q↔c/\Wo x Q:=by
 by_cases h:c
 .rw [if_pos h];exact ⟨λz=>⟨h,z⟩,λz=>z.2⟩
 .rw [if_neg h];exact ⟨λz=>(Wo_none.mp z).elim,λz=>(h z.1).elim⟩
theorem b3H{g:En->Option (List D×En)}{Q:D×En->Prop}:Wo (LU g env) Q↔Wo (g env) λp=>p.1.length<=16777216/\Q (.tup p.1,p.2):=by
 unfold LU;rw [a0k];exact jf λp=>by rw [Dm,a0e]
theorem b2e{n:Nat}{φ:List D->Option Sl}{g:En->Option (List D×En)}{Q:D×En->Prop}:Wo (Jv n φ g env) Q↔Wo (g env) λp=>p.1.length=n/\Wo (φ p.1) λr=>Q (r.d,p.2):=by
 unfold Jv;rw [a0k];exact jf λp=>by rw [Dm,a1p]
theorem Zo{i:Nat}{g:En->Option (D×En)}{Q:Fl×En->Prop}:Wo (Dh i g env) Q↔bS env[i]? λ_=>Wo (g env) λp=>bS p.2[i]? λds=>ds.length<16777216/\Q (.nx,p.2.set i (.ow (ds++[p.1]))):=by
 unfold Dh
 cases h:env[i]? with
 | none=>simp [bS,Wo_none]
 | some s =>
  cases s with
  | ow ds =>
   simp only [bS]
   rw [a0k]
   refine jf λp=>?_
   cases h2:p.2[i]? with
   | none=>simp [Wo_none]
   | some s2=>cases s2<;>simp [Wo_none,Dm,a0e]
  | _=>simp [bS,Wo_none]
theorem b3J{f:En->Option Sl}{Q:Sl->Prop}:Wo (Xd f env) Q↔Wo (f env) λr=>Wo (F9 r.d) λy=>Q (.sh (.str y)):=by
 unfold Xd;rw [a0k];exact jf λp=>a1p
theorem b9g{fo:En->Option Sl}{fe:En->Option (Bool×List D)}{Q:Sl->Prop}:Wo (CH fo fe env) Q↔Wo (mJ (fo env)) λz=>Wo (fe env) λx=>x.1=true/\Wo (rm x.2) λls=>(wK z ls<=16777216/\(mU z ls).length<=16777216)/\Q (.sh (.str (mU z ls))):=by
 unfold CH
 rw [a0k]
 refine jf λz=>?_
 rw [a0k]
 refine jf λx=>?_
 rw [Dm,a0k]
 refine and_congr_right λ_=>jf λls=>?_
 rw [Dm,a0e]
theorem b6x{i:Nat}{Q:Fl×En->Prop}:Wo (tS i env) Q↔bS env[i]? λds=>Q (.nx,env.set i (.ow ds.reverse)):=by
 unfold tS
 cases h:env[i]? with
 | none=>simp [bS,Wo_none]
 | some s=>cases s<;>simp [bS,Wo_none,a0e]
def OK(d:D)(Q:Sl->Prop):Prop:=match d with
 | .lst _ ds=>Wo (rm ds) λss=>ss.length+1<4096/\Q (.sh (.int (SE.lC SE.lX ss).length))
 | _=>False
theorem lsQ_l{r:Bool}{ds:List D}{Q:Sl->Prop}:OK (.lst r ds) Q↔Wo (rm ds) λss=>ss.length+1<4096/\Q (.sh (.int (SE.lC SE.lX ss).length)):=hU
theorem b0j{f:En->Option Sl}{Q:Sl->Prop}:Wo (Dp f env) Q↔Wo (f env) λr=>OK r.d Q:=by
 unfold Dp
 rw [a0k]
 refine jf λr=>?_
 cases r.d<;>simp [OK,Wo_none,a0k,Dm,a0e]
def P0(d:D)(Q:Sl->Prop):Prop:=match d with
 | .lst _ ds=>Wo (AX ds) λp=>p.1.Nodup/\Q (.sh (.bw p.1 p.2))
 | _=>False
theorem dpQ_l{r:Bool}{ds:List D}{Q:Sl->Prop}:P0 (.lst r ds) Q↔Wo (AX ds) λp=>p.1.Nodup/\Q (.sh (.bw p.1 p.2)):=hU
theorem a7S{f:En->Option Sl}{Q:Sl->Prop}:Wo (ET f env) Q↔Wo (f env) λr=>P0 r.d Q:=by
 unfold ET
 rw [a0k]
 refine jf λr=>?_
 cases r.d<;>simp [P0,Wo_none,a0k,Dm,a0e]
theorem b3I{neg:Bool}{fk:En->Option Sl}{i:Nat}{ks:List Str}{ds:List D}{Q:Sl->Prop}(he:env[i]?=some (.tw ks ds)):Wo (Jg neg fk i env) Q↔Wo (fk env) λs=>∃k,s=.sh (.str k)/\Q (.sh (.bl (neg != (iQ ks ds k).isSome))):=by
 unfold Jg
 rw [a0k,Mr,he]
 refine jf λs=>exists_congr λk=>and_congr_right λ_=>?_
 rw [a0e]
theorem Ib{f:En->Option Sl}{ks:List Str}{ds:List D}(h:f env=some (.sh (.bw ks ds))):D0 f env=some (ks.map D.str):=by unfold D0;rw [h];rfl
theorem Ia{f:En->Option Sl}{ks:List Str}{ds:List D}(h:f env=some (.sh (.bw ks ds))):AE f env=some ds:=by unfold AE;rw [h];rfl
end
end DL
namespace DL
open PySem PySem.Spec PyProof.Rows L2
section
variable {X:Cx}
end
end DL
namespace DL
open PySem PySem.Spec PyProof.Rows L2 PySem.SeqAt
section
variable {X:Cx}{pins:List (Addr×Obj)}{s:Shared}{σ:L2.St}{H:Hp}
end
end DL
namespace DL
open PySem PySem.Spec PyProof.Rows L2
section
variable {K:aK}{O O' O1 O2 L:Addr->Prop}{H:Hp}{d0:List D}
end
section
variable {X:Cx}{N N':List Str}{sc c7:Scope}{k:Nat}{full:Bool}{elt iter tg:Expr}{ifs:List Expr}{pos:Pos}{fi:En->Option (List D)}{caps:List Nat}{nt:Nat}{g:GF}{fc:En->Option Bool}{fe:En->Option Sl}
end
section
variable {X:Cx}{C:Addr}{F:IF}{st:Stmt}{hJ:List Stmt}
end
section
variable {P:Program}{w:World}{K:aK}{mg:Str->Option Value}{base:Heap}
end
section
variable {X:Cx}{N:List Str}{sc:Scope}{k j:Nat}{full:Bool}{e:Expr}{c f:Str}{pos p:Pos}
end
end DL
namespace DL
open PySem PySem.Spec PyProof.Rows L2
noncomputable def z6(K:aK)(mg:Str->Option Value)(C:Addr)(n:Nat)(ρ:List D->Option Str):Sp:=λvs H _ E=>∃(O:Addr->Prop) (p dx:Addr) (ws:List V) (ds:List D) (nm:Str),vs=.ref p::ws/\ws.length=n/\H p=some (.ins C dx [])/\zQ K O H/\O p/\aQ K O H ws ds/\ρ ds=some nm/\∀c H',mg nm=some c->(∀q u,H q=some u->q≠p->H' q=some u)->E c none H'
noncomputable abbrev RI:=En->List Str->List D->Option Str
def zP(X:Cx)(W:L2.St->Hp->Value->Prop)(hJ:List Stmt)(C:Addr)(R:RI):Prop:=
 ∃t:TS,oz X hJ t/\∀(O:Addr->Prop) (σ:L2.St) (H:Hp) (env:En) (p dx:Addr) (ns:List Str) (us:List V) (ds:List D) (nm:Str) (Dn:Ends),Rel X.K O H σ H env->(∀(i:Nat) s,env[i]?=some s->¬s.own)->O p->σ[0]?=some (some (V.ref p))->H p=some (.ins C dx (ns.zip us))->ns.length=us.length->aQ X.K O H us ds->R env ns ds=some nm ->
  (∀(aG:L2.St) (H':Hp) (c:Value),X.mg nm=some c->(∀q u,H q=some u->q≠p->H' q=some u)->W aG H' c)->t Dn σ H
noncomputable def nP(r:RF)(G:SF)(R:RI):RI:=λenv ns ds=>match r env with
 | some x=>some x.1
 | none=>match G env with
  | some (.nx,ag)=>if AW ag=true then R ag ns ds else none
  | _=>none
noncomputable def Jm(f:Str)(fe:En->Option Sl)(R:RI):RI:=λenv ns ds=>(fe env).bind λr=>if f∈ns\/900<ns.length then none else R env (ns++[f]) (ds++[r.d])
noncomputable def z9(ρ:List D->Option Str)(f:Str):RI:=λ_ ns ds=>((ns.zip ds).lookup f).bind λd=>ρ [d]
section
variable {X:Cx}{W:L2.St->Hp->Value->Prop}{C:Addr}{R:RI}{st:Stmt}{hJ:List Stmt}{e:Expr}{es:List Expr}{p pos au:Pos}
theorem zO.b8{F:SF}(h:zO X.b8 st F):zO X st F:=let ⟨t,p,k⟩:=h;⟨t,λpins s σ H D I hw=>jy (p pins s σ H D (I.gW _) hw) (λ_ _ q=>q.cG) λ_ _ z=>eA z,k⟩
theorem Rz{G:SF}{r:RF}(hx:XV X W st r)(h:zO X st G)(hr:zP X W hJ C R):zP X W (st::hJ) C (nP r G R):=by
 obtain ⟨tx,px,kx⟩:=hx
 obtain ⟨t,pt,k⟩:=h
 obtain ⟨u,pu,ku⟩:=hr
 refine ⟨λD σ H=>tx { D with nx:=u D } σ H\/t { D with nx:=u D } σ H,λpins s σ H D I hw=>?_,λO σ H env p dx ns us ds nm Dn R no op hs hp hl hi e q=>?_⟩
 .rcases hw with hw | hw
  .exact yJ px pu pins s σ H D I hw
  .exact yJ pt pu pins s σ H D I hw
 .unfold nP at e
  cases hr:r env with
  | some x =>
   rw [hr] at e
   obtain ⟨GS,ag⟩:=x
   cases e
   exact .inl (kx O H σ H env GS ag _ R hr λaG H' c hc R' _=>q aG H' c hc λq u e _=>R'.same _ _ e)
  | none =>
   rw [hr] at e
   dsimp only at e
   split at e
   .rename_i ag hG
    obtain ⟨nk,e2⟩:=zC e
    refine .inr (k O H σ H env ag _ R hG λaG H' R' g' h0=>?_)
    have sm:=R'.same
    exact ku O aG H' ag p dx ns us ds nm Dn (R'.rebase (Fd nk)) (Fd nk) op (h0.trans hs) (sm _ _ hp) hl (hi.grow sm) e2 λcF H2 c hc kp=>q cF H2 c hc λq u e ne=>kp q u (sm _ _ e) ne
   .cases e
theorem b8e{f x:Str}{fe:En->Option Sl}{p1 pos':Pos}(hv:EV X e fe)(hr:zP X W hJ C R)(c:nD X.K C)(n:ao X.K C f)
  (hN:X.N[0]?=some x)(eX:gm X.env.scope x)(hd:(x==("__debug__":Str))=false:=by rfl)(bM:(x==("__classdict__":Str))=false:=by rfl)
  (hs:swapsWith e (some (.Attribute (.Name x p1) f pos')) pos.line X.env=pure false:=by rfl):zP X W (.Assign [.Attribute (.Name x p1) f pos'] e pos::hJ) C (Jm f fe R):=by
 obtain ⟨t,pt,k⟩:=hv
 obtain ⟨u,pu,ku⟩:=hr
 refine ⟨_,yJ (RV (oK hN eX hd bM) pt hs) pu,λO σ H env p dx ns us ds nm Dn R no op hs hp hl hi e q=>?_⟩
 obtain ⟨r,e1,e2⟩:=bind_some e
 split at e2
 .cases e2
 rename_i nk
 rw [not_or] at nk
 refine k O H σ H env r _ R e1 λv H1 s1 r1=>?_
 have iv:=(r1.is λq=>R.oo).less (O':=O) λq z=>.inl z
 refine ⟨.ref p,hs,p,C,dx,ns.zip us,rfl,s1 _ _ hp,c,n,by rw [yr];omega,?_⟩
 rw [Mo nk.1 hl]
 have kp:∀q u,H1 q=some u->q≠p->upd H1 p (.ins C dx ((ns++[f]).zip (us++[v]))) q=some u:=λq u e ne=>by rw [dW ne];exact e
 have mp:∀{w:V} {d:D},Is X.K O H1 w d->Is X.K O (upd H1 p (.ins C dx ((ns++[f]).zip (us++[v])))) w d:=λh=>h.map (λ_ _ z=>z) λq u e nq=>kp q u e λz=>nq (by rw [z];exact op)
 have G0:∀{w:List V} {d:List D},aQ X.K O H1 w d->aQ X.K O (upd H1 p (.ins C dx ((ns++[f]).zip (us++[v])))) w d:=λh=>h.map (λ_ _ z=>z) λq u e nq=>kp q u e λz=>nq (by rw [z];exact op)
 have R1:Rel X.K O H1 σ H1 env:=(R.grow s1).rebase no
 exact ku O σ _ env p dx (ns++[f]) (us++[v]) (ds++[r.d]) nm Dn (R1.NO no op (s1 _ _ hp) kp (by rw [kn];exact λz=>nomatch z)) no op hs kn (by rw [fD,fD,hl];rfl) ((G0 (hi.grow s1)).append (.cons (mp iv) .nil)) e2 λaG H' c hc kq=>q aG H' c hc λq u e ne=>kq q u (kp q u (s1 _ _ e) ne) ne
theorem b2I{k:Nat}{f:Addr}{fd:FuncData}{ps:List Str}{sp:Sp}{x:Str}{t:TA}(F:bD X.prog X.w X.K X.mg X.base (mF X.prog X.w) k f fd ps sp)(hr:bZ k X.A)(hg:Gl X x)(hm:X.mg x=some (.ref f))(hk:sW X.K (.ref f)=true)(hb:Binds X.K fd ps [])
  (hx:Xk X W)(pt:PA X (e::es) t)(eY:(x==("__debug__":Str))=false:=by decide)(he:starEach (e::es) X.env=(false,eval e X.env)::starEach es X.env:=by rfl)(fm:(backTo pos (starEach es X.env)).any (·.1)=false:=by rfl):
  PE X (.Call (.Name x p) (e::es) [] pos) (λσ H Q=>t σ H λvs H1=>sp (vs++[]) H1 Q λc _ H'=>W σ H' c):=by
 intro pins s σ H Q I h
 refine C6 (zH I hg hm ?_ eY)
 refine Ey (h₀:=X.base) I.ok.mod.vB hk (bJ (pt pos pins s σ H _ I h) λus s1 ⟨vs,H1,I1,r,q⟩=>⟨I1.kA,?_⟩) he fm
 exact Xj F hr hb hx I1 r q
theorem G7{x f y:Str}{g:Addr}{fd:FuncData}{ps:List Str}{j:Nat}{ρ:List D->Option Str}{p1 p2 p3:Pos}(Fn:bD X.prog X.w X.K X.mg X.base (mF X.prog X.w) j g fd ps (DK X.K X.mg ps.length ρ))(mO:ps.length=1)(Hh:bZ j X.A)(hg:Gl X y)(hm:X.mg y=some (.ref g))(hk:sW X.K (.ref g)=true)(hb:Binds X.K fd ps [])
  (hx:Xk X W)(c:nD X.K C)(n:ao X.K C f)(hN:X.N[0]?=some x)(eX:gm X.env.scope x)(hd:(x==("__debug__":Str))=false:=by rfl)(bM:(x==("__classdict__":Str))=false:=by rfl)
  (Ap:attributeBase (.Name x p1) f X.env (eval (.Name x p1) X.env)=eval (.Name x p1) X.env:=by rfl)
  (eY:(y==("__debug__":Str))=false:=by decide)(he:starEach [.Attribute (.Name x p1) f p2] X.env=[(false,eval (.Attribute (.Name x p1) f p2) X.env)]:=by rfl)
  (hs:swapsWith (.Call (.Name y p3) [.Attribute (.Name x p1) f p2] [] au) none pos.line X.env=pure false:=by rfl):
  zP X W [.Expr (.Call (.Name y p3) [.Attribute (.Name x p1) f p2] [] au) pos] C (z9 ρ f):=by
 refine ⟨_,SK (zI (b2I Fn Hh hg hm hk hb hx (kY (RU (oK hN eX hd bM) Ap) mV he) eY he rfl) hs),λO σ H env p dx ns us ds nm Dn R no op hs hp hl hi e q=>?_⟩
 obtain ⟨d,e1,e3⟩:=bind_some e
 obtain ⟨v,hv,iv⟩:=MI hi e1
 refine ⟨.ref p,hs,p,C,dx,ns.zip us,v,rfl,hp,c,n,hv,?_⟩
 exact ⟨O,[d],nm,R.p8,.cons iv .nil,by rw [mO];rfl,e3,λc H1 hc s1=>q σ H1 c hc λq u e _=>s1 _ _ e⟩
theorem b0K{k:Nat}{f:Addr}{fd:FuncData}{ps:List Str}{sp:Sp}{pins:List (Addr×Obj)}{σ:L2.St}{H:Hp}{s:Shared}{Q:VK}{us:List Value}{vs:List V}(M:Mk X.K C f)(F:bD X.prog X.w X.K X.mg X.base (mF X.prog X.w) k f fd ps sp)(hr:bZ (k+1) X.A)(hb:Binds X.K fd ps [])
  (hx:Xk X W)(I:Inv X pins σ H s)(r:aL vs us)
  (h:∀x dx,H x=none->H dx=none->dx≠x->sp (.ref x::(vs++[])) (upd (upd H dx (.own x)) x (.ins C dx [])) (λv H2=>v=.cj/\Q (.ref x) H2) λc _ H'=>W σ H' c):
  wpAny (model X.prog X.w) X.A (call (.ref C) us) (EP X pins σ Q) X.xe s:=by
 have hq:=h (s.heap.objs.size+1) s.heap.objs.size (I.bg.fresh (zr _)) (I.bg.fresh (cw _)) (fg (oG _))
 have I2:=Inv.made (C:=C) I
 have r2:aL (V.ref (s.heap.objs.size+1)::(vs++[])) (cR (s.heap.objs.size+1)::(us++[])):=.cons rfl (r.append .nil)
 have hl:(cR (s.heap.objs.size+1)::us++[]).length=ps.length:=by
  have e:=r2.length
  rw [F.len _ _ _ _ hq] at e
  exact e.symm
 have HG:=hb _ (cR (s.heap.objs.size+1)::us) I2.kA hl
 rw [Eb] at HG
 refine CP (Zm (f:=f) I.kA M.makes M.init (beq_iff_eq.mp M.fn) (zx (F.run _ X.stack _ _ ⟨cR (s.heap.objs.size+1)::us,[]⟩ (cR (s.heap.objs.size+1)::(us++[])) _ _ _ (hr.make C us [])
  (I2.jR.make C us []) HG r2 hq) λr s' fO=>?_))
 cases r with
 | error e=>exact hx pins σ _ _ e s' I2 fO
 | ok fl =>
  cases fl with
  | ret u =>
   obtain ⟨v,H',I3,rv,ev,q3⟩:=I2.after fO
   subst ev
   exact ⟨rv,⟨V.ref (s.heap.objs.size+1),H',I3,rfl,q3⟩⟩
  | next=>exact eA fO
  | brk=>exact eA fO
  | cont=>exact eA fO
theorem Ic{k n:Nat}{f:Addr}{fd:FuncData}{ps:List Str}{ρ:List D->Option Str}{x:Str}{fs:En->Option (List D)}(M:Mk X.K C f)(F:bD X.prog X.w X.K X.mg X.base (mF X.prog X.w) k f fd ps (z6 X.K X.mg C n ρ))(hr:bZ (k+1) X.A)(hg:Gl X x)(hm:X.mg x=some (.ref C))(hb:Binds X.K fd ps [])
  (hx:Xk X W)(ha:AV X (e::es) fs)(eY:(x==("__debug__":Str))=false:=by decide)(he:starEach (e::es) X.env=(false,eval e X.env)::starEach es X.env:=by rfl)(fm:(backTo pos (starEach es X.env)).any (·.1)=false:=by rfl):
  EX X W (.Call (.Name x p) (e::es) [] pos) (yI n ρ fs):=by
 obtain ⟨t,pt,ka⟩:=ha
 refine ⟨λσ H Q=>t σ H λvs H1=>∀x dx,H1 x=none->H1 dx=none->dx≠x->z6 X.K X.mg C n ρ (.ref x::(vs++[])) (upd (upd H1 dx (.own x)) x (.ins C dx [])) (λv H2=>v=.cj/\Q (.ref x) H2) λc _ H'=>W σ H' c,λpins s σ H Q I h=>?_,λO B σ H env nm Q R e q=>?_⟩
 .refine C6 (zH I hg hm ?_ eY)
  refine Ey (h₀:=X.base) I.ok.mod.vB M.kp (bJ (pt pos pins s σ H _ I h) λus s1 ⟨vs,H1,I1,r,q⟩=>⟨I1.kA,?_⟩) he fm
  exact b0K M F hr hb hx I1 r q
 .obtain ⟨ds,e1,e2⟩:=bind_some e
  refine ka O B σ H env ds _ R e1 λvs H1 s1 r1=>?_
  obtain ⟨hn,e2⟩:=zC e2
  intro x dx nx OF ne
  have up1:∀q u,H1 q=some u->upd (upd H1 dx (.own x)) x (.ins C dx []) q=some u:=λq u e=>by rw [dW (pO e nx),dW (pO e OF)];exact e
  refine ⟨λq=>OO O σ env q\/q=x,x,dx,vs,ds,nm,by rw [yu],by rw [r1.length];exact hn,kn,⟨λq hq=>?_,(R.grow s1).dm.2.grow λq u e=>up1 q u e⟩,.inr rfl,r1.map (λq hq hn z=>z.elim hn λe=>hq (by rw [e];exact nx)) λq u e _=>up1 q u e,e2,λc H' hc kp=>q c H' hc (s1.trans λq u e=>kp q u (up1 q u e) (pO e nx))⟩
  rcases hq with hq | rfl
  .cases hz:H1 q with
   | none=>exact absurd hz ((R.grow s1).oo hq)
   | some u=>rw [up1 q u hz];exact λz=>nomatch z
  .rw [kn];exact λz=>nomatch z
end
noncomputable def RJ(R:RI)(N:Nat)(ds:List D):Option Str:=R (.no::iS (N-1) ds) [] []
def FC(P:Program)(w:World)(K:aK)(mg:Str->Option Value)(base:Heap)(c:Str)(n:Nat)(j:Nat)(ρ:List D->Option Str):Prop:=∃C f fd ps,Mk K C f/\bD P w K mg base (mF P w) j f fd ps (z6 K mg C n ρ)/\mg c=some (.ref C)/\Binds K fd ps []
section
variable {P:Program}{w:World}{K:aK}{mg:Str->Option Value}{base:Heap}
theorem b27{qual:Str}{st:Stmt}{f C:Addr}{fd:FuncData}{N ps:List Str}{k n:Nat}{R:RI}(Fn:tL K "__init__" qual st f fd)(S:bC N ps (dg st))(mO:ps.length=n+1)(hN:1<=N.length)
  (br:∀(X:Cx) (W:L2.St->Hp->Value->Prop),X.prog=P->X.w=w->X.K=K->X.mg=mg->X.base=base->Fx X.b8 N (dg st) k->Xk X W->Xr X W->zP X W (hV st) C R):bD P w K mg base (mF P w) (k+1) f fd ps (z6 K mg C n (RJ R N.length)):=by
 obtain ⟨oc,od,kV,doc,pm,an,dX,ct,xD,rfl,lk,bM⟩:=Fn.ex
 refine L4 lk bM S (λvs H Q E h=>?_) λA outer s H vs Q E hr sG=>?_
 .obtain ⟨O,p,dx,ws,ds,nm,rfl,hl,_⟩:=h
  rw [gq,hl,mO]
 obtain ⟨O,p,dx,ws,ds,nm,rfl,hl,hp,dm,op,hi,e,q⟩:=sG
 obtain ⟨t,pt,kk⟩:=br (gO (mF P w) P w K mg base N qual (dg st) f dX A outer s H E) (λ_ H' c=>E c none H') rfl rfl rfl rfl rfl ⟨rfl,rfl,rfl,λ_ _=>rfl,AN,hr,S.nd,λ_=>⟨rfl,rfl,rfl⟩⟩ RG RH
 refine ⟨t,pt,?_⟩
 have R0:=Fg (N:=N.tail) dm hi
 have R1:=SS (some (V.ref p)) R0
 have es:some (V.ref p)::start N.tail ws=start N (V.ref p::ws):=by
  unfold L2.start
  rw [fE,Eb,Ea,gq,Ql,Qo 1]
 rw [es,Ea] at R1
 refine kk O _ H _ p dx [] [] [] nm _ R1 (λi s h1 h2=>?_) op rfl hp rfl .nil e λaG H' c hc kp=>q c H' hc kp
 cases i with
 | zero=>cases h1;exact h2
 | succ i =>
  have h1:(iS (N.length-1) ds)[i]?=some s:=by simpa using h1
  unfold iS at h1
  rw [IM] at h1
  split at h1
  .rw [mB] at h1
   obtain ⟨d,_,e⟩:=map_some h1
   cases e
   exact h2
  .rw [C1] at h1
   split at h1
   .cases h1;exact h2
   .cases h1
theorem HV{c qual:Str}{st:Stmt}{f C:Addr}{fd:FuncData}{N ps:List Str}{k n:Nat}{R:RI}(hm:mg c=some (.ref C))(M:Mk K C f)(D':c9 K f "__init__" qual st ps fd)
  (br:∀(X:Cx) (W:L2.St->Hp->Value->Prop),Sx X P w K mg base->Fx X.b8 N (dg st) k->Xk X W->Xr X W->zP X W (hV st) C R)(mO:ps.length=n+1:=by rfl)(hN:1<=N.length:=by decide)(S:bC N ps (dg st):=by exact ⟨rfl,rfl,rfl,by decide +kernel,rfl,by decide +kernel,by decide +kernel⟩):FC P w K mg base c n (k+1) (RJ R N.length):=
 ⟨C,f,fd,ps,M,b27 D'.fn S mO hN λX W e1 e2 e3 e4 e5=>by subst e1 e2 e3 e4 e5;exact br X W (.mk X),hm,D'.bd⟩
end
theorem OH{X X':Cx}{c:Str}{n j:Nat}{ρ:List D->Option Str}(e1:X'.prog=X.prog)(e2:X'.w=X.w)(e3:X'.K=X.K)(e4:X'.mg=X.mg)(e5:X'.base=X.base)(O:FC X.prog X.w X.K X.mg X.base c n j ρ):FC X'.prog X'.w X'.K X'.mg X'.base c n j ρ:=by
 rw [e1,e2,e3,e4,e5];exact O
section
variable {X:Cx}{W:L2.St->Hp->Value->Prop}{N:List Str}{sc:Scope}{k j n:Nat}{full:Bool}{C:Addr}{R:RI}{hJ:List Stmt}{x:Str}
theorem Fx.xmk{c:Str}{ρ:List D->Option Str}{e:Expr}{es:List Expr}{fs:En->Option (List D)}{p pos:Pos}(h:Fx X.b8 N sc k full)(O:FC X.prog X.w X.K X.mg X.base c n j ρ)(hx:Xk X W)(ha:AV X (e::es) fs)(hj:j+1<=k:=by decide)(hg:sc.names.lookup c=some .globalImplicit:=by rfl)(eY:(c==("__debug__":Str))=false:=by decide)(he:starEach (e::es) X.env=(false,eval e X.env)::starEach es X.env:=by rfl)(fm:(backTo pos (starEach es X.env)).any (·.1)=false:=by rfl):
  EX X W (.Call (.Name c p) (e::es) [] pos) (yI n ρ fs):=by
 obtain ⟨C,f,fd,ps,M,F,hm,hb⟩:=O
 exact Ic M F (h.room.mono hj) (h.g hg) hm hb hx ha eY he fm
theorem Fx.Vx{e:Expr}{f:Str}{fe:En->Option Sl}{p1 pos' pos:Pos}(h:Fx X.b8 N sc k full)(c:nD X.K C)(n:ao X.K C f)(hv:EV X e fe)(hr:zP X W hJ C R)(hN:N[0]?=some x:=by rfl)(eX:gm sc x:=by first | exact cK rfl | exact bL (cK rfl) | exact bL (bL rfl))(hd:(x==("__debug__":Str))=false:=by rfl)(bM:(x==("__classdict__":Str))=false:=by rfl)
  (hs:swapsWith e (some (.Attribute (.Name x p1) f pos')) pos.line X.env=pure false:=by rfl):zP X W (.Assign [.Attribute (.Name x p1) f pos'] e pos::hJ) C (Jm f fe R):=b8e hv hr c n (h.ix hN) (h.oE eX) hd bM hs
theorem Fx.ixc{f y:Str}{st:Stmt}{ps:List Str}{ρ:List D->Option Str}{p1 p2 p3 pos au:Pos}(h:Fx X.b8 N sc k full)(O:Xz X.prog X.w X.K X.mg X.base y st ps j ρ)(hx:Xk X W)(c:nD X.K C)(n:ao X.K C f)(hj:j<=k:=by decide)(mO:ps.length=1:=by rfl)(hg:sc.names.lookup y=some .globalImplicit:=by rfl)
  (hN:N[0]?=some x:=by rfl)(eX:gm sc x:=by first | exact cK rfl | exact bL (cK rfl) | exact bL (bL rfl))(hd:(x==("__debug__":Str))=false:=by rfl)(bM:(x==("__classdict__":Str))=false:=by rfl)
  (Ap:attributeBase (.Name x p1) f X.env (eval (.Name x p1) X.env)=eval (.Name x p1) X.env:=by rfl)
  (eY:(y==("__debug__":Str))=false:=by decide)(he:starEach [.Attribute (.Name x p1) f p2] X.env=[(false,eval (.Attribute (.Name x p1) f p2) X.env)]:=by rfl)
  (hs:swapsWith (.Call (.Name y p3) [.Attribute (.Name x p1) f p2] [] au) none pos.line X.env=pure false:=by rfl):
  zP X W [.Expr (.Call (.Name y p3) [.Attribute (.Name x p1) f p2] [] au) pos] C (z9 ρ f):=by
 obtain ⟨g,fd,D',Fn⟩:=O
 exact G7 Fn mO (h.room.mono hj) (h.g hg) D'.m D'.fn.kp D'.bd hx c n (h.ix hN) (h.oE eX) hd bM Ap eY he hs
end
end DL
namespace My
open PySem L2 DL
noncomputable def top(i:Nat):Stmt:=PySem.Challenge.pw_offerhouse_k82_books_refused.main.body.getD i (.Pass ⟨0,0,0,0⟩)
noncomputable def Sr:List Str:=["Named"]
noncomputable def L7:List Str:=["Sum","Cheaper","Dearer","Only","After","Fee"]
noncomputable def S1:List Str:=["Sum","Cheaper","Dearer"]
noncomputable abbrev a3P:Stmt:=pN (top 9) 5
noncomputable abbrev Ud{α:Type}(Y:Str->Str->Stmt->List Str->α):α:=Y "parts" "Rule.parts" a3P ["self"]
noncomputable abbrev a3R:Stmt:=pN (top 17) 1
noncomputable abbrev Ub{α:Type}(Y:Str->Str->Stmt->List Str->α):α:=Y "parts" "Pair.parts" a3R ["self"]
noncomputable abbrev a2T:Stmt:=pN (top 21) 1
noncomputable abbrev T'{α:Type}(Y:Str->Str->Stmt->List Str->α):α:=Y "parts" "Single.parts" a2T ["self"]
noncomputable abbrev a2t:Stmt:=pN (top 9) 4
noncomputable abbrev M4{α:Type}(Y:Str->Str->Stmt->List Str->α):α:=Y "all_names" "Rule.all_names" a2t ["self"]
noncomputable abbrev a2a:Stmt:=pN (top 16) 1
noncomputable abbrev M1{α:Type}(Y:Str->Str->Stmt->List Str->α):α:=Y "all_names" "Named.all_names" a2a ["self"]
noncomputable abbrev a3Q:Stmt:=pN (top 9) 3
noncomputable abbrev Uc{α:Type}(Y:Str->Str->Stmt->List Str->α):α:=Y "names" "Rule.names" a3Q ["self"]
noncomputable abbrev a2Z:Stmt:=pN (top 32) 0
noncomputable abbrev a3o{α:Type}(Y:Str->Str->Stmt->List Str->α):α:=Y "__init__" "Book.__init__" a2Z ["self","offers"]
noncomputable abbrev a2X:Stmt:=pN (top 11) 0
noncomputable abbrev a5L{α:Type}(Y:Str->Str->Stmt->List Str->α):α:=Y "__init__" "Flat.__init__" a2X ["self","price","low","high"]
noncomputable abbrev a2H:Stmt:=pN (top 16) 0
noncomputable abbrev a43{α:Type}(Y:Str->Str->Stmt->List Str->α):α:=Y "__init__" "Named.__init__" a2H ["self","name"]
noncomputable abbrev a2V:Stmt:=pN (top 17) 0
noncomputable abbrev T9{α:Type}(Y:Str->Str->Stmt->List Str->α):α:=Y "__init__" "Pair.__init__" a2V ["self","one","other"]
noncomputable abbrev a2s:Stmt:=pN (top 21) 0
noncomputable abbrev Uo{α:Type}(Y:Str->Str->Stmt->List Str->α):α:=Y "__init__" "Single.__init__" a2s ["self","one"]
noncomputable abbrev a2W:Stmt:=pN (top 22) 0
noncomputable abbrev a5K{α:Type}(Y:Str->Str->Stmt->List Str->α):α:=Y "__init__" "Only.__init__" a2W ["self","one","low","high"]
noncomputable abbrev a3s:Stmt:=pN (top 24) 0
noncomputable abbrev a6f{α:Type}(Y:Str->Str->Stmt->List Str->α):α:=Y "__init__" "Fee.__init__" a3s ["self","one","price"]
noncomputable abbrev a2I:Stmt:=pN (top 23) 0
noncomputable abbrev a44{α:Type}(Y:Str->Str->Stmt->List Str->α):α:=Y "__init__" "After.__init__" a2I ["self","one","count"]
noncomputable abbrev a2u:Stmt:=pN (top 15) 0
noncomputable abbrev a4I{α:Type}(Y:Str->Str->Stmt->List Str->α):α:=Y "__init__" "Blocks.__init__" a2u ["self","size","price","many"]
noncomputable abbrev a2U:Stmt:=pN (top 12) 0
noncomputable abbrev a3n{α:Type}(Y:Str->Str->Stmt->List Str->α):α:=Y "__init__" "Rows.__init__" a2U ["self","rows"]
noncomputable abbrev a2Y:Stmt:=pN (top 10) 0
noncomputable abbrev a5M{α:Type}(Y:Str->Str->Stmt->List Str->α):α:=Y "__init__" "Each.__init__" a2Y ["self","unit","low","high"]
noncomputable abbrev a5V:Stmt:=top 50
noncomputable abbrev TN{α:Type}(Y:Str->Stmt->List Str->α):α:=Y "_law_due" a5V ["kinds","count"]
noncomputable def Th:SF:=
 (aD (cz (bT (ah yb (eV 1) (eC (.int 30))))
 (bz (eC (.int 0))) de)
 (aD (wH (iY Jl (ae (eC (.int 1)) (ae (eC (.int 5)) aa))) (gN 2)
 (cz (bT (ah Bs (eV 2) (eV 0)))
 (bz (eV 2)) de))
 (bz (eC (.int 9)))))
noncomputable def BM:List D->Option Sl:=cf Th 3
theorem uQ:Wo (BM [a0,a1]) Q↔Wo (Th [.sh a0,.sh a1,.no]) (dA Q):=nA
noncomputable def a7W:SF:=
 (bz (b9 aa))
noncomputable def BP:List D->Option Sl:=cf a7W 1
noncomputable def a7X:SF:=
 (bz (b9 (ae (qV L7 "one" (eV 0)) (ae (qV S1 "other" (eV 0)) aa))))
noncomputable def JX:List D->Option Sl:=cf a7X 1
noncomputable def a5R:SF:=
 (bz (b9 (ae (qV L7 "one" (eV 0)) aa)))
noncomputable def JU:List D->Option Sl:=cf a5R 1
noncomputable def Fi:fj:=[("Each",BP),("Flat",BP),("Bands",BP),("Steps",BP),("Blocks",BP),("Named",BP),("Sum",JX),("Cheaper",JX),("Dearer",JX),("Only",JU),("After",JU),("Fee",JU)]
noncomputable def JT(kp:fj):SF:=
 (aD (kz 1 (b9 aa))
 (aD (jh (pK "parts" 1 Fi (eV 0) aa) (gN 2)
 (qy 1 (pK "all_names" 1 kp (eV 2) aa)))
 (zD 1)))
noncomputable def mE(kp:fj):List D->Option Sl:=cf (JT kp) 3
theorem dN{kp:fj}:Wo (mE kp [a0]) Q↔Wo (JT kp [.sh a0,.no,.no]) (dA Q):=nA
noncomputable def a4B(kp:fj):SF:=
 (bz (b9 (ae (qV Sr "name" (eV 0)) aa)))
noncomputable def M2(kp:fj):List D->Option Sl:=cf (a4B kp) 1
noncomputable def a3p(kp:fj):fj:=[("Each",mE kp),("Flat",mE kp),("Bands",mE kp),("Steps",mE kp),("Blocks",mE kp),("Named",M2 kp),("Sum",mE kp),("Cheaper",mE kp),("Dearer",mE kp),("Only",mE kp),("After",mE kp),("Fee",mE kp)]
noncomputable def wL:Nat->fj
 | 0=>[]
 | n+1=>a3p (wL n)
noncomputable def TY:SF:=
 (bz (LR (pK "all_names" 1 (wL 6) (eV 0) aa)))
noncomputable def qd:List D->Option Sl:=cf TY 1
theorem oy:Wo (qd [a0]) Q↔Wo (TY [.sh a0]) (dA Q):=nA
noncomputable def uO:fj:=[("Each",qd),("Flat",qd),("Bands",qd),("Steps",qd),("Blocks",qd),("Named",qd),("Sum",qd),("Cheaper",qd),("Dearer",qd),("Only",qd),("After",qd),("Fee",qd)]
noncomputable abbrev a2S:Stmt:=top 36
noncomputable abbrev Ua{α:Type}(Y:Str->Stmt->List Str->α):α:=Y "reached_from" a2S ["rules","name"]
noncomputable def a24:En->Nat:=λ_=>1000000
noncomputable def T8:SF:=
 (aD (kz 2 PX)
 (aD (kz 3 (pK "names" 1 uO (D1 (eV 0) (eV 1)) aa))
 (aD (Mg a24 (LY (bV 3))
 (aD (qx 4 3)
 (cz (bT (Jg true (eV 4) 2))
 (aD (DN 2 (eC (.bl true)) (eV 4))
 (qy 3 (pK "names" 1 uO (D1 (eV 0) (eV 4)) aa))) de)))
 (zD 2))))
noncomputable def qe:List D->Option Sl:=cf T8 5
theorem mx:Wo (qe [a0,a1]) Q↔Wo (T8 [.sh a0,.sh a1,.no,.no,.no]) (dA Q):=nA
noncomputable abbrev a3q:Stmt:=top 35
noncomputable abbrev Fm{α:Type}(Y:Str->Stmt->List Str->α):α:=Y "check_needs" a3q ["rules"]
noncomputable def a4b:SF:=
 (aD (wH (AE (eV 0)) (gN 1)
 (jh (pK "names" 1 uO (eV 1) aa) (gN 2)
 (cz (bT (gM true (eV 2) (eV 0)))
 oj de)))
 (wH (D0 (eV 0)) (gN 2)
 (cz (bT (gM false (eV 2) (bh 2 qe (ae (eV 0) (ae (eV 2) aa)))))
 oj de)))
noncomputable def zK:List D->Option Sl:=cf a4b 3
noncomputable def a6Z:RF:=
 (oZ (tD (AE (eV 0)) (gN 1)
 (jh (pK "names" 1 uO (eV 1) aa) (gN 2)
 (cz (bT (gM true (eV 2) (eV 0)))
 oj de))
 (tD (fw (pK "names" 1 uO (eV 1) aa)) (gN 2)
 (cz (bT (gM true (eV 2) (eV 0)))
 oj de)
 (pZ (bT (gM true (eV 2) (eV 0)))
 (oi "NoOffer" (ae (oI (gk (eC (.str "no offer is called ")) (gk (uk (eV 2)) gY))) aa)) pY))) (wH (AE (eV 0)) (gN 1)
 (jh (pK "names" 1 uO (eV 1) aa) (gN 2)
 (cz (bT (gM true (eV 2) (eV 0)))
 oj de)))
 (tD (D0 (eV 0)) (gN 2)
 (cz (bT (gM false (eV 2) (bh 2 qe (ae (eV 0) (ae (eV 2) aa)))))
 oj de)
 (pZ (bT (gM false (eV 2) (bh 2 qe (ae (eV 0) (ae (eV 2) aa)))))
 (oi "Ring" (ae (oI (gk (eC (.str "the offer ")) (gk (uk (eV 2)) (gk (eC (.str " names itself")) gY)))) aa)) pY)))
noncomputable def zL:List D->Option Str:=lR a6Z 3
noncomputable abbrev a5W:Stmt:=top 29
noncomputable abbrev TM{α:Type}(Y:Str->Stmt->List Str->α):α:=Y "is_name" a5W ["text"]
noncomputable def Tg:SF:=
 (aD (cz (mI (n9 (AR (bT (ah KZ (eC (.int 1)) (EF (eV 0)))) (bT (ah KZ (EF (eV 0)) (eC (.int 8)))))) (bT (ah Bs (eV 0) (eC (.tup [D.str "each",D.str "from",D.str "to",D.str "flat",D.str "bands",D.str "steps",D.str "blocks",D.str "at",D.str "times",D.str "plus",D.str "or",D.str "max",D.str "only",D.str "after",D.str "roomy",D.str "fee"])))))
 (bz (eC (.bl false))) de)
 (bz (AG (pG (gS (yi (eV 0)) [] 1 (gN 0) km (ah uh (eV 0) (eC (.str "abcdefghijklmnopqrstuvwxyz"))))))))
noncomputable def mW:List D->Option Sl:=cf Tg 1
theorem uR:Wo (mW [a0]) Q↔Wo (Tg [.sh a0]) (dA Q):=nA
noncomputable abbrev a3r:Stmt:=top 34
noncomputable abbrev Fk{α:Type}(Y:Str->Stmt->List Str->α):α:=Y "check_names" a3r ["names"]
noncomputable def Ui:SF:=
 (aD (jh (eV 0) (gN 1)
 (cz (n9 (ie (bh 1 mW (ae (eV 1) aa))))
 oj de))
 (cz (bT (ah vL (Dp (eV 0)) (cV (bV 0))))
 oj de))
noncomputable def yM:List D->Option Sl:=cf Ui 2
noncomputable def a60:RF:=
 (oZ (tD (fw (eV 0)) (gN 1)
 (cz (n9 (ie (bh 1 mW (ae (eV 1) aa))))
 oj de)
 (pZ (n9 (ie (bh 1 mW (ae (eV 1) aa))))
 (oi "BadName" (ae (oI (gk (mQ (eV 1)) (gk (eC (.str " is no name")) gY))) aa)) pY)) (jh (eV 0) (gN 1)
 (cz (n9 (ie (bh 1 mW (ae (eV 1) aa))))
 oj de))
 (pZ (bT (ah vL (Dp (eV 0)) (cV (bV 0))))
 (oi "Twice" (ae (eC (.str "a name stands twice")) aa)) pY))
noncomputable def BQ:List D->Option Str:=lR a60 2
theorem mZ:Wo (yM [a0]) Q↔Wo (Ui [.sh a0,.no]) (dA Q):=nA
noncomputable abbrev a3O:Stmt:=top 33
noncomputable abbrev Fy{α:Type}(Y:Str->Stmt->List Str->α):α:=Y "check_many" a3O ["many"]
noncomputable def TZ:SF:=
 (cz (bT (ah yb (eV 0) (eC (.int 30))))
 oj de)
noncomputable def A4:List D->Option Sl:=cf TZ 1
noncomputable def a7U:RF:=
 (pZ (bT (ah yb (eV 0) (eC (.int 30))))
 (oi "TooMany" (ae (eC (.str "there are too many offers")) aa)) pY)
noncomputable def JY:List D->Option Str:=lR a7U 1
theorem ox:Wo (A4 [a0]) Q↔Wo (TZ [.sh a0]) (dA Q):=nA
noncomputable def BL:List Str:=["offers","rules"]
noncomputable def oM:List D->Option (List D):=dj (Aj (dM 2 (gS (fw (eV 1)) [] 2 (gT 2 (kX (gN 0) (kX (gN 1) tF))) km (dF (ae (eV 0) (ae (eV 1) aa))))) (Aj (rj (bh 1 A4 (ae (cV (bV 2)) aa))) (Aj (rj (bh 1 yM (ae (gS (fw (eV 2)) [] 2 (gT 2 (kX (gN 0) (kX (gN 1) tF))) km (eV 0)) aa))) (cI "offers" (eV 2) (cI "rules" (ET (eV 2)) (OY zK "rules" iB)))))) 3 BL
noncomputable def qg:List D->Option Str:=RJ (nP pY (dM 2 (gS (fw (eV 1)) [] 2 (gT 2 (kX (gN 0) (kX (gN 1) tF))) km (dF (ae (eV 0) (ae (eV 1) aa))))) (nP (rE (yI 1 JY (ae (cV (bV 2)) aa))) (rj (bh 1 A4 (ae (cV (bV 2)) aa))) (nP (rE (yI 1 BQ (ae (gS (fw (eV 2)) [] 2 (gT 2 (kX (gN 0) (kX (gN 1) tF))) km (eV 0)) aa))) (rj (bh 1 yM (ae (gS (fw (eV 2)) [] 2 (gT 2 (kX (gN 0) (kX (gN 1) tF))) km (eV 0)) aa))) (Jm "offers" (eV 2) (Jm "rules" (ET (eV 2)) (z9 zL "rules")))))) 3
noncomputable def rp:List Str:=["price","low","high"]
noncomputable def wJ:List D->Option (List D):=dj (cI "price" (eV 1) (cI "low" (eV 2) (cI "high" (eV 3) iB))) 4 rp
noncomputable def BJ:List Str:=["name"]
noncomputable def Ff:List D->Option (List D):=dj (cI "name" (eV 1) iB) 2 BJ
noncomputable def E1:List Str:=["one","other"]
noncomputable def Mn:List D->Option (List D):=dj (cI "one" (eV 1) (cI "other" (eV 2) iB)) 3 E1
noncomputable def zJ:List Str:=["one"]
noncomputable def A1:List D->Option (List D):=dj (cI "one" (eV 1) iB) 2 zJ
noncomputable def E4:List Str:=["one","low","high"]
noncomputable def ME:List D->Option (List D):=dj (Ji 1 zJ A1 (ae (eV 1) aa) (cI "low" (eV 2) (cI "high" (eV 3) iB))) 4 E4
noncomputable def EZ:List Str:=["one","price"]
noncomputable def Mm:List D->Option (List D):=dj (Ji 1 zJ A1 (ae (eV 1) aa) (cI "price" (eV 2) iB)) 3 EZ
noncomputable def Fz:List Str:=["one","other"]
noncomputable def M0:List D->Option (List D):=dj (cI "one" (eV 1) (cI "other" (eV 2) iB)) 3 Fz
noncomputable abbrev a5U:Stmt:=top 39
noncomputable abbrev TQ{α:Type}(Y:Str->Stmt->List Str->α):α:=Y "_law_mix" a5U ["cell","k","size"]
noncomputable def Ti:SF:=
 (aD (dM 3 (ah bb (eC (.int 271828182845904523536028747135266249775724709369995)) (ah iG (ah iG (eC (.int 2)) (eV 1)) (eV 1))))
 (aD (dM 4 (ah bb (ah iG (ah bb (ah ej (eV 0) (ah mj (eC (.int 10)) (eC (.int 60)))) (eC (.int 1))) (eV 3)) (ah iG (eC (.int 7907)) (eV 1))))
 (bz (ah ej (ah kD (ah ej (ah iG (eV 4) (eV 4)) (ah bb (ah mj (eC (.int 10)) (eC (.int 60))) (eC (.int 7)))) (eC (.int 11))) (eV 2)))))
noncomputable def gr:List D->Option Sl:=cf Ti 5
theorem uP:Wo (gr [a0,a1,a2]) Q↔Wo (Ti [.sh a0,.sh a1,.sh a2,.no,.no]) (dA Q):=nA
noncomputable abbrev a3M:Stmt:=top 49
noncomputable abbrev Ug{α:Type}(Y:Str->Stmt->List Str->α):α:=Y "_law_spoilt" a3M ["kind","cell","offers"]
noncomputable def Ul:SF:=
 (aD (dM 3 (bh 3 gr (ae (eV 1) (ae (eC (.int 90)) (ae (ah bb (cV (bV 2)) (eC (.int 1))) aa)))))
 (aD (dM 4 (b9 (ae (eC (.str "")) (ae (eC (.str "each")) (ae (eC (.str "Ab")) (ae (eC (.str "a b")) (ae (eC (.str "abcdefghi")) (ae (eC (.str "p1")) (ae (eC (.str "roomy")) aa)))))))))
 (aD (dM 5 (b9 aa))
 (aD (cz (bT (ah bK (eV 0) (eC (.int 1))))
 (dM 5 (b9 (ae (dF (ae (cW (bV 4) (bh 3 gr (ae (eV 1) (ae (eC (.int 91)) (ae (cV (bV 4)) aa))))) (ae (iH "Flat" 3 rp wJ (ae (eC (.int 1)) (ae (eC (.int 0)) (ae (eC (.int 1)) aa)))) aa))) aa))) de)
 (aD (cz (bT (ah bK (eV 0) (eC (.int 2))))
 (dM 5 (b9 (ae (dF (ae (cW (pG (cW (bV 2) (bh 3 gr (ae (eV 1) (ae (eC (.int 92)) (ae (cV (bV 2)) aa)))))) (eC (.int 0))) (ae (iH "Flat" 3 rp wJ (ae (eC (.int 1)) (ae (eC (.int 0)) (ae (eC (.int 1)) aa)))) aa))) aa))) de)
 (aD (cz (bT (ah bK (eV 0) (eC (.int 3))))
 (dM 5 (b9 (ae (dF (ae (eC (.str "yya")) (ae (iH "Cheaper" 2 Fz M0 (ae (iH "Flat" 3 rp wJ (ae (eC (.int 1)) (ae (eC (.int 0)) (ae (eC (.int 1)) aa)))) (ae (iH "Fee" 2 EZ Mm (ae (iH "Named" 1 BJ Ff (ae (eC (.str "yyb")) aa)) (ae (eC (.int 2)) aa))) aa))) aa))) aa))) de)
 (aD (cz (bT (ah bK (eV 0) (eC (.int 4))))
 (dM 5 (b9 (ae (dF (ae (eC (.str "yyc")) (ae (iH "Only" 3 E4 ME (ae (iH "Named" 1 BJ Ff (ae (eC (.str "yyd")) aa)) (ae (eC (.int 0)) (ae (eC (.int 4)) aa)))) aa))) (ae (dF (ae (eC (.str "yyd")) (ae (iH "Sum" 2 E1 Mn (ae (iH "Flat" 3 rp wJ (ae (eC (.int 1)) (ae (eC (.int 0)) (ae (eC (.int 1)) aa)))) (ae (iH "Named" 1 BJ Ff (ae (eC (.str "yyc")) aa)) aa))) aa))) aa)))) de)
 (aD (cz (mI (bT (ah bK (eV 0) (eC (.int 5)))) (bT (ah bK (eV 0) (eC (.int 6)))))
 (aD (dM 6 (eC (.str "abcdefghijklmnopqrstuvwxyz")))
 (dM 5 (gS (iY tE (ae (ah nX (ah bb (eC (.int 25)) (eV 0)) (cV (bV 2))) aa)) [6] 1 (gN 0) km (dF (ae (ah bb (ah bb (eC (.str "yy")) (jS (eV 1) (ah kD (eV 0) (eC (.int 26))))) (jS (eV 1) (ah ej (eV 0) (eC (.int 26))))) (ae (iH "Flat" 3 rp wJ (ae (eV 0) (ae (eC (.int 0)) (ae (eC (.int 1)) aa)))) aa)))))) de)
 (bz (ah bb (ah bb (uj (bV 2) vf (tX (eV 3))) (eV 5)) (uj (bV 2) (tX (eV 3)) vf)))))))))))
noncomputable def Fq:List D->Option Sl:=cf Ul 7
theorem oq:Wo (Fq [a0,a1,a2]) Q↔Wo (Ul [.sh a0,.sh a1,.sh a2,.no,.no,.no,.no]) (dA Q):=nA
noncomputable abbrev ZX:Stmt:=top 38
noncomputable abbrev SW{α:Type}(Y:Str->Stmt->List Str->α):α:=Y "_law_at" ZX ["script","k"]
noncomputable def S9:SF:=
 (aD (cz (bT (ah vL (eV 1) (cV (bV 0))))
 (bz (cW (bV 0) (eV 1))) de)
 (bz (eC (.int 0))))
noncomputable def pP:List D->Option Sl:=cf S9 2
theorem yN:Wo (pP [a0,a1]) Q↔Wo (S9 [.sh a0,.sh a1]) (dA Q):=nA
noncomputable abbrev a4E:Stmt:=top 40
noncomputable abbrev TU{α:Type}(Y:Str->Stmt->List Str->α):α:=Y "_law_price" a4E ["cell","k"]
noncomputable def T5:SF:=
 (aD (dM 2 (cW (pG (b9 (ae (eC (.int 3)) (ae (ah mj (eC (.int 10)) (eC (.int 9))) (ae (ah mj (eC (.int 10)) (eC (.int 39))) aa))))) (bh 3 gr (ae (eV 0) (ae (ah bb (eV 1) (eC (.int 60))) (ae (eC (.int 3)) aa))))))
 (bz (ah nX (bh 3 gr (ae (eV 0) (ae (eV 1) (ae (ah bb (ah iG (eC (.int 2)) (eV 2)) (eC (.int 1))) aa)))) (eV 2))))
noncomputable def BN:List D->Option Sl:=cf T5 3
theorem pS:Wo (BN [a0,a1]) Q↔Wo (T5 [.sh a0,.sh a1,.no]) (dA Q):=nA
noncomputable abbrev a3L:Stmt:=top 43
noncomputable abbrev Uh{α:Type}(Y:Str->Stmt->List Str->α):α:=Y "_law_turned" a3L ["one","kind","cell","scale"]
noncomputable def Um:SF:=
 (aD (cz (bT (ah bK (eV 1) (eC (.str "only"))))
 (aD (dM 4 (ah iG (bh 3 gr (ae (eV 2) (ae (eC (.int 50)) (ae (eV 3) aa)))) (bh 3 gr (ae (eV 2) (ae (eC (.int 51)) (ae (eC (.int 2)) aa))))))
 (bz (dF (ae (eV 1) (ae (eV 0) (ae (eV 4) (ae (ah bb (eV 4) (bh 3 gr (ae (eV 2) (ae (eC (.int 52)) (ae (ah iG (eC (.int 3)) (eV 3)) aa))))) aa))))))) de)
 (aD (cz (bT (ah bK (eV 1) (eC (.str "after"))))
 (bz (dF (ae (eV 1) (ae (eV 0) (ae (bh 3 gr (ae (eV 2) (ae (eC (.int 53)) (ae (eV 3) aa)))) aa))))) de)
 (bz (dF (ae (eC (.str "fee")) (ae (eV 0) (ae (bh 2 BN (ae (eV 2) (ae (eC (.int 54)) aa))) aa)))))))
noncomputable def Fs:List D->Option Sl:=cf Um 5
theorem om:Wo (Fs [a0,a1,a2,a3]) Q↔Wo (Um [.sh a0,.sh a1,.sh a2,.sh a3,.no]) (dA Q):=nA
noncomputable abbrev Z9:Stmt:=top 41
noncomputable abbrev TH{α:Type}(Y:Str->Stmt->List Str->α):α:=Y "_law_rows" Z9 ["cell","scale"]
noncomputable def Tp:SF:=
 (aD (kz 2 (b9 aa))
 (aD (dM 3 (ah kD (ah iG (bh 3 gr (ae (eV 0) (ae (eC (.int 30)) (ae (eV 1) aa)))) (bh 3 gr (ae (eV 0) (ae (eC (.int 31)) (ae (eC (.int 3)) aa))))) (eC (.int 2))))
 (aD (Jn xA (ae (ah bb (eC (.int 1)) (bh 3 gr (ae (eV 0) (ae (eC (.int 32)) (ae (eC (.int 2)) aa))))) aa) (gN 4)
 (aD (nN 2 (dF (ae (eV 3) (ae (bh 2 BN (ae (eV 0) (ae (ah bb (eC (.int 33)) (eV 4)) aa))) aa))))
 (dM 3 (ah bb (ah bb (eV 3) (eC (.int 1))) (bh 3 gr (ae (eV 0) (ae (ah bb (eC (.int 40)) (eV 4)) (ae (eV 1) aa))))))))
 (zD 2))))
noncomputable def Fv:List D->Option Sl:=cf Tp 5
theorem rD:Wo (Fv [a0,a1]) Q↔Wo (Tp [.sh a0,.sh a1,.no,.no,.no]) (dA Q):=nA
noncomputable abbrev Z8:Stmt:=top 42
noncomputable abbrev TF{α:Type}(Y:Str->Stmt->List Str->α):α:=Y "_law_leaf" Z8 ["cell","scale","names"]
noncomputable def To:SF:=
 (aD (dM 3 (cW (pG (b9 (ae (eC (.str "each")) (ae (eC (.str "flat")) (ae (eC (.str "bands")) (ae (eC (.str "steps")) (ae (eC (.str "blocks")) (ae (eC (.str "name")) (ae (eC (.str "name")) aa))))))))) (bh 3 gr (ae (eV 0) (ae (eC (.int 1)) (ae (eC (.int 7)) aa))))))
 (aD (dM 4 (bh 2 BN (ae (eV 0) (ae (eC (.int 2)) aa))))
 (aD (dM 5 (ah iG (bh 3 gr (ae (eV 0) (ae (eC (.int 3)) (ae (eV 1) aa)))) (bh 3 gr (ae (eV 0) (ae (eC (.int 4)) (ae (eC (.int 2)) aa))))))
 (aD (dM 6 (ah bb (eV 5) (ah iG (bh 3 gr (ae (eV 0) (ae (eC (.int 5)) (ae (eV 1) aa)))) (bh 3 gr (ae (eV 0) (ae (eC (.int 6)) (ae (eC (.int 4)) aa)))))))
 (aD (cz (mI (bT (ah bK (eV 3) (eC (.str "bands")))) (bT (ah bK (eV 3) (eC (.str "steps")))))
 (bz (dF (ae (eV 3) (ae (bh 2 Fv (ae (eV 0) (ae (eV 1) aa))) aa)))) de)
 (aD (cz (bT (ah bK (eV 3) (eC (.str "blocks"))))
 (bz (dF (ae (eV 3) (ae (ah bb (eC (.int 1)) (bh 3 gr (ae (eV 0) (ae (eC (.int 7)) (ae (eV 1) aa))))) (ae (eV 4) (ae (ah bb (eC (.int 1)) (bh 3 gr (ae (eV 0) (ae (eC (.int 8)) (ae (eC (.int 3)) aa))))) aa)))))) de)
 (aD (cz (AR (bT (ah bK (eV 3) (eC (.str "name")))) (bT (ah yb (cV (bV 2)) (eC (.int 0)))))
 (bz (dF (ae (eV 3) (ae (cW (bV 2) (bh 3 gr (ae (eV 0) (ae (eC (.int 9)) (ae (cV (bV 2)) aa))))) aa)))) de)
 (bz (dF (ae (cW (pG (b9 (ae (eC (.str "each")) (ae (eC (.str "flat")) aa)))) (LQ (ah qN (eV 3) (eC (.str "each"))))) (ae (eV 4) (ae (eV 5) (ae (eV 6) aa)))))))))))))
noncomputable def Fu:List D->Option Sl:=cf To 7
theorem rG:Wo (Fu [a0,a1,a2]) Q↔Wo (To [.sh a0,.sh a1,.sh a2,.no,.no,.no,.no]) (dA Q):=nA
noncomputable abbrev a48:Stmt:=top 44
noncomputable abbrev TJ{α:Type}(Y:Str->Stmt->List Str->α):α:=Y "_law_tree" a48 ["numbers","scale","names"]
noncomputable def Z5:En->Nat:=λ_=>1000000
noncomputable def Tq:SF:=
 (aD (kz 3 (b9 aa))
 (aD (jh (eV 0) (gN 4)
 (aD (dM 5 (bh 3 gr (ae (eV 4) (ae (eC (.int 0)) (ae (eC (.int 13)) aa)))))
 (cz (AR (bT (ah yb (eV 5) (eC (.int 9)))) (bT (ah yb (cV (bV 3)) (eC (.int 0)))))
 (Dh 3 (Jv 4 Fs (ES 3 (ae (cW (pG (b9 (ae (eC (.str "only")) (ae (eC (.str "after")) (ae (eC (.str "fee")) aa))))) (ah nX (eV 5) (eC (.int 10)))) (ae (eV 4) (ae (eV 1) aa)))))) (nN 3 (bh 3 Fu (ae (eV 4) (ae (eV 1) (ae (eV 2) aa))))))))
 (aD (Mg Z5 (bT (ah yb (cV (bV 3)) (eC (.int 1))))
 (aD (qx 6 3)
 (Dh 3 (LU (L6 (cW (pG (b9 (ae (eC (.str "or")) (ae (eC (.str "plus")) (ae (eC (.str "max")) (ae (eC (.str "or")) aa)))))) (bh 3 gr (ae (cW (bV 0) (eC (.int 0))) (ae (eC (.int 55)) (ae (eC (.int 4)) aa))))) (ES 3 (ae (eV 6) aa)))))))
 (bz (cW (bV 3) (eC (.int 0)))))))
noncomputable def Fw:List D->Option Sl:=cf Tq 7
theorem rB:Wo (Fw [a0,a1,a2]) Q↔Wo (Tq [.sh a0,.sh a1,.sh a2,.no,.no,.no,.no]) (dA Q):=nA
noncomputable abbrev a3N:Stmt:=top 46
noncomputable abbrev Ue{α:Type}(Y:Str->Stmt->List Str->α):α:=Y "_law_folded" a3N ["script","first","most"]
noncomputable def Uk:SF:=
 (aD (kz 3 (b9 (ae (bh 2 pP (ae (eV 0) (ae (eV 1) aa))) aa)))
 (aD (wH (iY Jl (ae (ah bb (eV 1) (eC (.int 1))) (ae (cV (bV 0)) aa))) (gN 4)
 (cz (bT (ah vL (cV (bV 3)) (eV 2)))
 (nN 3 (ah ej (cW (bV 0) (eV 4)) (ah mj (eC (.int 10)) (eC (.int 60))))) (aD (dM 5 (ah bb (ah iG (cW (bV 3) (ah ej (eV 4) (eV 2))) (eC (.int 10007))) (ah ej (cW (bV 0) (eV 4)) (ah mj (eC (.int 10)) (eC (.int 60))))))
 (EJ 3 (ah ej (eV 5) (ah mj (eC (.int 10)) (eC (.int 60)))) (ah ej (eV 4) (eV 2))))))
 (zD 3)))
noncomputable def Fp:List D->Option Sl:=cf Uk 6
theorem ou:Wo (Fp [a0,a1,a2]) Q↔Wo (Uk [.sh a0,.sh a1,.sh a2,.no,.no,.no]) (dA Q):=nA
noncomputable abbrev a4D:Stmt:=top 45
noncomputable abbrev TX{α:Type}(Y:Str->Stmt->List Str->α):α:=Y "_law_words" a4D ["cell","size"]
noncomputable def T6:SF:=
 (aD (dM 2 (eC (.str "abcdefghijklmnopqrstuvwxyz")))
 (aD (dM 3 (CH (eC (.str "")) (pG (gS (iY tE (ae (bh 3 gr (ae (eV 0) (ae (eC (.int 20)) (ae (eC (.int 4)) aa)))) aa)) [0] 1 (gN 0) km (jS (eC (.str "qxz")) (bh 3 gr (ae (eV 1) (ae (eV 0) (ae (eC (.int 3)) aa)))))))))
 (aD (dM 4 (CH (eC (.str "")) (pG (gS (iY tE (ae (bh 3 gr (ae (eV 0) (ae (eC (.int 21)) (ae (eC (.int 5)) aa)))) aa)) [0] 1 (gN 0) km (jS (eC (.str "zxq")) (bh 3 gr (ae (eV 1) (ae (ah bb (eV 0) (eC (.int 5))) (ae (eC (.int 3)) aa)))))))))
 (bz (gS (iY tE (ae (eV 1) aa)) [3,2,0,4] 1 (gN 0) km (ah bb (ah bb (eV 1) (jS (eV 2) (ah ej (ah bb (bh 3 gr (ae (eV 3) (ae (eC (.int 22)) (ae (eC (.int 26)) aa)))) (ah iG (eC (.int 3)) (eV 0))) (eC (.int 26))))) (eV 4)))))))
noncomputable def JW:List D->Option Sl:=cf T6 5
theorem pR:Wo (JW [a0,a1]) Q↔Wo (T6 [.sh a0,.sh a1,.no,.no,.no]) (dA Q):=nA
noncomputable abbrev Z7:Stmt:=top 47
noncomputable abbrev TC{α:Type}(Y:Str->Stmt->List Str->α):α:=Y "_law_book" Z7 ["script"]
noncomputable def TK:SF:=
 (aD (dM 1 (cW (pG (b9 (ae (eC (.int 9)) (ae (ah mj (eC (.int 10)) (eC (.int 6))) (ae (ah mj (eC (.int 10)) (eC (.int 38))) aa))))) (ah ej (bh 2 pP (ae (eV 0) (ae (eC (.int 0)) aa))) (eC (.int 3)))))
 (aD (dM 2 (ah bb (eC (.int 1)) (ah ej (ah kD (bh 2 pP (ae (eV 0) (ae (eC (.int 0)) aa))) (eC (.int 3))) (eC (.int 4)))))
 (aD (dM 3 (bh 2 JW (ae (bh 2 pP (ae (eV 0) (ae (eC (.int 1)) aa))) (ae (eV 2) aa))))
 (aD (dM 4 (bh 3 Fp (ae (eV 0) (ae (eC (.int 2)) (ae (ah iG (eC (.int 3)) (eV 2)) aa)))))
 (aD (kz 5 (b9 aa))
 (aD (Jn xA (ae (eV 2) aa) (gN 6)
 (aD (dM 7 (ah bb (gS (iY tE (ae (cV (bV 4)) aa)) [4,2,6] 1 (gN 0) (bT (ah bK (ah ej (eV 0) (eV 2)) (eV 3))) (cW (bV 1) (eV 0))) (b9 (ae (ah bb (bh 2 pP (ae (eV 0) (ae (eC (.int 0)) aa))) (eV 6)) aa))))
 (nN 5 (dF (ae (cW (bV 3) (eV 6)) (ae (bh 3 Fw (ae (uj (bV 7) vf (tX (eC (.int 3)))) (ae (eV 1) (ae (uj (bV 3) vf (tX (eV 6))) aa)))) aa))))))
 (aD (cz (bT (ah bK (ah ej (ah kD (bh 2 pP (ae (eV 0) (ae (eC (.int 0)) aa))) (eC (.int 12))) (eC (.int 2))) (eC (.int 1))))
 (tS 5) de)
 (zD 5))))))))
noncomputable def Du:List D->Option Sl:=cf TK 8
theorem rH:Wo (Du [a0]) Q↔Wo (TK [.sh a0,.no,.no,.no,.no,.no,.no,.no]) (dA Q):=nA
noncomputable def JM:List Str:=["one","count"]
noncomputable def Tf:List D->Option (List D):=dj (Ji 1 zJ A1 (ae (eV 1) aa) (cI "count" (eV 2) iB)) 3 JM
noncomputable def JS:List Str:=["one","other"]
noncomputable def Tz:List D->Option (List D):=dj (cI "one" (eV 1) (cI "other" (eV 2) iB)) 3 JS
noncomputable def JR:List Str:=["size","price","many"]
noncomputable def Tx:List D->Option (List D):=dj (cI "size" (eV 1) (cI "price" (eV 2) (cI "many" (eV 3) iB))) 4 JR
noncomputable def JO:List Str:=["rows"]
noncomputable def MR:List D->Option (List D):=dj (cI "rows" (gS (fw (eV 1)) [] 2 (gT 2 (kX (gN 0) (kX (gN 1) tF))) km (dF (ae (eV 0) (ae (eV 1) aa)))) iB) 2 JO
noncomputable def JN:List Str:=["rows"]
noncomputable def MQ:List D->Option (List D):=dj (cI "rows" (gS (fw (eV 1)) [] 2 (gT 2 (kX (gN 0) (kX (gN 1) tF))) km (dF (ae (eV 0) (ae (eV 1) aa)))) iB) 2 JN
noncomputable def JE:List Str:=["unit","low","high"]
noncomputable def SR:List D->Option (List D):=dj (cI "unit" (eV 1) (cI "low" (eV 2) (cI "high" (eV 3) iB))) 4 JE
noncomputable abbrev a49:Stmt:=top 48
noncomputable abbrev FA{α:Type}(Y:Str->Stmt->List Str->α):α:=Y "_law_rule" a49 ["plan"]
noncomputable def JP(kp:List D->Option Sl):SF:=
 (aD (dM 1 (cW (bV 0) (eC (.int 0))))
 (aD (cz (bT (ah bK (eV 1) (eC (.str "each"))))
 (bz (iH "Each" 3 JE SR (ae (cW (bV 0) (eC (.int 1))) (ae (cW (bV 0) (eC (.int 2))) (ae (cW (bV 0) (eC (.int 3))) aa))))) de)
 (aD (cz (bT (ah bK (eV 1) (eC (.str "flat"))))
 (bz (iH "Flat" 3 rp wJ (ae (cW (bV 0) (eC (.int 1))) (ae (cW (bV 0) (eC (.int 2))) (ae (cW (bV 0) (eC (.int 3))) aa))))) de)
 (aD (cz (bT (ah bK (eV 1) (eC (.str "bands"))))
 (bz (iH "Bands" 1 JN MQ (ae (Jf (pG (cW (bV 0) (eC (.int 1))))) aa))) de)
 (aD (cz (bT (ah bK (eV 1) (eC (.str "steps"))))
 (bz (iH "Steps" 1 JO MR (ae (Jf (pG (cW (bV 0) (eC (.int 1))))) aa))) de)
 (aD (cz (bT (ah bK (eV 1) (eC (.str "blocks"))))
 (bz (iH "Blocks" 3 JR Tx (ae (cW (bV 0) (eC (.int 1))) (ae (cW (bV 0) (eC (.int 2))) (ae (cW (bV 0) (eC (.int 3))) aa))))) de)
 (aD (cz (bT (ah bK (eV 1) (eC (.str "name"))))
 (bz (iH "Named" 1 BJ Ff (ae (cW (bV 0) (eC (.int 1))) aa))) de)
 (aD (cz (bT (ah bK (eV 1) (eC (.str "plus"))))
 (bz (iH "Sum" 2 E1 Mn (ae (bh 1 kp (ae (cW (bV 0) (eC (.int 1))) aa)) (ae (bh 1 kp (ae (cW (bV 0) (eC (.int 2))) aa)) aa)))) de)
 (aD (cz (bT (ah bK (eV 1) (eC (.str "or"))))
 (bz (iH "Cheaper" 2 Fz M0 (ae (bh 1 kp (ae (cW (bV 0) (eC (.int 1))) aa)) (ae (bh 1 kp (ae (cW (bV 0) (eC (.int 2))) aa)) aa)))) de)
 (aD (cz (bT (ah bK (eV 1) (eC (.str "max"))))
 (bz (iH "Dearer" 2 JS Tz (ae (bh 1 kp (ae (cW (bV 0) (eC (.int 1))) aa)) (ae (bh 1 kp (ae (cW (bV 0) (eC (.int 2))) aa)) aa)))) de)
 (aD (cz (bT (ah bK (eV 1) (eC (.str "only"))))
 (bz (iH "Only" 3 E4 ME (ae (bh 1 kp (ae (cW (bV 0) (eC (.int 1))) aa)) (ae (cW (bV 0) (eC (.int 2))) (ae (cW (bV 0) (eC (.int 3))) aa))))) de)
 (aD (cz (bT (ah bK (eV 1) (eC (.str "after"))))
 (bz (iH "After" 2 JM Tf (ae (bh 1 kp (ae (cW (bV 0) (eC (.int 1))) aa)) (ae (cW (bV 0) (eC (.int 2))) aa)))) de)
 (bz (iH "Fee" 2 EZ Mm (ae (bh 1 kp (ae (cW (bV 0) (eC (.int 1))) aa)) (ae (cW (bV 0) (eC (.int 2))) aa))))))))))))))))
noncomputable def Uj(kp:List D->Option Sl):List D->Option Sl:=cf (JP kp) 2
noncomputable def uN:Nat->List D->Option Sl
 | 0=>λ_=>none
 | n+1=>Uj (uN n)
theorem Ts{kp:List D->Option Sl}:Wo (Uj kp [a0]) Q↔Wo (JP kp [.sh a0,.no]) (dA Q):=nA
noncomputable abbrev JB:Stmt:=top 51
noncomputable abbrev FX{α:Type}(Y:Str->Stmt->List Str->α):α:=Y "law" JB ["script"]
noncomputable def Rm:SF:=
 (aD (dM 1 (gS (fw (bh 1 Du (ae (eV 0) aa))) [] 1 (gN 0) km (dF (ae (cW (bV 0) (eC (.int 0))) (ae (bh 1 (uN 6) (ae (cW (bV 0) (eC (.int 1))) aa)) aa)))))
 (aD (dM 2 (b9 (ae (ah ej (ah kD (bh 2 pP (ae (eV 0) (ae (eC (.int 0)) aa))) (eC (.int 24))) (eC (.int 7))) (ae (ah ej (ah kD (bh 2 pP (ae (eV 0) (ae (eC (.int 0)) aa))) (eC (.int 168))) (eC (.int 7))) aa))))
 (aD (cz (bT (ah bK (cW (bV 2) (eC (.int 0))) (cW (bV 2) (eC (.int 1)))))
 (dM 2 (b9 (ae (cW (bV 2) (eC (.int 0))) aa))) de)
 (aD (jh (eV 2) (gN 3)
 (cz (mI (bT (ah vL (cV (bV 1)) (ah bb (eC (.int 25)) (eV 3)))) (bT (ah vL (eV 3) (eC (.int 5)))))
 (dM 1 (bh 3 Fq (ae (eV 3) (ae (bh 2 pP (ae (eV 0) (ae (ah bb (eC (.int 1)) (eV 3)) aa))) (ae (eV 1) aa))))) de))
 (aD (dM 4 (b9 aa))
 (aD (mL 5 (pL "BadName" (pL "NoOffer" (pL "Ring" (pL "TooMany" (pL "Twice" L5))))) (rj (iH "Book" 1 BL oM (ae (eV 1) aa)))
 (rE (yI 1 qg (ae (eV 1) aa)))
 (aD (dM 4 (b9 (ae (jT (cZ "BadName" false (cZ "NoOffer" false (cZ "Ring" false (cZ "TooMany" true (cZ "Twice" false uL))))) (eV 5)) (ae (jT (cZ "BadName" true (cZ "NoOffer" false (cZ "Ring" false (cZ "TooMany" false (cZ "Twice" false uL))))) (eV 5)) (ae (jT (cZ "BadName" false (cZ "NoOffer" false (cZ "Ring" false (cZ "TooMany" false (cZ "Twice" true uL))))) (eV 5)) (ae (jT (cZ "BadName" false (cZ "NoOffer" true (cZ "Ring" false (cZ "TooMany" false (cZ "Twice" false uL))))) (eV 5)) aa))))))
 (dM 4 (ah bb (eV 4) (b9 (ae (jT (cZ "BadName" false (cZ "NoOffer" false (cZ "Ring" true (cZ "TooMany" false (cZ "Twice" false uL))))) (eV 5)) (ae (jT (cZ "BadName" true (cZ "NoOffer" true (cZ "Ring" true (cZ "TooMany" true (cZ "Twice" true uL))))) (eV 5)) aa)))))))
 (aD (dM 6 (bh 2 BM (ae (eV 2) (ae (cV (bV 1)) aa))))
 (aD (cz (bT (ah bK (eV 6) (eC (.int 9))))
 (bz (ah bK (eV 4) (b9 aa))) de)
 (bz (ah bK (eV 4) (ah bb (gS (iY tE (ae (eC (.int 5)) aa)) [6] 1 (gN 0) km (ah bK (eV 0) (eV 1))) (b9 (ae (eC (.bl true)) aa)))))))))))))
noncomputable def Mi:List D->Option Sl:=cf Rm 7
theorem J0:Wo (Mi [a0]) Q↔Wo (Rm [.sh a0,.no,.no,.no,.no,.no,.no]) (dA Q):=nA
structure A6(K:aK)(mg:Str->Option Value)(ak gc k7 aM f' av:Addr):Prop where
 cC:Cl K mg "BadName" ak
 z5:Cl K mg "NoOffer" gc
 v0Z:Cl K mg "OfferError" k7
 gD:Cl K mg "Ring" aM
 z0:Cl K mg "TooMany" f'
 eG:Cl K mg "Twice" av
 NL:yA K (.ref ak) (.ref k7)=some true
 NK:yA K (.ref gc) (.ref k7)=some true
 NJ:yA K (.ref aM) (.ref k7)=some true
 NI:yA K (.ref f') (.ref k7)=some true
 NH:yA K (.ref av) (.ref k7)=some true
 di:df K (.ref ak) (.ref ak)=some true
 ND:df K (.ref ak) (.ref gc)=some false
 eR:df K (.ref ak) (.ref aM)=some false
 NC:df K (.ref ak) (.ref f')=some false
 d7:df K (.ref ak) (.ref av)=some false
 NB:df K (.ref gc) (.ref ak)=some false
 NA:df K (.ref gc) (.ref gc)=some true
 Nz:df K (.ref gc) (.ref aM)=some false
 Ny:df K (.ref gc) (.ref f')=some false
 Nx:df K (.ref gc) (.ref av)=some false
 eQ:df K (.ref aM) (.ref ak)=some false
 Nw:df K (.ref aM) (.ref gc)=some false
 ij:df K (.ref aM) (.ref aM)=some true
 Nv:df K (.ref aM) (.ref f')=some false
 gw:df K (.ref aM) (.ref av)=some false
 Nu:df K (.ref f') (.ref ak)=some false
 Nt:df K (.ref f') (.ref gc)=some false
 Nr:df K (.ref f') (.ref aM)=some false
 Nq:df K (.ref f') (.ref f')=some true
 Np:df K (.ref f') (.ref av)=some false
 dZ:df K (.ref av) (.ref ak)=some false
 Nn:df K (.ref av) (.ref gc)=some false
 gu:df K (.ref av) (.ref aM)=some false
 Nl:df K (.ref av) (.ref f')=some false
 fG:df K (.ref av) (.ref av)=some true
 cx:df K (.ref ak) (.type "ValueError")=some true
 NG:df K (.ref gc) (.type "ValueError")=some true
 dh:df K (.ref aM) (.type "ValueError")=some true
 NF:df K (.ref f') (.type "ValueError")=some true
 cS:df K (.ref av) (.type "ValueError")=some true
 tO:uT K ak
 v1M:uT K gc
 BY:uT K aM
 v1N:uT K f'
 zT:uT K av
theorem aV{X X':Cx}{ak gc k7 aM f' av:Addr}(e3:X'.K=X.K)(e4:X'.mg=X.mg)(h:A6 X.K X.mg ak gc k7 aM f' av):A6 X'.K X'.mg ak gc k7 aM f' av:=by rw [e3,e4];exact h
structure Obs(K:aK)(mg:Str->Option Value)(bR bQ bP bN aW bO dB aU a9 bH bj cO dJ bu aE aX aO af aS aj aZ bp bc aI aq bo bE be aY aT bq:Addr):Prop where
 fL:cP K "Each" bR
 CC:mg "Each" = some (.ref bR)
 qr:Mk K bR bq
 iq:ao K bR "unit"
 jk:ao K bR "low"
 ir:ao K bR "high"
 gK:aP K bR "parts" aE
 dI:aP K bR "all_names" af
 gL:aP K bR "names" aj
 fK:cP K "Flat" bQ
 CB:mg "Flat" = some (.ref bQ)
 qq:Mk K bQ bp
 gA:ao K bQ "price"
 jj:ao K bQ "low"
 il:ao K bQ "high"
 gH:aP K bQ "parts" aE
 dH:aP K bQ "all_names" af
 gJ:aP K bQ "names" aj
 fC:cP K "Bands" bP
 Au:mg "Bands" = some (.ref bP)
 nI:Mk K bP aT
 gC:ao K bP "rows"
 fT:aP K bP "parts" aE
 dv:aP K bP "all_names" af
 fU:aP K bP "names" aj
 fB:cP K "Steps" bN
 Ar:mg "Steps" = some (.ref bN)
 nF:Mk K bN aT
 gx:ao K bN "rows"
 fP:aP K bN "parts" aE
 dt:aP K bN "all_names" af
 fQ:aP K bN "names" aj
 cN:cP K "Blocks" aW
 ya:mg "Blocks" = some (.ref aW)
 lN:Mk K aW aY
 fH:ao K aW "size"
 eT:ao K aW "price"
 fI:ao K aW "many"
 e9:aP K aW "parts" aE
 cU:aP K aW "all_names" af
 ff:aP K aW "names" aj
 eI:cP K "Named" bO
 As:mg "Named" = some (.ref bO)
 nG:Mk K bO bc
 eE:ao K bO "name"
 fR:aP K bO "parts" aE
 du:aP K bO "all_names" aS
 fS:aP K bO "names" aj
 iw:cP K "Sum" dB
 HK:mg "Sum" = some (.ref dB)
 wX:Mk K dB aI
 iM:ao K dB "one"
 fy:ao K dB "other"
 iC:aP K dB "parts" aX
 d8:aP K dB "all_names" af
 iD:aP K dB "names" aj
 bU:cP K "Cheaper" aU
 ug:mg "Cheaper" = some (.ref aU)
 kr:Mk K aU aI
 dP:ao K aU "one"
 cQ:ao K aU "other"
 eh:aP K aU "parts" aX
 cJ:aP K aU "all_names" af
 ei:aP K aU "names" aj
 cy:cP K "Dearer" a9
 xY:mg "Dearer" = some (.ref a9)
 lM:Mk K a9 aI
 eF:ao K a9 "one"
 dq:ao K a9 "other"
 eZ:aP K a9 "parts" aX
 cT:aP K a9 "all_names" af
 e8:aP K a9 "names" aj
 eU:cP K "Only" bH
 CA:mg "Only" = some (.ref bH)
 qp:Mk K bH bo
 gz:ao K bH "one"
 ji:ao K bH "low"
 ik:ao K bH "high"
 gF:aP K bH "parts" aO
 dG:aP K bH "all_names" af
 gG:aP K bH "names" aj
 dS:cP K "After" bj
 Av:mg "After" = some (.ref bj)
 nJ:Mk K bj be
 fA:ao K bj "one"
 fJ:ao K bj "count"
 fV:aP K bj "parts" aO
 dy:aP K bj "all_names" af
 fW:aP K bj "names" aj
 jd:cP K "Fee" cO
 HL:mg "Fee" = some (.ref cO)
 wY:Mk K cO bE
 iN:ao K cO "one"
 ip:ao K cO "price"
 iE:aP K cO "parts" aO
 d9:aP K cO "all_names" af
 iF:aP K cO "names" aj
 fM:cP K "Book" dJ
 xZ:mg "Book" = some (.ref dJ)
 nH:Mk K dJ aZ
 dQ:ao K dJ "offers"
 cA:ao K dJ "rules"
 mi:mg "Single" = some (.ref bu)
 mr:pV K bu aq
section
variable {P:Program}{w:World}{K:aK}{mg:Str->Option Value}{base:Heap}
variable {ak gc k7 aM f' av:Addr}(TT:A6 K mg ak gc k7 aM f' av)
variable {bR bQ bP bN aW bO dB aU a9 bH bj cO dJ bu aE aX aO af aS aj aZ bp bc aI aq bo bE be aY aT bq:Addr}(OB:Obs K mg bR bQ bP bN aW bO dB aU a9 bH bj cO dJ bu aE aX aO af aS aj aZ bp bc aI aq bo bE be aY aT bq)
variable (z_all:mg "all" = none)
variable (z_LETTERS:Kj mg "LETTERS" "abcdefghijklmnopqrstuvwxyz")
variable (z_OWN_WORDS:Nc K mg "OWN_WORDS" ["each","from","to","flat","bands","steps","blocks","at","times","plus","or","max","only","after","roomy","fee"])
variable (z_len:mg "len" = none)
variable (z_MOST_LETTERS:Kk mg "MOST_LETTERS" 8)
variable (z_MOST_OFFERS:Kk mg "MOST_OFFERS" 30)
variable (z_set:mg "set" = none)
variable (z_range:mg "range" = none)
variable (z_int:mg "int" = none)
variable (z_list:mg "list" = none)
variable (z_isinstance:mg "isinstance" = none)
variable (z_ValueError:mg "ValueError" = none)
variable (z_sorted:mg "sorted" = none)
variable (z_dict:mg "dict" = none)
variable {cB:fj}{cY:Nat}(eO:uS P w K mg base "all_names" 1 cY cB)
variable {kT:List D->Option Sl}{l7:Nat}(bf:FA (Oz P w K mg base) l7 kT)
include z_range in
theorem a9O(D':TN (Def K mg) a d):TN (Oz P w K mg base) 1 BM:=gZ (N:=["kinds","count","kind"]) D' λX r h=>by
 cases r
 exact (b7 (fZ (gf De (h.v 1) aH) (bI (gU aH)) gj) (b7 (JG h.own h.calm (Zj h.g z_range (ai aH (ai aH aN))) (h.tg 2) (bI (fZ (gf (Xw h.u8) (h.v 2) (h.v 0) (by with_unfolding_all rfl)) (bI (gU (h.v 2))) gj))) (bI (gU aH))))
variable (Mz:TN (Oz P w K mg base) 1 BM)
theorem a6z(D':Ud (c9 K a) d):Ud (Om P w K mg base a) 1 BP:=EM (N:=["self"]) D' λX r h=>by
 cases r
 exact (bI (gU (jY aN)))
variable (A5:Ud (Om P w K mg base aE) 1 BP)
include OB in
theorem a8j:FL K "other" S1:=(zG OB.iw OB.fy (zG OB.bU OB.cQ (zG OB.cy OB.dq RQ)))
variable (j9:FL K "other" S1)
include OB in
theorem b03:FL K "one" L7:=(zG OB.iw OB.iM (zG OB.bU OB.dP (zG OB.cy OB.eF (zG OB.eU OB.gz (zG OB.dS OB.fA (zG OB.jd OB.iN RQ))))))
variable (ju:FL K "one" L7)
include j9 ju in
theorem a6B(D':Ub (c9 K a) d):Ub (Om P w K mg base a) 1 JX:=EM (N:=["self"]) D' λX r h=>by
 cases r
 exact (bI (gU (jY (ai (L8 (h.v 0) ju) (ai (L8 (h.v 0) j9) aN)))))
variable (Ft:Ub (Om P w K mg base aX) 1 JX)
include ju in
theorem a5h(D':T' (c9 K a) d):T' (Om P w K mg base a) 1 JU:=EM (N:=["self"]) D' λX r h=>by
 cases r
 exact (bI (gU (jY (ai (L8 (h.v 0) ju) aN))))
variable (Fo:T' (Om P w K mg base aO) 1 JU)
include OB A5 Ft Fo in
theorem a8c:uS P w K mg base "parts" 1 1 Fi:=(hX OB.fL OB.gK A5 (hX OB.fK OB.gH A5 (hX OB.fC OB.fT A5 (hX OB.fB OB.fP A5 (hX OB.cN OB.e9 A5 (hX OB.eI OB.fR A5 (hX OB.iw OB.iC Ft (hX OB.bU OB.eh Ft (hX OB.cy OB.eZ Ft (hX OB.eU OB.gF Fo (hX OB.dS OB.fV Fo (hX OB.jd OB.iE Fo Mc))))))))))))
variable (j0:uS P w K mg base "parts" 1 1 Fi)
include eO j0 in
theorem a4o(D':M4 (c9 K a) d):M4 (Om P w K mg base a) (cY+2) (mE cB):=EM (N:=["self","found","part"]) D' λX r h=>by
 cases r
 exact (b7 (h.set 1 (jY aN)) (b7 (BI h.own h.calm (h.Af (n:=1) j0 (h.v 0) (hj:=by omega)) (h.tg 2) (bI (h.ext 1 (h.Af (n:=1) eO (h.v 2) (hj:=by omega))))) (bI (h.xB 1))))
variable (tJ:M4 (Om P w K mg base af) (cY+2) (mE cB))
include OB in
theorem a9V:FL K "name" Sr:=(zG OB.eI OB.eE RQ)
variable (lL:FL K "name" Sr)
include lL in
theorem a3Z(D':M1 (c9 K a) d):M1 (Om P w K mg base a) (cY+1) (M2 cB):=EM (N:=["self"]) D' λX r h=>by
 cases r
 exact (bI (gU (jY (ai (L8 (h.v 0) lL) aN))))
variable (M5:M1 (Om P w K mg base aS) (cY+1) (M2 cB))
include OB tJ M5 in
theorem a5i:uS P w K mg base "all_names" 1 (cY+2) (a3p cB):=(hX OB.fL OB.dI tJ (hX OB.fK OB.dH tJ (hX OB.fC OB.dv tJ (hX OB.fB OB.dt tJ (hX OB.cN OB.cU tJ (hX OB.eI OB.du M5 (hX OB.iw OB.d8 tJ (hX OB.bU OB.cJ tJ (hX OB.cy OB.cT tJ (hX OB.eU OB.dG tJ (hX OB.dS OB.dy tJ (hX OB.jd OB.d9 tJ Mc (hj:=by omega)) (hj:=by omega)) (hj:=by omega)) (hj:=by omega)) (hj:=by omega)) (hj:=by omega)) (hj:=by omega)) (hj:=by omega)) (hj:=by omega)) (hj:=by omega)) (hj:=by omega)) (hj:=by omega))
variable (eN:uS P w K mg base "all_names" 1 13 (wL 6))
include z_set z_sorted eN in
theorem a6A(D':Uc (c9 K a) d):Uc (Om P w K mg base a) 14 qd:=EM (N:=["self"]) D' λX r h=>by
 cases r
 exact (bI (gU (b53 h.calm h.g z_sorted h.g z_set (h.Af (n:=1) eN (h.v 0)))))
variable (rA:Uc (Om P w K mg base aj) 14 qd)
include OB rA in
theorem a8d:uS P w K mg base "names" 1 14 uO:=(hX OB.fL OB.gL rA (hX OB.fK OB.gJ rA (hX OB.fC OB.fU rA (hX OB.fB OB.fQ rA (hX OB.cN OB.ff rA (hX OB.eI OB.fS rA (hX OB.iw OB.iD rA (hX OB.bU OB.ei rA (hX OB.cy OB.e8 rA (hX OB.eU OB.gG rA (hX OB.dS OB.fW rA (hX OB.jd OB.iF rA Mc))))))))))))
variable (bX:uS P w K mg base "names" 1 14 uO)
include bX in
theorem a5g(D':Ua (Def K mg) a d):Ua (Oz P w K mg base) 15 qe:=gZ (N:=["rules","name","reached","waiting","other"]) D' λX r h=>by
 cases r
 exact (b7 (h.set 2 b51) (b7 (h.set 3 (h.Af (n:=1) bX (h.FV (h.v 0) (h.v 1)))) (b7 (ZD a24 h.own (b4K (h.bv 3)) (b7 (h.pop 4 3) (bI (fZ (h.FR 2 (h.v 4)) (b7 (h.NR 2 RD (h.v 4)) (bI (h.ext 3 (h.Af (n:=1) bX (h.FV (h.v 0) (h.v 4)))))) gj)))) (bI (h.xB 2)))))
variable (BO:Ua (Oz P w K mg base) 15 qe)
include TT bX BO in
theorem a5O(D':Fm (Def K mg) a d):Fm (Oz P w K mg base) 16 zK:=gZ (N:=["rules","rule","name"]) D' λX r h=>by
 cases r
 exact (b7 (JG h.own h.calm (Rx (h.v 0)) (h.tg 1) (bI (BI h.own h.calm (h.Af (n:=1) bX (h.v 1)) (h.tg 2) (bI (fZ (h.oQ (h.v 2) (h.v 0)) (bI yK) gj))))) (bI (JG h.own h.calm (W7 (h.v 0)) (h.tg 2) (bI (fZ (h.BZ (h.v 2) (h.cl BO (ai (h.v 0) (ai (h.v 2) aN)))) (bI yK) gj)))))
variable (Fj:Fm (Oz P w K mg base) 16 zK)
include TT bX BO in
theorem a5I(D':Fm (Def K mg) a d):Fm (Xz P w K mg base) 16 zL:=XR (N:=["rules","rule","name"]) D' λX W r h xk xr own=>by
 cases r
 exact (Zt (Mx own h.calm (IV.b8 (Rx (h.v 0))) (GV.b8 (h.tg 1)) (lz.b8 (bI (BI h.own h.calm (h.Af (n:=1) bX (h.v 1)) (h.tg 2) (bI (fZ (h.oQ (h.v 2) (h.v 0)) (bI yK) gj))))) (uM (Mx own h.calm (IV.b8 (zE (h.Af (n:=1) bX (h.v 1)))) (GV.b8 (h.tg 2)) (lz.b8 (bI (fZ (h.oQ (h.v 2) (h.v 0)) (bI yK) gj))) (uM (Jj (TV.b8 (h.oQ (h.v 2) (h.v 0))) (uM (JJ h.calm xr TT.v1M h.g TT.z5.m (AV.b8 (ai (Sy (Dr c8 (Dr (Xe (h.v 2)) RM))) aN)))) JF))))) (SV.b8 (JG h.own h.calm (Rx (h.v 0)) (h.tg 1) (bI (BI h.own h.calm (h.Af (n:=1) bX (h.v 1)) (h.tg 2) (bI (fZ (h.oQ (h.v 2) (h.v 0)) (bI yK) gj)))))) (uM (Mx own h.calm (IV.b8 (W7 (h.v 0))) (GV.b8 (h.tg 2)) (lz.b8 (bI (fZ (h.BZ (h.v 2) (h.cl BO (ai (h.v 0) (ai (h.v 2) aN)))) (bI yK) gj))) (uM (Jj (TV.b8 (h.BZ (h.v 2) (h.cl BO (ai (h.v 0) (ai (h.v 2) aN))))) (uM (JJ h.calm xr TT.BY h.g TT.gD.m (AV.b8 (ai (Sy (Dr c8 (Dr (Xe (h.v 2)) (Dr c8 RM)))) aN)))) JF)))))
variable (M3:Fm (Xz P w K mg base) 16 zL)
include z_all z_LETTERS z_OWN_WORDS z_len z_MOST_LETTERS in
theorem a9P(D':TM (Def K mg) a d):TM (Oz P w K mg base) 1 mW:=gZ (N:=["text"]) D' λX r h=>by
 cases r
 exact (b7 (fZ (tP (LZ (JC (b2k Xx Xx aH (b54 h.g z_len (h.v 0)) (S4 h.g z_MOST_LETTERS))) (Me (gf (Xw h.u8) (h.v 0) (b3a (ys:=["each","from","to","flat","bands","steps","blocks","at","times","plus","or","max","only","after","roomy","fee"]) h.g z_OWN_WORDS) (by with_unfolding_all rfl))))) (bI (gU RD)) gj) (bI (gU (b8B h.g z_all h.calm (wD (yL (N':=["sign"]) (caps:=[]) (nt:=1) h ⟨rfl,by decide +kernel,by decide +kernel,by decide +kernel,by decide +kernel,rfl,rfl,by decide +kernel⟩ (b5K (h.v 0)) (λX1 eL eK aJ aB eJ h1=>⟨(h1.tg 0),tG,(Jw b7S (h1.v 0) (b3b h1.g (HJ aB z_LETTERS)) (by with_unfolding_all rfl))⟩)))))))
variable (A3:TM (Oz P w K mg base) 1 mW)
include TT z_len z_set A3 in
theorem a5P(D':Fk (Def K mg) a d):Fk (Oz P w K mg base) 2 yM:=gZ (N:=["names","name"]) D' λX r h=>by
 cases r
 exact (b7 (BI h.own h.calm (h.v 0) (h.tg 1) (bI (fZ (JC (Md (h.cl A3 (ai (h.v 1) aN)))) (bI yK) gj))) (bI (fZ (gf EH (ZV h.calm h.g z_len h.g z_set (h.v 0)) (og h.g z_len (h.bv 0))) (bI yK) gj)))
variable (Dv:Fk (Oz P w K mg base) 2 yM)
include TT z_len z_set A3 in
theorem a5J(D':Fk (Def K mg) a d):Fk (Xz P w K mg base) 2 BQ:=XR (N:=["names","name"]) D' λX W r h xk xr own=>by
 cases r
 exact (Zt (Mx own h.calm (IV.b8 (zE (h.v 0))) (GV.b8 (h.tg 1)) (lz.b8 (bI (fZ (JC (Md (h.cl A3 (ai (h.v 1) aN)))) (bI yK) gj))) (uM (Jj (TV.b8 (JC (Md (h.cl A3 (ai (h.v 1) aN))))) (uM (JJ h.calm xr TT.tO h.g TT.cC.m (AV.b8 (ai (Sy (Dr (b8z (h.v 1)) (Dr c8 RM))) aN)))) JF))) (SV.b8 (BI h.own h.calm (h.v 0) (h.tg 1) (bI (fZ (JC (Md (h.cl A3 (ai (h.v 1) aN)))) (bI yK) gj)))) (uM (Jj (TV.b8 (gf EH (ZV h.calm h.g z_len h.g z_set (h.v 0)) (og h.g z_len (h.bv 0)))) (uM (JJ h.calm xr TT.zT h.g TT.eG.m (AV.b8 (ai c8 aN)))) JF)))
variable (M7:Fk (Xz P w K mg base) 2 BQ)
include TT z_MOST_OFFERS in
theorem a6y(D':Fy (Def K mg) a d):Fy (Oz P w K mg base) 1 A4:=gZ (N:=["many"]) D' λX r h=>by
 cases r
 exact (bI (fZ (gf De (h.v 0) (S4 h.g z_MOST_OFFERS)) (bI yK) gj))
variable (Dt:Fy (Oz P w K mg base) 1 A4)
include TT z_MOST_OFFERS in
theorem a6a(D':Fy (Def K mg) a d):Fy (Xz P w K mg base) 1 JY:=HQ (N:=["many"]) D' λX W r h xk xr=>by
 cases r
 exact (uM (Jj (TV.b8 (gf De (h.v 0) (S4 h.g z_MOST_OFFERS))) (uM (JJ h.calm xr TT.v1N h.g TT.z0.m (AV.b8 (ai c8 aN)))) JF))
variable (M6:Fy (Xz P w K mg base) 1 JY)
include OB z_len z_dict Fj Dv Dt in
theorem a9T(D':a3o (c9 K aZ) d):jr P w K mg base "Book" 1 BL 17 oM:=L9 (N:=["self","offers","pairs"]) OB.fM OB.xZ OB.nH D' λX r h=>by
 cases r
 exact (Ry (Y0 (i:=2) (N':=["name","rule"]) (caps:=[]) (nt:=2) h ⟨rfl,by decide +kernel,by decide +kernel,by decide +kernel,by decide +kernel,rfl,rfl,by decide +kernel⟩ (zE (h.v 1)) (λX1 eL eK aJ aB eJ h1=>⟨(Dl (n:=2) h1.calm (tI (h1.tg 0) (tI (h1.tg 1) Dq))),tG,(nB (ai (h1.v 0) (ai (h1.v 1) aN)))⟩)) (Ry (Mq (h.cl Dt (ai (og h.g z_len (h.bv 2)) aN))) (Ry (Mq (h.cl Dv (ai (yL (N':=["name","rule"]) (caps:=[]) (nt:=2) h ⟨rfl,by decide +kernel,by decide +kernel,by decide +kernel,by decide +kernel,rfl,rfl,by decide +kernel⟩ (zE (h.v 2)) (λX1 eL eK aJ aB eJ h1=>⟨(Dl (n:=2) h1.calm (tI (h1.tg 0) (tI (h1.tg 1) Dq))),tG,(h1.v 0)⟩)) aN))) (h.DQ OB.fM.c OB.dQ (h.v 2) (h.DQ OB.fM.c OB.cA (Ze h.calm h.g z_dict (h.v 2)) (h.iwc Fj OB.fM.c OB.cA Mb))))))
variable (lJ:jr P w K mg base "Book" 1 BL 17 oM)
include OB z_len z_dict Fj M3 Dv M7 Dt M6 in
theorem b4E(D':a3o (c9 K aZ) d):FC P w K mg base "Book" 1 17 qg:=HV (N:=["self","offers","pairs"]) OB.xZ OB.nH D' λX W r h xk xr=>by
 cases r
 exact (Rz FN (zO.b8 (Y0 (i:=2) (N':=["name","rule"]) (caps:=[]) (nt:=2) h ⟨rfl,by decide +kernel,by decide +kernel,by decide +kernel,by decide +kernel,rfl,rfl,by decide +kernel⟩ (zE (h.v 1)) (λX1 eL eK aJ aB eJ h1=>⟨(Dl (n:=2) h1.calm (tI (h1.tg 0) (tI (h1.tg 1) Dq))),tG,(nB (ai (h1.v 0) (ai (h1.v 1) aN)))⟩))) (Rz (SG (h.Ux M6 xk (AV.b8 (ai (og h.g z_len (h.bv 2)) aN)))) (zO.b8 (Mq (h.cl Dt (ai (og h.g z_len (h.bv 2)) aN)))) (Rz (SG (h.Ux M7 xk (AV.b8 (ai (yL (N':=["name","rule"]) (caps:=[]) (nt:=2) h ⟨rfl,by decide +kernel,by decide +kernel,by decide +kernel,by decide +kernel,rfl,rfl,by decide +kernel⟩ (zE (h.v 2)) (λX1 eL eK aJ aB eJ h1=>⟨(Dl (n:=2) h1.calm (tI (h1.tg 0) (tI (h1.tg 1) Dq))),tG,(h1.v 0)⟩)) aN)))) (zO.b8 (Mq (h.cl Dv (ai (yL (N':=["name","rule"]) (caps:=[]) (nt:=2) h ⟨rfl,by decide +kernel,by decide +kernel,by decide +kernel,by decide +kernel,rfl,rfl,by decide +kernel⟩ (zE (h.v 2)) (λX1 eL eK aJ aB eJ h1=>⟨(Dl (n:=2) h1.calm (tI (h1.tg 0) (tI (h1.tg 1) Dq))),tG,(h1.v 0)⟩)) aN)))) (h.Vx OB.fM.c OB.dQ (EV.b8 (h.v 2)) (h.Vx OB.fM.c OB.cA (EV.b8 (Ze h.calm h.g z_dict (h.v 2))) (h.ixc M3 xk OB.fM.c OB.cA))))))
variable (lF:FC P w K mg base "Book" 1 17 qg)
include OB in
theorem a9R(D':a5L (c9 K bp) d):jr P w K mg base "Flat" 3 rp 1 wJ:=AU (N:=["self","price","low","high"]) OB.fK OB.CB OB.qq D' λX r h=>by
 cases r
 exact (h.fN OB.fK.c OB.gA (h.v 1) (h.fN OB.fK.c OB.jj (h.v 2) (h.fN OB.fK.c OB.il (h.v 3) wI)))
variable (dE:jr P w K mg base "Flat" 3 rp 1 wJ)
include OB in
theorem a8f(D':a43 (c9 K bc) d):jr P w K mg base "Named" 1 BJ 1 Ff:=AU (N:=["self","name"]) OB.eI OB.As OB.nG D' λX r h=>by
 cases r
 exact (h.fN OB.eI.c OB.eE (h.v 1) wI)
variable (dD:jr P w K mg base "Named" 1 BJ 1 Ff)
include OB in
theorem b00(D':T9 (c9 K aI) d):jr P w K mg base "Sum" 2 E1 1 Mn:=AU (N:=["self","one","other"]) OB.iw OB.HK OB.wX D' λX r h=>by
 cases r
 exact (h.fN OB.iw.c OB.iM (h.v 1) (h.fN OB.iw.c OB.fy (h.v 2) wI))
variable (js:jr P w K mg base "Sum" 2 E1 1 Mn)
include OB in
theorem a9U(D':Uo (c9 K aq) d):BS P w K mg base bu bH aq "Single" 1 zJ 1 A1:=Ru (N:=["self","one"]) OB.mr OB.mi D' λX r h=>by
 cases r
 exact (h.fN OB.eU.c OB.gz (h.v 1) wI)
variable (lK:BS P w K mg base bu bH aq "Single" 1 zJ 1 A1)
include OB lK in
theorem a9Q(D':a5K (c9 K bo) d):jr P w K mg base "Only" 3 E4 2 ME:=L9 (N:=["self","one","low","high"]) OB.eU OB.CA OB.qp D' λX r h=>by
 cases r
 exact (h.OU lK (ai (h.v 1) aN) (h.DQ OB.eU.c OB.ji (h.v 2) (h.DQ OB.eU.c OB.ik (h.v 3) Mb)))
variable (gQ:jr P w K mg base "Only" 3 E4 2 ME)
include OB in
theorem b02(D':Uo (c9 K aq) d):BS P w K mg base bu cO aq "Single" 1 zJ 1 A1:=Ru (N:=["self","one"]) OB.mr OB.mi D' λX r h=>by
 cases r
 exact (h.fN OB.jd.c OB.iN (h.v 1) wI)
variable (oB:BS P w K mg base bu cO aq "Single" 1 zJ 1 A1)
include OB oB in
theorem b01(D':a6f (c9 K bE) d):jr P w K mg base "Fee" 2 EZ 2 Mm:=L9 (N:=["self","one","price"]) OB.jd OB.HL OB.wY D' λX r h=>by
 cases r
 exact (h.OU oB (ai (h.v 1) aN) (h.DQ OB.jd.c OB.ip (h.v 2) Mb))
variable (jt:jr P w K mg base "Fee" 2 EZ 2 Mm)
include OB in
theorem a6C(D':T9 (c9 K aI) d):jr P w K mg base "Cheaper" 2 Fz 1 M0:=AU (N:=["self","one","other"]) OB.bU OB.ug OB.kr D' λX r h=>by
 cases r
 exact (h.fN OB.bU.c OB.dP (h.v 1) (h.fN OB.bU.c OB.cQ (h.v 2) wI))
variable (cX:jr P w K mg base "Cheaper" 2 Fz 1 M0)
theorem a9N(D':TQ (Def K mg) a d):TQ (Oz P w K mg base) 1 gr:=gZ (N:=["cell","k","size","odd","big"]) D' λX r h=>by
 cases r
 exact (b7 (h.cc 3 (bW iR aH (bW tH (bW tH aH (h.v 1)) (h.v 1)))) (b7 (h.cc 4 (bW iR (bW tH (bW iR (bW qc (h.v 0) (bW AZ aH aH)) aH) (h.v 3)) (bW tH aH (h.v 1)))) (bI (gU (bW qc (bW Dj (bW qc (bW tH (h.v 4) (h.v 4)) (bW iR (bW AZ aH aH) aH)) aH) (h.v 2))))))
variable (fY:TQ (Oz P w K mg base) 1 gr)
include z_len z_range dE dD js gQ jt cX fY in
theorem a6v(D':Ug (Def K mg) a d):Ug (Oz P w K mg base) 4 Fq:=gZ (N:=["kind","cell","offers","at","bad","some","letters"]) D' λX r h=>by
 cases r
 exact (b7 (h.cc 3 (h.cl fY (ai (h.v 1) (ai aH (ai (bW iR (og h.g z_len (h.bv 2)) aH) aN))))) (b7 (h.cc 4 (jY (ai c8 (ai c8 (ai c8 (ai c8 (ai c8 (ai c8 (ai c8 aN))))))))) (b7 (h.cc 5 (jY aN)) (b7 (fZ (gf (jA h.u8) (h.v 0) aH) (bI (h.cc 5 (jY (ai (nB (ai (eM (h.bv 4) (h.cl fY (ai (h.v 1) (ai aH (ai (og h.g z_len (h.bv 4)) aN))))) (ai (h.lg dE (ai aH (ai aH (ai aH aN)))) aN))) aN)))) gj) (b7 (fZ (gf (jA h.u8) (h.v 0) aH) (bI (h.cc 5 (jY (ai (nB (ai (eM (wD (eM (h.bv 2) (h.cl fY (ai (h.v 1) (ai aH (ai (og h.g z_len (h.bv 2)) aN)))))) aH) (ai (h.lg dE (ai aH (ai aH (ai aH aN)))) aN))) aN)))) gj) (b7 (fZ (gf (jA h.u8) (h.v 0) aH) (bI (h.cc 5 (jY (ai (nB (ai c8 (ai (h.lg cX (ai (h.lg dE (ai aH (ai aH (ai aH aN)))) (ai (h.lg jt (ai (h.lg dD (ai c8 aN)) (ai aH aN))) aN))) aN))) aN)))) gj) (b7 (fZ (gf (jA h.u8) (h.v 0) aH) (bI (h.cc 5 (jY (ai (nB (ai c8 (ai (h.lg gQ (ai (h.lg dD (ai c8 aN)) (ai aH (ai aH aN)))) aN))) (ai (nB (ai c8 (ai (h.lg js (ai (h.lg dE (ai aH (ai aH (ai aH aN)))) (ai (h.lg dD (ai c8 aN)) aN))) aN))) aN))))) gj) (b7 (fZ (tP (LZ (gf (jA h.u8) (h.v 0) aH) (Me (gf (jA h.u8) (h.v 0) aH)))) (b7 (h.cc 6 c8) (bI (YR (i:=5) false (N':=["j","letters"]) (caps:=[6]) (nt:=1) h ⟨rfl,by decide +kernel,by decide +kernel,by decide +kernel,by decide +kernel,rfl,rfl,by decide +kernel⟩ (Fc h.g z_range (ai (bW Sb (bW iR aH (h.v 0)) (og h.g z_len (h.bv 2))) aN)) (λX1 eL eK aJ aB eJ h1=>⟨(h1.tg 0),tG,(nB (ai (bW iR (bW iR c8 (Jy (h1.v 1) (bW Dj (h1.v 0) aH))) (Jy (h1.v 1) (bW qc (h1.v 0) aH))) (ai (h1.lg (G5 eL eK aJ aB eJ dE) (ai (h1.v 0) (ai aH (ai aH aN)))) aN)))⟩)))) gj) (bI (gU (bW iR (bW iR (MC (h.bv 2) Mj (Ml (h.v 3))) (h.v 5)) (MC (h.bv 2) (Ml (h.v 3)) Mj))))))))))))
variable (MX:Ug (Oz P w K mg base) 4 Fq)
include z_len in
theorem b0Y(D':SW (Def K mg) a d):SW (Oz P w K mg base) 1 pP:=gZ (N:=["script","k"]) D' λX r h=>by
 cases r
 exact (b7 (fZ (gf EH (h.v 1) (og h.g z_len (h.bv 0))) (bI (gU (eM (h.bv 0) (h.v 1)))) gj) (bI (gU aH)))
variable (qf:SW (Oz P w K mg base) 1 pP)
include fY in
theorem a7g(D':TU (Def K mg) a d):TU (Oz P w K mg base) 2 BN:=gZ (N:=["cell","k","most"]) D' λX r h=>by
 cases r
 exact (b7 (h.cc 2 (eM (wD (jY (ai aH (ai (bW AZ aH aH) (ai (bW AZ aH aH) aN))))) (h.cl fY (ai (h.v 0) (ai (bW iR (h.v 1) aH) (ai aH aN)))))) (bI (gU (bW Sb (h.cl fY (ai (h.v 0) (ai (h.v 1) (ai (bW iR (bW tH aH (h.v 2)) aH) aN)))) (h.v 2)))))
variable (zM:TU (Oz P w K mg base) 2 BN)
include fY zM in
theorem a6u(D':Uh (Def K mg) a d):Uh (Oz P w K mg base) 3 Fs:=gZ (N:=["one","kind","cell","scale","low"]) D' λX r h=>by
 cases r
 exact (b7 (fZ (gf (jA h.u8) (h.v 1) c8) (b7 (h.cc 4 (bW tH (h.cl fY (ai (h.v 2) (ai aH (ai (h.v 3) aN)))) (h.cl fY (ai (h.v 2) (ai aH (ai aH aN)))))) (bI (gU (nB (ai (h.v 1) (ai (h.v 0) (ai (h.v 4) (ai (bW iR (h.v 4) (h.cl fY (ai (h.v 2) (ai aH (ai (bW tH aH (h.v 3)) aN))))) aN)))))))) gj) (b7 (fZ (gf (jA h.u8) (h.v 1) c8) (bI (gU (nB (ai (h.v 1) (ai (h.v 0) (ai (h.cl fY (ai (h.v 2) (ai aH (ai (h.v 3) aN)))) aN)))))) gj) (bI (gU (nB (ai c8 (ai (h.v 0) (ai (h.cl zM (ai (h.v 2) (ai aH aN))) aN))))))))
variable (MY:Uh (Oz P w K mg base) 3 Fs)
include z_range fY zM in
theorem a79(D':TH (Def K mg) a d):TH (Oz P w K mg base) 3 Fv:=gZ (N:=["cell","scale","rows","top","j"]) D' λX r h=>by
 cases r
 exact (b7 (h.set 2 (jY aN)) (b7 (h.cc 3 (bW Dj (bW tH (h.cl fY (ai (h.v 0) (ai aH (ai (h.v 1) aN)))) (h.cl fY (ai (h.v 0) (ai aH (ai aH aN))))) aH)) (b7 (ZC h.own h.calm h.g z_range (ai (bW iR aH (h.cl fY (ai (h.v 0) (ai aH (ai aH aN))))) aN) (h.tg 4) (b7 (h.app 2 (nB (ai (h.v 3) (ai (h.cl zM (ai (h.v 0) (ai (bW iR aH (h.v 4)) aN))) aN)))) (bI (h.cc 3 (bW iR (bW iR (h.v 3) aH) (h.cl fY (ai (h.v 0) (ai (bW iR aH (h.v 4)) (ai (h.v 1) aN))))))))) (bI (h.xB 2)))))
variable (ML:TH (Oz P w K mg base) 3 Fv)
include z_len z_int fY zM ML in
theorem a8a(D':TF (Def K mg) a d):TF (Oz P w K mg base) 4 Fu:=gZ (N:=["cell","scale","names","kind","price","low","high"]) D' λX r h=>by
 cases r
 exact (b7 (h.cc 3 (eM (wD (jY (ai c8 (ai c8 (ai c8 (ai c8 (ai c8 (ai c8 (ai c8 aN))))))))) (h.cl fY (ai (h.v 0) (ai aH (ai aH aN)))))) (b7 (h.cc 4 (h.cl zM (ai (h.v 0) (ai aH aN)))) (b7 (h.cc 5 (bW tH (h.cl fY (ai (h.v 0) (ai aH (ai (h.v 1) aN)))) (h.cl fY (ai (h.v 0) (ai aH (ai aH aN)))))) (b7 (h.cc 6 (bW iR (h.v 5) (bW tH (h.cl fY (ai (h.v 0) (ai aH (ai (h.v 1) aN)))) (h.cl fY (ai (h.v 0) (ai aH (ai aH aN))))))) (b7 (fZ (tP (LZ (gf (jA h.u8) (h.v 3) c8) (Me (gf (jA h.u8) (h.v 3) c8)))) (bI (gU (nB (ai (h.v 3) (ai (h.cl ML (ai (h.v 0) (ai (h.v 1) aN))) aN))))) gj) (b7 (fZ (gf (jA h.u8) (h.v 3) c8) (bI (gU (nB (ai (h.v 3) (ai (bW iR aH (h.cl fY (ai (h.v 0) (ai aH (ai (h.v 1) aN))))) (ai (h.v 4) (ai (bW iR aH (h.cl fY (ai (h.v 0) (ai aH (ai aH aN))))) aN))))))) gj) (b7 (fZ (tP (Yj (gf (jA h.u8) (h.v 3) c8) (YX (gf De (og h.g z_len (h.bv 2)) aH)))) (bI (gU (nB (ai (h.v 3) (ai (eM (h.bv 2) (h.cl fY (ai (h.v 0) (ai aH (ai (og h.g z_len (h.bv 2)) aN))))) aN))))) gj) (bI (gU (nB (ai (eM (wD (jY (ai c8 (ai c8 aN)))) (b56 h.g z_int (Jw (b7Q h.u8) (h.v 3) c8))) (ai (h.v 4) (ai (h.v 5) (ai (h.v 6) aN))))))))))))))
variable (MK:TF (Oz P w K mg base) 4 Fu)
include z_len fY MY MK in
theorem a77(D':TJ (Def K mg) a d):TJ (Oz P w K mg base) 5 Fw:=gZ (N:=["numbers","scale","names","stack","cell","kind","other"]) D' λX r h=>by
 cases r
 exact (b7 (h.set 3 (jY aN)) (b7 (BI h.own h.calm (h.v 0) (h.tg 4) (b7 (h.cc 5 (h.cl fY (ai (h.v 4) (ai aH (ai aH aN))))) (bI (fZ (tP (Yj (gf De (h.v 5) aH) (YX (gf De (og h.g z_len (h.bv 3)) aH)))) (bI (h.Jp 3 (h.clP MY (h.Y6 3 (ai (eM (wD (jY (ai c8 (ai c8 (ai c8 aN))))) (bW Sb (h.v 5) aH)) (ai (h.v 4) (ai (h.v 1) aN))))))) (bI (h.app 3 (h.cl MK (ai (h.v 4) (ai (h.v 1) (ai (h.v 2) aN)))))))))) (b7 (ZD Z5 h.own (gf De (og h.g z_len (h.bv 3)) aH) (b7 (h.pop 6 3) (bI (h.Jp 3 (b8C (b6l (eM (wD (jY (ai c8 (ai c8 (ai c8 (ai c8 aN)))))) (h.cl fY (ai (eM (h.bv 0) aH) (ai aH (ai aH aN))))) (h.Y6 3 (ai (h.v 6) aN)))))))) (bI (gU (eM (h.bv 3) aH))))))
variable (MN:TJ (Oz P w K mg base) 5 Fw)
include z_len z_range qf in
theorem a6w(D':Ue (Def K mg) a d):Ue (Oz P w K mg base) 2 Fp:=gZ (N:=["script","first","most","numbers","k","kept"]) D' λX r h=>by
 cases r
 exact (b7 (h.set 3 (jY (ai (h.cl qf (ai (h.v 0) (ai (h.v 1) aN))) aN))) (b7 (JG h.own h.calm (Zj h.g z_range (ai (bW iR (h.v 1) aH) (ai (og h.g z_len (h.bv 0)) aN))) (h.tg 4) (bI (fZ (gf EH (og h.g z_len (h.bv 3)) (h.v 2)) (bI (h.app 3 (bW qc (eM (h.bv 0) (h.v 4)) (bW AZ aH aH)))) (b7 (h.cc 5 (bW iR (bW tH (eM (h.bv 3) (bW qc (h.v 4) (h.v 2))) aH) (bW qc (eM (h.bv 0) (h.v 4)) (bW AZ aH aH)))) (bI (h.item 3 (bW qc (h.v 5) (bW AZ aH aH)) (bW qc (h.v 4) (h.v 2)))))))) (bI (h.xB 3))))
variable (MW:Ue (Oz P w K mg base) 2 Fp)
include z_range fY in
theorem a7f(D':TX (Def K mg) a d):TX (Oz P w K mg base) 2 JW:=gZ (N:=["cell","size","letters","head","tail"]) D' λX r h=>by
 cases r
 exact (b7 (h.cc 2 c8) (b7 (h.cc 3 (W2 c8 (wD (yL (N':=["j","cell"]) (caps:=[0]) (nt:=1) h ⟨rfl,by decide +kernel,by decide +kernel,by decide +kernel,by decide +kernel,rfl,rfl,by decide +kernel⟩ (Fc h.g z_range (ai (h.cl fY (ai (h.v 0) (ai aH (ai aH aN)))) aN)) (λX1 eL eK aJ aB eJ h1=>⟨(h1.tg 0),tG,(Jy c8 (h1.cl (Ae eL eK aJ aB eJ fY) (ai (h1.v 1) (ai (h1.v 0) (ai aH aN)))))⟩))))) (b7 (h.cc 4 (W2 c8 (wD (yL (N':=["j","cell"]) (caps:=[0]) (nt:=1) h ⟨rfl,by decide +kernel,by decide +kernel,by decide +kernel,by decide +kernel,rfl,rfl,by decide +kernel⟩ (Fc h.g z_range (ai (h.cl fY (ai (h.v 0) (ai aH (ai aH aN)))) aN)) (λX1 eL eK aJ aB eJ h1=>⟨(h1.tg 0),tG,(Jy c8 (h1.cl (Ae eL eK aJ aB eJ fY) (ai (h1.v 1) (ai (bW iR (h1.v 0) aH) (ai aH aN)))))⟩))))) (bI (gU (yL (N':=["k","head","letters","cell","tail"]) (caps:=[3,2,0,4]) (nt:=1) h ⟨rfl,by decide +kernel,by decide +kernel,by decide +kernel,by decide +kernel,rfl,rfl,by decide +kernel⟩ (Fc h.g z_range (ai (h.v 1) aN)) (λX1 eL eK aJ aB eJ h1=>⟨(h1.tg 0),tG,(bW iR (bW iR (h1.v 1) (Jy (h1.v 2) (bW qc (bW iR (h1.cl (Ae eL eK aJ aB eJ fY) (ai (h1.v 3) (ai aH (ai aH aN)))) (bW tH aH (h1.v 0))) aH))) (h1.v 4))⟩)))))))
variable (MZ:TX (Oz P w K mg base) 2 JW)
include z_len z_range qf MN MW MZ in
theorem a8b(D':TC (Def K mg) a d):TC (Oz P w K mg base) 6 Du:=gZ (N:=["script","scale","size","names","numbers","offers","k","own"]) D' λX r h=>by
 cases r
 exact (b7 (h.cc 1 (eM (wD (jY (ai aH (ai (bW AZ aH aH) (ai (bW AZ aH aH) aN))))) (bW qc (h.cl qf (ai (h.v 0) (ai aH aN))) aH))) (b7 (h.cc 2 (bW iR aH (bW qc (bW Dj (h.cl qf (ai (h.v 0) (ai aH aN))) aH) aH))) (b7 (h.cc 3 (h.cl MZ (ai (h.cl qf (ai (h.v 0) (ai aH aN))) (ai (h.v 2) aN)))) (b7 (h.cc 4 (h.cl MW (ai (h.v 0) (ai aH (ai (bW tH aH (h.v 2)) aN))))) (b7 (h.set 5 (jY aN)) (b7 (ZC h.own h.calm h.g z_range (ai (h.v 2) aN) (h.tg 6) (b7 (h.cc 7 (bW iR (yL (N':=["j","numbers","size","k"]) (caps:=[4,2,6]) (nt:=1) h ⟨rfl,by decide +kernel,by decide +kernel,by decide +kernel,by decide +kernel,rfl,rfl,by decide +kernel⟩ (Fc h.g z_range (ai (og h.g z_len (h.bv 4)) aN)) (λX1 eL eK aJ aB eJ h1=>⟨(h1.tg 0),(b8m (gf (jA h1.u8) (bW qc (h1.v 0) (h1.v 2)) (h1.v 3))),(eM (h1.bv 1) (h1.v 0))⟩)) (jY (ai (bW iR (h.cl qf (ai (h.v 0) (ai aH aN))) (h.v 6)) aN)))) (bI (h.app 5 (nB (ai (eM (h.bv 3) (h.v 6)) (ai (h.cl MN (ai (MC (h.bv 7) Mj (Ml aH)) (ai (h.v 1) (ai (MC (h.bv 3) Mj (Ml (h.v 6))) aN)))) aN))))))) (b7 (fZ (gf (jA h.u8) (bW qc (bW Dj (h.cl qf (ai (h.v 0) (ai aH aN))) aH) aH) aH) (bI (h.rev 5)) gj) (bI (h.xB 5)))))))))
variable (MJ:TC (Oz P w K mg base) 6 Du)
include OB in
theorem a8i(D':Uo (c9 K aq) d):BS P w K mg base bu bj aq "Single" 1 zJ 1 A1:=Ru (N:=["self","one"]) OB.mr OB.mi D' λX r h=>by
 cases r
 exact (h.fN OB.dS.c OB.fA (h.v 1) wI)
variable (j8:BS P w K mg base bu bj aq "Single" 1 zJ 1 A1)
include OB j8 in
theorem a8h(D':a44 (c9 K be) d):jr P w K mg base "After" 2 JM 2 Tf:=L9 (N:=["self","one","count"]) OB.dS OB.Av OB.nJ D' λX r h=>by
 cases r
 exact (h.OU j8 (ai (h.v 1) aN) (h.DQ OB.dS.c OB.fJ (h.v 2) Mb))
variable (j7:jr P w K mg base "After" 2 JM 2 Tf)
include OB in
theorem a7h(D':T9 (c9 K aI) d):jr P w K mg base "Dearer" 2 JS 1 Tz:=AU (N:=["self","one","other"]) OB.cy OB.xY OB.lM D' λX r h=>by
 cases r
 exact (h.fN OB.cy.c OB.eF (h.v 1) (h.fN OB.cy.c OB.dq (h.v 2) wI))
variable (iU:jr P w K mg base "Dearer" 2 JS 1 Tz)
include OB in
theorem a7i(D':a4I (c9 K aY) d):jr P w K mg base "Blocks" 3 JR 1 Tx:=AU (N:=["self","size","price","many"]) OB.cN OB.ya OB.lN D' λX r h=>by
 cases r
 exact (h.fN OB.cN.c OB.fH (h.v 1) (h.fN OB.cN.c OB.eT (h.v 2) (h.fN OB.cN.c OB.fI (h.v 3) wI)))
variable (iV:jr P w K mg base "Blocks" 3 JR 1 Tx)
include OB in
theorem a8e(D':a3n (c9 K aT) d):jr P w K mg base "Steps" 1 JO 1 MR:=AU (N:=["self","rows"]) OB.fB OB.Ar OB.nF D' λX r h=>by
 cases r
 exact (h.fN OB.fB.c OB.gx (yL (N':=["top","unit"]) (caps:=[]) (nt:=2) h ⟨rfl,by decide +kernel,by decide +kernel,by decide +kernel,by decide +kernel,rfl,rfl,by decide +kernel⟩ (zE (h.v 1)) (λX1 eL eK aJ aB eJ h1=>⟨(Dl (n:=2) h1.calm (tI (h1.tg 0) (tI (h1.tg 1) Dq))),tG,(nB (ai (h1.v 0) (ai (h1.v 1) aN)))⟩)) wI)
variable (j5:jr P w K mg base "Steps" 1 JO 1 MR)
include OB in
theorem a8g(D':a3n (c9 K aT) d):jr P w K mg base "Bands" 1 JN 1 MQ:=AU (N:=["self","rows"]) OB.fC OB.Au OB.nI D' λX r h=>by
 cases r
 exact (h.fN OB.fC.c OB.gC (yL (N':=["top","unit"]) (caps:=[]) (nt:=2) h ⟨rfl,by decide +kernel,by decide +kernel,by decide +kernel,by decide +kernel,rfl,rfl,by decide +kernel⟩ (zE (h.v 1)) (λX1 eL eK aJ aB eJ h1=>⟨(Dl (n:=2) h1.calm (tI (h1.tg 0) (tI (h1.tg 1) Dq))),tG,(nB (ai (h1.v 0) (ai (h1.v 1) aN)))⟩)) wI)
variable (j6:jr P w K mg base "Bands" 1 JN 1 MQ)
include OB in
theorem a9S(D':a5M (c9 K bq) d):jr P w K mg base "Each" 3 JE 1 SR:=AU (N:=["self","unit","low","high"]) OB.fL OB.CC OB.qr D' λX r h=>by
 cases r
 exact (h.fN OB.fL.c OB.iq (h.v 1) (h.fN OB.fL.c OB.jk (h.v 2) (h.fN OB.fL.c OB.ir (h.v 3) wI)))
variable (lI:jr P w K mg base "Each" 3 JE 1 SR)
include z_list bf dE dD js gQ jt cX j7 iU iV j5 j6 lI in
theorem a78(D':FA (Def K mg) a d):FA (Oz P w K mg base) (l7+4) (Uj kT):=gZ (N:=["plan","kind"]) D' λX r h=>by
 cases r
 exact (b7 (h.cc 1 (eM (h.bv 0) aH)) (b7 (fZ (gf (jA h.u8) (h.v 1) c8) (bI (gU (h.lg lI (ai (eM (h.bv 0) aH) (ai (eM (h.bv 0) aH) (ai (eM (h.bv 0) aH) aN))) (hj:=by omega)))) gj) (b7 (fZ (gf (jA h.u8) (h.v 1) c8) (bI (gU (h.lg dE (ai (eM (h.bv 0) aH) (ai (eM (h.bv 0) aH) (ai (eM (h.bv 0) aH) aN))) (hj:=by omega)))) gj) (b7 (fZ (gf (jA h.u8) (h.v 1) c8) (bI (gU (h.lg j6 (ai (YG h.g z_list (wD (eM (h.bv 0) aH))) aN) (hj:=by omega)))) gj) (b7 (fZ (gf (jA h.u8) (h.v 1) c8) (bI (gU (h.lg j5 (ai (YG h.g z_list (wD (eM (h.bv 0) aH))) aN) (hj:=by omega)))) gj) (b7 (fZ (gf (jA h.u8) (h.v 1) c8) (bI (gU (h.lg iV (ai (eM (h.bv 0) aH) (ai (eM (h.bv 0) aH) (ai (eM (h.bv 0) aH) aN))) (hj:=by omega)))) gj) (b7 (fZ (gf (jA h.u8) (h.v 1) c8) (bI (gU (h.lg dD (ai (eM (h.bv 0) aH) aN) (hj:=by omega)))) gj) (b7 (fZ (gf (jA h.u8) (h.v 1) c8) (bI (gU (h.lg js (ai (h.cl bf (ai (eM (h.bv 0) aH) aN) (hj:=by omega)) (ai (h.cl bf (ai (eM (h.bv 0) aH) aN) (hj:=by omega)) aN)) (hj:=by omega)))) gj) (b7 (fZ (gf (jA h.u8) (h.v 1) c8) (bI (gU (h.lg cX (ai (h.cl bf (ai (eM (h.bv 0) aH) aN) (hj:=by omega)) (ai (h.cl bf (ai (eM (h.bv 0) aH) aN) (hj:=by omega)) aN)) (hj:=by omega)))) gj) (b7 (fZ (gf (jA h.u8) (h.v 1) c8) (bI (gU (h.lg iU (ai (h.cl bf (ai (eM (h.bv 0) aH) aN) (hj:=by omega)) (ai (h.cl bf (ai (eM (h.bv 0) aH) aN) (hj:=by omega)) aN)) (hj:=by omega)))) gj) (b7 (fZ (gf (jA h.u8) (h.v 1) c8) (bI (gU (h.lg gQ (ai (h.cl bf (ai (eM (h.bv 0) aH) aN) (hj:=by omega)) (ai (eM (h.bv 0) aH) (ai (eM (h.bv 0) aH) aN))) (hj:=by omega)))) gj) (b7 (fZ (gf (jA h.u8) (h.v 1) c8) (bI (gU (h.lg j7 (ai (h.cl bf (ai (eM (h.bv 0) aH) aN) (hj:=by omega)) (ai (eM (h.bv 0) aH) aN)) (hj:=by omega)))) gj) (bI (gU (h.lg jt (ai (h.cl bf (ai (eM (h.bv 0) aH) aN) (hj:=by omega)) (ai (eM (h.bv 0) aH) aN)) (hj:=by omega))))))))))))))))
variable (MM:FA (Oz P w K mg base) 25 (uN 6))
include TT z_len z_range z_isinstance z_ValueError Mz lJ lF MX qf MJ MM in
theorem b7O(D':FX (Def K mg) a d):bD P w K mg base jv 26 a d ["script"] (qu K 1 Mi):=lp (N:=["script","offers","kinds","kind","told","e","due"]) D' λX r h=>by
 cases r
 exact (b7 (YR (i:=1) false (N':=["offer"]) (caps:=[]) (nt:=1) h ⟨rfl,by decide +kernel,by decide +kernel,by decide +kernel,by decide +kernel,rfl,rfl,by decide +kernel⟩ (zE (h.cl MJ (ai (h.v 0) aN))) (λX1 eL eK aJ aB eJ h1=>⟨(h1.tg 0),tG,(nB (ai (eM (h1.bv 0) aH) (ai (h1.cl (Ae eL eK aJ aB eJ MM) (ai (eM (h1.bv 0) aH) aN)) aN)))⟩)) (b7 (h.cc 2 (jY (ai (bW qc (bW Dj (h.cl qf (ai (h.v 0) (ai aH aN))) aH) aH) (ai (bW qc (bW Dj (h.cl qf (ai (h.v 0) (ai aH aN))) aH) aH) aN)))) (b7 (fZ (gf (jA h.u8) (eM (h.bv 2) aH) (eM (h.bv 2) aH)) (bI (h.cc 2 (jY (ai (eM (h.bv 2) aH) aN)))) gj) (b7 (BI h.own h.calm (h.v 2) (h.tg 3) (bI (fZ (tP (LZ (gf EH (og h.g z_len (h.bv 1)) (bW iR aH (h.v 3))) (Me (gf EH (h.v 3) aH)))) (bI (h.cc 1 (h.cl MX (ai (h.v 3) (ai (h.cl qf (ai (h.v 0) (ai (bW iR aH (h.v 3)) aN))) (ai (h.v 1) aN)))))) gj))) (b7 (h.cc 4 (jY aN)) (b7 (b7g (i:=5) h rfl rfl h.g TT.v0Z.m (JL TT.cC TT.NL (JL TT.z5 TT.NK (JL TT.gD TT.NJ (JL TT.z0 TT.NI (JL TT.eG TT.NH b5R))))) (λX1 eL eK aJ aB eJ h1=>(bI (b4U (h1.lg (G5 eL eK aJ aB eJ lJ) (ai (h1.v 1) aN))))) (λX1 W1 eL eK aJ aB eJ h1 xk1=>(uM (SG (h1.xmk (OH eL eK aJ aB eJ lF) xk1 (AV.b8 (ai (h1.v 1) aN)))))) (λX1 eL eK aJ aB eJ h1=>(b7 (h1.cc 4 (jY (ai (Jx h1.g (qh aB z_isinstance) h1.g (aV aJ aB TT).z0.m (jz (aV aJ aB TT).cC (aV aJ aB TT).NC (jz (aV aJ aB TT).z5 (aV aJ aB TT).Ny (jz (aV aJ aB TT).gD (aV aJ aB TT).Nv (jz (aV aJ aB TT).z0 (aV aJ aB TT).Nq (jz (aV aJ aB TT).eG (aV aJ aB TT).Nl E6))))) (h1.v 5)) (ai (Jx h1.g (qh aB z_isinstance) h1.g (aV aJ aB TT).cC.m (jz (aV aJ aB TT).cC (aV aJ aB TT).di (jz (aV aJ aB TT).z5 (aV aJ aB TT).NB (jz (aV aJ aB TT).gD (aV aJ aB TT).eQ (jz (aV aJ aB TT).z0 (aV aJ aB TT).Nu (jz (aV aJ aB TT).eG (aV aJ aB TT).dZ E6))))) (h1.v 5)) (ai (Jx h1.g (qh aB z_isinstance) h1.g (aV aJ aB TT).eG.m (jz (aV aJ aB TT).cC (aV aJ aB TT).d7 (jz (aV aJ aB TT).z5 (aV aJ aB TT).Nx (jz (aV aJ aB TT).gD (aV aJ aB TT).gw (jz (aV aJ aB TT).z0 (aV aJ aB TT).Np (jz (aV aJ aB TT).eG (aV aJ aB TT).fG E6))))) (h1.v 5)) (ai (Jx h1.g (qh aB z_isinstance) h1.g (aV aJ aB TT).z5.m (jz (aV aJ aB TT).cC (aV aJ aB TT).ND (jz (aV aJ aB TT).z5 (aV aJ aB TT).NA (jz (aV aJ aB TT).gD (aV aJ aB TT).Nw (jz (aV aJ aB TT).z0 (aV aJ aB TT).Nt (jz (aV aJ aB TT).eG (aV aJ aB TT).Nn E6))))) (h1.v 5)) aN)))))) (bI (h1.cc 4 (bW iR (h1.v 4) (jY (ai (Jx h1.g (qh aB z_isinstance) h1.g (aV aJ aB TT).gD.m (jz (aV aJ aB TT).cC (aV aJ aB TT).eR (jz (aV aJ aB TT).z5 (aV aJ aB TT).Nz (jz (aV aJ aB TT).gD (aV aJ aB TT).ij (jz (aV aJ aB TT).z0 (aV aJ aB TT).Nr (jz (aV aJ aB TT).eG (aV aJ aB TT).gu E6))))) (h1.v 5)) (ai (b55 h1.g (qh aB z_isinstance) h1.g (qh aB z_ValueError) (by decide +kernel) (jz (aV aJ aB TT).cC (aV aJ aB TT).cx (jz (aV aJ aB TT).z5 (aV aJ aB TT).NG (jz (aV aJ aB TT).gD (aV aJ aB TT).dh (jz (aV aJ aB TT).z0 (aV aJ aB TT).NF (jz (aV aJ aB TT).eG (aV aJ aB TT).cS E6))))) (h1.v 5)) aN))))))))) (b7 (h.cc 6 (h.cl Mz (ai (h.v 2) (ai (og h.g z_len (h.bv 1)) aN)))) (b7 (fZ (gf (jA h.u8) (h.v 6) aH) (bI (gU (Jw (jA h.u8) (h.v 4) (jY aN)))) gj) (bI (gU (Jw (jA h.u8) (h.v 4) (bW iR (yL (N':=["k","due"]) (caps:=[6]) (nt:=1) h ⟨rfl,by decide +kernel,by decide +kernel,by decide +kernel,by decide +kernel,rfl,rfl,by decide +kernel⟩ (Fc h.g z_range (ai aH aN)) (λX1 eL eK aJ aB eJ h1=>⟨(h1.tg 0),tG,(Jw (jA h1.u8) (h1.v 0) (h1.v 1))⟩)) (jY (ai RD aN))))))))))))))
end
local macro_rules | `(tactic| walk_at "m1")=>`(tactic| (intro _ _ _ _ _ _ us hu; obtain ⟨_,h⟩:=b5A hu; subst h; rfl))
local macro_rules | `(tactic| walk_at "m2")=>`(tactic| (intro _ _ _ _ _ _ us hu; obtain ⟨_,_,h⟩:=b5z hu; subst h; rfl))
local macro_rules | `(tactic| walk_at "m3")=>`(tactic| (intro _ _ _ _ _ _ us hu; obtain ⟨_,_,_,h⟩:=b5y hu; subst h; rfl))
local macro_rules | `(tactic| walk_at "m4")=>`(tactic| (intro _ _ _ _ _ _ us hu; obtain ⟨_,_,_,_,h⟩:=b75 hu; subst h; rfl))
theorem all_mk{l:QD}{w:World}{K:aK}{h:Heap}{mg:Str->Option Value}{fa:Addr}(X:K.In h)(G:h.Ns mainGlobals mg)(KU:mg "law" = some (.ref fa))
  (i1:FI K "_law_due" a5V f1 od1 an1 sl1 oc1 kV1 dc1 pm1 cd1 ct1)
  (i2:FI K "reached_from" a2S f2 od2 an2 Gb oc2 kV2 dc2 pm2 cd2 ct2)
  (i3:FI K "check_needs" a3q f3 od3 an3 sl3 oc3 kV3 dc3 pm3 cd3 ct3)
  (i4:FI K "is_name" a5W f4 od4 an4 sl4 oc4 kV4 dc4 pm4 cd4 ct4)
  (i5:FI K "check_names" a3r f5 od5 an5 sl5 oc5 kV5 dc5 pm5 cd5 ct5)
  (i6:FI K "check_many" a3O f6 od6 an6 sl6 oc6 kV6 dc6 pm6 cd6 ct6)
  (i7:FI K "_law_mix" a5U f7 od7 an7 sl7 oc7 kV7 dc7 pm7 cd7 ct7)
  (i8:FI K "_law_spoilt" a3M f8 od8 an8 sl8 oc8 kV8 dc8 pm8 cd8 ct8)
  (i9:FI K "_law_at" ZX f9 od9 an9 sl9 oc9 kV9 dc9 pm9 cd9 ct9)
  (i10:FI K "_law_price" a4E f10 od10 an10 sl10 oc10 kV10 dc10 pm10 cd10 ct10)
  (i11:FI K "_law_turned" a3L f11 od11 an11 sl11 oc11 kV11 dc11 pm11 cd11 ct11)
  (i12:FI K "_law_rows" Z9 f12 od12 an12 sl12 oc12 kV12 dc12 pm12 cd12 ct12)
  (i13:FI K "_law_leaf" Z8 f13 od13 an13 sl13 oc13 kV13 dc13 pm13 cd13 ct13)
  (i14:FI K "_law_tree" a48 f14 od14 an14 sl14 oc14 kV14 dc14 pm14 cd14 ct14)
  (i15:FI K "_law_folded" a3N f15 od15 an15 sl15 oc15 kV15 dc15 pm15 cd15 ct15)
  (i16:FI K "_law_words" a4D f16 od16 an16 sl16 oc16 kV16 dc16 pm16 cd16 ct16)
  (i17:FI K "_law_book" Z7 f17 od17 an17 sl17 oc17 kV17 dc17 pm17 cd17 ct17)
  (VB:FI K "_law_rule" a49 f18 od18 an18 sl18 oc18 kV18 dc18 pm18 cd18 ct18)
  (VA:FI K "law" JB f19 od19 Sg sl19 oc19 OS P5 Ot Qa P9)
  (Nj:iJ K mainGlobals "all" = some none)
  (wO:∃t,iJ K mainGlobals "LETTERS" = some (some (.str "abcdefghijklmnopqrstuvwxyz" t)))
  {kS kR kQ kP kO kN kM kL kK kJ jK jJ jI jH jG jF:Tok}{kG:Addr}{oU:Option Addr}{oR:Array (Option Value)}{oS:Nat}(qi:iJ K mainGlobals "OWN_WORDS" = some (some (.ref kG)))(qj:K.lookup kG=some ⟨.type "tuple",oU,.seq #[.str "each" kS,.str "from" kR,.str "to" kQ,.str "flat" kP,.str "bands" kO,.str "steps" kN,.str "blocks" kM,.str "at" kL,.str "times" kK,.str "plus" kJ,.str "or" jK,.str "max" jJ,.str "only" jI,.str "after" jH,.str "roomy" jG,.str "fee" jF] oS,oR⟩)
  (Nh:iJ K mainGlobals "len" = some none)
  (mH:∃t,iJ K mainGlobals "MOST_LETTERS" = some (some (.int 8 t)))
  (nE:∃t,iJ K mainGlobals "MOST_OFFERS" = some (some (.int 30 t)))
  (Ng:iJ K mainGlobals "set" = some none)
  (BW:iJ K mainGlobals "range" = some none)
  (Ni:iJ K mainGlobals "int" = some none)
  (FJ:iJ K mainGlobals "list" = some none)
  (oO:iJ K mainGlobals "isinstance" = some none)
  (oP:iJ K mainGlobals "ValueError" = some none)
  (zS:iJ K mainGlobals "sorted" = some none)
  (FK:iJ K mainGlobals "dict" = some none)
  {ak:Addr}(nh:iJ K mainGlobals "BadName" = some (some (.ref ak)))(qU:j' K (.ref ak) "__getattribute__" = some (some (.builtin "BaseException.__getattribute__")))(qS:j' K (.ref ak) "__getattr__" = some none)(qR:j' K (.ref ak) "__class__" = some (some (.builtin "object.__class__")))(qQ:wo K ak (.type "object")=some true)(qO:wo K ak (.type "BaseException")=some true)(qP:(D6 K ak).isSome=true)
  {gc:Addr}(UI:iJ K mainGlobals "NoOffer" = some (some (.ref gc)))(v0u:j' K (.ref gc) "__getattribute__" = some (some (.builtin "BaseException.__getattribute__")))(v0x:j' K (.ref gc) "__getattr__" = some none)(v0A:j' K (.ref gc) "__class__" = some (some (.builtin "object.__class__")))(v0D:wo K gc (.type "object")=some true)(v0J:wo K gc (.type "BaseException")=some true)(v0G:(D6 K gc).isSome=true)
  {k7:Addr}(UH:iJ K mainGlobals "OfferError" = some (some (.ref k7)))(v0v:j' K (.ref k7) "__getattribute__" = some (some (.builtin "BaseException.__getattribute__")))(v0y:j' K (.ref k7) "__getattr__" = some none)(v0B:j' K (.ref k7) "__class__" = some (some (.builtin "object.__class__")))(v0E:wo K k7 (.type "object")=some true)(v0K:wo K k7 (.type "BaseException")=some true)(v0H:(D6 K k7).isSome=true)
  {aM:Addr}(xM:iJ K mainGlobals "Ring" = some (some (.ref aM)))(AB:j' K (.ref aM) "__getattribute__" = some (some (.builtin "BaseException.__getattribute__")))(AA:j' K (.ref aM) "__getattr__" = some none)(Az:j' K (.ref aM) "__class__" = some (some (.builtin "object.__class__")))(Ay:wo K aM (.type "object")=some true)(Aw:wo K aM (.type "BaseException")=some true)(Ax:(D6 K aM).isSome=true)
  {f':Addr}(UG:iJ K mainGlobals "TooMany" = some (some (.ref f')))(v0w:j' K (.ref f') "__getattribute__" = some (some (.builtin "BaseException.__getattribute__")))(v0z:j' K (.ref f') "__getattr__" = some none)(v0C:j' K (.ref f') "__class__" = some (some (.builtin "object.__class__")))(v0F:wo K f' (.type "object")=some true)(v0L:wo K f' (.type "BaseException")=some true)(v0I:(D6 K f').isSome=true)
  {av:Addr}(si:iJ K mainGlobals "Twice" = some (some (.ref av)))(yh:j' K (.ref av) "__getattribute__" = some (some (.builtin "BaseException.__getattribute__")))(yg:j' K (.ref av) "__getattr__" = some none)(yf:j' K (.ref av) "__class__" = some (some (.builtin "object.__class__")))(ye:wo K av (.type "object")=some true)(yc:wo K av (.type "BaseException")=some true)(yd:(D6 K av).isSome=true)
  (g4:Qr K (.builtin "object.__class__") "__get__" = some (some (.builtin "getset_descriptor.__get__")))(g5:PySem.W.takesIn K (.builtin "object.__class__")=some true)
  {bR bQ bP bN aW bO dB aU a9 bH bj cO dJ bu aE aX aO af aS aj aZ bp bc aI aq bo bE be aY aT bq:Addr}
  (yE:iJ K mainGlobals "Single" = some (some (.ref bu)))
  (fL:cP K "Each" bR)
  (qr:Mk K bR bq)
  (iq:ao K bR "unit")
  (jk:ao K bR "low")
  (ir:ao K bR "high")
  (gK:aP K bR "parts" aE)
  (dI:aP K bR "all_names" af)
  (gL:aP K bR "names" aj)
  (fK:cP K "Flat" bQ)
  (qq:Mk K bQ bp)
  (gA:ao K bQ "price")
  (jj:ao K bQ "low")
  (il:ao K bQ "high")
  (gH:aP K bQ "parts" aE)
  (dH:aP K bQ "all_names" af)
  (gJ:aP K bQ "names" aj)
  (fC:cP K "Bands" bP)
  (nI:Mk K bP aT)
  (gC:ao K bP "rows")
  (fT:aP K bP "parts" aE)
  (dv:aP K bP "all_names" af)
  (fU:aP K bP "names" aj)
  (fB:cP K "Steps" bN)
  (nF:Mk K bN aT)
  (gx:ao K bN "rows")
  (fP:aP K bN "parts" aE)
  (dt:aP K bN "all_names" af)
  (fQ:aP K bN "names" aj)
  (cN:cP K "Blocks" aW)
  (lN:Mk K aW aY)
  (fH:ao K aW "size")
  (eT:ao K aW "price")
  (fI:ao K aW "many")
  (e9:aP K aW "parts" aE)
  (cU:aP K aW "all_names" af)
  (ff:aP K aW "names" aj)
  (eI:cP K "Named" bO)
  (nG:Mk K bO bc)
  (eE:ao K bO "name")
  (fR:aP K bO "parts" aE)
  (du:aP K bO "all_names" aS)
  (fS:aP K bO "names" aj)
  (iw:cP K "Sum" dB)
  (wX:Mk K dB aI)
  (iM:ao K dB "one")
  (fy:ao K dB "other")
  (iC:aP K dB "parts" aX)
  (d8:aP K dB "all_names" af)
  (iD:aP K dB "names" aj)
  (bU:cP K "Cheaper" aU)
  (kr:Mk K aU aI)
  (dP:ao K aU "one")
  (cQ:ao K aU "other")
  (eh:aP K aU "parts" aX)
  (cJ:aP K aU "all_names" af)
  (ei:aP K aU "names" aj)
  (cy:cP K "Dearer" a9)
  (lM:Mk K a9 aI)
  (eF:ao K a9 "one")
  (dq:ao K a9 "other")
  (eZ:aP K a9 "parts" aX)
  (cT:aP K a9 "all_names" af)
  (e8:aP K a9 "names" aj)
  (eU:cP K "Only" bH)
  (qp:Mk K bH bo)
  (gz:ao K bH "one")
  (ji:ao K bH "low")
  (ik:ao K bH "high")
  (gF:aP K bH "parts" aO)
  (dG:aP K bH "all_names" af)
  (gG:aP K bH "names" aj)
  (dS:cP K "After" bj)
  (nJ:Mk K bj be)
  (fA:ao K bj "one")
  (fJ:ao K bj "count")
  (fV:aP K bj "parts" aO)
  (dy:aP K bj "all_names" af)
  (fW:aP K bj "names" aj)
  (jd:cP K "Fee" cO)
  (wY:Mk K cO bE)
  (iN:ao K cO "one")
  (ip:ao K cO "price")
  (iE:aP K cO "parts" aO)
  (d9:aP K cO "all_names" af)
  (iF:aP K cO "names" aj)
  (fM:cP K "Book" dJ)
  (nH:Mk K dJ aZ)
  (dQ:ao K dJ "offers")
  (cA:ao K dJ "rules")
  (EG:j' K (.ref bu) "__init__" = some (some (.ref aq)))
  (uH:Qr K (.ref bu) "__getattribute__" = some (some (.builtin "type.__getattribute__")))
  (uG:Wl K bu (.type "type")=true)
  (uF:Wk K (.ref bu) (.type "type") "__init__" = some (.val (.ref aq)))
  (nR:FM K "parts" "Rule.parts" a3P aE yY zz yS y4 y8 zg yV zm zj)
  (nU:FM K "parts" "Pair.parts" a3R aX y3 zB yU y7 za zi yX zp zl)
  (l8:FM K "parts" "Single.parts" a2T aO vg wt uU vp vC vM u5 v3 vT)
  (kB:FM K "all_names" "Rule.all_names" a2t af rZ tq rP r8 sr sN rW sT sQ)
  (jM:FM K "all_names" "Named.all_names" a2a aS qB rh qw qC qG qW qz qZ qX)
  (nS:FM K "names" "Rule.names" a3Q aj yZ zA yT y6 y9 zh yW zo zk)
  (iA:FM K "__init__" "Book.__init__" a2Z aZ vo wB u2 vA vI vS ve wb vZ)
  (ma:FM K "__init__" "Flat.__init__" a2X bp vm wz uY vy vG vQ va v9 vX)
  (lh:FM K "__init__" "Named.__init__" a2H bc tY uI tQ t4 t9 um tV uw ur)
  (eW:FM K "__init__" "Pair.__init__" a2V aI vi wx uW vt vE vO u7 v7 vV)
  (cE:FM K "__init__" "Single.__init__" a2s aq rY tm rO r6 sj sM rV sS sP)
  (l9:FM K "__init__" "Only.__init__" a2W bo vj wy uX vw vF vP u9 v8 vW)
  (mM:FM K "__init__" "Fee.__init__" a3s bE xF yC w6 xG xP ym xC yo yn)
  (lj:FM K "__init__" "After.__init__" a2I be tZ uJ tR t5 ua uo tW ux uu)
  (kC:FM K "__init__" "Blocks.__init__" a2u aY r0 tu rQ sd su sO rX sU sR)
  (iy:FM K "__init__" "Rows.__init__" a2U aT vh wu uV vq vD vN u6 v5 vU)
  (md:FM K "__init__" "Each.__init__" a2Y bq vn wA uZ vz vH vR vb wa vY)
  (NL:yA K (.ref ak) (.ref k7)=some true)
  (NK:yA K (.ref gc) (.ref k7)=some true)
  (NJ:yA K (.ref aM) (.ref k7)=some true)
  (NI:yA K (.ref f') (.ref k7)=some true)
  (NH:yA K (.ref av) (.ref k7)=some true)
  (di:df K (.ref ak) (.ref ak)=some true)
  (ND:df K (.ref ak) (.ref gc)=some false)
  (eR:df K (.ref ak) (.ref aM)=some false)
  (NC:df K (.ref ak) (.ref f')=some false)
  (d7:df K (.ref ak) (.ref av)=some false)
  (NB:df K (.ref gc) (.ref ak)=some false)
  (NA:df K (.ref gc) (.ref gc)=some true)
  (Nz:df K (.ref gc) (.ref aM)=some false)
  (Ny:df K (.ref gc) (.ref f')=some false)
  (Nx:df K (.ref gc) (.ref av)=some false)
  (eQ:df K (.ref aM) (.ref ak)=some false)
  (Nw:df K (.ref aM) (.ref gc)=some false)
  (ij:df K (.ref aM) (.ref aM)=some true)
  (Nv:df K (.ref aM) (.ref f')=some false)
  (gw:df K (.ref aM) (.ref av)=some false)
  (Nu:df K (.ref f') (.ref ak)=some false)
  (Nt:df K (.ref f') (.ref gc)=some false)
  (Nr:df K (.ref f') (.ref aM)=some false)
  (Nq:df K (.ref f') (.ref f')=some true)
  (Np:df K (.ref f') (.ref av)=some false)
  (dZ:df K (.ref av) (.ref ak)=some false)
  (Nn:df K (.ref av) (.ref gc)=some false)
  (gu:df K (.ref av) (.ref aM)=some false)
  (Nl:df K (.ref av) (.ref f')=some false)
  (fG:df K (.ref av) (.ref av)=some true)
  (cx:df K (.ref ak) (.type "ValueError")=some true)
  (NG:df K (.ref gc) (.type "ValueError")=some true)
  (dh:df K (.ref aM) (.type "ValueError")=some true)
  (NF:df K (.ref f') (.type "ValueError")=some true)
  (cS:df K (.ref av) (.type "ValueError")=some true)
  {jn mo kH:List Value}{iT:Addr}{lT lS:Str}{mf mw:Bool}{lP:List Str}{kU:Option Bool}{ml:Option Addr}{l6 l5 l4 lZ lY:Option Value}
  (qo:K.lookup ak=some (excClassObj lT lS ak iT mo jn mf lP kH mw kU ml l6 l5 l4 lZ lY "ValueError.__new__"))(qm:Ek K iT=true)(ql:iJ K iT "__init__" = some none)(qk:Ej K EL jn=true)
  {NN UQ UK:List Value}{Kp:Addr}{UE UC:Str}{U5 US:Bool}{UA:List Str}{UO:Option Bool}{UM:Option Addr}{U3 U1 UZ UX UU:Option Value}
  (v1E:K.lookup gc=some (excClassObj UE UC gc Kp UQ NN U5 UA UK US UO UM U3 U1 UZ UX UU "ValueError.__new__"))(v1G:Ek K Kp=true)(v1I:iJ K Kp "__init__" = some none)(v1K:Ej K EL NN=true)
  {nY sZ oW:List Value}{oA:Addr}{se rU:Str}{sI tz:Bool}{rN:List Str}{pD:Option Bool}{sL:Option Addr}{sD sA sy sx sv:Option Value}
  (zX:K.lookup aM=some (excClassObj se rU aM oA sZ nY sI rN oW tz pD sL sD sA sy sx sv "ValueError.__new__"))(zW:Ek K oA=true)(zV:iJ K oA "__init__" = some none)(zU:Ej K EL nY=true)
  {NM UP UJ:List Value}{Ko:Addr}{UD UB:Str}{U4 UR:Bool}{Uz:List Str}{UN:Option Bool}{UL:Option Addr}{U2 U0 UY UW UT:Option Value}
  (v1F:K.lookup f'=some (excClassObj UD UB f' Ko UP NM U4 Uz UJ UR UN UL U2 U0 UY UW UT "ValueError.__new__"))(v1H:Ek K Ko=true)(v1J:iJ K Ko "__init__" = some none)(v1L:Ej K EL NM=true)
  {mq pF m9:List Value}{lH:Addr}{o4 o3:Str}{pq pJ:Bool}{oX:List Str}{nu:Option Bool}{pB:Option Addr}{pd o9 o8 o7 o6:Option Value}
  (wV:K.lookup av=some (excClassObj o4 o3 av lH pF mq pq oX m9 pJ nu pB pd o9 o8 o7 o6 "ValueError.__new__"))(wU:Ek K lH=true)(wR:iJ K lH "__init__" = some none)(wQ:Ej K EL mq=true)
  (fin:∀ns:List Int,ns.length<=63->Mi [.lst true (ns.map D.int)]=some (.sh (.bl true))):
  ∃fd:FuncData,(∀(s:Shared) (v:Value),BindsTo s fd ⟨[v],[]⟩ [("script",v)])/\∀base:Heap,K.In base->base.Ns mainGlobals mg->bD l.prog w K mg base jv 26 fa fd ["script"] (spT K):=by
 have e:=KU.symm.trans (kW X G VA.a)
 cases e
 have z_all:=zw X G Nj
 have z_LETTERS:Kj mg "LETTERS" "abcdefghijklmnopqrstuvwxyz":=wO.imp λ_ q=>kW X G q
 have z_OWN_WORDS:Nc K mg "OWN_WORDS" ["each","from","to","flat","bands","steps","blocks","at","times","plus","or","max","only","after","roomy","fee"]:=b8p (ys:=[("each",kS),("from",kR),("to",kQ),("flat",kP),("bands",kO),("steps",kN),("blocks",kM),("at",kL),("times",kK),("plus",kJ),("or",jK),("max",jJ),("only",jI),("after",jH),("roomy",jG),("fee",jF)]) (kW X G qi) qj rfl rfl (by simp)
 have z_len:=zw X G Nh
 have z_MOST_LETTERS:Kk mg "MOST_LETTERS" 8:=mH.imp λ_ q=>kW X G q
 have z_MOST_OFFERS:Kk mg "MOST_OFFERS" 30:=nE.imp λ_ q=>kW X G q
 have z_set:=zw X G Ng
 have z_range:=zw X G BW
 have z_int:=zw X G Ni
 have z_list:=zw X G FJ
 have z_isinstance:=zw X G oO
 have z_ValueError:=zw X G oP
 have z_sorted:=zw X G zS
 have z_dict:=zw X G FK
 have TT:A6 K mg ak gc k7 aM f' av:=⟨⟨nh,kW X G nh,⟨qU,qS,qR,g4,g5,qQ,qO⟩,qP⟩,⟨UI,kW X G UI,⟨v0u,v0x,v0A,g4,g5,v0D,v0J⟩,v0G⟩,⟨UH,kW X G UH,⟨v0v,v0y,v0B,g4,g5,v0E,v0K⟩,v0H⟩,⟨xM,kW X G xM,⟨AB,AA,Az,g4,g5,Ay,Aw⟩,Ax⟩,⟨UG,kW X G UG,⟨v0w,v0z,v0C,g4,g5,v0F,v0L⟩,v0I⟩,⟨si,kW X G si,⟨yh,yg,yf,g4,g5,ye,yc⟩,yd⟩,NL,NK,NJ,NI,NH,di,ND,eR,NC,d7,NB,NA,Nz,Ny,Nx,eQ,Nw,ij,Nv,gw,Nu,Nt,Nr,Nq,Np,dZ,Nn,gu,Nl,fG,cx,NG,dh,NF,cS,⟨⟨jn,iT,lT,lS,mo,mf,lP,kH,mw,kU,ml,l6,l5,l4,lZ,lY,qo,qm,ql,qk⟩⟩,⟨⟨NN,Kp,UE,UC,UQ,U5,UA,UK,US,UO,UM,U3,U1,UZ,UX,UU,v1E,v1G,v1I,v1K⟩⟩,⟨⟨nY,oA,se,rU,sZ,sI,rN,oW,tz,pD,sL,sD,sA,sy,sx,sv,zX,zW,zV,zU⟩⟩,⟨⟨NM,Ko,UD,UB,UP,U4,Uz,UJ,UR,UN,UL,U2,U0,UY,UW,UT,v1F,v1H,v1J,v1L⟩⟩,⟨⟨mq,lH,o4,o3,pF,pq,oX,m9,pJ,nu,pB,pd,o9,o8,o7,o6,wV,wU,wR,wQ⟩⟩⟩
 have OB:Obs K mg bR bQ bP bN aW bO dB aU a9 bH bj cO dJ bu aE aX aO af aS aj aZ bp bc aI aq bo bE be aY aT bq:=⟨fL,kW X G fL.a,qr,iq,jk,ir,gK,dI,gL,fK,kW X G fK.a,qq,gA,jj,il,gH,dH,gJ,fC,kW X G fC.a,nI,gC,fT,dv,fU,fB,kW X G fB.a,nF,gx,fP,dt,fQ,cN,kW X G cN.a,lN,fH,eT,fI,e9,cU,ff,eI,kW X G eI.a,nG,eE,fR,du,fS,iw,kW X G iw.a,wX,iM,fy,iC,d8,iD,bU,kW X G bU.a,kr,dP,cQ,eh,cJ,ei,cy,kW X G cy.a,lM,eF,dq,eZ,cT,e8,eU,kW X G eU.a,qp,gz,ji,ik,gF,dG,gG,dS,kW X G dS.a,nJ,fA,fJ,fV,dy,fW,jd,kW X G jd.a,wY,iN,ip,iE,d9,iF,fM,kW X G fM.a,nH,dQ,cA,kW X G yE,⟨uH,uG,uF,cE.k⟩⟩
 refine ⟨mS "law" "law" (oa JB) (hV JB) (dg JB) .none OS P5 Ot Sg Qa P9,λs v=>.of_eq rfl,λbase _ _=>?_⟩
 have Mz:=a9O (P:=l.prog) (w:=w) (base:=base) z_range (t6 X G i1)
 have A5:=a6z (P:=l.prog) (w:=w) (base:=base) (mg:=mg) (lV nR (by walk_at "m1"))
 have j9:=a8j OB
 have ju:=b03 OB
 have Ft:=a6B (P:=l.prog) (w:=w) (base:=base) (mg:=mg) j9 ju (lV nU (by walk_at "m1"))
 have Fo:=a5h (P:=l.prog) (w:=w) (base:=base) (mg:=mg) ju (lV l8 (by walk_at "m1"))
 have j0:=a8c OB A5 Ft Fo
 have lL:=a9V OB
 have eN:uS l.prog w K mg base "all_names" 1 13 (wL 6):=by
  have ih:∀n,uS l.prog w K mg base "all_names" 1 (2*n+1) (wL n):=λn=>by
   induction n with
   | zero=>exact Mc
   | succ n eO =>
    rw [show 2*(n+1)+1=2*n+1+2 from by omega]
    have tJ:M4 (Om l.prog w K mg base af) (2*n+1+2) (mE (wL n)):=a4o eO j0 (lV kB (by walk_at "m1"))
    have M5:M1 (Om l.prog w K mg base aS) (2*n+1+1) (M2 (wL n)):=a3Z lL (lV jM (by walk_at "m1"))
    exact a5i OB tJ M5
  exact ih 6
 have rA:=a6A z_set z_sorted eN (lV nS (by walk_at "m1"))
 have bX:=a8d OB rA
 have BO:=a5g bX (t6 X G i2)
 have Fj:=a5O TT bX BO (lW X G i3)
 have M3:=a5I TT bX BO (lW X G i3)
 have A3:=a9P (P:=l.prog) (w:=w) (base:=base) z_all z_LETTERS z_OWN_WORDS z_len z_MOST_LETTERS (lW X G i4)
 have Dv:=a5P TT z_len z_set A3 (lW X G i5)
 have M7:=a5J TT z_len z_set A3 (lW X G i5)
 have Dt:=a6y (P:=l.prog) (w:=w) (base:=base) TT z_MOST_OFFERS (lW X G i6)
 have M6:=a6a (P:=l.prog) (w:=w) (base:=base) TT z_MOST_OFFERS (lW X G i6)
 have lJ:=a9T OB z_len z_dict Fj Dv Dt (lV iA (by walk_at "m2"))
 have lF:=b4E OB z_len z_dict Fj M3 Dv M7 Dt M6 (lV iA (by walk_at "m2"))
 have dE:=a9R (P:=l.prog) (w:=w) (base:=base) OB (lV ma (by walk_at "m4"))
 have dD:=a8f (P:=l.prog) (w:=w) (base:=base) OB (lV lh (by walk_at "m2"))
 have js:=b00 (P:=l.prog) (w:=w) (base:=base) OB (lV eW (by walk_at "m3"))
 have lK:=a9U (P:=l.prog) (w:=w) (base:=base) OB (lV cE (by walk_at "m2"))
 have gQ:=a9Q OB lK (lV l9 (by walk_at "m4"))
 have oB:=b02 (P:=l.prog) (w:=w) (base:=base) OB (lV cE (by walk_at "m2"))
 have jt:=b01 OB oB (lV mM (by walk_at "m3"))
 have cX:=a6C (P:=l.prog) (w:=w) (base:=base) OB (lV eW (by walk_at "m3"))
 have fY:=a9N (P:=l.prog) (w:=w) (base:=base) (xO X G i7)
 have MX:=a6v z_len z_range dE dD js gQ jt cX fY (xO X G i8)
 have qf:=b0Y (P:=l.prog) (w:=w) (base:=base) z_len (t6 X G i9)
 have zM:=a7g fY (t6 X G i10)
 have MY:=a6u fY zM (OJ X G i11)
 have ML:=a79 z_range fY zM (t6 X G i12)
 have MK:=a8a z_len z_int fY zM ML (xO X G i13)
 have MN:=a77 z_len fY MY MK (xO X G i14)
 have MW:=a6w z_len z_range qf (xO X G i15)
 have MZ:=a7f z_range fY (t6 X G i16)
 have MJ:=a8b z_len z_range qf MN MW MZ (lW X G i17)
 have j8:=a8i (P:=l.prog) (w:=w) (base:=base) OB (lV cE (by walk_at "m2"))
 have j7:=a8h OB j8 (lV lj (by walk_at "m3"))
 have iU:=a7h (P:=l.prog) (w:=w) (base:=base) OB (lV eW (by walk_at "m3"))
 have iV:=a7i (P:=l.prog) (w:=w) (base:=base) OB (lV kC (by walk_at "m4"))
 have j5:=a8e (P:=l.prog) (w:=w) (base:=base) OB (lV iy (by walk_at "m2"))
 have j6:=a8g (P:=l.prog) (w:=w) (base:=base) OB (lV iy (by walk_at "m2"))
 have lI:=a9S (P:=l.prog) (w:=w) (base:=base) OB (lV md (by walk_at "m4"))
 have MM:FA (Oz l.prog w K mg base) 25 (uN 6):=by
  have ih:∀n,FA (Oz l.prog w K mg base) (4*n+1) (uN n):=λn=>by
   induction n with
   | zero=>exact b5l (lW X G VB)
   | succ n bf =>
    rw [show 4*(n+1)+1=4*n+1+4 from by omega]
    exact a78 z_list bf dE dD js gQ jt cX j7 iU iV j5 j6 lI (lW X G VB)
  exact ih 6
 have O_law:=b7O TT z_len z_range z_isinstance z_ValueError Mz lJ lF MX qf MJ MM (lW X G VA)
 exact b76 O_law fin
end My
open PySem L2 DL
def vcNames:String:="a0e Wo_none a0k a1p a2l b0F b0E b0D Wo_seq b6C Wo_bk Wo_ct Wo_ret b6A b80 a2E b8Q b6Q b60 b6f Wo_eV Wo_eC a9D b6O b6G b6J b6N b88 b6K b6H b86 b87 b89 b9a b85 b6M b6I b3D b3A b3C b3z b3B b3y b61 b63 b62 rep0 rep1 rep2 rep3 rep4 b3r b3P a4Y b6S b6T b2d b6Z b6F b9h b3v b3w b64 b65 b1x b2Z b1z b1w b1v b1y a9B b9k b6u b6t b6s b6p b6r b6q b3s b6w b8X b6v b66 b3Q b6U b6V b8R b8T b8S Wo_bV b9i b8Y b8Z b6W b3M ixQ_i b4A b6j atI_1 atI_2 atI_3 b3O b1R b6a b9b b6P a8R a4H b6y b3u b3t b2m b2n b2o b2l b0i Wo_gT b3x b2c a9y b9l b8w b9c b82 b5L b6E b6i b6h b6z b84 pQ_i b83 b9e slQ_t b3N b3E b3G Sl_sh Sl_ow b3F List.getElem?_cons_zero List.getElem?_cons_succ List.set_cons_zero List.set_cons_succ List.length_cons List.length_nil a8x a95 a8z a8w a8v a8y a7x a8A a7z a7w a7v a7y a8r a94 a8t a8q a8p a8s a7s a8u a7u a7r a7q a7t a6K a7p a6M a6J a6I a6L decide_eq_true_eq decide_eq_false_iff_not Bool.not_eq_true' Bool.not_eq_false' Bool.not_true Bool.not_false true_and and_true forall_const Bool.true_eq_false Bool.false_eq_true false_implies reduceCtorEq implies_true true_implies Int.reduceToNat Nat.reduceAdd Nat.reduceLT Nat.reduceLeDiff Nat.reduceSub Int.reduceLT Int.reduceLE Int.reduceEq Int.cast_ofNat_Int not_true_eq_false not_false_eq_true"
local macro_rules | `(tactic| walk_at "vc")=>do
 let ls ← ((vcNames.splitOn " ") ++ ["a39","b2a","b2W","b5N","b2Y","b2V","b2U","b2X"]).toArray.mapM fun s=>`(Lean.Parser.Tactic.simpLemma| $(Lean.mkIdent s.toName):ident)
 `(tactic| first | simp only [$ls,*] | dsimp only | skip)
local macro_rules | `(tactic| walk_at "v1")=>do
 let ls ← (vcNames.splitOn " ").toArray.mapM fun s=>`(Lean.Parser.Tactic.simpLemma| $(Lean.mkIdent s.toName):ident)
 `(tactic| first | simp only [$ls,*] | dsimp only | skip)
local macro_rules | `(tactic| walk_at "sc")=>`(tactic| first | omega | (simp only [DivC,PowC,MulC,LIM,R62]; omega) | rfl | decide)
local macro_rules | `(tactic| walk_at "go")=>`(tactic| (walk_at "vc"; repeat' first | apply c4O | intro _); all_goals try (walk_at "sc"))
local macro_rules | `(tactic| walk_at "sp")=>`(tactic| (repeat' first | apply And.intro | intro _); all_goals first | (exfalso; omega) | walk_at "sc" | ((repeat apply Exists.intro); rfl) | skip)
local macro_rules | `(tactic| walk_at "st")=>`(tactic| repeat (refine And.intro ?_ ?_; · first | (simp only [DivC,PowC,MulC,LIM,R62]; omega) | omega))
namespace My
theorem Sn{c:En->Option Bool}{F:SF}{env:En}{Q:Fl×En->Prop}(hc:Wo (c env) λb=>b=false)(h:Q (.nx,env)):Wo (cz c F de env) Q:=by
 rw [a39]
 exact hc.mono λb hb=>⟨λz=>(by rw [hb] at z;cases z),λ_=>(by rw [b6C];exact h)⟩
theorem b6D{f:En->Option Sl}{env:En}{y:Str}{Q:Sl->Prop}(e:f env=some (.sh (.str y)))(hz:y.length<=16777216):Wo (EF f env) Q↔Q (.sh (.int y.length)):=by
 unfold EF
 rw [e]
 show Wo (if y.length<=16777216 then some (Sl.sh (.int y.length)) else none) Q↔_
 rw [if_pos hz,a0e]
theorem b6R{f:En->Option Sl}{env:En}{y:Str}{Q:List D->Prop}(e:f env=some (.sh (.str y)))(ha:y.cps.all (·<128)=true):Wo (yi f env) Q↔Q (y.cps.toList.map λc=>.str ⟨#[c]⟩):=by
 unfold yi
 rw [e]
 show Wo (if y.cps.all (·<128)=true then some (wZ y) else none) Q↔_
 rw [if_pos ha,a0e]
 rfl
theorem yk(ns:List Int)(k:Int)(hk:0<=k){r:Bool}:pP [.lst r (ns.map D.int),.int k]=some (.sh (.int (ns.getD k.toNat 0))):=by
 refine Wo.eq (yN.mpr ?_)
 unfold S9
 walk_at "vc"
 rw [bY]
 refine ⟨λh=>?_,λh=>?_⟩
 .rw [E9 0 hk h]
  walk_at "vc"
 .have:ns.length<=k.toNat:=by lia
  rw [show ns.getD k.toNat 0=0 by simp [this]]
theorem kf(c k s:Int)(hk:0<=k/\k<=1000)(hs:0<s/\s<=10^45):∃m:Int,gr [.int c,.int k,.int s]=some (.sh (.int m))/\0<=m/\m<s:=by
 have key:Wo (gr [.int c,.int k,.int s]) λx=>∃m:Int,x=.sh (.int m)/\0<=m/\m<s:=by
  refine uP.mpr ?_
  unfold Ti
  have a1:=Lv c (show (10^60:Int)≠0 by decide)
  have a2:=Ll c (show (0:Int)<10^60 by decide)
  have k1:0<=k*k:=Es hk.1 hk.1
  have k2:k*k<=1000*1000:=Er hk.2 hk.2 hk.1 (by decide)
  have k3:2*k*k=2*(k*k):=Int.mul_assoc ..
  walk_at "vc"
  have o1:0<=271828182845904523536028747135266249775724709369995+2*k*k:=by omega
  have o2:271828182845904523536028747135266249775724709369995+2*k*k<=10^52:=by omega
  generalize 271828182845904523536028747135266249775724709369995+2*k*k=o at *
  generalize c%10^60=u at *
  have p1:0<=(u+1)*o:=Es (by omega) o1
  have p2:(u+1)*o<=10^60*10^52:=Er (by omega) o2 o1 (by decide)
  generalize (u+1)*o=p at *
  generalize (p+7907*k)*(p+7907*k)%(10^60+7)/11=w at *
  exact ⟨.inl (by decide),.inl (by omega),by walk_at "sc",by decide,Y3 (by omega) (by omega) (by omega) (by omega),.inl (by decide),Y3 (by omega) (by omega) (by omega) (by omega),by walk_at "sc",by decide,b6c (by decide) (by decide),hs.1,_,rfl,Lv _ (by omega),Ll _ hs.1⟩
 obtain ⟨x,e,m,rfl,h⟩:=key
 exact ⟨m,e,h⟩
theorem b6o{i:Nat}{hit:Str->Bool}{Fb Fh:SF}{rb:RF}{env:En}{Q:Fl×En->Prop}(h:Wo (Fb env) Q):Wo (mL i hit Fb rb Fh env) Q:=by
 obtain ⟨x,e,q⟩:=h
 exact ⟨x,by unfold mL;rw [e],q⟩
theorem b6n{i:Nat}{hit:Str->Bool}{Fb Fh:SF}{rb:RF}{env env1:En}{nm:Str}{Q:Fl×En->Prop}(h:Fb env=none)(h1:rb env=some (nm,env1))(h2:hit nm=true)(h3:i<env1.length)
  (h4:Wo (Fh (env1.set i (.sh (.exc nm)))) λp=>Q (p.1,p.2.set i .no)):Wo (mL i hit Fb rb Fh env) Q:=by
 obtain ⟨⟨fl,e2⟩,e,q⟩:=h4
 refine ⟨(fl,e2.set i .no),?_,q⟩
 unfold mL
 rw [h,h1]
 dsimp only
 rw [if_pos ⟨h2,h3⟩,e]
local macro_rules | `(tactic| walk_at "o1")=>do
 let ls ← ((vcNames.splitOn " ") ++ ["b6Y","b3L","b9f","b6X","b9d","b3J","a7S","dpQ_l","b0j","lsQ_l","tgQ_d","tiQ_d","tgQ_f","tiQ_f","Sl_tw"]).toArray.mapM fun s=>`(Lean.Parser.Tactic.simpLemma| $(Lean.mkIdent s.toName):ident)
 `(tactic| first | simp only [$ls,*] | dsimp only | skip)
inductive Kd where | a | b | c
noncomputable def Kd.w{α:Type}(k:Kd)(x y z:α):α:=match k with | .a=>x | .b=>y | .c=>z
inductive Tr where
 | l3 (k:Kd) (p q r:Int) | rws (k:Bool) (rs:List (Int×Int)) | name (n:Str) | two (k:Kd) (a b:Tr) | one (k:Kd) (a:Tr) (p q:Int)
noncomputable def Pr(q:Int×Int):D:=.tup [.int q.1,.int q.2]
noncomputable def Tr.d:Tr->D
 | .l3 k p q r=>.tup [.str (k.w "each" "flat" "blocks"),.int p,.int q,.int r]
 | .rws k rs=>.tup [.str (bif k then "steps" else "bands"),.lst false (rs.map Pr)]
 | .name n=>.tup [.str "name",.str n]
 | .two k a b=>.tup [.str (k.w "plus" "or" "max"),a.d,b.d]
 | .one k a p q=>.tup (.str (k.w "only" "after" "fee")::a.d::k.w [.int p,.int q] [.int p] [.int p])
noncomputable def Tr.o:Tr->D
 | .l3 k p q r=>.obj (k.w "Each" "Flat" "Blocks") (k.w JE rp JR) [.int p,.int q,.int r]
 | .rws k rs=>.obj (bif k then "Steps" else "Bands") (bif k then JO else JN) [.lst false (rs.map Pr)]
 | .name n=>.obj "Named" BJ [.str n]
 | .two k a b=>.obj (k.w "Sum" "Cheaper" "Dearer") (k.w E1 Fz JS) [a.o,b.o]
 | .one k a p q=>.obj (k.w "Only" "After" "Fee") (k.w E4 JM EZ) (a.o::k.w [.int p,.int q] [.int p] [.int p])
noncomputable def Tr.sz:Tr->Nat
 | .two _ a b=>a.sz+b.sz+1
 | .one _ a _ _=>a.sz+1
 | _=>1
theorem N5{x y n:Nat}(h:x+y+1<n+1):x<n:=by omega
theorem N4{x y n:Nat}(h:x+y+1<n+1):y<n:=by omega
theorem WE{α:Type}{o:Option α}{Q:α->Prop}{a:α}(h:o=some a)(q:Q a):Wo o Q:=⟨a,h,q⟩
theorem a0X{c:En->Option Bool}{F G:SF}{env:En}{Q:Fl×En->Prop}(h:c env=some false)(g:Wo (G env) Q):Wo (aD (cz c F de) G env) Q:=by
 rw [Wo_seq,a39,h,a0e]
 exact ⟨λz=>(nomatch z),λ_=>by rw [b6C];exact g⟩
theorem a4c{c:En->Option Bool}{f:En->Option Sl}{G:SF}{env:En}{Q:Sl->Prop}(h:c env=some true)(g:Wo (f env) Q):Wo (aD (cz c (bz f) de) G env) (dA Q):=by
 rw [Wo_seq,a39,h,a0e]
 exact ⟨λ_=>by rw [Wo_ret];exact g,λz=>(nomatch z)⟩
theorem b5v(rs:List (Int×Int))(hl:rs.length<=9):Wo (gS (fw (eV 1)) [] 2 (gT 2 (kX (gN 0) (kX (gN 1) tF))) km (dF (ae (eV 0) (ae (eV 1) aa))) [.no,.sh (.lst false (rs.map Pr))]) λr=>r=.ow (rs.map Pr):=by
 walk_at "v1"
 refine ⟨by rw [bY];omega,_,DL.comp_map Pr Pr (λe=>e.length=2) rs (λa ha e he=>?_) rfl,rfl⟩
 obtain ⟨y0,y1,rfl⟩:∃y0 y1,e=[y0,y1]:=by
  match e,he with
  | [a,b],_=>exact ⟨a,b,rfl⟩
 unfold Pr
 walk_at "v1"
theorem b41{f:Str}{fe:En->Option Sl}{r:Sl}{env:En}(h:fe env=some r):cI f fe iB env [] []=some ([f],[r.d]):=by
 unfold cI
 rw [h]
 rfl
theorem G1(k:Bool)(rs:List (Int×Int))(hl:rs.length<=9):(bif k then MR else MQ) [.lst false (rs.map Pr)]=some [.lst false (rs.map Pr)]:=by
 cases k
 all_goals
  show dj _ 2 _ [.lst false (rs.map Pr)]=_
  unfold dj
  rw [show (Sl.no::iS (2-1) [.lst false (rs.map Pr)])=[.no,.sh (.lst false (rs.map Pr))] from rfl,b41 (Wo.eq (b5v rs hl))]
  kernel_rfl
def Sh(n:Int):Prop:=-(10^50)<=n/\n<=10^50
noncomputable def Tr.ok:Tr->Prop
 | .l3 _ p q r=>Sh p/\Sh q/\Sh r
 | .rws _ rs=>(rs≠[]/\rs.length<=9)/\∀q∈rs,Sh q.1/\Sh q.2
 | .name n=>n.length<=100
 | .two _ a b=>a.ok/\b.ok
 | .one _ a p q=>a.ok/\Sh p/\Sh q
theorem RB{k:Str}{ds:List D}{G:SF}{r:En}{Q:Fl×En->Prop}(g:Wo (G (.sh (.tup (.str k::ds))::.sh (.str k)::r)) Q):Wo (aD (dM 1 (cW (bV 0) (eC (.int 0)))) G (.sh (.tup (.str k::ds))::.no::r)) Q:=by
 rw [Wo_seq,a2E,b4A]
 have h0:L2.fq (D.str k::ds) 0=some (.str k):=by simp [L2.fq,ni]
 exact ⟨_,rfl,_,rfl,_,h0,by simp,g⟩
local macro_rules | `(tactic| walk_at "sk")=>`(tactic| refine a0X (by kernel_rfl) ?_)
local macro_rules | `(tactic| walk_at "tk")=>`(tactic| refine a4c (by kernel_rfl) ?_)
theorem Ir{kp:List D->Option Sl}{f:En->Option Sl}{env:En}{s:Sl}{r:Option Sl}(hf:f env=some s)(h:kp [s.d]=r):bh 1 kp (ae f aa) env=r:=by
 unfold bh ae
 rw [hf]
 exact h
theorem Bi{c:Str}{n:Nat}{ns:List Str}{ψ:List D->Option (List D)}{fa:En->Option (List D)}{env:En}{as ds:List D}(ha:fa env=some as)(hn:as.length=n)(hp:ψ as=some ds):iH c n ns ψ fa env=some (.sh (.obj c ns ds)):=by
 unfold iH
 rw [ha]
 show (if as.length=n then _ else _)=_
 rw [if_pos hn,hp]
 rfl
theorem aC{f:En->Option Sl}{g:En->Option (List D)}{env:En}{r:Sl}{ds:List D}(h:f env=some r)(h2:g env=some ds):ae f g env=some (r.d::ds):=by
 unfold ae
 rw [h,h2]
 rfl
theorem b8E:∀(t:Tr) (n:Nat),t.sz<n->t.ok->uN n [t.d]=some (.sh t.o):=by
 intro t
 induction t with
 | l3 k p q r =>
  intro n hn hk
  cases n with
  | zero=>cases hn
  | succ n=>cases k<;>kernel_rfl
 | rws k rs =>
  intro n hn hk
  cases n with
  | zero=>cases hn
  | succ n =>
   have h:=G1 k rs hk.1.2
   have hl:Jf (pG (cW (bV 0) (eC (.int 1)))) [.sh (Tr.rws k rs).d,.sh (.str (bif k then "steps" else "bands"))]=some (.ow (rs.map Pr)):=rfl
   refine Wo.eq ((Ts (kp:=uN n)).mpr ?_)
   unfold JP
   refine RB ?_
   cases k
   .refine a0X (by kernel_rfl) (a0X (by kernel_rfl) (a4c (by kernel_rfl) ?_))
    exact WE (Bi (aC hl rfl) rfl h) rfl
   .refine a0X (by kernel_rfl) (a0X (by kernel_rfl) (a0X (by kernel_rfl) (a4c (by kernel_rfl) ?_)))
    exact WE (Bi (aC hl rfl) rfl h) rfl
 | name x =>
  intro n hn hk
  cases n with
  | zero=>cases hn
  | succ n=>kernel_rfl
 | two k a b ud DR =>
  intro n hn hk
  cases n with
  | zero=>cases hn
  | succ n =>
   have c1:bh 1 (uN n) (ae (cW (bV 0) (eC (.int 1))) aa) [.sh (Tr.two k a b).d,.sh (.str (k.w "plus" "or" "max"))]=some (.sh a.o):=Ir (s:=.sh a.d) rfl (ud n (N5 hn) hk.1)
   have c2:bh 1 (uN n) (ae (cW (bV 0) (eC (.int 2))) aa) [.sh (Tr.two k a b).d,.sh (.str (k.w "plus" "or" "max"))]=some (.sh b.o):=Ir (s:=.sh b.d) rfl (DR n (N4 hn) hk.2)
   refine Wo.eq ((Ts (kp:=uN n)).mpr ?_)
   unfold JP
   refine RB ?_
   iterate 6 refine a0X (by cases k<;>kernel_rfl) ?_
   cases k
   .refine a4c (by kernel_rfl) ?_
    exact WE (Bi (ds:=[a.o,b.o]) (aC c1 (aC c2 rfl)) rfl (by kernel_rfl)) rfl
   .refine a0X (by kernel_rfl) (a4c (by kernel_rfl) ?_)
    exact WE (Bi (ds:=[a.o,b.o]) (aC c1 (aC c2 rfl)) rfl (by kernel_rfl)) rfl
   .refine a0X (by kernel_rfl) (a0X (by kernel_rfl) (a4c (by kernel_rfl) ?_))
    exact WE (Bi (ds:=[a.o,b.o]) (aC c1 (aC c2 rfl)) rfl (by kernel_rfl)) rfl
 | one k a p q ud =>
  intro n hn hk
  cases n with
  | zero=>cases hn
  | succ n =>
   have c1:bh 1 (uN n) (ae (cW (bV 0) (eC (.int 1))) aa) [.sh (Tr.one k a p q).d,.sh (.str (k.w "only" "after" "fee"))]=some (.sh a.o):=Ir (s:=.sh a.d) (by cases k<;>rfl) (ud n (LK hn) hk.1)
   refine Wo.eq ((Ts (kp:=uN n)).mpr ?_)
   unfold JP
   refine RB ?_
   iterate 9 refine a0X (by cases k<;>kernel_rfl) ?_
   cases k
   .refine a4c (by kernel_rfl) ?_
    exact WE (Bi (ds:=[a.o,.int p,.int q]) (aC c1 (ds:=[.int p,.int q]) (by kernel_rfl)) rfl (by kernel_rfl)) rfl
   .refine a0X (by kernel_rfl) (a4c (by kernel_rfl) ?_)
    exact WE (Bi (ds:=[a.o,.int p]) (aC c1 (ds:=[.int p]) (by kernel_rfl)) rfl (by kernel_rfl)) rfl
   .refine a0X (by kernel_rfl) (a0X (by kernel_rfl) (Wo_ret.mpr ?_))
    exact WE (Bi (ds:=[a.o,.int p]) (aC c1 (ds:=[.int p]) (by kernel_rfl)) rfl (by kernel_rfl)) rfl
noncomputable def nt(n:Int):Str:=CY (toString n)
noncomputable def lt(s:Str):List Nat:=s.cps.toList
theorem Js(a b:Str):lt (a++b)=lt a++lt b:=by
 show (a.cps++b.cps).toList=_
 simp [lt]
theorem zF(a:Str):a.length=(lt a).length:=by
 show a.cps.size=_
 simp [lt]
theorem Ye{a b:Str}(h:lt a=lt b):a=b:=by
 obtain ⟨x⟩:=a
 obtain ⟨y⟩:=b
 congr 1
 exact QK.mp h
theorem S6(sep:Str):∀(r:List Str) (a x:Array Nat),(r.foldl (λacc p=>acc++sep.cps++p.cps) (a++x)).toList=a.toList++(r.foldl (λacc p=>acc++sep.cps++p.cps) x).toList
 | [],a,x=>by simp
 | p::r,a,x=>by
  rw [Eo,Eo,show a++x++sep.cps++p.cps=a++(x++sep.cps++p.cps) by simp [Lo]]
  exact S6 sep r a _
theorem b8b(sep a:Str):mU sep [a]=a:=rfl
theorem RA(sep a b:Str)(r:List Str):lt (mU sep (a::b::r))=lt a++(lt sep++lt (mU sep (b::r))):=by
 have key:∀r:List Str,lt (mU sep (b::r))=(r.foldl (λacc p=>acc++sep.cps++p.cps) b.cps).toList:=λr=>by
  cases r with
  | nil=>rfl
  | cons c r=>rfl
 rw [key]
 show ((b::r).foldl (λacc p=>acc++sep.cps++p.cps) a.cps).toList=_
 rw [Eo,Lo,S6,S6]
 rfl
theorem RL(sep:Str):∀(ls:List Str) (a:Nat),ls.foldl (λa x=>a+x.length+sep.length) a=a+wK sep ls
 | [],a=>rfl
 | x::r,a=>by
  unfold wK
  rw [Eo,Eo,RL,RL]
  omega
theorem Sj(sep x:Str)(r:List Str):wK sep (x::r)=x.length+sep.length+wK sep r:=by
 unfold wK
 rw [Eo,RL]
 unfold wK
 omega
theorem W8(sep:Str):∀ls:List Str,(mU sep ls).length<=wK sep ls
 | []=>Qc rfl
 | [a]=>by rw [b8b,Sj];omega
 | a::b::r=>by
  have:=W8 sep (b::r)
  rw [zF,RA,fD,fD,<-zF,<-zF,<-zF,Sj]
  omega
noncomputable def Rt(q:Int×Int):Str:=nt q.1 ++ ":" ++ nt q.2
noncomputable def Tr.ws:Tr->List Str
 | .l3 k p q r=>[k.w "each" "flat" "blocks",nt p,k.w "from" "from" "at",nt q,k.w "to" "to" "times",nt r]
 | .rws k rs=>[bif k then "steps" else "bands",mU " " (rs.map Rt)]
 | .name n=>[n]
 | .two k a b=>["(",mU " " a.ws,k.w "plus" "or" "max",mU " " b.ws,")"]
 | .one k a p q=>"(" :: mU " " a.ws::k.w ["only",nt p,"to",nt q,")"] ["after",nt p,")"] ["fee",nt p,")"]
noncomputable def Tr.tx(t:Tr):Str:=mU " " t.ws
theorem strs_map:∀ts:List Str,rm (ts.map D.str)=some ts
 | []=>rfl
 | t::ts=>by
  show (rm (ts.map D.str)).map (t::·)=_
  rw [strs_map ts]
  rfl
theorem JZ{fo:En->Option Sl}{fe:En->Option (Bool×List D)}{env:En}{Q:Sl->Prop}{z:Str}{ts:List Str}(h1:fo env=some (.sh (.str z)))(h2:fe env=some (true,ts.map D.str))(hl:wK z ts<=16777216)(hq:Q (.sh (.str (mU z ts)))):Wo (CH fo fe env) Q:=by
 rw [b9g,h1,h2]
 refine ⟨z,rfl,_,rfl,rfl,ts,strs_map ts,⟨hl,pE (W8 _ _) hl⟩,hq⟩
theorem EK{c:En->Option Bool}{F G:SF}{env:En}{Q:Fl×En->Prop}(h:c env=some true)(g:Wo (F env) (nM G Q)):Wo (aD (cz c F de) G env) Q:=by
 rw [Wo_seq,a39,h,a0e]
 exact ⟨λ_=>g,λz=>(nomatch z)⟩
theorem Iu{f g:En->Option Sl}{env:En}{x y:Str}{m n:Nat}(hf:f env=some (.sh (.str x))/\x.length<=m)(hg:g env=some (.sh (.str y))/\y.length<=n)(h:m+n<=16777216):ah bb f g env=some (.sh (.str (x++y)))/\(x++y).length<=m+n:=by
 have h1:=Nat.add_le_add hf.2 hg.2
 refine ⟨?_,by rw [Bw];exact h1⟩
 unfold ah
 rw [hf.1,hg.1]
 show (if x.length+y.length<=16777216 then some (Sl.sh (.str (x++y))) else none)=_
 rw [if_pos (pE h1 h)]
theorem OM{w:Str}{env:En}(h:w.length<=9):eC (.str w) env=some (.sh (.str w))/\w.length<=9:=⟨rfl,h⟩
theorem st_as(a b c:Str):a++b++c=a++(b++c):=Ye (by simp only [Js,C4])
theorem jn2(a b:Str)(r:List Str):mU " " (a::b::r)=a++(" " ++ mU " " (b::r)):=Ye (by rw [RA,Js,Js])
theorem s_1:(" from ":Str) = " " ++ ("from" ++ " "):=by decide +kernel
theorem s_2:(" to ":Str) = " " ++ ("to" ++ " "):=by decide +kernel
theorem s_3:(" at ":Str) = " " ++ ("at" ++ " "):=by decide +kernel
theorem s_4:(" times ":Str) = " " ++ ("times" ++ " "):=by decide +kernel
theorem s_5:("blocks ":Str) = "blocks" ++ " ":=by decide +kernel
theorem s_6:("only ":Str) = "only" ++ " ":=by decide +kernel
theorem s_7:("( ":Str) = "(" ++ " ":=by decide +kernel
theorem s_8:(" )":Str) = " " ++ ")":=by decide +kernel
local macro_rules | `(tactic| walk_at "tx")=>`(tactic| simp only [Tr.tx,Tr.ws,Kd.w,jn2,b8b,st_as,s_1,s_2,s_3,s_4,s_5,s_6,s_7,s_8])
local macro_rules | `(tactic| walk_at "dk")=>`(tactic| decide +kernel)
noncomputable def Tr.ns:Tr->List Str
 | .name n=>[n]
 | .two _ a b=>a.ns++b.ns
 | .one _ a _ _=>a.ns
 | _=>[]
theorem RY:∀t:Tr,t.ns.length<=t.sz:=by
 intro t
 induction t with
 | two k a b ud DR=>simp only [Tr.ns,Tr.sz,fD];omega
 | one k a _ _ ud=>simp only [Tr.ns,Tr.sz];omega
 | _=>simp [Tr.ns,Tr.sz]
theorem Jq{kp:fj}{o:D}(hp:wG "parts" 1 Fi o []=some (.ow [])):mE kp [o]=some (.ow []):=by
 refine Wo.eq (dN.mpr ?_)
 unfold JT
 walk_at "o1"
 rw [hp]
 walk_at "o1"
theorem all1{kp:fj}{o a:D}{xs:List Str}(hp:wG "parts" 1 Fi o []=some (.ow [a]))(ha:wG "all_names" 1 kp a []=some (.ow (xs.map D.str)))(hl:xs.length<=100000):mE kp [o]=some (.ow (xs.map D.str)):=by
 refine Wo.eq (dN.mpr ?_)
 unfold JT
 walk_at "o1"
 rw [hp]
 walk_at "o1"
 rw [ha]
 walk_at "o1"
 exact ⟨by simp;omega,rfl⟩
theorem all2{kp:fj}{o a b:D}{xs ys:List Str}(hp:wG "parts" 1 Fi o []=some (.ow [a,b]))(ha:wG "all_names" 1 kp a []=some (.ow (xs.map D.str)))(hb:wG "all_names" 1 kp b []=some (.ow (ys.map D.str)))(hl:xs.length<=100000)(hm:ys.length<=100000):mE kp [o]=some (.ow ((xs++ys).map D.str)):=by
 refine Wo.eq (dN.mpr ?_)
 unfold JT
 walk_at "o1"
 rw [hp]
 walk_at "o1"
 rw [ha]
 walk_at "o1"
 refine ⟨by simp;omega,?_⟩
 rw [hb]
 walk_at "o1"
 exact ⟨by simp;omega,by simp⟩
theorem Ij:∀(t:Tr) (n:Nat),t.sz<n->n<=1000->wG "all_names" 1 (wL n) t.o []=some (.ow (t.ns.map D.str)):=by
 intro t
 have z:∀{t:Tr} {n:Nat},t.sz<n->n+1<=1000->t.ns.length<=100000:=λ{t n} h g=>by
  have:=RY t
  omega
 induction t with
 | l3 k p q r =>
  intro n hn h9
  cases n with
  | zero=>cases hn
  | succ n=>exact Eq.trans (b:=mE (wL n) [(Tr.l3 k p q r).o]) (by cases k<;>kernel_rfl) (Jq (by cases k<;>kernel_rfl))
 | rws k rs =>
  intro n hn h9
  cases n with
  | zero=>cases hn
  | succ n=>exact Eq.trans (b:=mE (wL n) [(Tr.rws k rs).o]) (by cases k<;>kernel_rfl) (Jq (by cases k<;>kernel_rfl))
 | name x =>
  intro n hn h9
  cases n with
  | zero=>cases hn
  | succ n=>kernel_rfl
 | two k a b ud DR =>
  intro n hn h9
  cases n with
  | zero=>cases hn
  | succ n=>exact Eq.trans (b:=mE (wL n) [(Tr.two k a b).o]) (by cases k<;>kernel_rfl) (all2 (a:=a.o) (b:=b.o) (by cases k<;>kernel_rfl) (ud n (N5 hn) (Li h9)) (DR n (N4 hn) (Li h9)) (z (N5 hn) h9) (z (N4 hn) h9))
 | one k a p q ud =>
  intro n hn h9
  cases n with
  | zero=>cases hn
  | succ n=>exact Eq.trans (b:=mE (wL n) [(Tr.one k a p q).o]) (by cases k<;>kernel_rfl) (all1 (a:=a.o) (xs:=a.ns) (by cases k<;>kernel_rfl) (ud n (LK hn) (Li h9)) (z (LK hn) h9))
noncomputable def xI(t:Tr):List Str:=SE.lC SE.lX t.ns
theorem A0(t:Tr)(x:Str):x∈xI t↔x∈t.ns:=SE.iK SE.eS x t.ns
theorem XU(x:Str):∀l:List Str,(SE.ins SE.lX x l).length<=l.length+1
 | []=>cw _
 | y::l=>by
  unfold SE.ins
  have:=XU x l
  repeat' split
  all_goals simp only [gq];omega
theorem Yd:∀l:List Str,(SE.lC SE.lX l).length<=l.length
 | []=>cw _
 | x::l=>by
  unfold SE.lC
  have:=XU x (SE.lC SE.lX l)
  have:=Yd l
  rw [gq]
  omega
theorem b0z(xs:List Str)(h:xs.length<64):sset (xs.map D.str)=some ((SE.lC SE.lX xs).map D.str):=by
 cases xs with
 | nil=>rfl
 | cons x xs =>
  unfold sset
  rw [show wF ((x::xs).map D.str)=none from rfl]
  dsimp only
  rw [strs_map]
  show (if (x::xs).length<64 then some ((SE.lC SE.lX (x::xs)).map D.str) else none)=_
  rw [if_pos h]
theorem Su(t:Tr)(hz:t.sz<6):wG "names" 1 uO t.o []=some (.ow ((xI t).map D.str)):=by
 have h:=Ij t 6 hz (by decide)
 rw [show wG "names" 1 uO t.o []=qd [t.o] from by (cases t with | l3 k _ _ _=>cases k<;>kernel_rfl | rws k _=>cases k<;>kernel_rfl | name _=>kernel_rfl | two k _ _=>cases k<;>kernel_rfl | one k _ _ _=>cases k<;>kernel_rfl)]
 refine Wo.eq (oy.mpr ?_)
 unfold TY
 rw [Wo_ret,b3K]
 walk_at "o1"
 rw [h]
 walk_at "o1"
 rw [Gc,b0z _ (by have:=RY t;omega),a0e]
 rfl
theorem Ds{α:Type}:∀(ks:List Str) (ds:List α) (x:Str),ks.length=ds.length->((iQ ks ds x).isSome=true↔x∈ks)
 | [],[],x,_=>by simp [iQ]
 | [],_::_,x,h=>by cases h
 | _::_,[],x,h=>by cases h
 | k::ks,d::ds,x,h=>by
  unfold iQ
  by_cases e:k=x
  .rw [if_pos e];simp [e]
  .rw [if_neg e,Ds ks ds x (by simpa using h)]
   have:x≠k:=λz=>e z.symm
   simp [this]
theorem b71{ks:List Str}{ds:List D}(h:ks.length=ds.length)(x:Str)(d:D):(yG ks x).length=(uK ks ds x d).length:=Zy h x d
structure Bk(L:List (Str×Tr))(r:Str->Nat):Prop where
 nd:(L.map (·.1)).Nodup
 ok:∀q∈L,q.2.ok/\q.2.sz<6
 uc:∀q∈L,∀x∈q.2.ns,x∈L.map (·.1)
 dn:∀q∈L,∀x∈q.2.ns,r x<r q.1
 V1:L.length<=30
noncomputable def bx(L:List (Str×Tr)):List Str:=L.map (·.1)
noncomputable def cM(L:List (Str×Tr)):List D:=L.map λq=>q.2.o
theorem Rp:∀(L:List (Str×Tr)) (x:Str),x∈bx L->∃t,(x,t)∈L/\iQ (bx L) (cM L) x=some t.o
 | [],x,h=>by cases h
 | q::L,x,h=>by
  show ∃t,(x,t)∈q::L/\(if q.1=x then some q.2.o else iQ (bx L) (cM L) x)=some t.o
  by_cases e:q.1=x
  .rw [if_pos e]
   exact ⟨q.2,by rw [<-e];exact gi,rfl⟩
  .rw [if_neg e]
   rcases cL.mp h with z | z
   .exact (e z.symm).elim
   .obtain ⟨t,h1,h2⟩:=Rp L x z
    exact ⟨t,gn _ h1,h2⟩
theorem b6g{env:En}{ks:List Str}{ds:List D}{Q:Fl×En->Prop}:EC env (some (.tw ks ds)) Q↔Q (.rt (.tw ks ds),env):=hU
theorem b6L{c:Nat}{x:Str}{Q:Sl->Prop}:Wo (uh (.str ⟨#[c]⟩) (.str x)) Q↔Q (.sh (.bl (decide (c∈x.cps.toList)))):=by
 unfold uh
 rw [a0e,PySem.StrLaws.found_one]
theorem Ju{fa fb:En->Option Sl}{env:En}{z:Str}{i:Int}{c:Nat}{Q:Sl->Prop}(e:fa env=some (.sh (.str z)))(e2:fb env=some (.sh (.int i)))(hz:z.length<=16777216)(h:L2.fq z.cps.toList i=some c):Wo (jS fa fb env) Q↔Q (.sh (.str ⟨#[c]⟩)):=by
 unfold jS
 rw [e,e2]
 show Wo (if z.length<=16777216 then (L2.fq z.cps.toList i).map λc=>Sl.sh (.str ⟨#[c]⟩) else none) Q↔_
 rw [if_pos hz,h]
 exact a0e
noncomputable def M':List Str:=["each","from","to","flat","bands","steps","blocks","at","times","plus","or","max","only","after","roomy","fee"]
theorem b5Q(t:Str)(ws:List Str):inD (.str t) (ws.map D.str)=some (decide (t∈ws)):=by
 unfold inD
 rw [wm]
 have:kE (ws.map ((λd=>bF 7 d (.str t))∘D.str))=some (ws.map λw=>decide (w=t)):=by
  induction ws with
  | nil=>rfl
  | cons c cs ih =>
   rw [fE,fE]
   show (kE _).map _=_
   rw [ih]
   rfl
 rw [this]
 show some ((ws.map λw=>decide (w=t)).any id)=_
 congr 1
 rw [IB,List.any_map,Lr,decide_eq_true_iff]
 constructor
 .rintro ⟨x,hx,e⟩
  have:x=t:=by simpa using e
  rw [<-this];exact hx
 .exact λh=>⟨t,h,by simp⟩
noncomputable def m5:List Nat:=lt "abcdefghijklmnopqrstuvwxyz"
theorem b72:∀c∈m5,c<128:=by decide +kernel
def Nm(x:Str):Prop:=(1<=x.length/\x.length<=8)/\(∀c∈lt x,c∈m5)/\x∉M'
theorem S3{t:Str}(h:Nm t):mW [.str t]=some (.sh (.bl true)):=by
 obtain ⟨⟨h1,h8⟩,hc,ho⟩:=h
 refine Wo.eq (uR.mpr ?_)
 unfold Tg
 have L:∀Q,Wo (EF (eV 0) [Sl.sh (D.str t)]) Q↔Q (.sh (.int t.length)):=λQ=>b6D rfl (by omega)
 have T:∀Q,Wo (yi (eV 0) [Sl.sh (D.str t)]) Q↔Q (t.cps.toList.map λc=>.str ⟨#[c]⟩):=λQ=>b6R rfl (by
  rw [Array.all_eq_true']
  intro c hm
  exact decide_eq_true (b72 c (hc c (by simpa [lt] using hm))))
 have C:oH (gN 0) km (ah uh (eV 0) (eC (D.str (CY "abcdefghijklmnopqrstuvwxyz")))) (t.cps.toList.map λc=>.str ⟨#[c]⟩) [Sl.no]=some (t.cps.toList.map λ_=>D.bl true):=by
  refine DL.comp_map (λc:Nat=>D.str ⟨#[c]⟩) (λ_=>.bl true) (λe=>∃x,e=[x]) t.cps.toList (λc hm e he=>?_) ⟨_,rfl⟩
  obtain ⟨x,rfl⟩:=he
  walk_at "vc"
  rw [b6L]
  refine ⟨⟨_,rfl⟩,?_⟩
  show D.bl (decide _)=_
  rw [decide_eq_true (show c∈(CY "abcdefghijklmnopqrstuvwxyz").cps.toList from hc c hm)]
 have W:inD (.str t) [D.str "each",D.str "from",D.str "to",D.str "flat",D.str "bands",D.str "steps",D.str "blocks",D.str "at",D.str "times",D.str "plus",D.str "or",D.str "max",D.str "only",D.str "after",D.str "roomy",D.str "fee"]=some false:=(b5Q t M').trans (congrArg some (decide_eq_false ho))
 walk_at "v1"
 rw [a39]
 walk_at "v1"
 simp only [L,T,C,W,a0e]
 walk_at "v1"
 have hb:∀l:List Nat,jU (l.map λ_=>D.bl true)=some (l.map λ_=>true):=λl=>by
  induction l with
  | nil=>rfl
  | cons a l ih =>
   show (jU (l.map λ_=>D.bl true)).map _=_
   rw [ih]
   rfl
 refine ⟨λ_=>⟨λz=>(z (by omega)).elim,λ_=>⟨?_,?_⟩⟩,λz=>(z (by omega)).elim⟩
 .rw [bY]
  have:=zF t
  unfold lt at this
  omega
 .rw [hb,a0e,show (uz (λ_=>true) t.cps.toList).all id=true from by simp]
theorem b3j{ks:List Str}(hn:∀x∈ks,Nm x)(nd:ks.Nodup)(hl:ks.length<=1000){r:Bool}:yM [.lst r (ks.map D.str)]=some (.sh .cj):=by
 refine Wo.eq (mZ.mpr ?_)
 unfold Ui
 rw [Wo_seq]
 refine Wo.mono (P:=λp=>∃x1,p=(.nx,[.sh (.lst r (ks.map D.str)),x1])) ?_ ?_
 .walk_at "o1"
  refine Mt D.str (λpre env=>∃x1,env=[.sh (.lst r (ks.map D.str)),x1]) ks (λpre y post env e h=>?_) (λenv h=>?_) ⟨_,rfl⟩
  .obtain ⟨x1,rfl⟩:=h
   walk_at "o1"
   refine Sn ?_ ⟨_,rfl⟩
   walk_at "o1"
   rw [S3 (hn y (by rw [e];simp))]
   walk_at "o1"
  .obtain ⟨x1,rfl⟩:=h
   exact ⟨_,rfl⟩
 .rintro _ ⟨x1,rfl⟩
  rw [a2l]
  refine Sn ?_ rfl
  walk_at "o1"
  rw [strs_map,a0e]
  refine ⟨by omega,?_⟩
  walk_at "o1"
  rw [bY,<-Rq nd λx=>hU]
  simp
theorem YE{n:Int}(h:n<=30):A4 [.int n]=some (.sh .cj):=by
 refine Wo.eq (ox.mpr ?_)
 unfold TZ
 refine Sn ?_ rfl
 walk_at "o1"
 omega
noncomputable def Pq(q:Str×Tr):D:=.tup [.str q.1,q.2.o]
theorem ZI:∀L:List (Str×Tr),AX (L.map Pq)=some (bx L,cM L)
 | []=>rfl
 | q::L=>by
  show (AX (L.map Pq)).map _=_
  rw [ZI L]
  rfl
theorem EU{G:SF}{F:IF}{env ag:En}{ns:List Str}{ds:List D}(h:G env=some (.nx,ag))(ho:AW ag=true):Aj G F env ns ds=F ag ns ds:=by
 unfold Aj
 rw [h]
 dsimp only
 rw [if_pos ho]
theorem YJ{f:Str}{fe:En->Option Sl}{F:IF}{env:En}{r:Sl}{ns:List Str}{ds:List D}(h:fe env=some r)(hf:¬(f∈ns\/900<ns.length)):cI f fe F env ns ds=F env (ns++[f]) (ds++[r.d]):=by
 unfold cI
 rw [h]
 show (if f∈ns\/900<ns.length then none else _)=_
 rw [if_neg hf]
noncomputable def Pd(q:Str×Tr):D:=.tup [.str q.1,q.2.d]
theorem Sv(c k:Int)(hk:0<=k/\k<=200):∃m:Int,BN [.int c,.int k]=some (.sh (.int m)) /\ -(10^40)<=m/\m<=10^40:=by
 have key:Wo (BN [.int c,.int k]) λx=>∃m:Int,x=.sh (.int m) /\ -(10^40)<=m/\m<=10^40:=by
  refine pS.mpr ?_
  unfold T5
  obtain ⟨a,ea,a0,a1⟩:=kf c (k+60) 3 (by omega) (by decide)
  walk_at "v1"
  rw [ea]
  walk_at "v1"
  refine ⟨by decide,by decide,?_⟩
  refine Yv [3,10^9,10^39] a0 (by simpa using a1) λv hv=>?_
  have hb:0<v/\v<=10^39:=by
   simp only [cL,sX,or_false] at hv
   omega
  obtain ⟨b,eb,b0,b1⟩:=kf c k (2*v+1) (by omega) (by omega)
  walk_at "v1"
  rw [eb]
  walk_at "v1"
  exact ⟨.inl (by decide),_,rfl,by omega,by omega⟩
 obtain ⟨x,e,m,rfl,h⟩:=key
 exact ⟨m,e,h⟩
theorem eqT(a:Str):bK (.str a) (.str a)=some (.sh (.bl true)):=by
 simp [bK,bF]
theorem YF(c sc:Int)(hs:1<=sc/\sc<=10^38):∃rs,Fv [.int c,.int sc]=some (.ow (rs.map Pr))/\(rs≠[]/\rs.length<=9)/\∀q∈rs,Sh q.1/\Sh q.2:=by
 have key:Wo (Fv [.int c,.int sc]) λx=>∃rs,x=.ow (rs.map Pr)/\(rs≠[]/\rs.length<=9)/\∀q∈rs,Sh q.1/\Sh q.2:=by
  refine rD.mpr ?_
  unfold Tp
  obtain ⟨a,ea,a0,a1⟩:=kf c 30 sc (by decide) (by lia)
  obtain ⟨b,eb,b0,b1⟩:=kf c 31 3 (by decide) (by decide)
  obtain ⟨m,em,m0,m1⟩:=kf c 32 2 (by decide) (by decide)
  walk_at "v1"
  rw [ea]
  walk_at "v1"
  rw [eb]
  walk_at "v1"
  have hp0:0<=a*b:=Es a0 b0
  have hp1:a*b<=10^38*2:=Er (by lia) (by lia) b0 (by decide)
  refine ⟨.inr (.inl (by lia)),by walk_at "sc",?_⟩
  generalize a*b=ab at *
  rw [em]
  walk_at "v1"
  refine ⟨by walk_at "sc",?_⟩
  refine SM _ _ (λk env=>∃x4,∃(rs:List (Int×Int)) (top:Int),env=[.sh (.int c),.sh (.int sc),.ow (rs.map Pr),.sh (.int top),x4]/\rs.length=k/\0<=top/\top<=10^38+k*(10^38+1)/\∀q∈rs,Sh q.1/\Sh q.2) (λk env hk h=>?_) (λenv h=>?_) ⟨_,[],_,rfl,rfl,by lia,by lia,λq hq=>(nomatch hq)⟩
  .obtain ⟨x4,rs,top,rfl,hl,t0,t1,hq⟩:=h
   obtain ⟨p,ep,p0,p1⟩:=Sv c (33+(0+(k:Int))) (by lia)
   obtain ⟨n,en,n0,n1⟩:=kf c (40+(0+(k:Int))) sc (by lia) (by lia)
   walk_at "v1"
   rw [ep]
   walk_at "v1"
   refine ⟨by rw [bY];lia,?_⟩
   rw [en]
   walk_at "v1"
   refine ⟨_,rs++[(top,p)],_,by rw [nz];rfl,by simp [hl],by lia,by lia,λq fO=>?_⟩
   rcases jV.mp fO with z | z
   .exact hq q z
   .rw [je.mp z];unfold Sh;dsimp only;lia
  .obtain ⟨x4,rs,top,rfl,hl,t0,t1,hq⟩:=h
   walk_at "vc"
   refine ⟨rs,rfl,⟨?_,by lia⟩,hq⟩
   intro z
   rw [z] at hl
   simp at hl
   lia
 obtain ⟨x,e,rs,rfl,h⟩:=key
 exact ⟨rs,e,h⟩
theorem YM(ws:List Str){w:Int}(w0:0<=w)(w1:w<ws.length):∃x∈ws,L2.fq (ws.map D.str) w=some (.str x):=by
 refine ⟨ws[w.toNat]'(by omega),oF _,?_⟩
 unfold L2.fq ni
 rw [bY,if_pos w0,if_pos (by omega)]
 show (ws.map D.str)[w.toNat]?=_
 rw [mB,iP (by omega)]
 rfl
theorem Jo{c:En->Option Bool}{F G:SF}{env:En}{Q:Fl×En->Prop}(h:c env=some true)(g:Wo (F env) Q):Wo (cz c F G env) Q:=by
 rw [a39,h,a0e]
 exact ⟨λ_=>g,λz=>(nomatch z)⟩
theorem LX{c:En->Option Bool}{F G:SF}{env:En}{Q:Fl×En->Prop}(h:c env=some false)(g:Wo (G env) Q):Wo (cz c F G env) Q:=by
 rw [a39,h,a0e]
 exact ⟨λz=>(nomatch z),λ_=>g⟩
theorem z8{c:En->Option Bool}{F G:SF}{env:En}{Q:Fl×En->Prop}(h:c env=some false)(g:Wo (G env) Q):Wo (cz c F de env) (nM G Q):=Wo_seq.mp (a0X h g)
theorem U9{c:En->Option Bool}{f:En->Option Sl}{G:SF}{env:En}{Q:Sl->Prop}(h:c env=some true)(g:Wo (f env) Q):Wo (cz c (bz f) de env) (nM G (dA Q)):=Wo_seq.mp (a4c h g)
theorem b8F(c sc:Int)(hs:1<=sc/\sc<=10^38)(ws:List Str)(hw:ws.length<=100)(Ci:∀x∈ws,x.length<=100){r:Bool}:∃t:Tr,Fu [.int c,.int sc,.lst r (ws.map D.str)]=some (.sh t.d)/\t.ok/\t.sz=1/\∀x∈t.ns,x∈ws:=by
 have key:Wo (Fu [.int c,.int sc,.lst r (ws.map D.str)]) λx=>∃t:Tr,x=.sh t.d/\t.ok/\t.sz=1/\∀x∈t.ns,x∈ws:=by
  refine rG.mpr ?_
  unfold To
  obtain ⟨t,et,t0,t1⟩:=kf c 1 7 (by decide) (by decide)
  obtain ⟨p,ep,p0,p1⟩:=Sv c 2 (by decide)
  obtain ⟨a,ea,a0,a1⟩:=kf c 3 sc (by decide) (by omega)
  obtain ⟨b,eb,b0,b1⟩:=kf c 4 2 (by decide) (by decide)
  obtain ⟨u,eu,u0,u1⟩:=kf c 5 sc (by decide) (by omega)
  obtain ⟨v,ev,v0,v1⟩:=kf c 6 4 (by decide) (by decide)
  have l0:0<=a*b:=Es a0 b0
  have l1:a*b<=10^38*1:=Er (by omega) (by omega) b0 (by decide)
  have h0:0<=u*v:=Es u0 v0
  have h1:u*v<=10^38*3:=Er (by omega) (by omega) v0 (by decide)
  have c1:MulC a b:=.inr (.inl (by omega))
  have c2:MulC u v:=.inr (.inl (by omega))
  obtain ⟨kd,Ph,PV⟩:∃kd:Str,(kd = "each" \/ kd = "flat" \/ kd = "bands" \/ kd = "steps" \/ kd = "blocks" \/ kd = "name")/\L2.fq [D.str "each",D.str "flat",D.str "bands",D.str "steps",D.str "blocks",D.str "name",D.str "name"] t=some (.str kd):=by
   have ht:t=0\/t=1\/t=2\/t=3\/t=4\/t=5\/t=6:=by omega
   rcases ht with rfl | rfl | rfl | rfl | rfl | rfl | rfl
   all_goals exact ⟨_,by simp,rfl⟩
  walk_at "v1"
  rw [et]
  walk_at "v1"
  rw [PV,a0e]
  rw [ep];walk_at "v1"
  rw [ea];walk_at "v1"
  rw [eb];walk_at "v1"
  refine ⟨c1,?_⟩
  rw [eu];walk_at "v1"
  rw [ev];walk_at "v1"
  refine ⟨c2,?_⟩
  generalize a*b=ab at *
  generalize u*v=uv at *
  have fm:Sh p/\Sh ab/\Sh (ab+uv):=by unfold Sh;omega
  rcases Ph with rfl | rfl | rfl | rfl | rfl | rfl
  .refine z8 (by kernel_rfl) (a0X (by kernel_rfl) (a0X (by kernel_rfl) (Wo_ret.mpr (WE (a:=.sh (Tr.l3 .a p ab (ab+uv)).d) (by kernel_rfl) ?_))))
   exact ⟨_,rfl,fm,rfl,λ_ z=>(nomatch z)⟩
  .refine z8 (by kernel_rfl) (a0X (by kernel_rfl) (a0X (by kernel_rfl) (Wo_ret.mpr (WE (a:=.sh (Tr.l3 .b p ab (ab+uv)).d) (by kernel_rfl) ?_))))
   exact ⟨_,rfl,fm,rfl,λ_ z=>(nomatch z)⟩
  .obtain ⟨rs,er,hr⟩:=YF c sc hs
   refine U9 (by kernel_rfl) ?_
   walk_at "v1"
   rw [er,a0e]
   exact ⟨.rws false rs,rfl,hr,rfl,λ_ z=>(nomatch z)⟩
  .obtain ⟨rs,er,hr⟩:=YF c sc hs
   refine U9 (by kernel_rfl) ?_
   walk_at "v1"
   rw [er,a0e]
   exact ⟨.rws true rs,rfl,hr,rfl,λ_ z=>(nomatch z)⟩
  .obtain ⟨s,es,s0,s1⟩:=kf c 7 sc (by decide) (by omega)
   obtain ⟨m,em,m0,m1⟩:=kf c 8 3 (by decide) (by decide)
   refine z8 (by kernel_rfl) (a4c (by kernel_rfl) ?_)
   walk_at "v1"
   rw [es]
   walk_at "v1"
   rw [em]
   walk_at "v1"
   exact ⟨.l3 .c (1+s) p (1+m),rfl,⟨by unfold Sh;omega,fm.1,by unfold Sh;omega⟩,rfl,λ_ z=>(nomatch z)⟩
  .refine z8 (by kernel_rfl) (a0X (by kernel_rfl) ?_)
   cases ws with
   | nil =>
    refine a0X (by kernel_rfl) (Wo_ret.mpr (WE (a:=.sh (Tr.l3 .b p ab (ab+uv)).d) (by kernel_rfl) ?_))
    exact ⟨_,rfl,fm,rfl,λ_ z=>(nomatch z)⟩
   | cons w0 ws =>
    obtain ⟨w,ew,w0,w1⟩:=kf c 9 (w0::ws).length (by decide) (by rw [gq] at *;omega)
    obtain ⟨x,hx,ex⟩:=YM _ w0 w1
    refine a4c (Wo.eq ?_) ?_
    .walk_at "v1"
     rw [eqT,a0e]
     walk_at "v1"
     simp
    .walk_at "v1"
     rw [bY,ew,a0e]
     exact ⟨_,ex,.name x,rfl,Ci x hx,rfl,λy hy=>by rw [je.mp hy];exact hx⟩
 obtain ⟨x,e,t,rfl,h⟩:=key
 exact ⟨t,e,h⟩
theorem b3g(t:Tr)(ht:t.ok)(c sc:Int)(hs:1<=sc/\sc<=10^38)(k:Str)(hk:k = "only" \/ k = "after" \/ k = "fee"):∃u:Tr,Fs [t.d,.str k,.int c,.int sc]=some (.sh u.d)/\u.ok/\u.sz=t.sz+1/\u.ns=t.ns:=by
 have key:Wo (Fs [t.d,.str k,.int c,.int sc]) λx=>∃u:Tr,x=.sh u.d/\u.ok/\u.sz=t.sz+1/\u.ns=t.ns:=by
  refine om.mpr ?_
  unfold Um
  obtain ⟨a,ea,a0,a1⟩:=kf c 50 sc (by decide) (by omega)
  obtain ⟨b,eb,b0,b1⟩:=kf c 51 2 (by decide) (by decide)
  obtain ⟨d,ed,d0,d1⟩:=kf c 52 (3*sc) (by decide) (by omega)
  obtain ⟨e,ee,e0,e1⟩:=kf c 53 sc (by decide) (by omega)
  obtain ⟨p,ep,p0,p1⟩:=Sv c 54 (by decide)
  have l0:0<=a*b:=Es a0 b0
  have l1:a*b<=10^38*1:=Er (by omega) (by omega) b0 (by decide)
  rcases hk with rfl | rfl | rfl
  .refine EK (by kernel_rfl) ?_
   walk_at "v1"
   rw [ea]
   walk_at "v1"
   rw [eb]
   walk_at "v1"
   refine ⟨.inr (.inl (by omega)),?_⟩
   generalize a*b=ab at *
   refine ⟨.inl (by decide),?_⟩
   rw [ed]
   walk_at "v1"
   exact ⟨.one .a t ab (ab+d),rfl,⟨ht,by unfold Sh;omega⟩,rfl,rfl⟩
  .refine a0X (by kernel_rfl) (a4c (by kernel_rfl) ?_)
   walk_at "v1"
   rw [ee]
   walk_at "v1"
   exact ⟨.one .b t e 0,rfl,⟨ht,by unfold Sh;omega⟩,rfl,rfl⟩
  .refine a0X (by kernel_rfl) (a0X (by kernel_rfl) ?_)
   walk_at "v1"
   rw [ep]
   walk_at "v1"
   exact ⟨.one .c t p 0,rfl,⟨ht,by unfold Sh;omega⟩,rfl,rfl⟩
 obtain ⟨x,e,t,rfl,h⟩:=key
 exact ⟨t,e,h⟩
noncomputable def pT:List Tr->Nat
 | []=>0
 | t::ts=>t.sz+pT ts
theorem E5:∀a b:List Tr,pT (a++b)=pT a+pT b
 | [],b=>by simp [pT]
 | t::a,b=>by
  show t.sz+pT (a++b)=t.sz+pT a+pT b
  rw [E5 a b]
  omega
def rK(ws:List Str)(t:Tr):Prop:=t.ok/\∀x∈t.ns,x∈ws
theorem Yo{i:Nat}{env:En}{xs:List D}{x:D}(h:env[i]?=some (.ow (xs++[x]))):tU i env=some (x,env.set i (.ow xs)):=by
 refine Wo.eq ?_
 rw [b6B,h,a9y]
 refine ⟨x,by simp,?_⟩
 simp
theorem b8D(cs:List Int)(hc:1<=cs.length/\cs.length<=3)(sc:Int)(hs:1<=sc/\sc<=10^38)(ws:List Str)(hw:ws.length<=100)(Ci:∀x∈ws,x.length<=100){r r2:Bool}:∃t:Tr,Fw [.lst r2 (cs.map D.int),.int sc,.lst r (ws.map D.str)]=some (.sh t.d)/\rK ws t/\t.sz<=5:=by
 have key:Wo (Fw [.lst r2 (cs.map D.int),.int sc,.lst r (ws.map D.str)]) λx=>∃t:Tr,x=.sh t.d/\rK ws t/\t.sz<=5:=by
  refine rB.mpr ?_
  unfold Tq
  walk_at "o1"
  refine Mt D.int (λpre env=>∃(ts:List Tr) (x4 x5 x6:Sl),env=[.sh (.lst r2 (cs.map D.int)),.sh (.int sc),.sh (.lst r (ws.map D.str)),.ow (ts.map Tr.d),x4,x5,x6]/\(∀t∈ts,rK ws t)/\pT ts<=pre.length/\ts.length<=pre.length/\(pre≠[]->ts≠[])) cs (λpre c post env e h=>?_) (λenv h=>?_) ⟨[],_,_,_,rfl,λ_ z=>(nomatch z),cw _,cw _,λz=>(z rfl).elim⟩
  .obtain ⟨ts,x4,x5,x6,rfl,hf,hz,hl,mz⟩:=h
   obtain ⟨k,ek,k0,k1⟩:=kf c 0 13 (by decide) (by decide)
   have HE:pre.length<3:=by
    have:=congrArg CN e
    simp at this
    omega
   walk_at "o1"
   rw [ek]
   walk_at "o1"
   by_cases hb:9<k/\ts≠[]
   .obtain ⟨ts,t,rfl⟩:∃a b,ts=a++[b]:=by
     rcases LF ts with z | ⟨a,b,z⟩
     .exact (hb.2 z).elim
     .exact ⟨a,b,by rw [z,LD]⟩
    refine Jo (Wo.eq ?_) ?_
    .walk_at "o1"
     rw [nz,fD]
     refine ⟨λ_=>?_,λz=>(z hb.1).elim⟩
     simp
    .have VH:=hf t (by simp)
     obtain ⟨kd,Ph,PV⟩:∃kd:Str,(kd = "only" \/ kd = "after" \/ kd = "fee")/\L2.fq [D.str "only",D.str "after",D.str "fee"] (k-10)=some (.str kd):=by
      have:k=10\/k=11\/k=12:=by omega
      rcases this with rfl | rfl | rfl
      .exact ⟨_,.inl rfl,rfl⟩
      .exact ⟨_,.inr (.inl rfl),rfl⟩
      .exact ⟨_,.inr (.inr rfl),rfl⟩
     obtain ⟨u,eu,u1,u3,u4⟩:=b3g t VH.1 c sc hs kd Ph
     rw [E5] at hz
     simp only [pT] at hz
     rw [fD,yv] at hl
     rw [Zo]
     simp only [WI,WH,a9y]
     rw [b2e,ZN,Yo (xs:=ts.map Tr.d) (x:=t.d) (by rw [nz];rfl),a0e]
     simp only [C5,zv]
     walk_at "o1"
     rw [PV]
     walk_at "o1"
     rw [eu]
     walk_at "o1"
     refine ⟨by rw [bY];omega,ts++[u],_,_,_,by rw [nz];rfl,λz DS=>?_,?_,?_,λ_=>by simp⟩
     .rcases jV.mp DS with q | q
      .exact hf z (mC _ q)
      .rw [je.mp q]
       exact ⟨u1,by rw [u4];exact VH.2⟩
     .rw [E5]
      simp only [pT,fD,yv]
      omega
     .simp only [fD,yv]
      omega
   .refine LX (Wo.eq ?_) ?_
    .walk_at "o1"
     intro h9
     have:ts=[]:=Qs.mp λz=>hb ⟨h9,z⟩
     rw [this]
     simp
    .obtain ⟨u,eu,u1,u3,u4⟩:=b8F c sc hs ws hw Ci (r:=r)
     walk_at "o1"
     rw [eu]
     walk_at "o1"
     refine ⟨by rw [bY];omega,ts++[u],_,_,_,by rw [nz];rfl,λz DS=>?_,?_,?_,λ_=>by simp⟩
     .rcases jV.mp DS with q | q
      .exact hf z q
      .rw [je.mp q]
       exact ⟨u1,u4⟩
     .rw [E5]
      simp only [pT,fD,yv]
      omega
     .simp only [fD,yv]
      omega
  .obtain ⟨ts,x4,x5,x6,rfl,hf,hz,hl,mz⟩:=h
   rw [a2l,Wo_seq,Zp]
   obtain ⟨c0,hc0⟩:∃c0,L2.fq (cs.map D.int) 0=some (.int c0):=by
    cases cs with
    | nil=>simp at hc
    | cons a as=>exact ⟨a,b6j⟩
   obtain ⟨m,em,m0,m1⟩:=kf c0 55 4 (by decide) (by decide)
   refine MS (λn env=>∃(ts:List Tr) (x4 x5 x6:Sl),env=[.sh (.lst r2 (cs.map D.int)),.sh (.int sc),.sh (.lst r (ws.map D.str)),.ow (ts.map Tr.d),x4,x5,x6]/\(∀t∈ts,rK ws t)/\pT ts+ts.length<=6/\ts.length=n/\ts≠[]) (λn env h=>?_) 1000000 ts.length (by omega) ⟨ts,x4,x5,x6,rfl,hf,by omega,rfl,mz (λz=>by rw [z] at hc;simp at hc)⟩
   obtain ⟨ts,x4,x5,x6,rfl,hf,hz,hl,mz⟩:=h
   walk_at "o1"
   rw [bY]
   refine ⟨λh1=>?_,λh1=>?_⟩
   .obtain ⟨ts,a,b,rfl⟩:∃us a b,ts=us++[a,b]:=by
     rcases LF ts with z | ⟨us,b,z⟩
     .exact (mz z).elim
     .rw [LD] at z
      rcases LF us with y | ⟨vs,a,y⟩
      .rw [z,y] at h1;simp at h1
      .exact ⟨vs,a,b,by rw [z,y,LD,C4];rfl⟩
    have hsz:=E5 ts [a,b]
    simp only [pT] at hsz
    rw [hsz,fD] at hz
    rw [fD] at hl
    simp only [gq,QC] at hz hl
    have KU:=hf a (by simp)
    have VJ:=hf b (by simp)
    rw [show (uz Tr.d (ts++[a,b]))[(ts++[a,b]).length-1]?=some b.d by simp,a0e]
    refine ⟨by decide,?_⟩
    rw [show (uz Tr.d (ts++[a,b])).dropLast=ts.map Tr.d++[a.d] by simp]
    rw [Zo]
    simp only [WI,WH,a9y]
    rw [b3H,b2g]
    walk_at "o1"
    rw [hc0]
    walk_at "o1"
    rw [em]
    walk_at "o1"
    have fin:∀u:Tr,rK ws u->u.sz=a.sz+b.sz+1->(∀t∈ts++[u],rK ws t)/\pT (ts++[u])+(ts++[u]).length<=6/\(ts++[u]).length=ts.length+1/\ts++[u]≠[]:=λu hu hs'=>by
     refine ⟨λz DS=>?_,?_,by simp,by simp⟩
     .rcases jV.mp DS with q | q
      .exact hf z (mC _ q)
      .rw [je.mp q]
       exact hu
     .rw [E5,fD]
      simp only [pT,yv]
      omega
    obtain ⟨kk,ekk⟩:∃kk:Kd,L2.fq [D.str "or",D.str "plus",D.str "max",D.str "or"] m=some (.str (kk.w "plus" "or" "max")):=by
     have hm4:m=0\/m=1\/m=2\/m=3:=by omega
     rcases hm4 with rfl | rfl | rfl | rfl
     .exact ⟨.b,rfl⟩
     .exact ⟨.a,rfl⟩
     .exact ⟨.c,rfl⟩
     .exact ⟨.b,rfl⟩
    rw [ekk,a0e,ZN,Yo (xs:=ts.map Tr.d) (x:=a.d) rfl,a0e]
    simp only [C5,zv]
    walk_at "o1"
    exact ⟨by rw [bY];omega,ts.length+1,by omega,ts++[.two kk a b],_,_,_,by rw [nz];rfl,fin (.two kk a b) ⟨c4O KU.1 VJ.1,λx hx=>(jV.mp hx).elim (KU.2 x) (VJ.2 x)⟩ rfl⟩
   .obtain ⟨t,rfl⟩:∃t,ts=[t]:=by
     cases ts with
     | nil=>exact (mz rfl).elim
     | cons t us=>cases us with
      | nil=>exact ⟨t,rfl⟩
      | cons u us=>simp at h1;omega
    rw [fE,b6j,a0e]
    simp only [pT,gq,QC] at hz
    exact ⟨t,rfl,hf t (by simp),by omega⟩
 obtain ⟨x,e,t,rfl,h⟩:=key
 exact ⟨t,e,h⟩
noncomputable def odd(l:List Nat):Nat:=l.countP λc=>!(c==113||c==120||c==122)
theorem b5n:∀w∈M',2<=odd (lt w):=by decide +kernel
theorem YY:∀c,c=113\/c=120\/c=122->c∈m5:=by
 rintro c (rfl | rfl | rfl)<;>decide +kernel
theorem Mw(a b:List Nat):odd (a++b)=odd a+odd b:=by unfold odd;rw [List.countP_append]
theorem L1{l:List Nat}(h:∀c∈l,c=113\/c=120\/c=122):odd l=0:=by
 unfold odd
 rw [List.countP_eq_zero]
 intro c hc
 rcases h c hc with rfl | rfl | rfl<;>decide
theorem Xy(c:Nat):odd [c]<=1:=by
 unfold odd
 exact WN
theorem Tw:∀cs:List Nat,lt (mU "" (cs.map λc=>⟨#[c]⟩))=cs
 | []=>by decide +kernel
 | [c]=>rfl
 | c::d::cs=>by
  have:=Tw (d::cs)
  rw [fE,fE,RA,<-fE (f:=λc=>(⟨#[c]⟩:Str)),this]
  rfl
theorem Zk:∀cs:List Nat,wK "" (cs.map λc=>⟨#[c]⟩)=cs.length
 | []=>rfl
 | c::cs=>by
  rw [fE,Sj,Zk cs,gq,show ("":Str).length=0 from by decide +kernel,show (⟨#[c]⟩:Str).length=1 from rfl]
  omega
theorem XB{z:Str}{i:Int}(hz:z.length=3)(h:0<=i/\i<3)(hq:∀c∈lt z,c=113\/c=120\/c=122):∃c,L2.fq z.cps.toList i=some c/\(c=113\/c=120\/c=122):=by
 have hl:(lt z).length=3:=by rw [<-zF];exact hz
 refine ⟨(lt z)[i.toNat]'(by omega),?_,hq _ (oF _)⟩
 show L2.fq (lt z) i=_
 unfold L2.fq ni
 rw [if_pos h.1,if_pos (by omega)]
 show (lt z)[i.toNat]?=_
 rw [iP]
theorem z_qxz:("qxz":Str).length=3/\("zxq":Str).length=3/\(∀c∈lt "qxz",c=113\/c=120\/c=122)/\(∀c∈lt "zxq",c=113\/c=120\/c=122):=by decide +kernel
theorem YQ{α:Type}(enc:α->D)(P:D->Prop)(I:En->Prop){g:GF}{fc:En->Option Bool}{fe:En->Option Sl}:∀(xs:List α),(∀a∈xs,∀e,I e->Wo (g (enc a) e) λe1=>I e1/\Wo (fc e1) λb=>b=true/\Wo (fe e1) λr=>P r.d)->∀{e:En},I e->∃ys,oH g fc fe (xs.map enc) e=some ys/\ys.length=xs.length/\∀y∈ys,P y
 | [],_,e,_=>⟨[],rfl,rfl,λ_ z=>(nomatch z)⟩
 | a::xs,h,e,he=>by
  obtain ⟨e1,g1,p1,b,c1,rfl,r,f1,f2⟩:=h a gi e he
  obtain ⟨ys,h1,h2,h3⟩:=YQ enc P I xs (λa ha=>h a (gn _ ha)) p1
  refine ⟨r.d::ys,?_,by rw [gq,gq,h2],λy hy=>?_⟩
  .refine Wo.eq ?_
   rw [fE,a4Y]
   exact ⟨e1,g1,true,c1,λ_=>⟨r,f1,ys,h1,rfl⟩,λz=>(nomatch z)⟩
  .rcases cL.mp hy with rfl | hy
   .exact f2
   .exact h3 y hy
def Qx(c:Nat):Prop:=c=113\/c=120\/c=122
theorem Za:∀ys:List D,(∀y∈ys,∃c,y=.str ⟨#[c]⟩/\Qx c)->∃cs:List Nat,ys=(cs.map λc=>(⟨#[c]⟩:Str)).map D.str/\cs.length=ys.length/\∀c∈cs,Qx c
 | [],_=>⟨[],rfl,rfl,λ_ z=>(nomatch z)⟩
 | y::ys,h=>by
  obtain ⟨c,rfl,hc⟩:=h y gi
  obtain ⟨cs,rfl,h1,h2⟩:=Za ys λy hy=>h y (gn _ hy)
  refine ⟨c::cs,rfl,by rw [gq,gq,h1],λx hx=>?_⟩
  rcases cL.mp hx with rfl | hx
  .exact hc
  .exact h2 x hx
theorem part_of{z:Str}{n:Int}(hn:0<=n/\n<5){fe:En->Option Sl}{fr:En->Option (List D)}{env:En}{x:Sl}(hr:fr env=some (eD 0 n.toNat))(hx:env[0]?=some x)(hs:x≠.no)(O9:∃d,x=.sh d)
  (hf:∀k:Nat,k<n.toNat->Wo (fe [.sh (.int (0+k)),x]) λr=>∃c,r.d=.str ⟨#[c]⟩/\Qx c):∃w:Str,CH (eC (.str "")) (pG (gS fr [0] 1 (gN 0) km fe)) env=some (.sh (.str w))/\(∀c∈lt w,Qx c)/\w.length<=n.toNat:=by
 obtain ⟨d,rfl⟩:=O9
 have Pt:lq [0] env=some [.sh d]:=by
  unfold lq
  rw [hx]
  rfl
 obtain ⟨ys,h1,h2,h3⟩:=YQ (λk:Nat=>D.int (0+k)) (λy=>∃c,y=.str ⟨#[c]⟩/\Qx c) (λe=>∃y,e=[y,.sh d]) (g:=gN 0) (fc:=km) (fe:=fe) (fx n.toNat) (λk hk e he=>by
  obtain ⟨y,rfl⟩:=he
  rw [b0i]
  refine ⟨by simp,⟨_,rfl⟩,true,rfl,rfl,?_⟩
  exact (hf k (by simpa using hk)).mono λr hr=>hr) (e:=[.no,.sh d]) ⟨_,rfl⟩
 obtain ⟨cs,rfl,h4,h5⟩:=Za ys h3
 rw [wg] at h2
 refine ⟨mU "" (cs.map λc=>⟨#[c]⟩),Wo.eq (JZ (z:="") (ts:=cs.map λc=>⟨#[c]⟩) rfl ?_ (by rw [Zk];omega) rfl),by rw [Tw];exact h5,by rw [zF,Tw];omega⟩
 unfold pG gS
 rw [hr,Pt]
 show ((if (eD 0 n.toNat).length<=16777216 then (oH (gN 0) km fe (eD 0 n.toNat) [Sl.no,.sh d]).map Sl.ow else none).bind λr=>iW r.d)=_
 have hrr:eD 0 n.toNat=(fx n.toNat).map λk:Nat=>D.int (0+k):=rfl
 rw [hrr,if_pos (by rw [bY,wg];omega),h1]
 rfl
theorem Yy:m5.length=26:=by decide +kernel
theorem X3:∀i:Fin 26,m5[i.val]?=some (97+i.val):=by decide +kernel
theorem b73:∀i:Fin 26,97+i.val∈m5:=by decide +kernel
noncomputable def Lt(m:Int)(k:Nat):Nat:=97+((m+3*k)%26).toNat
theorem LV(m:Int)(k:Nat):0<=(m+3*k)%26/\(m+3*k)%26<26:=⟨Lv _ (by decide),Ll _ (by decide)⟩
theorem b9n(m:Int)(k:Nat):Lt m k∈m5:=by
 have h:=LV m k
 exact b73 ⟨((m+3*k)%26).toNat,by omega⟩
theorem Kb(m:Int)(k:Nat):L2.fq ("abcdefghijklmnopqrstuvwxyz":Str).cps.toList ((m+3*k)%26)=some (Lt m k):=by
 have h:=LV m k
 have hl:=Yy
 show L2.fq m5 _=_
 unfold L2.fq ni
 rw [if_pos h.1,if_pos (by omega)]
 exact X3 ⟨((m+3*k)%26).toNat,by omega⟩
theorem b9o{m:Int}{j k:Nat}(hj:j<4)(hk:k<4)(h:Lt m j=Lt m k):j=k:=by
 have h1:=LV m j
 have h2:=LV m k
 unfold Lt at h
 omega
noncomputable def Wd(a b:Str)(m:Int)(k:Nat):Str:=a++⟨#[Lt m k]⟩++b
theorem EN(a b:Str)(m:Int)(k:Nat):lt (Wd a b m k)=lt a++([Lt m k]++lt b):=by
 unfold Wd
 rw [Js,Js,C4]
 rfl
theorem W0{a b:Str}{m:Int}{k:Nat}(ha:(∀c∈lt a,Qx c)/\a.length<=3)(hb:(∀c∈lt b,Qx c)/\b.length<=4):Nm (Wd a b m k):=by
 have hl:(Wd a b m k).length=a.length+(1+b.length):=by
  rw [zF,EN,fD,fD,<-zF,<-zF]
  rfl
 refine ⟨⟨by omega,by omega⟩,λc hc=>?_,λho=>?_⟩
 .rw [EN,jV,jV,je] at hc
  rcases hc with hc | rfl | hc
  .exact YY c (ha.1 c hc)
  .exact b9n m k
  .exact YY c (hb.1 c hc)
 .have h1:=b5n _ ho
  rw [EN,Mw,Mw,L1 ha.1,L1 hb.1] at h1
  have:=Xy (Lt m k)
  omega
theorem Yb{a b:Str}{m:Int}{j k:Nat}(hj:j<4)(hk:k<4)(h:Wd a b m j=Wd a b m k):j=k:=by
 have h1:=congrArg lt h
 rw [EN,EN] at h1
 have h2:=List.append_cancel_left h1
 have h3:Lt m j=Lt m k:=by
  have:=List.append_cancel_right h2
  simpa using this
 exact b9o hj hk h3
theorem b6b(c n:Int)(hn:1<=n/\n<=4):∃a b m,JW [.int c,.int n]=some (.ow (((fx n.toNat).map λk=>Wd a b m k).map D.str))/\((∀c∈lt a,Qx c)/\a.length<=3)/\((∀c∈lt b,Qx c)/\b.length<=4):=by
 obtain ⟨u,eu,u0,u1⟩:=kf c 20 4 (by decide) (by decide)
 obtain ⟨v,ev,v0,v1⟩:=kf c 21 5 (by decide) (by decide)
 obtain ⟨m,em,m0,m1⟩:=kf c 22 26 (by decide) (by decide)
 obtain ⟨z1,z2,z3,z4⟩:=z_qxz
 obtain ⟨a,ea,ha1,ha2⟩:=part_of (z:="qxz") (n:=u) ⟨u0,by omega⟩ (fr:=iY tE (ae (bh 3 gr (ae (eV 0) (ae (eC (.int 20)) (ae (eC (.int 4)) aa)))) aa)) (env:=[.sh (.int c),.sh (.int n),.sh (.str "abcdefghijklmnopqrstuvwxyz"),.no,.no]) (fe:=jS (eC (.str "qxz")) (bh 3 gr (ae (eV 1) (ae (eV 0) (ae (eC (.int 3)) aa))))) (x:=.sh (.int c))
  (Wo.eq (by walk_at "o1";rw [eu];walk_at "o1")) rfl (λz=>(nomatch z)) ⟨_,rfl⟩ (λk hk=>by
   obtain ⟨w,ew,w0,w1⟩:=kf c (0+k) 3 (by omega) (by decide)
   obtain ⟨ch,xX,uf⟩:=XB z1 ⟨w0,w1⟩ z3
   have:bh 3 gr (ae (eV 1) (ae (eV 0) (ae (eC (.int 3)) aa))) [.sh (.int (0+k)),.sh (.int c)]=some (.sh (.int w)):=Wo.eq (by walk_at "o1";rw [ew];walk_at "o1")
   rw [Ju rfl this (by rw [z1];decide) xX]
   exact ⟨ch,rfl,uf⟩)
 obtain ⟨b,eb,hb1,HG⟩:=part_of (z:="zxq") (n:=v) ⟨v0,by omega⟩ (fr:=iY tE (ae (bh 3 gr (ae (eV 0) (ae (eC (.int 21)) (ae (eC (.int 5)) aa)))) aa)) (env:=[.sh (.int c),.sh (.int n),.sh (.str "abcdefghijklmnopqrstuvwxyz"),.sh (.str a),.no]) (fe:=jS (eC (.str "zxq")) (bh 3 gr (ae (eV 1) (ae (ah bb (eV 0) (eC (.int 5))) (ae (eC (.int 3)) aa))))) (x:=.sh (.int c))
  (Wo.eq (by walk_at "o1";rw [ev];walk_at "o1")) rfl (λz=>(nomatch z)) ⟨_,rfl⟩ (λk hk=>by
   obtain ⟨w,ew,w0,w1⟩:=kf c (0+k+5) 3 (by omega) (by decide)
   obtain ⟨ch,xX,uf⟩:=XB z2 ⟨w0,w1⟩ z4
   have:bh 3 gr (ae (eV 1) (ae (ah bb (eV 0) (eC (.int 5))) (ae (eC (.int 3)) aa))) [.sh (.int (0+k)),.sh (.int c)]=some (.sh (.int w)):=Wo.eq (by walk_at "o1";rw [ew];walk_at "o1")
   rw [Ju rfl this (by rw [z2];decide) xX]
   exact ⟨ch,rfl,uf⟩)
 refine ⟨a,b,m,Wo.eq (pR.mpr ?_),⟨ha1,by omega⟩,hb1,by omega⟩
 unfold T6
 rw [Wo_seq,a2E]
 refine ⟨_,rfl,by simp,?_⟩
 simp only [C5,zv,a2l,Sl.d]
 rw [Wo_seq,a2E,ea,a0e]
 refine ⟨by simp,?_⟩
 simp only [C5,zv,a2l,Sl.d]
 rw [Wo_seq,a2E,eb,a0e]
 refine ⟨by simp,?_⟩
 simp only [C5,zv,a2l,Sl.d]
 rw [Wo_ret]
 walk_at "o1"
 have hlw:("abcdefghijklmnopqrstuvwxyz":Str).length<=100:=by decide +kernel
 refine ⟨by unfold eD;rw [bY,wg];omega,_,DL.comp_map (λk:Nat=>D.int (0+(k:Int))) (λk=>.str (Wd a b m k)) (λe=>∃y,e=[y,.sh (.str a),.sh (.str "abcdefghijklmnopqrstuvwxyz"),.sh (.int c),.sh (.str b)]) (fx n.toNat) (λk hk e he=>?_) ⟨_,rfl⟩,?_⟩
 .obtain ⟨y,rfl⟩:=he
  have hx:ah ej (ah bb (bh 3 gr (ae (eV 3) (ae (eC (.int 22)) (ae (eC (.int 26)) aa)))) (ah iG (eC (.int 3)) (eV 0))) (eC (.int 26)) [.sh (.int (0+(k:Int))),.sh (.str a),.sh (.str "abcdefghijklmnopqrstuvwxyz"),.sh (.int c),.sh (.str b)]=some (.sh (.int ((m+3*k)%26))):=by
   refine Wo.eq ?_
   walk_at "o1"
   rw [em]
   walk_at "o1"
   refine ⟨.inl (by decide),?_⟩
   rw [show (0:Int)+k=k by omega]
  rw [b0i]
  refine ⟨by simp,⟨_,rfl⟩,true,rfl,rfl,?_⟩
  simp only [zv]
  rw [a9D,a9D]
  walk_at "o1"
  rw [Ju rfl hx (by omega) (Kb m k)]
  walk_at "o1"
  simp only [Bw]
  refine ⟨?_,?_,rfl⟩
  .show a.length+1<=_
   omega
  .show a.length+1+b.length<=_
   omega
 .rw [wm]
  rfl
theorem b3i(ns:List Int)(hl:ns.length<=63)(most:Int)(h1:0<most)(h2:most<=1000){r:Bool}:∃l:List Int,Fp [.lst r (ns.map D.int),.int 2,.int most]=some (.ow (l.map D.int))/\l.length<=1000:=by
 have key:Wo (Fp [.lst r (ns.map D.int),.int 2,.int most]) λs=>∃l:List Int,s=.ow (l.map D.int)/\l.length<=1000:=by
  refine ou.mpr ?_
  unfold Uk
  walk_at "v1"
  rw [yk ns 2 (by decide)]
  walk_at "v1"
  rw [bY]
  refine SM _ _ (λk env=>∃x4 x5,∃l:List Int,env=[.sh (.lst r (ns.map D.int)),.sh (.int 2),.sh (.int most),.ow (l.map D.int),x4,x5]/\(l.length:Int)<=most) (λk env hk h=>?_) (λenv h=>?_) ⟨_,_,[_],rfl,by simp;omega⟩
  .obtain ⟨x4,x5,l,rfl,hm⟩:=h
   walk_at "vc"
   rw [bY]
   refine ⟨λfu=>?_,λVG=>?_⟩
   .rw [E9 0 (by omega) (by omega)]
    walk_at "vc"
    generalize ns.getD _ 0=c
    refine ⟨by walk_at "sc",by decide,by omega,?_⟩
    exact ⟨_,_,l++[c%10^60],by rw [nz];rfl,by simp;omega⟩
   .have m1:=Lv (2+1+(k:Int)) (show most≠0 by omega)
    have m2:=Ll (2+1+(k:Int)) h1
    have hlm:(l.length:Int)=most:=by omega
    rw [E9 0 m1 (by omega),E9 0 (by omega) (by omega)]
    walk_at "vc"
    generalize ns.getD _ 0=c
    generalize hx:l.getD _ 0=x
    generalize (2+1+(k:Int))%most=j at *
    have hj:ni l.length j=some j.toNat:=by
     unfold ni
     rw [if_pos m1,if_pos (by omega)]
    rw [hj]
    walk_at "vc"
    refine ⟨by omega,.inr (.inl (by decide)),by walk_at "sc",by decide,by walk_at "sc",by decide,by omega,?_⟩
    exact ⟨_,_,l.set j.toNat ((x*10007+c%10^60)%10^60),by rw [List.map_set],by rw [QE];omega⟩
  .obtain ⟨x4,x5,l,rfl,hm⟩:=h
   walk_at "vc"
   exact ⟨l,rfl,by omega⟩
 obtain ⟨x,e,l,rfl,h⟩:=key
 exact ⟨l,e,h⟩
theorem Zc{α:Type}(enc:α->D)(P:D->Prop)(I:En->Prop){g:GF}{fc:En->Option Bool}{fe:En->Option Sl}:∀(xs:List α),(∀a∈xs,∀e,I e->Wo (g (enc a) e) λe1=>I e1/\Wo (fc e1) λb=>b=true->Wo (fe e1) λr=>P r.d)->∀{e:En},I e->∃ys,oH g fc fe (xs.map enc) e=some ys/\ys.length<=xs.length/\∀y∈ys,P y
 | [],_,e,_=>⟨[],rfl,cw _,λ_ z=>(nomatch z)⟩
 | a::xs,h,e,he=>by
  obtain ⟨e1,g1,p1,b,c1,h4⟩:=h a gi e he
  obtain ⟨ys,h1,h2,h3⟩:=Zc enc P I xs (λa ha=>h a (gn _ ha)) p1
  cases b with
  | false =>
   refine ⟨ys,Wo.eq ?_,by rw [gq];omega,h3⟩
   rw [fE,a4Y]
   exact ⟨e1,g1,false,c1,λz=>(nomatch z),λ_=>⟨ys,h1,rfl⟩⟩
  | true =>
   obtain ⟨r,f1,f2⟩:=h4 rfl
   refine ⟨r.d::ys,Wo.eq ?_,by rw [gq,gq];omega,λy hy=>?_⟩
   .rw [fE,a4Y]
    exact ⟨e1,g1,true,c1,λ_=>⟨r,f1,ys,h1,rfl⟩,λz=>(nomatch z)⟩
   .rcases cL.mp hy with rfl | hy
    .exact f2
    .exact h3 y hy
theorem YL:∀ys:List D,(∀y∈ys,∃i:Int,y=.int i)->∃l:List Int,ys=l.map D.int
 | [],_=>⟨[],rfl⟩
 | y::ys,h=>by
  obtain ⟨i,rfl⟩:=h y gi
  obtain ⟨l,rfl⟩:=YL ys λy hy=>h y (gn _ hy)
  exact ⟨i::l,rfl⟩
noncomputable def rk(a b:Str)(m:Int)(x:Str):Nat:=if x=Wd a b m 0 then 0 else if x=Wd a b m 1 then 1 else if x=Wd a b m 2 then 2 else 3
theorem Xg{a b:Str}{m:Int}{k:Nat}(h:k<4):rk a b m (Wd a b m k)=k:=by
 have h':∀j,j<4->Wd a b m k=Wd a b m j->k=j:=λj hj=>Yb h hj
 unfold rk
 by_cases h0:k=0
 .subst h0;rw [if_pos rfl]
 .rw [if_neg λz=>h0 (h' 0 (by decide) z)]
  by_cases h1:k=1
  .subst h1;rw [if_pos rfl]
  .rw [if_neg λz=>h1 (h' 1 (by decide) z)]
   by_cases h2:k=2
   .subst h2;rw [if_pos rfl]
   .rw [if_neg λz=>h2 (h' 2 (by decide) z)];omega
structure Bg(a b:Str)(m:Int)(n:Nat)(L:List (Str×Tr)):Prop where
 ks:L.map (·.1)=(fx n).map λk=>Wd a b m k
 ok:∀q∈L,q.2.ok/\q.2.sz<=5
 dn:∀q∈L,∃j,j<n/\q.1=Wd a b m j/\∀x∈q.2.ns,∃i,i<j/\x=Wd a b m i
theorem Bg.bk{a b:Str}{m:Int}{n:Nat}{L:List (Str×Tr)}(h:Bg a b m n L)(hn:n<=4){M:List (Str×Tr)}(hp:M.Perm L):Bk M (rk a b m):=by
 have hm:=hp.map (·.1)
 have hl:L.length=n:=by
  have:=congrArg CN h.ks
  simpa using this
 have vB:∀i,i<n->Wd a b m i∈M.map (·.1):=λi hi=>by
  rw [hm.mem_iff,h.ks]
  exact jW.mpr ⟨i,p9.mpr hi,rfl⟩
 refine ⟨?_,λq hq=>?_,λq hq x hx=>?_,λq hq x hx=>?_,by rw [hp.length_eq];omega⟩
 .rw [hm.nodup_iff,h.ks]
  refine Lh.mpr ?_
  refine List.Pairwise.imp_of_mem (R:=(·≠·)) (λ{i j} hi hj sH z=>?_) List.nodup_range
  have hi:=p9.mp hi
  have hj:=p9.mp hj
  exact sH (Yb (by omega) (by omega) z)
 .have h1:=h.ok q (hp.mem_iff.mp hq)
  exact ⟨h1.1,by omega⟩
 .obtain ⟨j,hj,e,h2⟩:=h.dn q (hp.mem_iff.mp hq)
  obtain ⟨i,hi,rfl⟩:=h2 x hx
  exact vB i (by omega)
 .obtain ⟨j,hj,e,h2⟩:=h.dn q (hp.mem_iff.mp hq)
  obtain ⟨i,hi,rfl⟩:=h2 x hx
  rw [e,Xg (by omega),Xg (by omega)]
  exact hi
theorem Bg.add{a b:Str}{m:Int}{n:Nat}{L:List (Str×Tr)}(h:Bg a b m n L){t:Tr}(ht:rK ((fx n).map λk=>Wd a b m k) t)(hz:t.sz<=5):Bg a b m (n+1) (L++[(Wd a b m n,t)]):=by
 refine ⟨?_,λq hq=>?_,λq hq=>?_⟩
 .rw [nz,h.ks,List.range_succ,nz]
  rfl
 .rcases jV.mp hq with hq | hq
  .exact h.ok q hq
  .obtain rfl:=je.mp hq
   exact ⟨ht.1,hz⟩
 .rcases jV.mp hq with hq | hq
  .obtain ⟨j,hj,e⟩:=h.dn q hq
   exact ⟨j,by omega,e⟩
  .obtain rfl:=je.mp hq
   refine ⟨n,by omega,rfl,λx hx=>?_⟩
   obtain ⟨i,hi,e⟩:=jW.mp (ht.2 x hx)
   exact ⟨i,p9.mp hi,e.symm⟩
theorem Ih(l:List Int)(hl:l.length<=1000)(n k c:Int)(hn:0<n){x0:D}{x1 x3 x5 x7:Sl}(h0:pP [x0,.int 0]=some (.sh (.int c))):∃ys:List Int,ah bb (gS (iY tE (ae (cV (bV 4)) aa)) [4,2,6] 1 (gN 0) (bT (ah bK (ah ej (eV 0) (eV 2)) (eV 3))) (cW (bV 1) (eV 0))) (b9 (ae (ah bb (bh 2 pP (ae (eV 0) (ae (eC (.int 0)) aa))) (eV 6)) aa)) [.sh x0,x1,.sh (.int n),x3,.sh (.lst false (l.map D.int)),x5,.sh (.int k),x7]=some (.ow ((ys++[c+k]).map D.int))/\ys.length<=1000:=by
 obtain ⟨ys,e1,e2,e3⟩:=Zc (λk:Nat=>D.int (0+(k:Int))) (λd=>∃i:Int,d=.int i) (λe=>∃y,e=[y,.sh (.lst false (l.map D.int)),.sh (.int n),.sh (.int k)]) (g:=gN 0) (fc:=bT (ah bK (ah ej (eV 0) (eV 2)) (eV 3))) (fe:=cW (bV 1) (eV 0)) (fx l.length) (λj hj e he=>by
  obtain ⟨y,rfl⟩:=he
  have hj:=p9.mp hj
  rw [b0i]
  refine ⟨by simp,⟨_,rfl⟩,?_⟩
  simp only [zv]
  walk_at "o1"
  refine ⟨by omega,λ_=>?_⟩
  rw [E9 0 (by omega) (by omega)]
  walk_at "o1"
  exact ⟨_,rfl⟩) (e:=[.no,.sh (.lst false (l.map D.int)),.sh (.int n),.sh (.int k)]) ⟨_,rfl⟩
 obtain ⟨zs,rfl⟩:=YL ys e3
 rw [bY,wg] at e2
 refine ⟨zs,Wo.eq ?_,by omega⟩
 rw [a9D]
 walk_at "o1"
 refine ⟨by unfold eD;simp;omega,?_⟩
 rw [show eD 0 (↑(uz D.int l).length:Int).toNat=uz (λk:Nat=>D.int (0+(k:Int))) (fx l.length) by unfold eD;simp,e1]
 walk_at "o1"
 rw [h0]
 walk_at "o1"
 refine ⟨by rw [bY];omega,?_⟩
 rw [nz]
 rfl
theorem b8G(ns:List Int)(hl:ns.length<=63){r:Bool}:∃a b m n,∃L M:List (Str×Tr),Du [.lst r (ns.map D.int)]=some (.ow (M.map Pd))/\Bg a b m n L/\M.Perm L/\(1<=n/\n<=4)/\((∀c∈lt a,Qx c)/\a.length<=3)/\((∀c∈lt b,Qx c)/\b.length<=4):=by
 have key:Wo (Du [.lst r (ns.map D.int)]) λs=>∃a b m n,∃L M:List (Str×Tr),s=.ow (M.map Pd)/\Bg a b m n L/\M.Perm L/\(1<=n/\n<=4)/\((∀c∈lt a,Qx c)/\a.length<=3)/\((∀c∈lt b,Qx c)/\b.length<=4):=by
  have h0:=yk ns 0 (by decide) (r:=r)
  have h1:=yk ns 1 (by decide) (r:=r)
  generalize ns.getD (0:Int).toNat 0=c0 at *
  generalize ns.getD (1:Int).toNat 0=c1 at *
  refine rH.mpr ?_
  unfold TK
  rw [Wo_seq]
  walk_at "o1"
  rw [h0]
  walk_at "o1"
  refine ⟨by walk_at "sc",by walk_at "sc",Yv [9,10^6,10^38] (by omega) (by simp;omega) (λsc qJ=>?_)⟩
  have hs:1<=sc/\sc<=10^38:=by
   simp only [cL,sX,or_false] at qJ
   rcases qJ with rfl | rfl | rfl<;>decide
  refine ⟨by walk_at "sc",?_⟩
  have hn:1<=1+c0/3%4/\1+c0/3%4<=4:=by omega
  generalize 1+c0/3%4=n at *
  obtain ⟨a,b,m,ew,ha,hb⟩:=b6b c1 n hn
  obtain ⟨l,ef,Pf⟩:=b3i ns hl (3*n) (by omega) (by omega) (r:=r)
  rw [h1]
  walk_at "o1"
  rw [ew]
  walk_at "o1"
  refine ⟨.inl (by omega),?_⟩
  rw [ef]
  walk_at "o1"
  refine ⟨by unfold R62;omega,?_⟩
  refine SM 0 n.toNat (λk env=>∃x6 x7,∃L:List (Str×Tr),env=[.sh (.lst r (ns.map D.int)),.sh (.int sc),.sh (.int n),.sh (.lst false (((fx n.toNat).map λk=>Wd a b m k).map D.str)),.sh (.lst false (l.map D.int)),.ow (L.map Pd),x6,x7]/\Bg a b m k L) (λk env hk h=>?_) (λenv h=>?_) ⟨_,_,[],rfl,⟨rfl,λ_ z=>(nomatch z),λ_ z=>(nomatch z)⟩⟩
  .obtain ⟨x6,x7,L,rfl,hB⟩:=h
   obtain ⟨ys,ey,hy⟩:=Ih l Pf n (0+(k:Int)) c0 (by omega) (x0:=.lst r (ns.map D.int)) (x1:=.sh (.int sc)) (x3:=.sh (.lst false (((fx n.toNat).map λk=>Wd a b m k).map D.str))) (x5:=.ow (L.map Pd)) (x7:=x7) h0
   rw [b0i]
   refine ⟨by simp,?_⟩
   simp only [C5,zv]
   rw [Wo_seq,a2E,ey,a0e]
   refine ⟨by simp,?_⟩
   simp only [C5,zv,a2l,Sl.d]
   walk_at "o1"
   have hLl:L.length=k:=by
    have:=congrArg CN hB.ks
    simpa using this
   have hat:L2.fq (uz D.str (uz (λk=>Wd a b m k) (fx n.toNat))) (k:Int)=some (.str (Wd a b m k)):=by
    rw [DL.jX,mB,mB,Wf (by omega)]
    rfl
   rw [MA,MA,show (3:Int)=((3:Nat):Int) from rfl,Ss,show (0:Int)+(k:Int)=((k:Nat):Int) by omega,Ss,hat]
   walk_at "o1"
   have htk:List.take k (uz (λk=>Wd a b m k) (fx n.toNat))=(fx k).map λk=>Wd a b m k:=by
    rw [<-List.map_take,List.take_range,Lp (by omega)]
   rw [htk]
   obtain ⟨t,et,ht,hz⟩:=b8D (List.take 3 (ys++[c0+(k:Int)])) ⟨by simp;omega,by simp;omega⟩ sc hs ((fx k).map λk=>Wd a b m k) (by simp;omega) (λx hx=>by
    obtain ⟨i,_,rfl⟩:=jW.mp hx
    have:=(W0 (m:=m) (k:=i) ha hb).1.2
    omega) (r:=false) (r2:=false)
   rw [et]
   walk_at "o1"
   refine ⟨by rw [bY];omega,_,_,L++[(Wd a b m k,t)],by rw [nz (f:=Pd)];rfl,hB.add ht hz⟩
  .obtain ⟨x6,x7,L,rfl,hB⟩:=h
   rw [a2l]
   by_cases hr:c0/12%2=1
   .refine EK (Wo.eq (by walk_at "o1";rw [h0];walk_at "o1";exact ⟨by walk_at "sc",by simp [hr]⟩)) ?_
    rw [b6x]
    walk_at "o1"
    exact ⟨a,b,m,n.toNat,L,L.reverse,by rw [List.map_reverse],hB,List.reverse_perm L,⟨by omega,by omega⟩,ha,hb⟩
   .refine a0X (Wo.eq (by walk_at "o1";rw [h0];walk_at "o1";exact ⟨by walk_at "sc",by simp [hr]⟩)) ?_
    walk_at "o1"
    exact ⟨a,b,m,n.toNat,L,L,rfl,hB,CV L,⟨by omega,by omega⟩,ha,hb⟩
 obtain ⟨x,e,a,b,m,n,L,M,rfl,h⟩:=key
 exact ⟨a,b,m,n,L,M,e,h⟩
theorem Yx{f:En->Option Str}{env:En}{y:Str}(h:f env=some y)(hl:y.length<=16777216):oI f env=some (.sh (.str y)):=by
 unfold oI
 rw [h]
 show (if y.length<=16777216 then some (Sl.sh (.str y)) else none)=_
 rw [if_pos hl]
theorem JA{α:Type}{p:α->Prop}:∀{l:List α},(∃x∈l,¬p x)->∃pre y post,l=pre++y::post/\(∀x∈pre,p x)/\¬p y
 | [],h=>by obtain ⟨_,z,_⟩:=h;cases z
 | a::l,h=>by
  by_cases ha:p a
  .obtain ⟨pre,y,post,e,h1,h2⟩:=JA (p:=p) (l:=l) (by
    obtain ⟨x,hx,hn⟩:=h
    rcases cL.mp hx with rfl | hx
    .exact (hn ha).elim
    .exact ⟨x,hx,hn⟩)
   exact ⟨a::pre,y,post,by rw [e];rfl,λx hx=>(cL.mp hx).elim (λz=>z▸ha) (h1 x),h2⟩
  .exact ⟨[],a,l,rfl,λ_ z=>(nomatch z),ha⟩
section
variable {α:Type}{enc:α->D}{I:En->Prop}{g:GF}{F:SF}{r:RF}{nm:Str}
def Ps(I:En->Prop)(g:GF)(F:SF)(r:RF)(d:D):Prop:=∀e,I e->∃e1,g d e=some e1/\r e1=none/\∃e2,F e1=some (.nx,e2)/\I e2
theorem Jd:∀{xs:List α},(∀a∈xs,Ps I g F r (enc a))->∀{e:En},I e->yH g F r (xs.map enc) e=none/\∃e',forL g F (xs.map enc) e=some (.nx,e')/\I e'
 | [],_,e,he=>⟨rfl,e,rfl,he⟩
 | a::xs,h,e,he=>by
  obtain ⟨e1,g1,r1,e2,f1,i2⟩:=h a gi e he
  obtain ⟨h1,e',h2,h3⟩:=Jd (xs:=xs) (λa ha=>h a (gn _ ha)) i2
  refine ⟨?_,e',?_,h3⟩
  .rw [fE,yH,g1]
   dsimp only
   rw [r1]
   dsimp only
   rw [f1]
   exact h1
  .rw [fE,forL,g1]
   dsimp only
   rw [f1]
   exact h2
theorem Je{y:α}{post:List α}(hy:∀e,I e->∃e1 e2,g (enc y) e=some e1/\r e1=some (nm,e2)/\F e1=none):∀{pre:List α},(∀a∈pre,Ps I g F r (enc a))->∀{e:En},I e->(∃e2,yH g F r ((pre++y::post).map enc) e=some (nm,e2))/\forL g F ((pre++y::post).map enc) e=none
 | [],_,e,he=>by
  obtain ⟨e1,e2,g1,r1,f1⟩:=hy e he
  refine ⟨⟨e2,?_⟩,?_⟩
  .rw [List.nil_append,fE,yH,g1]
   dsimp only
   rw [r1]
  .rw [List.nil_append,fE,forL,g1]
   dsimp only
   rw [f1]
 | a::pre,h,e,he=>by
  obtain ⟨e1,g1,r1,e2,f1,i2⟩:=h a gi e he
  obtain ⟨⟨e3,h1⟩,h2⟩:=Je hy (pre:=pre) (λa ha=>h a (gn _ ha)) i2
  refine ⟨⟨e3,?_⟩,?_⟩
  .rw [Eb,fE,yH,g1]
   dsimp only
   rw [r1]
   dsimp only
   rw [f1]
   exact h1
  .rw [Eb,fE,forL,g1]
   dsimp only
   rw [f1]
   exact h2
end
theorem runN{G:SF}{N:Nat}{ds:List D}(h:G (iS N ds)=none):cf G N ds=none:=by unfold cf;rw [h]
theorem w8{F G:SF}{env:En}(h:F env=none):aD F G env=none:=by unfold aD;rw [h]
theorem B4{F G:SF}{env e1:En}(h:F env=some (.nx,e1)):aD F G env=G e1:=by unfold aD;rw [h]
theorem Hc{c:En->Option Bool}{F G:SF}{env:En}(h:c env=some true):cz c F G env=F env:=by unfold cz;rw [h]
theorem OW{c:En->Option Bool}{F G:SF}{env:En}(h:c env=some false):cz c F G env=G env:=by unfold cz;rw [h]
theorem Vh{r r':RF}{F:SF}{env:En}{x:Str×En}(h:r env=some x):oZ r F r' env=some x:=by unfold oZ;rw [h]
theorem Ky{r r':RF}{F:SF}{env e1:En}(h:r env=none)(h2:F env=some (.nx,e1)):oZ r F r' env=r' e1:=by
 unfold oZ
 rw [h]
 dsimp only
 rw [h2]
theorem rT{c:En->Option Bool}{r r':RF}{env:En}(h:c env=some true):pZ c r r' env=r env:=by unfold pZ;rw [h]
theorem rF{c:En->Option Bool}{r r':RF}{env:En}(h:c env=some false):pZ c r r' env=r' env:=by unfold pZ;rw [h]
theorem xN{R:RF}{N:Nat}{ds:List D}(h:R (iS N ds)=none):lR R N ds=none:=by unfold lR;rw [h];rfl
theorem xS{R:RF}{N:Nat}{ds:List D}{nm:Str}{e:En}(h:R (iS N ds)=some (nm,e)):lR R N ds=some nm:=by unfold lR;rw [h];rfl
theorem G2{n:Int}(h:n<=30):JY [.int n]=none:=by
 have hc:bT (ah yb (eV 0) (eC (.int 30))) [.sh (.int n)]=some false:=by
  show some (decide (n>30))=_
  rw [decide_eq_false (by omega)]
 exact xN (rF hc)
theorem m_x{n:Int}(h:30<n):JY [.int n]=some ("TooMany":Str)/\A4 [.int n]=none:=by
 have hc:bT (ah yb (eV 0) (eC (.int 30))) [.sh (.int n)]=some true:=by
  show some (decide (n>30))=_
  rw [decide_eq_true (by omega)]
 exact ⟨xS (e:=[.sh (.int n)]) ((rT hc).trans (by kernel_rfl)),runN (Hc hc)⟩
noncomputable def oC:List Str:=["","each","Ab","a b","abcdefghi","p1","roomy"]
theorem XG:∀b∈oC,mW [.str b]=some (.sh (.bl false)):=by
 have h:oC.map (λb=>mW [.str b])=oC.map λ_=>some (.sh (.bl false)):=by kernel_rfl
 exact λb hb=>List.map_inj_left.mp h b hb
theorem IZ:∀b∈oC,((oi "BadName" (ae (oI (gk (mQ (eV 1)) (gk (eC (.str " is no name")) gY))) aa)) [.no,.sh (.str b)]).isSome=true:=by
 have h:oC.map (λb=>((oi "BadName" (ae (oI (gk (mQ (eV 1)) (gk (eC (.str " is no name")) gY))) aa)) [.no,.sh (.str b)]).isSome)=oC.map λ_=>true:=by kernel_rfl
 exact λb hb=>List.map_inj_left.mp h b hb
theorem GP{d:D}{y:Str}(h:Nm y):n9 (ie (bh 1 mW (ae (eV 1) aa))) [.sh d,.sh (.str y)]=some false:=by
 have e:bh 1 mW (ae (eV 1) aa) [.sh d,.sh (.str y)]=some (.sh (.bl true)):=Ir (s:=.sh (.str y)) rfl (S3 h)
 unfold n9 ie
 rw [e]
 rfl
theorem GQ{d:D}{y:Str}(h:y∈oC):n9 (ie (bh 1 mW (ae (eV 1) aa))) [.sh d,.sh (.str y)]=some true:=by
 have e:bh 1 mW (ae (eV 1) aa) [.sh d,.sh (.str y)]=some (.sh (.bl false)):=Ir (s:=.sh (.str y)) rfl (XG y h)
 unfold n9 ie
 rw [e]
 rfl
def Uu(d:D)(e:En):Prop:=∃x,e=[.sh d,x]
theorem Xu{d:D}{y:Str}(h:Nm y):Ps (Uu d) (gN 1) (cz (n9 (ie (bh 1 mW (ae (eV 1) aa)))) oj de) (pZ (n9 (ie (bh 1 mW (ae (eV 1) aa)))) (oi "BadName" (ae (oI (gk (mQ (eV 1)) (gk (eC (.str " is no name")) gY))) aa)) pY) (.str y):=by
 rintro _ ⟨x,rfl⟩
 exact ⟨_,rfl,rF (GP h),_,OW (GP h),_,rfl⟩
theorem GZ{ks:List Str}(hn:∀x∈ks,Nm x\/x∈oC)(hb:∃x∈ks,¬Nm x){b:Bool}:BQ [.lst b (ks.map D.str)]=some ("BadName":Str)/\yM [.lst b (ks.map D.str)]=none:=by
 obtain ⟨pre,y,post,rfl,h1,h2⟩:=JA hb
 have hy:y∈oC:=(hn y (by simp)).elim (λz=>(h2 z).elim) id
 have k:=Je (enc:=D.str) (I:=Uu (.lst b ((pre++y::post).map D.str))) (nm:=("BadName":Str)) (post:=post) (y:=y) (g:=gN 1) (F:=cz (n9 (ie (bh 1 mW (ae (eV 1) aa)))) oj de) (r:=pZ (n9 (ie (bh 1 mW (ae (eV 1) aa)))) (oi "BadName" (ae (oI (gk (mQ (eV 1)) (gk (eC (.str " is no name")) gY))) aa)) pY) (by
  rintro _ ⟨x,rfl⟩
  have hr:=IZ y hy
  obtain ⟨⟨n0,e0⟩,hr⟩:=LA.mp hr
  have e1:oi "BadName" (ae (oI (gk (mQ (eV 1)) (gk (eC (.str " is no name")) gY))) aa) [.sh (.lst b ((pre++y::post).map D.str)),.sh (.str y)]=some (("BadName":Str),[.sh (.lst b ((pre++y::post).map D.str)),.sh (.str y)]):=by
   have:ae (oI (gk (mQ (eV 1)) (gk (eC (.str " is no name")) gY))) aa [.sh (.lst b ((pre++y::post).map D.str)),.sh (.str y)]=ae (oI (gk (mQ (eV 1)) (gk (eC (.str " is no name")) gY))) aa [.no,.sh (.str y)]:=rfl
   unfold oi at hr ⊢
   rw [this]
   obtain ⟨ds,a1,a2⟩:=bind_some hr
   obtain ⟨a3,_⟩:=zC a2
   rw [a1]
   show (if ds.length<=16777216 then _ else _)=_
   rw [if_pos a3]
  exact ⟨_,_,rfl,(rT (GQ hy)).trans e1,Hc (GQ hy)⟩) (pre:=pre) (λa ha=>Xu (h1 a ha)) (e:=[.sh (.lst b ((pre++y::post).map D.str)),.no]) ⟨_,rfl⟩
 obtain ⟨⟨e2,k1⟩,k2⟩:=k
 exact ⟨xS (Vh k1),runN (w8 k2)⟩
theorem X5{ks:List Str}(hn:∀x∈ks,Nm x){b:Bool}:∃x,tD (fw (eV 0)) (gN 1) (cz (n9 (ie (bh 1 mW (ae (eV 1) aa)))) oj de) (pZ (n9 (ie (bh 1 mW (ae (eV 1) aa)))) (oi "BadName" (ae (oI (gk (mQ (eV 1)) (gk (eC (.str " is no name")) gY))) aa)) pY) [.sh (.lst b (ks.map D.str)),.no]=none/\jh (eV 0) (gN 1) (cz (n9 (ie (bh 1 mW (ae (eV 1) aa)))) oj de) [.sh (.lst b (ks.map D.str)),.no]=some (.nx,[.sh (.lst b (ks.map D.str)),x]):=by
 obtain ⟨k1,e',k2,x,rfl⟩:=Jd (enc:=D.str) (I:=Uu (.lst b (ks.map D.str))) (λa ha=>Xu (hn a ha)) (e:=[.sh (.lst b (ks.map D.str)),.no]) ⟨_,rfl⟩
 exact ⟨x,k1,k2⟩
theorem XI:∀{l:List Str},¬l.Nodup->∃pre x post,l=pre++x::post/\x∈post
 | [],h=>(h List.nodup_nil).elim
 | a::l,h=>by
  by_cases ha:a∈l
  .exact ⟨[],a,l,rfl,ha⟩
  .obtain ⟨pre,x,post,e,hx⟩:=XI (l:=l) λz=>h (yt.mpr ⟨ha,z⟩)
   exact ⟨a::pre,x,post,by rw [e];rfl,hx⟩
theorem b7m(ss:List Str):(SE.lC SE.lX ss).Nodup:=(SE.jE SE.eS ss).imp λ{a b} h e=>by
 subst e
 have h:=(SE.eS.Bn a).symm.trans h
 cases h
theorem GY{ks:List Str}{b:Bool}{x:Sl}(hl:ks.length<=1000):bT (ah vL (Dp (eV 0)) (cV (bV 0))) [.sh (.lst b (ks.map D.str)),x]=some (decide (¬ks.Nodup)):=by
 have e:Dp (eV 0) [.sh (.lst b (ks.map D.str)),x]=some (.sh (.int (SE.lC SE.lX ks).length)):=by
  show ((rm (ks.map D.str)).bind λss=>if ss.length+1<4096 then some (Sl.sh (.int (SE.lC SE.lX ss).length)) else none)=_
  rw [strs_map]
  show (if ks.length+1<4096 then _ else none)=_
  rw [if_pos (by omega)]
 unfold bT ah
 rw [e]
 show some (decide (((SE.lC SE.lX ks).length:Int)<(((ks.map D.str).length:Nat):Int)))=_
 rw [bY]
 congr 1
 rw [decide_eq_decide]
 constructor
 .intro z h
  rw [Rq h λx=>hU] at z
  omega
 .intro h
  obtain ⟨pre,y,post,rfl,hy⟩:=XI h
  have:=SE.sf (b7m (pre++y::post)) (ns:=pre++post) (λz hz=>by
   rw [SE.iK SE.eS] at hz
   rcases jV.mp hz with hz | hz
   .exact mC _ hz
   .rcases cL.mp hz with rfl | hz
    .exact mD _ hy
    .exact mD _ hz)
  simp only [fD,gq] at this ⊢
  omega
theorem b5t{ks:List Str}(hn:∀x∈ks,Nm x)(nd:¬ks.Nodup)(hl:ks.length<=1000){b:Bool}:BQ [.lst b (ks.map D.str)]=some ("Twice":Str)/\yM [.lst b (ks.map D.str)]=none:=by
 obtain ⟨x,k1,k2⟩:=X5 hn (b:=b)
 have h:=GY (b:=b) (x:=x) hl
 rw [decide_eq_true nd] at h
 exact ⟨xS (e:=[.sh (.lst b (ks.map D.str)),x]) ((Ky k1 k2).trans ((rT h).trans rfl)),runN ((B4 k2).trans (Hc h))⟩
theorem OG{ks:List Str}(hn:∀x∈ks,Nm x)(nd:ks.Nodup)(hl:ks.length<=1000){b:Bool}:BQ [.lst b (ks.map D.str)]=none:=by
 obtain ⟨x,k1,k2⟩:=X5 hn (b:=b)
 have h:=GY (b:=b) (x:=x) hl
 rw [decide_eq_false (λz=>z nd)] at h
 exact xN ((Ky k1 k2).trans (rF h))
structure Bx(L:List (Str×Tr)):Prop where
 nd:(L.map (·.1)).Nodup
 ok:∀q∈L,q.2.sz<6
 uc:∀q∈L,∀x∈q.2.ns,x∈L.map (·.1)
 V1:L.length<=30
theorem XT{L:List (Str×Tr)}(nd:(L.map (·.1)).Nodup){x:Str}{t u:Tr}(h:(x,t)∈L)(g:(x,u)∈L):t=u:=by
 induction L with
 | nil=>cases h
 | cons q L ih =>
  rw [fE,yt] at nd
  rcases cL.mp h with h | h<;>rcases cL.mp g with g | g
  .rw [<-h] at g;cases g;rfl
  .rw [<-h] at nd;exact (nd.1 (jW.mpr ⟨_,g,rfl⟩)).elim
  .rw [<-g] at nd;exact (nd.1 (jW.mpr ⟨_,h,rfl⟩)).elim
  .exact ih nd.2 h g
theorem Sw{L:List (Str×Tr)}(B:Bx L){k:Str}{t:Tr}(ht:(k,t)∈L):Wo (qe [.bw (bx L) (cM L),.str k]) λx=>∃ks ds,x=.tw ks ds/\ks.length=ds.length/\(∀y∈t.ns,y∈ks)/\(∀y u,y∈ks->(y,u)∈L->∀z∈u.ns,z∈ks)/\∀S:Str->Prop,(∀y∈t.ns,S y)->(∀y u,S y->(y,u)∈L->∀z∈u.ns,S z)->∀y∈ks,S y:=by
 refine mx.mpr ?_
 unfold T8
 have hk:k∈bx L:=jW.mpr ⟨_,ht,rfl⟩
 obtain ⟨t',Ck,hl⟩:=Rp L k hk
 obtain rfl:=XT B.nd ht Ck
 walk_at "o1"
 rw [XF]
 walk_at "o1"
 refine ⟨k,rfl,?_⟩
 walk_at "o1"
 rw [hl]
 walk_at "o1"
 rw [Su t (B.ok _ ht)]
 walk_at "o1"
 rw [Zp]
 have Vu:∀x t,(x,t)∈L->(xI t).length<=1000:=λx t h=>by
  have h1:=Yd t.ns
  have h2:=RY t
  have h3:=B.ok _ h
  unfold xI
  dsimp only at h3
  omega
 refine MS (λn env=>∃ks ds w x4,env=[.sh (.bw (bx L) (cM L)),.sh (.str k),.tw ks ds,.ow (uz D.str w),x4]/\ks.length=ds.length/\(∀y∈w,y∈bx L)/\((∀y∈t.ns,y∈ks\/y∈w)/\(∀y u,y∈ks->(y,u)∈L->∀z∈u.ns,z∈ks\/z∈w)/\∀S:Str->Prop,(∀y∈t.ns,S y)->(∀y u,S y->(y,u)∈L->∀z∈u.ns,S z)->∀y,y∈ks\/y∈w->S y)/\w.length+1001*((bx L).countP λy=>decide (y∉ks))<=n/\(ks.length+((bx L).countP λy=>decide (y∉ks))<=30/\n<=40000)) (λn env h=>?_) 1000000 (1000+1001*30) (by decide) ?_
 .obtain ⟨ks,ds,w,x4,rfl,hlen,hw,⟨xX,uf,hS⟩,hn,hc,hb4⟩:=h
  walk_at "o1"
  refine ⟨λhb=>?_,λhb=>?_⟩
  .rcases LF w with rfl | ⟨w,y,rfl⟩
   .cases hb
   rw [LD] at *
   have hy:=hw y (by simp)
   rw [fD,yv] at hn
   rw [show (uz D.str (w++[y]))[(uz D.str (w++[y])).length-1]?=some (.str y) by simp,a0e]
   refine ⟨by decide,?_⟩
   rw [show (uz D.str (w++[y])).dropLast=w.map D.str by simp]
   rw [a39,a9B,b3I rfl]
   walk_at "o1"
   refine ⟨y,rfl,?_⟩
   refine ⟨λHr=>?_,λHr=>?_⟩
   .have VC:y∉ks:=λz=>by
     rw [(Ds ks ds y hlen).mpr z] at Hr
     cases Hr
    obtain ⟨t',Ck,nV⟩:=Rp L y hy
    rw [b81 rfl]
    walk_at "o1"
    refine ⟨y,rfl,by omega,?_⟩
    rw [XF]
    walk_at "o1"
    refine ⟨y,rfl,?_⟩
    walk_at "o1"
    rw [nV]
    walk_at "o1"
    rw [Su t' (B.ok _ Ck)]
    walk_at "o1"
    have hnb:=Vu _ _ Ck
    have xU:yG ks y=ks++[y]:=by unfold yG;rw [if_neg VC]
    have fu:((bx L).countP λz=>decide (z∉ks++[y]))<((bx L).countP λz=>decide (z∉ks)):=SE.qY _ (λx _ hx=>by
     simp only [jV,je,not_or,decide_eq_true_eq] at hx ⊢
     exact hx.1) ⟨y,hy,by simpa using VC,by simp⟩
    refine ⟨by rw [bY,bY];omega,_,?_,yG ks y,uK ks ds y (.bl true),w++xI t',.sh (.str y),by rw [nz],b71 hlen _ _,?_,⟨?_,?_,?_⟩,cw _,?_⟩
    .rw [xU,fD]
     omega
    .intro z hz
     rcases jV.mp hz with hz | hz
     .exact hw z (mC _ hz)
     .rw [A0] at hz
      exact B.uc _ Ck z hz
    .intro z hz
     rw [xU]
     rcases xX z hz with h | h
     .exact .inl (mC _ h)
     .rcases jV.mp h with h | h
      .exact .inr (mC _ h)
      .exact .inl (mD _ h)
    .intro x u hx hu z hz
     rw [xU] at hx ⊢
     rcases jV.mp hx with hx | hx
     .rcases uf x u hx hu z hz with h | h
      .exact .inl (mC _ h)
      .rcases jV.mp h with h | h
       .exact .inr (mC _ h)
       .exact .inl (mD _ h)
     .obtain rfl:=je.mp hx
      obtain rfl:=XT B.nd Ck hu
      exact .inr (mD _ ((A0 _ _).mpr hz))
    .intro S h1 h2 z hz
     have h0:=hS S h1 h2
     rw [xU] at hz
     rcases hz with hz | hz
     .rcases jV.mp hz with hz | hz
      .exact h0 z (.inl hz)
      .exact h0 z (.inr (mD _ hz))
     .rcases jV.mp hz with hz | hz
      .exact h0 z (.inr (mC _ hz))
      .exact h2 y t' (h0 y (.inr (by simp))) Ck z ((A0 _ _).mp hz)
    .rw [xU,fD,yv,fD]
     omega
   .have hyk:y∈ks:=(Ds ks ds y hlen).mp (by cases hz:(iQ ks ds y).isSome with | true=>rfl | false=>rw [hz] at Hr;cases Hr)
    have mv:∀z,z∈ks\/z∈w++[y]->z∈ks\/z∈w:=λz h=>h.elim .inl λh=>(jV.mp h).elim .inr λh=>.inl (by rw [je.mp h];exact hyk)
    exact ⟨_,by omega,ks,ds,w,_,rfl,hlen,λz hz=>hw z (mC _ hz),⟨λz hz=>mv z (xX z hz),λx u hx hu z hz=>mv z (uf x u hx hu z hz),λS h1 h2 z hz=>hS S h1 h2 z (hz.imp id (mC _))⟩,cw _,hc,by omega⟩
  .simp only [b6g,b1R]
   have hw0:w=[]:=by
    cases w with
    | nil=>rfl
    | cons a w=>cases hb
   subst hw0
   exact ⟨ks,ds,rfl,hlen,λy hy=>(xX y hy).elim id λz=>(nomatch z),λy u hy hu z hz=>(uf y u hy hu z hz).elim id λz=>(nomatch z),λS h1 h2 y hy=>hS S h1 h2 y (.inl hy)⟩
 .have h0:((bx L).countP λy=>decide (y∉([]:List Str)))<=30:=pE WN (by unfold bx;rw [bY];exact B.V1)
  refine ⟨[],[],xI t,_,rfl,rfl,λy hy=>?_,⟨λy hy=>.inr ((A0 _ _).mpr hy),λy u hy=>(nomatch hy),λS h1 _ y hy=>hy.elim (λz=>(nomatch z)) λz=>h1 y ((A0 _ _).mp z)⟩,?_,by simpa using h0,by decide⟩
  .rw [A0] at hy
   exact B.uc _ ht y hy
  .have:=Vu _ _ ht
   omega
def FD(L:List (Str×Tr))(e:En):Prop:=∃x1 x2,e=[.sh (.bw (bx L) (cM L)),x1,x2]
def Ut(L:List (Str×Tr))(o:D)(e:En):Prop:=∃x2,e=[.sh (.bw (bx L) (cM L)),.sh o,x2]
theorem X0(L:List (Str×Tr)):(bx L).length=(cM L).length:=by unfold bx cM;rw [bY,bY]
theorem tn{L:List (Str×Tr)}{x:Str}{x1:Sl}:bT (gM true (eV 2) (eV 0)) [.sh (.bw (bx L) (cM L)),x1,.sh (.str x)]=some (decide (x∉bx L)):=by
 refine Wo.eq ?_
 rw [a9B,Yu]
 walk_at "o1"
 refine ⟨x,rfl,?_⟩
 by_cases h:x∈bx L
 .rw [(Ds _ _ x (X0 L)).mpr h,decide_eq_false (λz=>z h)]
  rfl
 .rw [decide_eq_true h,show (iQ (bx L) (cM L) x).isSome=false from by
   cases z:(iQ (bx L) (cM L) x).isSome with
   | false=>rfl
   | true=>exact (h ((Ds _ _ x (X0 L)).mp z)).elim]
  rfl
theorem b43{nm x:Str}{env:En}{i:Nat}{a b:Str}(ha:a.length<=1000)(hb:b.length<=1000)(hx:x.length<=1000)(e:env[i]?=some (.sh (.str x))):oi nm (ae (oI (gk (eC (.str a)) (gk (uk (eV i)) (gk (eC (.str b)) gY)))) aa) env=some (nm,env):=by
 have e1:uk (eV i) env=some (.sh (.str x)):=by
  unfold uk eV
  rw [e]
  show (if x.length<=16777216 then some (Sl.sh (.str x)) else none)=_
  rw [if_pos (by omega)]
 have e2:gk (eC (.str a)) (gk (uk (eV i)) (gk (eC (.str b)) gY)) env=some (a++(x++(b++AJ))):=by
  unfold gk
  rw [e1]
  rfl
 have e3:=Yx e2 (by
  rw [Bw,Bw,Bw]
  have h2:AJ.length=0:=by decide +kernel
  omega)
 unfold oi ae
 rw [e3]
 rfl
theorem b2x{nm x:Str}{env:En}{i:Nat}{a:Str}(ha:a.length<=1000)(hx:x.length<=1000)(e:env[i]?=some (.sh (.str x))):oi nm (ae (oI (gk (eC (.str a)) (gk (uk (eV i)) gY))) aa) env=some (nm,env):=by
 have e1:uk (eV i) env=some (.sh (.str x)):=by
  unfold uk eV
  rw [e]
  show (if x.length<=16777216 then some (Sl.sh (.str x)) else none)=_
  rw [if_pos (by omega)]
 have e2:gk (eC (.str a)) (gk (uk (eV i)) gY) env=some (a++(x++AJ)):=by
  unfold gk
  rw [e1]
  rfl
 have e3:=Yx e2 (by
  rw [Bw,Bw]
  have h2:AJ.length=0:=by decide +kernel
  omega)
 unfold oi ae
 rw [e3]
 rfl
noncomputable abbrev FG:SF:=cz (bT (gM true (eV 2) (eV 0))) oj de
noncomputable abbrev M9:RF:=pZ (bT (gM true (eV 2) (eV 0))) (oi "NoOffer" (ae (oI (gk (eC (.str "no offer is called ")) (gk (uk (eV 2)) gY))) aa)) pY
noncomputable abbrev Kl:SF:=jh (pK "names" 1 uO (eV 1) aa) (gN 2) FG
noncomputable abbrev M8:RF:=tD (fw (pK "names" 1 uO (eV 1) aa)) (gN 2) FG M9
theorem W6{L:List (Str×Tr)}{o:D}{x:Str}(h:x∈bx L):Ps (Ut L o) (gN 2) FG M9 (.str x):=by
 rintro _ ⟨x2,rfl⟩
 have t:=tn (L:=L) (x:=x) (x1:=.sh o)
 rw [decide_eq_false (λz=>z h)] at t
 exact ⟨_,rfl,rF t,_,OW t,_,rfl⟩
theorem GR{L:List (Str×Tr)}{t:Tr}(hz:t.sz<6){x2:Sl}:pK "names" 1 uO (eV 1) aa [.sh (.bw (bx L) (cM L)),.sh t.o,x2]=some (.ow ((xI t).map D.str)):=Su t hz
theorem W4{L:List (Str×Tr)}{t:Tr}(hz:t.sz<6){x2:Sl}:Kl [.sh (.bw (bx L) (cM L)),.sh t.o,x2]=forL (gN 2) FG ((xI t).map D.str) [.sh (.bw (bx L) (cM L)),.sh t.o,x2]:=by
 show jh _ _ _ _=_
 unfold jh
 rw [GR hz]
 rfl
theorem Xi{L:List (Str×Tr)}{t:Tr}(hz:t.sz<6){x2:Sl}:M8 [.sh (.bw (bx L) (cM L)),.sh t.o,x2]=yH (gN 2) FG M9 ((xI t).map D.str) [.sh (.bw (bx L) (cM L)),.sh t.o,x2]:=by
 show tD _ _ _ _ _=_
 unfold tD fw
 rw [GR hz]
 rfl
theorem Yk{L:List (Str×Tr)}{t:Tr}(hz:t.sz<6)(h:∀x∈t.ns,x∈bx L):Ps (FD L) (gN 1) Kl M8 t.o:=by
 rintro _ ⟨x1,x2,rfl⟩
 obtain ⟨k1,e',k2,x,rfl⟩:=Jd (enc:=D.str) (I:=Ut L t.o) (xs:=xI t) (λa ha=>W6 (h a ((A0 _ _).mp ha))) (e:=[.sh (.bw (bx L) (cM L)),.sh t.o,x2]) ⟨_,rfl⟩
 exact ⟨[.sh (.bw (bx L) (cM L)),.sh t.o,x2],rfl,(Xi hz).trans k1,_,(W4 hz).trans k2,_,_,rfl⟩
theorem vl{L:List (Str×Tr)}:AE (eV 0) [.sh (.bw (bx L) (cM L)),.no,.no]=some (L.map λq=>q.2.o):=Ia rfl
theorem ky{L:List (Str×Tr)}{x1 x2:Sl}:D0 (eV 0) [.sh (.bw (bx L) (cM L)),x1,x2]=some ((bx L).map D.str):=Ib rfl
theorem P7{L:List (Str×Tr)}(hz:∀q∈L,q.2.sz<6)(hl:∀q∈L,∀x∈q.2.ns,x.length<=1000)(h:∃q∈L,¬ ∀x∈q.2.ns,x∈bx L):zL [.bw (bx L) (cM L)]=some ("NoOffer":Str)/\zK [.bw (bx L) (cM L)]=none:=by
 obtain ⟨pre,q,post,e,h1,h2⟩:=JA h
 have hq:q∈L:=by rw [e];simp
 have hp:∀a∈pre,a∈L:=λa ha=>by rw [e];exact mC _ ha
 obtain ⟨p2,y,s2,e2,i1,i2⟩:=JA (p:=λx=>x∈bx L) (l:=xI q.2) (by
  refine Ri λz=>h2 λx hx=>Ri λw=>z ⟨x,(A0 _ _).mpr hx,w⟩)
 have hy:y.length<=1000:=hl q hq y ((A0 _ _).mp (by rw [e2];simp))
 have k:=Je (enc:=λq:Str×Tr=>q.2.o) (I:=FD L) (nm:=("NoOffer":Str)) (g:=gN 1) (F:=Kl) (r:=M8) (post:=post) (y:=q) (by
  rintro _ ⟨x1,x2,rfl⟩
  obtain ⟨⟨e3,m1⟩,m2⟩:=Je (enc:=D.str) (I:=Ut L q.2.o) (nm:=("NoOffer":Str)) (g:=gN 2) (F:=FG) (r:=M9) (post:=s2) (y:=y) (by
   rintro _ ⟨x2,rfl⟩
   have t:=tn (L:=L) (x:=y) (x1:=.sh q.2.o)
   rw [decide_eq_true i2] at t
   exact ⟨_,_,rfl,(rT t).trans (b2x (by decide +kernel) hy rfl),Hc t⟩) (pre:=p2) (λa ha=>W6 (i1 a ha)) (e:=[.sh (.bw (bx L) (cM L)),.sh q.2.o,x2]) ⟨_,rfl⟩
  rw [<-e2] at m1 m2
  exact ⟨[.sh (.bw (bx L) (cM L)),.sh q.2.o,x2],e3,rfl,(Xi (hz q hq)).trans m1,(W4 (hz q hq)).trans m2⟩) (pre:=pre) (λa ha=>Yk (hz a (hp a ha)) (h1 a ha)) (e:=[.sh (.bw (bx L) (cM L)),.no,.no]) ⟨_,_,rfl⟩
 rw [<-e] at k
 obtain ⟨⟨e2,k1⟩,k2⟩:=k
 refine ⟨xS (Vh (x:=(_,e2)) ?_),runN (w8 ?_)⟩
 .unfold tD
  rw [show iS 3 [.bw (bx L) (cM L)]=[.sh (.bw (bx L) (cM L)),.no,.no] from rfl,vl]
  exact k1
 .unfold wH
  rw [show iS 3 [.bw (bx L) (cM L)]=[.sh (.bw (bx L) (cM L)),.no,.no] from rfl,vl]
  exact k2
noncomputable abbrev FnK:SF:=cz (bT (gM false (eV 2) (bh 2 qe (ae (eV 0) (ae (eV 2) aa))))) oj de
noncomputable abbrev RnK:RF:=pZ (bT (gM false (eV 2) (bh 2 qe (ae (eV 0) (ae (eV 2) aa))))) (oi "Ring" (ae (oI (gk (eC (.str "the offer ")) (gk (uk (eV 2)) (gk (eC (.str " names itself")) gY)))) aa)) pY
theorem tk{L:List (Str×Tr)}{x:Str}{x1:Sl}{b:Bool}(h:Wo (qe [.bw (bx L) (cM L),.str x]) λr=>∃ks ds,r=.tw ks ds/\ks.length=ds.length/\(x∈ks↔b=true)):bT (gM false (eV 2) (bh 2 qe (ae (eV 0) (ae (eV 2) aa)))) [.sh (.bw (bx L) (cM L)),x1,.sh (.str x)]=some b:=by
 refine Wo.eq ?_
 rw [a9B,Yu]
 walk_at "o1"
 refine ⟨x,rfl,?_⟩
 refine h.mono λr hr=>?_
 obtain ⟨ks,ds,rfl,hl,hb⟩:=hr
 have:(iQ ks ds x).isSome=b:=by
  cases z:(iQ ks ds x).isSome with
  | true=>exact (hb.mp ((Ds ks ds x hl).mp z)).symm
  | false =>
   cases b with
   | false=>rfl
   | true =>
    have:=(Ds ks ds x hl).mpr (hb.mpr rfl)
    rw [z] at this
    cases this
 walk_at "o1"
 rw [this]
 cases b<;>rfl
theorem X6{L:List (Str×Tr)}(B:Bx L):∃x1 x2,tD (AE (eV 0)) (gN 1) Kl M8 [.sh (.bw (bx L) (cM L)),.no,.no]=none/\wH (AE (eV 0)) (gN 1) Kl [.sh (.bw (bx L) (cM L)),.no,.no]=some (.nx,[.sh (.bw (bx L) (cM L)),x1,x2]):=by
 obtain ⟨k1,e',k2,x1,x2,rfl⟩:=Jd (enc:=λq:Str×Tr=>q.2.o) (I:=FD L) (xs:=L) (λa ha=>Yk (B.ok a ha) (B.uc a ha)) (e:=[.sh (.bw (bx L) (cM L)),.no,.no]) ⟨_,_,rfl⟩
 refine ⟨x1,x2,?_,?_⟩
 .unfold tD
  rw [vl]
  exact k1
 .unfold wH
  rw [vl]
  exact k2
theorem Ip{L:List (Str×Tr)}{x:Str}(h:Wo (qe [.bw (bx L) (cM L),.str x]) λr=>∃ks ds,r=.tw ks ds/\ks.length=ds.length/\x∉ks):Ps (FD L) (gN 2) FnK RnK (.str x):=by
 rintro _ ⟨x1,x2,rfl⟩
 have t:=tk (L:=L) (x:=x) (x1:=x1) (b:=false) (h.mono λr ⟨ks,ds,e,l,n⟩=>⟨ks,ds,e,l,⟨λz=>(n z).elim,λz=>(nomatch z)⟩⟩)
 exact ⟨_,rfl,rF t,_,OW t,_,_,rfl⟩
theorem P6{L:List (Str×Tr)}(B:Bx L)(h:∀x∈bx L,Wo (qe [.bw (bx L) (cM L),.str x]) λr=>∃ks ds,r=.tw ks ds/\ks.length=ds.length/\x∉ks):zL [.bw (bx L) (cM L)]=none/\zK [.bw (bx L) (cM L)]=some (.sh .cj):=by
 obtain ⟨x1,x2,p1,p2⟩:=X6 B
 obtain ⟨k1,e',k2,y1,y2,rfl⟩:=Jd (enc:=D.str) (I:=FD L) (xs:=bx L) (λa ha=>Ip (h a ha)) (e:=[.sh (.bw (bx L) (cM L)),x1,x2]) ⟨_,_,rfl⟩
 refine ⟨xN ((Ky p1 p2).trans ?_),?_⟩
 .unfold tD
  rw [ky]
  exact k1
 .show cf _ 3 _=_
  unfold cf
  rw [show iS 3 [.bw (bx L) (cM L)]=[.sh (.bw (bx L) (cM L)),.no,.no] from rfl,show a4b [.sh (.bw (bx L) (cM L)),.no,.no]=some (.nx,[.sh (.bw (bx L) (cM L)),y1,y2]) from (B4 p2).trans (by unfold wH;rw [ky];exact k2)]
theorem b8L{L:List (Str×Tr)}(B:Bx L)(P:Str->Prop)(h:∀x∈bx L,P x->Wo (qe [.bw (bx L) (cM L),.str x]) λr=>∃ks ds,r=.tw ks ds/\ks.length=ds.length/\x∉ks)(g:∀x∈bx L,¬P x->x.length<=1000/\Wo (qe [.bw (bx L) (cM L),.str x]) λr=>∃ks ds,r=.tw ks ds/\ks.length=ds.length/\x∈ks)(z:∃x∈bx L,¬P x):zL [.bw (bx L) (cM L)]=some ("Ring":Str)/\zK [.bw (bx L) (cM L)]=none:=by
 obtain ⟨x1,x2,p1,p2⟩:=X6 B
 obtain ⟨pre,y,post,e,h1,h2⟩:=JA z
 have hy:y∈bx L:=by rw [e];simp
 obtain ⟨yl,gy⟩:=g y hy h2
 have k:=Je (enc:=D.str) (I:=FD L) (nm:=("Ring":Str)) (g:=gN 2) (F:=FnK) (r:=RnK) (post:=post) (y:=y) (by
  rintro _ ⟨x1,x2,rfl⟩
  have t:=tk (L:=L) (x:=y) (x1:=x1) (b:=true) (gy.mono λr ⟨ks,ds,e,l,n⟩=>⟨ks,ds,e,l,⟨λ_=>rfl,λ_=>n⟩⟩)
  exact ⟨_,_,rfl,(rT t).trans (b43 (by decide +kernel) (by decide +kernel) yl rfl),Hc t⟩) (pre:=pre) (λa ha=>Ip (h a (by rw [e];exact mC _ ha) (h1 a ha))) (e:=[.sh (.bw (bx L) (cM L)),x1,x2]) ⟨_,_,rfl⟩
 rw [<-e] at k
 obtain ⟨⟨e2,k1⟩,k2⟩:=k
 refine ⟨xS (e:=e2) ((Ky p1 p2).trans ?_),runN ((B4 p2).trans ?_)⟩
 .unfold tD
  rw [ky]
  exact k1
 .unfold wH
  rw [ky]
  exact k2
theorem DO{r:RF}{G:SF}{R:RI}{env e1:En}{ns:List Str}{ds:List D}(h:r env=none)(g:G env=some (.nx,e1))(o:AW e1=true):nP r G R env ns ds=R e1 ns ds:=by
 unfold nP
 rw [h]
 dsimp only
 rw [g]
 dsimp only
 rw [if_pos o]
theorem Vg{r:RF}{G:SF}{R:RI}{env:En}{ns:List Str}{ds:List D}{x:Str×En}(h:r env=some x):nP r G R env ns ds=some x.1:=by
 unfold nP
 rw [h]
theorem Hd{G:SF}{F:IF}{env:En}{ns:List Str}{ds:List D}(h:G env=none):Aj G F env ns ds=none:=by
 unfold Aj
 rw [h]
theorem rC{ρ:List D->Option Str}{fs:En->Option (List D)}{env:En}{ds:List D}(h:fs env=some ds)(hn:ds.length=1):rE (yI 1 ρ fs) env=(ρ ds).map λnm=>(nm,env):=by
 unfold rE yI
 rw [h]
 show CO _ (if ds.length=1 then ρ ds else none)=_
 rw [if_pos hn]
theorem sC{φ:List D->Option Sl}{fs:En->Option (List D)}{env:En}{ds:List D}(h:fs env=some ds)(hn:ds.length=1):rj (bh 1 φ fs) env=(φ ds).map λ_=>(.nx,env):=by
 unfold rj bh
 rw [h]
 show CO _ (if ds.length=1 then φ ds else none)=_
 rw [if_pos hn]
section
variable {F:List (Str×Tr)}
noncomputable abbrev uE(F:List (Str×Tr)):En:=[.no,.sh (.lst false (F.map Pq)),.sh (.lst false (F.map Pq))]
theorem uD(hl:F.length<=1000):dM 2 (gS (fw (eV 1)) [] 2 (gT 2 (kX (gN 0) (kX (gN 1) tF))) km (dF (ae (eV 0) (ae (eV 1) aa)))) [.no,.sh (.lst false (F.map Pq)),.no]=some (.nx,uE F):=by
 refine Wo.eq ?_
 rw [a2E]
 walk_at "v1"
 refine ⟨by rw [bY];omega,_,DL.comp_map Pq Pq (λe=>e.length=2) F (λa ha e he=>?_) rfl,rfl⟩
 obtain ⟨y0,y1,rfl⟩:∃y0 y1,e=[y0,y1]:=by
  match e,he with
  | [a,b],_=>exact ⟨a,b,rfl⟩
 unfold Pq
 walk_at "v1"
theorem uC:ae (cV (bV 2)) aa (uE F)=some [.int F.length]:=by
 show some [D.int ((F.map Pq).length:Nat)]=_
 rw [bY]
theorem AO(hl:F.length<=1000):ae (gS (fw (eV 2)) [] 2 (gT 2 (kX (gN 0) (kX (gN 1) tF))) km (eV 0)) aa (uE F)=some [.lst false ((bx F).map D.str)]:=by
 have h:gS (fw (eV 2)) [] 2 (gT 2 (kX (gN 0) (kX (gN 1) tF))) km (eV 0) (uE F)=some (.ow ((bx F).map D.str)):=by
  refine Wo.eq ?_
  walk_at "o1"
  refine ⟨by rw [bY];omega,_,DL.comp_map Pq (λq=>.str q.1) (λe=>e.length=2) F (λa ha e he=>?_) rfl,by unfold bx;rw [wm];rfl⟩
  obtain ⟨y0,y1,rfl⟩:∃y0 y1,e=[y0,y1]:=by
   match e,he with
   | [a,b],_=>exact ⟨a,b,rfl⟩
  unfold Pq
  walk_at "v1"
 exact aC h rfl
theorem Rj(nd:(F.map (·.1)).Nodup):ET (eV 2) (uE F)=some (.sh (.bw (bx F) (cM F))):=by
 refine Wo.eq ?_
 rw [a7S]
 walk_at "o1"
 rw [ZI,a0e]
 exact ⟨nd,rfl⟩
theorem b8P(h:30<F.length)(hl:F.length<=1000):qg [.lst false (F.map Pq)]=some ("TooMany":Str)/\oM [.lst false (F.map Pq)]=none:=by
 have m:=m_x (n:=F.length) (by omega)
 constructor
 .refine (DO (r:=pY) rfl (uD hl) rfl).trans (Vg (x:=(("TooMany":Str),uE F)) ?_)
  rw [rC uC rfl,m.1]
  rfl
 .show dj _ 3 _ _=_
  unfold dj
  rw [show (Sl.no::iS (3-1) [.lst false (F.map Pq)])=[.no,.sh (.lst false (F.map Pq)),.no] from rfl,EU (uD hl) rfl,Hd]
  rw [sC uC rfl,m.2]
  rfl
theorem Xa(hl:F.length<=30){nm:Str}(h1:BQ [.lst false ((bx F).map D.str)]=some nm)(h2:yM [.lst false ((bx F).map D.str)]=none):qg [.lst false (F.map Pq)]=some nm/\oM [.lst false (F.map Pq)]=none:=by
 have m:=G2 (n:=F.length) (by omega)
 have m2:=YE (n:=F.length) (by omega)
 have l:F.length<=1000:=by omega
 have s2:rj (bh 1 A4 (ae (cV (bV 2)) aa)) (uE F)=some (.nx,uE F):=by rw [sC uC rfl,m2];rfl
 constructor
 .refine (DO (r:=pY) rfl (uD l) rfl).trans ((DO ?_ s2 rfl).trans (Vg (x:=(nm,uE F)) ?_))
  .rw [rC uC rfl,m];rfl
  .rw [rC (AO l) rfl,h1];rfl
 .show dj _ 3 _ _=_
  unfold dj
  rw [show (Sl.no::iS (3-1) [.lst false (F.map Pq)])=[.no,.sh (.lst false (F.map Pq)),.no] from rfl,EU (uD l) rfl,EU s2 rfl,Hd]
  rw [sC (AO l) rfl,h2]
  rfl
theorem b8O(hl:F.length<=30)(nd:(F.map (·.1)).Nodup)(h1:BQ [.lst false ((bx F).map D.str)]=none)(h2:yM [.lst false ((bx F).map D.str)]=some (.sh .cj)){x:Option Str}{y:Option Sl}(h3:zL [.bw (bx F) (cM F)]=x)(h4:zK [.bw (bx F) (cM F)]=y):qg [.lst false (F.map Pq)]=x/\oM [.lst false (F.map Pq)]=y.map λ_=>[.lst false (F.map Pq),.bw (bx F) (cM F)]:=by
 have m:=G2 (n:=F.length) (by omega)
 have m2:=YE (n:=F.length) (by omega)
 have l:F.length<=1000:=by omega
 have s2:rj (bh 1 A4 (ae (cV (bV 2)) aa)) (uE F)=some (.nx,uE F):=by rw [sC uC rfl,m2];rfl
 have s3:rj (bh 1 yM (ae (gS (fw (eV 2)) [] 2 (gT 2 (kX (gN 0) (kX (gN 1) tF))) km (eV 0)) aa)) (uE F)=some (.nx,uE F):=by rw [sC (AO l) rfl,h2];rfl
 have d:=Rj nd
 constructor
 .refine (DO (r:=pY) rfl (uD l) rfl).trans ((DO ?_ s2 rfl).trans ((DO ?_ s3 rfl).trans ?_))
  .rw [rC uC rfl,m];rfl
  .rw [rC (AO l) rfl,h1];rfl
  .show Option.bind (some (Sl.sh (.lst false (F.map Pq)))) _=_
   rw [BD,if_neg (by decide +kernel)]
   unfold Jm
   rw [d,BD,if_neg (by decide +kernel)]
   exact (show z9 zL "rules" _ _ _=zL [.bw (bx F) (cM F)] by kernel_rfl).trans h3
 .show dj _ 3 _ _=_
  unfold dj
  rw [show (Sl.no::iS (3-1) [.lst false (F.map Pq)])=[.no,.sh (.lst false (F.map Pq)),.no] from rfl,EU (uD l) rfl,EU s2 rfl,EU s3 rfl,YJ (r:=.sh (.lst false (F.map Pq))) rfl (by decide +kernel),YJ d (by decide +kernel)]
  have h5:yq ("rules":Str) [(("offers":Str),D.lst false (F.map Pq)),(("rules":Str),D.bw (bx F) (cM F))]=some (.bw (bx F) (cM F)):=by kernel_rfl
  show (match (yq ("rules":Str) [(("offers":Str),D.lst false (F.map Pq)),(("rules":Str),D.bw (bx F) (cM F))]).bind (λd=>(zK [d]).bind λ_=>some ([("offers":Str),("rules":Str)],[D.lst false (F.map Pq),D.bw (bx F) (cM F)])) with | some (iX,fs)=>if iX=BL then some fs else none | none=>none)=_
  rw [h5]
  show (match (zK [.bw (bx F) (cM F)]).bind (λ_=>some ([("offers":Str),("rules":Str)],[D.lst false (F.map Pq),D.bw (bx F) (cM F)])) with | some (iX,fs)=>if iX=BL then some fs else none | none=>none)=_
  rw [h4]
  cases y with
  | none=>rfl
  | some y=>kernel_rfl
end
noncomputable def tM:Tr:=.l3 .b 1 0 1
noncomputable def DF(j:Nat):Tr:=.l3 .b j 0 1
noncomputable def YA:Tr:=.two .b tM (.one .c (.name "yyb") 2 0)
noncomputable def YC:Tr:=.one .a (.name "yyd") 0 4
noncomputable def YD:Tr:=.two .a tM (.name "yyc")
noncomputable def Fn(j:Nat):Str:="yy" ++ ⟨#[97+j/26]⟩++⟨#[97+j%26]⟩
def Ring(x:Str):Prop:=x = "yyc" \/ x = "yyd"
structure St(R:Str->Nat)(F:List (Str×Tr))(ks:List Int):Prop where
 ok:∀q∈F,q.2.ok/\q.2.sz<6
 nm:∀q∈F,Nm q.1\/q.1∈oC/\1∈ks
 bd:1∈ks->∃q∈F,q.1∈oC
 tw:2∈ks->¬(F.map (·.1)).Nodup
 nd:1∉ks->2∉ks->(F.map (·.1)).Nodup
 ms:3∈ks->∃q∈F,("yyb":Str)∈q.2.ns
 sp:∀q∈F,q.1∈oC\/odd (lt q.1)<=1\/(q.1 = "yya" /\ 3∈ks)\/(Ring q.1/\4∈ks)\/((∃j,j<31/\q.1=Fn j)/\30<=F.length)
 uc:3∉ks->∀q∈F,∀x∈q.2.ns,x∈F.map (·.1)
 rg:4∈ks->(("yyc":Str),YC)∈F/\(("yyd":Str),YD)∈F
 rk:∀q∈F,Ring q.1\/∀x∈q.2.ns,R x<R q.1
theorem St.perm{R:Str->Nat}{F G:List (Str×Tr)}{ks:List Int}(h:St R F ks)(p:G.Perm F):St R G ks:=by
 have pm:=p.map (·.1)
 have me:∀{q},q∈G↔q∈F:=p.mem_iff
 refine ⟨λq hq=>h.ok q (me.mp hq),λq hq=>h.nm q (me.mp hq),λz=>?_,λz y=>h.tw z (pm.nodup_iff.mp y),λz y=>pm.nodup_iff.mpr (h.nd z y),λz=>?_,λq hq=>?_,λz q hq x hx=>pm.mem_iff.mpr (h.uc z q (me.mp hq) x hx),λz=>⟨me.mpr (h.rg z).1,me.mpr (h.rg z).2⟩,λq hq=>h.rk q (me.mp hq)⟩
 .obtain ⟨q,a,b⟩:=h.bd z
  exact ⟨q,me.mpr a,b⟩
 .obtain ⟨q,a,b⟩:=h.ms z
  exact ⟨q,me.mpr a,b⟩
 .rw [p.length_eq]
  exact h.sp q (me.mp hq)
theorem St.ext{R:Str->Nat}{F S:List (Str×Tr)}{ks:List Int}{k:Int}(h:St R F ks)(ok:∀q∈S,q.2.ok/\q.2.sz<6)(nm:∀q∈S,Nm q.1\/(q.1∈oC/\k=1)\/q.1∈F.map (·.1))(bd:k=1->∃q∈S,q.1∈oC)(tw:k=2->¬((S++F).map (·.1)).Nodup)
  (nd:k≠1->k≠2->(F.map (·.1)).Nodup->((S++F).map (·.1)).Nodup)(ms:k=3->∃q∈S,("yyb":Str)∈q.2.ns)(sp:∀q∈S,q.1∈oC\/(q.1 = "yya" /\ k=3)\/(Ring q.1/\k=4)\/((∃j,j<31/\q.1=Fn j)/\30<=(S++F).length)\/q.1∈F.map (·.1))
  (uc:k≠3->∀q∈S,∀x∈q.2.ns,x∈S.map (·.1))(rg:k=4->(("yyc":Str),YC)∈S/\(("yyd":Str),YD)∈S)(rk:∀q∈S,Ring q.1\/∀x∈q.2.ns,R x<R q.1):St R (S++F) (k::ks):=by
 have cs:∀{i:Int},i∈k::ks->k=i\/i∈ks:=λhi=>(cL.mp hi).imp Eq.symm id
 have cn:∀{i:Int},i∉k::ks->k≠i/\i∉ks:=λhi=>⟨λz=>hi (by rw [z];exact gi),λz=>hi (gn _ z)⟩
 have up:∀{i:Int},i∈ks->i∈k::ks:=gn _
 have le:F.length<=(S++F).length:=by rw [fD];omega
 have Vb:∀q∈F,q.1∈oC\/odd (lt q.1)<=1\/(q.1 = "yya" /\ 3∈k::ks)\/(Ring q.1/\4∈k::ks)\/((∃j,j<31/\q.1=Fn j)/\30<=(S++F).length):=λq hq=>by
  rcases h.sp q hq with z | z | z | z | z
  .exact .inl z
  .exact .inr (.inl z)
  .exact .inr (.inr (.inl ⟨z.1,up z.2⟩))
  .exact .inr (.inr (.inr (.inl ⟨z.1,up z.2⟩)))
  .exact .inr (.inr (.inr (.inr ⟨z.1,pE z.2 le⟩)))
 refine ⟨λq hq=>(jV.mp hq).elim (ok q) (h.ok q),λq hq=>?_,λz=>?_,λz=>?_,λz y=>?_,λz=>?_,λq hq=>?_,λz q hq x hx=>?_,λz=>?_,λq hq=>(jV.mp hq).elim (rk q) (h.rk q)⟩
 .rcases jV.mp hq with hq | hq
  .rcases nm q hq with z | z | z
   .exact .inl z
   .exact .inr ⟨z.1,by rw [z.2];exact gi⟩
   .obtain ⟨p,hp,e⟩:=jW.mp z
    rw [<-e]
    exact (h.nm p hp).imp id λz=>⟨z.1,up z.2⟩
  .exact (h.nm q hq).imp id λz=>⟨z.1,up z.2⟩
 .rcases cs z with z | z
  .obtain ⟨q,a,b⟩:=bd z
   exact ⟨q,mC _ a,b⟩
  .obtain ⟨q,a,b⟩:=h.bd z
   exact ⟨q,mD _ a,b⟩
 .rcases cs z with z | z
  .exact tw z
  .intro y
   rw [nz] at y
   exact h.tw z (C3.mp y).2.1
 .exact nd (cn z).1 (cn y).1 (h.nd (cn z).2 (cn y).2)
 .rcases cs z with z | z
  .obtain ⟨q,a,b⟩:=ms z
   exact ⟨q,mC _ a,b⟩
  .obtain ⟨q,a,b⟩:=h.ms z
   exact ⟨q,mD _ a,b⟩
 .rcases jV.mp hq with hq | hq
  .rcases sp q hq with z | z | z | z | z
   .exact .inl z
   .exact .inr (.inr (.inl ⟨z.1,by rw [z.2];exact gi⟩))
   .exact .inr (.inr (.inr (.inl ⟨z.1,by rw [z.2];exact gi⟩)))
   .exact .inr (.inr (.inr (.inr z)))
   .obtain ⟨p,hp,e⟩:=jW.mp z
    rw [<-e]
    exact Vb p hp
  .exact Vb q hq
 .rw [nz,jV]
  rcases jV.mp hq with hq | hq
  .exact .inl (uc (cn z).1 q hq x hx)
  .exact .inr (h.uc (cn z).2 q hq x hx)
 .rcases cs z with z | z
  .exact ⟨mC _ (rg z).1,mC _ (rg z).2⟩
  .exact ⟨mD _ (h.rg z).1,mD _ (h.rg z).2⟩
def Sp(k:Int)(F S:List (Str×Tr)):Prop:=(k=0/\S=[])\/(k=1/\∃b∈oC,S=[(b,tM)])\/(k=2/\∃x∈F.map (·.1),S=[(x,tM)])\/(k=3/\S=[(("yya":Str),YA)])\/(k=4/\S=[(("yyc":Str),YC),(("yyd":Str),YD)])\/((k=5\/k=6)/\(F.length:Int)<25+k/\S=(fx (25+k-F.length).toNat).map λj=>(Fn j,DF j))
noncomputable def DA:List Str:=(["yya","yyb","yyc","yyd"]:List Str)++(fx 31).map Fn
theorem Yc:((["yya","yyb","yyc","yyd"]:List Str)++(fx 31).map Fn).Nodup:=by decide +kernel
theorem EO:∀x∈DA,((1<=x.length/\x.length<=8)/\(∀c∈lt x,c∈m5)/\x∉M')/\2<=odd (lt x)/\x∉oC:=by decide +kernel
theorem XQ{j:Nat}(h:j<31):Fn j∈DA:=mD _ (jW.mpr ⟨j,p9.mpr h,rfl⟩)
theorem HS{j:Nat}(h:j<31):Nm (Fn j):=(EO _ (XQ h)).1
theorem lp{j:Nat}(h:j<31){x:Str}(hx:x∈(["yya","yyb","yyc","yyd"]:List Str)):x≠Fn j:=(C3.mp Yc).2.2 x hx (Fn j) (jW.mpr ⟨j,p9.mpr h,rfl⟩)
theorem HU{n:Nat}(h:n<=31):((fx n).map Fn).Nodup:=by
 have h1:=(C3.mp Yc).2.1
 have:(fx n).Sublist (fx 31):=by
  rw [show fx n=(fx 31).take n from by rw [List.take_range,Lp h]]
  exact List.take_sublist _ _
 exact List.Nodup.sublist (this.map Fn) h1
section
variable {R:Str->Nat}{F:List (Str×Tr)}{ks:List Int}
theorem St.no(h:St R F ks){x:Str}(hx:x∈DA)(h1:x = "yya" -> 3∉ks)(h2:Ring x->4∉ks)(h3:(∃j,j<31/\x=Fn j)->F.length<30):x∉F.map (·.1):=λz=>by
 obtain ⟨q,hq,rfl⟩:=jW.mp z
 have s:=EO _ hx
 rcases h.sp q hq with z | z | z | z | z
 .exact s.2.2 z
 .have:=s.2.1
  omega
 .exact h1 z.1 z.2
 .exact h2 z.1 z.2
 .have:=h3 z.1
  omega
theorem jc:("yyc":Str) ≠ "yyd" /\ ("yya":Str) ≠ "yyc" /\ ("yya":Str) ≠ "yyd" /\ ("yyb":Str) ≠ "yyc" /\ ("yyb":Str) ≠ "yyd" /\ ("yyb":Str) ≠ "yya":=by decide +kernel
theorem mK{i:Int}(h:0<=i/\i<=1000):Sh i:=by unfold Sh;omega
theorem sJ:tM.ok/\tM.sz<6:=⟨⟨mK (by decide),mK (by decide),mK (by decide)⟩,by decide⟩
theorem St.step(h:St R F ks){k:Int}(hk:k∉ks){S:List (Str×Tr)}(hs:Sp k F S)(hl:(S++F).length<=30)(hR:R "yyb" < R "yya"):St R (S++F) (k::ks):=by
 have nq:∀{q:Str×Tr} {P:Prop},q∈([]:List (Str×Tr))->P:=λz=>(nomatch z)
 rcases hs with ⟨rfl,rfl⟩ | ⟨rfl,b,hb,rfl⟩ | ⟨rfl,x,hx,rfl⟩ | ⟨rfl,rfl⟩ | ⟨rfl,rfl⟩ | ⟨k56,fu,rfl⟩
 .exact h.ext (λq=>nq) (λq=>nq) (λz=>by cases z) (λz=>by cases z) (λ_ _ z=>z) (λz=>by cases z) (λq=>nq) (λ_ q=>nq) (λz=>by cases z) (λq=>nq)
 .have on:∀{q:Str×Tr},q∈[(b,tM)]->q=(b,tM):=je.mp
  exact h.ext (λq hq=>by rw [on hq];exact sJ) (λq hq=>by rw [on hq];exact .inr (.inl ⟨hb,rfl⟩)) (λ_=>⟨_,gi,hb⟩) (λz=>by cases z) (λz=>(z rfl).elim) (λz=>by cases z) (λq hq=>by rw [on hq];exact .inl hb) (λ_ q hq x hx=>by rw [on hq] at hx;cases hx) (λz=>by cases z) (λq hq=>by rw [on hq];exact .inr λx hx=>by cases hx)
 .have on:∀{q:Str×Tr},q∈[(x,tM)]->q=(x,tM):=je.mp
  exact h.ext (λq hq=>by rw [on hq];exact sJ) (λq hq=>by rw [on hq];exact .inr (.inr hx)) (λz=>by cases z) (λ_ z=>(yt.mp z).1 hx) (λ_ z=>(z rfl).elim) (λz=>by cases z) (λq hq=>by rw [on hq];exact .inr (.inr (.inr (.inr hx)))) (λ_ q hq x hx=>by rw [on hq] at hx;cases hx) (λz=>by cases z) (λq hq=>by rw [on hq];exact .inr λx hx=>by cases hx)
 .have on:∀{q:Str×Tr},q∈[(("yya":Str),YA)]->q=(("yya":Str),YA):=je.mp
  have hm:("yya":Str)∈DA:=by decide +kernel
  have hn:=h.no hm (λ_=>hk) (λz=>z.elim (λz=>(jc.2.1 z).elim) λz=>(jc.2.2.1 z).elim) (λ⟨j,hj,e⟩=>(lp hj (by decide +kernel) e).elim)
  exact h.ext (λq hq=>by rw [on hq];exact ⟨⟨sJ.1,(show ("yyb":Str).length<=100 by decide +kernel),mK (by decide),mK (by decide)⟩,by decide⟩) (λq hq=>by rw [on hq];exact .inl (EO _ hm).1) (λz=>by cases z) (λz=>by cases z) (λ_ _ z=>yt.mpr ⟨hn,z⟩) (λ_=>⟨_,gi,by show ("yyb":Str)∈(["yyb"]:List Str);simp⟩) (λq hq=>by rw [on hq];exact .inr (.inl ⟨rfl,rfl⟩)) (λz=>(z rfl).elim) (λz=>by cases z) (λq hq=>by
   rw [on hq]
   refine .inr λx hx=>?_
   obtain rfl:x = "yyb":=by
    have:x∈(["yyb"]:List Str):=hx
    exact je.mp this
   exact hR)
 .have on:∀{q:Str×Tr},q∈[(("yyc":Str),YC),(("yyd":Str),YD)]->q=(("yyc":Str),YC)\/q=(("yyd":Str),YD):=λz=>(cL.mp z).imp id je.mp
  have hc:("yyc":Str)∈DA:=by decide +kernel
  have hd:("yyd":Str)∈DA:=by decide +kernel
  have nc:=h.no hc (λz=>(jc.2.1 z.symm).elim) (λ_=>hk) (λ⟨j,hj,e⟩=>(lp hj (by decide +kernel) e).elim)
  have nd:=h.no hd (λz=>(jc.2.2.1 z.symm).elim) (λ_=>hk) (λ⟨j,hj,e⟩=>(lp hj (by decide +kernel) e).elim)
  refine h.ext (λq hq=>?_) (λq hq=>?_) (λz=>by cases z) (λz=>by cases z) (λ_ _ z=>?_) (λz=>by cases z) (λq hq=>?_) (λ_ q hq x hx=>?_) (λ_=>⟨by simp,by simp⟩) (λq hq=>.inl ?_)
  .rcases on hq with rfl | rfl
   .exact ⟨⟨(show ("yyd":Str).length<=100 by decide +kernel),mK (by decide),mK (by decide)⟩,by decide⟩
   .exact ⟨⟨sJ.1,(show ("yyc":Str).length<=100 by decide +kernel)⟩,by decide⟩
  .rcases on hq with rfl | rfl
   .exact .inl (EO _ hc).1
   .exact .inl (EO _ hd).1
  .refine yt.mpr ⟨λy=>?_,yt.mpr ⟨nd,z⟩⟩
   rcases cL.mp y with y | y
   .exact jc.1 y
   .exact nc y
  .rcases on hq with rfl | rfl
   .exact .inr (.inr (.inl ⟨.inl rfl,rfl⟩))
   .exact .inr (.inr (.inl ⟨.inr rfl,rfl⟩))
  .rcases on hq with rfl | rfl
   .have:x∈(["yyd"]:List Str):=hx
    rw [je.mp this]
    simp
   .have:x∈(["yyc"]:List Str):=hx
    rw [je.mp this]
    simp
  .rcases on hq with rfl | rfl
   .exact .inl rfl
   .exact .inr rfl
 .rw [fD,bY,wg] at hl
  have WQ:(25+k-F.length).toNat<=31/\F.length<30/\(25+k-F.length).toNat+F.length=30:=by omega
  have on:∀{q:Str×Tr},q∈(fx (25+k-F.length).toNat).map (λj=>(Fn j,DF j))->∃j,j<31/\q=(Fn j,DF j):=λz=>by
   obtain ⟨j,hj,e⟩:=jW.mp z
   have:=p9.mp hj
   exact ⟨j,by omega,e.symm⟩
  refine h.ext (λq hq=>?_) (λq hq=>?_) (λz=>by omega) (λz=>by omega) (λ_ _ z=>?_) (λz=>by omega) (λq hq=>?_) (λ_ q hq x hx=>?_) (λz=>by omega) (λq hq=>?_)
  .obtain ⟨j,hj,rfl⟩:=on hq
   exact ⟨⟨mK (by omega),mK (by decide),mK (by decide)⟩,by show 1<6;decide⟩
  .obtain ⟨j,hj,rfl⟩:=on hq
   exact .inl (HS hj)
  .rw [nz,wm]
   refine C3.mpr ⟨HU WQ.1,z,λx hx y hy e=>?_⟩
   obtain ⟨j,hj,rfl⟩:=jW.mp hx
   have hj:=p9.mp hj
   have hj:j<31:=by omega
   refine h.no (XQ hj) (λz=>(lp hj (by decide +kernel) z.symm).elim) (λz=>z.elim (λz=>(lp hj (by decide +kernel) z.symm).elim) λz=>(lp hj (by decide +kernel) z.symm).elim) (λ_=>WQ.2.1) (by rw [show Fn j=y from e];exact hy)
  .obtain ⟨j,hj,rfl⟩:=on hq
   exact .inr (.inr (.inr (.inl ⟨⟨j,hj,rfl⟩,by rw [fD,bY,wg];omega⟩)))
  .obtain ⟨j,hj,rfl⟩:=on hq
   cases hx
  .obtain ⟨j,hj,rfl⟩:=on hq
   exact .inr λx hx=>by cases hx
end
section
variable {R:Str->Nat}{F:List (Str×Tr)}{ks:List Int}
theorem GK:∀t:Tr,t.ok->∀x∈t.ns,x.length<=1000:=by
 intro t
 induction t with
 | name n=>intro h x hx;rw [je.mp hx];exact pE h (by decide)
 | two k a b ud DR=>intro h x hx;exact (jV.mp hx).elim (ud h.1 x) (DR h.2 x)
 | one k a p q ud=>intro h x hx;exact ud h.1 x hx
 | _=>intro h x hx;cases hx
theorem GJ(h:St R F ks)(hl:F.length<=30)(h1:1∈ks):qg [.lst false (F.map Pq)]=some ("BadName":Str)/\oM [.lst false (F.map Pq)]=none:=by
 have k:=GZ (ks:=bx F) (b:=false) (λx hx=>by
  obtain ⟨q,hq,rfl⟩:=jW.mp hx
  exact (h.nm q hq).imp id And.left) (by
  obtain ⟨q,hq,hb⟩:=h.bd h1
  exact ⟨q.1,jW.mpr ⟨q,hq,rfl⟩,λz=>by
   have a:=S3 z
   rw [XG _ hb] at a
   cases a⟩)
 exact Xa hl k.1 k.2
theorem kl(h:F.length<=30):(bx F).length<=1000:=by unfold bx;rw [bY];omega
theorem RR(h:St R F ks)(h1:1∉ks):∀x∈bx F,Nm x:=λx hx=>by
 obtain ⟨q,hq,rfl⟩:=jW.mp hx
 exact (h.nm q hq).elim id λz=>(h1 z.2).elim
theorem Ov(h:St R F ks)(hl:F.length<=30)(h1:1∉ks)(h2:2∈ks):qg [.lst false (F.map Pq)]=some ("Twice":Str)/\oM [.lst false (F.map Pq)]=none:=by
 have k:=b5t (ks:=bx F) (b:=false) (RR h h1) (h.tw h2) (kl hl)
 exact Xa hl k.1 k.2
theorem RZ(h:St R F ks)(hl:F.length<=30)(h1:1∉ks)(h2:2∉ks){x:Option Str}{y:Option Sl}(h3:zL [.bw (bx F) (cM F)]=x/\zK [.bw (bx F) (cM F)]=y):qg [.lst false (F.map Pq)]=x/\oM [.lst false (F.map Pq)]=y.map λ_=>[.lst false (F.map Pq),.bw (bx F) (cM F)]:=
 b8O hl (h.nd h1 h2) (OG (RR h h1) (h.nd h1 h2) (kl hl)) (b3j (RR h h1) (h.nd h1 h2) (kl hl)) h3.1 h3.2
theorem Ow(h:St R F ks)(hl:F.length<=30)(h1:1∉ks)(h2:2∉ks)(h3:3∈ks):qg [.lst false (F.map Pq)]=some ("NoOffer":Str)/\oM [.lst false (F.map Pq)]=none:=by
 obtain ⟨q,hq,hy⟩:=h.ms h3
 have hn:("yyb":Str)∉F.map (·.1):=h.no (by decide +kernel) (λz=>(jc.2.2.2.2.2 z).elim) (λz=>z.elim (λz=>(jc.2.2.2.1 z).elim) λz=>(jc.2.2.2.2.1 z).elim) (λ⟨j,hj,e⟩=>(lp hj (by decide +kernel) e).elim)
 exact RZ h hl h1 h2 (P7 (λq hq=>(h.ok q hq).2) (λq hq=>GK q.2 (h.ok q hq).1) ⟨q,hq,λz=>hn (z _ hy)⟩)
theorem Xn(h:St R F ks)(hl:F.length<=30)(h1:1∉ks)(h2:2∉ks)(h3:3∉ks):Bx F:=⟨h.nd h1 h2,λq hq=>(h.ok q hq).2,h.uc h3,hl⟩
theorem Y5(h:St R F ks)(B:Bx F)(h9:∀x,Ring x↔9<=R x){x:Str}(hx:x∈bx F)(hr:¬Ring x):Wo (qe [.bw (bx F) (cM F),.str x]) λr=>∃ks ds,r=.tw ks ds/\ks.length=ds.length/\x∉ks:=by
 obtain ⟨q,hq,rfl⟩:=jW.mp hx
 refine (Sw B (k:=q.1) (t:=q.2) hq).mono λr ⟨ks,ds,e,l,_,_,hS⟩=>⟨ks,ds,e,l,λz=>?_⟩
 have r9:R q.1<9:=Nat.lt_of_not_le λz=>hr ((h9 _).mpr z)
 have:=hS (λy=>R y<R q.1) (λy hy=>((h.rk q hq).resolve_left hr) y hy) (λy u hy hu z hz=>by
  have ny:¬Ring y:=λw=>by have:=(h9 _).mp w;omega
  exact BA (((h.rk _ hu).resolve_left ny) z hz) hy) _ z
 exact yx _ this
theorem b7V(h:St R F ks)(hl:F.length<=30)(h9:∀x,Ring x↔9<=R x)(h1:1∉ks)(h2:2∉ks)(h3:3∉ks)(h4:4∈ks):qg [.lst false (F.map Pq)]=some ("Ring":Str)/\oM [.lst false (F.map Pq)]=none:=by
 have B:=Xn h hl h1 h2 h3
 obtain ⟨c1,c2⟩:=h.rg h4
 refine RZ h hl h1 h2 (b8L B (λx=>¬Ring x) (λx hx hr=>Y5 h B h9 hx hr) (λx hx hr=>?_) ⟨"yyc",jW.mpr ⟨_,c1,rfl⟩,λz=>z (.inl rfl)⟩)
 have dC:("yyd":Str)∈YC.ns:=by show _∈(["yyd"]:List Str);simp
 have cD:("yyc":Str)∈YD.ns:=by show _∈(["yyc"]:List Str);simp
 rcases Qs.mp hr with rfl | rfl
 .exact ⟨by decide +kernel,(Sw B c1).mono λr ⟨ks,ds,e,l,a,b,_⟩=>⟨ks,ds,e,l,b _ _ (a _ dC) c2 _ cD⟩⟩
 .exact ⟨by decide +kernel,(Sw B c2).mono λr ⟨ks,ds,e,l,a,b,_⟩=>⟨ks,ds,e,l,b _ _ (a _ cD) c1 _ dC⟩⟩
theorem b7W(h:St R F ks)(hl:F.length<=30)(h9:∀x,Ring x↔9<=R x)(h1:1∉ks)(h2:2∉ks)(h3:3∉ks)(h4:4∉ks):oM [.lst false (F.map Pq)]=some [.lst false (F.map Pq),.bw (bx F) (cM F)]:=by
 have B:=Xn h hl h1 h2 h3
 have nr:∀x∈bx F,¬Ring x:=λx hx hr=>by
  refine h.no (x:=x) ?_ ?_ (λ_=>h4) ?_ hx
  .rcases hr with rfl | rfl<;>decide +kernel
  .rintro rfl
   exact hr.elim (λz=>(jc.2.1 z).elim) λz=>(jc.2.2.1 z).elim
  .rintro ⟨j,hj,rfl⟩
   rcases hr with e | e
   .exact (lp hj (by decide +kernel) e.symm).elim
   .exact (lp hj (by decide +kernel) e.symm).elim
 exact (RZ h hl h1 h2 (P6 B λx hx=>Y5 h B h9 hx (nr x hx))).2
end
noncomputable def Rk(a b:Str)(m:Int)(x:Str):Nat:=if x = "yyc" \/ x = "yyd" then 9 else if x = "yya" then 5 else rk a b m x
theorem Xh(a b:Str)(m:Int)(x:Str):rk a b m x<=3:=by
 unfold rk
 repeat' split
 all_goals decide
theorem Of{a b:Str}{m:Int}(x:Str):Ring x↔9<=Rk a b m x:=by
 unfold Rk Ring
 have:=Xh a b m x
 repeat' split
 .simp_all
 .rename_i h _
  exact ⟨λz=>(h z).elim,λz=>by omega⟩
 .rename_i h _
  exact ⟨λz=>(h z).elim,λz=>by omega⟩
theorem Gh{a b:Str}{m:Int}:Rk a b m "yyb" < Rk a b m "yya":=by
 have:=Xh a b m "yyb"
 unfold Rk
 rw [if_neg (by decide +kernel),if_neg (by decide +kernel),if_neg (by decide +kernel),if_pos rfl]
 omega
theorem Gg{a b:Str}{m:Int}{x:Str}(h:odd (lt x)<=1):Rk a b m x=rk a b m x:=by
 unfold Rk
 have n:∀y∈DA,x≠y:=λy hy z=>by
  have:=(EO y hy).2.1
  rw [<-z] at this
  omega
 rw [if_neg λz=>z.elim (n _ (by decide +kernel)) (n _ (by decide +kernel)),if_neg (n _ (by decide +kernel))]
theorem b4X{a b:Str}{m:Int}{n:Nat}{L M:List (Str×Tr)}(hB:Bg a b m n L)(hp:M.Perm L)(hn:n<=4)(ha:(∀c∈lt a,Qx c)/\a.length<=3)(hb:(∀c∈lt b,Qx c)/\b.length<=4):St (Rk a b m) M []:=by
 have B:=hB.bk hn hp
 have nw:∀q∈M,∃j,q.1=Wd a b m j:=λq hq=>by
  obtain ⟨j,_,e,_⟩:=hB.dn q (hp.mem_iff.mp hq)
  exact ⟨j,e⟩
 have od:∀q∈M,odd (lt q.1)<=1:=λq hq=>by
  obtain ⟨j,e⟩:=nw q hq
  have:=Xy (Lt m j)
  rw [e,EN,Mw,Mw,L1 ha.1,L1 hb.1]
  omega
 refine ⟨B.ok,λq hq=>.inl ?_,λz=>(nomatch z),λz=>(nomatch z),λ_ _=>B.nd,λz=>(nomatch z),λq hq=>.inr (.inl (od q hq)),λ_=>B.uc,λz=>(nomatch z),λq hq=>.inr λx hx=>?_⟩
 .obtain ⟨j,e⟩:=nw q hq
  rw [e]
  exact W0 ha hb
 .obtain ⟨p,h1,h2⟩:=jW.mp (B.uc q hq x hx)
  rw [Gg (od q hq),Gg (by rw [<-h2];exact od p h1)]
  exact B.dn q hq x hx
theorem W9{f g:En->Option Sl}{env:En}{r s:Sl}{a b:List D}(hf:f env=some r)(hr:r.d=.lst false a)(hg:g env=some s)(hs:s.d=.lst false b)(h:a.length+b.length<=16777216):ah bb f g env=some (.ow (a++b)):=by
 unfold ah
 rw [hf,hg]
 show bb r.d s.d=_
 rw [hr,hs]
 show (if a.length+b.length<=16777216 then _ else _)=_
 rw [if_pos h]
theorem lQ{i:Nat}{f:En->Option Sl}{env:En}{r:Sl}{G:SF}{Q:Fl×En->Prop}(h:f env=some r)(hl:i<env.length)(g:Wo (G (env.set i (.sh r.d))) Q):Wo (dM i f env) (nM G Q):=by
 rw [a2E]
 exact ⟨_,h,hl,g⟩
theorem b7o{F S:List (Str×Tr)}{j:Nat}(hl:F.length<=1000)(hs:S.length<=1000){x0 x1 x4 x6:Sl}:Wo (bz (ah bb (ah bb (uj (bV 2) vf (tX (eV 3))) (eV 5)) (uj (bV 2) (tX (eV 3)) vf)) [x0,x1,.sh (.lst false (F.map Pq)),.sh (.int (j:Int)),x4,.sh (.lst false (S.map Pq)),x6]) (dA λr=>∃G:List (Str×Tr),r=.ow (G.map Pq)/\G.Perm (S++F)):=by
 have s1:uj (bV 2) vf (tX (eV 3)) [x0,x1,.sh (.lst false (F.map Pq)),.sh (.int (j:Int)),x4,.sh (.lst false (S.map Pq)),x6]=some (.ow ((F.take j).map Pq)):=by
  show some (Sl.ow (cutD (F.map Pq) none (some (j:Int))))=_
  rw [MA,Ss]
 have s2:uj (bV 2) (tX (eV 3)) vf [x0,x1,.sh (.lst false (F.map Pq)),.sh (.int (j:Int)),x4,.sh (.lst false (S.map Pq)),x6]=some (.ow ((F.drop j).map Pq)):=by
  show some (Sl.ow (cutD (F.map Pq) (some (j:Int)) none))=_
  rw [MA,b1Z]
 have l1:(F.take j).length<=1000:=by rw [Ec];omega
 have l2:(F.drop j).length<=1000:=by rw [Ls];omega
 refine Wo_ret.mpr (WE (W9 (W9 s1 rfl (g:=eV 5) rfl rfl (by rw [bY,bY];omega)) rfl s2 rfl (by rw [fD,bY,bY,bY];omega)) ⟨F.take j++S++F.drop j,by rw [nz,nz],?_⟩)
 refine (List.perm_append_comm.append_right _).trans ?_
 rw [C4,Q8]
theorem XD{j:Nat}(h:j<26):L2.fq ("abcdefghijklmnopqrstuvwxyz":Str).cps.toList (j:Int)=some (97+j):=by
 have e:=X3 ⟨j,h⟩
 show L2.fq m5 (j:Int)=_
 unfold L2.fq ni
 rw [if_pos (by omega),if_pos (by rw [Yy];omega)]
 exact e
theorem Y2{n:Nat}(hn:n<=31){k:Int}{F:List (Str×Tr)}(e:25+k-F.length=n){x1 x3 x4 x5:Sl}:gS (iY tE (ae (ah nX (ah bb (eC (.int 25)) (eV 0)) (cV (bV 2))) aa)) [6] 1 (gN 0) km (dF (ae (ah bb (ah bb (eC (.str "yy")) (jS (eV 1) (ah kD (eV 0) (eC (.int 26))))) (jS (eV 1) (ah ej (eV 0) (eC (.int 26))))) (ae (iH "Flat" 3 rp wJ (ae (eV 0) (ae (eC (.int 0)) (ae (eC (.int 1)) aa)))) aa))) [.sh (.int k),x1,.sh (.lst false (F.map Pq)),x3,x4,x5,.sh (.str "abcdefghijklmnopqrstuvwxyz")]=some (.ow (((fx n).map λj=>(Fn j,DF j)).map Pq)):=by
 refine Wo.eq ?_
 walk_at "o1"
 rw [bY,show (25+k-F.length).toNat=n by omega]
 refine ⟨by unfold eD;rw [bY,wg];omega,_,DL.comp_map (λk:Nat=>D.int (0+(k:Int))) (λj=>Pq (Fn j,DF j)) (λe=>∃y,e=[y,.sh (.str "abcdefghijklmnopqrstuvwxyz")]) (fx n) (λj hj e he=>?_) ⟨_,rfl⟩,?_⟩
 .obtain ⟨y,rfl⟩:=he
  have hj:=p9.mp hj
  rw [b0i]
  refine ⟨by simp,⟨_,rfl⟩,true,rfl,rfl,?_⟩
  simp only [zv]
  have i1:jS (eV 1) (ah kD (eV 0) (eC (.int 26))) [.sh (.int (0+(j:Int))),.sh (.str "abcdefghijklmnopqrstuvwxyz")]=some (.sh (.str ⟨#[97+j/26]⟩)):=Wo.eq ((Ju (i:=((j/26:Nat):Int)) rfl (Wo.eq (by walk_at "o1";rw [show (0:Int)+j=j by omega,show ((j/26:Nat):Int)=(j:Int)/26 by omega];exact ⟨by walk_at "sc",rfl⟩)) (by decide +kernel) (XD (by omega))).mpr rfl)
  have i2:jS (eV 1) (ah ej (eV 0) (eC (.int 26))) [.sh (.int (0+(j:Int))),.sh (.str "abcdefghijklmnopqrstuvwxyz")]=some (.sh (.str ⟨#[97+j%26]⟩)):=Wo.eq ((Ju (i:=((j%26:Nat):Int)) rfl (Wo.eq (by walk_at "o1";rw [show (0:Int)+j=j by omega];rfl)) (by decide +kernel) (XD (by omega))).mpr rfl)
  have c:=Iu (Iu (OM (w:="yy") (env:=[.sh (.int (0+(j:Int))),.sh (.str "abcdefghijklmnopqrstuvwxyz")]) (by decide +kernel)) (n:=1) ⟨i1,cw _⟩ (by decide)) (n:=1) ⟨i2,cw _⟩ (by decide)
  have t:=aC c.1 (aC (show iH "Flat" 3 rp wJ (ae (eV 0) (ae (eC (.int 0)) (ae (eC (.int 1)) aa))) [.sh (.int (0+(j:Int))),.sh (.str "abcdefghijklmnopqrstuvwxyz")]=some (.sh (.obj "Flat" rp [.int (0+(j:Int)),.int 0,.int 1])) by kernel_rfl) (show aa _=some [] from rfl))
  refine WE (a:=.sh (.tup [.str (Fn j),.obj "Flat" rp [.int (0+(j:Int)),.int 0,.int 1]])) ?_ ?_
  .unfold dF
   rw [t]
   rfl
  .show D.tup [.str (Fn j),.obj "Flat" rp [.int (0+(j:Int)),.int 0,.int 1]]=_
   rw [show (0:Int)+j=j by omega]
   rfl
 .rw [wm]
  rfl
theorem b3h(k c:Int)(hk:0<=k/\k<=6)(F:List (Str×Tr))(hF:F≠[])(hl:F.length<=100)(h56:k=5\/k=6->(F.length:Int)<25+k):∃G S:List (Str×Tr),Fq [.int k,.int c,.lst false (F.map Pq)]=some (.ow (G.map Pq))/\G.Perm (S++F)/\Sp k F S:=by
 have key:Wo (Fq [.int k,.int c,.lst false (F.map Pq)]) λr=>∃G S:List (Str×Tr),r=.ow (G.map Pq)/\G.Perm (S++F)/\Sp k F S:=by
  refine oq.mpr ?_
  unfold Ul
  obtain ⟨a,ea,a0,a1⟩:=kf c 90 (F.length+1) (by decide) (by omega)
  obtain ⟨j,rfl⟩:∃j:Nat,a=j:=⟨a.toNat,by omega⟩
  walk_at "v1"
  rw [bY,ea]
  walk_at "v1"
  have zb:F.length<=1000:=by omega
  have fin:∀{S:List (Str×Tr)} {x0 x1 x4 x6:Sl},S.length<=1000->Sp k F S->Wo (bz (ah bb (ah bb (uj (bV 2) vf (tX (eV 3))) (eV 5)) (uj (bV 2) (tX (eV 3)) vf)) [x0,x1,.sh (.lst false (F.map Pq)),.sh (.int (j:Int)),x4,.sh (.lst false (S.map Pq)),x6]) (dA λr=>∃G S:List (Str×Tr),r=.ow (G.map Pq)/\G.Perm (S++F)/\Sp k F S):=λ{S x0 x1 x4 x6} hs h=>by
   refine Wo.mono (b7o (S:=S) (j:=j) zb hs) λp hp=>?_
   obtain ⟨fl,e⟩:=p
   cases fl with
   | rt r=>obtain ⟨G,g1,g2⟩:=hp;exact ⟨G,S,g1,g2,h⟩
   | nx=>obtain ⟨G,g1,g2⟩:=hp;exact ⟨G,S,g1,g2,h⟩
   | bk=>exact hp
   | ct=>exact hp
  have h7:k=0\/k=1\/k=2\/k=3\/k=4\/k=5\/k=6:=by omega
  rcases h7 with rfl | rfl | rfl | rfl | rfl | rfl | rfl
  .refine z8 (by kernel_rfl) (a0X (by kernel_rfl) (a0X (by kernel_rfl) (a0X (by kernel_rfl) (a0X (by kernel_rfl) ?_))))
   exact fin (S:=[]) (by decide) (.inl ⟨rfl,rfl⟩)
  .obtain ⟨w,ew,w0,w1⟩:=kf c 91 7 (by decide) (by decide)
   obtain ⟨b,hb,eb⟩:=YM oC w0 w1
   refine Wo_seq.mp (EK (by kernel_rfl) (lQ (r:=.ow [Pq (b,tM)]) ?_ (q9 (by kernel_rfl)) ?_))
   .refine Wo.eq ?_
    walk_at "o1"
    rw [ew]
    walk_at "o1"
    refine ⟨_,eb,?_⟩
    exact ⟨_,show wJ [.int 1,.int 0,.int 1]=some [.int 1,.int 0,.int 1] by kernel_rfl,rfl⟩
   .refine a0X (by kernel_rfl) (a0X (by kernel_rfl) (a0X (by kernel_rfl) (a0X (by kernel_rfl) ?_)))
    exact fin (S:=[(b,tM)]) (q9 rfl) (.inr (.inl ⟨rfl,b,hb,rfl⟩))
  .obtain ⟨w,ew,w0,w1⟩:=kf c 92 F.length (by decide) (by have:=Wc.mpr hF;omega)
   obtain ⟨q,hq,eq⟩:∃q∈F,L2.fq (F.map Pq) w=some (Pq q):=by
    refine ⟨F[w.toNat]'(by omega),oF _,?_⟩
    unfold L2.fq ni
    rw [bY,if_pos w0,if_pos (by omega)]
    show (F.map Pq)[w.toNat]?=_
    rw [mB,iP (by omega)]
    rfl
   refine z8 (by kernel_rfl) (EK (by kernel_rfl) (lQ (r:=.ow [Pq (q.1,tM)]) ?_ (q9 (by kernel_rfl)) ?_))
   .refine Wo.eq ?_
    walk_at "o1"
    rw [bY,ew]
    walk_at "o1"
    refine ⟨_,eq,?_⟩
    unfold Pq
    walk_at "o1"
    exact ⟨_,show wJ [.int 1,.int 0,.int 1]=some [.int 1,.int 0,.int 1] by kernel_rfl,rfl⟩
   .refine a0X (by kernel_rfl) (a0X (by kernel_rfl) (a0X (by kernel_rfl) ?_))
    exact fin (S:=[(q.1,tM)]) (q9 rfl) (.inr (.inr (.inl ⟨rfl,q.1,jW.mpr ⟨q,hq,rfl⟩,rfl⟩)))
  .refine z8 (by kernel_rfl) (a0X (by kernel_rfl) (EK (by kernel_rfl) (lQ (r:=.ow [Pq (("yya":Str),YA)]) (by kernel_rfl) (q9 (by kernel_rfl)) ?_)))
   refine a0X (by kernel_rfl) (a0X (by kernel_rfl) ?_)
   exact fin (S:=[(("yya":Str),YA)]) (by decide) (.inr (.inr (.inr (.inl ⟨rfl,rfl⟩))))
  .refine z8 (by kernel_rfl) (a0X (by kernel_rfl) (a0X (by kernel_rfl) (EK (by kernel_rfl) (lQ (r:=.ow [Pq (("yyc":Str),YC),Pq (("yyd":Str),YD)]) (by kernel_rfl) (q9 (by kernel_rfl)) ?_))))
   refine a0X (by kernel_rfl) ?_
   exact fin (S:=[(("yyc":Str),YC),(("yyd":Str),YD)]) (by decide) (.inr (.inr (.inr (.inr (.inl ⟨rfl,rfl⟩)))))
  all_goals
   refine z8 (by kernel_rfl) (a0X (by kernel_rfl) (a0X (by kernel_rfl) (a0X (by kernel_rfl) (Wo_seq.mpr (Jo (by kernel_rfl) ?_)))))
   have h5:=h56 (by decide)
   rw [Wo_seq]
   refine lQ (r:=.sh (.str "abcdefghijklmnopqrstuvwxyz")) rfl (q9 (by kernel_rfl)) ?_
  .refine lQ (Y2 (n:=(25+5-(F.length:Int)).toNat) (by omega) (by omega)) (q9 (by kernel_rfl)) ?_
   exact fin (S:=(fx (25+5-(F.length:Int)).toNat).map λj=>(Fn j,DF j)) (by rw [bY,wg];omega) (.inr (.inr (.inr (.inr (.inr ⟨.inl rfl,h5,rfl⟩)))))
  .refine lQ (Y2 (n:=(25+6-(F.length:Int)).toNat) (by omega) (by omega)) (q9 (by kernel_rfl)) ?_
   exact fin (S:=(fx (25+6-(F.length:Int)).toNat).map λj=>(Fn j,DF j)) (by rw [bY,wg];omega) (.inr (.inr (.inr (.inr (.inr ⟨.inr rfl,h5,rfl⟩)))))
 obtain ⟨r,e,G,S,rfl,h1,h2⟩:=key
 exact ⟨G,S,e,h1,h2⟩
theorem OV(t:Int)(ws:List Int):inD (.int t) (ws.map D.int)=some (decide (t∈ws)):=by
 unfold inD
 rw [wm]
 have:kE (ws.map ((λd=>bF 7 d (.int t))∘D.int))=some (ws.map λw=>decide (w=t)):=by
  induction ws with
  | nil=>rfl
  | cons c cs ih =>
   rw [fE,fE]
   show (kE _).map _=_
   rw [ih]
   rfl
 rw [this]
 show some ((ws.map λw=>decide (w=t)).any id)=_
 congr 1
 rw [IB,List.any_map,Lr,decide_eq_true_iff]
 constructor
 .rintro ⟨x,hx,e⟩
  have:x=t:=by simpa using e
  rw [<-this];exact hx
 .exact λh=>⟨t,h,by simp⟩
noncomputable def due(ks:List Int)(n:Int):Int:=if 30<n then 0 else if 1∈ks then 1 else if 2∈ks then 2 else if 3∈ks then 3 else if 4∈ks then 4 else 9
theorem Xc{ks:List Int}{i:Int}{b:Bool}{x1:Sl}:bT (ah Bs (eV 2) (eV 0)) [.sh (.lst b (ks.map D.int)),x1,.sh (.int i)]=some (decide (i∈ks)):=by
 show AQ ((inD (.int i) (ks.map D.int)).map λk=>Sl.sh (.bl k))=_
 rw [OV]
 rfl
theorem LP{ks:List Int}{i:Int}{b:Bool}{x1 x2:Sl}{ds:List D}{Q:Fl×En->Prop}(h:i∈ks->Q (.rt (.sh (.int i)),[.sh (.lst b (ks.map D.int)),x1,.sh (.int i)]))(g:i∉ks->Wo (forL (gN 2) (cz (bT (ah Bs (eV 2) (eV 0))) (bz (eV 2)) de) ds [.sh (.lst b (ks.map D.int)),x1,.sh (.int i)]) Q):Wo (forL (gN 2) (cz (bT (ah Bs (eV 2) (eV 0))) (bz (eV 2)) de) (.int i::ds) [.sh (.lst b (ks.map D.int)),x1,x2]) Q:=by
 rw [a4H]
 refine ⟨[.sh (.lst b (ks.map D.int)),x1,.sh (.int i)],rfl,?_⟩
 by_cases hi:i∈ks
 .exact Jo (by rw [Xc,decide_eq_true hi]) (Wo_ret.mpr (WE (a:=.sh (.int i)) rfl (h hi)))
 .exact LX (by rw [Xc,decide_eq_false hi]) ⟨_,rfl,g hi⟩
theorem Ii(ks:List Int)(n:Int){b:Bool}:BM [.lst b (ks.map D.int),.int n]=some (.sh (.int (due ks n))):=by
 refine Wo.eq (uQ.mpr ?_)
 unfold Th
 by_cases h:30<n
 .refine a4c (show some (decide (n>30))=_ by rw [decide_eq_true h]) (WE (a:=.sh (.int 0)) rfl ?_)
  unfold due
  rw [if_pos h]
 .refine a0X (show some (decide (n>30))=_ by rw [decide_eq_false h]) ?_
  rw [Wo_seq,b2d]
  refine ⟨[.int 1,.int 2,.int 3,.int 4],by kernel_rfl,?_⟩
  refine LP (λh1=>?_) λh1=>LP (λh2=>?_) λh2=>LP (λh3=>?_) λh3=>LP (λh4=>?_) λh4=>⟨_,rfl,Wo_ret.mpr (WE (a:=.sh (.int 9)) rfl ?_)⟩
  .show Sl.sh (.int 1)=_
   unfold due
   rw [if_neg h,if_pos h1]
  .show Sl.sh (.int 2)=_
   unfold due
   rw [if_neg h,if_neg h1,if_pos h2]
  .show Sl.sh (.int 3)=_
   unfold due
   rw [if_neg h,if_neg h1,if_neg h2,if_pos h3]
  .show Sl.sh (.int 4)=_
   unfold due
   rw [if_neg h,if_neg h1,if_neg h2,if_neg h3,if_pos h4]
  .show Sl.sh (.int 9)=_
   unfold due
   rw [if_neg h,if_neg h1,if_neg h2,if_neg h3,if_neg h4]
theorem St.skip{R:Str->Nat}{F:List (Str×Tr)}{ks:List Int}{k:Int}(h:St R F ks)(hk:k≠1/\k≠2/\k≠3/\k≠4):St R F (k::ks):=
 h.ext (S:=[]) (λq z=>(nomatch z)) (λq z=>(nomatch z)) (λz=>(hk.1 z).elim) (λz=>(hk.2.1 z).elim) (λ_ _ z=>z) (λz=>(hk.2.2.1 z).elim) (λq z=>(nomatch z)) (λ_ q z=>(nomatch z)) (λz=>(hk.2.2.2 z).elim) (λq z=>(nomatch z))
theorem St.same{R:Str->Nat}{F:List (Str×Tr)}{ks ls:List Int}(h:St R F ks)(e:∀i,i∈ks↔i∈ls):St R F ls:=by
 refine ⟨h.ok,λq hq=>?_,λz=>h.bd ((e _).mpr z),λz=>h.tw ((e _).mpr z),λy z=>h.nd (λw=>y ((e _).mp w)) (λw=>z ((e _).mp w)),λz=>h.ms ((e _).mpr z),λq hq=>?_,λz=>h.uc λw=>z ((e _).mp w),λz=>h.rg ((e _).mpr z),h.rk⟩
 .rw [<-e]
  exact h.nm q hq
 .rw [<-e,<-e]
  exact h.sp q hq
theorem b7p{k:Int}{F S:List (Str×Tr)}(h:Sp k F S):S.length<=31:=by
 rcases h with ⟨rfl,rfl⟩ | ⟨rfl,b,hb,rfl⟩ | ⟨rfl,x,hx,rfl⟩ | ⟨rfl,rfl⟩ | ⟨rfl,rfl⟩ | ⟨k56,fu,rfl⟩
 case inr.inr.inr.inr.inr=>rw [bY,wg];omega
 all_goals exact q9 rfl
noncomputable def told(d:Int):List D:=if d=9 then [] else [.bl (decide (d=0)),.bl (decide (d=1)),.bl (decide (d=2)),.bl (decide (d=3)),.bl (decide (d=4)),.bl true]
noncomputable abbrev Uw:SF:=aD (dM 6 (bh 2 BM (ae (eV 2) (ae (cV (bV 1)) aa)))) (aD (cz (bT (ah bK (eV 6) (eC (.int 9)))) (bz (ah bK (eV 4) (b9 aa))) de) (bz (ah bK (eV 4) (ah bb (gS (iY tE (ae (eC (.int 5)) aa)) [6] 1 (gN 0) km (ah bK (eV 0) (eV 1))) (b9 (ae (eC (.bl true)) aa))))))
theorem Il(ks:List Int)(n:Int):due ks n=0\/due ks n=1\/due ks n=2\/due ks n=3\/due ks n=4\/due ks n=9:=by
 unfold due
 repeat' split
 all_goals simp
theorem Ja{x0 x3 x5 x6:Sl}{F:List (Str×Tr)}{ks:List Int}:Wo (Uw [x0,.sh (.lst false (F.map Pq)),.sh (.lst false (ks.map D.int)),x3,.sh (.lst false (told (due ks F.length))),x5,x6]) (dA λr=>r=.sh (.bl true)):=by
 rw [Wo_seq]
 have e:bh 2 BM (ae (eV 2) (ae (cV (bV 1)) aa)) [x0,.sh (.lst false (F.map Pq)),.sh (.lst false (ks.map D.int)),x3,.sh (.lst false (told (due ks F.length))),x5,x6]=some (.sh (.int (due ks F.length))):=by
  show BM [.lst false (ks.map D.int),.int ((F.map Pq).length:Nat)]=_
  rw [bY,Ii]
 refine lQ e (q9 (by kernel_rfl)) ?_
 have v:=Il ks F.length
 generalize due ks F.length=d at *
 refine ⟨(.rt (.sh (.bl true)),[x0,.sh (.lst false (F.map Pq)),.sh (.lst false (ks.map D.int)),x3,.sh (.lst false (told d)),x5,.sh (.int d)]),?_,rfl⟩
 rcases v with rfl | rfl | rfl | rfl | rfl | rfl<;>kernel_rfl
noncomputable abbrev HND:SF:=aD (dM 4 (b9 (ae (jT (cZ "BadName" false (cZ "NoOffer" false (cZ "Ring" false (cZ "TooMany" true (cZ "Twice" false uL))))) (eV 5)) (ae (jT (cZ "BadName" true (cZ "NoOffer" false (cZ "Ring" false (cZ "TooMany" false (cZ "Twice" false uL))))) (eV 5)) (ae (jT (cZ "BadName" false (cZ "NoOffer" false (cZ "Ring" false (cZ "TooMany" false (cZ "Twice" true uL))))) (eV 5)) (ae (jT (cZ "BadName" false (cZ "NoOffer" true (cZ "Ring" false (cZ "TooMany" false (cZ "Twice" false uL))))) (eV 5)) aa))))))
 (dM 4 (ah bb (eV 4) (b9 (ae (jT (cZ "BadName" false (cZ "NoOffer" false (cZ "Ring" true (cZ "TooMany" false (cZ "Twice" false uL))))) (eV 5)) (ae (jT (cZ "BadName" true (cZ "NoOffer" true (cZ "Ring" true (cZ "TooMany" true (cZ "Twice" true uL))))) (eV 5)) aa)))))
noncomputable def Na:List (Str×Int):=[("TooMany",0),("BadName",1),("Twice",2),("NoOffer",3),("Ring",4)]
theorem I0{x0 x2 x3 x6:Sl}{F:List (Str×Tr)}{nm:Str}{d:Int}(h:(nm,d)∈Na)(hb:qg [.lst false (F.map Pq)]=some nm/\oM [.lst false (F.map Pq)]=none):Wo (mL 5 (pL "BadName" (pL "NoOffer" (pL "Ring" (pL "TooMany" (pL "Twice" L5))))) (rj (iH "Book" 1 BL oM (ae (eV 1) aa))) (rE (yI 1 qg (ae (eV 1) aa))) HND [x0,.sh (.lst false (F.map Pq)),x2,x3,.sh (.lst false []),.no,x6]) λp=>p=(.nx,[x0,.sh (.lst false (F.map Pq)),x2,x3,.sh (.lst false (told d)),.no,x6]):=by
 refine b6n (nm:=nm) (env1:=[x0,.sh (.lst false (F.map Pq)),x2,x3,.sh (.lst false []),.no,x6]) ?_ ?_ ?_ (q9 (by kernel_rfl)) ?_
 .show CO _ (CO _ (oM [.lst false (F.map Pq)]))=_
  rw [hb.2]
  rfl
 .show CO _ (qg [.lst false (F.map Pq)])=_
  rw [hb.1]
  rfl
 .simp only [Na,cL,sX,or_false,Lf] at h
  rcases h with ⟨rfl,rfl⟩ | ⟨rfl,rfl⟩ | ⟨rfl,rfl⟩ | ⟨rfl,rfl⟩ | ⟨rfl,rfl⟩<;>decide +kernel
 .simp only [Na,cL,sX,or_false,Lf] at h
  refine ⟨(.nx,[x0,.sh (.lst false (F.map Pq)),x2,x3,.sh (.lst false (told d)),.sh (.exc nm),x6]),?_,rfl⟩
  rcases h with ⟨rfl,rfl⟩ | ⟨rfl,rfl⟩ | ⟨rfl,rfl⟩ | ⟨rfl,rfl⟩ | ⟨rfl,rfl⟩<;>kernel_rfl
theorem I9{R:Str->Nat}{x0 x2 x3 x6:Sl}{F:List (Str×Tr)}{ks:List Int}(hl:F.length<=1000)(h9:∀x,Ring x↔9<=R x)(st:F.length<=30->St R F ks):Wo (mL 5 (pL "BadName" (pL "NoOffer" (pL "Ring" (pL "TooMany" (pL "Twice" L5))))) (rj (iH "Book" 1 BL oM (ae (eV 1) aa))) (rE (yI 1 qg (ae (eV 1) aa))) HND [x0,.sh (.lst false (F.map Pq)),x2,x3,.sh (.lst false []),.no,x6]) λp=>p=(.nx,[x0,.sh (.lst false (F.map Pq)),x2,x3,.sh (.lst false (told (due ks F.length))),.no,x6]):=by
 have m:∀{nm:Str} {d:Int},(nm,d)∈Na->due ks F.length=d->qg [.lst false (F.map Pq)]=some nm/\oM [.lst false (F.map Pq)]=none->_:=λ{nm d} h e hb=>e▸I0 (x0:=x0) (x2:=x2) (x3:=x3) (x6:=x6) h hb
 by_cases h0:30<F.length
 .exact m (nm:="TooMany") (d:=0) (by decide +kernel) (by unfold due;rw [if_pos (by omega)]) (b8P h0 hl)
 .have n0:¬(30:Int)<F.length:=by omega
  have l:F.length<=30:=by omega
  have s:=st l
  by_cases h1:1∈ks
  .exact m (nm:="BadName") (d:=1) (by decide +kernel) (by unfold due;rw [if_neg n0,if_pos h1]) (GJ s l h1)
  by_cases h2:2∈ks
  .exact m (nm:="Twice") (d:=2) (by decide +kernel) (by unfold due;rw [if_neg n0,if_neg h1,if_pos h2]) (Ov s l h1 h2)
  by_cases h3:3∈ks
  .exact m (nm:="NoOffer") (d:=3) (by decide +kernel) (by unfold due;rw [if_neg n0,if_neg h1,if_neg h2,if_pos h3]) (Ow s l h1 h2 h3)
  by_cases h4:4∈ks
  .exact m (nm:="Ring") (d:=4) (by decide +kernel) (by unfold due;rw [if_neg n0,if_neg h1,if_neg h2,if_neg h3,if_pos h4]) (b7V s l h9 h1 h2 h3 h4)
  have ed:due ks F.length=9:=by unfold due;rw [if_neg n0,if_neg h1,if_neg h2,if_neg h3,if_neg h4]
  rw [ed]
  refine b6o (WE ?_ rfl)
  show CO _ (CO _ (oM [.lst false (F.map Pq)]))=_
  rw [b7W s l h9 h1 h2 h3 h4]
  rfl
theorem fin(ns:List Int)(Bp:ns.length<=63):Mi [.lst true (ns.map D.int)]=some (.sh (.bl true)):=by
 obtain ⟨a,b,m,n,L,M,eb,hB,hp,hn,ha,hb⟩:=b8G ns Bp (r:=true)
 have st:=b4X hB hp hn.2 ha hb
 have hM:M.length=n:=by
  have:=congrArg CN hB.ks
  rw [hp.length_eq]
  simpa using this
 refine Wo.eq (J0.mpr ?_)
 unfold Rm
 have hc:gS (fw (bh 1 Du (ae (eV 0) aa))) [] 1 (gN 0) km (dF (ae (cW (bV 0) (eC (.int 0))) (ae (bh 1 (uN 6) (ae (cW (bV 0) (eC (.int 1))) aa)) aa))) [.sh (.lst true (ns.map D.int)),.no,.no,.no,.no,.no,.no]=some (.ow (M.map Pq)):=by
  refine Wo.eq ?_
  walk_at "o1"
  rw [eb]
  walk_at "o1"
  refine ⟨by rw [bY];lia,_,DL.comp_map Pd Pq (λe=>e.length=1) M (λq hq e he=>?_) rfl,rfl⟩
  obtain ⟨y0,rfl⟩:∃y0,e=[y0]:=by
   match e,he with
   | [a],_=>exact ⟨a,rfl⟩
  unfold Pd
  walk_at "o1"
  rw [b8E q.2 6 (st.ok q hq).2 (st.ok q hq).1]
  walk_at "o1"
  rfl
 rw [Wo_seq]
 refine lQ hc (q9 (by kernel_rfl)) ?_
 rw [Wo_seq]
 have e0:=yk ns 0 (by decide) (r:=true)
 generalize ns.getD (0:Int).toNat 0=h at e0
 have hk:b9 (ae (ah ej (ah kD (bh 2 pP (ae (eV 0) (ae (eC (.int 0)) aa))) (eC (.int 24))) (eC (.int 7))) (ae (ah ej (ah kD (bh 2 pP (ae (eV 0) (ae (eC (.int 0)) aa))) (eC (.int 168))) (eC (.int 7))) aa)) [.sh (.lst true (ns.map D.int)),.sh (.lst false (M.map Pq)),.no,.no,.no,.no,.no]=some (.ow [.int (h/24%7),.int (h/168%7)]):=by
  refine Wo.eq ?_
  walk_at "o1"
  rw [e0]
  walk_at "o1"
  exact ⟨by walk_at "sc",by walk_at "sc"⟩
 refine lQ hk (q9 (by kernel_rfl)) ?_
 have b1:0<=h/24%7/\h/24%7<=6:=by lia
 have b2:0<=h/168%7/\h/168%7<=6:=by lia
 generalize h/24%7=k1 at *
 generalize h/168%7=k2 at *
 rw [Wo_seq]
 refine Wo.mono (P:=λp=>∃ks:List Int,p=(.nx,[.sh (.lst true (ns.map D.int)),.sh (.lst false (M.map Pq)),.sh (.lst false (ks.map D.int)),.no,.no,.no,.no])/\ks.Nodup/\ks.length<=2/\∀k∈ks,0<=k/\k<=6) ?_ ?_
 .have ct:bT (ah bK (cW (bV 2) (eC (.int 0))) (cW (bV 2) (eC (.int 1)))) [.sh (.lst true (ns.map D.int)),.sh (.lst false (M.map Pq)),.sh (.lst false [.int k1,.int k2]),.no,.no,.no,.no]=some (decide (k1=k2)):=rfl
  by_cases e:k1=k2
  .refine Jo (by rw [<-decide_eq_true e];exact ct) (WE (a:=(.nx,[.sh (.lst true (ns.map D.int)),.sh (.lst false (M.map Pq)),.sh (.lst false [.int k1]),.no,.no,.no,.no])) (by kernel_rfl) ⟨[k1],rfl,by simp,by simp,λk hk=>?_⟩)
   rw [je.mp hk]
   exact b1
  .refine LX (by rw [<-decide_eq_false e];exact ct) ⟨_,rfl,[k1,k2],rfl,by simp [e],by simp,λk hk=>?_⟩
   rcases cL.mp hk with rfl | hk
   .exact b1
   .rw [je.mp hk]
    exact b2
 rintro _ ⟨ks,rfl,nd,l2,kb⟩
 rw [a2l,Wo_seq]
 refine Wo.mono (P:=λp=>∃(F:List (Str×Tr)) (x3:Sl),p=(.nx,[.sh (.lst true (ns.map D.int)),.sh (.lst false (F.map Pq)),.sh (.lst false (ks.map D.int)),x3,.no,.no,.no])/\F.length<=1000/\(F.length<=30->St (Rk a b m) F ks.reverse)) ?_ ?_
 .walk_at "o1"
  refine Mt D.int (λpre env=>∃(F:List (Str×Tr)) (x3:Sl),env=[.sh (.lst true (ns.map D.int)),.sh (.lst false (F.map Pq)),.sh (.lst false (ks.map D.int)),x3,.no,.no,.no]/\(F≠[]/\F.length<=4+31*pre.length)/\(F.length<=30->St (Rk a b m) F pre.reverse)) ks (λpre k post env e h=>?_) (λenv h=>?_) ⟨M,_,rfl,⟨λz=>by rw [z] at hM;simp at hM;lia,by lia⟩,λ_=>st⟩
  .obtain ⟨F,x3,rfl,⟨hF,hl⟩,hs⟩:=h
   have kk:=kb k (by rw [e];simp)
   have fm:pre.length<=1:=by
    have:=congrArg CN e
    simp at this
    lia
   have hkp:k∉pre.reverse:=by
    rw [e] at nd
    rw [List.mem_reverse]
    intro z
    exact (C3.mp nd).2.2 k z k gi rfl
   refine ⟨[.sh (.lst true (ns.map D.int)),.sh (.lst false (F.map Pq)),.sh (.lst false (ks.map D.int)),.sh (.int k),.no,.no,.no],rfl,?_⟩
   have pz:mI (bT (ah vL (cV (bV 1)) (ah bb (eC (.int 25)) (eV 3)))) (bT (ah vL (eV 3) (eC (.int 5)))) [.sh (.lst true (ns.map D.int)),.sh (.lst false (F.map Pq)),.sh (.lst false (ks.map D.int)),.sh (.int k),.no,.no,.no]=some (decide ((F.length:Int)<25+k)||decide (k<5)):=by
    have q:bT (ah vL (cV (bV 1)) (ah bb (eC (.int 25)) (eV 3))) [.sh (.lst true (ns.map D.int)),.sh (.lst false (F.map Pq)),.sh (.lst false (ks.map D.int)),.sh (.int k),.no,.no,.no]=some (decide ((F.length:Int)<25+k)):=by
     show some (decide ((((F.map Pq).length:Nat):Int)<25+k))=_
     rw [bY]
    unfold mI
    rw [q]
    cases decide ((F.length:Int)<25+k)<;>rfl
   by_cases hc:(F.length:Int)<25+k\/k<5
   .have e1:=yk ns (1+k) (by lia) (r:=true)
    obtain ⟨G,S,es,pg,sp⟩:=b3h k (ns.getD (1+k).toNat 0) kk F hF (by lia) (λz=>by lia)
    refine Jo (by rw [pz];rcases hc with hc | hc<;>simp [hc]) ?_
    rw [a2E]
    walk_at "o1"
    rw [e1]
    walk_at "o1"
    rw [es]
    walk_at "o1"
    have gl:G.length=S.length+F.length:=by rw [pg.length_eq,fD]
    have sl:=b7p sp
    refine ⟨G,_,rfl,⟨λz=>?_,?_⟩,λVZ=>?_⟩
    .have:=Wc.mpr hF
     rw [z] at gl
     simp at gl
     lia
    .rw [fD,yv]
     lia
    .rw [Wb]
     exact ((hs (by lia)).step hkp sp (by rw [fD];lia) Gh).perm pg
   .refine LX (by rw [pz];simp only [not_or] at hc;simp [hc.1,hc.2]) ⟨_,rfl,F,_,rfl,⟨hF,?_⟩,λVZ=>?_⟩
    .rw [fD,yv]
     lia
    .rw [Wb]
     exact St.skip (hs VZ) (by lia)
  .obtain ⟨F,x3,rfl,⟨hF,hl⟩,hs⟩:=h
   exact ⟨F,x3,rfl,by lia,hs⟩
 rintro _ ⟨F,x3,rfl,hl,hs⟩
 rw [a2l,Wo_seq]
 refine lQ (r:=.ow []) rfl (q9 (by kernel_rfl)) ?_
 rw [Wo_seq]
 refine Wo.mono (I9 (F:=F) (ks:=ks) (R:=Rk a b m) hl Of λz=>?_) ?_
 .exact St.same (hs z) λi=>List.mem_reverse
 .rintro _ rfl
  exact Ja
end My
namespace PySem.W.Fast
theorem tw9748439098453014646:True:=trivial
theorem tw6636512411919086652:True:=trivial
theorem tw1416026183298258859:True:=trivial
theorem tw14150183237151562138:True:=trivial
theorem tw8312993264034567514:True:=trivial
theorem tw10920603401851696529:True:=trivial
theorem tw10025606963660896270:True:=trivial
theorem tw4420771058779222522:True:=trivial
theorem tw6238844091379165910:True:=trivial
theorem tw14530745807618780986:True:=trivial
theorem tw11077067741380089010:True:=trivial
theorem tw13493727563832366077:True:=trivial
theorem tw11903971732592274423:True:=trivial
theorem tw15776903619009842808:True:=trivial
theorem tw1529718250975131884:True:=trivial
theorem tw10854914975239142245:True:=trivial
theorem tw1383500750667786062:True:=trivial
theorem tw4788977368177553845:True:=trivial
theorem tw13266731319264683401:True:=trivial
theorem tw626780061774356793:True:=trivial
theorem tw8200508292232093784:True:=trivial
theorem tw15787277265388914092:True:=trivial
theorem tw7393685718915054449:True:=trivial
theorem tw12319212584277859608:True:=trivial
theorem tw9319492614226405335:True:=trivial
theorem tw5592350822042132853:True:=trivial
theorem tw4341840514793397716:True:=trivial
theorem tw6455437041629503290:True:=trivial
theorem tw4466827608217064252:True:=trivial
theorem tw17426490767255010843:True:=trivial
theorem tw14098732255539565634:True:=trivial
theorem tw5299204699279839316:True:=trivial
theorem tw1478344005275099274:True:=trivial
theorem tw7329094877386336331:True:=trivial
theorem tw2059116795172972833:True:=trivial
theorem tw10699415064381630445:True:=trivial
theorem tw698665449842181749:True:=trivial
theorem tw16097509745384561189:True:=trivial
theorem tw15260355524382187513:True:=trivial
theorem tw3408161896015098625:True:=trivial
theorem tw10881318731657242311:True:=trivial
theorem tw15763685217075067920:True:=trivial
theorem tw2029404394885428443:True:=trivial
theorem tw1526846773482024084:True:=trivial
theorem tw16947645244046251718:True:=trivial
theorem tw3336501101833523236:True:=trivial
theorem tw3556871143235817573:True:=trivial
theorem tw8517892394570462854:True:=trivial
theorem tw12011666249468578268:True:=trivial
theorem tw16193154851557730804:True:=trivial
theorem tw11016874000032426842:True:=trivial
theorem tw10709579698263060772:True:=trivial
theorem tw5537265186633555586:True:=trivial
theorem tw1610969591093214539:True:=trivial
theorem tw10463708803300852180:True:=trivial
theorem tw4753558665059494149:True:=trivial
theorem tw4000688047555858044:True:=trivial
theorem tw12474780792426794570:True:=trivial
theorem tw5891472070544786996:True:=trivial
theorem tw2875933955003423117:True:=trivial
theorem tw7243602291511660771:True:=trivial
theorem tw11240899671175611819:True:=trivial
theorem tw2078671017906626957:True:=trivial
theorem tw13358152485210285730:True:=trivial
theorem tw17653484410743898010:True:=trivial
theorem tw5835627531505419318:True:=trivial
theorem tw804750759119864279:True:=trivial
theorem tw2786398293881654124:True:=trivial
theorem tw12436195314047773947:True:=trivial
theorem tw11212966953188778305:True:=trivial
theorem tw17709939729244737670:True:=trivial
theorem tw363601256194756785:True:=trivial
theorem tw7192589266364290675:True:=trivial
theorem tw10007244217250794979:True:=trivial
theorem tw9574672454762942403:True:=trivial
theorem tw10604430345655890550:True:=trivial
theorem tw3763451078845051707:True:=trivial
theorem tw2030465085038147345:True:=trivial
theorem tw4990510913905429118:True:=trivial
theorem tw17727000610610429105:True:=trivial
theorem tw16503726089692783592:True:=trivial
theorem tw18300990458891263319:True:=trivial
theorem tw3357361730278428553:True:=trivial
theorem tw16855309319629197558:True:=trivial
theorem tw11173685715723646814:True:=trivial
theorem tw18435099199040017384:True:=trivial
theorem tw15285816142168694858:True:=trivial
theorem tw8040236000900044590:True:=trivial
theorem tw5780473506605470606:True:=trivial
theorem tw4595238185827783935:True:=trivial
theorem tw2185461531544768476:True:=trivial
theorem tw14276260185219720648:True:=trivial
theorem tw17772852958733664653:True:=trivial
theorem tw17794394077804444925:True:=trivial
theorem tw7551796942649125054:True:=trivial
theorem tw2806729909411958906:True:=trivial
theorem tw6915155502034357486:True:=trivial
theorem tw15648854480660797117:True:=trivial
theorem tw12253112861286716448:True:=trivial
theorem tw3283343691733066492:True:=trivial
theorem tw11046535257432433878:True:=trivial
theorem tw9524803760161357997:True:=trivial
theorem tw10287758694846872077:True:=trivial
theorem tw5522568867828352735:True:=trivial
theorem tw5259029428519553914:True:=trivial
theorem tw3345498786727710399:True:=trivial
theorem tw2597585729581574522:True:=trivial
theorem tw18136957697696163011:True:=trivial
theorem tw1996051900570169565:True:=trivial
theorem tw13316493846308772338:True:=trivial
theorem tw11193331379754567565:True:=trivial
theorem tw10200508257609812444:True:=trivial
theorem tw15320985760481114177:True:=trivial
theorem tw9196829674734964737:True:=trivial
theorem tw3759818482137618651:True:=trivial
theorem tw17200575787736272150:True:=trivial
theorem tw10333019980027996174:True:=trivial
theorem tw6215767443038393135:True:=trivial
theorem tw7322347562569561433:True:=trivial
theorem tw7597437486080503891:True:=trivial
theorem tw13501062447300794505:True:=trivial
theorem tw3424581016369239726:True:=trivial
theorem tw11218930405231708136:True:=trivial
theorem tw4958744838574735457:True:=trivial
theorem tw17772668218842489756:True:=trivial
theorem tw12038195458869252131:True:=trivial
theorem tw17062273291805832087:True:=trivial
theorem tw17090912378062532318:True:=trivial
theorem tw10684996598508201743:True:=trivial
theorem tw10832341152573132045:True:=trivial
theorem tw3919347379674370004:True:=trivial
theorem tw13360756390493301340:True:=trivial
theorem tw1393200524290789539:True:=trivial
theorem tw18429966078918879068:True:=trivial
theorem tw2372547072381249194:True:=trivial
theorem tw1585427643175152041:True:=trivial
theorem tw1844103278350825353:True:=trivial
theorem tw12190328229256236169:True:=trivial
theorem tw13987727752912164428:True:=trivial
theorem tw3761293477503433600:True:=trivial
theorem tw15873534844947516081:True:=trivial
theorem tw6838092730836411247:True:=trivial
theorem tw3285909859633663913:True:=trivial
theorem tw12776806939415939948:True:=trivial
theorem tw1020266912987837537:True:=trivial
theorem tw4671539462553365685:True:=trivial
theorem tw15098121485675082056:True:=trivial
theorem tw9745880523942660286:True:=trivial
theorem tw9274327028455520273:True:=trivial
theorem tw1181362744148294248:True:=trivial
theorem tw15725466526734651778:True:=trivial
theorem tw17479069537627035251:True:=trivial
theorem tw11376013476672772785:True:=trivial
theorem tw146116479201770396:True:=trivial
theorem tw6891503434732146335:True:=trivial
theorem tw8757508114273213990:True:=trivial
theorem tw17772457503856688733:True:=trivial
theorem tw8619021709049221404:True:=trivial
theorem tw16004252833765668150:True:=trivial
theorem tw15948067927565404037:True:=trivial
theorem tw9525822126312937524:True:=trivial
theorem tw14384350659089868817:True:=trivial
theorem tw15558658614743497359:True:=trivial
theorem tw8512769762072509323:True:=trivial
theorem tw5886875944839318432:True:=trivial
theorem tw16005131655176101239:True:=trivial
theorem tw8203016576503202211:True:=trivial
theorem tw16093030438302930938:True:=trivial
theorem tw9964687262523744638:True:=trivial
theorem tw15115215609924233214:True:=trivial
theorem tw1786239207472913954:True:=trivial
theorem tw6091079331826793708:True:=trivial
theorem tw987963087257663187:True:=trivial
theorem tw4899464922758436524:True:=trivial
theorem tw12438355379412767061:True:=trivial
theorem tw17853797125533819646:True:=trivial
theorem tw9544355229833859695:True:=trivial
theorem tw14438668326495759503:True:=trivial
theorem tw9680361732994627982:True:=trivial
theorem tw8324087165334654118:True:=trivial
theorem tw400895242718068019:True:=trivial
theorem tw657953108476262447:True:=trivial
theorem tw3956943627575006455:True:=trivial
theorem tw438307036635269222:True:=trivial
theorem tw11974222280267165021:True:=trivial
theorem tw7194672388208369:True:=trivial
theorem tw6418626309382380348:True:=trivial
theorem tw4024417961210566711:True:=trivial
theorem tw15893051227178103840:True:=trivial
theorem tw12268945797891098348:True:=trivial
theorem tw6025692709668780363:True:=trivial
theorem tw9094739851898195798:True:=trivial
theorem tw4409996673694788824:True:=trivial
theorem tw14310476177457046979:True:=trivial
theorem tw1410117434525593808:True:=trivial
theorem tw11603207056578541238:True:=trivial
theorem tw9529440401976940112:True:=trivial
theorem tw7332412653517265859:True:=trivial
theorem tw17552755048123741064:True:=trivial
theorem tw5242159321129965521:True:=trivial
theorem tw16122528671334368687:True:=trivial
theorem tw4253255164508099351:True:=trivial
theorem tw6597659832522936588:True:=trivial
theorem tw12766418575094995046:True:=trivial
theorem tw5880382355105853975:True:=trivial
theorem tw8170585523936385866:True:=trivial
theorem tw4447923091588714532:True:=trivial
theorem tw6607255599165117885:True:=trivial
theorem tw1602891000166734:True:=trivial
theorem tw9007881025263620467:True:=trivial
theorem tw12966030657888401301:True:=trivial
theorem tw1100968367749978490:True:=trivial
theorem tw10163528796339482535:True:=trivial
theorem tw6019363216261919139:True:=trivial
theorem tw225841318018004661:True:=trivial
theorem tw17407014683561086989:True:=trivial
theorem tw15612102337192021486:True:=trivial
theorem tw9386229741848697615:True:=trivial
theorem tw5742308389802530284:True:=trivial
theorem tw17599452075095316107:True:=trivial
theorem tw3955638346534951387:True:=trivial
theorem tw6906816468563832750:True:=trivial
theorem tw11006850195830840339:True:=trivial
theorem tw5445917044372064772:True:=trivial
theorem tw11636075530766132712:True:=trivial
theorem tw10409393110246607873:True:=trivial
theorem tw11248227474504588438:True:=trivial
theorem tw14240192751629321990:True:=trivial
theorem tw5429828467547722941:True:=trivial
theorem tw11279856971986336263:True:=trivial
theorem tw17370433897417762899:True:=trivial
theorem tw8923378254401526971:True:=trivial
theorem tw15975585421220266881:True:=trivial
theorem tw6819296625706037945:True:=trivial
theorem tw2060283085950111202:True:=trivial
theorem tw15027325749578101118:True:=trivial
theorem tw5038395792295645865:True:=trivial
theorem tw4797257194036091635:True:=trivial
theorem tw2694410764601869171:True:=trivial
theorem tw8217607256099004677:True:=trivial
theorem tw17792840664486864995:True:=trivial
theorem tw11174201206919413294:True:=trivial
theorem tw11246492572539976909:True:=trivial
theorem tw4405738702045376704:True:=trivial
theorem tw2229200199537058984:True:=trivial
theorem tw17328463651848312140:True:=trivial
theorem tw8801764744227217170:True:=trivial
theorem tw17331623194788679672:True:=trivial
theorem tw3824546056065238203:True:=trivial
theorem tw17484693161391457365:True:=trivial
theorem tw16945705700486500449:True:=trivial
theorem tw14285996876216264154:True:=trivial
theorem tw11538004604067555484:True:=trivial
theorem tw7205746966776418524:True:=trivial
theorem tw17355202206273164111:True:=trivial
theorem tw849041212623863724:True:=trivial
theorem tw8442592481193987324:True:=trivial
theorem tw7952203312514157246:True:=trivial
theorem tw17604717848860145636:True:=trivial
theorem tw4022031687970620259:True:=trivial
theorem tw4213808595386169458:True:=trivial
theorem tw12599066575034990057:True:=trivial
theorem tw8180790360849871764:True:=trivial
theorem tw12943112614334052586:True:=trivial
theorem tw4960823134901513919:True:=trivial
theorem tw12534461270951442802:True:=trivial
theorem tw5539858852378293033:True:=trivial
theorem tw14188770376218123996:True:=trivial
theorem tw496137602652414251:True:=trivial
theorem tw6974050805625921402:True:=trivial
theorem tw10925185312718013887:True:=trivial
theorem tw17844322285372917280:True:=trivial
theorem tw15345054877709465148:True:=trivial
theorem tw14398936069356167946:True:=trivial
theorem tw1894854236826689017:True:=trivial
theorem tw12688835013769095146:True:=trivial
theorem tw12999645679144539219:True:=trivial
theorem tw4918071470740674589:True:=trivial
theorem tw5129269903919129367:True:=trivial
theorem tw17079493005507677501:True:=trivial
theorem tw3951972872780964938:True:=trivial
theorem tw9476400174936562652:True:=trivial
theorem tw6117864004380191901:True:=trivial
theorem tw10036646764640420493:True:=trivial
theorem tw16875754378721590226:True:=trivial
theorem tw4316653788054127327:True:=trivial
theorem tw4822840641459301187:True:=trivial
theorem tw9993569143281318656:True:=trivial
theorem tw6010683645640493811:True:=trivial
theorem tw3798115673460570566:True:=trivial
theorem tw16286960592046374504:True:=trivial
theorem tw4007828607019553491:True:=trivial
theorem tw13890781736485872342:True:=trivial
theorem tw11680371864269763996:True:=trivial
theorem tw2177261675065647204:True:=trivial
theorem tw11350206083112806369:True:=trivial
theorem tw8839360374851896914:True:=trivial
theorem tw10556330250311422269:True:=trivial
theorem tw11210215383322441805:True:=trivial
theorem tw17998434033512523089:True:=trivial
theorem tw11757827762133123533:True:=trivial
theorem tw10157200764462996708:True:=trivial
theorem tw14278643688793936259:True:=trivial
theorem tw6803934543598106995:True:=trivial
theorem tw10091498381063990289:True:=trivial
theorem tw9048187776558216561:True:=trivial
theorem tw8585806544531617045:True:=trivial
theorem tw4448304689534933513:True:=trivial
theorem tw6174125602776011739:True:=trivial
theorem tw3127923652860745605:True:=trivial
theorem tw15619533675040682214:True:=trivial
theorem tw13879583135813992390:True:=trivial
theorem tw2532092549745680954:True:=trivial
theorem tw3103004230084600039:True:=trivial
theorem tw1191065324382033594:True:=trivial
theorem tw10442645769072065942:True:=trivial
theorem tw15241599513094966685:True:=trivial
theorem tw3544847040449001680:True:=trivial
theorem tw8226028244089221003:True:=trivial
theorem tw11539400957711861359:True:=trivial
theorem tw14856191077016469164:True:=trivial
theorem tw9452408142350509579:True:=trivial
theorem tw7897648769633715782:True:=trivial
theorem tw18059130890830185217:True:=trivial
theorem tw16873035916257901579:True:=trivial
theorem tw6121841646995491815:True:=trivial
theorem tw8333741072272195934:True:=trivial
theorem tw3400994239666697893:True:=trivial
theorem tw3186227677148436278:True:=trivial
theorem tw12032023010725082707:True:=trivial
theorem tw16832816569321818359:True:=trivial
theorem tw162478781364835304:True:=trivial
theorem tw16715993294383567669:True:=trivial
theorem tw6563246415268499016:True:=trivial
theorem tw15992352072350297474:True:=trivial
theorem tw3132307332957132177:True:=trivial
theorem tw5363016480813896440:True:=trivial
theorem tw3816387869393580231:True:=trivial
theorem tw4718098060515412739:True:=trivial
theorem tw2869865394451925128:True:=trivial
theorem tw8403050786199496502:True:=trivial
theorem tw4909869969671830945:True:=trivial
theorem tw16774571815012461052:True:=trivial
theorem tw10908616013041022754:True:=trivial
theorem tw8640904046846697423:True:=trivial
theorem tw11164220666857555851:True:=trivial
theorem tw2324740177316634706:True:=trivial
theorem tw2601352435848472956:True:=trivial
theorem tw4906877992593599208:True:=trivial
theorem tw17478557172193452015:True:=trivial
theorem tw6097887236758782102:True:=trivial
theorem tw9243386404356980223:True:=trivial
theorem tw11217557896541716951:True:=trivial
theorem tw12088004979137193578:True:=trivial
theorem tw3396916291713082899:True:=trivial
theorem tw8942300704229118735:True:=trivial
theorem tw10109325444247682282:True:=trivial
theorem tw2652397751351981047:True:=trivial
theorem tw18214304100248677060:True:=trivial
theorem tw864918812343570622:True:=trivial
theorem tw12897687803500915721:True:=trivial
theorem tw15655143839468623930:True:=trivial
theorem tw180884826640602001:True:=trivial
theorem tw17206068170056008439:True:=trivial
theorem tw16655011689768216070:True:=trivial
theorem tw1170440691002203274:True:=trivial
theorem tw4073584919073962937:True:=trivial
theorem tw9369234224245640501:True:=trivial
theorem tw14138906020762646364:True:=trivial
theorem tw16583123638784193361:True:=trivial
theorem tw17978709879922746673:True:=trivial
theorem tw12214530598108922579:True:=trivial
theorem tw8184547291077108318:True:=trivial
theorem tw16366692911273529701:True:=trivial
theorem tw7208035837456166571:True:=trivial
theorem tw5868055137746139666:True:=trivial
theorem tw1101376322188584370:True:=trivial
theorem tw3781866562861500285:True:=trivial
theorem tw1484267302724784453:True:=trivial
theorem tw15538690944096733056:True:=trivial
theorem tw4141996683308133070:True:=trivial
theorem tw15965844803153872422:True:=trivial
theorem tw7953471941160001508:True:=trivial
theorem tw11908171300661909451:True:=trivial
theorem tw17823574507380795630:True:=trivial
theorem tw17842088349618144627:True:=trivial
theorem tw14218269526537473777:True:=trivial
theorem tw10814684259433286610:True:=trivial
theorem tw18031849585831327355:True:=trivial
theorem tw4956359865986059470:True:=trivial
theorem tw6130408793501084154:True:=trivial
theorem tw13997283929330466030:True:=trivial
theorem tw3544554315819977815:True:=trivial
theorem tw9440271810142846830:True:=trivial
theorem tw9151598509412054456:True:=trivial
theorem tw4436173267765819071:True:=trivial
theorem tw3907251211577805012:True:=trivial
theorem tw7059791750326109665:True:=trivial
theorem tw4625625742064235727:True:=trivial
theorem tw9189603150434518767:True:=trivial
theorem tw11384701916452084843:True:=trivial
theorem tw12368000902730528469:True:=trivial
theorem tw4613318273527597410:True:=trivial
theorem tw4540461159853065777:True:=trivial
theorem tw8088915462302717011:True:=trivial
theorem tw7766052293088129828:True:=trivial
theorem tw17581929561614213818:True:=trivial
theorem tw2338817963659122258:True:=trivial
theorem tw7404796360802493952:True:=trivial
theorem tw4275155049115337066:True:=trivial
theorem tw8599630708825075328:True:=trivial
theorem tw9198940881001718268:True:=trivial
theorem tw5886933501741294974:True:=trivial
theorem tw16975842952479133437:True:=trivial
theorem tw5946316957917248507:True:=trivial
theorem tw16613209160956663134:True:=trivial
theorem tw12414026427897723533:True:=trivial
theorem tw9858924565909338055:True:=trivial
theorem tw2777134322688782756:True:=trivial
theorem tw6732214166069674969:True:=trivial
theorem tw4659929317806397805:True:=trivial
theorem tw840858641716950674:True:=trivial
theorem tw12926624485441295498:True:=trivial
theorem tw2046229742717591546:True:=trivial
theorem tw6888159729887548403:True:=trivial
theorem tw9604240699763181829:True:=trivial
theorem tw607944239687753685:True:=trivial
theorem tw2544392397061705936:True:=trivial
theorem tw16871189337768019988:True:=trivial
theorem tw16766285901965611442:True:=trivial
theorem tw11128239608425241154:True:=trivial
theorem tw14078203188407596803:True:=trivial
theorem tw11915800674379674045:True:=trivial
theorem tw1117866889623805096:True:=trivial
theorem tw5256701725878211677:True:=trivial
theorem tw15934323822673611330:True:=trivial
theorem tw17481213639664284779:True:=trivial
theorem tw1248374967801333916:True:=trivial
theorem tw1921078200945095603:True:=trivial
theorem tw3412246507090126463:True:=trivial
theorem tw7581113955379431881:True:=trivial
theorem tw1394058439848515248:True:=trivial
end PySem.W.Fast
open PySem PySem.W PyProof.Rows
set_option maxRecDepth 100000 in
set_option maxHeartbeats 0 in
theorem PySem.Challenge.cw_offerhouse_k82_books_refused_holds : PySem.Challenge.rw_offerhouse_k82_books_refused.Holds := by
  w_on; o_law; k_head; (case hw => w_witness2)
  k_fill
  refine DL.wW (l := PySem.Challenge.rw_offerhouse_k82_books_refused) (k := 26) ⟨rfl, by decide, by decide⟩ rfl rfl (ts := []) (fun w h Y => ⟨PySem.W.kIn_of Y, fun _ z => nomatch z⟩) (fun w => by kernel_rfl) ?F
  case F =>
    intro w mg fa h KX G Hk
    refine' My.all_mk KX G Hk ?x0 ?x1 ?x2 ?x3 ?x4 ?x5 ?x6 ?x7 ?x8 ?x9 ?xa ?xb ?xc ?xd ?xe ?xf ?xg ?xh ?xi ?xj ?xk ?xl ?xm ?xn ?xo ?xp ?xq ?xr ?xs ?xt ?xu ?xv ?xw ?xx ?xy ?xz ?x10 ?x11 ?x12 ?x13 ?x14 ?x15 ?x16 ?x17 ?x18 ?x19 ?x1a ?x1b ?x1c ?x1d ?x1e ?x1f ?x1g ?x1h ?x1i ?x1j ?x1k ?x1l ?x1m ?x1n ?x1o ?x1p ?x1q ?x1r ?x1s ?x1t ?x1u ?x1v ?x1w ?x1x ?x1y ?x1z ?x20 ?x21 ?x22 ?x23 ?x24 ?x25 ?x26 ?x27 ?x28 ?x29 ?x2a ?x2b ?x2c ?x2d ?x2e ?x2f ?x2g ?x2h ?x2i ?x2j ?x2k ?x2l ?x2m ?x2n ?x2o ?x2p ?x2q ?x2r ?x2s ?x2t ?x2u ?x2v ?x2w ?x2x ?x2y ?x2z ?x30 ?x31 ?x32 ?x33 ?x34 ?x35 ?x36 ?x37 ?x38 ?x39 ?x3a ?x3b ?x3c ?x3d ?x3e ?x3f ?x3g ?x3h ?x3i ?x3j ?x3k ?x3l ?x3m ?x3n ?x3o ?x3p ?x3q ?x3r ?x3s ?x3t ?x3u ?x3v ?x3w ?x3x ?x3y ?x3z ?x40 ?x41 ?x42 ?x43 ?x44 ?x45 ?x46 ?x47 ?x48 ?x49 ?x4a ?x4b ?x4c ?x4d ?x4e ?x4f ?x4g ?x4h ?x4i ?x4j ?x4k ?x4l ?x4m ?x4n ?x4o ?x4p ?x4q ?x4r ?x4s ?x4t ?x4u ?x4v ?x4w ?x4x ?x4y ?x4z ?x50 ?x51 ?x52 ?x53 ?x54 ?x55 ?x56 ?x57 ?x58 ?x59 ?x5a ?x5b ?x5c ?x5d ?x5e ?x5f ?x5g ?x5h ?x5i ?x5j ?x5k ?x5l ?x5m ?x5n ?x5o ?x5p ?x5q ?x5r ?x5s ?x5t ?x5u ?x5v ?x5w ?x5x ?x5y ?x5z ?x60 ?x61 ?x62 ?x63 ?x64 ?x65 ?x66 ?x67 ?x68 ?x69 ?x6a ?x6b ?x6c ?x6d ?x6e ?x6f ?x6g ?x6h ?x6i ?x6j ?x6k ?x6l ?x6m ?x6n ?x6o ?x6p ?x6q ?x6r ?x6s
    (case x0|x1|x2|x3|x4|x5|x6|x7|x8|x9|xa|xb|xc|xd|xe|xf|xg|xh|xi => constructor <;> k_is)
    (case xj => k_is)
    (case xk => exact ⟨_, by k_is⟩)
    (case xl => k_is); (case xm => k_is)
    (case xn => k_is)
    (case xo|xp => exact ⟨_, by k_is⟩)
    (case xq|xr|xs|xt|xu|xv|xw|xx|xy|xz|x10|x11|x12|x13 => k_is)
    (case x14 => kernel_rfl)
    (case x15|x16|x17|x18|x19|x1a => k_is)
    (case x1b => kernel_rfl)
    (case x1c|x1d|x1e|x1f|x1g|x1h => k_is)
    (case x1i => kernel_rfl)
    (case x1j|x1k|x1l|x1m|x1n|x1o => k_is)
    (case x1p => kernel_rfl)
    (case x1q|x1r|x1s|x1t|x1u|x1v => k_is)
    (case x1w => kernel_rfl)
    (case x1x|x1y|x1z|x20|x21|x22 => k_is)
    (case x23 => kernel_rfl)
    (case x24|x25|x26 => k_is)
    (case x27|x2f|x2n|x2t|x2z|x37|x3d|x3k|x3r|x3y|x46|x4d|x4k => exact ⟨by k_is, by k_is, by k_is, by k_is, by k_is⟩)
    (case x28|x2g|x2o|x2u|x30|x38|x3e|x3l|x3s|x3z|x47|x4e|x4l => constructor <;> k_is)
    (case x29|x2a|x2b|x2h|x2i|x2j|x2p|x2v|x31|x32|x33|x39|x3f|x3g|x3m|x3n|x3t|x3u|x40|x41|x42|x48|x49|x4f|x4g|x4m|x4n => unfold L2.ao; k_is)
    (case x2c|x2d|x2e|x2k|x2l|x2m|x2q|x2r|x2s|x2w|x2x|x2y|x34|x35|x36|x3a|x3b|x3c|x3h|x3i|x3j|x3o|x3p|x3q|x3v|x3w|x3x|x43|x44|x45|x4a|x4b|x4c|x4h|x4i|x4j => constructor <;> k_is)
    (case x4o|x4p => k_is)
    (case x4q|x4r => kernel_rfl)
    (case x4s|x4t|x4u|x4v|x4w|x4x|x4y|x4z|x50|x51|x52|x53|x54|x55|x56|x57|x58 => constructor <;> k_is)
    (case x59|x5a|x5b|x5c|x5d|x5e|x5f|x5g|x5h|x5i|x5j|x5k|x5l|x5m|x5n|x5o|x5p|x5q|x5r|x5s|x5t|x5u|x5v|x5w|x5x|x5y|x5z|x60|x61|x62|x63|x64|x65|x66|x67 => kernel_rfl)
    (case x68 => k_is)
    (case x69 => kernel_rfl)
    (case x6a => k_is)
    (case x6b => kernel_rfl)
    (case x6c => k_is)
    (case x6d => kernel_rfl)
    (case x6e => k_is)
    (case x6f => kernel_rfl)
    (case x6g => k_is)
    (case x6h => kernel_rfl)
    (case x6i => k_is)
    (case x6j => kernel_rfl)
    (case x6k => k_is)
    (case x6l => kernel_rfl)
    (case x6m => k_is)
    (case x6n => kernel_rfl)
    (case x6o => k_is)
    (case x6p => kernel_rfl)
    (case x6q => k_is)
    (case x6r => kernel_rfl)
    (case x6s => exact My.fin)
