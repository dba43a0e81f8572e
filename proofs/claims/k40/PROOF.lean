import PyProof.Rows.All
import Wide.All
import OpenK.AllK
import Wide.FinOn
import Lean
import PyProof.EqAt
import PyProof.EqKinds
import PyProof.TupleCall
import PySem.Challenge.RW_offerhouse_k40_no_rules_read
set_option Elab.async false
set_option linter.all false
set_option maxRecDepth 100000
open Array renaming length_toList->MU,append_assoc->MS,toList_inj->Rx,toList_extract->V3,toList->Q6
open Bool renaming and_eq_true->jN,false_ne_true->zq,not_eq_true->KL,false_eq_true->MR
open False renaming elim->gg
open ForInStep renaming yield->GJ
open Iff renaming rfl->CO
open Int renaming negSucc->MI,zero_add->Q2,ofNat->Mv
open List renaming getElem?_set_ne->gG,getElem?_set_self->lg,getElem?_eq_some_iff->oE,length_cons->jj,mem_cons_of_mem->mZ,mem_cons->iF,size_toArray->lI,length_append->mU,mem_cons_self->nA,length_map->kN,map_cons->jM,getElem?_eq_getElem->v5,append_assoc->pG,lookup_cons->qH,replicate->pE,all_eq_true->q9,append_nil->qJ,mem_append_right->A2,range->lT,getElem?_map->zp,mem_singleton->BK,getElem?_replicate->FK,map_nil->sx,mem_range->BI,getElem?_append_left->KO,length_take->DY,getElem?_append_right->MN,length_singleton->KE,mem_append_left->KC,getElem?_append->KA,mem_append->FF,foldl_cons->FD,nil_append->FC,map_map->CQ,filterMap_cons->Kz,cons_append->GK,lookup->CP,length_replicate->MK,length_range->Kx,mem_of_getElem?->MW,getElem_mem->KN,take_of_length_le->RC,zipWith->GO,mem_map->GN,length_tail->MO,nodup_cons->MX,length->GX,map_eq_nil_iff->RJ,getD_eq_getElem?_getD->Wi,getElem?_drop->Rm,zip_cons_cons->Rk,drop_eq_getElem_cons->V0,isEmpty_eq_false_iff->VZ,getElem?_take_of_lt->VY,getElem?_set->Rg,length_eq_zero_iff->VV,length_drop->Ra,drop_eq_nil_of_le->Wb,of_mem_zip->Ru,getElem?_zipWith->V9,mem_iff_getElem?->V8,length_zip->Rp,mem_iff_getElem->V5,idxOf_cons_self->V4,length_zipWith->V1,mem_filterMap->We
open List.cons renaming inj->MB
open Nat renaming le_refl->fQ,le_trans->iV,lt_of_lt_of_le->oC,ne_of_lt->lb,le_of_ble_eq_true->CU,lt_succ_self->A1,lt_irrefl->BL,zero_le->FG,le_of_not_lt->Q9,le_of_eq->MH,min_eq_left->Rq,ble->DV,le_of_lt->Q7,log2_lt->Q0,blt->Ks
open Ne renaming symm->pD
open Option renaming map_eq_some_iff->KG,bind_eq_some_iff->VU,bind_some->Ry,getD_none->VQ
open Option.some renaming inj->gY
open Or renaming inr->dE,inl->eO
open PyProof.Rows renaming slot_tuple_getitem->MZ,callWith_type1->RB
open PyProof.Rows.IsTup renaming new->Mw
open PySem renaming wpAny_bind->eN,wpAny_pure->jb,sizeLine_eq->kM,strLen_append->pJ,wpAny_mono->mW,wpAny_Call_Name_kw->FO,mem_of_lookup->GZ,Builtin->c1d,wpAny_truthy_bool->GL,wpAny_passesOwn->FE,wpAny_newObj_type->Ky,typeIs_str->CS,wpAny_execs_nil->KJ,call_meets->FH,codeAny_mono->Kt,wpAny_holding->MD,noFill_tuple_add->Rb,wpAny_call->Kv,seq_tuple_add->RA,Within->Q8,call->QZ
open PySem.Around renaming under->Q4
open PySem.Builtin.Int renaming intBits->V2
open PySem.Builtin.Range renaming rangeSize->VX
open PySem.Builtin.Slice renaming slicePlaces->MM,sliceAdjust->RH,sliceApplied->Wj
open PySem.Builtin.Str renaming occurrences->VW,tooLong->Wh
open PySem.Builtin.Tuple renaming tupleExact->ML
open PySem.Calls renaming Name_function_global->Wk,evalArgs_plain->V6
open PySem.Code renaming isFrame->Q3
open PySem.Env renaming kindOf->Mz
open PySem.F renaming args_tuple_add_2->RG,entry_tuple_add->RE,slot_tuple_add->RD,plainAttrs_str->MP,slot_str_split->MY,args_str_split_2->Rj,entry_str_split->Rc,slot_list_append->V',slot_str_startswith->V7
open PySem.Heap renaming get?_push_of_some->ky,lt_size->ij,get?_push_size->qI,get?_none_of_le->MJ,size_push->KI,SameBut->Ku
open PySem.IsRange renaming new->Q1
open PySem.NameKind renaming free->v8,cell->FA
open PySem.PassesOwn renaming never->BJ,leaving->VS
open PySem.Str renaming join->nP,empty->ra,ofString->GP,ofString_eq_byList->Wa
open PySem.StrLaws renaming At->Mx
open PySem.Txt renaming partition->v7,split->pH
open PySem.Value renaming ref->mV,none->FJ,builtin->MC,str->GI,int->Kw,bool->MA
open PySem.W renaming Frag->aG,nsIn->iE,mg_of->kn,findIn->pF,fnOf->pI,keepIn->ud,emptyDict->CT,callWith_K->DW,tabIn->zo,methodCall_KW->GY,mg_none_of->FN,instObj->DX,hideAll_none->KD,tabObj->GW,kitOne->GU,hideAll_get->MV,mroIn->GQ,codeIn->KH,plainGet->MQ,plainGet_of->RK,of_hideAll->Rn,lookIn->MF,looks_findIn->ME,methodObj->Ri,hasDictIn->Rh,specialIn->Rf,cellsFrom_some->Wc,hideAll->Rw,takerIn->Rv,OpenLaw->Rr,exmOne->Ro,callWith_K0->Wg,tail_of_in->Wd,clsIn->Rz,plainOver->VT,isFn->Q5,handedIn->VR,codeHdIn->VP,makesIn->VO,readsIn->VN,findCls->VM
open Sum renaming inl->Fz,inr->Fy
theorem ra0(h:True:=by first|exact .inl rfl|exact .inr rfl|assumption):True:=h
theorem ra1(h:True:=by decide):True:=h
theorem ra2(h:True:=by rfl):True:=h
theorem ra3(h:True:=by intro _;rfl):True:=h
theorem ra4(h:True:=by first|exact eO rfl|exact dE (eO rfl)|exact dE (dE rfl)):True:=h
theorem ra5(h:True:=by first|exact eO rfl|exact dE rfl):True:=h
theorem ra6(h:True:=by exact⟨rfl,rfl,rfl,by decide +kernel,rfl,by decide +kernel,by decide +kernel⟩):True:=h
theorem ra7(h:True:=by intros;rfl):True:=h
theorem ra8(h:True:=by decide +kernel):True:=h
namespace L2
open PySem PySem.Spec PyProof.Rows
abbrev Key:=Sum Int Str
def Wp:Key->Value->Bool
 | .inl k,v=>Value.isInt k v
 | .inr x,v=>Value.isStrOf x v
def Qb(w:World):Key->Int
 | .inl k=>hashInt k
 | .inr x=>hashStr w x
theorem Dg:∀{k:Key} {v:Value},Wp k v=true->(∃i t,k=Fz i/\v=Kw i t)\/(∃x t,k=Fy x/\v=GI x t)
 | .inl i,v,h=>by obtain⟨t,e⟩:=Value.isInt_shape (k:=i) (v:=v) h;exact .inl ⟨i,t,rfl,e⟩
 | .inr x,v,h=>by obtain⟨t,e⟩:=Value.isStrOf_shape (x:=x) (v:=v) h;exact .inr ⟨x,t,rfl,e⟩
theorem b9p(a b:Int):decide ((Fz a:Key)=Fz b)=(a==b):=by
 by_cases e:a=b;.subst e;simp
 .have h:¬(Fz a:Key)=Fz b:=λq=>e (Sum.inl.inj q);rw[decide_eq_false h];exact(beq_eq_false_iff_ne.mpr e).symm
theorem b9m(a b:Str):decide ((Fy a:Key)=Fy b)=decide (a=b):=by
 by_cases e:a=b;.subst e;simp
 .have h:¬(Fy a:Key)=Fy b:=λq=>e (Sum.inr.inj q);rw[decide_eq_false h,decide_eq_false e]
theorem b9o(a:Int)(b:Str):decide ((Fz a:Key)=Fy b)=false:=decide_eq_false (λq=>nomatch q)
theorem b9n(a:Str)(b:Int):decide ((Fy a:Key)=Fz b)=false:=decide_eq_false (λq=>nomatch q)
def SU(prog:Program)(w:World):PySem.KeyKind prog w Key where
 is:=Wp
 hash:=Qb w
 inj:=λv a b ha hb=>by
  rcases Dg ha with⟨i,t,rfl,rfl⟩|⟨x,t,rfl,rfl⟩
  .rcases Dg hb with⟨j,u,rfl,e⟩ | ⟨y,u,rfl,e⟩;.injection e with e1 _;rw[e1]
   .exact nomatch e
  .rcases Dg hb with⟨j,u,rfl,e⟩ | ⟨y,u,rfl,e⟩;.exact nomatch e
   .injection e with e1 _;rw[e1]
 byValue:=λk v h=>by rcases Dg h with⟨i,t,rfl,rfl⟩|⟨x,t,rfl,rfl⟩<;>rfl
 pyHash:=λhv h=>by
  rcases Dg hv with⟨i,t,rfl,rfl⟩|⟨x,t,rfl,rfl⟩;.exact wpAny_pyHash_int h
  .exact wpAny_pyHash_str h
 eqBool:=λhu hv h=>by
  rcases Dg hu with⟨i,t,rfl,rfl⟩|⟨x,t,rfl,rfl⟩
  .rcases Dg hv with⟨j,u,rfl,rfl⟩ | ⟨y,u,rfl,rfl⟩;.rw [b9p] at h;exact wpAny_eqBool_int h
   .rw [b9o] at h;exact SeqAt.EqAt.int_str i t y u _ _ _ _ h
  .rcases Dg hv with⟨j,u,rfl,rfl⟩ | ⟨y,u,rfl,rfl⟩;.rw [b9n] at h;exact SeqAt.EqAt.str_int x t j u _ _ _ _ h
   .rw [b9m] at h;exact wpAny_eqBool_str h
 «strs»:=λk x t v h=>by
  rcases Dg h with⟨i,u,rfl,e⟩|⟨y,u,rfl,e⟩;.exact nomatch e
  .injection e with e1 _;subst e1;cases v<;>rfl
end L2
namespace L2
open PySem PySem.Spec PyProof.Rows
inductive V where
 |dO|bl (b:Bool)|int (i:Int)|str (x:Str)|G0 (b:Array UInt8)|Mq (b:UInt64)|ref (a:Addr)|ty (n:String)
 deriving DecidableEq
def RelV:V->Value->Prop
 | .dO,u=>u=FJ
 | .bl b,u=>u=MA b
 | .int i,u=>∃t,u=Kw i t
 | .str x,u=>∃t,u=GI x t
 | .G0 b,u=>∃t,u=Value.bytes b t
 | .Mq b,u=>∃t,u=Value.float b t
 | .ref a,u=>u=mV a
 | .ty n,u=>u=Value.type n
abbrev aR:List V->List Value->Prop:=Paired RelV
theorem aR.length(r:aR xs us):xs.length=us.length:=Paired.length r
theorem aR.get:∀{xs:List V} {us:List Value} {i:Nat} {x:V},aR xs us->xs[i]?=some x->∃u,us[i]?=some u/\RelV x u
 |_,_,_,_,.nil,e=>by simp at e
 |_,_,0,_,.cons r _,e=>by simp at e;subst e;exact⟨_,rfl,r⟩
 |_,_,i+1,x,.cons _ t,e=>by obtain⟨u,h1,h2⟩:=aR.get (i:=i) (x:=x) t (by simpa using e);exact⟨u,by simpa using h1,h2⟩
theorem aR.append:∀{xs ys:List V} {us ws:List Value},aR xs us->aR ys ws->aR (xs++ys) (us++ws)
 |_,_,_,_,.nil,s=>s
 |_,_,_,_,.cons r t,s=>.cons r (aR.append t s)
theorem aR.take:∀{xs:List V} {us:List Value} (n:Nat),aR xs us->aR (xs.take n) (us.take n)
 |_,_,0,_=>.nil
 |_,_,_+1,.nil=>.nil
 |_,_,n+1,.cons r t=>.cons r (aR.take n t)
theorem aR.drop:∀{xs:List V} {us:List Value} (n:Nat),aR xs us->aR (xs.drop n) (us.drop n)
 |_,_,0,r=>r
 |_,_,_+1,.nil=>.nil
 |_,_,n+1,.cons _ t=>aR.drop n t
def nY:Option V->Option Value->Prop
 |some v,some u=>RelV v u
 |none,none=>True
 |_,_=>False
def KV{κ:Type}:List (κ×V)->List (κ×Value)->Prop:=Paired λ(p:κ×V) (q:κ×Value)=>p.1=q.1/\RelV p.2 q.2
def kV:Key->V
 | .inl i=>.int i
 | .inr x=>.str x
inductive HO where
 /-- a list -/
 |lst (xs:List V)
 /-- a tuple (never changes) -/
 |tup (xs:List V)
 /-- a dict DA keys are ints and texts;one DA keys are tuples of ints and texts (the empty one is both) -/
 |dK (dz:List (Key×V))|dT (dz:List (List Key×V))
 /-- a set of ints: aS members,aS size -/
 |set (S:Int->Bool) (n:Nat)
 /-- an instance of the class at C,aS dict at dx,aS attributes -/
 |ins (C dx:Addr) (fs:List (Str×V))
 /-- the dict of the instance at x -/
 |own (x:Addr)
 /-- the dict of an exception -/
 |xd (fs:List (Str×V))
 /-- a bound method,f of x -/
 |met (f x:Addr)
 /-- a range object lo,lo+1,.. below hi -/
 |L4 (lo hi:Int)
 /-- a Ie that is known to the object (the script;a dict while a loop walks it): read,never written while it is so -/
 |q8 (o:Obj) (u:HO)
 /-- a code Am table -/
 |DC (ps:Array Value)
 /-- a code Am table DA codes are all called q,and are aS own -/
 |tab (q:Str)
 /-- any other Ie,by what is true of aS one object (a def of U7 own: SetO a S n:=HO.ext λh=>..) -/
 |ext (φ:Heap->Prop)
def ownOf:HO->Option Addr
 | .own x=>some x
 | .q8 _ (.own x)=>some x
 |_=>none
def b9u(q:Str)(o:Obj):Prop:=∃vs t,o.data=.fields vs/\vs[1]?=some (.str q t)
abbrev Hp:=Addr->Option HO
def upd(H:Hp)(a:Addr)(o:HO):Hp:=λb=>if b=a then some o else H b
theorem ni:upd H a o a=some o:=by unfold upd;rw[if_pos rfl]
theorem eX(h:b≠a):upd H a o b=H b:=by unfold upd;rw[if_neg h]
theorem oM{H:Hp}{a b:Addr}{o:HO}(h:H a=some o)(h':H b=none):a≠b:=by intro e;subst e;rw[h] at h';cases h'
section
variable (P:Program)(w:World)
def gj(H:Hp)(h:Heap)(a:Addr):HO->Prop
 | .lst xs=>xs.length<=sizeLine/\∃(aS:List Value) (n:Nat),aR xs aS/\h.get? a=some { cls:=.type "list",data:=.seq aS.toArray n }
 | .tup xs=>xs.length<=sizeLine/\∃aS:List Value,aR xs aS/\IsTup h a aS.toArray
 | .dK dz=>dz.length<=sizeLine/\(a==sysModules)=false/\∃vs,KV dz vs/\h.DictOf (SU P w) a vs
 | .dT dz=>dz.length<=sizeLine/\(a==sysModules)=false/\∃xs:List (List Key×Addr×Value),
   Paired (λ(p:List Key×V) (q:List Key×Addr×Value)=>p.1=q.1/\H q.2.1=some (.tup (p.1.map kV))/\RelV p.2 q.2.2) dz xs /\
   ∃o es ep,h.get? a=some o/\o.ExactDict/\o.data=.dict es ep/\es.toList=xs.map (entryOfKey (tupleKind (SU P w)))/\(xs.map (·.1)).Nodup
 | .set S n=>h.SetOf (intKind P w) a S n
 | .ins C dx fs=>H dx=some (.own a)/\fs.length<=1000/\dx≠a/\h.get? a=some (DX C dx) /\
   ∃mA,h.Ns1 dx mA/\(∀f,nY (fs.lookup f) (mA f))/\Q8 mA (fs.map (·.1))
 | .own _=>∃o,h.get? a=some o
 | .xd fs=>∃mA,h.Ns1 a mA/\∀f,nY (fs.lookup f) (mA f)
 | .L4 lo hi=>∃t u v,h.get? a=some { cls:=.type "range",data:=.fields #[.int lo t,.int hi u,.int 1 v] }
 | .q8 o u=>h.get? a=some o/\gj H h a u
 | .DC ps=>h.get? a=some { cls:=.none,data:=.fields ps }
 | .tab q=>∃ps,h.get? a=some (GW ps)/\TriplesOk ps.toList/\∀pos cv,codeAmong pos ps.toList=some cv->∃c oc,cv=.ref c/\H c=some (.q8 oc (.own a))/\b9u q oc
 | .met f x=>h.get? a=some (Ri (.ref f) (.ref x))
 | .ext φ=>φ h/\(∃o,h.get? a=some o)/\∀h1 h2:Heap,φ h1->(∀o,h1.get? a=some o->h2.get? a=some o)->φ h2
def jK(H:Hp)(h:Heap):Prop:=∀a o,H a=some o->gj P w H h a o
end
section
variable {P:Program}{w:World}{H H':Hp}{h h':Heap}{a:Addr}{o:HO}
theorem gj.lt(x:gj P w H h a o):a<h.objs.size:=by
 cases o with
 |lst xs=>obtain⟨_,_,_,_,e⟩:=x;exact ij e
 |tup xs=>obtain⟨_,_,_,p⟩:=x;exact p.lt
 |dK dz=>obtain⟨_,_,_,_,o,_,_,e,_⟩:=x;exact ij e
 |dT dz=>obtain⟨_,_,_,_,o,_,_,e,_⟩:=x;exact ij e
 |set S n=>obtain⟨o,_,_,_,e,_⟩:=x;exact ij e
 |ins C dx fs=>obtain⟨_,_,_,e,_⟩:=x;exact ij e
 |own y=>obtain⟨_,e⟩:=x;exact ij e
 |xd fs=>obtain⟨_,⟨_,_,_,e,_⟩,_⟩:=x;exact ij e
 |L4 lo hi=>obtain⟨_,_,_,e⟩:=x;exact ij e
 |q8 ob u=>obtain⟨e,_⟩:=x;exact ij e
 |DC ps=>exact ij (show h.get? a=some _ from x)
 |tab q=>obtain⟨_,e,_⟩:=x;exact ij e
 |met f y=>exact ij (show h.get? a=some _ from x)
 |ext φ=>obtain⟨_,⟨_,e⟩,_⟩:=x;exact ij e
theorem Paired.Js{α β:Type}{F G:α->β->Prop}:∀{Ju:List α} {Jt:List β},Paired F Ju Jt->(∀a b,F a b->G a b)->Paired G Ju Jt
 |_,_,.nil,_=>.nil
 |_,_,.cons r t,f=>.cons (f _ _ r) (Paired.Js t f)
theorem gj.oV(x:gj P w H h a o)(k:∀b u,(b=a\/H b=some (.own a))->h.get? b=some u->h'.get? b=some u)
  (ho:∀b u,ownOf u=some a->H b=some u->H' b=some u)(ht:∀b xs,H b=some (.tup xs)->H' b=some (.tup xs)):gj P w H' h' a o:=by
 induction o with
 |lst xs=>obtain⟨z,aS,n,r,e⟩:=x;exact⟨z,aS,n,r,k _ _ (.inl rfl) e⟩
 |tup xs=>obtain⟨z,aS,r,ob,e,c⟩:=x;exact⟨z,aS,r,ob,k _ _ (.inl rfl) e,c⟩
 |dK dz=>obtain⟨z,y,vs,r,ob,es,ep,e,c⟩:=x;exact⟨z,y,vs,r,ob,es,ep,k _ _ (.inl rfl) e,c⟩
 |dT dz => obtain⟨z,y,xs,r,ob,es,ep,e,c⟩:=x;exact⟨z,y,xs,Paired.Js r λp q z=>⟨z.1,ht _ _ z.2.1,z.2.2⟩,ob,es,ep,k _ _ (.inl rfl) e,c⟩
 |set S n=>obtain⟨ob,es,ep,t,e,c⟩:=x;exact⟨ob,es,ep,t,k _ _ (.inl rfl) e,c⟩
 |ins C dx fs => obtain⟨d,z,ne,e,mA,⟨od,es,ep,e2,c⟩,r⟩:=x;exact⟨ho _ _ rfl d,z,ne,k _ _ (.inl rfl) e,mA,⟨od,es,ep,k _ _ (.inr d) e2,c⟩,r⟩
 |own y=>obtain⟨ob,e⟩:=x;exact⟨ob,k _ _ (.inl rfl) e⟩
 |xd fs=>obtain⟨mA,⟨od,es,ep,e,c⟩,r⟩:=x;exact⟨mA,⟨od,es,ep,k _ _ (.inl rfl) e,c⟩,r⟩
 |L4 lo hi=>obtain⟨t,u,v,e⟩:=x;exact⟨t,u,v,k _ _ (.inl rfl) e⟩
 |q8 ob u ih=>obtain⟨e,q⟩:=x;exact⟨k _ _ (.inl rfl) e,ih q⟩
 |DC ps => have e:h.get? a=some { cls:=.none,data:=.fields ps }:=x;show h'.get? a=some { cls:=.none,data:=.fields ps };exact k a _ (.inl rfl) e
 |tab q => obtain⟨ps,e,ht,z⟩:=x;exact⟨ps,k _ _ (.inl rfl) e,ht,λpos cv hc=>let ⟨c,oc,e1,e2,e3⟩:=z pos cv hc;⟨c,oc,e1,ho _ _ rfl e2,e3⟩⟩
 |met f y => have e:h.get? a=some (Ri (.ref f) (.ref y)):=x;show h'.get? a=some (Ri (.ref f) (.ref y));exact k a _ (.inl rfl) e
 |ext φ=>obtain⟨p,⟨o,e⟩,st⟩:=x;exact⟨st _ _ p λo q=>k _ _ (.inl rfl) q,⟨o,k _ _ (.inl rfl) e⟩,st⟩
theorem jK.lt(x:jK P w H h)(e:H a=some o):a<h.objs.size:=(x a o e).lt
theorem jK.fresh(x:jK P w H h)(e:h.objs.size<=a):H a=none:=by
 cases q:H a with
 |none=>rfl
 |some u=>exact absurd (oC (x.lt q) e) (BL _)
theorem jK.kept(x:jK P w H h)(k:∀b u,h.get? b=some u->h'.get? b=some u):jK P w H h':=λa o e =>
 (x a o e).oV (λb u _ q=>k b u q) (λ_ _ _ q=>q) λ_ _ q=>q
theorem jK.laid(x:jK P w H h)(k:∀b u,h.get? b=some u->h'.get? b=some u)(hp:h.objs.size<=a)(new:gj P w (upd H a o) h' a o):jK P w (upd H a o) h':=λb u e=>by
 have hn:=x.fresh hp;by_cases hb:b=a;.subst hb;rw[ni] at e;cases e;exact new
 .rw [eX hb] at e;exact(x b u e).oV (λc v _ q=>k c v q) (λc _ _ q=>by rw[eX (oM q hn)];exact q) λc xs q=>by rw[eX (oM q hn)];exact q
end
def Rd(H:Hp)(a:Addr)(u:HO):Prop:=H a=some u\/∃o,H a=some (.q8 o u)
theorem Rd.ok(r:Rd H a u)(x:jK P w H h):gj P w H h a u:=by
 rcases r with r|⟨o,r⟩;.exact x a u r
 .obtain ⟨_,q⟩:=x a _ r;exact q
def OU:Option HO->Prop
 |some (.lst _)=>True
 |some (.dK _)=>True
 |some (.dT _)=>True
 |some (.set _ _)=>True
 |some (.ins _ _ _)=>True
 |some (.ext _)=>True
 |some (.tab _)=>True
 |_=>False
section
variable {P:Program}{w:World}{H:Hp}{h h':Heap}{x e:Addr}{o':HO}
theorem jK.write(ok:jK P w H h)(mu:OU (H x))(he:e=x\/H e=some (.own x))(k:∀b u,b≠e->h.get? b=some u->h'.get? b=some u)(GC:∃u,h'.get? e=some u)
  (new:gj P w (upd H x o') h' x o'):jK P w (upd H x o') h':=λb u q=>by
 have EO:∀c y,H c=some (.own y)->c≠x:=λc y r z=>by subst z;rw[r] at mu;exact mu
 have PQ:∀c xs,H c=some (.tup xs)->c≠x:=λc xs r z=>by subst z;rw[r] at mu;exact mu
 have PV:∀c y u,ownOf u=some y->H c=some u->c≠x:=λc y u hu r z=>by
  subst z;rw[r] at mu
  cases u with
  |own y=>exact mu
  |q8 o v=>exact mu
  |_=>cases hu
 by_cases hb:b=x;.subst hb;rw[ni] at q;cases q;exact new
 .rw [eX hb] at q;by_cases E9:b=e
  .have q':H b=some (.own x):=by
    rcases he with z|z;.exact absurd (E9.trans z) hb
    .rw [E9];exact z
   rw[q] at q';cases q';obtain⟨v,hv⟩:=GC;exact⟨v,by rw[E9];exact hv⟩
  .refine (ok b u q).oV (λc v hc r=>k c v ?_ r) (λc u hu r=>by rw[eX (PV c b u hu r)];exact r) λc xs r=>by rw[eX (PQ c xs r)];exact r
   rcases hc with rfl|hc;.exact E9
   .rintro rfl;rcases he with z | z;.exact EO c b hc z
    .rw [hc] at z;cases z;exact hb rfl
end
structure Un(fs ex:List Addr)(H H':Hp)(h h':Heap):Prop where
 keep:∀b o,h.get? b=some o->H b=none->b∉fs->b∉ex->h'.get? b=some o
 slot:∀b o,h.get? b=some o->H b=none->b∈fs->b∉ex->∃sl,h'.get? b=some { o with slots:=sl }
 free:∀b o,h.get? b=some o->H b=none->b∉ex->H' b=none
 there:∀b o,h.get? b=some o->b∉ex->∃o',h'.get? b=some o'
 jR:∀b xs,H b=some (.tup xs)->H' b=some (.tup xs)
 jE:∀b o u,H b=some (.q8 o u)->H' b=some (.q8 o u)
 jS:∀b ps,H b=some (.DC ps)->∃more,H' b=some (.DC (ps++more))
section
variable {fs yE ex ex':List Addr}{H H1 H2:Hp}{h h1 h2 h':Heap}{a x e:Addr}{o:HO}
theorem Un.any(u:Un fs ex H H1 h h1)(q:h.get? b=some ob)(n:H b=none)(hx:b∉ex):∃sl,h1.get? b=some { ob with slots:=sl }:=by
 by_cases hb:b∈fs;.exact u.slot b ob q n hb hx
 .exact ⟨ob.slots,u.keep b ob q n hb hx⟩
theorem Un.kept(k:∀b u,h.get? b=some u->h'.get? b=some u):Un fs ex H H h h':=
 ⟨λb ob q _ _ _=>k b ob q,λb ob q _ _ _=>⟨ob.slots,k b ob q⟩,λ_ _ _ n _=>n,λb ob q _=>⟨ob,k b ob q⟩,λ_ _ q=>q,λ_ _ _ q=>q,λ_ ps q=>⟨#[],by rw[q];simp⟩⟩
theorem Un.refl:Un fs ex H H h h:=Un.kept λ_ _ q=>q
theorem Un.laid(k:∀b u,h.get? b=some u->h'.get? b=some u)(hp:h.objs.size<=a)(hn:H a=none):Un fs ex H (upd H a o) h h' where
 keep:=λb u q _ _ _=>k b u q
 slot:=λb u q _ _ _=>⟨u.slots,k b u q⟩
 free:=λb u q n _=>by rw[eX (lb (oC (ij q) hp))];exact n
 there:=λb u q _=>⟨u,k b u q⟩
 jR:=λb xs q=>by rw[eX (oM q hn)];exact q
 jE:=λb u xs q=>by rw[eX (oM q hn)];exact q
 jS:=λb ps q=>⟨#[],by rw[eX (oM q hn),q];simp⟩
theorem Un.write(mu:OU (H x))(he:e=x\/H e=some (.own x))(k:∀b u,b≠e->h.get? b=some u->h'.get? b=some u)(GC:∃u,h'.get? e=some u):Un fs ex H (upd H x o) h h':=by
 have hx:∀b,H b=none->b≠x:=λb n z=>by subst z;rw[n] at mu;exact mu
 have hb:∀b,H b=none->b≠e:=λb n z=>by
  subst z;rcases he with r|r;.exact hx b n r
  .rw [n] at r;cases r
 have hm:∀b u,H b=some u->¬OU (some u)->b≠x:=λb u q nm z=>by subst z;rw[q] at mu;exact nm mu
 refine⟨λb u q n _ _=>k b u (hb b n) q,λb u q n _ _=>⟨u.slots,k b u (hb b n) q⟩,λb u q n _=>by rw[eX (hx b n)];exact n,λb u q _=>?_,
  λb xs q=>by rw[eX (hm b _ q λz=>z)];exact q,λb u xs q=>by rw[eX (hm b _ q λz=>z)];exact q,λb ps q=>⟨#[],by rw[eX (hm b _ q λz=>z),q];simp⟩⟩;by_cases E9:b=e;.subst E9;exact GC
 .exact ⟨u,k b u E9 q⟩
end
def LX(h:Heap)(H:Hp):List Addr:=(lT h.objs.size).filter λa=>(H a).isSome
def o7(h:Heap)(H:Hp):Heap:=Rw h (LX h H)
theorem b32(h:Heap)(H:Hp):(o7 h H).objs.size=h.objs.size:=PySem.W.hideAll_size _ _
theorem b5t(e:h.get? b=some o)(n:H b=none):(o7 h H).get? b=some o:=
 MV _ e λhm=>by have q:(H b).isSome=true:=(List.mem_filter.mp hm).2;rw[n] at q;simp at q
theorem b69(e:(o7 h H).get? b=some o):h.get? b=some o/\H b=none:=by
 have e':h.get? b=some o:=Rn (LX h H) e;refine⟨e',?_⟩
 cases q:H b with
 |none=>rfl
 |some x => have hm:b∈LX h H:=List.mem_filter.mpr ⟨BI.mpr (ij e'),by simp[q]⟩;have z:(o7 h H).get? b=none:=KD (LX h H) hm;rw[z] at e;cases e
end L2
namespace L2
open PySem PySem.Spec PyProof.Rows
structure Mod(K:aG)(mg:Str->Option Value)(base:Heap):Prop where
 yk:K.In base
 glob:base.Ns mainGlobals mg
 blt:∃mb,base.Ns builtinsNs mb/\∀x:Str,x ≠ "__name__" -> mb x=bootBuiltins x
 nolimit:base.NoLimit
 bmod:∃bm ob,mg "__builtins__" = some (.ref bm)/\bm≠builtinsNs/\base.get? bm=some ob/\ob.cls=.type "module" /\ ob.dict=some builtinsNs/\ob.data=.plain
structure Cx where
 prog:Program
 w:World
 K:aG
 mg:Str->Option Value
 base:Heap
 A:Around
 N:List Str
 dZ:Shared
 Bz:Hp
 env:Env
 outer:List Env
 stack:List Env
 ex:List Addr
 fn:Str->Bool
 calm:Bool
 pn:List (Addr×Obj)
 xe:Value->Shared->Prop
def j4(l:List Env):List Addr:=l.filterMap (·.frame)
abbrev Cx.fs(X:Cx):List Addr:=j4 X.outer
def jJ(sc:Scope)(x:Str):Prop:=sc.names.lookup x=some .local\/sc.names.lookup x=some .cell\/sc.names.lookup x=some .free
def Loc(sc:Scope)(x:Str):Prop:=sc.names.lookup x=some .local\/sc.names.lookup x=some .cell
def Look(env:Env)(h:Heap)(m:Str->Option Value)(x:Str)(u:Value):Prop:=
 (env.kindOf x=some .local/\m x=some u)\/((env.kindOf x=some .cell\/env.kindOf x=some .free)/\∃c,env.cells.lookup x=some c/\h.IsCell c (some u))
structure Cx.Ok(X:Cx):Prop where
 mod:Mod X.K X.mg X.base
 kind:X.env.scope.kind=.function
 glob:X.env.globals=mainGlobals
 blt:X.env.builtins=builtinsNs
 above:X.dZ.heap.objs.size<=X.env.locals
 inj:∀x y c,X.env.cells.lookup x=some c->X.env.cells.lookup y=some c->x=y
 has:∀x,(X.env.kindOf x=some .cell\/X.env.kindOf x=some .free)->∃c,X.env.cells.lookup x=some c
 Fw:∀x c,X.fn x=true->X.env.cells.lookup x=some c->X.dZ.heap.objs.size<=c
 hd:X.calm=true->X.A.handled=none
 frames:X.A.frames=some X.stack
 Gu:X.stack=X.outer\/(X.stack=X.env::X.outer/\X.env.frame=some X.env.locals)
 Mr:∀b∈X.ex,b≠X.env.locals/\∀x c,X.env.cells.lookup x=some c->c≠b
 bs:∀b o,X.base.get? b=some o->X.dZ.heap.get? b=some o/\X.Bz b=none
 A3:X.base.objs.size<=X.dZ.heap.objs.size
 rU:∀b o,X.base.get? b=some o->b∉X.ex
 vz:∀b∈X.ex,b∉X.fs
 j3:X.dZ.heap.FunFrames X.base X.outer
 CF:∀b∈X.fs,X.Bz b=none
structure Inv(X:Cx)(pins:List (Addr×Obj))(σ:List (Option V))(H:Hp)(s:Shared):Prop where
 ok:X.Ok
 os:s.os=X.dZ.os
 bare:AllBare s.gens
 base:Un X.fs X.ex X.Bz H X.dZ.heap s.heap
 loc:∃m,s.heap.Ns X.env.locals m/\∀(i:Nat) (x:Str) (v:V),X.N[i]?=some x->σ[i]?=some (some v)->jJ X.env.scope x->∃u,RelV v u/\Look X.env s.heap m x u
 cell:∀x c,X.env.cells.lookup x=some c->∃v,s.heap.IsCell c v
 free:H X.env.locals=none
 eG:∀x c,X.env.cells.lookup x=some c->H c=none
 pin:∀p∈X.pn++pins,s.heap.get? p.1=some p.2/\H p.1=none/\p.1≠X.env.locals/\p.1∉X.fs/\∀v,p.2.data≠.cell v
 cM:jK X.prog X.w H s.heap
 len:σ.length=X.N.length
section
variable {X:Cx}{pins:List (Addr×Obj)}{σ:List (Option V)}{H H':Hp}{s:Shared}{h':Heap}
theorem Cx.Ok.PY(ok:X.Ok)(e:X.base.get? b=some o):b∉X.fs:=λhb=>by have:=(ok.j3.mem hb).1;rw[e] at this;cases this
theorem Inv.bs(I:Inv X pins σ H s):∀b o,X.base.get? b=some o->s.heap.get? b=some o/\H b=none:=λb o e =>
 ⟨I.base.keep b o (I.ok.bs b o e).1 (I.ok.bs b o e).2 (I.ok.PY e) (I.ok.rU b o e),I.base.free b o (I.ok.bs b o e).1 (I.ok.bs b o e).2 (I.ok.rU b o e)⟩
theorem Inv.bk(I:Inv X pins σ H s):∀b o,X.base.get? b=some o->s.heap.get? b=some o:=λb o e=>(I.bs b o e).1
theorem Inv.mod(I:Inv X pins σ H s):Mod X.K X.mg X.base:=I.ok.mod
theorem Inv.km(I:Inv X pins σ H s):X.K.In s.heap:=I.ok.mod.yk.keeps I.bk
theorem Inv.lt(I:Inv X pins σ H s):X.env.locals<s.heap.objs.size:=let ⟨_,hn,_⟩:=I.loc;hn.lt
theorem Inv.sz(I:Inv X pins σ H s):X.dZ.heap.objs.size<=s.heap.objs.size:=iV I.ok.above (Q7 I.lt)
theorem Inv.PX(I:Inv X pins σ H s){a:Addr}(h:s.heap.objs.size<=a):a∉X.fs:=λhb=>by obtain⟨_,o,ho,_⟩:=I.ok.j3.mem hb;exact absurd (oC (ij ho) (iV I.sz h)) (BL _)
theorem Inv.CK(I:Inv X pins σ H s):∀x c,X.env.cells.lookup x=some c->c≠X.env.locals:=λx c e z=>by obtain⟨v,o,ho,hd⟩:=I.cell x c e;obtain⟨m,⟨o',es,ep,lS,E7,_⟩,_⟩:=I.loc;rw[z,lS] at ho;cases ho;rw[E7] at hd;cases hd
theorem Inv.j3(I:Inv X pins σ H s):s.heap.FunFrames X.base X.outer:=by
 have all:∀(l:List Env),(∀b∈j4 l,b∈X.fs)->X.dZ.heap.FunFrames X.base l->s.heap.FunFrames X.base l:=by
  intro l
  induction l with
  |nil=>intro _ _;trivial
  |cons env r ih => intro hs hl;obtain⟨hk,⟨L,o,hf,hn,ho,hd⟩,hr⟩:=hl;have hL:L∈X.fs:=hs L (by unfold j4;rw[Kz,hf];exact nA);obtain⟨sl,e⟩:=I.base.slot L o ho (I.ok.CF L hL) hL λz=>I.ok.vz L z hL;exact⟨hk,⟨L,_,hf,hn,e,hd⟩,ih (λb hb=>hs b (by unfold j4;rw[Kz,hf];exact mZ _ hb)) hr⟩
 exact all X.outer (λ_ hb=>hb) I.ok.j3
theorem Inv.stack(I:Inv X pins σ H s):s.heap.FunFrames X.base X.stack:=by
 rcases I.ok.Gu with e|⟨e,hf⟩;.rw [e];exact I.j3
 .rw [e];obtain⟨m,hn,_⟩:=I.loc;refine .cons (by rw[I.ok.kind];decide) hf hn ?_ I.j3;exact MJ (iV I.ok.A3 I.ok.above)
theorem Inv.iM(I:Inv X pins σ H s):∀b∈j4 X.stack,b∈X.env.locals::X.fs:=λb hb=>by
 rcases I.ok.Gu with e|⟨e,hf⟩;.rw [e] at hb;exact mZ _ hb
 .rw [e] at hb;unfold j4 at hb;rw[Kz,hf] at hb;exact hb
theorem Inv.jT(I:Inv X pins σ H s):∀b∈j4 X.stack,H b=none:=λb hb=>by
 rcases iF.mp (I.iM b hb) with e|hb;.rw [e];exact I.free
 .obtain ⟨_,o,ho,_⟩:=I.ok.j3.mem hb;exact I.base.free b o ho (I.ok.CF b hb) λz=>I.ok.vz b z hb
theorem Inv.step{g':Array GenState}{t':Nat}{d':Drawn}{ch:List Addr}(I:Inv X pins σ H s)
  (yC:∀b∈ch,(b∈X.ex\/X.dZ.heap.objs.size<=b)/\b≠X.env.locals/\(∀x c,X.env.cells.lookup x=some c->c≠b)/\∀p∈X.pn++pins,p.1≠b)
  (keep:∀b o,b≠X.env.locals->b∉X.fs->b∉ch->s.heap.get? b=some o->H b=none->h'.get? b=some o)
  (slot:∀b o,b≠X.env.locals->b∈X.fs->b∉ch->s.heap.get? b=some o->H b=none->∃sl,h'.get? b=some { o with slots:=sl })(free:∀b o,b∉ch->s.heap.get? b=some o->H b=none->H' b=none)
  (there:∀b o,b∉ch->s.heap.get? b=some o->∃o',h'.get? b=some o')
  (jR:∀b xs,H b=some (.tup xs)->H' b=some (.tup xs))(jE:∀b o u,H b=some (.q8 o u)->H' b=some (.q8 o u))(jS:∀b ps,H b=some (.DC ps)->∃more,H' b=some (.DC (ps++more)))
  (ns:∀m,s.heap.Ns X.env.locals m->h'.Ns X.env.locals m)(cM:jK X.prog X.w H' h')(hg:AllBare g'):
  Inv X pins σ H' { s with heap:=h',gens:=g',drawn:=d',toks:=t' }:=by
 have Gy:∀b o,X.dZ.heap.get? b=some o->b≠X.env.locals:=λb o e=>lb (oC (ij e) I.ok.above)
 have L9:∀b o,X.dZ.heap.get? b=some o->b∉X.ex->b∉ch:=λb o e hx hb=>by
  rcases(yC b hb).1 with z|z;.exact hx z
  .exact absurd (oC (ij e) z) (BL _)
 have cellK:∀x c,X.env.cells.lookup x=some c->∀v,s.heap.IsCell c v->h'.IsCell c v:=λx c e v ⟨o,ho,hd⟩=>by
  have Jr:c∉ch:=λz=>(yC c z).2.2.1 x c e rfl;by_cases hc:c∈X.fs;.obtain ⟨sl,q⟩:=slot c o (I.CK x c e) hc Jr ho (I.eG x c e);exact⟨_,q,hd⟩
  .exact ⟨o,keep c o (I.CK x c e) hc Jr ho (I.eG x c e),hd⟩
 refine⟨I.ok,I.os,hg,⟨λb o e n hb hx=>?_,λb o e n hb hx=>?_,λb o e n hx=>?_,λb o e hx=>?_,λb xs e=>jR b xs (I.base.jR b xs e),λb o xs e=>jE b o xs (I.base.jE b o xs e),λb ps e=>?_⟩,?_,λx c e=>?_,?_,λx c e=>?_,λp hp=>?_,cM,I.len⟩;.exact keep b o (Gy b o e) hb (L9 b o e hx) (I.base.keep b o e n hb hx) (I.base.free b o e n hx)
 .obtain ⟨sl,e1⟩:=I.base.slot b o e n hb hx;obtain⟨sl',e2⟩:=slot b _ (Gy b o e) hb (L9 b o e hx) e1 (I.base.free b o e n hx);exact⟨sl',e2⟩
 .obtain ⟨o',e1⟩:=I.base.there b o e hx;exact free b o' (L9 b o e hx) e1 (I.base.free b o e n hx)
 .obtain ⟨o',e1⟩:=I.base.there b o e hx;exact there b o' (L9 b o e hx) e1
 .obtain ⟨m1,e1⟩:=I.base.jS b ps e;obtain⟨m2,e2⟩:=jS b _ e1;exact⟨m1++m2,by rw[e2,MS]⟩
 .obtain ⟨m,hn,hl⟩:=I.loc;refine⟨m,ns m hn,λi x v e1 e2 e3=>?_⟩;obtain⟨u,r,l⟩:=hl i x v e1 e2 e3;refine⟨u,r,?_⟩;rcases l with l | ⟨k,c,e,z⟩;.exact .inl l
  .exact .inr ⟨k,c,e,cellK x c e _ z⟩
 .obtain ⟨v,z⟩:=I.cell x c e;exact⟨v,cellK x c e v z⟩
 .obtain ⟨m,⟨o,_,_,ho,_⟩,_⟩:=I.loc;exact free _ o (λz=>(yC _ z).2.1 rfl) ho I.free
 .obtain ⟨v,o,ho,hd⟩:=I.cell x c e;exact free c o (λz=>(yC c z).2.2.1 x c e rfl) ho (I.eG x c e)
 .obtain ⟨e,n,ne,nf,d⟩:=I.pin p hp;have Jr:p.1∉ch:=λz=>(yC p.1 z).2.2.2 p hp rfl;exact⟨keep p.1 p.2 ne nf Jr e n,free p.1 p.2 Jr e n,ne,nf,d⟩
theorem Inv.un(I:Inv X pins σ H s)(u:Un X.fs [] H H' s.heap h')(cM:jK X.prog X.w H' h'):Inv X pins σ H' { s with heap:=h',toks:=t' }:=by obtain⟨m,⟨o,es,ep,ho,r⟩,_⟩:=id I.loc;obtain⟨sl,hL⟩:=u.any ho I.free (by simp);exact I.step (g':=s.gens) (d':=s.drawn) (ch:=[]) (λ_ z=>nomatch z) (λb o _ hb _ e n=>u.keep b o e n hb (by simp)) (λb o _ hb _ e n=>u.slot b o e n hb (by simp)) (λb o _ e n=>u.free b o e n (by simp)) (λb o _ e=>u.there b o e (by simp)) u.jR u.jE u.jS (λm' hm=>by obtain⟨o',QP,QR,lS,r'⟩:=hm;rw[ho] at lS;cases lS;exact⟨_,QP,QR,hL,r'⟩) cM I.bare
theorem Inv.call(I:Inv X pins σ H s)(u:Un (j4 X.stack) ch H H' s.heap h')(cM:jK X.prog X.w H' h')(hg:AllBare g')
  (yC:∀b∈ch,(b∈X.ex\/X.dZ.heap.objs.size<=b)/\b≠X.env.locals/\(∀x c,X.env.cells.lookup x=some c->c≠b)/\∀p∈X.pn++pins,p.1≠b):
  Inv X pins σ H' { s with heap:=h',gens:=g',drawn:=d',toks:=t' }:=by obtain⟨m,⟨o,es,ep,ho,r⟩,_⟩:=id I.loc;obtain⟨sl,hL⟩:=u.any ho I.free λz=>(yC _ z).2.1 rfl;exact I.step (ch:=ch) yC (λb o hL hb hc e n=>u.keep b o e n (λz=>(iF.mp (I.iM b z)).elim hL hb) hc) (λb o _ _ hc e n=>u.any e n hc) (λb o hc e n=>u.free b o e n hc) (λb o hc e=>u.there b o e hc) u.jR u.jE u.jS (λm' hm=>by obtain⟨o',QP,QR,lS,r'⟩:=hm;rw[ho] at lS;cases lS;exact⟨_,QP,QR,hL,r'⟩) cM hg
theorem Inv.turned(I:Inv X pins σ H s)(k:∀b o,b≠it->s.heap.get? b=some o->h'.get? b=some o)(hn:H it=none)(hL:it≠X.env.locals)
  (h1:it∈X.ex\/X.dZ.heap.objs.size<=it)(h2:∀x c,X.env.cells.lookup x=some c->c≠it)(h3:∀p∈X.pn++pins,p.1≠it):Inv X pins σ H { s with heap:=h',toks:=t' }:=by
 have Vb:∀b u,H b=some u->b≠it:=λb u e z=>by rw[z,hn] at e;cases e
 refine I.step (g':=s.gens) (d':=s.drawn) (ch:=[it]) (λb hb=>?_) (λb o _ _ hc e _=>k b o (λz=>hc (by simp[z])) e) (λb o _ _ hc e _=>⟨o.slots,k b o (λz=>hc (by simp[z])) e⟩) (λ_ _ _ _ n=>n)
  (λb o hc e=>⟨o,k b o (λz=>hc (by simp[z])) e⟩) (λ_ _ e=>e) (λ_ _ _ e=>e) (λb ps e=>⟨#[],by rw[e];simp⟩) (λm hm=>?_) (λb u e=>?_) I.bare
 .have e:b=it:=by simpa using hb
  subst e;exact⟨h1,hL,h2,h3⟩
 .obtain ⟨o,es,ep,ho,r⟩:=hm;exact⟨o,es,ep,k _ o (pD hL) ho,r⟩
 .refine (I.cM b u e).oV (λc v hc q=>k c v ?_ q) (λ_ _ _ q=>q) λ_ _ q=>q;rcases hc with z | z;.rw [z];exact Vb b u e
  .exact Vb c _ z
theorem Inv.tok(I:Inv X pins σ H s)(t:Nat):Inv X pins σ H { s with toks:=t }:=I.un (h':=s.heap) (t':=t) Un.refl I.cM
theorem Inv.kept(I:Inv X pins σ H s)(k:∀b u,s.heap.get? b=some u->h'.get? b=some u):Inv X pins σ H { s with heap:=h',toks:=t' }:=I.un (Un.kept k) (I.cM.kept k)
theorem Inv.laid{a:Addr}{o:HO}{t':Nat}(I:Inv X pins σ H s)(k:∀b u,s.heap.get? b=some u->h'.get? b=some u)(hp:s.heap.objs.size<=a)(new:gj X.prog X.w (upd H a o) h' a o):
  Inv X pins σ (upd H a o) { s with heap:=h',toks:=t' }:=I.un (Un.laid k hp (I.cM.fresh hp)) (I.cM.laid k hp new)
theorem Inv.write(I:Inv X pins σ H s)(mu:OU (H x))(he:e=x\/H e=some (.own x))(k:∀b u,b≠e->s.heap.get? b=some u->h'.get? b=some u)(GC:∃u,h'.get? e=some u)
  (new:gj X.prog X.w (upd H x o) h' x o):Inv X pins σ (upd H x o) { s with heap:=h',toks:=t' }:=I.un (Un.write mu he k GC) (I.cM.write mu he k GC new)
theorem Inv.j0(I:Inv X pins σ H s)(h:∀p∈pins',s.heap.get? p.1=some p.2/\H p.1=none/\p.1≠X.env.locals/\p.1∉X.fs/\∀v,p.2.data≠.cell v):Inv X pins' σ H s:=
 ⟨I.ok,I.os,I.bare,I.base,I.loc,I.cell,I.free,I.eG,λp hp=>(FF.mp hp).elim (λz=>I.pin p (KC _ z)) (h p),I.cM,I.len⟩
theorem Te{N:List Str}(hN:N.Nodup){i j:Nat}{x:Str}(a:N[i]?=some x)(b:N[j]?=some x):i=j:=by obtain⟨h1,e1⟩:=oE.mp a;obtain⟨h2,e2⟩:=oE.mp b;exact(List.getElem_inj hN).mp (e1.trans e2.symm)
theorem YH(I:Inv X pins σ H s)(hN:X.N.Nodup)(hi:X.N[i]?=some x)(hx:Loc X.env.scope x)(r:RelV v u)
  (h:∀s',Inv X pins (σ.set i (some v)) H s'->(∃a,Ku a s.heap s'.heap/\(a=X.env.locals\/X.env.cells.lookup x=some a))->Q () s')(hf:autoParam (X.fn x=true\/X.env.scope.names.lookup x=some .local) ra0._auto_1):wpAny M A (storeName X.env x u) Q E s:=by
 obtain⟨m,hn,hl⟩:=id I.loc;have E8:(X.env.scope.kind==.class||(X.env.scope.kind==.module&&X.env.locals != X.env.globals))=false:=by rw[I.ok.kind];rfl
 have JK:i<σ.length:=by rw[I.len];exact(oE.mp hi).1
 have CK:=I.CK
 have tracked:∀{a:Addr} {h':Heap},(∃o,s.heap.get? a=some o/\H a=none)->Ku a s.heap h'->jK X.prog X.w H h':=λ{a h'} ha hs b ob e=>by
  obtain⟨_,_,ir⟩:=ha;refine(I.cM b ob e).oV (λc w' hc q=>(hs.2 c ?_).trans q) (λ_ _ _ q=>q) λ_ _ q=>q;rintro rfl;rcases hc with rfl|hc;.rw [ir] at e;cases e
  .rw [ir] at hc;cases hc
 rcases hx with hk|hk
 .refine wpAny_storeName_local hk hn (λh' hn' hs=>?_) E8;obtain⟨oL,_,_,hoL,_⟩:=id hn;refine h _ ⟨I.ok,I.os,I.bare,⟨λb o e n hb hx=>?_,λb o e n hb hx=>?_,I.base.free,λb o e hx=>?_,I.base.jR,I.base.jE,I.base.jS⟩,⟨_,hn',λj y v' e1 e2 e3=>?_⟩,λy c e=>?_,I.free,I.eG,λp hp=>?_,tracked ⟨oL,hoL,I.free⟩ hs,by simpa using I.len⟩ ⟨_,hs,.inl rfl⟩;.exact (hs.2 b (lb (oC (ij e) I.ok.above))).trans (I.base.keep b o e n hb hx)
  .obtain ⟨sl,e1⟩:=I.base.slot b o e n hb hx;exact⟨sl,(hs.2 b (lb (oC (ij e) I.ok.above))).trans e1⟩
  .obtain ⟨o',e1⟩:=I.base.there b o e hx;exact⟨o',(hs.2 b (lb (oC (ij e) I.ok.above))).trans e1⟩
  .by_cases hj:j=i;.subst hj;rw[hi] at e1;cases e1;rw[lg JK] at e2;cases e2;exact⟨u,r,.inl ⟨hk,by simp⟩⟩
   .rw [gG (pD hj)] at e2;obtain⟨u',r',q⟩:=hl j y v' e1 e2 e3;refine⟨u',r',?_⟩;rcases q with⟨k,e⟩ | ⟨k,c,e,z⟩;.refine .inl ⟨k,?_⟩;have:y≠x:=λe=>hj (Te hN e1 (e▸hi));simp[this,e]
    .exact .inr ⟨k,c,e,z.sameBut hs (CK y c e)⟩
  .obtain ⟨w',z⟩:=I.cell y c e;exact⟨w',z.sameBut hs (CK y c e)⟩
  .obtain ⟨e,n,ne,nf,d⟩:=I.pin p hp;exact⟨(hs.2 p.1 ne).trans e,n,ne,nf,d⟩
 .have Qy:X.fn x=true:=by
   rcases hf with z|z;.exact z
   .rw [z] at hk;cases hk
  obtain⟨c,hc⟩:=I.ok.has x (.inl hk);obtain⟨w',z⟩:=I.cell x c hc;refine wpAny_storeName_cell I.ok.kind hk hc z (λh' BF hs=>?_);obtain⟨oc,Mh,Qo⟩:=id z;refine h { s with heap:=h' } ⟨I.ok,I.os,I.bare,⟨λb o e n hb hx=>?_,λb o e n hb hx=>?_,I.base.free,λb o e hx=>?_,I.base.jR,I.base.jE,I.base.jS⟩,⟨m,hn.sameBut hs (pD (CK x c hc)),λj y v' e1 e2 e3=>?_⟩,λy c' e=>?_,I.free,I.eG,λp hp=>?_,tracked ⟨oc,Mh,I.eG x c hc⟩ hs,by simpa using I.len⟩ ⟨c,hs,.inr hc⟩;.exact (hs.2 b (lb (oC (ij e) (I.ok.Fw x c Qy hc)))).trans (I.base.keep b o e n hb hx)
  .obtain ⟨sl,e1⟩:=I.base.slot b o e n hb hx;exact⟨sl,(hs.2 b (lb (oC (ij e) (I.ok.Fw x c Qy hc)))).trans e1⟩
  .obtain ⟨o',e1⟩:=I.base.there b o e hx;exact⟨o',(hs.2 b (lb (oC (ij e) (I.ok.Fw x c Qy hc)))).trans e1⟩
  .by_cases hj:j=i;.subst hj;rw[hi] at e1;cases e1;rw[lg JK] at e2;cases e2;exact⟨u,r,.inr ⟨.inl hk,c,hc,BF⟩⟩
   .rw [gG (pD hj)] at e2;obtain⟨u',r',q⟩:=hl j y v' e1 e2 e3;refine⟨u',r',?_⟩;rcases q with q | ⟨k,c',e,z'⟩;.exact .inl q
    .refine .inr ⟨k,c',e,z'.sameBut hs ?_⟩;rintro rfl;exact hj (Te hN e1 (I.ok.inj _ _ _ e hc▸hi))
  .by_cases Vu:c'=c;.subst Vu;exact⟨_,BF⟩
   .obtain ⟨w2,z2⟩:=I.cell y c' e;exact⟨w2,z2.sameBut hs Vu⟩
  .obtain ⟨e,n,ne,nf,d⟩:=I.pin p hp;refine⟨(hs.2 p.1 ?_).trans e,n,ne,nf,d⟩;intro q;rw[q,Mh] at e;have q':oc=p.2:=gY e;exact d w' (by rw[<-q'];exact Qo)
theorem Tw(I:Inv X pins σ H s)(hN:X.N.Nodup)(hi:X.N[i]?=some x)(hx:Loc X.env.scope x)(r:RelV v u)
  (h:∀s',Inv X pins (σ.set i (some v)) H s'->Q () s')(hf:autoParam (X.fn x=true\/X.env.scope.names.lookup x=some .local) ra0._auto_1):wpAny M A (storeName X.env x u) Q E s:=
 YH I hN hi hx r (λs' I' _=>h s' I') hf
theorem Inv.A0(I:Inv X pins σ H s)(ho:s'.os=s.os)(u:Un (j4 X.stack) ch H H' s.heap s'.heap)(cM:jK X.prog X.w H' s'.heap)(hg:AllBare s'.gens)
  (yC:∀b∈ch,(b∈X.ex\/X.dZ.heap.objs.size<=b)/\b≠X.env.locals/\(∀x c,X.env.cells.lookup x=some c->c≠b)/\∀p∈X.pn++pins,p.1≠b):Inv X pins σ H' s':=by obtain⟨h',g',d',t',o'⟩:=s';have e:o'=s.os:=ho;subst e;exact I.call (g':=g') (t':=t') (d':=d') u cM hg yC
end
abbrev XK:=Value->Option Addr->Hp->Prop
abbrev St:=List (Option V)
abbrev VK:=V->Hp->Prop
abbrev TE:=St->Hp->VK->Prop
abbrev TT:=St->Hp->(Bool->Hp->Prop)->Prop
abbrev TA:=St->Hp->(List V->Hp->Prop)->Prop
structure Ends where
 nx:St->Hp->Prop
 rt:VK
 bk:St->Hp->Prop:=λ_ _=>False
 ct:St->Hp->Prop:=λ_ _=>False
abbrev TS:=Ends->St->Hp->Prop
inductive EP (X:Cx) (pins:List (Addr×Obj)) (σ:St) (Q:VK) (u:Value) (s':Shared):Prop
 |mk (v:V) (H':Hp) (i:Inv X pins σ H' s') (r:RelV v u) (q:Q v H')
inductive TP (X:Cx) (pins:List (Addr×Obj)) (σ:St) (Q:Bool->Hp->Prop) (b:Bool) (s':Shared):Prop
 |mk (H':Hp) (i:Inv X pins σ H' s') (q:Q b H')
inductive AP (X:Cx) (pins:List (Addr×Obj)) (σ:St) (Q:List V->Hp->Prop) (us:List Value) (s':Shared):Prop
 |mk (vs:List V) (H':Hp) (i:Inv X pins σ H' s') (r:aR vs us) (q:Q vs H')
inductive FP (X:Cx) (pins:List (Addr×Obj)) (d:St->Hp->Prop) (s':Shared):Prop
 |mk (aH:St) (H':Hp) (i:Inv X pins aH H' s') (q:d aH H')
inductive RP (X:Cx) (pins:List (Addr×Obj)) (d:V->Hp->Prop) (u:Value) (s':Shared):Prop
 |mk (v:V) (aH:St) (H':Hp) (i:Inv X pins aH H' s') (r:RelV v u) (q:d v H')
def SP(X:Cx)(pins:List (Addr×Obj))(D:Ends)(f:Flow)(s':Shared):Prop:=
 match f with
 | .next=>FP X pins D.nx s'
 | .brk=>FP X pins D.bk s'
 | .cont=>FP X pins D.ct s'
 | .ret u=>RP X pins D.rt u s'
def PE(X:Cx)(e:Expr)(t:TE):Prop:=
 ∀(pins:List (Addr×Obj)) (s:Shared) (σ:St) (H:Hp) (Q:VK),Inv X pins σ H s->t σ H Q->wpAny (model X.prog X.w) X.A (eval e X.env) (EP X pins σ Q) X.xe s
def PT(X:Cx)(e:Expr)(t:TT):Prop:=
 ∀(pins:List (Addr×Obj)) (s:Shared) (σ:St) (H:Hp) (Q:Bool->Hp->Prop),Inv X pins σ H s->t σ H Q->wpAny (model X.prog X.w) X.A (isTrue e X.env (eval e X.env)) (TP X pins σ Q) X.xe s
def PW(X:Cx)(e:Expr)(t:TT):Prop:=
 ∀(whole:Sem Value) (pins:List (Addr×Obj)) (s:Shared) (σ:St) (H:Hp) (Q:Bool->Hp->Prop),Inv X pins σ H s->t σ H Q->wpAny (model X.prog X.w) X.A (isTrue e X.env whole) (TP X pins σ Q) X.xe s
theorem PW.pt(h:PW X e t):PT X e t:=h _
def PA(X:Cx)(es:List Expr)(t:TA):Prop:=
 ∀(pos:Pos) (pins:List (Addr×Obj)) (s:Shared) (σ:St) (H:Hp) (Q:List V->Hp->Prop),Inv X pins σ H s->t σ H Q->wpAny (model X.prog X.w) X.A (spliced (backTo pos (starEach es X.env))) (AP X pins σ Q) X.xe s
def PS(X:Cx)(st:Stmt)(t:TS):Prop:=
 ∀(pins:List (Addr×Obj)) (s:Shared) (σ:St) (H:Hp) (D:Ends),Inv X pins σ H s->t D σ H->wpAny (model X.prog X.w) X.A (exec st X.env) (SP X pins D) X.xe s
def nZ(X:Cx)(st:List Stmt)(t:TS):Prop:=
 ∀(pins:List (Addr×Obj)) (s:Shared) (σ:St) (H:Hp) (D:Ends),Inv X pins σ H s->t D σ H->wpAny (model X.prog X.w) X.A (execs st X.env) (SP X pins D) X.xe s
theorem cU{α:Type}{t:Sem α}{Q Q':α->Shared->Prop}{M:Model}{A:Around}{E:Value->Shared->Prop}{s:Shared}(h:wpAny M A t Q E s)(hQ:∀a s,Q a s->Q' a s):wpAny M A t Q' E s:=mW h hQ λ_ _ x=>x
end L2
namespace L2
open PySem PySem.Spec PyProof.Rows
section
variable {X:Cx}
def Pb(i:Nat):TE:=λσ H Q=>∃v,σ[i]?=some (some v)/\Q v H
def tC(v:V):TE:=λ_ H Q=>Q v H
theorem wC{i:Nat}{x:Str}{pos:Pos}(hN:X.N[i]?=some x)(hv:jJ X.env.scope x)(hd:autoParam ((x==("__debug__":Str))=false) ra1._auto_1)(dC:autoParam ((x==("__classdict__":Str))=false) ra1._auto_1):PE X (.Name x pos) (Pb i):=by
 intro pins s σ H Q I h;obtain⟨v,e,h⟩:=h;obtain⟨m,hn,hl⟩:=I.loc;obtain⟨u,r,l⟩:=hl i x v hN e hv;have fin:EP X pins σ Q u s:=⟨v,H,I,r,h⟩;rcases l with⟨hk,hm⟩|⟨hk,c,hc,mL⟩;.exact wpAny_Name (wpAny_loadName_local I.ok.kind hk hn hm fin) hd
 .rcases hk with hk | hk;.exact wpAny_Name (wpAny_loadName_cell I.ok.kind hk hc mL fin) hd
  .exact wpAny_Name (wpAny_loadName_free I.ok.kind hk hc mL fin dC) hd
theorem b89{i j pos}:PE X (.Constant (.int i) j pos) (tC (.int i)):=λ_ _ _ H _ I h=>wpAny_Constant_int ⟨.int i,H,I.tok _,⟨_,rfl⟩,h⟩
theorem IZ{b j pos}:PE X (.Constant (.bool b) j pos) (tC (.bl b)):=λ_ _ _ H _ I h=>Constant_bool ⟨.bl b,H,I,rfl,h⟩
theorem b86{x j pos}:PE X (.Constant (.str x) j pos) (tC (.str x)):=λ_ _ _ H _ I h=>Calls.Constant_str ⟨.str x,H,I.tok _,⟨_,rfl⟩,h⟩
def Gl(X:Cx)(x:Str):Prop:=X.env.kindOf x=some .globalImplicit
theorem BY{E:Value->Shared->Prop}{pins:List (Addr×Obj)}{s:Shared}{σ:St}{H:Hp}{x:Str}{u:Value}{pos:Pos}{Q:Value->Shared->Prop}(I:Inv X pins σ H s)(hg:Gl X x)(hm:X.mg x=some u)(h:Q u s)
  (hd:autoParam ((x==("__debug__":Str))=false) ra1._auto_1):wpAny (model X.prog X.w) X.A (eval (.Name x pos) X.env) Q E s:=
 Wk I.ok.kind hg (Calls.loadGlobal_global (by rw[I.ok.glob];exact I.mod.glob.keeps I.bk) hm h) hd
theorem K6{E:Value->Shared->Prop}{pins:List (Addr×Obj)}{s:Shared}{σ:St}{H:Hp}{x:Str}{u:Value}{pos:Pos}{Q:Value->Shared->Prop}(I:Inv X pins σ H s)(hg:Gl X x)(hm:X.mg x=none)(hv:bootBuiltins x=some u)(h:Q u s)
  (hn:autoParam (x ≠ "__name__") ra1._auto_1)(hd:autoParam ((x==("__debug__":Str))=false) ra1._auto_1):wpAny (model X.prog X.w) X.A (eval (.Name x pos) X.env) Q E s:=by obtain⟨mb,h1,h2⟩:=I.mod.blt;exact Wk I.ok.kind hg (Calls.loadGlobal_builtin (by rw[I.ok.glob];exact I.mod.glob.keeps I.bk) hm (by rw[I.ok.blt];exact h1.keeps I.bk) ((h2 x hn).trans hv) h) hd
theorem SX(hg:Gl X x)(hm:X.mg x=some u)(r:RelV v u)(hd:autoParam ((x==("__debug__":Str))=false) ra1._auto_1):PE X (.Name x pos) (tC v):=
 λ_ _ _ H _ I h=>BY I hg hm ⟨v,H,I,r,h⟩ hd
theorem b63{x:Str}{v:V}{u:Value}{pos:Pos}(hg:Gl X x)(hm:X.mg x=none)(hv:bootBuiltins x=some u)(r:RelV v u)(hn:autoParam (x ≠ "__name__") ra1._auto_1)(hd:autoParam ((x==("__debug__":Str))=false) ra1._auto_1):PE X (.Name x pos) (tC v):=
 λ_ _ _ H _ I h=>K6 I hg hm hv ⟨v,H,I,r,h⟩ hn hd
variable {a b:Expr}{ta tb:TE}{pos:Pos}
variable {tA LZ:TT}{rest:List Expr}
def Pm(t u:TT):TT:=λσ H Q=>t σ H λc H1=>if c=true then u σ H1 Q else Q false H1
def tOr(t u:TT):TT:=λσ H Q=>t σ H λc H1=>if c=true then Q true H1 else u σ H1 Q
def Pf(t:TT):TT:=λσ H Q=>t σ H λc H1=>Q (!c) H1
theorem b6U(ha:PT X a tA):PW X (.BoolOp .And [a] pos) tA:=by
 intro wh pins s σ H Q I h;refine isTrue_and (cU (ha pins s σ H Q I h) λc s1 e=>?_)
 cases c with
 |true=>exact isTrue_and_nil e
 |false=>exact e
theorem b8Z(ha:PT X a tA):PW X (.BoolOp .Or [a] pos) tA:=by
 intro wh pins s σ H Q I h;refine isTrue_or (cU (ha pins s σ H Q I h) λc s1 e=>?_)
 cases c with
 |false=>exact isTrue_or_nil e
 |true=>exact e
theorem b80(ha:PT X a tA)(hb:PW X (.BoolOp .And (b::rest) pos) LZ):PW X (.BoolOp .And (a::b::rest) pos) (Pm tA LZ):=by
 intro wh pins s σ H Q I h;refine isTrue_and (cU (ha pins s σ H _ I h) λc s1 ⟨H1,I1,q1⟩=>?_)
 cases c with
 |true=>exact hb wh pins s1 σ H1 Q I1 q1
 |false=>exact⟨H1,I1,q1⟩
theorem pw_or(ha:PT X a tA)(hb:PW X (.BoolOp .Or (b::rest) pos) LZ):PW X (.BoolOp .Or (a::b::rest) pos) (tOr tA LZ):=by
 intro wh pins s σ H Q I h;refine isTrue_or (cU (ha pins s σ H _ I h) λc s1 ⟨H1,I1,q1⟩=>?_)
 cases c with
 |true=>exact⟨H1,I1,q1⟩
 |false=>exact hb wh pins s1 σ H1 Q I1 q1
theorem b81(ha:PT X a tA):PT X (.UnaryOp .Not a pos) (Pf tA):=by intro pins s σ H Q I h;exact isTrue_not (cU (ha pins s σ H (λc H1=>Q (!c) H1) I h) λ_ _ ⟨H1,I1,q⟩=>⟨H1,I1,q⟩)
def Im(ta:TE):TE:=λσ H Q=>ta σ H λx H1=>∃c,x=.bl c/\Q (.bl (!c)) H1
theorem b87(ha:PE X a ta):PE X (.UnaryOp .Not a pos) (Im ta):=by intro pins s σ H Q I h;refine UnaryOp_ (cU (ha pins s σ H _ I h) λv s1 ⟨x,H1,I1,r1,q1⟩=>?_);obtain⟨c,rfl,q1⟩:=q1;cases r1;exact not_of (GL ⟨.bl (!c),H1,I1,rfl,q1⟩)
def tIf(t:TT)(ta tb:TE):TE:=λσ H Q=>t σ H λc H1=>if c=true then ta σ H1 Q else tb σ H1 Q
theorem b49(hc:PT X c tA)(ha:PE X a ta)(hb:PE X b tb):PE X (.IfExp c a b pos) (tIf tA ta tb):=by
 intro pins s σ H Q I h;refine wpAny_IfExp (cU (hc pins s σ H _ I h) λd s1 ⟨H1,I1,q1⟩=>?_)
 cases d with
 |true=>exact ha pins s1 σ H1 Q I1 q1
 |false=>exact hb pins s1 σ H1 Q I1 q1
end
end L2
namespace L2
open PySem PySem.Spec PyProof.Rows
def kA(K:aG)(H:Hp)(a:Addr)(xs:List V):Prop:=
 Rd H a (.lst xs) \/
  ∃(o:Obj) (aS:Array Value) (n:Nat),K.lookup a=some o/\o.cls=.type "list" /\ o.dict=none/\o.data=.seq aS n/\aS.size<=sizeLine/\aR xs aS.toList
def ll(K:aG)(H:Hp)(a:Addr)(xs:List V):Prop:=
 Rd H a (.tup xs) \/
  ∃(o:Obj) (aS:Array Value) (n:Nat),K.lookup a=some o/\o.cls=.type "tuple" /\ o.data=.seq aS n/\aS.size<=sizeLine/\aR xs aS.toList
def S8:Value->Option V
 | .none=>some .dO
 | .bool b=>some (.bl b)
 | .int i _=>some (.int i)
 | .str x _=>some (.str x)
 | .bytes b _=>some (.G0 b)
 | .float b _=>some (.Mq b)
 | .ref a=>some (.ref a)
 | .type n=>some (.ty n)
 |_=>none
theorem RelV.abs(r:RelV x u):S8 u=some x:=by
 cases x with
 |dO=>cases r;rfl
 |bl _=>cases r;rfl
 |int _=>obtain⟨t,rfl⟩:=r;rfl
 |str _=>obtain⟨t,rfl⟩:=r;rfl
 |G0 _=>obtain⟨t,rfl⟩:=r;rfl
 |Mq _=>obtain⟨t,rfl⟩:=r;rfl
 |ref _=>cases r;rfl
 |ty _=>cases r;rfl
theorem RelV.inj(r:RelV x u)(q:RelV y u):x=y:=gY (r.abs.symm.trans q.abs)
theorem aR.inj:∀{xs ys:List V} {us:List Value},aR xs us->aR ys us->xs=ys
 |_,_,_,.nil,.nil=>rfl
 |_,_,_,.cons r t,.cons r' t'=>by rw[r.inj r',aR.inj t t']
section
variable {X:Cx}{pins:List (Addr×Obj)}{σ:St}{H:Hp}{s:Shared}{a:Addr}{xs ys:List V}
theorem kA.of{K:aG}(h:H a=some (.lst xs)):kA K H a xs:=.inl (.inl h)
theorem Inv.list(I:Inv X pins σ H s)(h:kA X.K H a xs):∃aS:List Value,aR xs aS/\PlainL s.heap a aS.toArray/\xs.length<=sizeLine:=by
 rcases h with h|⟨o,aS,n,hk,hc,hd,hs,hz,r⟩;.obtain ⟨z,aS,n,r,e⟩:=h.ok I.cM;exact⟨aS,r,⟨_,n,e,rfl,rfl,rfl⟩,z⟩
 .refine ⟨aS.toList,r,⟨o,n,I.km a o hk,hc,hd,by simpa using hs⟩,?_⟩;have e:=r.length;simp only[MU] at e;omega
theorem Inv.tuple(I:Inv X pins σ H s)(h:ll X.K H a xs):∃aS:List Value,aR xs aS/\IsTup s.heap a aS.toArray/\xs.length<=sizeLine:=by
 rcases h with h|⟨o,aS,n,hk,hc,hs,hz,r⟩;.obtain ⟨z,aS,r,p⟩:=h.ok I.cM;exact⟨aS,r,p,z⟩
 .refine ⟨aS.toList,r,⟨o,I.km a o hk,hc,n,by simpa using hs⟩,?_⟩;have e:=r.length;simp only[MU] at e;omega
theorem Inv.qu(I:Inv X pins σ H s)(h:kA X.K H a xs)(h':kA X.K H a ys):xs=ys:=by
 obtain⟨aS,r,⟨o,n,e,_,_,d⟩,_⟩:=I.list h;obtain⟨its',r',⟨o',n',e',_,_,d'⟩,_⟩:=I.list h';rw[e] at e';cases e';rw[d] at d';injection d' with d1 _;have:aS=its':=by simpa using congrArg Q6 d1
 subst this;exact r.inj r'
theorem Inv.n9(I:Inv X pins σ H s)(h:ll X.K H a xs)(h':ll X.K H a ys):xs=ys:=by
 obtain⟨aS,r,⟨o,e,_,n,d⟩,_⟩:=I.tuple h;obtain⟨its',r',⟨o',e',_,n',d'⟩,_⟩:=I.tuple h';rw[e] at e';cases e';rw[d] at d';injection d' with d1 _;have:aS=its':=by simpa using congrArg Q6 d1
 subst this;exact r.inj r'
end
abbrev Cx.iA(X:Cx)(E:Value->Shared->Prop):Cx:={ X with xe:=E }
abbrev Cx.aI(X:Cx):Cx:=X.iA λ_ _=>False
theorem Cx.Ok.iA{X:Cx}(ok:X.Ok)(E:Value->Shared->Prop):(X.iA E).Ok:=
 ⟨ok.mod,ok.kind,ok.glob,ok.blt,ok.above,ok.inj,ok.has,ok.Fw,ok.hd,ok.frames,ok.Gu,ok.Mr,ok.bs,ok.A3,ok.rU,ok.vz,ok.j3,ok.CF⟩
theorem Cx.Ok.dI{X:Cx}(ok:(X.iA E).Ok):X.Ok:=
 ⟨ok.mod,ok.kind,ok.glob,ok.blt,ok.above,ok.inj,ok.has,ok.Fw,ok.hd,ok.frames,ok.Gu,ok.Mr,ok.bs,ok.A3,ok.rU,ok.vz,ok.j3,ok.CF⟩
section
variable {X:Cx}{pins:List (Addr×Obj)}{σ:St}{H:Hp}{s:Shared}{E:Value->Shared->Prop}
theorem Inv.iA(I:Inv X pins σ H s)(E:Value->Shared->Prop):Inv (X.iA E) pins σ H s:=⟨I.ok.iA E,I.os,I.bare,I.base,I.loc,I.cell,I.free,I.eG,I.pin,I.cM,I.len⟩
theorem Inv.dI(I:Inv (X.iA E) pins σ H s):Inv X pins σ H s:=⟨I.ok.dI,I.os,I.bare,I.base,I.loc,I.cell,I.free,I.eG,I.pin,I.cM,I.len⟩
theorem SP.dI(h:SP (X.iA E) pins D f s'):SP X pins D f s':=by
 cases f with
 |next=>obtain⟨aH,H',I,q⟩:=h;exact⟨aH,H',I.dI,q⟩
 |brk=>obtain⟨aH,H',I,q⟩:=h;exact⟨aH,H',I.dI,q⟩
 |cont=>obtain⟨aH,H',I,q⟩:=h;exact⟨aH,H',I.dI,q⟩
 |ret u=>obtain⟨v,aH,H',I,r,q⟩:=h;exact⟨v,aH,H',I.dI,r,q⟩
theorem PE.aI(h:PE X.aI e t):PE X e t:=λpins s σ H Q I hw =>
 mW (h pins s σ H Q (I.iA _) hw) (λ_ _ ⟨v,H',I',r,q⟩=>⟨v,H',I'.dI,r,q⟩) λ_ _ z=>gg z
theorem PT.aI(h:PT X.aI e t):PT X e t:=λpins s σ H Q I hw =>
 mW (h pins s σ H Q (I.iA _) hw) (λ_ _ ⟨H',I',q⟩=>⟨H',I'.dI,q⟩) λ_ _ z=>gg z
theorem nZ.aI{st:List Stmt}{t:TS}(h:nZ X.aI st t):nZ X st t:=λpins s σ H D I hw =>
 mW (h pins s σ H D (I.iA _) hw) (λ_ _ q=>q.dI) λ_ _ z=>gg z
end
section
variable {X:Cx}{st:Stmt}{rest:List Stmt}{t u:TS}{e:Expr}{te:TE}{pos:Pos}
def Io:TS:=λD σ H=>D.nx σ H
def Pd(t u:TS):TS:=λD σ H=>t { D with nx:=u D } σ H
theorem Li:nZ X [] Io:=λ_ _ σ H _ I h=>KJ ⟨σ,H,I,h⟩
theorem Bn(h1:PS X st t)(h2:nZ X rest u):nZ X (st::rest) (Pd t u):=by
 intro pins s σ H D I h;refine wpAny_execs_cons (cU (h1 pins s σ H { D with nx:=u D } I h) λf s1 q=>?_)
 cases f with
 |next => obtain⟨aH,H',I',q⟩:=q;exact h2 pins s1 aH H' D I' q
 |ret v=>exact q
 |brk=>exact q
 |cont=>exact q
theorem NH(h1:PS X st t):nZ X [st] t:=by
 intro pins s σ H D I h;refine wpAny_execs_cons (cU (h1 pins s σ H D I h) λf s1 q=>?_)
 cases f with
 |next=>exact KJ q
 |ret v=>exact q
 |brk=>exact q
 |cont=>exact q
theorem Inv.quiet{pins:List (Addr×Obj)}{σ:St}{H:Hp}{s:Shared}(I:Inv X pins σ H s):interactive X.env=false:=by simp[interactive,I.ok.kind]
def Ip(te:TE):TS:=λD σ H=>te σ H λ_ H1=>D.nx σ H1
theorem NF(he:PE X e te)(hs:autoParam (swapsWith e none pos.line X.env=pure false) ra2._auto_1):PS X (.Expr e pos) (Ip te):=by intro pins s σ H D I h;exact wpAny_Expr_any (cU (he pins s σ H _ I h) λv s1 ⟨x,H1,I1,r1,q1⟩=>⟨σ,H1,I1,q1⟩) I.quiet hs
def Pe(te:TE):TS:=λD σ H=>te σ H D.rt
theorem La(he:PE X e te):PS X (.Return (some e) pos) (Pe te):=by intro pins s σ H D I h;exact wpAny_Return_some (cU (he pins s σ H _ I h) λv s1 ⟨x,H1,I1,r1,q1⟩=>⟨x,σ,H1,I1,r1,q1⟩)
def Ph(c:TT)(t u:TS):TS:=λD σ H=>c σ H λb H1=>if b=true then t D σ H1 else u D σ H1
theorem M6(hc:PT X c tc)(ha:nZ X a t)(hb:nZ X b u):PS X (.If c a b pos) (Ph tc t u):=by
 intro pins s σ H D I h;refine wpAny_If (cU (hc pins s σ H _ I h) λd s1 ⟨H1,I1,q1⟩=>?_)
 cases d with
 |true=>exact ha pins s1 σ H1 D I1 q1
 |false=>exact hb pins s1 σ H1 D I1 q1
def b8E:TS:=λ_ _ _=>False
theorem b44:PS X st b8E:=λ_ _ _ _ _ _ h=>h.elim
end
abbrev TG:=V->St->Hp->(St->Hp->Prop)->Prop
abbrev Er:=List V->St->Hp->(St->Hp->Prop)->Prop
def PG(X:Cx)(target:Expr)(t:TG):Prop:=
 ∀(pins:List (Addr×Obj)) (s:Shared) (σ:St) (H:Hp) (v:V) (u:Value) (Q:St->Hp->Prop),Inv X pins σ H s->RelV v u->t v σ H Q ->
  wpAny (model X.prog X.w) X.A (assign target X.env u) (λ_ s'=>FP X pins Q s') X.xe s
def LO(X:Cx)(ts:List Expr)(t:Er):Prop:=
 ∀(pins:List (Addr×Obj)) (s:Shared) (σ:St) (H:Hp) (vs:List V) (us:List Value) (Q:St->Hp->Prop),Inv X pins σ H s->aR vs us->t vs σ H Q ->
  wpAny (model X.prog X.w) X.A (assignInOrder ((assignEach ts X.env).map (·.2)) us) (λ_ s'=>FP X pins Q s') X.xe s
section
variable {X:Cx}{pos:Pos}
def Wv(i:Nat):TG:=λv σ H Q=>Q (σ.set i (some v)) H
theorem b61(hN:X.N.Nodup)(hi:X.N[i]?=some x)(hx:Loc X.env.scope x)(hf:autoParam (X.fn x=true\/X.env.scope.names.lookup x=some .local) ra0._auto_1):PG X (.Name x pos) (Wv i):=by intro pins s σ H v u Q I r h;exact wpAny_assign_Name (Tw I hN hi hx r (λs' I'=>⟨_,H,I',h⟩) hf)
def QJ:Er:=λvs σ H Q=>vs=[]/\Q σ H
def J1(t:TG)(u:Er):Er:=λvs σ H Q=>∃v r,vs=v::r/\t v σ H λaH H'=>u r aH H' Q
theorem b60:LO X [] QJ:=by intro pins s σ H vs us Q I r h;obtain⟨e,h⟩:=h;subst e;cases r;exact assignInOrder_nil ⟨σ,H,I,h⟩
theorem b47{e:Expr}{es:List Expr}{t:TG}{u:Er}(h1:PG X e t)(h2:LO X es u)
  (hs:autoParam ((assignEach (e::es) X.env).map (·.2)=assign e X.env::(assignEach es X.env).map (·.2)) ra2._auto_1):LO X (e::es) (J1 t u):=by
 intro pins s σ H vs us Q I r h;obtain⟨v,vr,e1,h⟩:=h;subst e1
 cases r with
 |cons r rr => rw[hs];refine assignInOrder_cons (cU (h1 pins s σ H _ _ _ I r h) λ_ s1 ⟨jw,H1,I1,q1⟩=>?_);exact h2 pins s1 jw H1 _ _ Q I1 rr q1
def AB(K:aG)(n:Nat)(t:Er):TG:=λv σ H Q=>∃a xs,v=.ref a/\ll K H a xs/\xs.length=n/\t xs σ H Q
theorem b85{es:List Expr}{k:Nat}{t:Er}{n:Nat}(hc:X.calm=true)(h:LO X es t)
  (hn:autoParam ((assignEach es X.env).length=n) ra2._auto_1)(jB:autoParam ((assignEach es X.env).findIdx? (·.1)=none) ra2._auto_1):PG X (.Tuple es k pos) (AB X.K n t):=by intro pins s σ H v u Q I r hw;obtain⟨a,xs,e1,hq,hl,hw⟩:=hw;subst e1;cases r;obtain⟨aS,rv,ht,hz⟩:=I.tuple hq;refine assign_Tuple_tuple (I.ok.hd hc) ht (by simp[hn,<-hl,rv.length]) jB λh' hx=>?_;have I1:Inv X pins σ H { s with heap:=h' }:=I.kept (t':=s.toks) λb o e=>hx b o (lb (ij e)) e;exact h pins _ σ H xs _ Q I1 (by simpa using rv) hw
def Pl(te:TE)(g:TG):TS:=λD σ H=>te σ H λx H1=>g x σ H1 D.nx
theorem F0(hN:X.N.Nodup)(hi:X.N[i]?=some x)(hx:Loc X.env.scope x)(he:PE X e te)(hs:autoParam (swapsWith e (some (.Name x pos')) pos.line X.env=pure false) ra2._auto_1)(hf:autoParam (X.fn x=true\/X.env.scope.names.lookup x=some .local) ra0._auto_1):
  PS X (.Assign [.Name x pos'] e pos) (Pl te (Wv i)):=by intro pins s σ H D I h;refine wpAny_Assign_Name (cU (he pins s σ H _ I h) λv s1 ⟨y,H1,I1,r1,q1⟩=>?_) hs;exact Tw I1 hN hi hx r1 (λs2 I2=>⟨_,H1,I2,q1⟩) hf
end
section
variable {X:Cx}{pos:Pos}
def b8B(c:TT)(tb:TS):TS:=λD σ H=>∃W:Nat->St->Hp->Prop,(∃m,W m σ H)/\∀m σ H,W m σ H ->
 c σ H λb H1=>if b=true then ∃N:St->Hp->Prop,(∀aH H',N aH H'->∃m',m'<m/\W m' aH H')/\tb { D with nx:=N,ct:=N,bk:=D.nx } σ H1 else D.nx σ H1
theorem Yk(hp:PassesOwn (model X.prog X.w) X.A X.env X.xe)(hc:PT X c tc)(hb:nZ X body tb):PS X (.While c body [] pos) (b8B tc tb):=by
 intro pins s σ H D I h;obtain⟨W,⟨m0,w0⟩,turn⟩:=h;refine wpAny_While (codeAny_whileLoop (λn s'=>∃aH H',Inv X pins aH H' s'/\W n aH H') ?_ m0 ⟨σ,H,I,w0⟩);rintro n s1 ⟨jw,H1,I1,w1⟩;refine FE hp (cU (hc pins s1 jw H1 _ I1 (turn n jw H1 w1)) λb s2 ⟨H2,I2,q2⟩=>?_)
 cases b with
 |true =>
  obtain⟨N,hN,q2⟩:=q2;rw[if_pos rfl];refine FE hp (cU (hb pins s2 jw H2 _ I2 q2) λf s3 q3=>?_)
  cases f with
  |next => obtain⟨ma,H3,I3,n3⟩:=q3;obtain⟨m',hm,w3⟩:=hN ma H3 n3;exact⟨m',hm,ma,H3,I3,w3⟩
  |cont => obtain⟨ma,H3,I3,n3⟩:=q3;obtain⟨m',hm,w3⟩:=hN ma H3 n3;exact⟨m',hm,ma,H3,I3,w3⟩
  |brk=>exact q3
  |ret v=>exact q3
 |false => rw[if_neg zq];exact KJ ⟨jw,H2,I2,q2⟩
end
structure It where
 go:Nat->Hp->Prop
 Ex:Nat->Hp->V->Hp->Prop
 stop:Nat->Hp->Prop
def lP(X:Cx)(pins:List (Addr×Obj))(H:Hp)(b:Addr):Prop:=
 H b=none/\b≠X.env.locals/\b∉X.fs/\(b∈X.ex\/X.dZ.heap.objs.size<=b)/\(∀x c,X.env.cells.lookup x=some c->c≠b)/\∀p∈X.pn++pins,p.1≠b
theorem Inv.vy{X:Cx}{pins:List (Addr×Obj)}{σ:St}{H H':Hp}{s:Shared}{b:Addr}(I:Inv X pins σ H s)(hb:s.heap.objs.size<=b)(hn:H' b=none):lP X pins H' b:=by
 refine⟨hn,Nat.ne_of_gt (oC I.lt hb),I.PX hb,.inr (iV I.sz hb),λx c e z=>?_,λp hp z=>?_⟩;.obtain ⟨v,q⟩:=I.cell x c e;exact absurd (oC q.lt (by rw[z];exact hb)) (BL _)
 .exact absurd (oC (ij (I.pin p hp).1) (by rw[z];exact hb)) (BL _)
structure Turn(P:Program)(w:World)(K:aG)(tg:Expr)(J:It)(fp:List Addr)(it:Addr)(tn:Nat->Heap->Prop):Prop where
 mem:it∈fp
 obj:∀i h,tn i h->∀b∈fp,∃o,h.get? b=some o/\∀v,o.data≠.cell v
 keep:∀i h h',tn i h->(∀b∈fp,∀o,h.get? b=some o->h'.get? b=some o)->tn i h'
 item:∀(X:Cx),X.prog=P->X.w=w->X.K=K->X.calm=true->∀(i:Nat) (pins:List (Addr×Obj)) (s:Shared) (σ:St) (H:Hp) (E:Value->Shared->Prop),Inv X pins σ H s->(∀b∈fp,lP X pins H b)->tn i s.heap->J.go i H ->
  wpAny (model P w) X.A (pyNext (.ref it)) (λr s1=>∃u,r=some u /\
   wpAny (model P w) X.A (letOwnedTupleGo tg (.ref it) u) (λ_ s2=>∃x H',Inv X pins σ H' s2/\RelV x u/\J.Ex i H x H'/\tn (i+1) s2.heap/\∀b∈fp,H' b=none) E s1) E s
 done:∀(X:Cx),X.prog=P->X.w=w->X.K=K->X.calm=true->∀(i:Nat) (pins:List (Addr×Obj)) (s:Shared) (σ:St) (H:Hp) (E:Value->Shared->Prop),Inv X pins σ H s->(∀b∈fp,lP X pins H b)->tn i s.heap->J.stop i H ->
  wpAny (model P w) X.A (pyNext (.ref it)) (λr s1=>r=none/\Inv X pins σ H s1) E s
 self:∀(A:Around) (i:Nat) (s:Shared) (Q:Value->Shared->Prop) (E:Value->Shared->Prop),tn i s.heap->Q (.ref it) s->wpAny (model P w) A (pyIter (.ref it)) Q E s
abbrev TI:=St->Hp->(It->Hp->Prop)->Prop
inductive UH (X:Cx) (pins:List (Addr×Obj)) (σ:St) (tg:Expr) (R:It->Hp->Prop) (Qe:Value) (s2:Shared):Prop
 |mk (it:Addr) (fp:List Addr) (tn:Nat->Heap->Prop) (J:It) (H':Hp) (e:Qe=.ref it) (i:Inv X pins σ H' s2) (t:Turn X.prog X.w X.K tg J fp it tn) (z:tn 0 s2.heap) (f:∀b∈fp,lP X pins H' b) (q:R J H')
def PI(X:Cx)(tg iter:Expr)(wi:TI):Prop:=
 ∀(pins:List (Addr×Obj)) (s:Shared) (σ:St) (H:Hp) (R:It->Hp->Prop),Inv X pins σ H s->wi σ H R ->
  wpAny (model X.prog X.w) X.A (eval iter X.env) (λv s1=>wpAny (model X.prog X.w) X.A (pyIter v) (UH X pins σ tg R) X.xe s1) X.xe s
theorem KZ(ho:s.heap.get? it=some o)(hc:o.cls=.type n)(hd:o.data=.fields vs)
  (hn:["enumerate","zip","dict_itemiterator","dict_reverseitemiterator","odict_iterator","itertools.zip_longest","itertools.pairwise"].contains n=false)(hQ:Q () s):wpAny M A (letOwnedTupleGo tg (.ref it) u) Q E s:=by
 unfold letOwnedTupleGo
 cases tg<;>first
  |exact jb hQ
  | (cases u<;>first
    |exact jb hQ
    | (refine eN (wpAny_load ho ?_);rw[hc,hd];show wpAny M A (if (["enumerate","zip","dict_itemiterator","dict_reverseitemiterator","odict_iterator","itertools.zip_longest","itertools.pairwise"].contains n&&vs[0]?==some (rawInt _))=true then _ else _) Q E s;rw[if_neg (by intro h;rw[hn,Bool.false_and] at h;cases h)];exact jb hQ))
def LR(K:aG)(a:Addr):It:=
 ⟨λi H=>∃xs x,kA K H a xs/\xs[i]?=some x,λi H x H'=>H'=H/\∀xs,kA K H a xs->xs[i]?=some x,λi H=>∃xs,kA K H a xs/\xs.length<=i⟩
def LQ(K:aG)(a:Addr):It:=
 ⟨λi H=>∃xs x,ll K H a xs/\xs[i]?=some x,λi H x H'=>H'=H/\∀xs,ll K H a xs->xs[i]?=some x,λi H=>∃xs,ll K H a xs/\xs.length<=i⟩
def wH(lo:Int)(n:Nat):It:=⟨λi _=>i<n,λi H x H'=>H'=H/\x=.int (lo+i),λi _=>n<=i⟩
theorem b22{P:Program}{w:World}{K:aG}{tg:Expr}(a it:Addr):Turn P w K tg (LR K a) [it] it (λi h=>h.IsListIter it a i) where
 mem:=by simp
 obj:=λi h st b hb=>by
  have e:b=it:=by simpa using hb
  subst e;obtain⟨o,e,c,d⟩:=st;exact⟨o,e,λv z=>by rw[d] at z;cases z⟩
 keep:=λi h h' st k=>st.at λo e=>k it (by simp) o e
 item:=by intro X hP hw hK hc i pins s σ H E I hf st hg;subst hP hw hK;obtain⟨xs,x,hq,hx⟩:=hg;obtain⟨aS,rv,p,hz⟩:=I.list hq;obtain⟨u,hu,ru⟩:=rv.get hx;obtain⟨f0,f1,f2,f3,f4,f5⟩:=hf it (by simp);refine wpAny_pyNext_list_item st p.isList (x:=u) (by simpa using hu) λh' sU sb=>?_;have I1:Inv X pins σ H { s with heap:=h' }:=I.turned (t':=s.toks) (λb o hb e=>(sb.2 b hb).trans e) f0 f1 f3 f4 f5;obtain⟨o,e,c,d⟩:=id sU;exact⟨u,rfl,KZ (s:={ s with heap:=h' }) e c d (by decide) ⟨x,H,I1,ru,⟨rfl,λys hy=>by rw[I.qu hy hq];exact hx⟩,sU,λb hb=>(hf b hb).1⟩⟩
 done:=by intro X hP hw hK hc i pins s σ H E I hf st hg;subst hP hw hK;obtain⟨xs,hq,hx⟩:=hg;obtain⟨aS,rv,p,hz⟩:=I.list hq;obtain⟨f0,f1,f2,f3,f4,f5⟩:=hf it (by simp);have hl:=rv.length;exact wpAny_pyNext_list_end (I.ok.hd hc) st p.isList (by simp;omega) λh' eb=>⟨rfl,I.turned (t':=s.toks) (λb o hb e=>eb b o hb e) f0 f1 f3 f4 f5⟩
 self:=λ_ _ _ _ _ st h=>wpAny_pyIter_listiter st h
theorem b2m{P:Program}{w:World}{K:aG}{tg:Expr}(a it:Addr):Turn P w K tg (LQ K a) [it] it (λi h=>h.IsTupleIter it a i) where
 mem:=by simp
 obj:=λi h st b hb=>by
  have e:b=it:=by simpa using hb
  subst e;obtain⟨o,e,c,d⟩:=st;exact⟨o,e,λv z=>by rw[d] at z;cases z⟩
 keep:=λi h h' st k=>st.at λo e=>k it (by simp) o e
 item:=by intro X hP hw hK hc i pins s σ H E I hf st hg;subst hP hw hK;obtain⟨xs,x,hq,hx⟩:=hg;obtain⟨aS,rv,p,hz⟩:=I.tuple hq;obtain⟨u,hu,ru⟩:=rv.get hx;obtain⟨f0,f1,f2,f3,f4,f5⟩:=hf it (by simp);refine wpAny_pyNext_tuple_item st (show s.heap.IsTuple a aS.toArray from p) (x:=u) (by simpa using hu) λh' sU sb=>?_;have I1:Inv X pins σ H { s with heap:=h' }:=I.turned (t':=s.toks) (λb o hb e=>(sb.2 b hb).trans e) f0 f1 f3 f4 f5;obtain⟨o,e,c,d⟩:=id sU;exact⟨u,rfl,KZ (s:={ s with heap:=h' }) e c d (by decide) ⟨x,H,I1,ru,⟨rfl,λys hy=>by rw[I.n9 hy hq];exact hx⟩,sU,λb hb=>(hf b hb).1⟩⟩
 done:=by intro X hP hw hK hc i pins s σ H E I hf st hg;subst hP hw hK;obtain⟨xs,hq,hx⟩:=hg;obtain⟨aS,rv,p,hz⟩:=I.tuple hq;obtain⟨f0,f1,f2,f3,f4,f5⟩:=hf it (by simp);have hl:=rv.length;exact wpAny_pyNext_tuple_end (I.ok.hd hc) st (show s.heap.IsTuple a aS.toArray from p) (by simp;omega) λh' eb=>⟨rfl,I.turned (t':=s.toks) (λb o hb e=>eb b o hb e) f0 f1 f3 f4 f5⟩
 self:=λ_ _ _ _ _ st h=>wpAny_pyIter_tupleiter st h
theorem Y1{P:Program}{w:World}{K:aG}{tg:Expr}(it:Addr)(lo:Int)(n:Nat):Turn P w K tg (wH lo n) [it] it (λi h=>IsRangeIter h it (lo+(i:Nat)*1) ((n:Int)-(i:Nat)) 1) where
 mem:=by simp
 obj:=λi h st b hb=>by
  have e:b=it:=by simpa using hb
  subst e;exact⟨_,st,λv z=>by have z':Data.fields _=Data.cell v:=z;cases z'⟩
 keep:=λi h h' st k=>k it (by simp) _ st
 item:=by intro X hP hw hK hc i pins s σ H E I hf st hg;subst hP hw hK;obtain⟨f0,f1,f2,f3,f4,f5⟩:=hf it (by simp);have W:=Walks.range (prog:=X.prog) (w:=X.w) (I.ok.hd hc) it lo 1 n;refine W.item i s _ _ hg st λv h' tk hv sU kk=>?_;obtain⟨t,rfl⟩:=hv;have I1:Inv X pins σ H { s with heap:=h',toks:=tk }:=I.turned (λb o hb e=>kk b o (by simpa using hb) e) f0 f1 f3 f4 f5;refine⟨_,rfl,KZ (s:={ s with heap:=h',toks:=tk }) (n:="range_iterator") sU rfl rfl (by decide) ⟨.int (lo+i),H,I1,⟨t,?_⟩,⟨rfl,rfl⟩,sU,λb hb=>(hf b hb).1⟩⟩;rw[Int.mul_one]
 done:=by intro X hP hw hK hc i pins s σ H E I hf st hg;subst hP hw hK;obtain⟨f0,f1,f2,f3,f4,f5⟩:=hf it (by simp);exact wpAny_pyNext_range_end (I.ok.hd hc) st (by have:n<=i:=hg;omega) λh' eb=>⟨rfl,I.turned (t':=s.toks) (λb o hb e=>eb b o hb e) f0 f1 f3 f4 f5⟩
 self:=λ_ _ _ _ _ st h=>wpAny_pyIter_rangeiter st h
end L2
namespace L2
open PySem PySem.Spec PyProof.Rows
section
variable {X:Cx}{tg:Expr}
theorem b41{pins:List (Addr×Obj)}{σ:St}{H:Hp}{s:Shared}{R:It->Hp->Prop}{E:Value->Shared->Prop}{lo hi:Int}{t u v:Tok}{tk:Nat}(I:Inv X pins σ H s)(h1:-(2^62)<=lo)(h2:lo<2^62)(h3:-(2^62)<=hi)(h4:hi<2^62)
  (q:R (wH lo (hi-lo).toNat) H):wpAny (model X.prog X.w) X.A (pyIter (.ref s.heap.objs.size)) (UH X pins σ tg R) E { s with heap:=s.heap.push { cls:=.type "range",data:=.fields #[.int lo t,.int hi u,.int 1 v] },toks:=tk }:=by
 refine wpAny_pyIter_range (Q1 ..) (small_one h1 h2 h3 h4) ?_;have I1:Inv X pins σ H { s with heap:=s.heap.push { cls:=.type "range",data:=.fields #[.int lo t,.int hi u,.int 1 v] },toks:=tk }:=I.kept λb o e=>ky _ e
 refine⟨(s.heap.push { cls:=.type "range",data:=.fields #[.int lo t,.int hi u,.int 1 v] }).objs.size,[(s.heap.push { cls:=.type "range",data:=.fields #[.int lo t,.int hi u,.int 1 v] }).objs.size],_,_,H,rfl,
  I1.kept (t':=tk) λb o e=>ky _ e,Y1 _ lo (hi-lo).toNat,?_,λb hb=>?_,q⟩
 .have e1:lo+((0:Nat):Int)*1=lo:=by simp
  have e2:(((hi-lo).toNat:Nat):Int)-((0:Nat):Int)=VX lo hi 1:=by rw[rangeSize_one];split<;>omega
  show IsRangeIter _ _ (lo+((0:Nat):Int)*1) ((((hi-lo).toNat:Nat):Int)-((0:Nat):Int)) 1;rw[e1,e2];exact qI _ rfl
 .have e:b=(s.heap.push { cls:=.type "range",data:=.fields #[.int lo t,.int hi u,.int 1 v] }).objs.size:=by simpa using hb
  subst e;exact I1.vy (fQ _) (I1.cM.fresh (fQ _))
def JC(ta:TA):TI:=λσ H R=>ta σ H λvs H1=>∃j:Int,vs=[.int j] /\ -(2^62)<=j/\j<2^62/\R (wH 0 j.toNat) H1
theorem b3u(hg:Gl X "range")(hm:X.mg "range" = none)(ha:PA X [a] ta)(hs:autoParam (starEach [a] X.env=[(false,eval a X.env)]) ra2._auto_1):PI X tg (.Call (.Name "range" p) [a] [] pos) (JC ta):=by
 intro pins s σ H R I h;refine Call_ (K6 I hg hm boot_range (RB (cU (ha pos pins s σ H _ I h) λus s1 ⟨vs,H1,I1,r1,q1⟩=>?_) hs rfl));obtain⟨j,e,q1,q2,q⟩:=q1;subst e
 cases r1 with
 |cons r rr => cases rr;obtain⟨t,rfl⟩:=r;exact call_range_1 (b41 I1 (by omega) (by omega) q1 q2 (by simpa using q))
def Pj(wi:TI)(g:TG)(tb:TS):TS:=λD σ H=>wi σ H λJ H1=>∃W:Nat->Nat->St->Hp->Prop,(∃m,W 0 m σ H1)/\∀i m σ H,W i m σ H ->
 (J.stop i H/\D.nx σ H)\/(J.go i H/\∃N:St->Hp->Prop,(∀aH H',N aH H'->∃m',m'<m/\W (i+1) m' aH H')/\∀x H',J.Ex i H x H'->g x σ H' λft H2=>tb { D with nx:=N,ct:=N,bk:=D.nx } ft H2)
def C5(fp:List Addr)(h:Heap):List (Addr×Obj):=fp.filterMap λb=>(h.get? b).map λo=>(b,o)
theorem Lw(hb:b∈fp)(e:h.get? b=some o):(b,o)∈C5 fp h:=We.mpr ⟨b,hb,by rw[e];rfl⟩
theorem TH(hp:p∈C5 fp h):p.1∈fp/\h.get? p.1=some p.2:=by
 obtain⟨b,hb,e⟩:=We.mp hp
 cases q:h.get? b with
 |none=>rw[q] at e;cases e
 |some o => rw[q] at e;have e':(b,o)=p:=gY e;subst e';exact⟨hb,q⟩
theorem Inv.pinned{pins:List (Addr×Obj)}{σ:St}{H:Hp}{s:Shared}{fp:List Addr}(I:Inv X pins σ H s)(hf:∀b∈fp,lP X pins H b)(ho:∀b∈fp,∃o,s.heap.get? b=some o/\∀v,o.data≠.cell v):Inv X (pins++C5 fp s.heap) σ H s:=
 I.j0 λp hp=>(FF.mp hp).elim (λz=>I.pin p (A2 _ z)) λz=>by obtain⟨hb,e⟩:=TH z;obtain⟨f0,f1,f2,_⟩:=hf p.1 hb;obtain⟨o,e',d⟩:=ho p.1 hb;rw[e] at e';cases e';exact⟨e,f0,f1,f2,d⟩
theorem Inv.mf{pins pl:List (Addr×Obj)}{σ:St}{H:Hp}{s:Shared}(I:Inv X (pins++pl) σ H s):Inv X pins σ H s:=I.j0 λp hp=>I.pin p (A2 _ (KC _ hp))
theorem Xq(hp:PassesOwn (model X.prog X.w) X.A X.env X.xe)(hc:X.calm=true)(hi:PI X tg iter wi)(hg:PG X tg g)(hb:nZ X body tb)
  (hs:autoParam (∀x,foldedSetIterable iter X.env x=pure x) ra3._auto_1):PS X (.For tg iter body [] pos) (Pj wi g tb):=by
 intro pins s σ H D I h;refine wpAny_For (cU (hi pins s σ H _ I h) λv s1 h1=>cU h1 λQe s2 h2=>?_) hs;obtain⟨it,fp,tn,J,H2,e,I2,T,Gv,f2,W,⟨m0,w0⟩,turn⟩:=h2;subst e;have EA:∀{H':Hp},(∀b∈fp,H' b=none)->∀b∈fp,lP X pins H' b:=λhn b hb=>⟨hn b hb,(f2 b hb).2⟩;refine codeAny_forLoop_any (λn s'=>∃i aH H',Inv X pins aH H' s'/\tn i s'.heap/\(∀b∈fp,H' b=none)/\W i n aH H') ?_ m0 ⟨0,σ,H2,I2,Gv,λb hb=>(f2 b hb).1,w0⟩;rintro n s3 ⟨i,ma,H3,I3,Iv,J4,w3⟩;rcases turn i n ma H3 w3 with⟨stop,qn⟩|⟨go,N,hN,step⟩;.refine FE hp (cU (T.done X rfl rfl rfl hc i pins s3 ma H3 X.xe I3 (EA J4) Iv stop) λr s4 ⟨hr,I4⟩=>?_);subst hr;exact KJ ⟨ma,H3,I4,qn⟩
 .refine FE hp (cU (T.item X rfl rfl rfl hc i pins s3 ma H3 X.xe I3 (EA J4) Iv go) λr s4 ⟨u,hr,h4⟩=>?_);subst hr;refine FE hp (cU h4 λ_ s5 ⟨x,H5,I5,r5,y5,EB,QL⟩=>?_);have UK:=I5.pinned (EA QL) (T.obj _ _ EB);refine FE hp (cU (hg _ s5 ma H5 x u _ UK r5 (step x H5 y5)) λ_ s6 ⟨sQ,H6,I6,q6⟩=>?_);refine FE hp (cU (hb _ s6 sQ H6 _ I6 q6) λf s7 q7=>?_);have again:∀{zN:St} {H7:Hp},Inv X (pins++C5 fp s5.heap) zN H7 s7->N zN H7->∃m,m<n/\∃i aH H',Inv X pins aH H' s7/\tn i s7.heap/\(∀b∈fp,H' b=none)/\W i m aH H':=λ{zN H7} I7 n7=>by obtain⟨m',hm,w7⟩:=hN zN H7 n7;refine⟨m',hm,i+1,zN,H7,I7.mf,T.keep _ _ _ EB λb hb o e=>(I7.pin (b,o) (A2 _ (A2 _ (Lw hb e)))).1,λb hb=>?_,w7⟩;obtain⟨o,e,d⟩:=T.obj _ _ EB b hb;exact(I7.pin (b,o) (A2 _ (A2 _ (Lw hb e)))).2.1
  cases f with
  |next=>obtain⟨zN,H7,I7,n7⟩:=q7;exact again I7 n7
  |cont=>obtain⟨zN,H7,I7,n7⟩:=q7;exact again I7 n7
  |brk=>obtain⟨zN,H7,I7,q7⟩:=q7;exact⟨zN,H7,I7.mf,q7⟩
  |ret v=>obtain⟨x7,zN,H7,I7,r7,q7⟩:=q7;exact⟨x7,zN,H7,I7.mf,r7,q7⟩
end
theorem b5x{K:aG}{a:Addr}{xs:List V}{g:TG}{tb:TS}{D:Ends}{σ:St}{H:Hp}(Pv:Nat->St->Hp->Prop)(h0:Pv 0 σ H)(hl:∀i σ H,i<=xs.length->Pv i σ H->kA K H a xs)
  (hs:∀i x σ H,xs[i]?=some x->Pv i σ H->g x σ H λft H2=>tb { D with nx:=Pv (i+1),ct:=Pv (i+1),bk:=D.nx } ft H2)(hd:∀σ H,Pv xs.length σ H->D.nx σ H):
  ∃W:Nat->Nat->St->Hp->Prop,(∃m,W 0 m σ H)/\∀i m σ H,W i m σ H ->
   ((LR K a).stop i H/\D.nx σ H)\/((LR K a).go i H/\∃N:St->Hp->Prop,(∀aH H',N aH H'->∃m',m'<m/\W (i+1) m' aH H')/\∀x H',(LR K a).Ex i H x H'->g x σ H' λft H2=>tb { D with nx:=N,ct:=N,bk:=D.nx } ft H2):=by
 refine⟨λi m σ H=>m=xs.length-i/\i<=xs.length/\Pv i σ H,⟨xs.length,by simp,FG _,h0⟩,?_⟩;rintro i m σ H ⟨rfl,hi,p⟩;have q:=hl i σ H hi p;by_cases k9:i<xs.length;.refine .inr ⟨⟨xs,xs[i],q,by simp[k9]⟩,Pv (i+1),λaH H' p'=>⟨xs.length-(i+1),by omega,rfl,k9,p'⟩,λx H' y=>?_⟩;obtain⟨e,y⟩:=y;subst e;exact hs i x σ _ (y xs q) p
 .have e:i=xs.length:=by omega
  subst e;exact .inl ⟨⟨xs,q,fQ _⟩,hd σ H p⟩
theorem b7y{K:aG}{a:Addr}{xs:List V}{g:TG}{tb:TS}{D:Ends}{σ:St}{H:Hp}(Pv:Nat->St->Hp->Prop)(h0:Pv 0 σ H)(hl:∀i σ H,i<=xs.length->Pv i σ H->ll K H a xs)
  (hs:∀i x σ H,xs[i]?=some x->Pv i σ H->g x σ H λft H2=>tb { D with nx:=Pv (i+1),ct:=Pv (i+1),bk:=D.nx } ft H2)(hd:∀σ H,Pv xs.length σ H->D.nx σ H):
  ∃W:Nat->Nat->St->Hp->Prop,(∃m,W 0 m σ H)/\∀i m σ H,W i m σ H ->
   ((LQ K a).stop i H/\D.nx σ H)\/((LQ K a).go i H/\∃N:St->Hp->Prop,(∀aH H',N aH H'->∃m',m'<m/\W (i+1) m' aH H')/\∀x H',(LQ K a).Ex i H x H'->g x σ H' λft H2=>tb { D with nx:=N,ct:=N,bk:=D.nx } ft H2):=by
 refine⟨λi m σ H=>m=xs.length-i/\i<=xs.length/\Pv i σ H,⟨xs.length,by simp,FG _,h0⟩,?_⟩;rintro i m σ H ⟨rfl,hi,p⟩;have q:=hl i σ H hi p;by_cases k9:i<xs.length;.refine .inr ⟨⟨xs,xs[i],q,by simp[k9]⟩,Pv (i+1),λaH H' p'=>⟨xs.length-(i+1),by omega,rfl,k9,p'⟩,λx H' y=>?_⟩;obtain⟨e,y⟩:=y;subst e;exact hs i x σ _ (y xs q) p
 .have e:i=xs.length:=by omega
  subst e;exact .inl ⟨⟨xs,q,fQ _⟩,hd σ H p⟩
theorem b36{lo:Int}{n:Nat}{g:TG}{tb:TS}{D:Ends}{σ:St}{H:Hp}(Pv:Nat->St->Hp->Prop)(h0:Pv 0 σ H)
  (hs:∀i σ H,i<n->Pv i σ H->g (.int (lo+i)) σ H λft H2=>tb { D with nx:=Pv (i+1),ct:=Pv (i+1),bk:=D.nx } ft H2)(hd:∀σ H,Pv n σ H->D.nx σ H):
  ∃W:Nat->Nat->St->Hp->Prop,(∃m,W 0 m σ H)/\∀i m σ H,W i m σ H ->
   ((wH lo n).stop i H/\D.nx σ H)\/((wH lo n).go i H/\∃N:St->Hp->Prop,(∀aH H',N aH H'->∃m',m'<m/\W (i+1) m' aH H')/\∀x H',(wH lo n).Ex i H x H'->g x σ H' λft H2=>tb { D with nx:=N,ct:=N,bk:=D.nx } ft H2):=by
 refine⟨λi m σ H=>m=n-i/\i<=n/\Pv i σ H,⟨n,by simp,FG _,h0⟩,?_⟩;rintro i m σ H ⟨rfl,hi,p⟩;by_cases k9:i<n;.refine .inr ⟨k9,Pv (i+1),λaH H' p'=>⟨n-(i+1),by omega,rfl,k9,p'⟩,λx H' y=>?_⟩;obtain⟨e,y⟩:=y;subst e y;exact hs i σ _ k9 p
 .have e:i=n:=by omega
  subst e;exact .inl ⟨fQ _,hd σ H p⟩
end L2
namespace L2
open PySem PySem.Spec PyProof.Rows
abbrev R2:=V->V->Hp->VK->Prop
def lO(X:Cx)(f:Value->Value->Sem Value)(r:R2):Prop:=
 ∀(pins:List (Addr×Obj)) (s:Shared) (σ:St) (H:Hp) (x y:V) (v u:Value) (Q:VK),Inv X pins σ H s->RelV x v->RelV y u->r x y H Q ->
  wpAny (model X.prog X.w) X.A (f v u) (EP X pins σ Q) X.xe s
def hX(X:Cx)(f:Value)(r:List V->Hp->VK->Prop):Prop:=
 ∀(pins:List (Addr×Obj)) (s:Shared) (σ:St) (H:Hp) (xs:List V) (us:List Value) (Q:VK),Inv X pins σ H s->aR xs us->r xs H Q ->
  wpAny (model X.prog X.w) X.A (call f us) (EP X pins σ Q) X.xe s
def UD(X:Cx)(r:V->Hp->(Bool->Hp->Prop)->Prop):Prop:=
 ∀(pins:List (Addr×Obj)) (s:Shared) (σ:St) (H:Hp) (x:V) (v:Value) (Q:Bool->Hp->Prop),Inv X pins σ H s->RelV x v->r x H Q ->
  wpAny (model X.prog X.w) X.A (truthy v) (TP X pins σ Q) X.xe s
def Il(r:R2)(ta tb:TE):TE:=λσ H Q=>ta σ H λx H1=>tb σ H1 λy H2=>r x y H2 Q
def rI(C:Int->Int->Prop)(g:Int->Int->V):R2:=λx y H Q=>∃i j,x=.int i/\y=.int j/\C i j/\Q (g i j) H
def EK(g:Int->Int->V):R2:=λx y H Q=>∃i j,x=.int i/\y=.int j/\Q (g i j) H
section
variable {X:Cx}{a b c:Expr}{ta tb tc:TE}{pos:Pos}
theorem FQ(ha:PE X a ta)(hb:PE X b tb){pins:List (Addr×Obj)}{s:Shared}{σ:St}{H:Hp}{R:V->V->Hp->Prop}(I:Inv X pins σ H s)
  (h:ta σ H λx H1=>tb σ H1 λy H2=>R x y H2){Q:Value->Shared->Prop}{f:Value->Value->Sem Value}
  (hf:∀v u s2 x y H2,Inv X pins σ H2 s2->RelV x v->RelV y u->R x y H2->wpAny (model X.prog X.w) X.A (f v u) Q X.xe s2):
  wpAny (model X.prog X.w) X.A (eval a X.env) (λv bT=>wpAny (model X.prog X.w) X.A (eval b X.env) (λu uw=>wpAny (model X.prog X.w) X.A (f v u) Q X.xe uw) X.xe bT) X.xe s:=by refine cU (ha pins s σ H _ I h) λv s1 ⟨x,H1,I1,r1,q1⟩=>?_;refine cU (hb pins s1 σ H1 _ I1 q1) λu s2 ⟨y,H2,I2,r2,q2⟩=>?_;exact hf v u s2 x y H2 I2 r1 r2 q2
theorem IY(ho:lO X (binaryOp op) r)(ha:PE X a ta)(hb:PE X b tb):PE X (.BinOp a op b pos) (Il r ta tb):=by intro pins s σ H Q I h;exact wpAny_BinOp (FQ ha hb I h λv u s2 x y H2 I2 rx ry q=>ho pins s2 σ H2 x y v u Q I2 rx ry q)
theorem Jc{f:Value->Value->Sem Value}{C:Int->Int->Prop}{g:Int->Int->Int}
  (rule:∀(i j:Int) (t u:Tok) (s:Shared) (Q:Value->Shared->Prop) (E:Value->Shared->Prop),C i j->Q (.int (g i j) s.toks) { s with toks:=s.toks+1 }->wpAny (model X.prog X.w) X.A (f (.int i t) (.int j u)) Q E s):
  lO X f (rI C λi j=>.int (g i j)):=by intro pins s σ H x y v u Q I rx ry h;obtain⟨i,j,rfl,rfl,hc,q⟩:=h;obtain⟨t,rfl⟩:=rx;obtain⟨t',rfl⟩:=ry;exact rule i j t t' s _ _ hc ⟨.int (g i j),H,I.tok _,⟨_,rfl⟩,q⟩
theorem PN{f:Value->Value->Sem Value}{g:Int->Int->Int}
  (rule:∀(i j:Int) (t u:Tok) (s:Shared) (Q:Value->Shared->Prop) (E:Value->Shared->Prop),Q (.int (g i j) s.toks) { s with toks:=s.toks+1 }->wpAny (model X.prog X.w) X.A (f (.int i t) (.int j u)) Q E s):
  lO X f (EK λi j=>.int (g i j)):=by intro pins s σ H x y v u Q I rx ry h;obtain⟨i,j,rfl,rfl,q⟩:=h;obtain⟨t,rfl⟩:=rx;obtain⟨t',rfl⟩:=ry;exact rule i j t t' s _ _ ⟨.int (g i j),H,I.tok _,⟨_,rfl⟩,q⟩
theorem EN{f:Value->Value->Sem Value}{g:Int->Int->Bool}
  (rule:∀(i j:Int) (t u:Tok) (s:Shared) (Q:Value->Shared->Prop) (E:Value->Shared->Prop),Q (.bool (g i j)) s->wpAny (model X.prog X.w) X.A (f (.int i t) (.int j u)) Q E s):
  lO X f (EK λi j=>.bl (g i j)):=by intro pins s σ H x y v u Q I rx ry h;obtain⟨i,j,rfl,rfl,q⟩:=h;obtain⟨t,rfl⟩:=rx;obtain⟨t',rfl⟩:=ry;exact rule i j t t' s _ _ ⟨.bl (g i j),H,I,rfl,q⟩
theorem EM:lO X (binaryOp .Add) (EK λi j=>.int (i+j)):=PN λ_ _ _ _ _ _ _ q=>add_int q
end
section
variable {X:Cx}{a b c:Expr}{ta tb tc:TE}{pos:Pos}
theorem b9G{pins:List (Addr×Obj)}{σ:St}{H:Hp}{s:Shared}{Q:VK}{k k':Bool}(I:Inv X pins σ H s)(q:Q (.bl k) H)(e:k=k'):EP X pins σ Q (.bool k') s:=by subst e;exact⟨.bl k,H,I,rfl,q⟩
theorem I9:lO X (compareOp .Lt) (EK λi j=>.bl (decide (i<j))):=EN λ_ _ _ _ _ _ _ q=>lt_int q
theorem Ja:lO X (compareOp .LtE) (EK λi j=>.bl (decide (i<=j))):=EN λ_ _ _ _ _ _ _ q=>le_int q
theorem Jb:lO X (compareOp .Gt) (EK λi j=>.bl (decide (j<i))):=EN λ_ _ _ _ _ _ _ q=>gt_int q
theorem b3y:lO X (compareOp .In) (λx y H Q=>∃i j,x=.str i/\y=.str j/\Q (.bl (!(VW j i 0 j.length 1).isEmpty)) H):=by intro pins s σ H x y v u Q I rx ry h;obtain⟨i,j,rfl,rfl,q⟩:=h;obtain⟨t,rfl⟩:=rx;obtain⟨t',rfl⟩:=ry;exact in_str (b9G I q rfl)
theorem lO.or(h:lO X f r)(h':lO X f r'):lO X f (λx y H Q=>r x y H Q\/r' x y H Q):=by
 intro pins s σ H x y v u Q I rx ry q;rcases q with q|q;.exact h pins s σ H x y v u Q I rx ry q
 .exact h' pins s σ H x y v u Q I rx ry q
theorem W4(b:Expr)(h:autoParam (op≠.In) ra1._auto_1)(h2:autoParam (op≠.NotIn) ra1._auto_1):behindInMarks op b=false:=by
 have e1:(op==CmpOp.In)=false:=by cases op<;>first|rfl|exact absurd rfl h
 have e2:(op==CmpOp.NotIn)=false:=by cases op<;>first|rfl|exact absurd rfl h2
 cases b<;>simp[behindInMarks,e1,e2]
theorem b62(ho:lO X (compareOp op) r)(ha:PE X a ta)(hb:PE X b tb)(hm:behindInMarks op b=false):PE X (.Compare a [op] [b] pos) (Il r ta tb):=by intro pins s σ H Q I h;exact wpAny_Compare1 (FQ ha hb I h λv u s2 x y H2 I2 rx ry q=>ho pins s2 σ H2 x y v u Q I2 rx ry q) hm
def WH(t:TE):TT:=λσ H Q=>t σ H λx H'=>∃k,x=.bl k/\Q k H'
theorem b6V(ho:lO X (compareOp op) r)(ha:PE X a ta)(hb:PE X b tb)(hm:behindInMarks op b=false):PT X (.Compare a [op] [b] pos) (WH (Il r ta tb)):=by
 intro pins s σ H Q I h
 refine wpAny_isTrue_Compare1 (cU (ha pins s σ H _ I h) λv s1 ⟨x,H1,I1,r1,q1⟩=>cU (hb pins s1 σ H1 _ I1 q1) λu s2 ⟨y,H2,I2,r2,q2⟩ =>
  cU (ho pins s2 σ H2 x y v u _ I2 r1 r2 q2) λc s3 ⟨z,H3,I3,r3,k,e,q3⟩=>?_) hm;subst e;cases r3;exact GL ⟨H3,I3,q3⟩
def b8F(r r':R2)(ta tb tc:TE):TE:=λσ H Q=>ta σ H λx H1=>tb σ H1 λy H2=>r x y H2 λz H3=>∃k,z=.bl k /\
 (if k=true then tc σ H3 λw' H4=>r' y w' H4 Q else Q (.bl false) H3)
theorem b43(ho:lO X (compareOp op) r)(lS:lO X (compareOp Jd) r')(ha:PE X a ta)(hb:PE X b tb)(hc:PE X c tc)
  (hm:lastMarks [op,Jd] [b,c]=false:=by with_unfolding_all rfl):PT X (.Compare a [op,Jd] [b,c] pos) (WH (b8F r r' ta tb tc)):=by
 intro pins s σ H Q I h
 refine isTrue_chain (cU (ha pins s σ H _ I h) λv s1 ⟨x,H1,I1,r1,q1⟩=>test_link (cU (hb pins s1 σ H1 _ I1 q1) λu s2 ⟨y,H2,I2,r2,q2⟩ =>
  cU (ho pins s2 σ H2 x y v u _ I2 r1 r2 q2) λd s3 ⟨z,H3,I3,r3,k,e,q3⟩=>?_)) hm;subst e;cases r3;refine GL ?_
 cases k with
 |false => obtain⟨k',e',q'⟩:=q3;cases e';exact ite_ff ⟨H3,I3,q'⟩
 |true => refine ite_tt (test_last (cU (hc pins s3 σ H3 _ I3 q3) λw' s4 ⟨z',H4,I4,r4,q4⟩=>cU (lS pins s4 σ H4 y z' u w' _ I4 r2 r4 q4) λd' s5 ⟨z2,H5,I5,r5,k2,e2,q5⟩=>?_));subst e2;cases r5;exact GL ⟨H5,I5,q5⟩
def Gp(K:aG)(x:V)(H:Hp)(k:Bool):Prop:=
 match x with
 | .dO=>k=false
 | .bl b=>k=b
 | .int i=>k=(i != 0)
 | .str y=>y.length<=sizeLine/\k=((y.length:Int) != 0)
 | .G0 y=>y.size<=sizeLine/\k=((y.size:Int) != 0)
 | .ref p=>(∃xs,kA K H p xs/\k=!xs.isEmpty)\/(∃xs,ll K H p xs/\k=!xs.isEmpty)\/∃dz,H p=some (.dK dz)/\k=!dz.isEmpty
 |_=>False
theorem b2O{κ:Type}{dz:List (κ×V)}{vs:List (κ×Value)}(r:KV dz vs):(!vs.isEmpty)=!dz.isEmpty:=by cases r<;>rfl
theorem YW(r:aR xs aS):(!aS.toArray.isEmpty)=!xs.isEmpty:=by cases r<;>simp
theorem Hc:(sizeLine:Nat)<2^63:=by rw[kM];decide
theorem b8A:UD X (λx H Q=>∃k,Gp X.K x H k/\Q k H):=by
 intro pins s σ H x v Q I rx h;obtain⟨k,e,q⟩:=h;have hl:=Hc;have hs:sizeLine=16777216:=kM
 cases x with
 |dO => cases rx;have e':k=false:=e;subst e';exact truthy_none ⟨H,I,q⟩
 |bl b => cases rx;have e':k=b:=e;subst e';exact GL ⟨H,I,q⟩
 |int i => obtain⟨t,rfl⟩:=rx;have e':k=(i != 0):=e;subst e';exact PySem.P.truthy_int ⟨H,I,q⟩
 |str y => obtain⟨t,rfl⟩:=rx;obtain⟨hy,e'⟩:y.length<=sizeLine/\k=((y.length:Int) != 0):=e;subst e';exact PySem.P.truthy_str (by omega) ⟨H,I.tok _,q⟩
 |G0 y => obtain⟨t,rfl⟩:=rx;obtain⟨hy,e'⟩:y.size<=sizeLine/\k=((y.size:Int) != 0):=e;subst e';exact PySem.W.truthy_bytes (by omega) ⟨H,I.tok _,q⟩
 |ref p =>
  cases rx;have e':(∃xs,kA X.K H p xs/\k=!xs.isEmpty)\/(∃xs,ll X.K H p xs/\k=!xs.isEmpty)\/∃dz,H p=some (.dK dz)/\k=!dz.isEmpty:=e;rcases e' with⟨xs,hx,e'⟩|⟨xs,hx,e'⟩|⟨dz,hx,e'⟩;.subst e';obtain⟨aS,r,pl,hz⟩:=I.list hx;have hlen:=r.length;exact wpAny_truthy_list pl.isList (by simp only[lI];omega) ⟨H,I.tok _,by rw[YW r];exact q⟩
  .subst e';obtain⟨aS,r,pl,hz⟩:=I.tuple hx;have hlen:=r.length;exact truthy_tuple pl (by simp only[lI];omega) ⟨H,I.tok _,by rw[YW r];exact q⟩
  .subst e';obtain⟨hz,hS,vs,r,m⟩:dz.length<=sizeLine/\(p==sysModules)=false/\∃vs,KV dz vs/\s.heap.DictOf (SU X.prog X.w) p vs:=I.cM p _ hx;have hlen:dz.length=vs.length:=Paired.length r;exact wpAny_truthy_dict hS m (by omega) ⟨H,I.tok _,by rw[b2O r];exact q⟩
 |_=>exact(show False from e).elim
theorem b42(ha:PE X a ta)(he:∀whole,isTrue a X.env whole=(do let v <-whole;standAt a.pos;holding [v] (truthy v))):
  PT X a (λσ H Q=>ta σ H λx H'=>∃k,Gp X.K x H' k/\Q k H'):=by intro pins s σ H Q I h;exact isTrue_plain (cU (ha pins s σ H _ I h) λv s1 ⟨x,H1,I1,r1,q1⟩=>b8A pins s1 σ H1 x v Q I1 r1 q1) (he _)
theorem rR:lO X (binaryOp .Add) (λx y H Q=>∃i j,x=.str i/\y=.str j/\i.length+j.length<=sizeLine/\Q (.str (i++j)) H):=by intro pins s σ H x y v u Q I rx ry h;obtain⟨i,j,rfl,rfl,hz,q⟩:=h;obtain⟨t,rfl⟩:=rx;obtain⟨t',rfl⟩:=ry;exact add_str (λt' tk=>⟨.str (i++j),H,I.tok _,⟨_,rfl⟩,q⟩) hz
theorem vals1(r:aR [x] us):∃u,us=[u]/\RelV x u:=by
 cases r with
 |cons r1 r2=>cases r2;exact⟨_,rfl,r1⟩
theorem vals2(r:aR [x,y] us):∃u w',us=[u,w']/\RelV x u/\RelV y w':=by
 cases r with
 |cons r1 r2 =>
  cases r2 with
  |cons r3 r4=>cases r4;exact⟨_,_,rfl,r1,r3⟩
theorem j6:hX X (.type "str") (λxs H Q=>∃i,xs=[.int i]/\i.natAbs.log2<1920/\Q (.str (toString i)) H):=by intro pins s σ H xs us Q I r h;obtain⟨i,rfl,hz,q⟩:=h;obtain⟨u,rfl,t,rfl⟩:=vals1 r;exact PySem.P.str_of_int hz ⟨.str _,H,I.tok _,⟨_,rfl⟩,q⟩
end
end L2
namespace L2
open PySem PySem.Spec PyProof.Rows
structure sO(h:Heap)(x dx C:Addr)(mA:Str->Option Value):Prop where
 obj:h.get? x=some (DX C dx)
 ns:h.Ns1 dx mA
 ne:dx≠x
theorem b3L{h:Heap}(n:h.Ns1 dx mA):∃od,h.get? dx=some od/\∀name,MF name od=some (mA name):=by
 obtain⟨o,es,ep,ho,hd,hk,_,hm⟩:=n;refine⟨o,ho,λname=>?_⟩;have e:=hm name;unfold nsFind findBy at e;rw[<-Array.find?_toList] at e;unfold MF;rw[hd];dsimp only;split;.rename_i y q;rw[q] at e;exact congrArg some e
 .rename_i q;rw[q] at e;have a:es.toList.any (·.refKey)=false:=by rw[List.any_eq_false];intro y hy;obtain⟨z,t,Qt⟩:=hk y (Array.mem_toList_iff.mp hy);simp[DictEntry.refKey,Qt]
  have a':¬es.toList.any (·.refKey)=true:=by rw[a];exact zq
  rw[if_neg a'];exact congrArg some e
theorem sO.look(I:sO h x dx C mA):∃od,PySem.W.InstAt h x (DX C dx) C (some od)/\∀name,MF name od=some (mA name):=
 let ⟨od,ho,hl⟩:=b3L I.ns
 ⟨od,⟨I.obj,rfl,rfl,ho⟩,hl⟩
section
variable {prog:Program}{w:World}{A:Around}{E:Value->Shared->Prop}{s:Shared}{K:aG}{x dx C f:Addr}{mA:Str->Option Value}{name:Str}{v:Value}
theorem b7x(X:K.In s.heap)(I:sO s.heap x dx C mA)(hg:MQ K C name=true)(hh:Rh K C=true)
  (ha:pF K (.ref C) name=some none)(hv:mA name=some v)(hv':VR v=true)(h:Q v { s with toks:=s.toks+1 }):
  wpAny (model prog w) A (getAttr (.ref x) name expr) Q E s:=by obtain⟨od,J,hl⟩:=I.look;exact PySem.W.get_value X J (RK hg).1 (PySem.W.findObj_own hh ha rfl (by rw[hl,hv])) hv' h
theorem b5v(X:K.In s.heap)(I:sO s.heap x dx C mA)(hg:MQ K C name=true)
  (hf:pF K (.ref C) name=some (some (.ref f)))(ht:Q5 K (.ref f)=true)(hv:mA name=none)(h:Q (.ref f,[.ref x]) s):
  wpAny (model prog w) A (getMethod (.ref x) name pl) Q E s:=by obtain⟨od,J,hl⟩:=I.look;exact PySem.W.method_fn X J (RK hg).1 (RK hg).2 hf (beq_iff_eq.mp ht) (by show (MF name od).map (·.isSome)=some false;rw[hl,hv];rfl) h
theorem b6M(X:K.In s.heap)(I:sO s.heap x dx C mA)
  (hs:pF K (.ref C) "__setattr__" = some (some (.builtin "object.__setattr__")))(hp:VT K C=true)(ht:Rv K C name=some none)(hh:Rh K C=true)
  (hw:Q8 mA ns)(hsz:ns.length<=sizeLine)
  (h:∀h',sO h' x dx C (λy=>if y=name then some v else mA y)->Ku dx s.heap h'->Q () { s with heap:=h',toks:=s.toks+2 }):
  wpAny (model prog w) A (setAttr (.ref x) name v) Q E s:=by obtain⟨od,J,hl⟩:=I.look;refine PySem.W.set_plain X J hs (PySem.W.osa_open (s:={ s with toks:=s.toks+1 }) (r:=none) X J hp ht λb=>?_);obtain⟨cd,hc,E7⟩:=PySem.W.any_some hh;have hx:s.heap.get? x=some ⟨.ref C,some dx,.plain,#[]⟩:=I.obj;refine eN (jb (eN (eN (wpAny_loadPart hx (eN (PySem.W.Looks.here (s:={ s with toks:=s.toks+1 }) (PySem.W.looks_clsIn X hc) ?_))))));rw[E7];refine jb (a:=some dx) (eN (jb (eN ?_)));refine wpAny_nsSet1 (s:={ s with toks:=s.toks+1 }) I.ns λh' Ml yA=>?_;obtain⟨oD,esD,epD,hoD,hdD,hcD⟩:=Ml.count (PySem.Within.cons name v hw);refine eN (wpAny_lookBehind hoD (by rw[hdD];exact pastItsLine_dict (iV hcD (by rw[jj];omega))) ?_);exact jb (h _ ⟨(yA.2 _ (pD I.ne)).trans I.obj,Ml,I.ne⟩ yA)
theorem b5e(X:K.In s.heap)(hm:VO K C=true)
  (hi:pF K (.ref C) "__init__" = some (some (.ref f)))(hf:PySem.W.typeIn K (.ref f)=some (.type "function"))
  (h:codeAny (model prog w) (A.under (.builtin "type.__call__" ⟨.ref C::vs,kw⟩)) (.call (.ref f) ⟨.ref (s.heap.objs.size+1)::vs,kw⟩) (PySem.W.InitBack (s.heap.objs.size+1) R)
   { s with heap:=(s.heap.push CT).push (DX C s.heap.objs.size) }):
  codeAny (model prog w) A (.call (.ref C) ⟨vs,kw⟩) R s:=by obtain⟨hh,g,d,t,os⟩:=s;exact PySem.W.make_core (PySem.W.makes_of X hm) (ME X hi) (λself=>PySem.W.bind_fn X self hf) (.inl rfl) h
end
def gL(f:Str)(v:V):List (Str×V)->List (Str×V)
 |[]=>[(f,v)]
 |(g,x)::r=>if g=f then (g,v)::r else (g,x)::gL f v r
theorem Y9(f g:Str)(v:V):∀fs:List (Str×V),(gL f v fs).lookup g=if g=f then some v else fs.lookup g
 |[]=>by
  show CP g [(f,v)]=_;by_cases h:g=f;.have hb:(g==f)=true:=beq_iff_eq.mpr h;simp only[CP,hb,if_pos h]
  .have hb:(g==f)=false:=beq_eq_false_iff_ne.mpr h;simp only[CP,hb,if_neg h]
 |(k,x)::r=>by
  have ih:=Y9 f g v r;rw[show gL f v ((k,x)::r)=(if k=f then (k,v)::r else (k,x)::gL f v r) from rfl];by_cases hk:k=f
  .rw [if_pos hk];by_cases h:g=k;.have hb:(g==k)=true:=beq_iff_eq.mpr h;simp only[CP,hb,if_pos (h.trans hk)]
   .have hb:(g==k)=false:=beq_eq_false_iff_ne.mpr h;simp only[CP,hb,if_neg (λe:g=f=>h (e.trans hk.symm))]
  .rw [if_neg hk];by_cases h:g=k;.have hb:(g==k)=true:=beq_iff_eq.mpr h;simp only[CP,hb,if_neg (λe:g=f=>hk (h.symm.trans e))]
   .have hb:(g==k)=false:=beq_eq_false_iff_ne.mpr h;simp only[CP,hb];exact ih
theorem TL(f:Str)(v:V):∀fs:List (Str×V),f∈(gL f v fs).map (·.1)/\∀g,g∈fs.map (·.1)->g∈(gL f v fs).map (·.1)
 |[]=>⟨by simp[gL],λg h=>by simp at h⟩
 |(k,x)::r=>by
  obtain⟨i1,i2⟩:=TL f v r;rw[show gL f v ((k,x)::r)=(if k=f then (k,v)::r else (k,x)::gL f v r) from rfl];by_cases hk:k=f;.rw [if_pos hk];subst hk;exact⟨by simp,λg h=>by simpa using h⟩
  .rw [if_neg hk];refine⟨?_,λg h=>?_⟩;.rw [jM];exact mZ _ i1
   .rw [jM] at h ⊢;rcases iF.mp h with e | e;.exact iF.mpr (.inl e)
    .exact mZ _ (i2 g e)
theorem Y8(f:Str)(v:V):∀fs:List (Str×V),(gL f v fs).length<=fs.length+1
 |[]=>by simp[gL]
 |(k,x)::r=>by
  have ih:=Y8 f v r;rw[show gL f v ((k,x)::r)=(if k=f then (k,v)::r else (k,x)::gL f v r) from rfl];by_cases hk:k=f;.rw [if_pos hk,jj,jj];omega
  .rw [if_neg hk,jj,jj];omega
theorem nY.some_of(r:nY (some v) o):∃u,o=some u/\RelV v u:=by
 cases o with
 |none=>exact(show False from r).elim
 |some u=>exact⟨u,rfl,r⟩
theorem nY.none_of(r:nY none o):o=none:=by
 cases o with
 |none=>rfl
 |some u=>exact(show False from r).elim
theorem b33(r:RelV v u):VR u=true:=by
 cases v with
 |dO=>cases (show u=FJ from r);rfl
 |bl b=>cases (show u=MA b from r);rfl
 |int i=>obtain⟨t,e⟩:=(show ∃t,u=Kw i t from r);cases e;rfl
 |str x=>obtain⟨t,e⟩:=(show ∃t,u=GI x t from r);cases e;rfl
 |G0 b=>obtain⟨t,e⟩:=(show ∃t,u=Value.bytes b t from r);cases e;rfl
 |Mq b=>obtain⟨t,e⟩:=(show ∃t,u=Value.float b t from r);cases e;rfl
 |ref a=>cases (show u=mV a from r);rfl
 |ty n=>cases (show u=Value.type n from r);rfl
section
variable {P:Program}{w:World}{H H':Hp}{h h':Heap}{a C dx:Addr}{fs yE:List (Str×V)}
theorem SS(cM:jK P w H h)(e:H a=some (.ins C dx fs)):∃mA,sO h a dx C mA/\(∀f,nY (fs.lookup f) (mA f))/\Q8 mA (fs.map (·.1))/\fs.length<=1000/\H dx=some (.own a):=by obtain⟨d,z,ne,ob,mA,n,r,q⟩:=(show gj P w H h a (.ins C dx fs) from cM a _ e);exact⟨mA,⟨ob,n,ne⟩,r,q,z,d⟩
end
structure rA(K:aG)(C:Addr):Prop where
 pg:MQ K C ra=true
 hd:Rh K C=true
 po:VT K C=true
 sa:pF K (.ref C) "__setattr__" = some (some (.builtin "object.__setattr__"))
theorem rA.get{K:aG}{C:Addr}(c:rA K C)(f:Str):MQ K C f=true:=c.pg
def ak(K:aG)(C:Addr)(f:Str):Prop:=pF K (.ref C) f=some none
theorem ak.Ig{K:aG}{C:Addr}{f:Str}(n:ak K C f):Rv K C f=some none:=by unfold Rv;rw[show pF K (.ref C) f=some none from n];rfl
structure aZ(K:aG)(C:Addr)(m:Str)(f:Addr):Prop where
 at_:pF K (.ref C) m=some (some (.ref f))
 fn:Q5 K (.ref f)=true
 kp:ud K (.ref f)=true
section
variable {X:Cx}{pins:List (Addr×Obj)}{σ:St}{H:Hp}{s:Shared}{a C dx:Addr}{fs:List (Str×V)}{f:Str}{v:V}{A:Around}{E:Value->Shared->Prop}
theorem YV(I:Inv X pins σ H s)(e:H a=some (.ins C dx fs))(c:rA X.K C)(n:ak X.K C f)(l:fs.lookup f=some v)
  (h:∀u s',Inv X pins σ H s'->RelV v u->Q u s'):wpAny (model X.prog X.w) A (getAttr (.ref a) f b) Q E s:=by obtain⟨mA,O,r,_,_,_⟩:=SS I.cM e;obtain⟨u,hu,ru⟩:=nY.some_of (v:=v) (o:=mA f) (by rw[<-l];exact r f);exact b7x I.km O (c.get f) c.hd n hu (b33 ru) (h u _ (I.tok _) ru)
theorem NV(I:Inv X pins σ H s)(e:H a=some (.ins C dx fs))(c:rA X.K C)(k:aZ X.K C m g)(l:fs.lookup m=none)
  (h:Q (.ref g,[.ref a]) s):wpAny (model X.prog X.w) A (getMethod (.ref a) m pl) Q E s:=by obtain⟨mA,O,r,_,_,_⟩:=SS I.cM e;have hn:mA m=none:=nY.none_of (by rw[<-l];exact r m);exact b5v I.km O (c.get m) k.at_ k.fn hn h
theorem YX(I:Inv X pins σ H s)(e:H a=some (.ins C dx fs))(c:rA X.K C)(n:ak X.K C f)(hl:fs.length<1000)(ry:RelV y u)
  (h:∀s',Inv X pins σ (upd H a (.ins C dx (gL f y fs))) s'->Q () s'):wpAny (model X.prog X.w) A (setAttr (.ref a) f u) Q E s:=by
 obtain⟨mA,O,r,wi,_,ho⟩:=SS I.cM e;have hz:(fs.map (·.1)).length<=sizeLine:=by rw[kN,kM];omega
 refine b6M I.km O c.sa c.po n.Ig c.hd wi hz λh' O' sb=>h _ ?_;have hd:∃o,h'.get? dx=some o:=let ⟨o,_,_,e',_⟩:=O'.ns;⟨o,e'⟩;refine I.write (x:=a) (e:=dx) (by rw[e];exact True.intro) (.inr ho) (λb q hb z=>(sb.2 b hb).trans z) hd ?_;refine⟨by rw[eX O.ne];exact ho,?_,O.ne,O'.obj,_,O'.ns,λg=>?_,λg hg=>?_⟩;.have:=Y8 f y fs;omega
 .show nY ((gL f y fs).lookup g) (if g=f then some u else mA g);rw[Y9];by_cases q:g=f;.rw [if_pos q,if_pos q];exact ry
  .rw [if_neg q,if_neg q];exact r g
 .by_cases q:g=f;.rw [q];exact(TL f y fs).1
  .refine (TL f y fs).2 g (wi g λz=>hg ?_);show (if g=f then some u else mA g)=none;rw[if_neg q];exact z
theorem Inv.made(I:Inv X pins σ H s):Inv X pins σ (upd (upd H s.heap.objs.size (.own (s.heap.objs.size+1))) (s.heap.objs.size+1) (.ins C s.heap.objs.size []))
  { s with heap:=(s.heap.push CT).push (DX C s.heap.objs.size) }:=by
 have e1:(s.heap.push CT).get? s.heap.objs.size=some CT:=qI s.heap rfl;have e2:((s.heap.push CT).push (DX C s.heap.objs.size)).get? (s.heap.objs.size+1)=some (DX C s.heap.objs.size):=by have:=qI (s.heap.push CT) (o:=DX C s.heap.objs.size) rfl;rwa [KI] at this
 have e3:(s.heap.push CT).Ns s.heap.objs.size (λ_=>none):=⟨CT,#[],_,e1,rfl,(λe he=>absurd he (by simp)),λ_=>rfl⟩;have I1:=I.laid (a:=s.heap.objs.size) (o:=.own (s.heap.objs.size+1)) (h':=s.heap.push CT) (t':=s.toks) (λb u q=>ky _ q) (fQ _) ⟨_,e1⟩;refine I1.laid (a:=s.heap.objs.size+1) (o:=.ins C s.heap.objs.size []) (t':=s.toks) (λb u q=>ky _ q) (MH (KI _ _)) ?_;have ne:s.heap.objs.size≠s.heap.objs.size+1:=lb (A1 _);refine⟨by rw[eX ne,ni],FG _,ne,e2,λ_=>none,(Heap.Ns1.of_empty e3).at λo q=>ky _ q,λ_=>True.intro,λy hy=>absurd rfl hy⟩
theorem b74(hb:attributeBase e f env (eval e env)=eval e env)
  (h:wpAny (model prog w) A (eval e env) (λo bT=>wpAny (model prog w) A (getAttr o f true) Q E bT) E s):wpAny (model prog w) A (eval (.Attribute e f pos) env) Q E s:=
 Attribute_any_ h (by rw[arm_eval_Attribute,hb])
end
inductive UM (K:aG) (f:Str) (Q:VK) (x:V) (H1:Hp):Prop
 |mk (a C:Addr) (dx:Addr) (fs:List (Str×V)) (v:V) (ex:x=.ref a) (ea:H1 a=some (.ins C dx fs)) (c:rA K C) (n:ak K C f) (l:fs.lookup f=some v) (q:Q v H1)
def Pk(K:aG)(ta:TE)(f:Str):TE:=λσ H Q=>ta σ H (UM K f Q)
inductive UL (K:aG) (f:Str) (D:Ends) (σ:St) (y x:V) (H2:Hp):Prop
 |mk (a C:Addr) (dx:Addr) (fs:List (Str×V)) (ex:x=.ref a) (ea:H2 a=some (.ins C dx fs)) (c:rA K C) (n:ak K C f) (l:fs.length<1000) (q:D.nx σ (upd H2 a (.ins C dx (gL f y fs))))
def Po(K:aG)(ta tv:TE)(f:Str):TS:=λD σ H=>tv σ H λy H1=>ta σ H1 (UL K f D σ y)
def LS(X:Cx)(op:Operator)(rd:V->V->Hp->VK->Prop):Prop:=
 ∀(pins:List (Addr×Obj)) (s:Shared) (σ:St) (H:Hp) (x y:V) (u v:Value) (Q:VK),Inv X pins σ H s->RelV x u->RelV y v->rd x y H Q->wpAny (model X.prog X.w) X.A (inplaceOp op u v) (EP X pins σ Q) X.xe s
def b6P(K:aG)(ta tv:TE)(rd:V->V->Hp->VK->Prop)(f:Str):TS:=λD σ H=>ta σ H λx H1=>∃a C dx fs v,x=.ref a/\H1 a=some (.ins C dx fs)/\rA K C/\ak K C f/\fs.lookup f=some v /\
 tv σ H1 λy H2=>rd v y H2 λz H3=>∃Ft yE,H3 a=some (.ins C Ft yE)/\yE.length<1000/\D.nx σ (upd H3 a (.ins C Ft (gL f z yE)))
section
variable {X:Cx}{o e value:Expr}{f:Str}{pos pos' zT:Pos}{ta tv:TE}
theorem b9c(he:PE X e ta)(hb:attributeBase e f X.env (eval e X.env)=eval e X.env):PE X (.Attribute e f pos) (Pk X.K ta f):=by intro pins s σ H Q I h;refine b74 hb (cU (he pins s σ H _ I h) λu s1 ⟨x,H1,I1,rx,a,C,dx,fs,v,ex,ea,c,n,l,q⟩=>?_);subst ex;obtain rfl:u=mV a:=rx;exact YV I1 ea c n l λu' s2 I2 ru=>⟨v,H1,I2,ru,q⟩
theorem Xp(ha:PE X o ta)(hv:PE X value tv)(hs:swapsWith value (some (.Attribute o f pos')) pos.line X.env=pure false):PS X (.Assign [.Attribute o f pos'] value pos) (Po X.K ta tv f):=by intro pins s σ H D I h;refine plainObj_wpAny_Assign_Attribute (cU (hv pins s σ H _ I h) λu s1 ⟨y,H1,I1,ry,q⟩=>cU (ha pins s1 σ H1 _ I1 q) λov s2 ⟨x,H2,I2,rx,a,C,dx,fs,ex,ea,c,n,l,q2⟩=>?_) hs;subst ex;obtain rfl:ov=mV a:=rx;exact YX I2 ea c n l ry λs3 I3=>⟨σ,_,I3,q2⟩
theorem b3s(ha:PE X o ta)(hv:PE X value tv)(hop:LS X op rd):PS X (.AugAssign (.Attribute o f zT) op value pos) (b6P X.K ta tv rd f):=by intro pins s σ H D I h;refine wpAny_AugAssign_AttributeAny (cU (ha pins s σ H _ I h) λov s1 ⟨x,H1,I1,rx,a,C,dx,fs,v,ex,ea,c,n,l,q⟩=>?_);subst ex;obtain rfl:ov=mV a:=rx;refine YV I1 ea c n l λu s2 I2 ru=>cU (hv pins s2 σ H1 _ I2 q) λw3 s3 ⟨y,H2,I3,ry,q3⟩=>cU (hop pins s3 σ H2 v y u w3 _ I3 ru ry q3) λw4 s4 ⟨z,H3,I4,rz,Ft,yE,ea',l',q4⟩=>?_;exact YX I4 ea' c n l' rz λs5 I5=>⟨σ,_,I5,q4⟩
def PH:V->V->Hp->VK->Prop:=λx y H Q=>∃i j,x=.int i/\y=.int j/\Q (.int (i+j)) H
theorem b9v:LS X .Add PH:=by rintro pins s σ H x y u v Q I rx ry ⟨i,j,rfl,rfl,q⟩;obtain⟨t,rfl⟩:=(show ∃t,u=Kw i t from rx);obtain⟨t',rfl⟩:=(show ∃t',v=Kw j t' from ry);exact PyProof.Rows.iadd_int ⟨.int (i+j),H,I.tok _,⟨_,rfl⟩,q⟩
end
section
variable {X:Cx}{pins:List (Addr×Obj)}{σ:St}{H:Hp}{s:Shared}{A:Around}{E:Value->Shared->Prop}{Q:Value->Shared->Prop}{c:Value}{b:Bool}
end
end L2
namespace L2
open PySem PySem.Spec PyProof.Rows
structure cD(k:Nat)(A:Around):Prop where
 hd:A.handled=none
 dp:A.depth+3*k+5<recursionLimit
 un:A.units+16*k+200<cLine
theorem cD.mono(r:cD k A)(h:j<=k):cD j A:=⟨r.hd,by have:=r.dp;omega,by have:=r.un;omega⟩
theorem cD.deeper(r:cD (k+1) A)(env:Env):cD k (A.deeper env):=
 ⟨r.hd,by have:=r.dp;show A.depth+1+3*k+5<_;omega,by have:=r.un;show A.units+3+16*k+200<_;omega⟩
theorem b2L{A:Around}{kw:List (Str×Value)}:(A.under (.builtin "type.__call__" ⟨.ref C::us,kw⟩)).depth=A.depth+1:=by first | rfl | simp[Q4,Code.weight,Code.isCreation,Code.isGuard,Code.isCaller,Code.frames,Q3,guardIds]
theorem b2K{A:Around}{kw:List (Str×Value)}:(A.under (.builtin "type.__call__" ⟨.ref C::us,kw⟩)).units=A.units+1:=by first | rfl | simp[Q4,Code.cUnits,Code.frames,Q3]
theorem cD.make(r:cD (k+1) A)(C:Addr)(us:List Value)(kw:List (Str×Value)):cD k (A.under (.builtin "type.__call__" ⟨.ref C::us,kw⟩)):=
 ⟨r.hd,by have:=r.dp;rw[b2L];omega,by have:=r.un;rw[b2K];omega⟩
theorem cD.depth(r:cD k A):A.depth<recursionLimit:=by have:=r.dp;omega
def Ez:TA:=λ_ H Q=>Q [] H
def Iq(ta:TE)(tr:TA):TA:=λσ H Q=>ta σ H λx H1=>tr σ H1 λxs H2=>Q (x::xs) H2
section
variable {X:Cx}{e:Expr}{es:List Expr}{te:TE}{t:TA}{pos:Pos}
theorem sG:PA X [] Ez:=λ_ _ _ _ H Q I h=>Calls.spliced_nil ⟨[],H,I,.nil,h⟩
theorem lX(ha:PE X e te)(hr:PA X es t)(hs:autoParam (starEach (e::es) X.env=(false,eval e X.env)::starEach es X.env) ra2._auto_1):PA X (e::es) (Iq te t):=by intro pos pins s σ H Q I h;rw[hs];show wpAny _ _ (spliced ((false,eval e X.env)::backTo pos (starEach es X.env))) _ _ s;refine Calls.spliced_cons (cU (ha pins s σ H _ I h) λu s1 ⟨x,H1,I1,r1,q1⟩=>?_);exact cU (hr pos pins s1 σ H1 _ I1 q1) λus s2 ⟨xs,H2,I2,r2,q2⟩=>⟨x::xs,H2,I2,.cons r1 r2,q2⟩
def Pc(t:TA):TE:=λσ H Q=>t σ H λxs H1=>xs.length<=sizeLine/\∀p,H1 p=none->Q (.ref p) (upd H1 p (.tup xs))
def Pg(t:TA):TE:=λσ H Q=>t σ H λxs H1=>xs.length<=sizeLine/\∀p,H1 p=none->Q (.ref p) (upd H1 p (.lst xs))
theorem Nj{x1}(h:PA X es t):PE X (.Tuple es x1 pos) (Pc t):=by intro pins s σ H Q I hq;refine wpAny_Tuple_spliced (cU (h pos pins s σ H _ I hq) λus s1 ⟨xs,H1,I1,r,z,q⟩=>⟨by rw[<-r.length];exact z,?_⟩);have hf:H1 s1.heap.objs.size=none:=I1.cM.fresh (fQ _);refine⟨.ref s1.heap.objs.size,upd H1 s1.heap.objs.size (.tup xs),I1.laid (t':=s1.toks) (λb u e=>ky _ e) (fQ _) ?_,rfl,q _ hf⟩;exact⟨z,us,r,⟨_,qI _ rfl,rfl,_,rfl⟩⟩
theorem Xn(h:PA X es t):PE X (.List es pos) (Pg t):=by intro pins s σ H Q I hq;refine wpAny_List_spliced (cU (h pos pins s σ H _ I hq) λus s1 ⟨xs,H1,I1,r,z,q⟩=>⟨by rw[<-r.length];exact z,?_⟩);have hf:H1 s1.heap.objs.size=none:=I1.cM.fresh (fQ _);refine⟨.ref s1.heap.objs.size,upd H1 s1.heap.objs.size (.lst xs),I1.laid (t':=s1.toks) (λb u e=>ky _ e) (fQ _) ?_,rfl,q _ hf⟩;exact⟨z,us,0,r,qI _ rfl⟩
end
abbrev Sp:=List V->Hp->VK->XK->Prop
abbrev uu:=List Env->Hp->Shared->XK->Value->Shared->Prop
structure sP(P:Program)(w:World)(K:aG)(mg:Str->Option Value)(base:Heap)(A:Around)(outer:List Env)(s:Shared)(H:Hp):Prop where
 frames:A.frames=some outer
 mod:Mod K mg base
 bs:∀b o,base.get? b=some o->s.heap.get? b=some o/\H b=none
 A3:base.objs.size<=s.heap.objs.size
 j3:s.heap.FunFrames base outer
 CF:∀b∈j4 outer,H b=none
 cM:jK P w H s.heap
 bare:AllBare s.gens
def CE(outer:List Env)(P:Program)(w:World)(H:Hp)(s:Shared)(Q:VK)(u:Value)(s':Shared):Prop:=
 ∃v H',s'.os=s.os/\AllBare s'.gens/\Un (j4 outer) [] H H' s.heap s'.heap/\jK P w H' s'.heap/\RelV v u/\Q v H'
def CR(CX:uu)(outer:List Env)(P:Program)(w:World)(H:Hp)(s:Shared)(Q:VK)(E:XK)(r:Result)(s':Shared):Prop:=
 match r with
 | .ok (.ret u)=>CE outer P w H s Q u s'
 | .ok _=>False
 | .error e=>CX outer H s E e s'
structure bQ(P:Program)(w:World)(K:aG)(mg:Str->Option Value)(base:Heap)(CX:uu)(k:Nat)(f:Addr)(fd:FuncData)(ps:List Str)(sp:Sp):Prop where
 len:∀vs H Q E,sp vs H Q E->vs.length=ps.length
 run:∀(A:Around) (outer:List Env) (s:Shared) (H:Hp) (args:Args) (us:List Value) (vs:List V) (Q:VK) (E:XK),cD k A->sP P w K mg base A outer s H->BindsTo s fd args (ps.zip us)->aR vs us->sp vs H Q E ->
  codeAny (model P w) A (.call (.ref f) args) (CR CX outer P w H s Q E) s
theorem bQ.mono{P:Program}{w:World}{K:aG}{mg:Str->Option Value}{base:Heap}{CX:uu}{j k:Nat}{f:Addr}{fd:FuncData}{ps:List Str}{sp:Sp}(F:bQ P w K mg base CX j f fd ps sp)(h:j<=k):
  bQ P w K mg base CX k f fd ps sp:=⟨F.len,λA outer s H args us vs Q E hr=>F.run A outer s H args us vs Q E (hr.mono h)⟩
theorem bQ.imp{P:Program}{w:World}{K:aG}{mg:Str->Option Value}{base:Heap}{CX:uu}{k:Nat}{f:Addr}{fd:FuncData}{ps:List Str}{sp UX:Sp}(F:bQ P w K mg base CX k f fd ps sp)
  (h:∀vs H Q E,UX vs H Q E->sp vs H Q E):bQ P w K mg base CX k f fd ps UX:=
 ⟨λvs H Q E q=>F.len vs H Q E (h _ _ _ _ q),λA outer s H args us vs Q E hr he hb hv hs=>F.run A outer s H args us vs Q E hr he hb hv (h _ _ _ _ hs)⟩
theorem sP.make{P:Program}{w:World}{K:aG}{mg:Str->Option Value}{base:Heap}{A:Around}{outer:List Env}{s:Shared}{H:Hp}(e:sP P w K mg base A outer s H)(C:Addr)(us:List Value)(kw:List (Str×Value)):
  sP P w K mg base (A.under (.builtin "type.__call__" ⟨.ref C::us,kw⟩)) outer s H:=⟨by first | exact e.frames | (simpa[Q4,Code.envs,Q3,pushEnvs] using e.frames),e.mod,e.bs,e.A3,e.j3,e.CF,e.cM,e.bare⟩
section
variable {X:Cx}{pins:List (Addr×Obj)}{σ:St}{H:Hp}{s s':Shared}
theorem Inv.ig(I:Inv X pins σ H s):sP X.prog X.w X.K X.mg X.base X.A X.stack s H:=
 ⟨I.ok.frames,I.ok.mod,I.bs,iV I.ok.A3 I.sz,I.stack,I.jT,I.cM,I.bare⟩
theorem Inv.after(I:Inv X pins σ H s)(h:CE X.stack X.prog X.w H s Q u s'):EP X pins σ Q u s':=by obtain⟨v,H',os,bare,un,cM,r,q⟩:=h;obtain⟨hh,g,d,t,os'⟩:=s';obtain rfl:os'=s.os:=os;exact⟨v,H',I.call (h':=hh) (g':=g) (d':=d) (t':=t) (ch:=[]) un cM bare (λb z=>absurd z (by simp)),r,q⟩
end
def RZ(sp:Sp)(dvs:List V)(E:XK)(t:TA):TE:=λσ H Q=>t σ H λvs H1=>sp (vs++dvs) H1 Q E
def M4(C:Addr)(sp:Sp)(dvs:List V)(E:XK)(t:TA):TE:=λσ H Q=>t σ H λvs H1=>∀x dx,H1 x=none->H1 dx=none->dx≠x ->
 sp (.ref x::(vs++dvs)) (upd (upd H1 dx (.own x)) x (.ins C dx [])) (λv H2=>v=.dO/\Q (.ref x) H2) E
def Binds(K:aG)(fd:FuncData)(ps:List Str)(ds:List Value):Prop:=
 ∀(s:Shared) (us:List Value),K.In s.heap->(us++ds).length=ps.length->BindsTo s fd ⟨us,[]⟩ (ps.zip (us++ds))
theorem Binds.all{K:aG}{fd:FuncData}{ps:List Str}(h:∀us:List Value,us.length=ps.length->bindArgs fd ⟨us,[]⟩=pure (ps.zip us)):Binds K fd ps []:=λs us _ hl=>by rw[qJ] at hl ⊢;exact .of_eq (h us hl)
def K8(CX:uu)(X:Cx)(E:XK):Prop:=∀(pins:List (Addr×Obj)) (σ:St) (H:Hp) (s:Shared) (e:Value) (s':Shared),Inv X pins σ H s->CX X.stack H s E e s'->X.xe e s'
section
variable {X:Cx}{CX:uu}{k:Nat}{f C:Addr}{fd:FuncData}{ps:List Str}{sp:Sp}{dvs:List V}{ds:List Value}{E:XK}{x m:Str}{p pos apos:Pos}{e o:Expr}{es:List Expr}{ta:TE}{t:TA}
theorem Nm{pins:List (Addr×Obj)}{σ:St}{H:Hp}{s:Shared}{Q:VK}{us:List Value}{vs:List V}(F:bQ X.prog X.w X.K X.mg X.base CX k f fd ps sp)(hr:cD k X.A)(hb:Binds X.K fd ps ds)(hd:aR dvs ds)(hx:K8 CX X E)
  (I:Inv X pins σ H s)(r:aR vs us)(h:sp (vs++dvs) H Q E):wpAny (model X.prog X.w) X.A (call (.ref f) us) (EP X pins σ Q) X.xe s:=by
 have r2:aR (vs++dvs) (us++ds):=r.append hd;have hl:(us++ds).length=ps.length:=by rw[<-r2.length];exact F.len _ _ _ _ h
 refine Kv (Kt (F.run X.A X.stack s H ⟨us,[]⟩ (us++ds) (vs++dvs) Q E hr I.ig (hb s us I.km hl) r2 h) λr s' hq=>?_)
 cases r with
 |error e=>exact hx pins σ H s e s' I hq
 |ok fl =>
  cases fl with
  |ret u=>exact I.after hq
  |next=>exact gg hq
  |brk=>exact gg hq
  |cont=>exact gg hq
theorem SW(F:bQ X.prog X.w X.K X.mg X.base CX k f fd ps sp)(hr:cD k X.A)(hg:Gl X x)(hm:X.mg x=some (.ref f))(hk:ud X.K (.ref f)=true)(hb:Binds X.K fd ps ds)(hd:aR dvs ds)(hx:K8 CX X E)
  (ha:PA X (e::es) t)(d8:autoParam ((x==("__debug__":Str))=false) ra1._auto_1)(he:autoParam (starEach (e::es) X.env=(false,eval e X.env)::starEach es X.env) ra2._auto_1)(c6:autoParam ((backTo pos (starEach es X.env)).any (·.1)=false) ra2._auto_1):
  PE X (.Call (.Name x p) (e::es) [] pos) (RZ sp dvs E t):=by intro pins s σ H Q I h;refine FO (BY I hg hm ?_ d8);refine DW (h₀:=X.base) I.ok.mod.yk hk (cU (ha pos pins s σ H _ I h) λus s1 ⟨vs,H1,I1,r,q⟩=>⟨I1.km,?_⟩) he c6;exact Nm F hr hb hd hx I1 r q
structure Mk(K:aG)(C f:Addr):Prop where
 makes:VO K C=true
 init:pF K (.ref C) "__init__" = some (some (.ref f))
 fn:Q5 K (.ref f)=true
 kp:ud K (.ref C)=true
theorem b4Y{pins:List (Addr×Obj)}{σ:St}{H:Hp}{s:Shared}{Q:VK}{us:List Value}{vs:List V}(M:Mk X.K C f)(F:bQ X.prog X.w X.K X.mg X.base CX k f fd ps sp)(hr:cD (k+1) X.A)(hb:Binds X.K fd ps ds)(hd:aR dvs ds)
  (hx:K8 CX X E)(I:Inv X pins σ H s)(r:aR vs us)
  (h:∀x dx,H x=none->H dx=none->dx≠x->sp (.ref x::(vs++dvs)) (upd (upd H dx (.own x)) x (.ins C dx [])) (λv H2=>v=.dO/\Q (.ref x) H2) E):
  wpAny (model X.prog X.w) X.A (call (.ref C) us) (EP X pins σ Q) X.xe s:=by
 have hq:=h (s.heap.objs.size+1) s.heap.objs.size (I.cM.fresh (Nat.le_succ _)) (I.cM.fresh (fQ _)) (lb (A1 _));have I2:=Inv.made (C:=C) I;have r2:aR (V.ref (s.heap.objs.size+1)::(vs++dvs)) (mV (s.heap.objs.size+1)::(us++ds)):=.cons rfl (r.append hd);have hl:(mV (s.heap.objs.size+1)::us++ds).length=ps.length:=by have e:=r2.length;rw[F.len _ _ _ _ hq] at e;exact e.symm
 refine Kv (b5e (f:=f) I.km M.makes M.init (beq_iff_eq.mp M.fn) (Kt (F.run _ X.stack _ _ ⟨mV (s.heap.objs.size+1)::us,[]⟩ (mV (s.heap.objs.size+1)::(us++ds)) _ _ E (hr.make C us [])
  (I2.ig.make C us []) (hb _ (mV (s.heap.objs.size+1)::us) I2.km hl) r2 hq) λr s' rX=>?_))
 cases r with
 |error e=>exact hx pins σ _ _ e s' I2 rX
 |ok fl =>
  cases fl with
  |ret u => obtain⟨v,H',I3,rv,ev,q3⟩:=I2.after rX;subst ev;exact⟨rv,⟨V.ref (s.heap.objs.size+1),H',I3,rfl,q3⟩⟩
  |next=>exact gg rX
  |brk=>exact gg rX
  |cont=>exact gg rX
theorem Lf(M:Mk X.K C f)(F:bQ X.prog X.w X.K X.mg X.base CX k f fd ps sp)(hr:cD (k+1) X.A)(hg:Gl X x)(hm:X.mg x=some (.ref C))(hb:Binds X.K fd ps ds)(hd:aR dvs ds)(hx:K8 CX X E)
  (ha:PA X (e::es) t)(d8:autoParam ((x==("__debug__":Str))=false) ra1._auto_1)(he:autoParam (starEach (e::es) X.env=(false,eval e X.env)::starEach es X.env) ra2._auto_1)(c6:autoParam ((backTo pos (starEach es X.env)).any (·.1)=false) ra2._auto_1):
  PE X (.Call (.Name x p) (e::es) [] pos) (M4 C sp dvs E t):=by intro pins s σ H Q I h;refine FO (BY I hg hm ?_ d8);refine DW (h₀:=X.base) I.ok.mod.yk M.kp (cU (ha pos pins s σ H _ I h) λus s1 ⟨vs,H1,I1,r,q⟩=>⟨I1.km,?_⟩) he c6;exact b4Y M F hr hb hd hx I1 r q
end
section
variable {X:Cx}{CX:uu}{k:Nat}{f C:Addr}{fd:FuncData}{ps ks:List Str}{sp:Sp}{E:XK}{x m:Str}{p pos apos kpos:Pos}{e o:Expr}{es:List Expr}{kws:List Keyword}{te ta:TE}{t tk:TA}{nm:Option Str}
variable {g:List Value->List Value->List Value}{gV:List V->List V->List V}
end
structure bP(N P:List Str)(sc:Scope):Prop where
 kind:sc.kind=.function
 co:sc.isCoroutine=false
 gen:sc.isGenerator=false
 nd:N.Nodup
 pre:N.take P.length=P
 par:∀x∈P,sc.names.lookup x=some .local\/sc.names.lookup x=some .cell
 ER:∀y∈sc.names,y.2≠.free
theorem YD{kindOf:Str->Option NameKind}{x:Str}:∀{binds:List (Str×Value)} {m:Str->Option Value},(∀v,(x,v)∉binds)->bindL kindOf binds m x=m x
 |[],_,_=>rfl
 |(n,v)::r,m,h=>by
  unfold bindL;rw[YD λw hw=>h w (mZ _ hw)];split
  .have:x≠n:=by rintro rfl;exact h v nA
   simp[this]
  .rfl
theorem YB{kindOf:Str->Option NameKind}{x:Str}:∀{binds:List (Str×Value)} {m:Str->Option Value},(∀v,(x,v)∉binds)->bindC kindOf binds m x=m x
 |[],_,_=>rfl
 |(n,v)::r,m,h=>by
  unfold bindC;rw[YB λw hw=>h w (mZ _ hw)];split;.rfl
  .have:x≠n:=by rintro rfl;exact h v nA
   simp[this]
theorem YC{kindOf:Str->Option NameKind}{x:Str}{v:Value}:∀{P:List Str} {vs:List Value} {i:Nat} {m:Str->Option Value},P.Nodup->P[i]?=some x->vs[i]?=some v->kindOf x=some .local ->
  bindL kindOf (P.zip vs) m x=some v
 |[],_,_,_,_,h,_,_=>by simp at h
 |_::_,[],_,_,_,_,h,_=>by simp at h
 |p::P,w::vs,0,m,nd,h1,h2,hk=>by simp at h1 h2;subst h1;subst h2;show bindL kindOf ((p,w)::P.zip vs) m p=_;unfold bindL;rw[YD λv hv=>(MX.mp nd).1 (Ru hv).1,if_pos hk];simp
 |p::P,w::vs,i+1,m,nd,h1,h2,hk=>by show bindL kindOf ((p,w)::P.zip vs) m x=_;unfold bindL;exact YC (i:=i) (MX.mp nd).2 (by simpa using h1) (by simpa using h2) hk
theorem YA{kindOf:Str->Option NameKind}{x:Str}{v:Value}:∀{P:List Str} {vs:List Value} {i:Nat} {m:Str->Option Value},P.Nodup->P[i]?=some x->vs[i]?=some v->kindOf x≠some .local ->
  bindC kindOf (P.zip vs) m x=some v
 |[],_,_,_,_,h,_,_=>by simp at h
 |_::_,[],_,_,_,_,h,_=>by simp at h
 |p::P,w::vs,0,m,nd,h1,h2,hk=>by simp at h1 h2;subst h1;subst h2;show bindC kindOf ((p,w)::P.zip vs) m p=_;unfold bindC;rw[YB λv hv=>(MX.mp nd).1 (Ru hv).1,if_neg hk];simp
 |p::P,w::vs,i+1,m,nd,h1,h2,hk=>by show bindC kindOf ((p,w)::P.zip vs) m x=_;unfold bindC;exact YA (i:=i) (MX.mp nd).2 (by simpa using h1) (by simpa using h2) hk
def start(N:List Str)(vs:List V):St:=vs.map some++pE (N.length-vs.length) none
def hU(CX:uu)(P:Program)(w:World)(K:aG)(mg:Str->Option Value)(base:Heap)(N:List Str)(qual:Str)(scope:Scope)(f:Addr)(cd:Value)(A:Around)(outer:List Env)(s:Shared)(H:Hp)(E:XK):Cx where
 prog:=P
 w:=w
 K:=K
 mg:=mg
 base:=base
 A:=A.deeper (envOfC qual scope s.heap.objs.size f cd)
 N:=N
 dZ:=s
 Bz:=H
 env:=envOfC qual scope s.heap.objs.size f cd
 outer:=outer
 stack:=envOfC qual scope s.heap.objs.size f cd::outer
 ex:=[]
 calm:=true
 fn:=λ_=>true
 pn:=[]
 xe:=λe s'=>wpAny (model P w) (A.deeper (envOfC qual scope s.heap.objs.size f cd)) (leaving (envOfC qual scope s.heap.objs.size f cd) e) (λ_ Pt=>CX outer H s E e Pt) (λe' Pt=>CX outer H s E e' Pt) s'
theorem XW{sc:Scope}{n:Nat}{x:Str}(h:sc.names.lookup x=some .cell):∃c,(cellsFrom n sc.names []).lookup x=some c:=by have q:=Wc sc.names n [] (.inl h);exact Option.isSome_iff_exists.mp q
theorem b3Z{CX:uu}{P:Program}{w:World}{K:aG}{mg:Str->Option Value}{base:Heap}{N ps:List Str}{qual:Str}{scope:Scope}{f:Addr}{cd:Value}{A:Around}{outer:List Env}{s s1:Shared}{H:Hp}{E:XK}{us:List Value}{vs:List V}
  (S:bP N ps scope)(hd:A.handled=none)(e0:sP P w K mg base A outer s H)(hl:vs.length=ps.length)(r:aR vs us)
  (x:InCallC s s.heap.objs.size (bindL (envOfC qual scope s.heap.objs.size f cd).kindOf (ps.zip us) λ_=>none) (cellsFrom (s.heap.objs.size+1) scope.names []) (bindC (envOfC qual scope s.heap.objs.size f cd).kindOf (ps.zip us) λ_=>none) s1):
  Inv (hU CX P w K mg base N qual scope f cd A outer s H E) [] (start N vs) H s1:=by
 have c6:ps.length<=N.length:=by have:=congrArg GX S.pre;rw[DY] at this;omega
 obtain⟨h1,tk,rfl,hk⟩:=x.done;have PZ:∀b:Addr,b∉(hU CX P w K mg base N qual scope f cd A outer s H E).ex:=λb z=>absurd (show b∈([]:List Addr) from z) (by simp)
 refine⟨⟨e0.mod,S.kind,rfl,rfl,fQ _,λy z c h1 h2=>?_,λy hy=>?_,λy c _ h=>?_,λ_=>hd,Around.frames_deeper e0.frames,.inr ⟨rfl,rfl⟩,λb z=>absurd z (PZ b),e0.bs,e0.A3,λb _ _=>PZ b,λb z=>absurd z (PZ b),e0.j3,e0.CF⟩,
  rfl,e0.bare,Un.kept hk,⟨_,x.toInCall.ns,λi y v h1 h2 h3=>?_⟩,λy c h=>⟨_,x.cell y c h⟩,e0.cM.fresh (fQ _),λy c h=>?_,λp hp=>absurd (show p∈([]:List (Addr×Obj)) from hp) (by simp),e0.cM.kept hk,?_⟩;.exact name_of_addr x.apart (GZ h1) (GZ h2)
 .have hy:scope.names.lookup y=some .cell\/scope.names.lookup y=some .free:=hy;rcases hy with hy | hy;.exact XW hy
  .exact absurd rfl (S.ER _ (GZ hy))
 .exact Q7 (x.above y c (GZ h))
 .have hi:i<vs.length:=by
   unfold start at h2;by_cases hi:i<vs.length;.exact hi
   .rw [MN (by simpa using hi)] at h2;rw[FK] at h2;split at h2<;>cases h2
  have ha:vs[i]?=some v:=by
   unfold start at h2;rw[KO (by simpa using hi),zp] at h2
   cases e:vs[i]? with
   |none=>rw[e] at h2;cases h2
   |some a=>rw[e] at h2;cases h2;rfl
  obtain⟨u,hu,rv⟩:=r.get ha;have hp:ps[i]?=some y:=by rw[<-S.pre,VY (by omega)];exact h1
  have Ve:ps.Nodup:=by rw[<-S.pre];exact S.nd.sublist (List.take_sublist _ _)
  refine⟨u,rv,?_⟩;rcases S.par y (MW hp) with k|k;.exact .inl ⟨k,YC Ve hp hu k⟩
  .obtain ⟨c,e⟩:=XW (n:=s.heap.objs.size+1) k;refine .inr ⟨.inl k,c,e,?_⟩;have q:=x.cell y c e;rw[YA Ve hp hu (by show scope.names.lookup y≠_;rw[k];decide)] at q;exact q
 .exact e0.cM.fresh (Q7 (x.above y c (GZ h)))
 .unfold start;show _=N.length;rw[mU,kN,MK];omega
theorem M0{CX:uu}{P:Program}{w:World}{K:aG}{mg:Str->Option Value}{base:Heap}{k:Nat}{f:Addr}{name qual:Str}{params:Arguments}{body:List Stmt}{scope:Scope}{dV kV doc pm fu ct oc:Value}{an od:Option Addr}
  {Ad:Array (Option Value)}{N ps:List Str}{sp:Sp}(lk:K.lookup f=some ⟨oc,od,.func (pI name qual params body scope dV kV doc pm an fu ct),Ad⟩)(dC:KH K fu qual=true)(S:bP N ps scope)
  (len:∀vs H Q E,sp vs H Q E->vs.length=ps.length)
  (bu:∀(A:Around) (outer:List Env) (s:Shared) (H:Hp) (vs:List V) (Q:VK) (E:XK),cD k (A.deeper (envOfC qual scope s.heap.objs.size f fu))->sp vs H Q E ->
   ∃t,nZ (hU CX P w K mg base N qual scope f fu A outer s H E) body t/\t { nx:=λ_ H'=>Q .dO H',rt:=Q } (start N vs) H):
  bQ P w K mg base CX (k+1) f (pI name qual params body scope dV kV doc pm an fu ct) ps sp:=by
 refine⟨len,λA outer s H args us vs Q E hr e0 hb r tR=>?_⟩;have hl:=len _ _ _ _ tR;have KX:K.In s.heap:=e0.mod.yk.keeps λb o e=>(e0.bs b o e).1;have lim:s.heap.NoLimit:=e0.mod.nolimit.keeps λb o e=>(e0.bs b o e).1
 have JI:∀y∈ps.zip us,scope.names.lookup y.1=some .local\/(scope.names.lookup y.1=some .cell/\((cellsFrom (s.heap.objs.size+1) scope.names []).lookup y.1).isSome=true):=λ⟨n,v⟩ hy=>by
  rcases S.par n (Ru hy).1 with q|q;.exact .inl q
  .exact .inr ⟨q,Wc _ _ _ (.inl q)⟩
 refine codeAny_call_function hr.depth (KX _ _ lk) rfl S.co S.gen rfl (PySem.W.codeRec_of KX dC) (hb _ _ _ _ ?_);refine wpAny_newFunctionEnv_cells S.kind JI λenv he s1 x=>?_;subst he;refine⟨lim.keeps x.toInCall.keep,codeAny_func ?_⟩;obtain⟨t,ht,hq⟩:=bu A outer s H vs Q E (hr.deeper _) tR;have I:Inv (hU CX P w K mg base N qual scope f fu A outer s H E) [] (start N vs) H s1:=b3Z S hr.hd e0 hl r x;refine mW (ht [] s1 (start N vs) H _ I hq) (λfl s' hs=>?_) λe s' hs=>hs
 have fin:∀{aH:St} {H':Hp} {v:V} {u:Value},Inv (hU CX P w K mg base N qual scope f fu A outer s H E) [] aH H' s'->RelV v u->Q v H'->CE outer P w H s Q u s':=
  λ{aH H' v u} J rv q=>⟨v,H',J.os,J.bare,J.base,J.cM,rv,q⟩
 cases fl with
 |ret u => obtain⟨v,aH,H',J,rv,q⟩:=hs;exact fin J rv q
 |next => obtain⟨aH,H',J,q⟩:=hs;exact fin (v:=V.dO) (u:=FJ) J rfl q
 |brk => obtain⟨_,_,_,q⟩:=hs;exact gg q
 |cont => obtain⟨_,_,_,q⟩:=hs;exact gg q
end L2
namespace L2
open PySem PySem.Spec PyProof.Rows
section
variable {X:Cx}{x:Str}{p pos:Pos}{e:Expr}{es:List Expr}{t:TA}{id T:String}{r:List V->Hp->VK->Prop}
def UW(r:List V->Hp->VK->Prop)(t:TA):TE:=λσ H Q=>t σ H λvs H1=>r vs H1 Q
theorem Lo(hc:hX X (.builtin id) r)(hg:Gl X x)(hm:X.mg x=none)(hv:bootBuiltins x=some (.builtin id))(ha:PA X (e::es) t)(hn:autoParam (x ≠ "__name__") ra1._auto_1)(d8:autoParam ((x==("__debug__":Str))=false) ra1._auto_1)
  (he:autoParam (starEach (e::es) X.env=(false,eval e X.env)::starEach es X.env) ra2._auto_1)(c6:autoParam ((backTo pos (starEach es X.env)).any (·.1)=false) ra2._auto_1):PE X (.Call (.Name x p) (e::es) [] pos) (UW r t):=by intro pins s σ H Q I h;refine FO (K6 I hg hm hv ?_ hn d8);exact PyProof.Rows.callWith_builtin1 (cU (ha pos pins s σ H _ I h) λus s1 ⟨vs,H1,I1,r1,q1⟩=>hc pins s1 σ H1 vs us Q I1 r1 q1) he c6
theorem TJ(hc:hX X (.type T) r)(hg:Gl X x)(hm:X.mg x=none)(hv:bootBuiltins x=some (.type T))(ha:PA X (e::es) t)(hn:autoParam (x ≠ "__name__") ra1._auto_1)(d8:autoParam ((x==("__debug__":Str))=false) ra1._auto_1)
  (he:autoParam (starEach (e::es) X.env=(false,eval e X.env)::starEach es X.env) ra2._auto_1)(c6:autoParam ((backTo pos (starEach es X.env)).any (·.1)=false) ra2._auto_1):PE X (.Call (.Name x p) (e::es) [] pos) (UW r t):=by intro pins s σ H Q I h;refine FO (K6 I hg hm hv ?_ hn d8);exact RB (cU (ha pos pins s σ H _ I h) λus s1 ⟨vs,H1,I1,r1,q1⟩=>hc pins s1 σ H1 vs us Q I1 r1 q1) he c6
end
end L2
namespace HT
open PySem PyProof.Rows
section
open PySem.SeqAt
open PySem.AutoSeq1 (wpAny_loadPart')
open PySem.MeetsSeq PySem.MeetsSeq2 PySem.MeetsSeq3
end
section
variable {prog:Program}{w:World}{A:Around}{E:Value->Shared->Prop}{s:Shared}
theorem CN(ht:IsTup s.heap t vs.toArray)(hb:IsTup s.heap b ws.toArray)(hv:vs≠[])
  (h1:ws=[]->Q (.ref t) s)(h2:ws≠[]->Q (.ref s.heap.objs.size) { s with heap:=s.heap.push { cls:=.type "tuple",data:=.seq (vs++ws).toArray } })
  (hsz:vs.length+ws.length<=sizeLine):wpAny (model prog w) A (binaryOp .Add (.ref t) (.ref b)) Q E s:=by
 obtain⟨⟨cls,dd,data,sl⟩,ho,hc,n,hd⟩:=id ht;obtain⟨⟨QX,Mu,data2,IB⟩,E5,JQ,n2,hd2⟩:=id hb;simp only at hc hd JQ hd2;subst hc hd JQ hd2;have e:vs.toArray++ws.toArray=(vs++ws).toArray:=by simp
 by_cases hw:ws=[]
 .exact concat_meets ⟨_,ho,rfl⟩ ⟨_,E5,rfl⟩ Rb RA RD RE (RG _ _)
   (tuple_addW1 t b vs.toArray ws.toArray n n2 dd Mu sl IB (by simpa using hv) (by simp[hw])) ⟨ho,E5,h1 hw⟩
 .refine concat_meets ⟨_,ho,rfl⟩ ⟨_,E5,rfl⟩ Rb RA RD RE (RG _ _)
   (tuple_addW2 t b vs.toArray ws.toArray n n2 dd Mu sl IB (by simpa using hv) (by simpa using hw) (by rw[lI,lI];exact hsz)) ⟨ho,E5,?_⟩;rw[e];exact h2 hw
def d7(n d:Nat):Option Int->Nat
 |none=>d
 |some v=>if v<0 then (v+(n:Int)).toNat else min v.toNat n
theorem zZ(n d:Nat):d7 n d none=d:=rfl
theorem Cf(n d k:Nat):d7 n d (some (k:Int))=min k n:=by show (if (k:Int)<0 then ((k:Int)+(n:Int)).toNat else min (k:Int).toNat n)=min k n;rw[if_neg (by omega),Int.toNat_natCast]
theorem b8R(n d:Nat)(hd:d<=n)(o:Option Int):d7 n d o<=n:=by
 cases o with
 |none=>exact hd
 |some v =>
  show (if v<0 then (v+(n:Int)).toNat else min v.toNat n)<=n;by_cases hv:v<0;.rw [if_pos hv];omega
  .rw [if_neg hv];exact Nat.min_le_right _ _
theorem Xx(v:Int)(n d:Nat):(if v<0 then max (v+(n:Int)) 0 else min v (n:Int))=((d7 n d (some v):Nat):Int):=by
 show (if v<0 then max (v+(n:Int)) 0 else min v (n:Int))=(((if v<0 then (v+(n:Int)).toNat else min v.toNat n):Nat):Int);by_cases hv:v<0;.simp only [if_pos hv];omega
 .simp only [if_neg hv];omega
theorem b2T(lo hi:Option Int)(n:Nat):RH lo hi 1 (n:Int)=(((d7 n 0 lo:Nat):Int),((d7 n n hi:Nat):Int)):=by
 have h1:¬((1:Int)<0):=by omega
 unfold RH;simp only[h1,if_false];refine Prod.ext ?_ ?_
 .cases lo with
  |none=>rfl
  |some v=>exact Xx v n 0
 .cases hi with
  |none=>rfl
  |some v=>exact Xx v n n
theorem b2u(i j:Nat):MM (i:Int) (j:Int) 1=j-i:=by
 unfold MM;have h1:(1:Int)>0:=by omega
 simp only[h1,if_true,Int.ediv_one];split<;>omega
theorem YY(p:IsPart v o)(h:Q o s):wpAny (model prog w) A (Builtin.Slice.slicePartIndex v) Q E s:=by
 cases p with
 |none=>exact slicePart_none h
 |int i t=>exact slicePart_int h
theorem a7j{lo hi:Option Int}{n:Nat}(hs:s.heap.IsSliceOf sl vl vu .none)(pl:IsPart vl lo)(pu:IsPart vu hi)
  (h:Q (((d7 n 0 lo:Nat):Int),1,d7 n n hi-d7 n 0 lo) s):wpAny (model prog w) A (Wj (.ref sl) (pure (n:Int))) Q E s:=by obtain⟨os,E3,Vs,Mo⟩:=id hs;unfold Wj Builtin.Slice.sliceFields;refine eN (eN (wpAny_field E3 Mo (x:=vl) rfl (eN (wpAny_field E3 Mo (x:=vu) rfl (eN (wpAny_field E3 Mo (x:=.none) rfl (jb ?_)))))));refine eN (slicePart_none ?_);show wpAny _ _ (if ((1:Int)==0)=true then _ else _) _ _ s;rw[if_neg (by decide)];refine eN (YY pl (eN (YY pu (eN (jb ?_)))));show wpAny _ _ (match RH lo hi 1 (n:Int) with|(lo,hi)=>pure (lo,(1:Int),MM lo hi 1)) _ _ s;rw[b2T lo hi n];show wpAny _ _ (pure (((d7 n 0 lo:Nat):Int),(1:Int),MM ((d7 n 0 lo:Nat):Int) ((d7 n n hi:Nat):Int) 1)) _ _ s;rw[b2u];exact jb h
theorem b46(xs:Array Value)(i k:Nat):((lT k).filterMap λ(m:Nat)=>xs[((i:Int)+(m:Int)*1).toNat]?).toArray=((xs.toList.drop i).take k).toArray:=by
 have e:(λ(m:Nat)=>xs[((i:Int)+(m:Int)*1).toNat]?)=λm=>xs[i+m]?:=by
  funext m;have:((i:Int)+(m:Int)*1).toNat=i+m:=by omega
  rw[this]
 rw[e];have:=pick_run xs i k;rw[List.filterMap_map] at this;have e2:((λx=>xs[x]?)∘λx=>i+x)=λm=>xs[i+m]?:=rfl;rw[e2] at this;rw[this]
theorem j2{items:Array Value}{lo hi:Option Int}(ht:IsTup s.heap t items)(hs:s.heap.IsSliceOf sl vl vu .none)(pl:IsPart vl lo)(pu:IsPart vu hi)
  (hw:¬(d7 items.size 0 lo=0/\d7 items.size items.size hi=items.size))
  (h:Q (.ref s.heap.objs.size) { s with heap:=s.heap.push { cls:=.type "tuple",data:=.seq ((items.toList.drop (d7 items.size 0 lo)).take (d7 items.size items.size hi-d7 items.size 0 lo)).toArray } })
  (hsz:items.size<=sizeLine):wpAny (model prog w) A (getItem (.ref t) (.ref sl)) Q E s:=by
 have tQ:sizeOk (.seq ((items.toList.drop (d7 items.size 0 lo)).take (d7 items.size items.size hi-d7 items.size 0 lo)).toArray):=by show ((items.toList.drop (d7 items.size 0 lo)).take (d7 items.size items.size hi-d7 items.size 0 lo)).toArray.size<=sizeLine;rw[lI,DY,Ra,MU];omega
 have hj:d7 items.size items.size hi<=items.size:=b8R _ _ (fQ _) hi;obtain⟨os,E3,Vs,Mo⟩:=id hs;have JT:s.TypeIs (.ref sl) "slice":=⟨os,E3,Vs⟩;unfold getItem;try with_reducible refine MD ?_
 first|refine eN (jb ?_)|skip
 refine eN (wpAny_sequenceKey ht.typeIs (by decide) ?_)
 refine eN (wpAny_callSpecial?_slot (name:=GP "__getitem__") ht.typeIs MZ
  (wpAny_call_entry MZ ht.typeIs entry_tuple_getitem ?_ (args_tuple_getitem _ _)));show wpAny _ _ (Builtin.Tuple.tupleItemsOf (.ref t) >>= _) _ _ s;refine eN (tupleItemsOf_ ht ?_);refine eN (wpAny_typeOf JT ?_);rw[if_pos (by decide)];refine eN (a7j hs pl pu ?_);have Ay:¬((((d7 items.size 0 lo:Nat):Int)==0&&(1:Int)==1&&(d7 items.size items.size hi-d7 items.size 0 lo)==items.size)=true):=by intro q;rw[jN,jN] at q;have q1:((d7 items.size 0 lo:Nat):Int)=0:=eq_of_beq q.1.1;have q2:d7 items.size items.size hi-d7 items.size 0 lo=items.size:=eq_of_beq q.2;exact hw ⟨by omega,by omega⟩
 show wpAny _ _ (if (((d7 items.size 0 lo:Nat):Int)==0&&(1:Int)==1&&(d7 items.size items.size hi-d7 items.size 0 lo)==items.size)=true then _ else _) _ _ s;rw[if_neg Ay,b46]
 first
  |exact eN (m:=ML _) (Ky (jb ⟨_,rfl,jb h⟩) tQ)
  |exact eN (m:=ML _) (Ky (eN (jb (jb ⟨_,rfl,jb h⟩))) tQ)
  |exact eN (eN (m:=ML _) (Ky (jb (jb ⟨_,rfl,jb h⟩)) tQ))
  |exact eN (eN (m:=ML _) (Ky (jb ⟨_,rfl,jb h⟩) tQ))
end
end HT
namespace L2
open PySem PySem.Spec PyProof.Rows
abbrev TO:=St->Hp->(Option Int->Hp->Prop)->Prop
def PO(X:Cx)(e:Option Expr)(t:TO):Prop:=
 ∀(pins:List (Addr×Obj)) (s:Shared) (σ:St) (H:Hp) (Q:Option Int->Hp->Prop),Inv X pins σ H s->t σ H Q ->
  wpAny (model X.prog X.w) X.A (evalPart e X.env) (λu s'=>∃o H',Inv X pins σ H' s'/\IsPart u o/\Q o H') X.xe s
def b6G:TO:=λ_ H Q=>Q none H
def Ik(t:TE):TO:=λσ H Q=>t σ H λx H1=>∃i,x=.int i/\Q (some i) H1
section
variable {X:Cx}{e:Expr}{te:TE}{lo hi:Option Expr}{tl th:TO}{pos p2:Pos}
theorem b6X:PO X none b6G:=by intro pins s σ H Q I h;rw[evalPart_none];exact jb ⟨none,H,I,.none,h⟩
theorem b6W(h:PE X e te):PO X (some e) (Ik te):=by intro pins s σ H Q I hw;rw[evalPart_some];refine cU (h pins s σ H _ I hw) λu s1 ⟨x,H1,I1,r1,q1⟩=>?_;obtain⟨i,rfl,q⟩:=q1;obtain⟨t,rfl⟩:=r1;exact⟨some i,H1,I1,.int i t,q⟩
def Es(X:Cx)(r:V->Option Int->Option Int->Hp->VK->Prop):Prop:=
 ∀(pins:List (Addr×Obj)) (s:Shared) (σ:St) (H:Hp) (x:V) (v vl vu:Value) (lo hi:Option Int) (sl:Addr) (Q:VK),Inv X pins σ H s->RelV x v->s.heap.IsSliceOf sl vl vu .none->IsPart vl lo->IsPart vu hi->r x lo hi H Q ->
  ∃T id,typeLookup (.type T) "__getitem__" = pure (some (.builtin id))/\s.TypeIs v T/\wpAny (model X.prog X.w) X.A (getItem v (.ref sl)) (EP X pins σ Q) X.xe s
theorem Es.or(h:Es X r)(h':Es X r'):Es X (λx lo hi H Q=>r x lo hi H Q\/r' x lo hi H Q):=by
 intro pins s σ H x v vl vu lo hi sl Q I rx hs pl pu q;rcases q with q|q;.exact h pins s σ H x v vl vu lo hi sl Q I rx hs pl pu q
 .exact h' pins s σ H x v vl vu lo hi sl Q I rx hs pl pu q
def tSl(r:V->Option Int->Option Int->Hp->VK->Prop)(te:TE)(tl th:TO):TE:=λσ H Q=>te σ H λx H1=>tl σ H1 λl H2=>th σ H2 λu H3=>r x l u H3 Q
theorem Yj(hr:Es X r)(he:PE X e te)(hl:PO X lo tl)(hu:PO X hi th):PE X (.Subscript e (.Slice lo hi none p2) pos) (tSl r te tl th):=by intro pins s σ H Q I h;refine Subscript_ (cU (he pins s σ H _ I h) λv s1 ⟨x,H1,I1,r1,q1⟩=>?_);refine wpAny_Slice (cU (hl pins s1 σ H1 _ I1 q1) λvl s2 ⟨l,H2,I2,pl,q2⟩=>cU (hu pins s2 σ H2 _ I2 q2) λvu s3 ⟨u,H3,I3,pu,q3⟩=>?_);rw[evalPart_none];refine jb ?_;have I4:Inv X pins σ H3 { s3 with heap:=s3.heap.push { cls:=.type "slice",data:=.fields #[vl,vu,.none] } }:=I3.kept (t':=s3.toks) λb ob q=>ky _ q;obtain⟨T,id,hT,ht,hg⟩:=hr pins { s3 with heap:=s3.heap.push { cls:=.type "slice",data:=.fields #[vl,vu,.none] } } σ H3 x v vl vu l u s3.heap.objs.size Q I4 r1 (Heap.IsSliceOf.new ..) pl pu q3;show wpAny (model X.prog X.w) X.A (subscriptTail e (.Slice lo hi none p2) v (.ref s3.heap.objs.size)) (EP X pins σ Q) X.xe { s3 with heap:=s3.heap.push { cls:=.type "slice",data:=.fields #[vl,vu,.none] } };exact tail_any (ops:=[.ref s3.heap.objs.size,v]) ht hT hg (by with_unfolding_all rfl)
def qC(xs:List V)(lo hi:Option Int):List V:=(xs.drop (HT.d7 xs.length 0 lo)).take (HT.d7 xs.length xs.length hi-HT.d7 xs.length 0 lo)
theorem YT(xs:List V)(lo hi:Option Int):(qC xs lo hi).length<=xs.length:=by unfold qC;rw[DY,Ra];omega
def Pz(K:aG):V->Option Int->Option Int->Hp->VK->Prop:=λx lo hi H Q=>∃a xs,x=.ref a/\ll K H a xs /\
 ¬(HT.d7 xs.length 0 lo=0/\HT.d7 xs.length xs.length hi=xs.length)/\∀p,H p=none->Q (.ref p) (upd H p (.tup (qC xs lo hi)))
theorem b8J:Es X (Pz X.K):=by
 intro pins s σ H x v vl vu lo hi sl Q I rx hs pl pu h;obtain⟨a,xs,rfl,hx,hw,q⟩:=h;cases rx;obtain⟨aS,r,ht,hz⟩:=I.tuple hx;have hlen:aS.toArray.size=xs.length:=by rw[lI];exact r.length.symm
 refine⟨"tuple",_,MZ.lookup,ht.typeIs,?_⟩;refine HT.j2 ht hs pl pu (by rw[hlen];exact hw) ?_ (by rw[hlen];exact hz);rw[hlen];refine⟨.ref s.heap.objs.size,_,I.laid (t':=s.toks) (o:=.tup (qC xs lo hi)) (λb ob q=>ky _ q) (fQ _) ?_,rfl,q _ (I.cM.fresh (fQ _))⟩;exact⟨iV (YT xs lo hi) hz,_,(r.drop (HT.d7 xs.length 0 lo)).take (HT.d7 xs.length xs.length hi-HT.d7 xs.length 0 lo),Mw _ _⟩
def IT(K:aG):R2:=λx y H Q=>∃a b xs ys,x=.ref a/\y=.ref b/\ll K H a xs/\ll K H b ys/\xs≠[]/\xs.length+ys.length<=sizeLine /\
 (ys=[]->Q (.ref a) H)/\(ys≠[]->∀p,H p=none->Q (.ref p) (upd H p (.tup (xs++ys))))
theorem aR.iZ(r:aR xs us):us=[]↔xs=[]:=by
 cases r with
 |nil=>simp
 |cons _ _=>simp
theorem Cj:lO X (binaryOp .Add) (IT X.K):=by intro pins s σ H x y v u Q I rx ry h;obtain⟨a,b,xs,ys,rfl,rfl,ha,hb,hx,hz,q1,q2⟩:=h;cases rx;cases ry;obtain⟨aS,r1,p1,_⟩:=I.tuple ha;obtain⟨iP,r2,p2,_⟩:=I.tuple hb;refine HT.CN p1 p2 (λz=>hx (r1.iZ.mp z)) (λz=>⟨.ref a,H,I,rfl,q1 (r2.iZ.mp z)⟩) (λz=>?_) (by rw[<-r1.length,<-r2.length];exact hz);refine⟨.ref s.heap.objs.size,_,I.laid (t':=s.toks) (o:=.tup (xs++ys)) (λb ob q=>ky _ q) (fQ _) ?_,rfl,q2 (λw=>z (r2.iZ.mpr w)) _ (I.cM.fresh (fQ _))⟩;exact⟨by rw[mU];exact hz,_,r1.append r2,Mw _ _⟩
end
end L2
namespace L2
open PySem PySem.Spec PyProof.Rows
def DJ(n:Nat)(i:Int):Option Nat:=if 0<=i then (if i<n then some i.toNat else none) else if -(n:Int)<=i then some (i+n).toNat else none
def nD{α:Type}(xs:List α)(i:Int):Option α:=(DJ xs.length i).bind λj=>xs[j]?
theorem b7n(h:DJ n i=some j):seqIndex? i n=some j/\j<n /\ -(n:Int)<=i/\i<n:=by
 unfold DJ at h;by_cases h0:0<=i
 .rw [if_pos h0] at h;by_cases h1:i<n;.rw [if_pos h1] at h;have e:i.toNat=j:=gY h;exact⟨by rw[seqIndex_of h0 h1,e],by omega,by omega,h1⟩
  .rw [if_neg h1] at h;cases h
 .rw [if_neg h0] at h;by_cases h1:-(n:Int)<=i;.rw [if_pos h1] at h;have e:(i+n).toNat=j:=gY h;exact⟨by rw[seqIndex_neg (by omega) h1,e],by omega,h1,by omega⟩
  .rw [if_neg h1] at h;cases h
theorem lU{α:Type}{xs:List α}{i:Int}{v:α}(h:nD xs i=some v):∃j,seqIndex? i xs.length=some j/\xs[j]?=some v/\j<xs.length /\ -(xs.length:Int)<=i/\i<xs.length:=by
 unfold nD at h
 cases e:DJ xs.length i with
 |none=>rw[e] at h;cases h
 |some j => rw[e] at h;obtain⟨h1,h2,h3,h4⟩:=b7n e;exact⟨j,h1,h,h2,h3,h4⟩
theorem CY{α:Type}{xs:List α}{j:Nat}{v:α}(h:xs[j]?=some v):nD xs (j:Int)=some v:=by
 have hj:j<xs.length:=(oE.mp h).1;have e:DJ xs.length (j:Int)=some j:=by unfold DJ;rw[if_pos (by omega),if_pos (by omega)];simp
 unfold nD;rw[e];exact h
def SE(b:Expr):Prop:=∀o i,subscripted b false o i=operate [o,i] (getItem o i)
def Dy(X:Cx)(r:R2):Prop:=
 ∀(value slice:Expr) (pins:List (Addr×Obj)) (s:Shared) (σ:St) (H:Hp) (x y:V) (v u:Value) (Q:VK),Inv X pins σ H s->RelV x v->RelV y u->r x y H Q ->
  subscripted slice false v u=operate [v,u] (getItem v u)->wpAny (model X.prog X.w) X.A (subscriptTail value slice v u) (EP X pins σ Q) X.xe s
def LP(X:Cx)(id:String)(r:V->List V->Hp->VK->Prop):Prop:=
 ∀(pins:List (Addr×Obj)) (s:Shared) (σ:St) (H:Hp) (x:V) (xs:List V) (v:Value) (us:List Value) (Q:VK),Inv X pins σ H s->RelV x v->aR xs us->r x xs H Q ->
  wpAny (model X.prog X.w) X.A (call (.builtin id) (v::us)) (EP X pins σ Q) X.xe s
section
variable {X:Cx}{a b:Expr}{ta tb:TE}{pos:Pos}
theorem Dy.or(h:Dy X r)(h':Dy X r'):Dy X (λx y H Q=>r x y H Q\/r' x y H Q):=by
 intro value slice pins s σ H x y v u Q I rx ry q hs;rcases q with q|q;.exact h value slice pins s σ H x y v u Q I rx ry q hs
 .exact h' value slice pins s σ H x y v u Q I rx ry q hs
theorem WI(hr:Dy X r)(ha:PE X a ta)(hb:PE X b tb)(hs:SE b):PE X (.Subscript a b pos) (Il r ta tb):=by intro pins s σ H Q I h;exact Subscript_ (FQ ha hb I h λv u s2 x y H2 I2 rx ry q=>hr a b pins s2 σ H2 x y v u Q I2 rx ry q (hs _ _))
def IS(K:aG):R2:=λx y H Q=>∃p xs i v,x=.ref p/\y=.int i/\kA K H p xs/\nD xs i=some v/\Q v H
def IP(K:aG):R2:=λx y H Q=>∃p xs i v,x=.ref p/\y=.int i/\ll K H p xs/\nD xs i=some v/\Q v H
def IQ:R2:=λx y H Q=>∃z i c,x=.str z/\y=.int i/\z.length<=sizeLine/\nD z.cps.toList i=some c/\Q (.str ⟨#[c]⟩) H
theorem Cp:Dy X (IS X.K):=by
 intro value slice pins s σ H x y v u Q I rx ry h hs;obtain⟨p,xs,i,z,rfl,rfl,hq,he,q⟩:=h;cases rx;obtain⟨t,rfl⟩:=ry;obtain⟨aS,r,pl,hz⟩:=I.list hq;obtain⟨j,h1,h2,h3,h4,h5⟩:=lU he;obtain⟨w,ew,Pu⟩:=r.get h2;have hl:=r.length;have hn:=Hc;have fin:EP X pins σ Q w s:=⟨z,H,I,Pu,q⟩;by_cases h0:0<=i
 .have hj:i.toNat=j:=by rw[seqIndex_of h0 h5] at h1;exact gY h1
  exact item_listR pl.isList h0 (by omega) (by rw[hj];simpa using ew) fin hs
 .have hj:(i+(aS.toArray.size:Int)).toNat=j:=by rw[seqIndex_neg (by omega) h4] at h1;rw[lI,<-hl];exact gY h1
  exact subscriptTail_builtinR (x:=w) pl.isList.typeIs slot_list_getitem.lookup
   (wpAny_getItem_list_neg (Q:=λr s'=>r=w/\EP X pins σ Q r s') pl.isList (by omega) (by rw[lI]<;>omega) (by omega) (by rw[hj];simpa using ew) ⟨rfl,fin⟩) hs
theorem EU:Dy X (IP X.K):=by
 intro value slice pins s σ H x y v u Q I rx ry h hs;obtain⟨p,xs,i,z,rfl,rfl,hq,he,q⟩:=h;cases rx;obtain⟨t,rfl⟩:=ry;obtain⟨aS,r,pl,hz⟩:=I.tuple hq;obtain⟨j,h1,h2,h3,h4,h5⟩:=lU he;obtain⟨w,ew,Pu⟩:=r.get h2;have hl:=r.length;have hn:=Hc;have fin:EP X pins σ Q w s:=⟨z,H,I,Pu,q⟩
 exact subscriptTail_builtinR (x:=w) pl.typeIs MZ.lookup
  (getItem_tuple (j:=j) (Q:=λr s'=>r=w/\EP X pins σ Q r s') pl (by omega) (by omega) (by rw[lI,<-hl];exact h1) (by simpa using ew) ⟨rfl,fin⟩) hs
theorem W2:Dy X IQ:=by
 intro value slice pins s σ H x y v u Q I rx ry h hs;obtain⟨z,i,c,rfl,rfl,hz,he,q⟩:=h;obtain⟨t,rfl⟩:=rx;obtain⟨t',rfl⟩:=ry;obtain⟨j,h1,h2,h3,h4,h5⟩:=lU he;have hl:z.cps.toList.length=z.length:=by simp[Str.length]
 rw[hl] at h1 h4 h5;have hn:=Hc;exact tail_any (CS s z t) slot_str_getitem.lookup (getItem_str (c:=c) (by have e1:decide (i < -(2^63:Int))=false:=decide_eq_false (by omega);have e2:decide (i≥2^63)=false:=decide_eq_false (by omega);rw[e1,e2,Bool.or_false]) (by rw[h1];simpa using h2) ⟨.str ⟨#[c]⟩,H,I.tok _,⟨_,rfl⟩,q⟩) hs
def rIx(K:aG):R2:=λx y H Q=>IS K x y H Q\/IP K x y H Q\/IQ x y H Q
theorem b9r:Dy X (rIx X.K):=Cp.or (EU.or W2)
theorem a9Y(lo hi:Option Int)(n:Nat):(sliceBounds lo hi none n).1=((HT.d7 n 0 lo:Nat):Int)/\(sliceBounds lo hi none n).2.1=((HT.d7 n n hi:Nat):Int)/\(sliceBounds lo hi none n).2.2=1:=by
 refine⟨?_,?_,rfl⟩
 .cases lo with
  |none=>simp[sliceBounds,HT.d7]
  |some i =>
   simp only[sliceBounds,HT.d7,VQ,show (1:Int)>0 by decide,if_true];by_cases h:i<0;.simp only [h,if_true]<;>omega
   .simp only [h,if_false]<;>omega
 .cases hi with
  |none=>simp[sliceBounds,HT.d7]
  |some i =>
   simp only[sliceBounds,HT.d7,VQ,show (1:Int)>0 by decide,if_true];by_cases h:i<0;.simp only [h,if_true]<;>omega
   .simp only [h,if_false]<;>omega
theorem a87(aS:List Value)(lo hi:Option Int):slicePick aS.toArray lo hi none=((aS.drop (HT.d7 aS.length 0 lo)).take (HT.d7 aS.length aS.length hi-HT.d7 aS.length 0 lo)).toArray:=by obtain⟨h1,h2,h3⟩:=a9Y lo hi aS.toArray.size;unfold slicePick;rw[h1,h2,h3];simp only[sliceRange_one,pick_run,lI]<;>rfl
def PB(K:aG):V->Option Int->Option Int->Hp->VK->Prop:=λx lo hi H Q=>∃a xs,x=.ref a/\kA K H a xs/\∀p,H p=none->Q (.ref p) (upd H p (.lst (qC xs lo hi)))
theorem Ce:Es X (PB X.K):=by intro pins s σ H x v vl vu lo hi sl Q I rx hs pl pu h;obtain⟨a,xs,rfl,hx,q⟩:=h;cases rx;obtain⟨aS,r,ht,hz⟩:=I.list hx;have hlen:=r.length;refine⟨"list",_,slot_list_getitem.lookup,ht.isList.typeIs,?_⟩;refine wpAny_getItem_list_slice ht.isList hs pl pu .none (by simp) ?_ (by rw[lI]<;>omega);rw[a87,<-hlen];refine⟨.ref s.heap.objs.size,_,I.laid (t':=s.toks) (o:=.lst (qC xs lo hi)) (λb ob q=>ky _ q) (fQ _) ?_,rfl,q _ (I.cM.fresh (fQ _))⟩;exact⟨iV (YT xs lo hi) hz,_,0,(r.drop (HT.d7 xs.length 0 lo)).take (HT.d7 xs.length xs.length hi-HT.d7 xs.length 0 lo),qI _ rfl⟩
theorem b0B:hX X (.builtin "len") (λxs H Q=>∃p ys,xs=[.ref p]/\(kA X.K H p ys\/ll X.K H p ys)/\Q (.int ys.length) H):=by
 intro pins s σ H xs us Q I r h;obtain⟨p,ys,rfl,hq,q⟩:=h;obtain⟨u,rfl,rx⟩:=vals1 r;cases rx;have hn:=Hc;rcases hq with hq|hq;.obtain ⟨aS,r',pl,hz⟩:=I.list hq;have hlen:=r'.length;exact Calls.call_len_list pl.isList (by simp only[lI]<;>omega) ⟨.int ys.length,H,I.tok _,⟨s.toks+1,by rw[lI,hlen]⟩,q⟩
 .obtain ⟨aS,r',pl,hz⟩:=I.tuple hq;have hlen:=r'.length;exact len_tuple pl (by simp only[lI]<;>omega) ⟨.int ys.length,H,I.tok _,⟨s.toks+1,by rw[lI,hlen]⟩,q⟩
theorem b0A:hX X (.builtin "len") (λxs H Q=>∃z,xs=[.str z]/\z.length<=sizeLine/\Q (.int z.length) H):=by intro pins s σ H xs us Q I r h;obtain⟨z,rfl,hz,q⟩:=h;obtain⟨u,rfl,t,rfl⟩:=vals1 r;have hn:=Hc;exact len_str (by omega) ⟨.int z.length,H,I.tok _,⟨_,rfl⟩,q⟩
theorem hX.or(h:hX X f r)(h':hX X f r'):hX X f (λxs H Q=>r xs H Q\/r' xs H Q):=by
 intro pins s σ H xs us Q I rs q;rcases q with q|q;.exact h pins s σ H xs us Q I rs q
 .exact h' pins s σ H xs us Q I rs q
def UT(K:aG)(T:String)(x:V)(H:Hp):Prop:=match x with
 | .str _=>T = "str"
 | .int _=>T = "int"
 | .ref p=>(T = "list" /\ ∃xs,kA K H p xs)\/(T = "tuple" /\ ∃o,K.lookup p=some o/\o.cls=.type "tuple" /\ o.dict=none) \/
   (T = "dict" /\ ((∃dz,H p=some (.dK dz))\/∃dz,H p=some (.dT dz)))\/(T = "set" /\ ∃S n,H p=some (.set S n))
 |_=>False
theorem b8w{pins:List (Addr×Obj)}{σ:St}{H:Hp}{s:Shared}{T:String}{x:V}{v:Value}(I:Inv X pins σ H s)(r:RelV x v)(ty:UT X.K T x H):
  s.TypeIs v T/\∀a,v=.ref a->∃ob,s.heap.get? a=some ob/\ob.dict=none:=by
 cases x with
 | str z => obtain⟨t,rfl⟩:=r;cases (show T = "str" from ty);exact⟨CS s z t,λ_ e=>nomatch e⟩
 | int i => obtain⟨t,rfl⟩:=r;cases (show T = "int" from ty);exact⟨typeIs_int s i t,λ_ e=>nomatch e⟩
 |ref p =>
  cases r;rcases ty with⟨rfl,xs,hq⟩|⟨rfl,o,hk,hc,hd⟩|⟨rfl,hk⟩|⟨rfl,S,n,hk⟩;.obtain ⟨aS,_,pl,_⟩:=I.list hq;refine⟨pl.isList.typeIs,λa e=>?_⟩;cases e;obtain⟨o,n,e,c,hd,_⟩:=pl;exact⟨o,e,hd⟩
  .refine ⟨⟨o,I.km p o hk,hc⟩,λa e=>?_⟩;cases e;exact⟨o,I.km _ o hk,hd⟩
  .have z:∃o,s.heap.get? p=some o/\o.ExactDict:=by
    rcases hk with⟨dz,hk⟩|⟨dz,hk⟩;.obtain ⟨_,_,_,_,o,_,_,e,ex,_⟩:=I.cM p _ hk;exact⟨o,e,ex⟩
    .obtain ⟨_,_,_,_,o,_,_,e,ex,_⟩:=I.cM p _ hk;exact⟨o,e,ex⟩
   obtain⟨o,e,ex⟩:=z;refine⟨⟨o,e,ex.1⟩,λa e2=>?_⟩;cases e2;exact⟨o,e,ex.2.1⟩
  .obtain ⟨o,_,_,_,e,ex,_⟩:=I.cM p _ hk;refine⟨⟨o,e,ex.1⟩,λa e2=>?_⟩;cases e2;exact⟨o,e,ex.2.1⟩
 |_=>exact gg ty
def tBM(K:aG)(T:String)(r:V->List V->Hp->VK->Prop)(to:TE)(t:TA):TE:=λσ H Q=>to σ H λx H1=>UT K T x H1/\t σ H1 λxs H2=>r x xs H2 Q
variable {o e:Expr}{es:List Expr}{to:TE}{t:TA}{name:Str}{apos bx:Pos}{T id:String}{r:V->List V->Hp->VK->Prop}
theorem KR(pa:PlainAttrs T)(slot:Slot T name id)(hty:typeOf (.builtin id)=pure (.type "method_descriptor"))(hm:LP X id r)(ho:PE X o to)(ha:PA X (e::es) t)
  (hR:autoParam (attributeBase o name X.env (eval o X.env)=eval o X.env) ra2._auto_1)
  (kH:autoParam (((backTo bx (starEach (e::es) X.env)).all (λx=>!x.1)&&(backToKw bx (keywordEach [] X.env)).all (λx=>x.1.isSome)
   && decide ((e::es).length+([]:List Keyword).length+(if ([]:List Keyword).isEmpty then 0 else 1)<30))=true) ra2._auto_1)
  (hJ:autoParam ((apos.endLine==bx.line)=true) ra2._auto_1)(hs:autoParam (starEach (e::es) X.env=(false,eval e X.env)::starEach es X.env) ra2._auto_1)(EZ:autoParam ((backTo bx (starEach es X.env)).any (·.1)=false) ra2._auto_1):
  PE X (.Call (.Attribute o name apos) (e::es) [] bx) (tBM X.K T r to t):=by intro pins s σ H Q I h;refine wpAny_Call_method_late hR kH hJ rfl (cU (ho pins s σ H _ I h) λv s1 ⟨x,H1,I1,r1,ty,q1⟩=>?_);obtain⟨h1,h2⟩:=b8w I1 r1 ty;refine⟨T,id,pa,slot,hty,h1,h2,?_⟩;have hA:=ha bx pins s1 σ H1 _ I1 q1;rw[hs] at hA ⊢;refine Calls.callWith_builtin (by show (false||(backTo bx (starEach es X.env)).any (·.1))=false;rw[EZ]<;>rfl) (V6 ?_);exact cU hA λus s2 ⟨vs,H2,I2,r2,q2⟩=>hm pins s2 σ H2 x vs v us Q I2 r1 r2 q2
end
end L2
namespace L2
open PySem PySem.Spec PyProof.Rows
def MtM(X:Cx)(id:String)(r:V->List V->Hp->VK->Prop):Prop:=
 ∀(pins:List (Addr×Obj)) (s:Shared) (σ:St) (H:Hp) (x:V) (xs:List V) (v:Value) (us:List Value) (Q:VK),Inv X pins σ H s->RelV x v->aR xs us->r x xs H Q ->
  wpAny (model X.prog X.w) X.A (call (.builtin id) (v::us)) (EP X pins σ Q) X.xe s
theorem aR.unc:∀{x:V} {xs:List V} {us:List Value},aR (x::xs) us->∃u ws,us=u::ws/\RelV x u/\aR xs ws
 |_,_,_,.cons r t=>⟨_,_,rfl,r,t⟩
theorem aR.zero:∀{us:List Value},aR [] us->us=[]
 |_,.nil=>rfl
theorem aR.one(h:aR [x] us):∃u,us=[u]/\RelV x u:=by obtain⟨u,ws,rfl,r,t⟩:=h.unc;exact⟨u,by rw[t.zero],r⟩
section
variable {X:Cx}{pins:List (Addr×Obj)}{σ:St}{H:Hp}{s:Shared}{l b:Addr}{xs ys zs:List V}
theorem Inv.P8{aS its':List Value}{n:Nat}{t':Nat}(I:Inv X pins σ H s)(hH:H l=some (.lst xs))
  (e:s.heap.get? l=some { cls:=.type "list",data:=.seq aS.toArray n })(hf:f aS.toArray=its'.toArray)(hv:aR ys its')(hz:ys.length<=sizeLine):
  Inv X pins σ (upd H l (.lst ys)) { s with heap:=s.heap.update l (Obj.mapSeq f),toks:=t' }:=by have q:=PySem.IsL.update e f;rw[hf] at q;refine I.write (x:=l) (e:=l) (by rw[hH];exact trivial) (.inl rfl) (λb' u hb hu=>(Heap.get?_update_other s.heap (Obj.mapSeq f) (pD hb)).trans hu) ⟨_,q⟩ ?_;exact⟨hz,its',_,hv,q⟩
theorem Inv.P9(I:Inv X pins σ H s)(hv:aR ys aS)(hz:ys.length<=sizeLine):
  Inv X pins σ (upd H s.heap.objs.size (.lst ys)) { s with heap:=s.heap.push { cls:=.type "list",data:=.seq aS.toArray },toks:=t' }:=
 I.laid (λ_ _ q=>ky _ q) (fQ _) ⟨hz,aS,0,hv,qI _ rfl⟩
theorem Inv.fresh(I:Inv X pins σ H s):H s.heap.objs.size=none:=I.cM.fresh (fQ _)
theorem Inv.ET(I:Inv X pins σ H s)(hH:H l=some (.lst xs)):xs.length<=sizeLine/\∃(aS:List Value) (n:Nat),aR xs aS/\xs.length=aS.length/\s.heap.get? l=some { cls:=.type "list",data:=.seq aS.toArray n }:=by obtain⟨z,aS,n,r,e⟩:=I.cM l _ hH;exact⟨z,aS,n,r,r.length,e⟩
end
section
variable {X:Cx}
def b6S:V->List V->Hp->VK->Prop:=λx vs H Q=>∃l xs y,x=.ref l/\vs=[y]/\H l=some (.lst xs)/\xs.length<sizeLine/\Q .dO (upd H l (.lst (xs++[y])))
theorem b3I:MtM X "list.append" b6S:=by intro pins s σ H x vs v us Q I rx rv h;obtain⟨l,xs,y,rfl,rfl,hH,hz,q⟩:=h;cases rx;obtain⟨u,rfl,ru⟩:=rv.one;obtain⟨z,aS,n,r,hl,e⟩:=I.ET hH;refine FH V' ⟨_,e,rfl⟩ F.entry_list_append (F.args_list_append_2 _ _) (PySem.list_append l aS.toArray n u (by rw[lI];omega)) ⟨e,?_⟩;refine⟨.dO,_,I.P8 (its':=aS++[u]) hH e (by simp) (r.append (.cons ru .nil)) ?_,rfl,q⟩;rw[mU,KE];omega
def PF:R2:=λx y H Q=>∃l b xs zs,x=.ref l/\y=.ref b/\H l=some (.lst xs)/\H b=some (.lst zs)/\xs.length+zs.length<=sizeLine/\∀p,H p=none->Q (.ref p) (upd H p (.lst (xs++zs)))
theorem EL:lO X (binaryOp .Add) PF:=by
 intro pins s σ H x y v u Q I rx ry h;obtain⟨l,b,xs,zs,rfl,rfl,hH,hB,hz,q⟩:=h;cases rx;cases ry;obtain⟨z,aS,n,r,hl,e⟩:=I.ET hH;obtain⟨z2,iP,n2,r2,Vq,e2⟩:=I.ET hB;refine PySem.P.add_list e e2 ?_ (by rw[lI,lI];omega);have ea:aS.toArray++iP.toArray=(aS++iP).toArray:=by simp
 rw[ea];exact⟨.ref _,_,I.P9 (t':=s.toks) (r.append r2) (by rw[mU];omega),rfl,q _ I.fresh⟩
end
section
variable {prog:Program}{w:World}{A:Around}{E:Value->Shared->Prop}{s:Shared}
end
section
variable {X:Cx}
end
end L2
namespace Z8
open PySem PySem.W PySem.Calls PyProof.Rows
theorem a78:∀(ns:List Int) (vs:List Value),WellAll P h vs (ns.map WData.int)->IntsAre vs ns:=by
 intro ns
 induction ns with
 |nil => intro vs w;rw[sx] at w;cases w;exact .nil
 |cons n ns ih =>
  intro vs w;rw[jM] at w
  cases w with
  |cons a b => cases a;exact .cons _ _ (ih _ b)
theorem b3c{l:OpenLaw}{n:Nat}(hn:l.most=some n){h:Heap}
  (Cq:l.row.toRowW.claim.pre args=true)(Ql:WellAll P h vals args):
  ∃a vs ns,vals=[mV a]/\args=[WData.list (ns.map WData.int)]/\h.get? a=some { cls:=.type "list",data:=.seq vs.toArray }/\IntsAre vs ns/\ns.length<=n:=by
 have hsh:WShape.hasAll [] args [.list .int]=true:=(pre_splitW Cq).1;have hc:l.pre.holds [] { args:=args }=true:=(pre_splitW Cq).2;obtain⟨d,r,rfl,h1,h2⟩:=hasAllW_cons hsh;obtain rfl:=hasAllW_nil h2;obtain⟨xs,rfl,h3⟩:=hasW_list h1;obtain⟨ns,rfl⟩:=items_int h3
 have hlen:ns.length<=n:=by
  unfold OpenLaw.pre at hc;have h4:(WTm.not (.lt (.lit (.int (n:Int))) (.len (.arg 0)))).holds [] { args:=[.list (ns.map .int)] }=true:=by have h4:=(holds_andW hc).1;rw[hn] at h4;exact h4
  have h5:=condW_of h4 (w_not (w_lt w_lit (w_len_list (w_arg rfl))));rw[kN] at h5;refine Q9 λq=>?_;have q':(n:Int)<((ns.length:Nat):Int):=by omega
  first
   |(rw[decide_eq_true q'] at h5;exact absurd h5 (by decide))
   |(simp at h5;omega)
 cases Ql with
 |cons w1 w2 =>
  cases w2
  cases w1 with
  |list ho QE=>exact⟨_,_,ns,rfl,rfl,ho,a78 ns _ QE,hlen⟩
theorem b3t(l:OpenLaw)(args:List WData):l.row.toRowW.claim.post args (.bool true) args=true:=
 postW_of (r:=l.row.toRowW) (X:=(true==true))
  (show WShape.has [] (.bool true) .bool=true by first|rfl|decide|simp[WShape.has,WShape.arms,WShape.armsAll])
  (show (WTm.eq .res (.lit (.bool true))).value [] { args:=args,res:=some (.bool true),after:=args }=some (.bool (true==true)) from w_eq_bool (w_res rfl) w_lit) rfl
theorem qK{l:OpenLaw}{n:Nat}{loose:List Str}{d:DefRec}
  (hn:l.most=some n)(JO:d.params.defaults=[])
  (call:∀(w:World) (dZ bT:Shared) (mg mb:Str->Option Value) (fa:Addr) (o:Obj) (pm cd doc:Value) (a:Addr) (vs:List Value) (ns:List Int),
   Ground q loose [] XP w dZ mg mb bT.heap->YP w bT.heap ->
   bT.heap.get? fa=some o->o.data=.func (docDef d.name d.params d.body d.scope pm cd doc)->bT.heap.CodeRec cd d.name->mg d.name=some (.ref fa) ->
   bT.heap.get? a=some { cls:=.type "list",data:=.seq vs.toArray }->IntsAre vs ns->ns.length<=n->bT.gens=#[] ->
   codeAny (model l.prog w) callerA (.call (.ref fa) ⟨[.ref a],[]⟩) (λr s'=>r=.ok (.ret (.bool true))/\OldK bT.heap s'.heap/\s'.os=bT.os/\AllBare s'.gens) bT):
  WalkO q loose XP YP l.row.toRowW d [] (λf vs=>QZ f vs):=by intro w dZ bT mg mb G Y fa o pm cd doc dV kV ho hd dC hD JG hg args vals as Cq hlay hrd Ql Mm;obtain rfl:dV=.none:=Dflts.none hD JO;obtain rfl:kV=.none:=Dflts.noKw hD;obtain⟨a,vs,ns,rfl,rfl,E4,hints,hlen⟩:=b3c hn Cq Ql;refine enter_call (Kt (call w dZ bT mg mb fa o pm cd doc a vs ns G Y ho (fd_plain hd) dC JG E4 hints hlen hg) λr s' hq=>?_);obtain⟨rfl,h2,h3,h4⟩:=hq;exact⟨.inl ⟨.bool true,.bool true,[],rfl,λ_=>rfl,.bool true,b3t l _,λ_=>⟨List.Pairwise.nil,λ_ hm=>(nomatch hm)⟩⟩,h2,h3,h4⟩
section
variable {prog:Program}{w:World}{A:Around}{E:Value->Shared->Prop}{s:Shared}{K:Frag}
end
end Z8
namespace L2
open PySem PySem.Spec PyProof.Rows
theorem YJ:∀{vs:List Value} {ns:List Int},IntsAre vs ns->aR (ns.map V.int) vs
 |_,_,.nil=>.nil
 |_,_,.cons n t h=>.cons ⟨t,rfl⟩ (YJ h)
theorem Lp{α:Type}{c:Prop}[Decidable c]{a b:α}(h:(if c then some a else none)=some b):c/\a=b:=by
 by_cases hc:c;.rw [if_pos hc] at h;exact⟨hc,gY h⟩
 .rw [if_neg hc] at h;cases h
def Co:Str:="dealt.<locals>.<lambda>"
def Tb(K:aG)(H:Hp):Prop:=∀c P,zo K "dealt" = some (c,P)->H P=some (.tab Co)
def M3(K:aG)(ts:List Addr):Bool:=match zo K "dealt" with
 |some (c,P)=>VP K c P&&(K.lookup P).isNone&&ts.contains P
 |none=>true
theorem b5g{P:Program}{w:World}{K:aG}{mg mb:Str->Option Value}{CX:uu}{k:Nat}{fa a:Addr}{fd:FuncData}{x:Str}{sp:Sp}{bT:Shared}{vs:List Value}{ns:List Int}{ts:List Addr}
  (KX:K.In bT.heap)(E6:bT.heap.Ns mainGlobals mg)(hb:bT.heap.Ns builtinsNs mb)(hbb:∀x:Str,x ≠ "__name__" -> mb x=bootBuiltins x)(Qs:bT.heap.NoLimit)(hg:bT.gens=#[])
  (hbm:∃bm ob,mg "__builtins__" = some (.ref bm)/\bm≠builtinsNs/\bT.heap.get? bm=some ob/\ob.cls=.type "module" /\ ob.dict=some builtinsNs/\ob.data=.plain)
  (hL:M3 K ts=true)(JT:∀P∈ts,bT.heap.get? P=some (GW #[]))
  (ha:bT.heap.get? a=some { cls:=.type "list",data:=.seq vs.toArray })(hi:IntsAre vs ns)(hl:ns.length<=sizeLine)(hr:cD k callerA)
  (F:∀base:Heap,K.In base->base.Ns mainGlobals mg->bQ P w K mg base CX k fa fd [x] sp)(JR:∀(s:Shared) (u:Value),BindsTo s fd ⟨[u],[]⟩ [(x,u)])
  (tR:∀H:Hp,Tb K H->kA K H a (ns.map V.int)->sp [.ref a] H (λv H'=>v=.bl true/\Tb K H') λ_ _ _=>False)
  (QF:∀H e s',CX [] H bT (λ_ _ _=>False) e s'->False):
  codeAny (model P w) callerA (.call (.ref fa) ⟨[.ref a],[]⟩) (λr s'=>r=.ok (.ret (.bool true))/\OldK bT.heap s'.heap/\s'.os=bT.os/\AllBare s'.gens) bT:=by
 have rv:=YJ hi;have P':=hi.length;have tabs:∀c P,zo K "dealt" = some (c,P)->VP K c P=true/\K.lookup P=none/\bT.heap.get? P=some (GW #[]):=λc P e=>by unfold M3 at hL;rw[e] at hL;simp only[jN,Option.isNone_iff_eq_none,List.contains_iff_mem] at hL;exact⟨hL.1.1,hL.1.2,JT P hL.2⟩
 have core:∀H:Hp,Tb K H->kA K H a (ns.map V.int)->jK P w H bT.heap->(∀b,H b≠none->(b=a/\∃o xs,H b=some (.q8 o (.lst xs)))\/∃c,zo K "dealt" = some (c,b))->(H a≠none->K.lookup a=none) ->
   codeAny (model P w) callerA (.call (.ref fa) ⟨[.ref a],[]⟩) (λr s'=>r=.ok (.ret (.bool true))/\OldK bT.heap s'.heap/\s'.os=bT.os/\AllBare s'.gens) bT:=by
  intro H hO hS cM hA hK;have pK:∀{b:Addr} {o:Obj},bT.heap.get? b=some o->H b=none->(o7 bT.heap H).get? b=some o:=λe n=>b5t e n
  have Va:∀{b:Addr} {o:Obj},bT.heap.get? b=some o->(∀xs n,o.data≠.seq xs n)->(∀xs,o.data=.fields xs->o.cls≠.none)->H b=none:=λ{b o} e d d2=>by
   cases q:H b with
   |none=>rfl
   |some u =>
    rcases hA b (by rw[q];simp) with⟨e',_⟩|⟨c,e'⟩;.subst e';rw[ha] at e;cases e;exact absurd rfl (d _ _)
    .rw [(tabs c b e').2.2] at e;cases e;exact absurd rfl (d2 _ rfl)
  have L7:∀{b:Addr} {m:Str->Option Value},bT.heap.Ns b m->(o7 bT.heap H).Ns b m:=λ{b m} ⟨o,es,ep,e,d,r⟩=>⟨o,es,ep,pK e (Va e (λ_ _ z=>by rw[d] at z;cases z) λ_ z=>by rw[d] at z;cases z),d,r⟩
  have Vx:K.In (o7 bT.heap H):=λb o e=>pK (KX b o e) (by
   cases q:H b with
   |none=>rfl
   |some u =>
    rcases hA b (by rw[q];simp) with⟨e',_⟩|⟨c,e'⟩;.subst e';rw[hK (by rw[q];simp)] at e;cases e
    .rw [(tabs c b e').2.1] at e;cases e);have hM:Mod K mg (o7 bT.heap H):=⟨Vx,L7 E6,⟨mb,L7 hb,hbb⟩,let ⟨mc,h1,h2⟩:=Qs;⟨mc,L7 h1,h2⟩,let ⟨bm,ob,b1,b2,b3,b4,b5,b6⟩:=hbm;⟨bm,ob,b1,b2,pK b3 (Va b3 (λ_ _ z=>by rw[b6] at z;cases z) λ_ z=>by rw[b6] at z;cases z),b4,b5,b6⟩⟩;have e0:sP P w K mg (o7 bT.heap H) callerA [] bT H:=⟨rfl,hM,λb o e=>b69 e,MH (b32 _ _),trivial,λb hb=>absurd (show b∈([]:List Addr) from hb) (by simp),cM,.of_eq hg⟩;refine Kt ((F _ Vx (L7 E6)).run callerA [] bT H ⟨[.ref a],[]⟩ [.ref a] [.ref a] _ _ hr e0 (JR bT (.ref a)) (.cons rfl .nil) (tR H hO hS)) λr s' h=>?_
  cases r with
  |error e=>exact(QF H e s' h).elim
  |ok fl =>
   cases fl with
   |next=>exact gg h
   |brk=>exact gg h
   |cont=>exact gg h
   |ret u =>
    obtain⟨v,H',os,bare,un,JF,r',q,qT⟩:=h;subst q;obtain rfl:u=MA true:=r'
    have old:∀b o,bT.heap.get? b=some o->s'.heap.get? b=some o\/∃c ps,zo K "dealt" = some (c,b)/\s'.heap.get? b=some (GW ps):=λb o e=>by
     cases q:H b with
     |none=>exact .inl (un.keep b o e q (by intro z;exact absurd (show b∈([]:List Addr) from z) (by simp)) (by simp))
     |some u =>
      rcases hA b (by rw[q];simp) with⟨_,ob,xs,z⟩|⟨c,e'⟩;.have z2:=un.jE b ob _ z;obtain⟨e1,_⟩:=cM b _ z;obtain⟨e2,_⟩:=JF b _ z2;rw[e] at e1;cases e1;exact .inl e2
      .obtain ⟨ps,e2,_⟩:=JF b _ (qT c b e');exact .inr ⟨c,ps,e',e2⟩
    refine⟨rfl,⟨λb o e=>?_,λb o e=>?_⟩,os,bare⟩
    .rcases old b o e with z | ⟨c,ps,e',z⟩;.exact .inl z
     .obtain ⟨t1,_,t3⟩:=tabs c b e';rw[t3] at e;cases e;exact .inr (.inl ⟨((PySem.W.codeHd_of_K KX t1).tab t3).isCodeTable,rfl,#[],ps,rfl,by rw[Array.empty_append];exact z⟩)
    .rcases old b o e with z | ⟨c,ps,e',z⟩;.exact ⟨o,z⟩
     .exact ⟨_,z⟩
 have U8:∀(H:Hp) (b:Addr),(∃c,zo K "dealt" = some (c,b))->gj P w H bT.heap b (.tab Co):=λH b ⟨c,e⟩=>⟨#[],(tabs c b e).2.2,trivial,λpos cv h=>by simp[codeAmong] at h⟩;have Vd:∀c b,zo K "dealt" = some (c,b)->b≠a:=λc b e z=>by have:=(tabs c b e).2.2;rw[z,ha] at this;cases this
 cases hk:K.lookup a with
 |some o =>
  have e:=KX a o hk;rw[ha] at e;cases e;refine core (λb=>if (zo K "dealt").map (·.2)=some b then some (.tab Co) else none) (λc b e=>if_pos (by rw[e];rfl)) (.inr ⟨_,vs.toArray,_,hk,rfl,rfl,rfl,by rw[lI,P'];exact hl,by simpa using rv⟩) (λb u z=>?_) (λb z=>?_) λz=>?_;.obtain ⟨hc,rfl⟩:=(Lp z);obtain⟨⟨c,b'⟩,e,rfl⟩:=KG.mp hc;exact U8 _ _ ⟨c,e⟩
  .by_cases hc:(zo K "dealt").map (·.2)=some b;.obtain ⟨⟨c,b'⟩,e,rfl⟩:=KG.mp hc;exact .inr ⟨c,e⟩
   .exact absurd (if_neg hc) z
  .by_cases hc:(zo K "dealt").map (·.2)=some a;.obtain ⟨⟨c,b'⟩,e,e2⟩:=KG.mp hc;exact absurd e2 (Vd c b' e)
   .exact absurd (if_neg hc) z
 |none =>
  refine core (λb=>if b=a then some (.q8 { cls:=.type "list",data:=.seq vs.toArray } (.lst (ns.map V.int))) else if (zo K "dealt").map (·.2)=some b then some (.tab Co) else none) (λc b e=>by show (if b=a then _ else _)=_;rw[if_neg (Vd c b e),if_pos (by rw[e];rfl)]) (.inl (.inr ⟨{ cls:=.type "list",data:=.seq vs.toArray },if_pos rfl⟩)) (λb u z=>?_) (λb z=>?_) λ_=>hk
  .by_cases hb:b=a;.have z':=(if_pos hb).symm.trans z;cases z';subst hb;exact⟨ha,by rw[kN];exact hl,vs,_,rv,ha⟩
   .obtain ⟨hc,rfl⟩:=Lp ((if_neg hb).symm.trans z);obtain⟨⟨c,b'⟩,e,rfl⟩:=KG.mp hc;exact U8 _ _ ⟨c,e⟩
  .by_cases hb:b=a;.exact .inl ⟨hb,_,_,if_pos hb⟩
   .by_cases hc:(zo K "dealt").map (·.2)=some b;.obtain ⟨⟨c,b'⟩,e,rfl⟩:=KG.mp hc;exact .inr ⟨c,e⟩
    .exact absurd ((if_neg hb).trans (if_neg hc)) z
end L2
namespace L2
open PySem PySem.Spec PyProof.Rows
abbrev KOf{K:aG}{h:Heap}(_:K.In h):aG:=K
theorem Ca{l:Rr}{n k:Nat}{q:Program}{loose:List Str}{XP:(Str->Option Value)->Heap->Prop}{YP:World->Heap->Prop}{d:DefRec}{K:Params->aG}{CX:World->uu}{sp:World->Sp}{x:Str}{ts:List Addr}
  (hn:l.most=some n)(Ml:n<=sizeLine)(JO:d.params.defaults=[])(hr:cD k callerA)
  (hY:∀(w:World) (h:Heap),YP w h->(K w.params).In h/\∀P∈ts,h.get? P=some (GW #[]))(hL:∀w:World,M3 (K w.params) ts=true)
  (F:∀(w:World) (mg:Str->Option Value) (fa:Addr) (h:Heap),(K w.params).In h->h.Ns mainGlobals mg->mg d.name=some (.ref fa) ->
   ∃fd:FuncData,(∀(s:Shared) (u:Value),BindsTo s fd ⟨[u],[]⟩ [(x,u)]) /\
    ∀base:Heap,(K w.params).In base->base.Ns mainGlobals mg->bQ l.prog w (K w.params) mg base (CX w) k fa fd [x] (sp w))
  (tR:∀(w:World) (H:Hp) (a:Addr) (ns:List Int),ns.length<=n->Tb (K w.params) H->kA (K w.params) H a (ns.map V.int)->sp w [.ref a] H (λv H'=>v=.bl true/\Tb (K w.params) H') λ_ _ _=>False)
  (QF:∀(w:World) (H:Hp) (s:Shared) (e:Value) (s':Shared),CX w [] H s (λ_ _ _=>False) e s'->False):
  PySem.W.WalkO q loose XP YP l.row.toRowW d [] (λf vs=>QZ f vs):=by refine Z8.qK hn JO λw dZ bT mg mb fa o pm cd doc a vs ns G Y ho hd dC JG E4 hints hlen hg=>?_;obtain⟨KX,JT⟩:=hY w _ Y;obtain⟨fd,hb,hF⟩:=F w mg fa _ KX G.T.g JG;exact b5g KX G.T.g G.T.b G.T.builtins G.T.nolimit hg G.T.bmain (hL w) JT E4 hints (iV hlen Ml) hr hF hb (λH hO hS=>tR w H a ns hlen hO hS) λH e s'=>QF w H bT e s'
end L2
namespace L2
open PySem PySem.Spec PyProof.Rows
def jn(s:Stmt)(j:Nat):Stmt:=match s with
 | .ClassDef _ _ _ body _ _ _ _ _ _ _=>body.getD j (.Pass ⟨0,0,0,0⟩)
 |_=>.Pass ⟨0,0,0,0⟩
def qR(s:Stmt):Arguments:=match s with
 | .FunctionDef _ a _ _ _ _ _ _ _ _=>a
 |_=>{ posonlyargs:=[],args:=[],vararg:=none,kwonlyargs:=[],kw_defaults:=[],kwarg:=none,defaults:=[] }
def iG(s:Stmt):List Stmt:=match s with
 | .FunctionDef _ _ b _ _ _ _ _ _ _=>b
 |_=>[]
def dR(s:Stmt):Scope:=match s with
 | .FunctionDef _ _ _ _ _ _ sc _ _ _=>sc
 |_=>{ kind:=.function,names:=[],isGenerator:=false,isCoroutine:=false }
abbrev iq:uu:=λ_ _ _ _ _ _=>False
abbrev E0:XK:=λ_ _ _=>False
theorem Bd:K8 iq X E0:=λ_ _ _ _ _ _ _ h=>h.elim
structure ur(K:aG)(x qual:Str)(st:Stmt)(f:Addr)(fd:FuncData):Prop where
 ex:∃(oc:Value) (od:Option Addr) (kV doc pm:Value) (an:Option Addr) (fu ct:Value) (Ad:Array (Option Value)),
  fd=pI x qual (qR st) (iG st) (dR st) .none kV doc pm an fu ct/\K.lookup f=some ⟨oc,od,.func fd,Ad⟩/\KH K fu qual=true
 kp:ud K (.ref f)=true
section
variable {P:Program}{w:World}{K:aG}{mg:Str->Option Value}{base:Heap}
theorem ur.ok{x qual:Str}{st:Stmt}{f:Addr}{fd:FuncData}{N ps:List Str}{k:Nat}{sp:Sp}(F:ur K x qual st f fd)(S:bP N ps (dR st))(len:∀vs H Q E,sp vs H Q E->vs.length=ps.length)
  (bu:∀(fu:Value) (A:Around) (outer:List Env) (s:Shared) (H:Hp) (vs:List V) (Q:VK) (E:XK),cD k (A.deeper (envOfC qual (dR st) s.heap.objs.size f fu))->sp vs H Q E ->
   ∃t,nZ (hU iq P w K mg base N qual (dR st) f fu A outer s H E).aI (iG st) t/\t { nx:=λ_ H'=>Q .dO H',rt:=Q } (start N vs) H):bQ P w K mg base iq (k+1) f fd ps sp:=by obtain⟨oc,od,kV,doc,pm,an,fu,ct,Ad,rfl,lk,dC⟩:=F.ex;refine M0 lk dC S len λA outer s H vs Q E hr tR=>?_;obtain⟨t,h,q⟩:=bu fu A outer s H vs Q E hr tR;exact⟨t,h.aI,q⟩
theorem ur.binds{x qual:Str}{st:Stmt}{f:Addr}{fd:FuncData}{ps:List Str}(F:ur K x qual st f fd)
  (h:∀(kV doc pm:Value) (an:Option Addr) (fu ct:Value) (us:List Value),us.length=ps.length->bindArgs (pI x qual (qR st) (iG st) (dR st) .none kV doc pm an fu ct) ⟨us,[]⟩=pure (ps.zip us)):Binds K fd ps []:=by obtain⟨oc,od,kV,doc,pm,an,fu,ct,Ad,rfl,lk,dC⟩:=F.ex;exact .all (h kV doc pm an fu ct)
theorem Nq{x qual:Str}{st:Stmt}{f:Addr}{oc:Value}{od an:Option Addr}{Ad:Array (Option Value)}{kV doc pm fu ct:Value}(l:K.lookup f=some ⟨oc,od,.func (pI x qual (qR st) (iG st) (dR st) .none kV doc pm an fu ct),Ad⟩)
  (c:KH K fu qual=true)(k:ud K (.ref f)=true):ur K x qual st f (pI x qual (qR st) (iG st) (dR st) .none kV doc pm an fu ct):=⟨⟨oc,od,kV,doc,pm,an,fu,ct,Ad,rfl,l,c⟩,k⟩
end
section
variable {X:Cx}
end
def az(H H':Hp):Prop:=∀b o,H b=some o->H' b=some o
theorem az.refl(H:Hp):az H H:=λ_ _ h=>h
theorem az.trans(a:az H H1)(b:az H1 H2):az H H2:=λc o h=>b c o (a c o h)
theorem az.free(e:az H H')(h:H' l=Option.none):H l=Option.none:=by
 cases q:H l with
 |none=>rfl
 |some o => rw[e l o q] at h;cases h
end L2
set_option maxHeartbeats 4000000
namespace DL
open PySem PySem.Spec PyProof.Rows L2
section
variable {prog:Program}{w:World}{A:Around}{E:Value->Shared->Prop}{s:Shared}
theorem b5H{ws:List Value}(ht:IsTup s.heap t #[])(hb:IsTup s.heap b ws.toArray)(h1:Q (.ref b) s):wpAny (model prog w) A (binaryOp .Add (.ref t) (.ref b)) Q E s:=by
 obtain⟨⟨cls,dd,data,sl⟩,ho,hc,n,hd⟩:=id ht;obtain⟨⟨QX,Mu,data2,IB⟩,E5,JQ,n2,hd2⟩:=id hb;simp only at hc hd JQ hd2;subst hc hd JQ hd2
 exact concat_meets ⟨_,ho,rfl⟩ ⟨_,E5,rfl⟩ Rb RA RD RE (RG _ _)
   (tuple_addW0 t b #[] ws.toArray n n2 dd Mu sl IB rfl) ⟨ho,E5,h1⟩
end
section
variable {X:Cx}
noncomputable def IU(K:aG):R2:=λx y H Q=>∃a b ys,x=.ref a/\y=.ref b/\ll K H a []/\ll K H b ys/\Q (.ref b) H
theorem b67:lO X (binaryOp .Add) (IU X.K):=by intro pins s σ H x y v u Q I rx ry h;obtain⟨a,b,ys,rfl,rfl,ha,hb,q1⟩:=h;cases rx;cases ry;obtain⟨aS,r1,p1,_⟩:=I.tuple ha;obtain⟨iP,r2,p2,_⟩:=I.tuple hb;cases r1;exact b5H p1 p2 ⟨.ref b,H,I,rfl,q1⟩
end
end DL
namespace DL
open PySem PySem.Spec PyProof.Rows L2
inductive D where
 |dO|bl (b:Bool)|int (i:Int)|str (x:Str)|tup (ds:List D)|lst (ro:Bool) (ds:List D)|exc (n:Str)|vC (fz:Bool) (dz:List (Int×Int))
 |obj (c:Str) (ns:List Str) (ds:List D)|yG (ks:List Str) (ds:List D)|BG (ks:List Str) (ds:List D)
 deriving Inhabited
inductive Sl where
 |no|sh (d:D)|ow (ds:List D)|dw (dz:List (Int×Int))|tw (ks:List Str) (ds:List D)
 deriving Inhabited
noncomputable abbrev En:=List Sl
noncomputable def Sl.d:Sl->D
 | .no=>.dO
 | .sh d=>d
 | .ow ds=>.lst false ds
 | .dw dz=>.vC false dz
 | .tw ks ds=>.yG ks ds
def mT(p C:Addr)(h:Heap):Prop:=∃o,h.get? p=some o/\o.cls=.ref C
noncomputable abbrev Kj(ks:List Str)(vs:List V):HO:=.dK ((ks.zip vs).map λq=>(.inr q.1,q.2))
mutual
inductive Is (K:aG) (O:Addr->Prop) (H:Hp):V->D->Prop
 |dO:Is K O H .dO .dO
 |bl (b:Bool):Is K O H (.bl b) (.bl b)
 |int (i:Int):Is K O H (.int i) (.int i)
 |str (x:Str):Is K O H (.str x) (.str x)
 |tup {p:Addr} {xs:List V} {ds:List D} (ho:¬O p) (hp:Rd H p (.tup xs)) (hs:aU K O H xs ds):Is K O H (.ref p) (.tup ds)
 |vf {p:Addr} {xs:List V} {ds:List D} (hp:ll K (λ_=>none) p xs) (hs:aU K O H xs ds):Is K O H (.ref p) (.tup ds)
 |lst {p:Addr} {xs:List V} {ds:List D} (ho:¬O p) (hp:H p=some (.lst xs)) (hs:aU K O H xs ds):Is K O H (.ref p) (.lst false ds)
 |uH {p:Addr} {xs:List V} {ds:List D} (ho:¬O p) (hp:Rd H p (.lst xs)) (hs:aU K O H xs ds):Is K O H (.ref p) (.lst true ds)
 |vg {p:Addr} {xs:List V} {ds:List D} (hp:kA K (λ_=>none) p xs) (hs:aU K O H xs ds):Is K O H (.ref p) (.lst true ds)
 |exc {p C:Addr} {n:Str} (ho:¬O p) (hn:iE K mainGlobals n=some (some (.ref C))) (hp:H p=some (.ext (mT p C))):Is K O H (.ref p) (.exc n)
 |vC {p:Addr} {dz:List (Int×Int)} (ho:¬O p) (hp:H p=some (.dK (dz.map λq=>(.inl q.1,.int q.2)))):Is K O H (.ref p) (.vC false dz)
 |Fv {p:Addr} {dz:List (Int×Int)} {o:Obj} (ho:¬O p) (hp:H p=some (.q8 o (.dK (dz.map λq=>(.inl q.1,.int q.2))))):Is K O H (.ref p) (.vC true dz)
 |obj {p C dx:Addr} {c:Str} {ns:List Str} {vs:List V} {ds:List D} (ho:¬O p) (hn:iE K mainGlobals c=some (some (.ref C))) (hp:H p=some (.ins C dx (ns.zip vs))) (hl:ns.length=vs.length) (hs:aU K O H vs ds):Is K O H (.ref p) (.obj c ns ds)
 |yG {p:Addr} {ks:List Str} {vs:List V} {ds:List D} (ho:¬O p) (hp:H p=some (Kj ks vs)) (hl:ks.length=vs.length) (hs:aU K O H vs ds):Is K O H (.ref p) (.yG ks ds)
 |BG {p:Addr} {ks:List Str} {vs:List V} {ds:List D} {o:Obj} (ho:¬O p) (hp:H p=some (.q8 o (Kj ks vs))) (hl:ks.length=vs.length) (hs:aU K O H vs ds):Is K O H (.ref p) (.BG ks ds)
inductive aU (K:aG) (O:Addr->Prop) (H:Hp):List V->List D->Prop
 |nil:aU K O H [] []
 |cons {x:V} {d:D} {xs:List V} {ds:List D} (h:Is K O H x d) (t:aU K O H xs ds):aU K O H (x::xs) (d::ds)
end
theorem Xs{O:Addr->Prop}{H H':Hp}(hH:∀q u,H q=some u->¬O q->H' q=some u){p:Addr}{u:HO}(ho:¬O p)(h:Rd H p u):Rd H' p u:=by
 rcases h with h|⟨o,h⟩;.exact .inl (hH p u h ho)
 .exact .inr ⟨o,hH p _ h ho⟩
theorem XE(h:Rd H p u):H p≠none:=by rcases h with h|⟨o,h⟩<;>rw[h]<;>exact λz=>nomatch z
theorem NN{K:aG}{H:Hp}{p:Addr}{xs:List V}(h:kA K (λ_=>none) p xs):kA K H p xs:=by
 rcases h with(h|⟨o,h⟩)|h;.cases h
 .cases h
 .exact .inr h
theorem NO{K:aG}{H:Hp}{p:Addr}{xs:List V}(h:ll K (λ_=>none) p xs):ll K H p xs:=by
 rcases h with(h|⟨o,h⟩)|h;.cases h
 .cases h
 .exact .inr h
section
variable {K:aG}{O O':Addr->Prop}{H H':Hp}
mutual
theorem Is.map(hO:∀q,H q≠none->¬O q->¬O' q)(hH:∀q u,H q=some u->¬O q->H' q=some u)(h:Is K O H v d):Is K O' H' v d:=by
 cases h with
 |dO=>exact .dO
 |bl b=>exact .bl b
 |int i=>exact .int i
 |str x=>exact .str x
 |tup ho hp hs=>exact .tup (hO _ (XE hp) ho) (Xs hH ho hp) (aU.map hO hH hs)
 |vf hp hs=>exact .vf hp (aU.map hO hH hs)
 |lst ho hp hs=>exact .lst (hO _ (by rw[hp];exact λz=>nomatch z) ho) (hH _ _ hp ho) (aU.map hO hH hs)
 |uH ho hp hs=>exact .uH (hO _ (XE hp) ho) (Xs hH ho hp) (aU.map hO hH hs)
 |vg hp hs=>exact .vg hp (aU.map hO hH hs)
 |exc ho hn hp=>exact .exc (hO _ (by rw[hp];exact λz=>nomatch z) ho) hn (hH _ _ hp ho)
 |vC ho hp=>exact .vC (hO _ (by rw[hp];exact λz=>nomatch z) ho) (hH _ _ hp ho)
 |Fv ho hp=>exact .Fv (hO _ (by rw[hp];exact λz=>nomatch z) ho) (hH _ _ hp ho)
 |obj ho hn hp hl hs=>exact .obj (hO _ (by rw[hp];exact λz=>nomatch z) ho) hn (hH _ _ hp ho) hl (aU.map hO hH hs)
 |yG ho hp hl hs=>exact .yG (hO _ (by rw[hp];exact λz=>nomatch z) ho) (hH _ _ hp ho) hl (aU.map hO hH hs)
 |BG ho hp hl hs=>exact .BG (hO _ (by rw[hp];exact λz=>nomatch z) ho) (hH _ _ hp ho) hl (aU.map hO hH hs)
theorem aU.map(hO:∀q,H q≠none->¬O q->¬O' q)(hH:∀q u,H q=some u->¬O q->H' q=some u):∀{v:List V} {d:List D},aU K O H v d->aU K O' H' v d
 |_,_,.nil=>.nil
 |_,_,.cons h t=>.cons (Is.map hO hH h) (aU.map hO hH t)
end
theorem Is.grow(s:az H H')(h:Is K O H v d):Is K O H' v d:=h.map (λ_ _ z=>z) λq u e _=>s q u e
theorem aU.grow(s:az H H')(h:aU K O H v d):aU K O H' v d:=h.map (λ_ _ z=>z) λq u e _=>s q u e
theorem Is.less(hO:∀q,O' q->O q)(h:Is K O H v d):Is K O' H v d:=h.map (λ_ _ z w=>z (hO _ w)) λ_ _ e _=>e
theorem aU.less(hO:∀q,O' q->O q)(h:aU K O H v d):aU K O' H v d:=h.map (λ_ _ z w=>z (hO _ w)) λ_ _ e _=>e
theorem aU.length:∀{v:List V} {d:List D},aU K O H v d->v.length=d.length
 |_,_,.nil=>rfl
 |_,_,.cons _ t=>by rw[jj,jj,aU.length t]
theorem aU.append:∀{v w:List V} {d e:List D},aU K O H v d->aU K O H w e->aU K O H (v++w) (d++e)
 |_,_,_,_,.nil,s=>s
 |_,_,_,_,.cons h t,s=>.cons h (aU.append t s)
theorem aU.get:∀{v:List V} {ds:List D} {i:Nat} {d:D},aU K O H v ds->ds[i]?=some d->∃x,v[i]?=some x/\Is K O H x d
 |_,_,_,_,.nil,e=>by simp at e
 |_,_,0,_,.cons h _,e=>by simp at e;subst e;exact⟨_,rfl,h⟩
 |_,_,i+1,d,.cons _ t,e=>by obtain⟨u,h1,h2⟩:=aU.get (i:=i) (d:=d) t (by simpa using e);exact⟨u,by simpa using h1,h2⟩
theorem aU.Fc:∀{v:List V} {ds:List D} {i:Nat} {x:V},aU K O H v ds->v[i]?=some x->∃d,ds[i]?=some d/\Is K O H x d
 |_,_,_,_,.nil,e=>by simp at e
 |_,_,0,_,.cons h _,e=>by simp at e;subst e;exact⟨_,rfl,h⟩
 |_,_,i+1,d,.cons _ t,e=>by obtain⟨u,h1,h2⟩:=aU.Fc (i:=i) (x:=d) t (by simpa using e);exact⟨u,by simpa using h1,h2⟩
theorem aU.take:∀{v:List V} {d:List D} (n:Nat),aU K O H v d->aU K O H (v.take n) (d.take n)
 |_,_,0,_=>.nil
 |_,_,_+1,.nil=>.nil
 |_,_,n+1,.cons h t=>.cons h (aU.take n t)
theorem aU.drop:∀{v:List V} {d:List D} (n:Nat),aU K O H v d->aU K O H (v.drop n) (d.drop n)
 |_,_,0,h=>h
 |_,_,_+1,.nil=>.nil
 |_,_,n+1,.cons _ t=>aU.drop n t
theorem aU.set(h:Is K O H x d):∀{v:List V} {ds:List D} (n:Nat),aU K O H v ds->aU K O H (v.set n x) (ds.set n d)
 |_,_,_,.nil=>.nil
 |_,_,0,.cons _ t=>.cons h t
 |_,_,n+1,.cons h' t=>.cons h' (aU.set h n t)
theorem aU.nD(h:aU K O H v ds)(e:L2.nD ds i=some d):∃x,L2.nD v i=some x/\Is K O H x d:=by
 unfold L2.nD at e ⊢;rw[h.length]
 cases q:DJ ds.length i with
 |none=>rw[q] at e;cases e
 |some j => rw[q] at e;exact h.get e
theorem aU.ints:∀(ns:List Int),aU K O H (ns.map V.int) (ns.map D.int)
 |[]=>.nil
 |n::r=>.cons (.int n) (aU.ints r)
def Sq(K:aG)(H:Hp)(k:Bool)(p:Addr)(xs:List V):Prop:=if k=true then kA K H p xs else ll K H p xs
noncomputable def lp:D->Option (Bool×List D)
 | .tup ds=>some (false,ds)
 | .lst _ ds=>some (true,ds)
 |_=>none
theorem Is.seq(h:Is K O H v d)(e:lp d=some (k,ds)):∃p xs,v=.ref p/\Sq K H k p xs/\aU K O H xs ds:=by
 cases h with
 |tup ho hp hs=>cases e;exact⟨_,_,rfl,.inl hp,hs⟩
 |vf hp hs=>cases e;exact⟨_,_,rfl,NO hp,hs⟩
 |lst ho hp hs=>cases e;exact⟨_,_,rfl,.inl (.inl hp),hs⟩
 |uH ho hp hs=>cases e;exact⟨_,_,rfl,.inl hp,hs⟩
 |vg hp hs=>cases e;exact⟨_,_,rfl,NN hp,hs⟩
 |_=>cases e
end
theorem Sq.grow{K:aG}{H H':Hp}{k:Bool}{p:Addr}{xs:List V}(s:az H H')(h:Sq K H k p xs):Sq K H' k p xs:=by
 cases k with
 |true =>
  rcases h with(h|⟨o,h⟩)|h;.exact .inl (.inl (s _ _ h))
  .exact .inl (.inr ⟨o,s _ _ h⟩)
  .exact .inr h
 |false =>
  rcases h with(h|⟨o,h⟩)|h;.exact .inl (.inl (s _ _ h))
  .exact .inl (.inr ⟨o,s _ _ h⟩)
  .exact .inr h
noncomputable def Sl.own:Sl->Prop
 | .ow _=>True
 | .dw _=>True
 | .tw _ _=>True
 |_=>False
noncomputable abbrev QU(dz:List (Int×Int)):HO:=.dK (dz.map λq=>(.inl q.1,.int q.2))
def lN(σ:L2.St)(env:En)(p:Addr):Prop:=∃(i:Nat) (s:Sl),env[i]?=some s/\s.own/\σ[i]?=some (some (V.ref p))
abbrev OO(O:Addr->Prop)(σ:L2.St)(env:En)(q:Addr):Prop:=O q\/lN σ env q
theorem _root_.L2.Tb.grow{K:aG}{H H':Hp}(s:az H H')(h:Tb K H):Tb K H':=λc P e=>s _ _ (h c P e)
def zM(K:aG)(O:Addr->Prop)(H:Hp):Prop:=(∀q,O q->H q≠none)/\Tb K H
theorem zM.grow{K:aG}{O:Addr->Prop}{H H':Hp}(s:az H H')(h:zM K O H):zM K O H':=⟨λq hq hn=>h.1 q hq (s.free hn),h.2.grow s⟩
structure Rel(K:aG)(O:Addr->Prop)(B:Hp)(σ:L2.St)(H:Hp)(env:En):Prop where
 same:az B H
 mR:zM K O B
 len:σ.length=env.length
 sh:∀(i:Nat) (d:D),env[i]?=some (Sl.sh d)->∃v,σ[i]?=some (some v)/\Is K (OO O σ env) H v d
 ow:∀(i:Nat) (ds:List D),env[i]?=some (Sl.ow ds)->∃p xs,σ[i]?=some (some (V.ref p))/\B p=none/\H p=some (.lst xs)/\aU K (OO O σ env) H xs ds
 dw:∀(i:Nat) (dz:List (Int×Int)),env[i]?=some (Sl.dw dz)->∃p,σ[i]?=some (some (V.ref p))/\B p=none/\H p=some (QU dz)
 tw:∀(i:Nat) (ks:List Str) (ds:List D),env[i]?=some (Sl.tw ks ds)->∃p vs,σ[i]?=some (some (V.ref p))/\B p=none/\H p=some (Kj ks vs)/\ks.length=vs.length/\aU K (OO O σ env) H vs ds
 sep:∀(i j:Nat) (ds es:Sl) (p:Addr),env[i]?=some ds->env[j]?=some es->σ[i]?=some (some (V.ref p))->σ[j]?=some (some (V.ref p))->ds.own->es.own->i=j
noncomputable def Res(K:aG)(O:Addr->Prop)(B H:Hp)(v:V):Sl->Prop
 | .no=>False
 | .sh d=>Is K O H v d
 | .ow ds=>∃p xs,v=.ref p/\B p=none/\H p=some (.lst xs)/\aU K (λq=>O q\/q=p) H xs ds
 | .dw dz=>∃p,v=.ref p/\B p=none/\H p=some (QU dz)
 | .tw ks ds=>∃p vs,v=.ref p/\B p=none/\H p=some (Kj ks vs)/\ks.length=vs.length/\aU K (λq=>O q\/q=p) H vs ds
section
variable {K:aG}{O:Addr->Prop}{B H H' H1:Hp}{σ:L2.St}{env:En}{v:V}{r:Sl}
theorem Rel.ad(R:Rel K O B σ H env){i:Nat}{s:Sl}(h:env[i]?=some s)(ho:s.own):∃p u,σ[i]?=some (some (V.ref p))/\B p=none/\H p=some u:=by
 cases s with
 |ow ds=>obtain⟨p,xs,e1,e2,e3,_⟩:=R.ow i ds h;exact⟨p,_,e1,e2,e3⟩
 |dw dz=>obtain⟨p,e1,e2,e3⟩:=R.dw i dz h;exact⟨p,_,e1,e2,e3⟩
 |tw ks ds=>obtain⟨p,vs,e1,e2,e3,_⟩:=R.tw i ks ds h;exact⟨p,_,e1,e2,e3⟩
 |no=>exact ho.elim
 |sh d=>exact ho.elim
theorem Rel.oo(R:Rel K O B σ H env)(h:OO O σ env q):H q≠none:=by
 rcases h with h|⟨i,s,h1,ho,h2⟩;.intro z;exact R.mR.1 q h (R.same.free z)
 .obtain ⟨p,u,e1,_,e3⟩:=R.ad h1 ho;rw[h2] at e1;cases e1;rw[e3];exact λz=>nomatch z
theorem Rel.dm(R:Rel K O B σ H env):zM K (OO O σ env) H:=⟨λ_=>R.oo,R.mR.2.grow R.same⟩
theorem Rel.grow(R:Rel K O B σ H env)(s:az H H'):Rel K O B σ H' env where
 same:=R.same.trans s
 mR:=R.mR
 len:=R.len
 sh:=λi d e=>let ⟨v,e1,h⟩:=R.sh i d e;⟨v,e1,h.grow s⟩
 ow:=λi ds e=>let ⟨p,xs,e1,e2,e3,h⟩:=R.ow i ds e;⟨p,xs,e1,e2,s _ _ e3,h.grow s⟩
 dw:=λi dz e=>let ⟨p,e1,e2,e3⟩:=R.dw i dz e;⟨p,e1,e2,s _ _ e3⟩
 tw:=λi ks ds e=>let ⟨p,vs,e1,e2,e3,e4,h⟩:=R.tw i ks ds e;⟨p,vs,e1,e2,s _ _ e3,e4,h.grow s⟩
 sep:=R.sep
theorem Res.from(s:az H1 B)(h:Res K O B H v r):Res K O H1 H v r:=by
 cases r with
 |no=>exact h
 |sh d=>exact h
 |ow ds=>obtain⟨p,xs,e1,e2,e3,h⟩:=h;exact⟨p,xs,e1,s.free e2,e3,h⟩
 |dw dz=>obtain⟨p,e1,e2,e3⟩:=h;exact⟨p,e1,s.free e2,e3⟩
 |tw ks ds=>obtain⟨p,vs,e1,e2,e3,e4,h⟩:=h;exact⟨p,vs,e1,s.free e2,e3,e4,h⟩
theorem Res.less(hO:∀q,O' q->O q)(h:Res K O B H v r):Res K O' B H v r:=by
 cases r with
 |no=>exact h
 |sh d=>exact Is.less hO h
 |ow ds=>obtain⟨p,xs,e1,e2,e3,h⟩:=h;exact⟨p,xs,e1,e2,e3,h.less λq z=>z.elim (λw=>.inl (hO _ w)) .inr⟩
 |dw dz=>exact h
 |tw ks ds=>obtain⟨p,vs,e1,e2,e3,e4,h⟩:=h;exact⟨p,vs,e1,e2,e3,e4,h.less λq z=>z.elim (λw=>.inl (hO _ w)) .inr⟩
theorem Res.is(hd:∀q,O q->B q≠none)(h:Res K O B H v r):Is K O H v r.d:=by
 cases r with
 |no=>exact h.elim
 |sh d=>exact h
 |ow ds => obtain⟨p,xs,rfl,e2,e3,h⟩:=h;exact .lst (λz=>hd p z e2) e3 (h.less λ_=>.inl)
 |dw dz => obtain⟨p,rfl,e2,e3⟩:=h;exact .vC (λz=>hd p z e2) e3
 |tw ks ds => obtain⟨p,vs,rfl,e2,e3,e4,h⟩:=h;exact .yG (λz=>hd p z e2) e3 e4 (h.less λ_=>.inl)
end
inductive EV (X:Cx) (e:Expr) (f:En->Option Sl):Prop
 | mk (t:TE) (p:PE X e t) (k:∀(O:Addr->Prop) (B:Hp) (σ:L2.St) (H:Hp) (env:En) (r:Sl) (Q:VK),Rel X.K O B σ H env->f env=some r ->
  (∀v H',az H H'->Res X.K (OO O σ env) H H' v r->Q v H')->t σ H Q)
inductive BV (X:Cx) (e:Expr) (f:En->Option (Bool×List D)):Prop
 | mk (t:TE) (p:PE X e t) (k:∀(O:Addr->Prop) (B:Hp) (σ:L2.St) (H:Hp) (env:En) (k:Bool) (ds:List D) (Q:VK),Rel X.K O B σ H env->f env=some (k,ds) ->
  (∀p xs H',az H H'->Sq X.K H' k p xs->aU X.K (OO O σ env) H' xs ds->Q (.ref p) H')->t σ H Q)
inductive AV (X:Cx) (es:List Expr) (f:En->Option (List D)):Prop
 | mk (t:TA) (p:PA X es t) (k:∀(O:Addr->Prop) (B:Hp) (σ:L2.St) (H:Hp) (env:En) (ds:List D) (Q:List V->Hp->Prop),Rel X.K O B σ H env->f env=some ds ->
  (∀vs H',az H H'->aU X.K (OO O σ env) H' vs ds->Q vs H')->t σ H Q)
inductive TV (X:Cx) (e:Expr) (f:En->Option Bool):Prop
 | mk (t:TT) (p:PT X e t) (k:∀(O:Addr->Prop) (B:Hp) (σ:L2.St) (H:Hp) (env:En) (b:Bool) (Q:Bool->Hp->Prop),Rel X.K O B σ H env->f env=some b ->
  (∀H',az H H'->Q b H')->t σ H Q)
inductive WV (X:Cx) (e:Expr) (f:En->Option Bool):Prop
 | mk (t:TT) (p:PW X e t) (k:∀(O:Addr->Prop) (B:Hp) (σ:L2.St) (H:Hp) (env:En) (b:Bool) (Q:Bool->Hp->Prop),Rel X.K O B σ H env->f env=some b ->
  (∀H',az H H'->Q b H')->t σ H Q)
inductive Fl where
 |nx|bk|ct|rt (r:Sl)
def Gd(σ:L2.St)(env:En)(H:Hp)(aH:L2.St)(af:En)(H':Hp):Prop:=∀q u,H q=some u->¬lN σ env q->H' q=some u/\¬lN aH af q
theorem Gd.trans(a:Gd σ env H jw env1 H1)(b:Gd jw env1 H1 ft cC H2):Gd σ env H ft cC H2:=λq u e n =>
 let ⟨e1,n1⟩:=a q u e n
 b q u e1 n1
theorem Gd.from(s:az H H1)(b:Gd σ env H1 aH af H'):Gd σ env H aH af H':=λq u e n=>b q u (s _ _ e) n
theorem Gd.refl(s:az H H'):Gd σ env H σ env H':=λq u e n=>⟨s _ _ e,n⟩
noncomputable def gK(K:aG)(O:Addr->Prop)(B:Hp)(σ:L2.St)(H:Hp)(env:En)(D:Ends):Fl->En->Prop
 | .nx,af=>∀aH H',Rel K O B aH H' af->Gd σ env H aH af H'->D.nx aH H'
 | .bk,af=>∀aH H',Rel K O B aH H' af->Gd σ env H aH af H'->D.bk aH H'
 | .ct,af=>∀aH H',Rel K O B aH H' af->Gd σ env H aH af H'->D.ct aH H'
 | .rt r,_=>∀v H',az B H'->Res K O B H' v r->D.rt v H'
theorem gK.from{K:aG}{O:Addr->Prop}{B:Hp}{σ jw:L2.St}{H H1:Hp}{env env1:En}{D:Ends}{fl:Fl}{af:En}(g:Gd σ env H jw env1 H1)(h:gK K O B σ H env D fl af):gK K O B jw H1 env1 D fl af:=by
 cases fl with
 |nx=>exact λaH H' R g'=>h aH H' R (g.trans g')
 |bk=>exact λaH H' R g'=>h aH H' R (g.trans g')
 |ct=>exact λaH H' R g'=>h aH H' R (g.trans g')
 |rt r=>exact h
noncomputable abbrev SF:=En->Option (Fl×En)
inductive SV (X:Cx) (st:Stmt) (F:SF):Prop
 |mk (t:TS) (p:PS X st t) (k:∀(O:Addr->Prop) (B:Hp) (σ:L2.St) (H:Hp) (env:En) (fl:Fl) (af:En) (D:Ends),Rel X.K O B σ H env->F env=some (fl,af)->gK X.K O B σ H env D fl af->t D σ H)
inductive qX (X:Cx) (st:List Stmt) (F:SF):Prop
 |mk (t:TS) (p:nZ X st t) (k:∀(O:Addr->Prop) (B:Hp) (σ:L2.St) (H:Hp) (env:En) (fl:Fl) (af:En) (D:Ends),Rel X.K O B σ H env->F env=some (fl,af)->gK X.K O B σ H env D fl af->t D σ H)
section
variable {X:Cx}{a b c:Expr}{pos:Pos}{fa fb fc:En->Option Sl}
noncomputable def eC(d:D):En->Option Sl:=λ_=>some (.sh d)
theorem cx{i j pos}:EV X (.Constant (.int i) j pos) (eC (.int i)):=⟨_,b89,λ_ _ _ _ _ _ _ _ e k=>by obtain rfl:=gY e;exact k _ _ (az.refl _) (Is.int i)⟩
theorem sA{i j pos}:EV X (.Constant (.bool i) j pos) (eC (.bl i)):=⟨_,IZ,λ_ _ _ _ _ _ _ _ e k=>by obtain rfl:=gY e;exact k _ _ (az.refl _) (Is.bl i)⟩
theorem aB{x j pos}:EV X (.Constant (.str x) j pos) (eC (.str x)):=⟨_,b86,λ_ _ _ _ _ _ _ _ e k=>by obtain rfl:=gY e;exact k _ _ (az.refl _) (Is.str x)⟩
noncomputable def L0:Option Sl->Option Sl
 |some (.sh d)=>some (.sh d)
 |_=>none
theorem b4U(h:L0 o=some r):∃d,o=some (Sl.sh d)/\r=.sh d:=by
 cases o with
 |none=>cases h
 |some s=>cases s with
  |sh d=>cases h;exact⟨d,rfl,rfl⟩
  |no=>cases h
  |ow ds=>cases h
  |dw ds=>cases h
  |tw _ _=>cases h
noncomputable def eV(i:Nat):En->Option Sl:=λenv=>L0 env[i]?
theorem WR(i:Nat)(hN:autoParam (X.N[i]?=some x) ra2._auto_1)(hv:autoParam (jJ X.env.scope x) ra4._auto_1)(hd:autoParam ((x==("__debug__":Str))=false) ra1._auto_1)
  (dC:autoParam ((x==("__classdict__":Str))=false) ra1._auto_1):EV X (.Name x pos) (eV i):=⟨_,wC hN hv hd dC,λO B σ H env r Q R e k=>by obtain⟨d,e1,rfl⟩:=b4U e;obtain⟨v,e2,h⟩:=R.sh i d e1;exact⟨v,e2,k v H (az.refl _) h⟩⟩
noncomputable def slB:Option Sl->Option (Bool×List D)
 |some (.sh d)=>lp d
 |some (.ow ds)=>some (true,ds)
 |_=>none
noncomputable def bV(i:Nat):En->Option (Bool×List D):=λenv=>slB env[i]?
theorem b9U(i:Nat)(hN:autoParam (X.N[i]?=some x) ra2._auto_1)(hv:autoParam (jJ X.env.scope x) ra4._auto_1)(hd:autoParam ((x==("__debug__":Str))=false) ra1._auto_1)
  (dC:autoParam ((x==("__classdict__":Str))=false) ra1._auto_1):BV X (.Name x pos) (bV i):=⟨_,wC hN hv hd dC,λO B σ H env k ds Q R e q=>by
 unfold bV at e
 cases h:env[i]? with
 |none=>rw[h] at e;cases e
 |some s =>
  rw[h] at e
  cases s with
  |no=>cases e
  |sh d => obtain⟨v,e2,hv⟩:=R.sh i d h;obtain⟨p,xs,rfl,h1,h2⟩:=hv.seq (show lp d=some (k,ds) from e);exact⟨_,e2,q p xs H (az.refl _) h1 h2⟩
  |dw es=>cases e
  |tw _ _=>cases e
  |ow es => obtain⟨rfl,rfl⟩:true=k/\es=ds:=Prod.mk.inj (gY e);obtain⟨p,xs,e2,_,e3,h2⟩:=R.ow i es h;exact⟨_,e2,q p xs H (az.refl _) (.inl (.inl e3)) h2⟩⟩
noncomputable def nC(f:En->Option Sl):En->Option (Bool×List D):=λenv=>(f env).bind λr=>lp r.d
theorem bind_some{α β:Type}{o:Option α}{f:α->Option β}{b:β}(h:o.bind f=some b):∃a,o=some a/\f a=some b:=by
 cases o with
 |none=>cases h
 |some a=>exact⟨a,rfl,h⟩
theorem wu(h:EV X a fa):BV X a (nC fa):=by obtain⟨t,ht,p⟩:=h;refine⟨t,ht,λO B σ H env k ds Q R e q=>?_⟩;obtain⟨r,e1,e2⟩:=bind_some e;refine p O B σ H env r _ R e1 λv H' s h=>?_;obtain⟨p,xs,rfl,h1,h2⟩:=(h.is (λz=>R.oo)).seq e2;exact q p xs H' s h1 h2
inductive n4 (X:Cx) (f:Value->Value->Sem Value) (g:D->D->Option Sl):Prop
 | mk (r:R2) (p:lO X f r) (k:∀(O:Addr->Prop) (H:Hp) (x y:V) (a b:D) (s:Sl) (Q:VK),(∀q,O q->H q≠none)->Is X.K O H x a->Is X.K O H y b->g a b=some s ->
  (∀v H',az H H'->Res X.K O H H' v s->Q v H')->r x y H Q)
noncomputable def ae(g:D->D->Option Sl)(fa fb:En->Option Sl):En->Option Sl:=λenv=>(fa env).bind λx=>(fb env).bind λy=>g x.d y.d
theorem Tn(hg:∀(O:Addr->Prop) (H:Hp) (x y:V) (a b:D) (s:Sl) (Q:VK),(∀q,O q->H q≠none)->Is X.K O H x a->Is X.K O H y b->g a b=some s->(∀v H',az H H'->Res X.K O H H' v s->Q v H')->r x y H Q)(pa:∀(O:Addr->Prop) (B:Hp) (σ:L2.St) (H:Hp) (env:En) (r:Sl) (Q:VK),Rel X.K O B σ H env->fa env=some r->(∀v H',az H H'->Res X.K (OO O σ env) H H' v r->Q v H')->ta σ H Q)
  (pb:∀(O:Addr->Prop) (B:Hp) (σ:L2.St) (H:Hp) (env:En) (r:Sl) (Q:VK),Rel X.K O B σ H env->fb env=some r->(∀v H',az H H'->Res X.K (OO O σ env) H H' v r->Q v H')->tb σ H Q)
  (O:Addr->Prop)(B:Hp)(σ:L2.St)(H:Hp)(env:En)(s:Sl)(Q:VK)(R:Rel X.K O B σ H env)(e:ae g fa fb env=some s)
  (k:∀v H',az H H'->Res X.K (OO O σ env) H H' v s->Q v H'):Il r ta tb σ H Q:=by obtain⟨x,e1,e⟩:=bind_some e;obtain⟨y,e2,e⟩:=bind_some e;refine pa O B σ H env x _ R e1 λv H1 s1 h1=>?_;refine pb O B σ H1 env y _ (R.grow s1) e2 λu H2 s2 h2=>?_;have R2:=(R.grow s1).grow s2;refine hg (OO O σ env) H2 v u x.d y.d s Q (λq=>R2.oo) ((h1.is λq=>R.oo).grow s2) (h2.is λq=>(R.grow s1).oo) e λw H3 s3 h3=>?_;exact k w H3 ((s1.trans s2).trans s3) (h3.from (s1.trans s2))
theorem dv(ho:n4 X (binaryOp op) g)(ha:EV X a fa)(hb:EV X b fb):EV X (.BinOp a op b pos) (ae g fa fb):=by obtain⟨r,hr,hg⟩:=ho;obtain⟨ta,pa,ka⟩:=ha;obtain⟨tb,pb,kb⟩:=hb;exact⟨_,IY hr pa pb,Tn hg ka kb⟩
theorem Sd(ho:n4 X (compareOp op) g)(ha:EV X a fa)(hb:EV X b fb)(hm:behindInMarks op b=false:=by exact W4 _):EV X (.Compare a [op] [b] pos) (ae g fa fb):=by obtain⟨r,hr,hg⟩:=ho;obtain⟨ta,pa,ka⟩:=ha;obtain⟨tb,pb,kb⟩:=hb;exact⟨_,b62 hr pa pb hm,Tn hg ka kb⟩
noncomputable def CZ:Option Sl->Option Bool
 |some (.sh (.bl b))=>some b
 |_=>none
theorem NK{b:Bool}(h:CZ o=some b):o=some (Sl.sh (.bl b)):=by
 cases o with
 |none=>cases h
 |some s=>cases s with
  |no=>cases h
  |ow ds=>cases h
  |dw ds=>cases h
  |tw _ _=>cases h
  |sh d=>cases d<;>cases h;rfl
noncomputable def bI(f:En->Option Sl):En->Option Bool:=λenv=>CZ (f env)
theorem Be{K:aG}{O:Addr->Prop}{H:Hp}{v:V}{b:Bool}(h:Is K O H v (.bl b)):v=.bl b:=by cases h;rfl
theorem nh{K:aG}{O:Addr->Prop}{H:Hp}{v:V}{b:Int}(h:Is K O H v (.int b)):v=.int b:=by cases h;rfl
theorem F3{K:aG}{O:Addr->Prop}{H:Hp}{v:V}(h:Is K O H v .dO):v=.dO:=by cases h;rfl
theorem lh{K:aG}{O:Addr->Prop}{H:Hp}{v:V}{b:Str}(h:Is K O H v (.str b)):v=.str b:=by cases h;rfl
theorem de(ho:n4 X (compareOp op) g)(ha:EV X a fa)(hb:EV X b fb)(hm:behindInMarks op b=false:=by exact W4 _):TV X (.Compare a [op] [b] pos) (bI (ae g fa fb)):=by obtain⟨r,hr,hg⟩:=ho;obtain⟨ta,pa,ka⟩:=ha;obtain⟨tb,pb,kb⟩:=hb;refine⟨_,b6V hr pa pb hm,λO B σ H env k Q R e q=>?_⟩;exact Tn hg ka kb O B σ H env _ _ R (NK e) λv H' s h=>⟨k,Be h,q H' s⟩
noncomputable def mh:D->Option Bool
 | .dO=>some false
 | .bl b=>some b
 | .int i=>some (i != 0)
 | .str y=>if y.length<=16777216 then some ((y.length:Int) != 0) else none
 | .tup ds=>some (!ds.isEmpty)
 | .lst _ ds=>some (!ds.isEmpty)
 | .exc _=>none
 | .vC _ _=>none
 | .obj _ _ _=>none
 | .yG _ _=>none
 | .BG _ _=>none
theorem aU.isEmpty{K:aG}{O:Addr->Prop}{H:Hp}{xs:List V}{ds:List D}(h:aU K O H xs ds):xs.isEmpty=ds.isEmpty:=by cases h<;>rfl
theorem b6F{K:aG}{O:Addr->Prop}{H:Hp}{v:V}{d:D}{b:Bool}(h:Is K O H v d)(e:mh d=some b):Gp K v H b:=by
 cases h with
 |dO=>cases e;rfl
 |bl b=>cases e;rfl
 |int i=>cases e;rfl
 |str x =>
  unfold mh at e;dsimp only at e;by_cases hl:x.length<=16777216;.rw [if_pos hl] at e;cases e;exact⟨by rw[kM];exact hl,rfl⟩
  .rw [if_neg hl] at e;cases e
 |tup ho hp hs=>cases e;exact .inr (.inl ⟨_,.inl hp,by rw[hs.isEmpty]⟩)
 |vf hp hs=>cases e;exact .inr (.inl ⟨_,NO hp,by rw[hs.isEmpty]⟩)
 |lst ho hp hs=>cases e;exact .inl ⟨_,.inl (.inl hp),by rw[hs.isEmpty]⟩
 |uH ho hp hs=>cases e;exact .inl ⟨_,.inl hp,by rw[hs.isEmpty]⟩
 |vg hp hs=>cases e;exact .inl ⟨_,NN hp,by rw[hs.isEmpty]⟩
 |exc ho hn hp=>cases e
 |vC ho hp=>cases e
 |obj=>cases e
 |yG=>cases e
 |BG=>cases e
 |Fv ho hp=>cases e
noncomputable def iB(f:En->Option Sl):En->Option Bool:=λenv=>(f env).bind λr=>mh r.d
theorem Bg(ha:EV X a fa)(he:autoParam (∀whole,isTrue a X.env whole=(do let v <-whole;standAt a.pos;holding [v] (truthy v))) ra3._auto_1):TV X a (iB fa):=by obtain⟨ta,pa,ka⟩:=ha;refine⟨_,b42 pa he,λO B σ H env k Q R e q=>?_⟩;obtain⟨r,e1,e2⟩:=bind_some e;exact ka O B σ H env r _ R e1 λv H' s h=>⟨k,b6F (h.is λq=>R.oo) e2,q H' s⟩
noncomputable def oH(f g:En->Option Bool):En->Option Bool:=λenv=>match f env with
 |some true=>g env
 |some false=>some false
 |none=>none
noncomputable def mi(f g:En->Option Bool):En->Option Bool:=λenv=>match f env with
 |some false=>g env
 |some true=>some true
 |none=>none
noncomputable def nR(f:En->Option Bool):En->Option Bool:=λenv=>(f env).map (!·)
variable {ga gb:En->Option Bool}{rest:List Expr}
theorem X2(ha:TV X a ga):WV X (.BoolOp .And [a] pos) ga:=let ⟨t,p,k⟩:=ha;⟨t,b6U p,k⟩
theorem Hh(ha:TV X a ga):WV X (.BoolOp .Or [a] pos) ga:=let ⟨t,p,k⟩:=ha;⟨t,b8Z p,k⟩
theorem Xf(ha:TV X a ga)(hb:WV X (.BoolOp .And (b::rest) pos) gb):WV X (.BoolOp .And (a::b::rest) pos) (oH ga gb):=by
 obtain⟨t,p,k⟩:=ha;obtain⟨u,p',k'⟩:=hb;refine⟨_,b80 p p',λO B σ H env d Q R e q=>?_⟩;unfold oH at e
 cases h:ga env with
 |none=>rw[h] at e;cases e
 |some x =>
  rw[h] at e;refine k O B σ H env x _ R h λH1 s1=>?_
  cases x with
  |true => rw[if_pos rfl];exact k' O B σ H1 env d Q (R.grow s1) e λH2 s2=>q H2 (s1.trans s2)
  |false => cases e;rw[if_neg zq];exact q H1 s1
theorem G6(ha:TV X a ga)(hb:WV X (.BoolOp .Or (b::rest) pos) gb):WV X (.BoolOp .Or (a::b::rest) pos) (mi ga gb):=by
 obtain⟨t,p,k⟩:=ha;obtain⟨u,p',k'⟩:=hb;refine⟨_,pw_or p p',λO B σ H env d Q R e q=>?_⟩;unfold mi at e
 cases h:ga env with
 |none=>rw[h] at e;cases e
 |some x =>
  rw[h] at e;refine k O B σ H env x _ R h λH1 s1=>?_
  cases x with
  |false => rw[if_neg zq];exact k' O B σ H1 env d Q (R.grow s1) e λH2 s2=>q H2 (s1.trans s2)
  |true => cases e;rw[if_pos rfl];exact q H1 s1
theorem qa(h:WV X a ga):TV X a ga:=let ⟨t,p,k⟩:=h;⟨t,p.pt,k⟩
theorem um(ha:TV X a ga):TV X (.UnaryOp .Not a pos) (nR ga):=by
 obtain⟨t,p,k⟩:=ha;refine⟨_,b81 p,λO B σ H env d Q R e q=>?_⟩;unfold nR at e
 cases h:ga env with
 |none=>rw[h] at e;cases e
 |some x => rw[h] at e;cases e;exact k O B σ H env x _ R h λH1 s1=>q H1 s1
noncomputable def Fp(f:En->Option Sl):En->Option Sl:=λenv=>(CZ (f env)).map λb=>.sh (.bl !b)
theorem b9L(ha:EV X a fa):EV X (.UnaryOp .Not a pos) (Fp fa):=by
 obtain⟨t,p,k⟩:=ha;refine⟨_,b87 p,λO B σ H env r Q R e q=>?_⟩;unfold Fp at e
 cases h:CZ (fa env) with
 |none=>rw[h] at e;cases e
 |some x => rw[h] at e;obtain rfl:=gY e;exact k O B σ H env _ _ R (NK h) λv H1 s1 r1=>⟨x,Be r1,q _ H1 s1 (Is.bl _)⟩
noncomputable def Fq(c:En->Option Bool)(f g:En->Option Sl):En->Option Sl:=λenv=>match c env with
 |some true=>f env
 |some false=>g env
 |none=>none
theorem RU(hc:TV X c ga)(ha:EV X a fa)(hb:EV X b fb):EV X (.IfExp c a b pos) (Fq ga fa fb):=by
 obtain⟨tc,pc,kc⟩:=hc;obtain⟨t,p,k⟩:=ha;obtain⟨u,p',k'⟩:=hb;refine⟨_,b49 pc p p',λO B σ H env r Q R e q=>?_⟩;unfold Fq at e
 cases h:ga env with
 |none=>rw[h] at e;cases e
 |some x =>
  rw[h] at e;refine kc O B σ H env x _ R h λH1 s1=>?_
  cases x with
  |true => rw[if_pos rfl];exact k O B σ H1 env r Q (R.grow s1) e λv2 H2 s2 r2=>q v2 H2 (s1.trans s2) (r2.from s1)
  |false => rw[if_neg zq];exact k' O B σ H1 env r Q (R.grow s1) e λv2 H2 s2 r2=>q v2 H2 (s1.trans s2) (r2.from s1)
variable {e:Expr}{es:List Expr}
noncomputable def ag:En->Option (List D):=λ_=>some []
noncomputable def ah(f:En->Option Sl)(g:En->Option (List D)):En->Option (List D):=λenv=>(f env).bind λr=>(g env).bind λds=>some (r.d::ds)
theorem bz:AV X [] ag:=⟨_,sG,λO B σ H env ds Q R e q=>by obtain rfl:=gY e;exact q [] H (az.refl _) .nil⟩
theorem av(ha:EV X e fe)(hb:AV X es fs)(hs:autoParam (starEach (e::es) X.env=(false,eval e X.env)::starEach es X.env) ra2._auto_1):AV X (e::es) (ah fe fs):=by obtain⟨t,p,k⟩:=ha;obtain⟨u,p',k'⟩:=hb;refine⟨_,lX p p' hs,λO B σ H env ds Q R e q=>?_⟩;obtain⟨r,e1,e2⟩:=bind_some e;obtain⟨ds',e4,e3⟩:=bind_some e2;obtain rfl:=gY e3;refine k O B σ H env r _ R e1 λv H1 s1 r1=>?_;refine k' O B σ H1 env ds' _ (R.grow s1) e4 λvs H2 s2 r2=>?_;exact q _ H2 (s1.trans s2) (.cons ((r1.is λq=>R.oo).grow s2) r2)
theorem Bq(h:H p=none)(o:HO):az H (upd H p o):=λb u q=>by rw[eX (oM q h)];exact q
noncomputable def pf(f:En->Option (List D)):En->Option Sl:=λenv=>(f env).bind λds=>if ds.length<=16777216 then some (.sh (.tup ds)) else none
noncomputable def bh(f:En->Option (List D)):En->Option Sl:=λenv=>(f env).bind λds=>if ds.length<=16777216 then some (.ow ds) else none
theorem jv{α:Type}{c:Prop}[Decidable c]{x y:α}(h:(if c then some x else none)=some y):c/\x=y:=by
 by_cases hc:c;.rw [if_pos hc] at h;exact⟨hc,gY h⟩
 .rw [if_neg hc] at h;cases h
theorem Le{K:aG}{O:Addr->Prop}{H:Hp}{p:Addr}{xs:List V}{ds:List D}(hO:∀q,O q->H q≠none)(hp:H p=none)(h:aU K O H xs ds):Res K O H (upd H p (.tup xs)) (.ref p) (.sh (.tup ds)):=
 Is.tup (λz=>hO p z hp) (.inl ni) (h.grow (Bq hp _))
theorem NC{K:aG}{O:Addr->Prop}{H:Hp}{p:Addr}{xs:List V}{ds:List D}(hp:H p=none)(h:aU K O H xs ds):Res K O H (upd H p (.lst xs)) (.ref p) (.ow ds):=
 ⟨p,xs,rfl,hp,ni,h.map (λq hq hn z=>z.elim hn λw=>hq (by rw[w];exact hp)) λq u e _=>Bq hp _ q u e⟩
theorem Se{x1}(h:AV X es fs):EV X (.Tuple es x1 pos) (pf fs):=by obtain⟨t,p,k⟩:=h;refine⟨_,Nj p,λO B σ H env r Q R e q=>?_⟩;obtain⟨ds,e1,e2⟩:=bind_some e;obtain⟨hl,rfl⟩:=jv e2;refine k O B σ H env ds _ R e1 λvs H1 s1 r1=>⟨by rw[r1.length,kM];exact hl,λp hp=>?_⟩;exact q _ _ (s1.trans (Bq hp _)) ((Le (O:=OO O σ env) (H:=H1) (λ_ z=>(R.grow s1).oo z) hp r1).from s1)
theorem gS(h:AV X es fs):EV X (.List es pos) (bh fs):=by obtain⟨t,p,k⟩:=h;refine⟨_,Xn p,λO B σ H env r Q R e q=>?_⟩;obtain⟨ds,e1,e2⟩:=bind_some e;obtain⟨hl,rfl⟩:=jv e2;refine k O B σ H env ds _ R e1 λvs H1 s1 r1=>⟨by rw[r1.length,kM];exact hl,λp hp=>?_⟩;exact q _ _ (s1.trans (Bq hp _)) ((NC hp r1).from s1)
noncomputable def gF(f:En->Option (Bool×List D))(g:En->Option Sl):En->Option Sl:=λenv=>(f env).bind λx=>(g env).bind λy=>match y.d with
 | .int i=>(nD x.2 i).map .sh
 |_=>none
theorem j7{fa:En->Option (Bool×List D)}(ha:BV X a fa)(hb:EV X b fb)(hs:SE b:=by exact λ_ _=>rfl):EV X (.Subscript a b pos) (gF fa fb):=by
 obtain⟨t,p,k⟩:=ha;obtain⟨u,p',k'⟩:=hb;refine⟨_,WI b9r p p' hs,λO B σ H env r Q R e q=>?_⟩;obtain⟨⟨kk,ds⟩,e1,e2⟩:=bind_some e;obtain⟨y,e2,e3⟩:=bind_some e2;refine k O B σ H env kk ds _ R e1 λl xs H1 s1 hq hx=>?_;refine k' O B σ H1 env y _ (R.grow s1) e2 λw H2 s2 r2=>?_;have hi:=r2.is λq=>(R.grow s1).oo
 cases hd:y.d with
 |int i =>
  rw[hd] at hi e3;obtain rfl:=nh hi;dsimp only at e3
  cases h:nD ds i with
  |none=>rw[h] at e3;cases e3
  |some d =>
   rw[h] at e3;obtain rfl:=gY e3;obtain⟨v,h1,h2⟩:=(hx.grow s2).nD h;have rX:=hq.grow s2;have fin:=q v H2 (s1.trans s2) h2
   cases kk with
   |true=>exact .inl ⟨l,xs,i,v,rfl,rfl,rX,h1,fin⟩
   |false=>exact .inr (.inl ⟨l,xs,i,v,rfl,rfl,rX,h1,fin⟩)
 |_=>rw[hd] at e3;cases e3
end
noncomputable def LIM:Int:=10^250
theorem b7g(h1:-LIM<=j)(h2:j<=LIM):j.natAbs<2^900:=by
 have e:LIM<(2:Int)^900:=by unfold LIM;decide +kernel
 have e2:((2:Int)^900)=((2^900:Nat):Int):=by simp
 generalize (2^900:Nat)=m at *;generalize LIM=l at *;omega
theorem XM(h1:-LIM<=j)(h2:j<=LIM):j.natAbs.log2<900:=by
 rcases Nat.eq_zero_or_pos j.natAbs with h0|hp;.rw [h0];decide
 .exact (Q0 (Nat.ne_of_gt hp)).mpr (b7g h1 h2)
theorem Ye(h1:-LIM<=j)(h2:j<=LIM):V2 j<=900:=by have:=XM h1 h2;unfold V2;split<;>omega
def MulC(i j:Int):Prop:=(-(2^64)<i/\i<2^64)\/(-(2^64)<j/\j<2^64)\/((-LIM<=i/\i<=LIM)/\(-LIM<=j/\j<=LIM))
noncomputable instance (i j:Int):Decidable (MulC i j):=by unfold MulC;infer_instance
theorem MulC.ok(h:MulC i j):IntMulOk i j:=by
 rcases h with⟨h1,h2⟩|⟨h1,h2⟩|⟨⟨h1,h2⟩,h3,h4⟩;.exact .of_left (intBits_le_64 h1 h2)
 .exact .of_right (intBits_le_64 h1 h2)
 .exact mulOk_of_bits (Ye h1 h2) (Ye h3 h4) (by decide)
def DivC(_ j:Int):Prop:=0<j/\j<=LIM
noncomputable instance (i j:Int):Decidable (DivC i j):=by unfold DivC;infer_instance
def Dx(_ j:Int):Prop:=0<j
noncomputable instance (i j:Int):Decidable (Dx i j):=by unfold Dx;infer_instance
def PowC(i j:Int):Prop:=0<=j/\j<=1000000/\i.natAbs<2^64
noncomputable instance (i j:Int):Decidable (PowC i j):=by unfold PowC;infer_instance
noncomputable def gI(C:Int->Int->Prop)[∀i j,Decidable (C i j)](h:Int->Int->Int):D->D->Option Sl
 | .int i,.int j=>if C i j then some (.sh (.int (h i j))) else none
 |_,_=>none
noncomputable def gB(h:Int->Int->Bool):D->D->Option Sl
 | .int i,.int j=>some (.sh (.bl (h i j)))
 |_,_=>none
section
variable {X:Cx}
theorem KQ{f:Value->Value->Sem Value}{C:Int->Int->Prop}[∀i j,Decidable (C i j)]{h:Int->Int->Int}(ho:lO X f (rI C λi j=>.int (h i j))):n4 X f (gI C h):=by
 refine⟨_,ho,λO H x y a b s Q hO hx hy e q=>?_⟩
 cases a with
 |int i=>cases b with
  |int j => obtain⟨hc,rfl⟩:=jv (show (if C i j then some (Sl.sh (.int (h i j))) else none)=some s from e);exact⟨i,j,nh hx,nh hy,hc,q _ H (az.refl _) (Is.int _)⟩
  |_=>cases e
 |_=>cases e
theorem Sa(ho:lO X f (EK λi j=>.bl (h i j))):n4 X f (gB h):=by
 refine⟨_,ho,λO H x y a b s Q hO hx hy e q=>?_⟩
 cases a with
 |int i=>cases b with
  |int j => obtain rfl:=gY (show some (Sl.sh (.bl (h i j)))=some s from e);exact⟨i,j,nh hx,nh hy,q _ H (az.refl _) (Is.bl _)⟩
  |_=>cases e
 |_=>cases e
noncomputable def lF:D->D->Option Sl:=gI MulC λi j=>i*j
noncomputable def Fg:D->D->Option Sl:=gI DivC λi j=>i/j
noncomputable def o8:D->D->Option Sl:=gI Dx λi j=>i%j
noncomputable def CC:D->D->Option Sl:=gI PowC λi j=>i^j.toNat
noncomputable def AD:D->D->Option Sl:=gI (λ_ _=>True) λi j=>i-j
noncomputable def AE:D->D->Option Sl:=gB λi j=>decide (i<j)
noncomputable def r6:D->D->Option Sl:=gB λi j=>decide (i<=j)
noncomputable def DR:D->D->Option Sl:=gB λi j=>decide (j<i)
noncomputable def gGe:D->D->Option Sl:=gB λi j=>decide (j<=i)
theorem He:n4 X (binaryOp .Mult) lF:=KQ (Jc λ_ _ _ _ _ _ _ (hc:MulC _ _) q=>mul_int q hc.ok)
theorem b9g:n4 X (binaryOp .FloorDiv) Fg:=KQ (Jc λi j _ _ _ _ _ (hc:DivC i j) q=>by have h1:(0:Int)<j:=hc.1;have h2:=XM (j:=j) (by have:(0:Int)<=LIM:=(by decide +kernel);omega) hc.2;exact floordiv_int (by omega) (by rw[Int.fdiv_eq_ediv_of_nonneg i (by omega)];exact q) (.inl (PyProof.noPylong_of_log2 (by omega))))
theorem Ni:n4 X (binaryOp .Mod) o8:=KQ (Jc λi j _ _ _ _ _ (hc:Dx i j) q=>by have h1:(0:Int)<j:=hc;exact mod_int' (by omega) (by rw[Int.fmod_eq_emod_of_nonneg i (by omega)];exact q))
theorem Xm:n4 X (binaryOp .Pow) CC:=KQ (Jc λ_ _ _ _ _ _ _ (hc:PowC _ _) q=>pow_int_small hc.1 hc.2.1 hc.2.2 q)
theorem b9f:n4 X (binaryOp .Sub) AD:=KQ (Jc λ_ _ _ _ _ _ _ _ q=>sub_int q)
theorem C3:n4 X (compareOp .Lt) AE:=Sa I9
theorem BM:n4 X (compareOp .LtE) r6:=Sa Ja
theorem FV:n4 X (compareOp .Gt) DR:=Sa Jb
noncomputable def aD:D->D->Option Sl
 | .int i,.int j=>some (.sh (.int (i+j)))
 | .lst false a,.lst false b=>if a.length+b.length<=16777216 then some (.ow (a++b)) else none
 | .tup a,.tup b=>if a.length+b.length<=16777216 then some (.sh (.tup (a++b))) else none
 | .str a,.str b=>if a.length+b.length<=16777216 then some (.sh (.str (a++b))) else none
 |_,_=>none
theorem Nd{K:aG}{O:Addr->Prop}{H:Hp}{v:V}{ds:List D}(h:Is K O H v (.tup ds)):∃p xs,v=.ref p/\ll K H p xs/\aU K O H xs ds:=by obtain⟨p,xs,e,h1,h2⟩:=h.seq (k:=false) rfl;exact⟨p,xs,e,h1,h2⟩
theorem W0{K:aG}{O:Addr->Prop}{H:Hp}{v:V}{ds:List D}(h:Is K O H v (.lst false ds)):∃p xs,v=.ref p/\¬O p/\H p=some (.lst xs)/\aU K O H xs ds:=by
 cases h with
 |lst ho hp hs=>exact⟨_,_,rfl,ho,hp,hs⟩
theorem aU.iZ{K:aG}{O:Addr->Prop}{H:Hp}{xs:List V}{ds:List D}(h:aU K O H xs ds):xs=[]↔ds=[]:=by cases h<;>simp
theorem b3R{α:Type}{c:Prop}{d:Decidable c}{x y:α}(h:(@ite _ c d (some x) none)=some y):c/\x=y:=jv h
theorem eI:n4 X (binaryOp .Add) aD:=by
 refine⟨_,EM.or (EL.or (Cj.or (rR.or b67))),λO H x y a b s Q hO hx hy e q=>?_⟩
 cases a with
 |int i=>cases b with
  |int j => obtain rfl:=gY (show some (Sl.sh (.int (i+j)))=some s from e);exact .inl ⟨i,j,nh hx,nh hy,q _ H (az.refl _) (Is.int _)⟩
  |_=>cases e
 |lst r a=>cases r with
  |true=>cases b<;>cases e
  |false=>cases b with
   |lst r b=>cases r with
    |true=>cases e
    |false => obtain⟨hl,rfl⟩:=jv (show (if a.length+b.length<=16777216 then some (Sl.ow (a++b)) else none)=some s from e);obtain⟨p1,xs,rfl,_,h1,i1⟩:=W0 hx;obtain⟨p2,ys,rfl,_,h2,i2⟩:=W0 hy;exact .inr (.inl ⟨p1,p2,xs,ys,rfl,rfl,h1,h2,by rw[i1.length,i2.length,kM];exact hl,λp hp=>q _ _ (Bq hp _) (NC hp (i1.append i2))⟩)
   |_=>cases e
 |tup a=>cases b with
  |tup b =>
   obtain⟨hl,rfl⟩:=b3R (show (if a.length+b.length<=16777216 then some (Sl.sh (.tup (a++b))) else none)=some s from e);obtain⟨p1,xs,rfl,h1,i1⟩:=Nd hx;obtain⟨p2,ys,rfl,h2,i2⟩:=Nd hy;by_cases h0:a=[];.subst h0;cases i1;exact .inr (.inr (.inr (.inr ⟨p1,p2,ys,rfl,rfl,h1,h2,q _ H (az.refl _) hy⟩)))
   refine .inr (.inr (.inl ⟨p1,p2,xs,ys,rfl,rfl,h1,h2,λz=>h0 (i1.iZ.mp z),by rw[i1.length,i2.length,kM];exact hl,λz=>?_,λz p hp=>q _ _ (Bq hp _) (Le hO hp (i1.append i2))⟩));have z':=i2.iZ.mp z;subst z';rw[qJ] at q;exact q _ H (az.refl _) hx
  |_=>cases e
 |str a=>cases b with
  |str b => obtain⟨hl,rfl⟩:=jv (show (if a.length+b.length<=16777216 then some (Sl.sh (.str (a++b))) else none)=some s from e);exact .inr (.inr (.inr (.inl ⟨a,b,lh hx,lh hy,by rw[kM];exact hl,q _ H (az.refl _) (Is.str _)⟩)))
  |_=>cases e
 |_=>cases e
theorem map_some{α β:Type}{o:Option α}{f:α->β}{b:β}(h:o.map f=some b):∃a,o=some a/\f a=b:=by
 cases o with
 |none=>cases h
 |some a=>exact⟨a,rfl,gY h⟩
noncomputable def D.oy:D->Bool
 | .dO=>true
 |_=>false
end
section
variable {X:Cx}{a b c:Expr}{pos p:Pos}{fa fb:En->Option Sl}{es:List Expr}{e:Expr}
noncomputable def iU(f:En->Option (Bool×List D)):En->Option Sl:=λenv=>(f env).map λx=>.sh (.int x.2.length)
variable {ba:En->Option (Bool×List D)}
theorem D7(hg:Gl X "len")(hm:X.mg "len" = none)(ha:BV X a ba)(hs:autoParam (starEach [a] X.env=[(false,eval a X.env)]) ra2._auto_1):EV X (.Call (.Name "len" p) [a] [] pos) (iU ba):=by
 obtain⟨t,pt,k⟩:=ha;refine⟨_,Lo b0B hg hm PySem.boot_len (lX pt sG hs) (by decide) (by decide) hs rfl,λO B σ H env s Q R e q=>?_⟩;obtain⟨⟨kk,ds⟩,e1,rfl⟩:=map_some e;refine k O B σ H env kk ds _ R e1 λl xs H1 s1 hq hx=>⟨l,xs,rfl,?_,?_⟩
 .cases kk with
  |true=>exact .inl hq
  |false=>exact .inr hq
 .rw [hx.length];exact q _ H1 s1 (Is.int _)
end
section
variable {K:aG}{O:Addr->Prop}{B H H1:Hp}{σ:L2.St}{env:En}{v:V}{r:Sl}{i:Nat}
theorem b65(h:lN (σ.set i (some v)) (env.set i r) q):lN σ env q\/(r.own/\v=.ref q):=by
 obtain⟨j,t,h1,ho,h2⟩:=h;by_cases hj:i=j
 .subst hj;rw[Rg] at h1 h2;rw[if_pos rfl] at h1 h2;split at h1
  .cases h1;split at h2;.cases h2;exact .inr ⟨ho,rfl⟩
   .cases h2
  .cases h1
 .rw [gG hj] at h1 h2;exact .inl ⟨j,t,h1,ho,h2⟩
theorem Res.fresh(h:Res K O B H v r)(ho:r.own):∃p,v=.ref p/\B p=none/\H p≠none:=by
 cases r with
 |no=>exact ho.elim
 |sh d=>exact ho.elim
 |ow ds=>obtain⟨p,xs,e1,e2,e3,_⟩:=h;exact⟨p,e1,e2,by rw[e3];exact λz=>nomatch z⟩
 |dw dz=>obtain⟨p,e1,e2,e3⟩:=h;exact⟨p,e1,e2,by rw[e3];exact λz=>nomatch z⟩
 |tw ks ds=>obtain⟨p,vs,e1,e2,e3,_⟩:=h;exact⟨p,e1,e2,by rw[e3];exact λz=>nomatch z⟩
theorem Rel.set(R:Rel K O B σ H env)(s:az H H1)(h:Res K (OO O σ env) H H1 v r)(hi:i<env.length):
  Rel K O B (σ.set i (some v)) H1 (env.set i r)/\Gd σ env H (σ.set i (some v)) (env.set i r) H1:=by
 have new:∀q,lN (σ.set i (some v)) (env.set i r) q->lN σ env q\/(H q=none/\r.own/\v=.ref q):=λq z=>by
  rcases b65 z with z|⟨ho,rfl⟩;.exact .inl z
  .obtain ⟨p,e1,e2,_⟩:=h.fresh ho;cases e1;exact .inr ⟨e2,ho,rfl⟩
 have hO:∀q,H q≠none->¬OO O σ env q->¬OO O (σ.set i (some v)) (env.set i r) q:=λq hq hn z=>by
  rcases z with z|z;.exact hn (.inl z)
  .rcases new q z with z | ⟨z,_⟩;.exact hn (.inr z)
   .exact hq z
 have hH:∀q u,H q=some u->¬OO O σ env q->H1 q=some u:=λq u e _=>s q u e;have GB:i<σ.length:=by rw[R.len];exact hi
 refine⟨⟨R.same.trans s,R.mR,by simp[R.len],λj d e=>?_,λj ds e=>?_,λj dz e=>?_,λj ks ds e=>?_,λj k ds es p e1 e2 e3 e4 o1 o2=>?_⟩,λq u e n=>⟨s q u e,λz=>?_⟩⟩
 .by_cases hj:i=j
  .subst hj;rw[lg hi] at e;cases e;refine⟨v,by rw[lg GB],Is.less (O:=OO O σ env) (λq z=>z.elim .inl λz=>?_) h⟩;rcases new q z with z | ⟨_,z,_⟩;.exact .inr z
   .exact z.elim
  .rw [gG hj] at e;obtain⟨w,e1,h1⟩:=R.sh j d e;exact⟨w,by rw[gG hj];exact e1,h1.map hO hH⟩
 .by_cases hj:i=j
  .subst hj;rw[lg hi] at e;cases e;obtain⟨p,xs,rfl,e2,e3,h1⟩:=h;refine⟨p,xs,by rw[lg GB],R.same.free e2,e3,h1.less λq z=>?_⟩;rcases z with z | z;.exact .inl (.inl z)
   .rcases new q z with z | ⟨_,_,z⟩;.exact .inl (.inr z)
    .cases z;exact .inr rfl
  .rw [gG hj] at e;obtain⟨p,xs,e1,e2,e3,h1⟩:=R.ow j ds e;exact⟨p,xs,by rw[gG hj];exact e1,e2,s _ _ e3,h1.map hO hH⟩
 .by_cases hj:i=j;.subst hj;rw[lg hi] at e;cases e;obtain⟨p,rfl,e2,e3⟩:=h;exact⟨p,by rw[lg GB],R.same.free e2,e3⟩
  .rw [gG hj] at e;obtain⟨p,e1,e2,e3⟩:=R.dw j dz e;exact⟨p,by rw[gG hj];exact e1,e2,s _ _ e3⟩
 .by_cases hj:i=j
  .subst hj;rw[lg hi] at e;cases e;obtain⟨p,vs,rfl,e2,e3,e4,h1⟩:=h;refine⟨p,vs,by rw[lg GB],R.same.free e2,e3,e4,h1.less λq z=>?_⟩;rcases z with z | z;.exact .inl (.inl z)
   .rcases new q z with z | ⟨_,_,z⟩;.exact .inl (.inr z)
    .cases z;exact .inr rfl
  .rw [gG hj] at e;obtain⟨p,vs,e1,e2,e3,e4,h1⟩:=R.tw j ks ds e;exact⟨p,vs,by rw[gG hj];exact e1,e2,s _ _ e3,e4,h1.map hO hH⟩
 .have other:∀j t,j≠i->env[j]?=some t->t.own->σ[j]?=some (some (V.ref p))->r.own->v≠.ref p:=λj t hj e ho e' hr z=>by obtain⟨p',rfl,e2,_⟩:=h.fresh hr;cases z;obtain⟨p2,u,e5,_,e6⟩:=R.ad e ho;rw[e'] at e5;cases e5;rw[e2] at e6;cases e6
  by_cases hj:i=j
  .by_cases hk:i=k;.rw [<-hj,<-hk]
   .subst hj;rw[lg hi] at e1;rw[lg GB] at e3;rw[gG hk] at e2 e4;cases e1;cases e3;exact absurd rfl (other k es (pD hk) e2 o2 e4 o1)
  .by_cases hk:i=k;.subst hk;rw[lg hi] at e2;rw[lg GB] at e4;rw[gG hj] at e1 e3;cases e2;cases e4;exact absurd rfl (other j ds (pD hj) e1 o1 e3 o2)
   .rw [gG hj] at e1 e3;rw[gG hk] at e2 e4;exact R.sep j k ds es p e1 e2 e3 e4 o1 o2
 .rcases new q z with z | ⟨z,_⟩;.exact n z
  .rw [e] at z;cases z
theorem Rel.wrG{p:Addr}{u':HO}{t t':Sl}(R:Rel K O B σ H env)(he:env[i]?=some t)(ho:t.own)(lS:t'.own)(hs:σ[i]?=some (some (V.ref p)))
  (hx:(∀ds',t'=.ow ds'->∃Dz,u'=.lst Dz/\aU K (OO O σ env) H Dz ds')/\(∀Jw,t'=.dw Jw->u'=QU Jw)/\∀Qa ds',t'=.tw Qa ds'->∃Ia,u'=Kj Qa Ia/\Qa.length=Ia.length/\aU K (OO O σ env) H Ia ds'):
  Rel K O B σ (upd H p u') (env.set i t')/\Gd σ env H σ (env.set i t') (upd H p u'):=by
 have hi:i<env.length:=(oE.mp he).1
 have own:∀q,lN σ (env.set i t') q->lN σ env q:=λq ⟨j,es,e1,e3,e2⟩=>by
  by_cases hj:i=j;.subst hj;exact⟨i,t,he,ho,e2⟩
  .rw [gG hj] at e1;exact⟨j,es,e1,e3,e2⟩
 have I0:lN σ env p:=⟨i,t,he,ho,hs⟩;obtain⟨p0,u0,f1,f2,f3⟩:=R.ad he ho;rw[hs] at f1;cases f1;have hO:∀q,H q≠none->¬OO O σ env q->¬OO O σ (env.set i t') q:=λq _ hn z=>hn (z.elim .inl λz=>.inr (own q z));have hH:∀q u,H q=some u->¬OO O σ env q->upd H p u' q=some u:=λq u e n=>by rw[eX (λz=>n (.inr (by rw[z];exact I0)))];exact e
 refine⟨⟨λq u e=>?_,R.mR,by simp[R.len],λj d e=>?_,λj es e=>?_,λj dz e=>?_,λj ks es e=>?_,λj k es fs q e1 e2 e3 e4 o1 o2=>?_⟩,λq u e n=>⟨?_,λz=>n (own q z)⟩⟩;.rw [eX (oM e f2)];exact R.same q u e
 .by_cases hj:i=j;.subst hj;rw[lg hi] at e;cases e;exact lS.elim
  .rw [gG hj] at e;obtain⟨w,e1,h1⟩:=R.sh j d e;exact⟨w,e1,h1.map hO hH⟩
 .by_cases hj:i=j;.subst hj;rw[lg hi] at e;cases e;obtain⟨Dz,hu,BE⟩:=hx.1 _ rfl;exact⟨p,Dz,hs,f2,by rw[ni,hu],BE.map hO hH⟩
  .rw [gG hj] at e;obtain⟨p2,O5,e1,e2,e3,h1⟩:=R.ow j es e;refine⟨p2,O5,e1,e2,?_,h1.map hO hH⟩;rw[eX (λz=>hj (R.sep i j t _ p he e hs (by rw[e1,z]) ho trivial))];exact e3
 .by_cases hj:i=j;.subst hj;rw[lg hi] at e;cases e;exact⟨p,hs,f2,by rw[ni,hx.2.1 _ rfl]⟩
  .rw [gG hj] at e;obtain⟨p2,e1,e2,e3⟩:=R.dw j dz e;refine⟨p2,e1,e2,?_⟩;rw[eX (λz=>hj (R.sep i j t _ p he e hs (by rw[e1,z]) ho trivial))];exact e3
 .by_cases hj:i=j;.subst hj;rw[lg hi] at e;cases e;obtain⟨Ia,hu,hl,BE⟩:=hx.2.2 _ _ rfl;exact⟨p,Ia,hs,f2,by rw[ni,hu],hl,BE.map hO hH⟩
  .rw [gG hj] at e;obtain⟨p2,O5,e1,e2,e3,e4,h1⟩:=R.tw j ks es e;refine⟨p2,O5,e1,e2,?_,e4,h1.map hO hH⟩;rw[eX (λz=>hj (R.sep i j t _ p he e hs (by rw[e1,z]) ho trivial))];exact e3
 .have fix:∀(j:Nat) (es:Sl),(env.set i t')[j]?=some es->es.own->∃gs:Sl,env[j]?=some gs/\gs.own:=λj es e o=>by
   by_cases hj:i=j;.subst hj;exact⟨t,he,ho⟩
   .rw [gG hj] at e;exact⟨es,e,o⟩
  obtain⟨g1,h1,q1⟩:=fix j es e1 o1;obtain⟨g2,h2,q2⟩:=fix k fs e2 o2;exact R.sep j k g1 g2 q h1 h2 e3 e4 q1 q2
 .rw [eX (λz=>n (by rw[z];exact I0))];exact e
theorem Rel.wr(R:Rel K O B σ H env)(he:env[i]?=some (Sl.ow ds))(hs:σ[i]?=some (some (V.ref p)))(hx:aU K (OO O σ env) H Dz ds'):
  Rel K O B σ (upd H p (.lst Dz)) (env.set i (.ow ds'))/\Gd σ env H σ (env.set i (.ow ds')) (upd H p (.lst Dz)):=
 R.wrG (t':=.ow ds') he trivial trivial hs ⟨λ_ e=>by cases e;exact⟨Dz,rfl,hx⟩,λ_ e=>(nomatch e),λ_ _ e=>(nomatch e)⟩
end
section
variable {X:Cx}{st:Stmt}{rest:List Stmt}{F G:SF}{a b c e:Expr}{fa:En->Option Sl}{ga:En->Option Bool}{pos:Pos}
noncomputable def lq:SF:=λenv=>some (.nx,env)
noncomputable def a9(F G:SF):SF:=λenv=>match F env with
 |some (.nx,env1)=>G env1
 |r=>r
theorem wD:qX X [] lq:=⟨_,Li,λO B σ H env fl af D R e q=>by cases (show some (Fl.nx,env)=some (fl,af) from e);exact q σ H R (Gd.refl (az.refl _))⟩
theorem gh(h:SV X st F):qX X [st] F:=let ⟨t,p,k⟩:=h;⟨t,NH p,k⟩
theorem gH(h:SV X st F)(h2:qX X rest G):qX X (st::rest) (a9 F G):=by
 obtain⟨t,p,k⟩:=h;obtain⟨u,p',k'⟩:=h2;refine⟨_,Bn p p',λO B σ H env fl af D R e q=>?_⟩;unfold a9 at e
 cases hF:F env with
 |none=>rw[hF] at e;cases e
 |some x =>
  obtain⟨f1,env1⟩:=x;rw[hF] at e;refine k O B σ H env f1 env1 _ R hF ?_
  cases f1 with
  |nx=>exact λaH H' R' g'=>k' O B aH H' env1 fl af D R' e (q.from g')
  |bk=>cases e;exact q
  |ct=>cases e;exact q
  |rt r=>cases e;exact q
noncomputable def kC(c:En->Option Bool)(F G:SF):SF:=λenv=>match c env with
 |some true=>F env
 |some false=>G env
 |none=>none
theorem wx(hc:TV X c ga)(ha:qX X sa F)(hb:qX X sb G):SV X (.If c sa sb pos) (kC ga F G):=by
 obtain⟨tc,pc,kc⟩:=hc;obtain⟨t,p,k⟩:=ha;obtain⟨u,p',k'⟩:=hb;refine⟨_,M6 pc p p',λO B σ H env fl af D R e q=>?_⟩;unfold kC at e
 cases h:ga env with
 |none=>rw[h] at e;cases e
 |some x =>
  rw[h] at e;refine kc O B σ H env x _ R h λH1 s1=>?_
  cases x with
  |true => rw[if_pos rfl];exact k O B σ H1 env fl af D (R.grow s1) e (q.from (Gd.refl s1))
  |false => rw[if_neg zq];exact k' O B σ H1 env fl af D (R.grow s1) e (q.from (Gd.refl s1))
noncomputable def bZ(f:En->Option Sl):SF:=λenv=>(f env).map λr=>(.rt r,env)
theorem hV(h:EV X e fa):SV X (.Return (some e) pos) (bZ fa):=by obtain⟨t,p,k⟩:=h;refine⟨_,La p,λO B σ H env fl af D R e q=>?_⟩;obtain⟨r,e1,e2⟩:=map_some e;cases e2;exact k O B σ H env r _ R e1 λv H1 s1 r1=>q v H1 (R.same.trans s1) ((r1.from R.same).less λq z=>.inl z)
noncomputable def IE(i:Nat)(f:En->Option Sl):SF:=λenv=>(f env).bind λr=>if i<env.length then some (.nx,env.set i r) else none
noncomputable def fD(i:Nat)(f:En->Option Sl):SF:=λenv=>(f env).bind λr=>if i<env.length then some (.nx,env.set i (.sh r.d)) else none
theorem X3(hN:X.N.Nodup)(hi:X.N[i]?=some x)(hx:Loc X.env.scope x)(he:EV X e fa)(hs:autoParam (swapsWith e (some (.Name x pos')) pos.line X.env=pure false) ra2._auto_1)(hf:autoParam (X.fn x=true\/X.env.scope.names.lookup x=some .local) ra0._auto_1):
  SV X (.Assign [.Name x pos'] e pos) (fD i fa):=by obtain⟨t,p,k⟩:=he;refine⟨_,F0 hN hi hx p hs hf,λO B σ H env fl af D R e q=>?_⟩;obtain⟨r,e1,e2⟩:=bind_some e;obtain⟨hl,e3⟩:=jv e2;cases e3;refine k O B σ H env r _ R e1 λv H1 s1 r1=>?_;obtain⟨R',g'⟩:=R.set (r:=.sh r.d) s1 (r1.is λq=>R.oo) hl;exact q _ H1 R' g'
noncomputable def jy(i:Nat)(f:En->Option Sl):SF:=λenv=>match env[i]? with
 |some (.ow ds)=>(f env).bind λr=>if ds.length<16777216 then some (.nx,env.set i (.ow (ds++[r.d]))) else none
 |_=>none
end
section
variable {X:Cx}{st:Stmt}{F:SF}{a b c e tg it:Expr}{fa:En->Option Sl}{ba:En->Option (Bool×List D)}{ga:En->Option Bool}{pos:Pos}
noncomputable abbrev GF:=D->En->Option En
inductive GV (X:Cx) (tg:Expr) (g:GF):Prop
 | mk (t:TG) (p:PG X tg t) (k:∀(O:Addr->Prop) (B:Hp) (σ:L2.St) (H:Hp) (env af:En) (v:V) (d:D) (Q:L2.St->Hp->Prop),Rel X.K O B σ H env->Is X.K (OO O σ env) H v d->g d env=some af ->
  (∀aH H',Rel X.K O B aH H' af->Gd σ env H aH af H'->Q aH H')->t v σ H Q)
noncomputable def gN(i:Nat):GF:=λd env=>if i<env.length then some (env.set i (.sh d)) else none
theorem b7w(hN:X.N.Nodup)(hi:X.N[i]?=some x)(hx:Loc X.env.scope x)(hf:autoParam (X.fn x=true\/X.env.scope.names.lookup x=some .local) ra0._auto_1):GV X (.Name x pos) (gN i):=by refine⟨_,b61 hN hi hx hf,λO B σ H env af v d Q R h e q=>?_⟩;obtain⟨hl,rfl⟩:=jv e;obtain⟨R',g'⟩:=R.set (r:=.sh d) (az.refl _) h hl;exact q _ H R' g'
noncomputable abbrev Gs:=List D->En->Option En
inductive OW (X:Cx) (tg:List Expr) (g:Gs):Prop
 | mk (t:Er) (p:LO X tg t) (k:∀(O:Addr->Prop) (B:Hp) (σ:L2.St) (H:Hp) (env af:En) (v:List V) (d:List D) (Q:L2.St->Hp->Prop),Rel X.K O B σ H env->aU X.K (OO O σ env) H v d->g d env=some af ->
  (∀aH H',Rel X.K O B aH H' af->Gd σ env H aH af H'->Q aH H')->t v σ H Q)
noncomputable def G8:Gs:=λds env=>match ds with
 |[]=>some env
 |_::_=>none
noncomputable def BO(g:GF)(u:Gs):Gs:=λds env=>match ds with
 |d::r=>(g d env).bind (u r)
 |[]=>none
theorem SR:OW X [] G8:=by
 refine⟨_,b60,λO B σ H env af v d Q R h e q=>?_⟩
 cases h with
 |nil=>cases e;exact⟨rfl,q σ H R (Gd.refl (az.refl _))⟩
 |cons _ _=>cases e
theorem Gd.Jz{K:aG}{O:Addr->Prop}{σ aH:L2.St}{env af:En}{H H':Hp}(g:Gd σ env H aH af H'){v:List V}{d:List D}(h:aU K (OO O σ env) H v d):aU K (OO O aH af) H' v d:=
 h.map (λq hq hn z=>by
  cases e:H q with
  |none=>exact hq e
  |some u => obtain⟨_,n'⟩:=g q u e λw=>hn (.inr w);exact z.elim (λw=>hn (.inl w)) n') λq u e n=>(g q u e λw=>n (.inr w)).1
theorem Hq{es:List Expr}{g:GF}{u:Gs}(h1:GV X e g)(h2:OW X es u)
  (hs:autoParam ((assignEach (e::es) X.env).map (·.2)=assign e X.env::(assignEach es X.env).map (·.2)) ra2._auto_1):OW X (e::es) (BO g u):=by
 obtain⟨t,p,k⟩:=h1;obtain⟨t',p',k'⟩:=h2;refine⟨_,b47 p p' hs,λO B σ H env af v d Q R h e q=>?_⟩
 cases h with
 |nil=>cases e
 |cons h ht => obtain⟨env1,e1,e2⟩:=bind_some (show (g _ env).bind (u _)=some af from e);refine⟨_,_,rfl,k O B σ H env env1 _ _ _ R h e1 λjw H1 R1 g1=>?_⟩;exact k' O B jw H1 env1 af _ _ Q R1 (g1.Jz ht) e2 λft H2 R2 g2=>q ft H2 R2 (g1.trans g2)
noncomputable def gT(n:Nat)(u:Gs):GF:=λd env=>match d with
 | .tup ds=>if ds.length=n then u ds env else none
 |_=>none
theorem Sw{es:List Expr}{k n:Nat}{u:Gs}(hc:X.calm=true)(h:OW X es u)(hn:autoParam ((assignEach es X.env).length=n) ra2._auto_1)(jB:autoParam ((assignEach es X.env).findIdx? (·.1)=none) ra2._auto_1):GV X (.Tuple es k pos) (gT n u):=by
 obtain⟨t,p,k'⟩:=h;refine⟨_,b85 hc p hn jB,λO B σ H env af v d Q R h e q=>?_⟩
 cases d with
 |tup ds =>
  have e':(if ds.length=n then u ds env else none)=some af:=e;by_cases hl:ds.length=n;.rw [if_pos hl] at e';obtain⟨a,xs,rfl,h1,h2⟩:=Nd h;exact⟨a,xs,rfl,h1,by rw[h2.length];exact hl,k' O B σ H env af xs ds Q R h2 e' q⟩
  .rw [if_neg hl] at e';cases e'
 |_=>cases e
noncomputable def forL(g:GF)(F:SF):List D->SF
 |[],env=>some (.nx,env)
 |d::ds,env=>match g d env with
  |none=>none
  |some env1=>match F env1 with
   |some (.nx,cC)=>forL g F ds cC
   |some (.ct,cC)=>forL g F ds cC
   |some (.bk,cC)=>some (.nx,cC)
   |some (.rt r,cC)=>some (.rt r,cC)
   |none=>none
structure Left(K:aG)(O:Addr->Prop)(B:Hp)(sR:L2.St)(H0:Hp)(ig:En)(g:GF)(F:SF)(ds:List D)(fl:Fl)(af:En)(i:Nat)(σ:L2.St)(H:Hp):Prop where
 ex:∃env,Rel K O B σ H env/\Gd sR ig H0 σ env H/\forL g F (ds.drop i) env=some (fl,af)
theorem S'{g:GF}{DB:TG}{tb:TS}{O:Addr->Prop}{B:Hp}{sR:L2.St}{H0:Hp}{ig af:En}{fl:Fl}{D:Ends}{ds:List DL.D}{xs:List V}{i:Nat}{x:V}{σ:L2.St}{H:Hp}
  (kg:∀(O:Addr->Prop) (B:Hp) (σ:L2.St) (H:Hp) (env af:En) (v:V) (d:DL.D) (Q:L2.St->Hp->Prop),Rel X.K O B σ H env->Is X.K (OO O σ env) H v d->g d env=some af ->
   (∀aH H',Rel X.K O B aH H' af->Gd σ env H aH af H'->Q aH H')->DB v σ H Q)
  (kb:∀(O:Addr->Prop) (B:Hp) (σ:L2.St) (H:Hp) (env:En) (fl:Fl) (af:En) (D:Ends),Rel X.K O B σ H env->F env=some (fl,af)->gK X.K O B σ H env D fl af->tb D σ H)
  (hx:aU X.K (OO O sR ig) H0 xs ds)(hi:xs[i]?=some x)(q:gK X.K O B sR H0 ig D fl af)(h:Left X.K O B sR H0 ig g F ds fl af i σ H):
  DB x σ H λft H2=>tb { D with nx:=Left X.K O B sR H0 ig g F ds fl af (i+1),ct:=Left X.K O B sR H0 ig g F ds fl af (i+1),bk:=D.nx } ft H2:=by
 obtain⟨env,R,gd,e⟩:=h;obtain⟨d,hd,_⟩:=hx.Fc hi;have Mn:i<ds.length:=(oE.mp hd).1;have hdr:ds.drop i=d::ds.drop (i+1):=by rw[V0 Mn];rw[v5 Mn] at hd;rw[gY hd]
 obtain⟨x',BE,hxd⟩:=(gd.Jz hx).get hd;rw[hi] at BE;cases BE;rw[hdr,forL] at e
 cases hg:g d env with
 |none=>rw[hg] at e;cases e
 |some env1 =>
  rw[hg] at e;refine kg O B σ H env env1 x d _ R hxd hg λjw H1 R1 g1=>?_;dsimp only at e
  cases hF:F env1 with
  |none=>rw[hF] at e;cases e
  |some y =>
   obtain⟨f2,cC⟩:=y;rw[hF] at e;have go:=gd.trans g1;refine kb O B jw H1 env1 f2 cC _ R1 hF ?_
   cases f2 with
   |nx=>exact λft H2 R2 g2=>⟨cC,R2,go.trans g2,e⟩
   |ct=>exact λft H2 R2 g2=>⟨cC,R2,go.trans g2,e⟩
   |bk=>cases e;exact λft H2 R2 g2=>q ft H2 R2 (go.trans g2)
   |rt r=>cases e;exact q
theorem S9{D:Ends}{ds:List DL.D}{n:Nat}(hn:ds.length<=n)
  (q:gK X.K O B sR H0 ig D fl af)(h:Left X.K O B sR H0 ig g F ds fl af n σ H):D.nx σ H:=by obtain⟨env,R,gd,e⟩:=h;rw[Wb hn,forL] at e;cases e;exact q σ H R gd
noncomputable def z0(f:En->Option Sl)(g:GF)(F:SF):SF:=λenv=>(f env).bind λr=>(lp r.d).bind λx=>forL g F x.2 env
theorem Gd.sq{K:aG}{σ aH:L2.St}{env af:En}{H H':Hp}(gd:Gd σ env H aH af H'){k:Bool}{p:Addr}{xs:List V}(h:Sq K H k p xs)(hp:¬lN σ env p\/H p=none):Sq K H' k p xs:=by
 have rd:∀u,Rd H p u->Rd H' p u:=λu z=>by
  rcases z with z|⟨o,z⟩
  .rcases hp with hp | hp;.exact .inl (gd p _ z hp).1
   .rw [hp] at z;cases z
  .rcases hp with hp | hp;.exact .inr ⟨o,(gd p _ z hp).1⟩
   .rw [hp] at z;cases z
 cases k with
 |true =>
  rcases h with h|h;.exact .inl (rd _ h)
  .exact .inr h
 |false =>
  rcases h with h|h;.exact .inl (rd _ h)
  .exact .inr h
theorem Is.IC{K:aG}{O:Addr->Prop}{H:Hp}{v:V}{d:D}{k:Bool}{ds:List D}(h:Is K O H v d)(e:lp d=some (k,ds)):∃p xs,v=.ref p/\Sq K H k p xs/\aU K O H xs ds/\(¬O p\/∀H',Sq K H' k p xs):=by
 cases h with
 |tup ho hp hs=>cases e;exact⟨_,_,rfl,.inl hp,hs,.inl ho⟩
 |vf hp hs=>cases e;exact⟨_,_,rfl,NO hp,hs,.inr λ_=>NO hp⟩
 |lst ho hp hs=>cases e;exact⟨_,_,rfl,.inl (.inl hp),hs,.inl ho⟩
 |uH ho hp hs=>cases e;exact⟨_,_,rfl,.inl hp,hs,.inl ho⟩
 |vg hp hs=>cases e;exact⟨_,_,rfl,NN hp,hs,.inr λ_=>NN hp⟩
 |_=>cases e
noncomputable def Qf(K:aG)(tl:TE):TI:=λσ H R=>tl σ H λx H1=>∃a,x=.ref a/\(((∃xs,kA K H1 a xs)/\R (LR K a) H1)\/((∃xs,ll K H1 a xs)/\R (LQ K a) H1))
theorem Xo(hl:PE X l tl):PI X tg l (Qf X.K tl):=by
 intro pins s σ H R I h;refine cU (hl pins s σ H _ I h) λv s1 ⟨x,H1,I1,r1,q1⟩=>?_;obtain⟨a,e,q1⟩:=q1;subst e;cases r1;rcases q1 with⟨⟨xs,hq⟩,q⟩|⟨⟨xs,hq⟩,q⟩
 .obtain ⟨aS,rv,p,hz⟩:=I1.list hq;refine wpAny_pyIter_list p.isList ?_;refine⟨s1.heap.objs.size,[s1.heap.objs.size],_,_,H1,rfl,I1.kept (t':=s1.toks) λb o e=>ky _ e,b22 a _,⟨_,qI _ rfl,rfl,rfl⟩,λb hb=>?_,q⟩;have e:b=s1.heap.objs.size:=by simpa using hb
  subst e;exact I1.vy (fQ _) (I1.cM.fresh (fQ _))
 .obtain ⟨aS,rv,p,hz⟩:=I1.tuple hq;refine wpAny_pyIter_tuple (show s1.heap.IsTuple a aS.toArray from p) ?_;refine⟨s1.heap.objs.size,[s1.heap.objs.size],_,_,H1,rfl,I1.kept (t':=s1.toks) λb o e=>ky _ e,b2m a _,⟨_,qI _ rfl,rfl,rfl⟩,λb hb=>?_,q⟩;have e:b=s1.heap.objs.size:=by simpa using hb
  subst e;exact I1.vy (fQ _) (I1.cM.fresh (fQ _))
theorem b8H(hp:PassesOwn (model X.prog X.w) X.A X.env X.xe)(hc:X.calm=true)(hi:EV X it fa)(hg:GV X tg g)(hb:qX X body F)
  (hs:autoParam (∀x,foldedSetIterable it X.env x=pure x) ra3._auto_1):SV X (.For tg it body [] pos) (z0 fa g F):=by
 obtain⟨ti,pi,ki⟩:=hi;obtain⟨DB,pg,kg⟩:=hg;obtain⟨tb,pb,kb⟩:=hb;refine⟨_,Xq hp hc (Xo pi) pg pb hs,λO B σ H env fl af D R e q=>?_⟩;obtain⟨r,e1,e2⟩:=bind_some e;obtain⟨⟨k,ds⟩,e4,e5⟩:=bind_some e2;refine ki O B σ H env r _ R e1 λv H1 s1 r1=>?_;obtain⟨p,xs,rfl,h1,h2,h3⟩:=(r1.is λq=>R.oo).IC e4;refine⟨p,rfl,?_⟩;have q':gK X.K O B σ H1 env D fl af:=q.from (Gd.refl s1)
 have keep:∀i ft H2,Left X.K O B σ H1 env g F ds fl af i ft H2->Sq X.K H2 k p xs:=λi ft H2 L=>by
  rcases h3 with h3|h3;.obtain ⟨cC,_,gd,_⟩:=L;exact gd.sq h1 (.inl λz=>h3 (.inr z))
  .exact h3 H2
 cases k with
 |true => refine .inl ⟨⟨xs,h1⟩,?_⟩;exact b5x (xs:=xs) (Left X.K O B σ H1 env g F ds fl af) ⟨env,R.grow s1,Gd.refl (az.refl _),e5⟩ (λi ft H2 _ L=>keep i ft H2 L) (λi x ft H2 hx L=>S' kg kb h2 hx q' L) (λft H2 L=>S9 (by rw[h2.length];exact fQ _) q' L)
 |false => refine .inr ⟨⟨xs,h1⟩,?_⟩;exact b7y (xs:=xs) (Left X.K O B σ H1 env g F ds fl af) ⟨env,R.grow s1,Gd.refl (az.refl _),e5⟩ (λi ft H2 _ L=>keep i ft H2 L) (λi x ft H2 hx L=>S' kg kb h2 hx q' L) (λft H2 L=>S9 (by rw[h2.length];exact fQ _) q' L)
noncomputable def jz(lo:Int)(n:Nat):List D:=(lT n).map λ(k:Nat)=>D.int (lo+(k:Int))
def R62(i:Int):Prop:=-(2^62)<=i/\i<2^62
noncomputable instance (i:Int):Decidable (R62 i):=by unfold R62;infer_instance
noncomputable def EF:List D->Option (List D)
 |[.int j]=>if R62 j then some (jz 0 j.toNat) else none
 |_=>none
noncomputable def KY(h:List D->Option (List D))(f:En->Option (List D))(g:GF)(F:SF):SF:=λenv=>(f env).bind λds=>(h ds).bind λis=>forL g F is env
theorem b6Q{K:aG}{O:Addr->Prop}{H:Hp}(lo:Int)(n:Nat):aU K O H ((lT n).map λ(k:Nat)=>V.int (lo+(k:Int))) (jz lo n):=by have h:=aU.ints (K:=K) (O:=O) (H:=H) ((lT n).map λ(k:Nat)=>lo+(k:Int));rw[CQ,CQ] at h;exact h
theorem Yc{K:aG}{O:Addr->Prop}{H:Hp}{xs:List V}{i:Int}(h:aU K O H xs [.int i]):xs=[.int i]:=by
 cases h with
 |cons h t=>cases t;rw[nh h]
theorem b7z{tb:TS}{DB:TG}{g:GF}{lo:Int}{n:Nat}{O:Addr->Prop}{B:Hp}{σ:L2.St}{H:Hp}{env af:En}{fl:Fl}{D:Ends}
  (kg:∀(O:Addr->Prop) (B:Hp) (σ:L2.St) (H:Hp) (env af:En) (v:V) (d:DL.D) (Q:L2.St->Hp->Prop),Rel X.K O B σ H env->Is X.K (OO O σ env) H v d->g d env=some af ->
   (∀aH H',Rel X.K O B aH H' af->Gd σ env H aH af H'->Q aH H')->DB v σ H Q)
  (kb:∀(O:Addr->Prop) (B:Hp) (σ:L2.St) (H:Hp) (env:En) (fl:Fl) (af:En) (D:Ends),Rel X.K O B σ H env->F env=some (fl,af)->gK X.K O B σ H env D fl af->tb D σ H)
  (R:Rel X.K O B σ H env)(e:forL g F (jz lo n) env=some (fl,af))(q:gK X.K O B σ H env D fl af):
  ∃W:Nat->Nat->L2.St->Hp->Prop,(∃m,W 0 m σ H)/\∀i m σ H,W i m σ H ->
   ((wH lo n).stop i H/\D.nx σ H)\/((wH lo n).go i H/\∃N:L2.St->Hp->Prop,(∀aH H',N aH H'->∃m',m'<m/\W (i+1) m' aH H')/\∀x H',(wH lo n).Ex i H x H'->DB x σ H' λft H2=>tb { D with nx:=N,ct:=N,bk:=D.nx } ft H2):=by refine b36 (Left X.K O B σ H env g F (jz lo n) fl af) ⟨env,R,Gd.refl (az.refl _),e⟩ (λi ft H2 hi L=>?_) (λft H2 L=>S9 (by simp[jz]) q L);exact S' kg kb (b6Q lo n) (by simp[hi]) q L
theorem b4S{body:List Stmt}{g:GF}{fs:En->Option (List D)}{p:Pos}(hp:PassesOwn (model X.prog X.w) X.A X.env X.xe)(hc:X.calm=true)(Qv:Gl X "range")(hm:X.mg "range" = none)(ha:AV X [a] fs)(hg:GV X tg g)(hb:qX X body F)
  (h1:autoParam (starEach [a] X.env=[(false,eval a X.env)]) ra2._auto_1)(hs:autoParam (∀x,foldedSetIterable (.Call (.Name "range" p) [a] [] pos) X.env x=pure x) ra3._auto_1){jA:Pos}:
  SV X (.For tg (.Call (.Name "range" p) [a] [] pos) body [] jA) (KY EF fs g F):=by
 obtain⟨ti,pi,ki⟩:=ha;obtain⟨DB,pg,kg⟩:=hg;obtain⟨tb,pb,kb⟩:=hb;refine⟨_,Xq hp hc (b3u Qv hm pi h1) pg pb hs,λO B σ H env fl af D R e q=>?_⟩;obtain⟨ds,e1,e2⟩:=bind_some e;obtain⟨is,e2,e3⟩:=bind_some e2;refine ki O B σ H env ds _ R e1 λvs H1 s1 r1=>?_;unfold EF at e2;split at e2;.obtain ⟨⟨h1,h2⟩,rfl⟩:=jv e2;exact⟨_,Yc r1,h1,h2,b7z kg kb (R.grow s1) e3 (q.from (Gd.refl s1))⟩
 .cases e2
end
inductive SpD (K:aG) (n:Nat) (φ:List D->Option Sl) (vs:List V) (H:Hp) (Q:VK):Prop
 |mk (O:Addr->Prop) (ds:List D) (r:Sl) (dm:zM K O H) (is:aU K O H vs ds) (l:vs.length=n) (e:φ ds=some r) (q:∀v H',az H H'->Res K O H H' v r->Q v H')
noncomputable def wI(K:aG)(n:Nat)(φ:List D->Option Sl):Sp:=λvs H Q _=>SpD K n φ vs H Q
noncomputable def jQ(N:Nat)(ds:List D):En:=ds.map Sl.sh++pE (N-ds.length) Sl.no
noncomputable def cV(F:SF)(N:Nat)(ds:List D):Option Sl:=match F (jQ N ds) with
 |some (.rt r,_)=>some r
 |some (.nx,_)=>some (.sh .dO)
 |_=>none
theorem Hv{K:aG}{O:Addr->Prop}{H:Hp}{N:List Str}{vs:List V}{ds:List D}(hO:zM K O H)(h:aU K O H vs ds):Rel K O H (start N vs) H (jQ N.length ds):=by
 have hl:=h.length
 have Jn:∀(i:Nat) (s:Sl),(jQ N.length ds)[i]?=some s->s.own->False:=λi s e1 o=>by
  unfold jQ at e1;rw[KA] at e1;split at e1;.rw [zp] at e1;obtain⟨d,_,e⟩:=map_some e1;cases e;exact o
  .rw [FK] at e1;split at e1;.cases e1;exact o
   .cases e1
 have no:∀p,¬lN (start N vs) (jQ N.length ds) p:=λp ⟨i,es,e1,o,_⟩=>Jn i es e1 o;refine⟨az.refl _,hO,?_,λi d e=>?_,λi es e=>(Jn i _ e trivial).elim,λi es e=>(Jn i _ e trivial).elim,λi ks es e=>(Jn i _ e trivial).elim,λi j es fs p e _ _ _ o _=>(Jn i _ e o).elim⟩;.simp [L2.start,jQ,hl]
 .unfold jQ at e;rw[KA] at e;split at e;.rename_i hi;rw[kN] at hi;rw[zp] at e;obtain⟨d',e1,e2⟩:=map_some e;cases e2;obtain⟨x,hx,hd⟩:=h.get e1;refine⟨x,?_,hd.less λq z=>z.elim id λz=>(no q z).elim⟩;unfold L2.start;rw[KO (by rw[kN,hl];exact hi),zp,hx];rfl
  .rw [FK] at e;split at e;.cases e
   .cases e
section
variable {P:Program}{w:World}{K:aG}{mg:Str->Option Value}{base:Heap}
theorem QN{x qual:Str}{st:Stmt}{f:Addr}{fd:FuncData}{N ps:List Str}{k:Nat}{F:SF}(Fn:ur K x qual st f fd)(S:bP N ps (dR st))
  (bu:∀(fu:Value) (A:Around) (outer:List Env) (s:Shared) (H:Hp) (E:XK),cD k (A.deeper (envOfC qual (dR st) s.heap.objs.size f fu)) ->
   qX (hU iq P w K mg base N qual (dR st) f fu A outer s H E).aI (iG st) F):bQ P w K mg base iq (k+1) f fd ps (wI K ps.length (cV F N.length)):=by
 refine Fn.ok S (λvs H Q E h=>?_) (λfu A outer s H vs Q E hr h=>?_);.obtain ⟨O,ds,r,_,_,hl,_⟩:=h;exact hl
 obtain⟨O,ds,r,hO,hi,hl,e,q⟩:=h;obtain⟨t,p,kk⟩:=bu fu A outer s H E hr;refine⟨t,p,?_⟩;unfold cV at e
 cases hF:F (jQ N.length ds) with
 |none=>rw[hF] at e;cases e
 |some y =>
  obtain⟨fl,af⟩:=y;rw[hF] at e;refine kk O H (start N vs) H (jQ N.length ds) fl af _ (Hv hO hi) hF ?_
  cases fl with
  |nx=>cases e;exact λaH H' R' _=>q .dO H' R'.same Is.dO
  |bk=>cases e
  |ct=>cases e
  |rt r=>cases e;exact λv H' s h=>q v H' s h
end
section
variable {X:Cx}{k:Nat}{f:Addr}{fd:FuncData}{ps:List Str}{φ:List D->Option Sl}{x:Str}{p pos:Pos}{e:Expr}{es:List Expr}{fs:En->Option (List D)}
noncomputable def dH(n:Nat)(φ:List D->Option Sl)(fs:En->Option (List D)):En->Option Sl:=λenv=>(fs env).bind λds=>if ds.length=n then φ ds else none
theorem b4y(ka:∀(O:Addr->Prop) (B:Hp) (σ:L2.St) (H:Hp) (env:En) (ds:List D) (Q:List V->Hp->Prop),Rel X.K O B σ H env->fs env=some ds->(∀vs H',az H H'->aU X.K (OO O σ env) H' vs ds->Q vs H')->t σ H Q)
  (O:Addr->Prop)(B:Hp)(σ:L2.St)(H:Hp)(env:En)(r:Sl)(Q:VK)(R:Rel X.K O B σ H env)(e:dH n φ fs env=some r)(q:∀v H',az H H'->Res X.K (OO O σ env) H H' v r->Q v H'):RZ (wI X.K n φ) [] E t σ H Q:=by
 obtain⟨ds,e1,e2⟩:=bind_some e;refine ka O B σ H env ds _ R e1 λvs H1 s1 r1=>?_;by_cases hn:ds.length=n;.rw [if_pos hn] at e2;rw[qJ];refine⟨OO O σ env,ds,r,(R.grow s1).dm,r1,by rw[r1.length,hn],e2,λv H2 s2 r2=>q v H2 (s1.trans s2) (r2.from s1)⟩
 .rw [if_neg hn] at e2;cases e2
theorem b7U(F:bQ X.prog X.w X.K X.mg X.base iq k f fd ps (wI X.K ps.length φ))(hr:cD k X.A)(hg:Gl X x)(hm:X.mg x=some (.ref f))(hk:ud X.K (.ref f)=true)(hb:Binds X.K fd ps [])
  (ha:AV X (e::es) fs)(d8:autoParam ((x==("__debug__":Str))=false) ra1._auto_1)(he:autoParam (starEach (e::es) X.env=(false,eval e X.env)::starEach es X.env) ra2._auto_1)(c6:autoParam ((backTo pos (starEach es X.env)).any (·.1)=false) ra2._auto_1):
  EV X (.Call (.Name x p) (e::es) [] pos) (dH ps.length φ fs):=by obtain⟨t,pt,ka⟩:=ha;exact⟨_,SW F hr hg hm hk hb .nil Bd pt d8 he c6,λO B σ H env r Q R e q=>b4y ka O B σ H env r Q R e q⟩
end
noncomputable def spT(K:aG):Sp:=λvs H Q _=>∃(a:Addr) (ns:List Int),vs=[.ref a]/\kA K H a (ns.map V.int)/\ns.length<=63/\Tb K H/\∀H',az H H'->Q (.bl true) H'
theorem b9l{P:Program}{w:World}{K:aG}{mg:Str->Option Value}{base:Heap}{k:Nat}{f:Addr}{fd:FuncData}{φ:List D->Option Sl}(F:bQ P w K mg base iq k f fd ["script"] (wI K 1 φ))
  (h:∀ns:List Int,ns.length<=63->φ [.lst true (ns.map D.int)]=some (Sl.sh (.bl true))):bQ P w K mg base iq k f fd ["script"] (spT K):=by
 refine F.imp λvs H Q E q=>?_;obtain⟨a,ns,rfl,hs,hl,tb,q⟩:=q;refine⟨λ_=>False,[.lst true (ns.map D.int)],_,⟨λ_ z=>z.elim,tb⟩,.cons ?_ .nil,rfl,h ns hl,λv H' sm r=>?_⟩
 .rcases hs with hs | hs;.exact .uH id hs (aU.ints ns)
  .exact .vg (.inr hs) (aU.ints ns)
 .have r':Is K (λ_=>False) H' v (.bl true):=r;rw[Be r'];exact q H' sm
theorem HZ{l:Rr}{q:Program}{loose:List Str}{XP:(Str->Option Value)->Heap->Prop}{YP:World->Heap->Prop}{d:DefRec}{K:Params->aG}{k:Nat}(hk:cD k callerA)(hn:l.most=some 63)(JO:d.params.defaults=[])
  {ts:List Addr}(hY:∀(w:World) (h:Heap),YP w h->(K w.params).In h/\∀P∈ts,h.get? P=some (GW #[]))(hL:∀w:World,M3 (K w.params) ts=true)
  (F:∀(w:World) (mg:Str->Option Value) (fa:Addr) (h:Heap),(K w.params).In h->h.Ns mainGlobals mg->mg d.name=some (.ref fa) ->
   ∃fd:FuncData,(∀(s:Shared) (u:Value),BindsTo s fd ⟨[u],[]⟩ [("script",u)])/\∀base:Heap,(K w.params).In base->base.Ns mainGlobals mg->bQ l.prog w (K w.params) mg base iq k fa fd ["script"] (spT (K w.params))):
  PySem.W.WalkO q loose XP YP l.row.toRowW d [] (λf vs=>QZ f vs):=
 L2.Ca (n:=63) (k:=k) (x:="script") (CX:=λ_=>iq) (sp:=λw=>spT (K w.params)) hn (by decide) JO hk hY hL F (λw _ a ns hl tb hS=>⟨a,ns,rfl,hS,hl,tb,λ_ sm=>⟨rfl,tb.grow sm⟩⟩) λ_ _ _ _ _ z=>z
section
variable {X:Cx}{a:Expr}{pos p p2:Pos}{fa:En->Option Sl}
noncomputable def rW(T:String):D->Bool
 | .dO=>false
 | .bl _=>(T == "bool" || T == "int")
 | .int _=>(T == "int")
 | .str _=>(T == "str")
 | .tup _=>(T == "tuple")
 | .lst _ _=>(T == "list")
 | .exc _=>false
 | .vC _ _=>false
 | .obj _ _ _=>false
 | .yG _ _=>false
 | .BG _ _=>false
noncomputable def D.isExc:D->Bool
 | .exc _=>true
 | .vC _ _=>true
 | .obj _ _ _=>true
 | .yG _ _=>true
 | .BG _ _=>true
 |_=>false
noncomputable def vq(T:String)(d:D):Option Sl:=if d.isExc=true then none else some (.sh (.bl (rW T d)))
end
section
variable {X:Cx}{a b c e:Expr}{fa fb:En->Option Sl}{pos:Pos}
inductive PP (X:Cx) (e:Option Expr) (f:En->Option (Option Int)):Prop
 |mk (t:TO) (p:PO X e t) (k:∀(O:Addr->Prop) (B:Hp) (σ:L2.St) (H:Hp) (env:En) (o:Option Int) (Q:Option Int->Hp->Prop),Rel X.K O B σ H env->f env=some o->(∀H',az H H'->Q o H')->t σ H Q)
noncomputable def mm:En->Option (Option Int):=λ_=>some none
noncomputable def lQ(f:En->Option Sl):En->Option (Option Int):=λenv=>(f env).bind λr=>match r.d with
 | .int i=>some (some i)
 |_=>none
theorem zF:PP X none mm:=⟨_,b6X,λO B σ H env o Q R e q=>by obtain rfl:=gY e;exact q H (az.refl _)⟩
theorem zG(h:EV X e fa):PP X (some e) (lQ fa):=by
 obtain⟨t,p,k⟩:=h;refine⟨_,b6W p,λO B σ H env o Q R e q=>?_⟩;obtain⟨r,e1,e2⟩:=bind_some e;refine k O B σ H env r _ R e1 λv H1 s1 r1=>?_;have hi:=r1.is λq=>R.oo
 cases hd:r.d with
 |int i => rw[hd] at hi e2;obtain rfl:=gY e2;exact⟨i,nh hi,q H1 s1⟩
 |_=>rw[hd] at e2;cases e2
noncomputable def cutD(xs:List D)(lo hi:Option Int):List D:=(xs.drop (HT.d7 xs.length 0 lo)).take (HT.d7 xs.length xs.length hi-HT.d7 xs.length 0 lo)
theorem aU.cut{K:aG}{O:Addr->Prop}{H:Hp}{xs:List V}{ds:List D}(h:aU K O H xs ds)(lo hi:Option Int):aU K O H (qC xs lo hi) (cutD ds lo hi):=by unfold qC cutD;rw[h.length];exact(h.drop _).take _
noncomputable def pk(f:En->Option (Bool×List D))(lo hi:En->Option (Option Int)):En->Option Sl:=λenv=>(f env).bind λx=>(lo env).bind λl=>(hi env).bind λh =>
 if x.1=true then some (.ow (cutD x.2 l h)) else if ¬(HT.d7 x.2.length 0 l=0/\HT.d7 x.2.length x.2.length h=x.2.length) then some (.sh (.tup (cutD x.2 l h))) else none
theorem Dc{ba:En->Option (Bool×List D)}{lo hi:Option Expr}{fl fh:En->Option (Option Int)}{p2:Pos}(ha:BV X a ba)(hl:PP X lo fl)(hh:PP X hi fh):EV X (.Subscript a (.Slice lo hi none p2) pos) (pk ba fl fh):=by
 obtain⟨t,p,k⟩:=ha;obtain⟨tl,pl,kl⟩:=hl;obtain⟨th,ph,kh⟩:=hh;refine⟨_,Yj (Ce.or b8J) p pl ph,λO B σ H env r Q R e q=>?_⟩;obtain⟨⟨kk,ds⟩,e1,e2⟩:=bind_some e;obtain⟨l,e2,e3⟩:=bind_some e2;obtain⟨h,e3,e4⟩:=bind_some e3;refine k O B σ H env kk ds _ R e1 λpp xs H1 s1 hq hx=>?_;refine kl O B σ H1 env l _ (R.grow s1) e2 λH2 s2=>?_;refine kh O B σ H2 env h _ ((R.grow s1).grow s2) e3 λH3 s3=>?_;have Cg:=s1.trans (s2.trans s3);have rX:=hq.grow (s2.trans s3);have BE:=hx.grow (s2.trans s3);dsimp only at e4
 cases kk with
 |true => rw[if_pos rfl] at e4;obtain rfl:=gY e4;exact .inl ⟨pp,xs,rfl,rX,λp hp=>q _ _ (Cg.trans (Bq hp _)) ((NC hp (BE.cut l h)).from Cg)⟩
 |false => rw[if_neg zq] at e4;obtain⟨hw,rfl⟩:=jv e4;exact .inr ⟨pp,xs,rfl,rX,by rw[BE.length];exact hw,λp hp=>q _ _ (Cg.trans (Bq hp _)) ((Le (O:=OO O σ env) (H:=H3) (λ_ z=>(R.grow Cg).oo z) hp (BE.cut l h)).from Cg)⟩
end
structure Def(K:aG)(mg:Str->Option Value)(x:Str)(st:Stmt)(ps:List Str)(f:Addr)(fd:FuncData):Prop where
 fn:ur K x x st f fd
 bd:Binds K fd ps []
 m:mg x=some (.ref f)
end DL
namespace DL
open PySem PySem.Spec PyProof.Rows L2
structure Fx(X:Cx)(N:List Str)(sc:Scope)(k:Nat)(full:Bool:=true):Prop where
 n:X.N=N
 sc:X.env.scope=sc
 calm:X.calm=true
 fn:full=true->∀x,X.fn x=true
 own:PassesOwn (model X.prog X.w) X.A X.env X.xe
 room:cD k X.A
 nd:N.Nodup
 top:full=true->X.stack=X.env::X.outer/\X.env.frame=some X.env.locals/\X.ex=[]
section
variable {X:Cx}{N:List Str}{sc:Scope}{k:Nat}{full:Bool}{pos p p1 p2 pos' bx:Pos}{e a b:Expr}{fa fb:En->Option Sl}
theorem Fx.uv(h:Fx X N sc k full)(hv:jJ sc x):jJ X.env.scope x:=by rw[h.sc];exact hv
theorem Fx.loc(h:Fx X N sc k full)(hv:Loc sc x):Loc X.env.scope x:=by rw[h.sc];exact hv
theorem Fx.ix(h:Fx X N sc k full){i:Nat}{x:Str}(hN:N[i]?=some x):X.N[i]?=some x:=by rw[h.n];exact hN
theorem Fx.Cc(h:Fx X N sc k full)(hf:full=true\/sc.names.lookup x=some .local):X.fn x=true\/X.env.scope.names.lookup x=some .local:=hf.elim (λe=>.inl (h.fn e x)) λe=>.inr (by rw[h.sc];exact e)
theorem Fx.tL(h:Fx X N sc k full):X.N.Nodup:=by rw[h.n];exact h.nd
theorem Fx.g(h:Fx X N sc k full)(hg:autoParam (sc.names.lookup x=some .globalImplicit) ra2._auto_1):Gl X x:=by show X.env.kindOf x=some .globalImplicit;unfold Mz;rw[h.sc];exact hg
theorem Fx.v(h:Fx X N sc k full)(i:Nat)(hN:autoParam (N[i]?=some x) ra2._auto_1)(hv:autoParam (jJ sc x) ra4._auto_1)(hd:autoParam ((x==("__debug__":Str))=false) ra2._auto_1)
  (dC:autoParam ((x==("__classdict__":Str))=false) ra2._auto_1):EV X (.Name x pos) (eV i):=WR i (h.ix hN) (h.uv hv) hd dC
theorem Fx.bv(h:Fx X N sc k full)(i:Nat)(hN:autoParam (N[i]?=some x) ra2._auto_1)(hv:autoParam (jJ sc x) ra4._auto_1)(hd:autoParam ((x==("__debug__":Str))=false) ra2._auto_1)
  (dC:autoParam ((x==("__classdict__":Str))=false) ra2._auto_1):BV X (.Name x pos) (bV i):=b9U i (h.ix hN) (h.uv hv) hd dC
theorem Fx.tg(h:Fx X N sc k full)(i:Nat)(hN:autoParam (N[i]?=some x) ra2._auto_1)(hv:autoParam (Loc sc x) ra5._auto_1)(hf:autoParam (full=true\/sc.names.lookup x=some .local) ra5._auto_1):GV X (.Name x pos) (gN i):=b7w h.tL (h.ix hN) (h.loc hv) (h.Cc hf)
theorem Fx.dh(h:Fx X N sc k full)(i:Nat)(he:EV X e fa)(hN:autoParam (N[i]?=some x) ra2._auto_1)(hv:autoParam (Loc sc x) ra5._auto_1)
  (hs:autoParam (swapsWith e (some (.Name x pos')) pos.line X.env=pure false) ra2._auto_1)(hf:autoParam (full=true\/sc.names.lookup x=some .local) ra5._auto_1):SV X (.Assign [.Name x pos'] e pos) (fD i fa):=X3 h.tL (h.ix hN) (h.loc hv) he hs (h.Cc hf)
end
theorem Jv{us:List Value}(h:us.length=0):us=[]:=by exact VV.mp h
theorem b7k{us:List Value}(h:us.length=1):∃a0,us=[a0]:=by
 cases us with
 |nil=>cases h
 |cons a r => have:=Jv (us:=r) (by simpa using h);exact⟨a,by rw[this]⟩
theorem b7j{us:List Value}(h:us.length=2):∃a0 a1,us=[a0,a1]:=by
 cases us with
 |nil=>cases h
 |cons a r => have:=b7k (us:=r) (by simpa using h);obtain⟨b0,e⟩:=this;exact⟨a,b0,by rw[e]⟩
theorem b7i{us:List Value}(h:us.length=3):∃a0 a1 a2,us=[a0,a1,a2]:=by
 cases us with
 |nil=>cases h
 |cons a r => have:=b7j (us:=r) (by simpa using h);obtain⟨b0,b1,e⟩:=this;exact⟨a,b0,b1,by rw[e]⟩
theorem lenV4{us:List Value}(h:us.length=4):∃a0 a1 a2 a3,us=[a0,a1,a2,a3]:=by
 cases us with
 |nil=>cases h
 |cons a r => have:=b7i (us:=r) (by simpa using h);obtain⟨b0,b1,b2,e⟩:=this;exact⟨a,b0,b1,b2,by rw[e]⟩
section
variable {P:Program}{w:World}{K:aG}{mg:Str->Option Value}{base:Heap}
theorem Ka{x qual:Str}{st:Stmt}{f:Addr}{fd:FuncData}{N ps:List Str}{k:Nat}{F:SF}(Fn:ur K x qual st f fd)(S:bP N ps (dR st))
  (bu:∀X:Cx,X.prog=P->X.w=w->X.K=K->X.mg=mg->X.base=base->Fx X N (dR st) k->qX X (iG st) F):bQ P w K mg base iq (k+1) f fd ps (wI K ps.length (cV F N.length)):=
 QN Fn S λfu A outer s H E hr=>bu _ rfl rfl rfl rfl rfl ⟨rfl,rfl,rfl,λ_ _=>rfl,BJ,hr,S.nd,λ_=>⟨rfl,rfl,rfl⟩⟩
end
def Oz(P:Program)(w:World)(K:aG)(mg:Str->Option Value)(base:Heap)(x:Str)(st:Stmt)(ps:List Str)(j:Nat)(φ:List D->Option Sl):Prop:=∃f fd,Def K mg x st ps f fd/\bQ P w K mg base iq j f fd ps (wI K ps.length φ)
inductive Sx:Cx->Program->World->aG->(Str->Option Value)->Heap->Prop
 |mk (X:Cx):Sx X X.prog X.w X.K X.mg X.base
theorem J'{P:Program}{w:World}{K:aG}{mg:Str->Option Value}{base:Heap}{x:Str}{st:Stmt}{f:Addr}{fd:FuncData}{N ps:List Str}{k:Nat}{F:SF}(D':Def K mg x st ps f fd)
  (bu:∀X:Cx,Sx X P w K mg base->Fx X N (dR st) k->qX X (iG st) F)(S:autoParam (bP N ps (dR st)) ra6._auto_1):bQ P w K mg base iq (k+1) f fd ps (wI K ps.length (cV F N.length)):=
 Ka D'.fn S λX e1 e2 e3 e4 e5=>by subst e1 e2 e3 e4 e5;exact bu X (.mk X)
theorem lG{P:Program}{w:World}{K:aG}{mg:Str->Option Value}{base:Heap}{x:Str}{st:Stmt}{f:Addr}{fd:FuncData}{N ps:List Str}{k:Nat}{F:SF}(D':Def K mg x st ps f fd)
  (bu:∀X:Cx,Sx X P w K mg base->Fx X N (dR st) k->qX X (iG st) F)(S:autoParam (bP N ps (dR st)) ra6._auto_1):Oz P w K mg base x st ps (k+1) (cV F N.length):=
 ⟨f,fd,D',J' D' bu S⟩
theorem Jf{X X':Cx}{x:Str}{st:Stmt}{ps:List Str}{j:Nat}{φ:List D->Option Sl}(e1:X'.prog=X.prog)(e2:X'.w=X.w)(e3:X'.K=X.K)(e4:X'.mg=X.mg)(e5:X'.base=X.base)(O:Oz X.prog X.w X.K X.mg X.base x st ps j φ):Oz X'.prog X'.w X'.K X'.mg X'.base x st ps j φ:=by rw[e1,e2,e3,e4,e5];exact O
theorem Fx.cl{X:Cx}{N:List Str}{sc:Scope}{k j:Nat}{full:Bool}{x:Str}{st:Stmt}{ps:List Str}{φ:List D->Option Sl}{e:Expr}{es:List Expr}{fs:En->Option (List D)}{p pos:Pos}(h:Fx X N sc k full)(O:Oz X.prog X.w X.K X.mg X.base x st ps j φ)(ha:AV X (e::es) fs)(hj:autoParam (j<=k) ra1._auto_1)(hg:autoParam (sc.names.lookup x=some .globalImplicit) ra2._auto_1)(d8:autoParam ((x==("__debug__":Str))=false) ra1._auto_1)(he:autoParam (starEach (e::es) X.env=(false,eval e X.env)::starEach es X.env) ra2._auto_1)(c6:autoParam ((backTo pos (starEach es X.env)).any (·.1)=false) ra2._auto_1):
  EV X (.Call (.Name x p) (e::es) [] pos) (dH ps.length φ fs):=by obtain⟨f,fd,D',F⟩:=O;exact b7U F (h.room.mono hj) (h.g hg) D'.m D'.fn.kp D'.bd ha d8 he c6
structure FI(K:aG)(n:Str)(t:Stmt)(f:Addr)(od an:Option Addr)(sl:Array (Option Value))(oc kV dc pm cd ct:Value):Prop where
 a:iE K mainGlobals n=some (some (.ref f))
 l:K.lookup f=some ⟨oc,od,.func (pI n n (qR t) (iG t) (dR t) .none kV dc pm an cd ct),sl⟩
 c:KH K cd n=true
 k:ud K (.ref f)=true
section
variable {K:aG}{mg:Str->Option Value}{h:Heap}{n:Str}{t:Stmt}{f:Addr}{od an:Option Addr}{sl:Array (Option Value)}{oc kV dc pm cd ct:Value}{ps:List Str}
theorem P6(X:K.In h)(G:h.Ns mainGlobals mg)(i:FI K n t f od an sl oc kV dc pm cd ct)(hb:∀(kV doc pm:Value) (an:Option Addr) (fu ct:Value) (us:List Value),us.length=ps.length->bindArgs (pI n n (qR t) (iG t) (dR t) .none kV doc pm an fu ct) ⟨us,[]⟩=pure (ps.zip us)):Def K mg n t ps f (pI n n (qR t) (iG t) (dR t) .none kV dc pm an cd ct):=
 ⟨Nq i.l i.c i.k,(Nq i.l i.c i.k).binds hb,kn X G i.a⟩
theorem fL(X:K.In h)(G:h.Ns mainGlobals mg)(i:FI K n t f od an sl oc kV dc pm cd ct)(hb:autoParam (∀(kV doc pm:Value) (an:Option Addr) (fu ct a0:Value),bindArgs (pI n n (qR t) (iG t) (dR t) .none kV doc pm an fu ct) ⟨[a0],[]⟩=pure (ps.zip [a0])) ra7._auto_1)(hl:autoParam (ps.length=1) ra2._auto_1):Def K mg n t ps f (pI n n (qR t) (iG t) (dR t) .none kV dc pm an cd ct):=
 P6 X G i λ_ _ _ _ _ _ us hu=>by obtain⟨_,rfl⟩:=b7k (hu.trans hl);exact hb ..
theorem qt(X:K.In h)(G:h.Ns mainGlobals mg)(i:FI K n t f od an sl oc kV dc pm cd ct)(hb:autoParam (∀(kV doc pm:Value) (an:Option Addr) (fu ct a0 a1:Value),bindArgs (pI n n (qR t) (iG t) (dR t) .none kV doc pm an fu ct) ⟨[a0,a1],[]⟩=pure (ps.zip [a0,a1])) ra7._auto_1)(hl:autoParam (ps.length=2) ra2._auto_1):Def K mg n t ps f (pI n n (qR t) (iG t) (dR t) .none kV dc pm an cd ct):=
 P6 X G i λ_ _ _ _ _ _ us hu=>by obtain⟨_,_,rfl⟩:=b7j (hu.trans hl);exact hb ..
theorem Cm(X:K.In h)(G:h.Ns mainGlobals mg)(i:FI K n t f od an sl oc kV dc pm cd ct)(hb:autoParam (∀(kV doc pm:Value) (an:Option Addr) (fu ct a0 a1 a2:Value),bindArgs (pI n n (qR t) (iG t) (dR t) .none kV doc pm an fu ct) ⟨[a0,a1,a2],[]⟩=pure (ps.zip [a0,a1,a2])) ra7._auto_1)(hl:autoParam (ps.length=3) ra2._auto_1):Def K mg n t ps f (pI n n (qR t) (iG t) (dR t) .none kV dc pm an cd ct):=
 P6 X G i λ_ _ _ _ _ _ us hu=>by obtain⟨_,_,_,rfl⟩:=b7i (hu.trans hl);exact hb ..
end
end DL
namespace DL
open PySem L2
theorem Sf{α:Type}{xs:List α}{i:Int}(h0:0<=i)(h:i<xs.length):∃v,nD xs i=some v:=by refine⟨xs[i.toNat]'(by omega),?_⟩;unfold nD DJ;rw[if_pos h0,if_pos h];simp
end DL
namespace DL
open PySem PySem.Spec PyProof.Rows L2
def Ha(K:aG)(O:Addr->Prop)(J:It)(H:Hp)(ds:List D):Prop:=
 ∀(O':Addr->Prop) (H2:Hp),(∀q u,H q=some u->¬O q->H2 q=some u/\¬O' q)->(∀q,O' q->H2 q≠none) ->
  ∀i:Nat,(∀d,ds[i]?=some d->J.go i H2/\∀x H3,J.Ex i H2 x H3->az H2 H3/\Is K O' H3 x d)/\(ds.length<=i->J.stop i H2)
inductive IV (X:Cx) (tg it:Expr) (f:En->Option (List D)):Prop
 | mk (wi:TI) (p:PI X tg it wi) (k:∀(O:Addr->Prop) (B:Hp) (σ:L2.St) (H:Hp) (env:En) (ds:List D) (R:It->Hp->Prop),Rel X.K O B σ H env->f env=some ds ->
  (∀J H',az H H'->Ha X.K (OO O σ env) J H' ds->R J H')->wi σ H R)
theorem b6J{K:aG}{O:Addr->Prop}{H H2:Hp}{k:Bool}{p:Addr}{xs:List V}(kp:∀q u,H q=some u->¬O q->H2 q=some u)(h:Sq K H k p xs)(hp:¬O p):Sq K H2 k p xs:=by
 cases k with
 |true =>
  rcases h with(h|⟨o,h⟩)|h;.exact .inl (.inl (kp _ _ h hp))
  .exact .inl (.inr ⟨o,kp _ _ h hp⟩)
  .exact .inr h
 |false =>
  rcases h with(h|⟨o,h⟩)|h;.exact .inl (.inl (kp _ _ h hp))
  .exact .inl (.inr ⟨o,kp _ _ h hp⟩)
  .exact .inr h
noncomputable def o9(f:En->Option Sl):En->Option (List D):=λenv=>(f env).bind λr=>(lp r.d).map (·.2)
section
variable {X:Cx}{tg it:Expr}{fa:En->Option Sl}
theorem Nf(hi:EV X it fa):IV X tg it (o9 fa):=by
 obtain⟨ti,pi,ki⟩:=hi;refine⟨_,Xo pi,λO B σ H env ds R Rl e q=>?_⟩;obtain⟨r,e1,e2⟩:=bind_some e;obtain⟨⟨k,ds'⟩,e4,e5⟩:=map_some e2;cases e5;refine ki O B σ H env r _ Rl e1 λv H1 s1 r1=>?_;obtain⟨p,xs,rfl,h1,h2,h3⟩:=(r1.is λq=>Rl.oo).IC e4;refine⟨p,rfl,?_⟩
 have key:∀(O':Addr->Prop) (H2:Hp),(∀q u,H1 q=some u->¬OO O σ env q->H2 q=some u/\¬O' q)->Sq X.K H2 k p xs/\aU X.K O' H2 xs ds':=λO' H2 kp=>by
  refine⟨?_,h2.map (λq hq hn=>?_) λq u e n=>(kp q u e n).1⟩
  .rcases h3 with h3 | h3;.exact b6J (λq u e n=>(kp q u e n).1) h1 h3
   .exact h3 H2
  .cases e:H1 q with
   |none=>exact(hq e).elim
   |some u=>exact(kp q u e hn).2
 cases k with
 |true =>
  refine .inl ⟨⟨xs,h1⟩,q _ H1 s1 λO' H2 kp hO i=>⟨λd hd=>?_,λhl=>?_⟩⟩;.obtain ⟨hq,hs⟩:=key O' H2 kp;obtain⟨x,hx,E7⟩:=hs.get hd;refine⟨⟨xs,x,hq,hx⟩,λy H3 hy=>?_⟩;obtain⟨rfl,hy⟩:=hy;have:=hy xs hq;rw[hx] at this;cases this;exact⟨az.refl _,E7⟩
  .obtain ⟨hq,hs⟩:=key O' H2 kp;exact⟨xs,hq,by rw[hs.length];exact hl⟩
 |false =>
  refine .inr ⟨⟨xs,h1⟩,q _ H1 s1 λO' H2 kp hO i=>⟨λd hd=>?_,λhl=>?_⟩⟩;.obtain ⟨hq,hs⟩:=key O' H2 kp;obtain⟨x,hx,E7⟩:=hs.get hd;refine⟨⟨xs,x,hq,hx⟩,λy H3 hy=>?_⟩;obtain⟨rfl,hy⟩:=hy;have:=hy xs hq;rw[hx] at this;cases this;exact⟨az.refl _,E7⟩
  .obtain ⟨hq,hs⟩:=key O' H2 kp;exact⟨xs,hq,by rw[hs.length];exact hl⟩
theorem b4Z{K:aG}{O:Addr->Prop}{H:Hp}(lo:Int)(n:Nat):Ha K O (wH lo n) H (jz lo n):=λO' H2 _ _ i=>by refine⟨λd hd=>?_,λhl=>show n<=i by simpa[jz] using hl⟩;unfold jz at hd;rw[zp] at hd;obtain⟨k,hk,rfl⟩:=map_some hd;obtain⟨hi,rfl⟩:=oE.mp hk;rw[Kx] at hi;refine⟨hi,λx H3 hy=>?_⟩;obtain⟨rfl,rfl⟩:=hy;rw[List.getElem_range];exact⟨az.refl _,Is.int _⟩
noncomputable def CG(h:List D->Option (List D))(f:En->Option (List D)):En->Option (List D):=λenv=>(f env).bind h
end
noncomputable def rl(eF sc:Scope):Scope:=
 { eF with names:=eF.names.map λ(n,k)=>if (k==.free&&sc.kind==.function&&sc.names.lookup n==some .cell) then (n,.cell) else (n,k) }
theorem TM{sc:Scope}:∀{names:List (Str×NameKind)} {x:Str} {k:NameKind},names.lookup x=some k ->
  (names.map λ(n,k)=>if (k==v8&&sc.kind==.function&&sc.names.lookup n==some .cell) then (n,FA) else (n,k)).lookup x=some (if (k==v8&&sc.kind==.function&&sc.names.lookup x==some .cell) then FA else k)
 |[],_,_,h=>by simp at h
 |(n,k')::r,x,k,h=>by
  have ih:=@TM sc r x k;show CP x ((if (k'==v8&&sc.kind==.function&&sc.names.lookup n==some .cell)=true then (n,FA) else (n,k'))::_)=_
  cases hx:x==n with
  |true =>
   simp only[qH,hx] at h;cases h;have e:x=n:=by simpa using hx
   subst e;split<;>simp[qH]
  |false =>
   simp only[qH,hx] at h;split;.simp only [qH,hx];exact ih h
   .simp only [qH,hx];exact ih h
theorem b2M{sc:Scope}:∀{names:List (Str×NameKind)} {x:Str} {k:NameKind},
  (names.map λ(n,k)=>if (k==v8&&sc.kind==.function&&sc.names.lookup n==some .cell) then (n,FA) else (n,k)).lookup x=some k->∃k',names.lookup x=some k'/\k=if (k'==v8&&sc.kind==.function&&sc.names.lookup x==some .cell) then FA else k'
 |names,x,k,h=>by
  cases e:names.lookup x with
  |some k'=>have:=TM (sc:=sc) e;rw[h] at this;exact⟨k',rfl,gY this⟩
  |none =>
   exfalso
   induction names with
   |nil=>simp at h
   |cons y r ih =>
    obtain⟨n,k'⟩:=y;have h':CP x ((if (k'==v8&&sc.kind==.function&&sc.names.lookup n==some .cell)=true then (n,FA) else (n,k'))::(r.map λ(n,k)=>if (k==v8&&sc.kind==.function&&sc.names.lookup n==some .cell) then (n,FA) else (n,k)))=some k:=h
    cases hx:x==n with
    |true=>simp[qH,hx] at e
    |false =>
     simp only[qH,hx] at e;apply ih _ e;split at h';.simpa only [qH,hx] using h'
     .simpa only [qH,hx] using h'
noncomputable def j5(cells:List (Str×Addr)):List (Str×NameKind)->List (Str×Addr)->List (Str×Addr)
 |[],acc=>acc
 |(n,k)::r,acc=>j5 cells r (if k==.free then (n,(cells.lookup n).getD 0)::acc else acc)
theorem TZ:∀(names:List (Str×NameKind)) (acc:List (Str×Addr)),(∀y∈names,y.2=.free->∃c,env.cells.lookup y.1=some c) ->
  (forIn names acc λ(x:Str×NameKind) r=>(if (x.2==.free)=true then do let a <-cellOf env x.1;pure (GJ ((x.1,a)::r)) else pure (GJ r):Sem (ForInStep (List (Str×Addr)))))=pure (j5 env.cells names acc)
 |[],acc,_=>rfl
 |(n,k)::r,acc,h=>by
  rw[List.forIn_cons];have hr:∀y∈r,y.2=.free->∃c,env.cells.lookup y.1=some c:=λy hy=>h y (mZ _ hy)
  cases hk:k==v8 with
  |true =>
   have ek:k=.free:=by simpa using hk
   obtain⟨c,hc⟩:=h (n,k) nA ek;replace hc:env.cells.lookup n=some c:=hc;have hce:cellOf env n=pure c:=by unfold cellOf;rw[hc]
   simp only[if_true];rw[hce];simp only[pure_bind];rw[TZ r _ hr];conv=>rhs;unfold j5
   rw[hk,hc];rfl
  |false =>
   simp only[MR,if_false,pure_bind];rw[TZ r _ hr];conv=>rhs;unfold j5
   rw[hk];rfl
theorem a9A(h:∀y∈sc.names,y.2=.free->∃c,env.cells.lookup y.1=some c):closureFor sc env=pure (j5 env.cells sc.names []):=by unfold closureFor;rw[<-TZ sc.names [] h];show (forIn sc.names [] _ >>= λcs=>pure cs)=_;rw[bind_pure]
theorem XX:∀(names:List (Str×NameKind)) (acc:List (Str×Addr)) {c:Addr},(j5 cells names acc).lookup x=some c->acc.lookup x=some c\/((x,v8)∈names/\c=(cells.lookup x).getD 0)
 |[],acc,c,h=>.inl h
 |(n,k)::r,acc,c,h=>by
  unfold j5 at h;rcases XX r _ h with h1|⟨h,e⟩
  .clear h;have h:=h1;clear h1
   cases hk:k==v8 with
   |false=>rw[hk] at h;exact .inl (by simpa using h)
   |true =>
    rw[hk] at h;simp only[if_true] at h;have ek:k=.free:=by simpa using hk
    cases hx:x==n with
    |true =>
     simp only[qH,hx] at h;have e:x=n:=by simpa using hx
     subst e ek;exact .inr ⟨nA,(gY h).symm⟩
    |false => simp only[qH,hx] at h;exact .inl h
  .exact .inr ⟨mZ _ h,e⟩
theorem Yu:∀(names:List (Str×NameKind)) (acc:List (Str×Addr)),((∃c,acc.lookup x=some c)\/(x,v8)∈names)->∃c,(j5 cells names acc).lookup x=some c
 |[],acc,h=>h.elim id λz=>nomatch z
 |(n,k)::r,acc,h=>by
  unfold j5;refine Yu r _ ?_
  cases hk:k==v8 with
  |false =>
   rcases h with h|h;.exact .inl (by simpa using h)
   .rcases iF.mp h with e | h;.cases e;simp at hk
    .exact .inr h
  |true =>
   simp only[if_true]
   cases hx:x==n with
   |true=>exact .inl ⟨_,by simp only[qH,hx];rfl⟩
   |false =>
    rcases h with⟨c,h⟩|h;.exact .inl ⟨c,by simp only[qH,hx];exact h⟩
    .rcases iF.mp h with e | h;.cases e;simp at hx
     .exact .inr h
structure fS(N:List Str)(sc:Scope)(N':List Str)(caps:List Nat)(nt:Nat)(eF:Scope):Prop where
 kind:eF.kind=.function
 loc:∀y∈eF.names,y.2=.local->eF.names.lookup y.1=some .local
 Ap:∀y∈eF.names,y.2≠.cell
 free:∀y∈eF.names,y.2=.free->sc.names.lookup y.1=some .cell\/sc.names.lookup y.1=some .free
 nd:N'.Nodup
 len:N'.length=nt+caps.length
 cap:caps.map (λi=>N[i]?)=(N'.drop nt).map some
 fr:∀x∈N'.drop nt,eF.names.lookup x=some .free
theorem TY{names:List (Str×NameKind)}{x:Str}(h:names.lookup x=some k):(x,k)∈names:=GZ h
noncomputable def sv:List Nat->En->Option En
 |[],_=>some []
 |i::is,env=>match env[i]? with
  |some (.sh d)=>(sv is env).map (Sl.sh d::·)
  |_=>none
noncomputable def pU(g:GF)(fc:En->Option Bool)(fe:En->Option Sl):List D->En->Option (List D)
 |[],_=>some []
 |d::ds,e=>(g d e).bind λe1=>(fc e1).bind λb=>if b=true then (fe e1).bind λr=>(pU g fc fe ds e1).bind λrs=>some (r.d::rs) else pU g fc fe ds e1
noncomputable def nQ(fi:En->Option (List D))(caps:List Nat)(nt:Nat)(g:GF)(fc:En->Option Bool)(fe:En->Option Sl):En->Option Sl:=λenv =>
 (fi env).bind λds=>(sv caps env).bind λcs=>if ds.length<=16777216 then (pU g fc fe ds (pE nt Sl.no++cs)).map Sl.ow else none
noncomputable def ji:List Nat->L2.St->L2.St
 |[],_=>[]
 |i::is,σ=>(σ[i]?).getD none::ji is σ
theorem Xt{K:aG}{O:Addr->Prop}{B:Hp}{σ:L2.St}{H:Hp}{env:En}(R:Rel K O B σ H env):∀{caps:List Nat} {cs:En},sv caps env=some cs->cs.length=caps.length/\(ji caps σ).length=caps.length /\
  ∀(j:Nat) (s:Sl),cs[j]?=some s->∃(d:D) (v:V) (i:Nat),s=Sl.sh d/\(ji caps σ)[j]?=some (some v)/\Is K (OO O σ env) H v d/\caps[j]?=some i/\σ[i]?=some (some v)
 |[],cs,e=>by cases e;exact⟨rfl,rfl,λj s h=>by simp at h⟩
 |i::is,cs,e=>by
  unfold sv at e
  cases h:env[i]? with
  |none=>rw[h] at e;cases e
  |some s =>
   rw[h] at e
   cases s with
   |no=>cases e
   |ow ds=>cases e
   |dw ds=>cases e
   |tw _ _=>cases e
   |sh d =>
    obtain⟨cs',e1,rfl⟩:=map_some (show (sv is env).map (Sl.sh d::·)=some cs from e);obtain⟨l1,l2,ih⟩:=Xt R e1;obtain⟨v,hv,hi⟩:=R.sh i d h;refine⟨by simp[l1],by simp[ji,l2],λj s hj=>?_⟩
    cases j with
    |zero=>simp at hj;subst hj;exact⟨d,v,i,rfl,by simp[ji,hv],hi,rfl,hv⟩
    |succ j => obtain⟨d',v',i',a1,a2,a3,a4,a5⟩:=ih j s (by simpa using hj);exact⟨d',v',i',a1,by simpa[ji] using a2,a3,by simpa using a4,a5⟩
inductive LU (X:Cx) (ifs:List Expr) (f:En->Option Bool):Prop
 | mk (t:TT) (p:(∀(pins:List (Addr×Obj)) (s:Shared) (σ:L2.St) (H:Hp) (Q:Bool->Hp->Prop),Inv X pins σ H s->t σ H Q ->
   wpAny (model X.prog X.w) X.A (forIn ifs true λc r=>if r=true then do let ok <-isTrue c X.env (eval c X.env);pure (GJ ok) else pure (GJ r)) (TP X pins σ Q) X.xe s)) (k:∀(O:Addr->Prop) (B:Hp) (σ:L2.St) (H:Hp) (env:En) (b:Bool) (Q:Bool->Hp->Prop),Rel X.K O B σ H env->f env=some b->(∀H',az H H'->Q b H')->t σ H Q)
noncomputable def sE:En->Option Bool:=λ_=>some true
theorem F2:LU X [] sE:=⟨λ_ H Q=>Q true H,λpins s σ H Q I h=>wpAny_tests_nil ⟨H,I,h⟩,λO B σ H env b Q R e q=>by cases e;exact q H (az.refl _)⟩
section
variable {prog:Program}{w:World}{A:Around}{R:Result->Shared->Prop}{s:Shared}
theorem b1n{elt target iter:Expr}{ifs:List Expr}{scope:Scope}{pos:Pos}{it acc:Value}{env:Env}(I:Nat->Shared->Prop){N:Value->Shared->Prop}(hN:∀x s',N x s'->False)
  (turn:∀n s,I n s->wpAny (model prog w) A (pyNext it) (λr bT=>match r with
   |none=>R (.ok .next) bT
   |some v=>wpAny (model prog w) A (letOwnedTupleGo target it v) (λ_ DD=>wpAny (model prog w) A (assign target env v) (λ_ uw =>
     wpAny (model prog w) A (forIn ifs true λc r=>if r=true then do let ok <-isTrue c env (eval c env);pure (GJ ok) else pure (GJ r)) (λok zU =>
      if ok=true then wpAny (model prog w) A (eval elt env) (λx Iu =>
       wpAny (model prog w) A (call (.builtin "list.append") [acc,x]) (λ_ Ir=>∃m,m<n/\I m Ir) N Iu) N zU
      else ∃m,m<n/\I m zU) N uw) N DD) N bT) N s)
  (n:Nat)(h:I n s):
  codeAny (model prog w) A (.compLoop (.ListComp elt [⟨target,iter,ifs,0⟩] scope pos) 0 it acc env) R s:=by
 refine codeAny_loop rfl I (λn s hI=>?_) n h;show wpAny _ A ((compTurn (.ListComp elt [⟨target,iter,ifs,0⟩] scope pos) 0 it acc env).onRaise (λx=>do noteFrame x env;theTreesLotGoes x)) _ _ s;refine wpAny_noted ?_;rw[compTurn_list];have no:∀{P:Value->Shared->Prop} (x:Value) (s':Shared),N x s'->P x s':=λx s' z=>(hN x s' z).elim;refine eN (wpAny_standAt (eN (mW (turn n s hI) (λr bT qx=>?_) no)))
 cases r with
 |none=>exact jb qx
 |some v =>
  refine eN (mW qx (λ_ DD JE=>?_) no);refine eN (mW JE (λ_ uw Qk=>eN (mW Qk (λok zU JD=>?_) no)) no)
  cases ok with
  |false=>exact jb ⟨rfl,JD⟩
  |true => exact eN (eN (mW JD (λx Iu Qj=>eN (mW Qj (λ_ Ir Qi=>jb (jb ⟨rfl,Qi⟩)) no)) no))
end
section
variable {X:Cx}{N N':List Str}{sc eF:Scope}{k:Nat}{full:Bool}{elt iter tg:Expr}{ifs:List Expr}{pos:Pos}{fi:En->Option (List D)}{caps:List Nat}{nt:Nat}{g:GF}{fc:En->Option Bool}{fe:En->Option Sl}
noncomputable def CH(X:Cx)(N':List Str)(eF:Scope)(ex:List Addr)(s:Shared)(H:Hp):Cx where
 prog:=X.prog
 w:=X.w
 K:=X.K
 mg:=X.mg
 base:=X.base
 A:=X.A
 N:=N'
 dZ:=s
 Bz:=H
 env:=compEnvC eF (j5 X.env.cells eF.names []) s.heap.objs.size X.env
 outer:=X.stack
 stack:=X.stack
 ex:=ex
 fn:=λ_=>false
 calm:=true
 pn:=[]
 xe:=λ_ _=>False
theorem D5(C:fS N sc N' caps nt eF)(yz:X.env.scope=sc){pins:List (Addr×Obj)}{σ:L2.St}{H:Hp}{s:Shared}(I:Inv X pins σ H s){x:Str}{c:Addr}(h:(j5 X.env.cells eF.names []).lookup x=some c):X.env.cells.lookup x=some c:=by
 rcases XX _ _ h with h|⟨h,e⟩;.simp at h
 .obtain ⟨c',BF⟩:=I.ok.has x (by show X.env.scope.names.lookup x=_\/X.env.scope.names.lookup x=_;rw[yz];exact C.free _ h rfl);rw[BF] at e;rw[e];exact BF
theorem WK(h:eF.names.lookup x=some .free):∃c,(j5 X.env.cells eF.names []).lookup x=some c:=Yu _ _ (.inr (TY h))
theorem b5I(C:fS N sc N' caps nt eF)(yz:X.env.scope=sc)(hc:X.calm=true){pins:List (Addr×Obj)}{σ:L2.St}{H:Hp}{s s3:Shared}{fp:List Addr}(I:Inv X pins σ H s)(I3:Inv X pins σ H s3)
  (hf:∀b∈fp,lP X pins H b)(JN:∀b∈fp,∃o,s3.heap.get? b=some o)(hs:s3.heap.objs.size=s.heap.objs.size+1):(CH X N' eF (s.heap.objs.size::fp) s3 H).Ok:=by
 have small:∀x c,X.env.cells.lookup x=some c->c<s.heap.objs.size:=λx c e=>by obtain⟨v,z⟩:=I.cell x c e;exact z.lt
 have kd:∀x,((CH X N' eF (s.heap.objs.size::fp) s3 H).env.kindOf x=some .cell\/(CH X N' eF (s.heap.objs.size::fp) s3 H).env.kindOf x=some .free)->eF.names.lookup x=some .free:=λx h=>by
  have h':∃k,(rl eF X.env.scope).names.lookup x=some k/\(k=.cell\/k=.free):=h.elim (λz=>⟨_,z,.inl rfl⟩) λz=>⟨_,z,.inr rfl⟩;obtain⟨k,e,hk⟩:=h';obtain⟨k',e1,e2⟩:=b2M e;have nc:k'≠.cell:=C.Ap _ (TY e1);by_cases DO:(k'==v8&&X.env.scope.kind==.function&&X.env.scope.names.lookup x==some .cell)=true
  .have:k'=.free:=by have:=(jN _ _▸(jN _ _▸DO).1).1;simpa using this
   rw[e1,this]
  .rw [if_neg DO] at e2;subst e2;rcases hk with rfl | rfl;.exact (nc rfl).elim
   .exact e1
 refine⟨I.ok.mod,C.kind,I.ok.glob,I.ok.blt,fQ _,λx y c h1 h2=>I.ok.inj x y c (D5 C yz I h1) (D5 C yz I h2),λx h=>WK (kd x h),λ_ _ (z:false=true) _=>(nomatch z),λ_=>I.ok.hd hc,I.ok.frames,.inl rfl,λb hb=>⟨?_,λx c e=>?_⟩,λb o e=>?_,?_,λb o e hb=>?_,λb hb Ct=>?_,I3.stack,λb hb=>I.jT b hb⟩
 .show b≠s3.heap.objs.size;rcases iF.mp hb with rfl | hb;.rw [hs];exact lb (A1 _)
  .obtain ⟨o,e⟩:=JN b hb;exact lb (ij e)
 .have e':=D5 C yz I e;rcases iF.mp hb with rfl | hb;.exact lb (small x c e')
  .exact (hf b hb).2.2.2.2.1 x c e'
 .exact I3.bs b o e
 .exact iV I.ok.A3 I3.sz
 .have lt:b<X.base.objs.size:=ij e;have h0:=I.ok.A3;have h1:=I.sz;rcases iF.mp hb with rfl | hb;.exact absurd (oC lt (iV h0 h1)) (BL _)
  .rcases (hf b hb).2.2.2.1 with z | z;.exact I.ok.rU b o e z
   .exact absurd (oC lt (iV h0 z)) (BL _)
 .rcases iF.mp hb with rfl | hb;.obtain ⟨_,o,ho,_⟩:=I.stack.mem Ct;exact absurd (ij ho) (BL _)
  .rcases iF.mp (I.iM b Ct) with z | z;.exact (hf b hb).2.1 z
   .exact (hf b hb).2.2.1 z
theorem S2{α:Type}{n j:Nat}{x y:α}{l:List α}(h:(pE n x++l)[j]?=some y):y=x\/(n<=j/\l[j-n]?=some y):=by
 by_cases hj:j<n;.rw [KO (by simpa using hj),FK,if_pos hj] at h;exact .inl (gY h).symm
 .rw [MN (by simpa using hj),MK] at h;exact .inr ⟨by omega,h⟩
theorem b4B(C:fS N sc N' caps nt eF)(yz:X.env.scope=sc)(hN:X.N=N)(hc:X.calm=true){pins:List (Addr×Obj)}{σ:L2.St}{H:Hp}{s s3 s4:Shared}{fp:List Addr}(I:Inv X pins σ H s)(I3:Inv X pins σ H s3)
  (hf:∀b∈fp,lP X pins H b)(JN:∀b∈fp,∃o,s3.heap.get? b=some o)(hs:s3.heap.objs.size=s.heap.objs.size+1)
  (E3:s4.os=s3.os)(hg:s4.gens=s3.gens)(hk:∀b o,s3.heap.get? b=some o->s4.heap.get? b=some o)(E6:s4.heap.Ns s3.heap.objs.size λ_=>none):
  Inv (CH X N' eF (s.heap.objs.size::fp) s3 H) [] (pE nt none++ji caps σ) H s4:=by
 have sl:∀(caps:List Nat) (σ:L2.St),(ji caps σ).length=caps.length:=λcaps σ=>by
  induction caps with
  |nil=>rfl
  |cons i r ih=>simp[ji,ih]
 have sg:∀(caps:List Nat) (σ:L2.St) (j:Nat) (v:V),(ji caps σ)[j]?=some (some v)->∃i,caps[j]?=some i/\σ[i]?=some (some v):=λcaps σ=>by
  induction caps with
  |nil=>intro j v h;simp[ji] at h
  |cons i r ih =>
   intro j v h
   cases j with
   |zero =>
    have h':(σ[i]?).getD none=some v:=by simpa[ji] using h
    refine⟨i,rfl,?_⟩
    cases e:σ[i]? with
    |none=>rw[e] at h';cases h'
    |some o=>rw[e] at h';exact congrArg some h'
   |succ j => obtain⟨i',e1,e2⟩:=ih j v (by simpa[ji] using h);exact⟨i',by simpa using e1,e2⟩
 refine⟨b5I C yz hc I I3 hf JN hs,E3,by rw[hg];exact I3.bare,Un.kept hk,⟨_,E6,λi x v h1 h2 h3=>?_⟩,λx c e=>?_,I3.cM.fresh (fQ _),λx c e=>I3.eG x c (D5 C yz I e),λp hp=>absurd (show p∈([]:List (Addr×Obj)) from hp) (by simp),I3.cM.kept hk,?_⟩
 .have h1:N'[i]?=some x:=h1;rcases S2 h2 with z | ⟨hi,h2⟩;.cases z
  .obtain ⟨i',e1,e2⟩:=sg caps σ _ v h2;have hd:(N'.drop nt)[i-nt]?=some x:=by rw[Rm,Nat.add_sub_cancel' hi];exact h1
   have hm:=congrArg (λl=>l[i-nt]?) C.cap;simp only[zp,e1,hd,Option.map_some] at hm;have hN':X.N[i']?=some x:=by rw[hN];exact gY hm
   have JM:=C.fr x (MW hd);have mL:=C.free _ (TY JM) rfl;obtain⟨m,hn,hl⟩:=I3.loc;obtain⟨u,r,l⟩:=hl i' x v hN' e2 (by rw[yz];exact .inr mL);refine⟨u,r,.inr ⟨?_,?_⟩⟩
   .have e:=TM (sc:=X.env.scope) JM;show (rl eF X.env.scope).names.lookup x=_\/(rl eF X.env.scope).names.lookup x=_;have e':(rl eF X.env.scope).names.lookup x=_:=e;rw[e'];split;.exact .inl rfl
    .exact .inr rfl
   .rcases l with⟨k,_⟩ | ⟨k,c,e,z⟩;.exfalso;have k:X.env.scope.names.lookup x=some .local:=k;rw[yz] at k;dsimp only at mL;rw[k] at mL;rcases mL with z | z<;>cases z
    .obtain ⟨c',BF⟩:=WK (X:=X) JM;have:=D5 C yz I BF;rw[e] at this;cases this;exact⟨c,BF,z.keeps hk⟩
 .obtain ⟨v,z⟩:=I3.cell x c (D5 C yz I e);exact⟨v,z.keeps hk⟩
 .show (pE nt none++ji caps σ).length=N'.length;rw[mU,MK,sl,C.len]
theorem b4O(r:aR xs us):xs.length=us.length:=r.length
theorem b4A{pins pl:List (Addr×Obj)}{σ aH:L2.St}{H2 H':Hp}{s2 s3 s1:Shared}{fp:List Addr}{h':Heap}{xs:List V}{ys:List Value}(I2:Inv X pins σ H2 s2)(hs3:s3.os=s2.os)(JU:∀b o,s2.heap.get? b=some o->s3.heap.get? b=some o)
  (hsz:s3.heap.objs.size=s2.heap.objs.size+1)(f2:∀b∈fp,lP X pins H2 b)(I':Inv (CH X N' eF (s2.heap.objs.size::fp) s3 H2) pl aH H' s1)(sb:Ku s3.heap.objs.size s1.heap h')
  (hn:H' s2.heap.objs.size=none)(hl:∃n,s1.heap.get? s2.heap.objs.size=some { cls:=.type "list",data:=.seq ys.toArray n })(hv:aR xs ys)(hz:xs.length<=sizeLine):
  Inv X pins σ (upd H' s2.heap.objs.size (.lst xs)) { s1 with heap:=h' }:=by
 have ltC:∀b,b<s3.heap.objs.size->b≠s3.heap.objs.size:=λb h=>lb h;have Vh:∀b,b<s2.heap.objs.size->b≠s2.heap.objs.size:=λb h=>lb h;have out:∀b o,s2.heap.get? b=some o->b∉fp->b∉s2.heap.objs.size::fp:=λb o e n z=>(iF.mp z).elim (Vh b (ij e)) n;have hC:H' s3.heap.objs.size=none:=I'.free;have up:∀b o,s2.heap.get? b=some o->∀o',s1.heap.get? b=some o'->h'.get? b=some o':=λb o e o' e'=>(sb.2 b (ltC b (ij (JU b o e)))).trans e';have Jp:∀b u,H' b=some u->b≠s2.heap.objs.size:=λb u e z=>by rw[z,hn] at e;cases e
 have u:=I'.base;refine I2.A0 (s':={ s1 with heap:=h' }) (ch:=fp) (I'.os.trans hs3) ⟨λb o e n hb hx=>?_,λb o e n hb hx=>?_,λb o e n hx=>?_,λb o e hx=>?_,λb zs e=>?_,λb o v e=>?_,λb ps e=>?_⟩ (λb v e=>?_) I'.bare (λb hb=>?_);.exact up b o e o (u.keep b o (JU b o e) n hb (out b o e hx))
 .obtain ⟨sl,e1⟩:=u.slot b o (JU b o e) n hb (out b o e hx);exact⟨sl,up b o e _ e1⟩
 .rw [eX (Vh b (ij e))];exact u.free b o (JU b o e) n (out b o e hx)
 .obtain ⟨o',e1⟩:=u.there b o (JU b o e) (out b o e hx);exact⟨o',up b o e _ e1⟩
 .have:=u.jR b zs e;rw[eX (Jp b _ this)];exact this
 .have:=u.jE b o v e;rw[eX (Jp b _ this)];exact this
 .obtain ⟨more,this⟩:=u.jS b ps e;exact⟨more,by rw[eX (Jp b _ this)];exact this⟩
 .by_cases hb:b=s2.heap.objs.size;.subst hb;rw[ni] at e;cases e;obtain⟨n,e1⟩:=hl;exact⟨hz,ys,n,hv,(sb.2 _ (by rw[hsz];exact lb (A1 _))).trans e1⟩
  .rw [eX hb] at e;refine(I'.cM b v e).oV (λc w hc q=>(sb.2 c ?_).trans q) (λc _ _ q=>by rw[eX (Jp c _ q)];exact q) λc zs q=>by rw[eX (Jp c _ q)];exact q
   rintro rfl;rcases hc with z|z;.rw [<-z,hC] at e;cases e
   .rw [hC] at z;cases z
 .obtain ⟨_,g1,_,g3,g4,g5⟩:=f2 b hb;exact⟨g3,g1,g4,g5⟩
inductive CI (Y:Cx) (ds:List D) (tn:Nat->Heap->Prop) (fp:List Addr) (a:Addr) (O:Addr->Prop) (H2:Hp) (sR:L2.St) (ig:En) (L:List D->En->Option (List D)) (rs:List D) (n:Nat) (s:Shared):Prop
 | mk (i:Nat) (σ:L2.St) (H:Hp) (env:En) (ys:List Value) (xs:List V) (ED L3:List D) (hn:n=ds.length-i) (hi:i<=ds.length) (J:Inv Y [] σ H s) (st:tn i s.heap) (fr:∀b∈fp,H b=none) (ha:H a=none)
  (pl:s.heap.PlainList a ys.toArray) (vx:aR xs ys) (R:Rel Y.K O H2 σ H env) (gd:Gd sR ig H2 σ env H) (is:aU Y.K (OO O σ env) H xs ED) (cl:L (ds.drop i) env=some L3) (hr:ED++L3=rs) (h1:ED.length<=i)
theorem b4s{Y:Cx}{ds:List D}{tn:Nat->Heap->Prop}{fp:List Addr}{a it:Addr}{O:Addr->Prop}{H2:Hp}{sR:L2.St}{ig:En}{rs:List D}{J:It}{LN:Result->Shared->Prop}
  (T:Turn Y.prog Y.w Y.K tg J fp it tn)(Vt:Y.calm=true)(hx:Y.xe=λ_ _=>False)(hlen:ds.length<=16777216)(hg:GV Y tg g)(hc:LU Y ifs fc)(he:EV Y elt fe)(wk:Ha Y.K O J H2 ds)
  (EO:∀(i:Nat) (es:Sl),ig[i]?=some es->es.own->False)(na:∀b∈fp,b≠a)(QM:∀(H':Hp) (pl:List (Addr×Obj)),(∀b∈fp,H' b=none)->(∀p∈pl,∀b∈fp,p.1≠b)->∀b∈fp,lP Y pl H' b)
  (aL:a≠Y.env.locals)(aF:a∉Y.fs)(aX:a∈Y.ex)(aC:∀x c,Y.env.cells.lookup x=some c->c≠a)(aP:∀p∈Y.pn++[],p.1≠a)
  (fin:∀(pl:List (Addr×Obj)) (σ:L2.St) (H:Hp) (env:En) (ys:List Value) (xs:List V) (s:Shared),Inv Y pl σ H s->H a=none->s.heap.PlainList a ys.toArray->aR xs ys->az H2 H->aU Y.K (OO O σ env) H xs rs->rs.length<=ds.length->LN (.ok .next) s)
  {n:Nat}{s:Shared}(h:CI Y ds tn fp a O H2 sR ig (pU g fc fe) rs n s):codeAny (model Y.prog Y.w) Y.A (.compLoop (.ListComp elt [⟨tg,iter,ifs,0⟩] eF pos) 0 (.ref it) (.ref a) Y.env) LN s:=by
 obtain⟨DB,pg,kg⟩:=hg;obtain⟨tc,pc,kc⟩:=hc;obtain⟨te,pe,ke⟩:=he;refine b1n (N:=λ_ _=>False) (CI Y ds tn fp a O H2 sR ig (pU g fc fe) rs) (λ_ _ z=>z) (λn s3 h=>?_) n h;obtain⟨i,ma,H3,AF,ys,xs,ED,L3,rfl,hi,J3,Iv,J4,ha3,U2,vx,R3,QG,Mc,Kl,Md,Me⟩:=h;have IX:Inv Y (C5 [a] s3.heap) ma H3 s3:=J3.j0 λp hp=>by obtain⟨hb,e⟩:=TH hp;obtain⟨n,en⟩:=U2;rw[BK.mp hb] at e ⊢;rw[en] at e;exact⟨en.trans e,ha3,aL,aF,λv z=>by rw[<-gY e] at z;cases z⟩
 have apart:∀p∈C5 [a] s3.heap,∀b∈fp,p.1≠b:=λp hp b hb z=>na b hb (z.symm.trans (BK.mp (TH hp).1));have A8:∀{pl:List (Addr×Obj)} {aH:L2.St} {H':Hp} {s':Shared},Inv Y pl aH H' s'->(∀p∈C5 [a] s3.heap,p∈pl)->s'.heap.PlainList a ys.toArray/\H' a=none:=λ{pl aH H' s'} J Qn=>by obtain⟨n,en⟩:=U2;obtain⟨q1,q2,_⟩:=J.pin _ (A2 _ (Qn _ (Lw (fp:=[a]) nA en)));exact⟨⟨n,q1⟩,q2⟩
 have w:=wk (OO O ma AF) H3 (λq u eq nq=>by obtain⟨h1,h2⟩:=QG q u eq λ⟨i,es,e,o,_⟩=>EO i es e o;exact⟨h1,λz=>z.elim nq h2⟩) (λq=>R3.oo) i;clear wk;by_cases k9:i<ds.length
 .obtain ⟨go,yl⟩:=w.1 ds[i] (v5 k9);rw[V0 k9,pU] at Kl;obtain⟨pd,c1,c2⟩:=bind_some Kl;obtain⟨b,c2,c3⟩:=bind_some c2;clear Kl w;refine cU (T.item Y rfl rfl rfl Vt i _ s3 ma H3 (λ_ _=>False) IX (QM _ _ J4 apart) Iv go) λr s4 ⟨u,hr,h4⟩=>?_;subst hr;refine cU h4 λ_ s5 ⟨x,H5,I5,r5,y5,EB,QL⟩=>?_;obtain⟨U1,hx5⟩:=yl x H5 y5;have UK:=I5.pinned (QM _ _ QL apart) (T.obj _ _ EB);have DI:∀{aH:L2.St} {H':Hp} {s':Shared},Inv Y (C5 [a] s3.heap++C5 fp s5.heap) aH H' s'->tn (i+1) s'.heap/\∀b∈fp,H' b=none:=λ{aH H' s'} J=>by refine⟨T.keep _ _ _ EB λb hb o e=>(J.pin (b,o) (A2 _ (A2 _ (Lw hb e)))).1,λb hb=>?_⟩;obtain⟨o,e,_⟩:=T.obj _ _ EB b hb;exact(J.pin (b,o) (A2 _ (A2 _ (Lw hb e)))).2.1
  have U4:=pg _ s5 ma H5 x u _ UK r5 (kg O H2 ma H5 AF pd x ds[i] (λsQ H6=>Rel Y.K O H2 sQ H6 pd/\Gd ma AF H5 sQ pd H6) (R3.grow U1) hx5 c1 λsQ H6 R6 g6=>⟨R6,g6⟩);rw[hx] at U4;refine cU U4 λ_ s6 ⟨sQ,H6,I6,R6,g6⟩=>?_;have U6:=pc _ s6 sQ H6 (λb' H'=>b'=b/\az H6 H') I6 (kc O H2 sQ H6 pd b _ R6 c2 λH' s'=>⟨rfl,s'⟩);rw[hx] at U6;refine cU U6 λok s7 ⟨H7,I7,cM,U0⟩=>?_;subst cM;have R7:=R6.grow U0;have g7:Gd ma AF H3 sQ pd H7:=(Gd.refl U1).trans (g6.trans (Gd.refl U0));have hm:ds.length-(i+1)<ds.length-i:=Nat.sub_lt_sub_left k9 (A1 _)
  cases ok with
  |false => obtain⟨st7,fr7⟩:=DI I7;obtain⟨pl7,ha7⟩:=A8 I7 λp hp=>KC _ hp;exact⟨_,hm,i+1,sQ,H7,pd,ys,xs,ED,L3,rfl,k9,I7.j0 (λ_ z=>nomatch z),st7,fr7,ha7,pl7,vx,R7,QG.trans g7,g7.Jz Mc,c3,Md,Nat.le_succ_of_le Me⟩
  |true =>
   obtain⟨r,d3,d4⟩:=bind_some c3;obtain⟨rs3,d5,d6⟩:=bind_some d4;clear c3 d4;cases d6;have U5:=pe _ s7 sQ H7 (λv H'=>az H7 H'/\Is Y.K (OO O sQ pd) H' v r.d) I7 (ke O H2 sQ H7 pd r _ R7 d3 λv H' s' rr=>⟨s',rr.is λp=>R7.oo⟩);rw[hx] at U5;refine cU U5 λy s8 ⟨v,H8,I8,ry,Pp,hv⟩=>?_;obtain⟨st8,fr8⟩:=DI I8;obtain⟨pl8,Vv⟩:=A8 I8 λp hp=>KC _ hp;have hyl:ys.length=ED.length:=by rw[<-b4O vx,Mc.length]
   refine wpAny_list_append_plain (hsz:=by rw[lI,hyl,kM];exact iV Me (iV hi hlen)) pl8 λh' pl9 UY=>?_;exact⟨_,hm,i+1,sQ,H8,pd,ys++[y],xs++[v],ED++[r.d],rs3,rfl,k9,(I8.j0 (pins':=[]) λ_ z=>nomatch z).turned (t':=s8.toks) (it:=a) (λb o hb e=>(UY.2 b hb).trans e) Vv aL (.inl aX) aC aP,T.keep _ _ _ st8 λb hb o e=>(UY.2 b (na b hb)).trans e,fr8,Vv,by simpa using pl9,vx.append (.cons ry .nil),R7.grow Pp,QG.trans (g7.trans (Gd.refl Pp)),((g7.Jz Mc).grow Pp).append (.cons hv .nil),d5,by rw[<-Md,pG];rfl,by rw[mU];exact Nat.succ_le_succ Me⟩
 .refine cU (T.done Y rfl rfl rfl Vt i _ s3 ma H3 (λ_ _=>False) IX (QM _ _ J4 apart) Iv (w.2 (Q9 k9))) λr s4 ⟨hr,Z7⟩=>?_;subst hr;obtain⟨PM,JS⟩:=A8 Z7 λp hp=>hp;rw[Wb (Q9 k9),pU] at Kl;cases Kl;rw[qJ] at Md;subst Md;exact fin _ ma H3 AF ys xs s4 Z7 JS PM vx R3.same Mc (iV Me hi)
theorem Yv(h:Fx X N sc k full)(C:fS N sc N' caps nt eF){wi:TI}(pi:PI X tg iter wi)(ki:∀(O:Addr->Prop) (B:Hp) (σ:L2.St) (H:Hp) (env:En) (ds:List D) (R:It->Hp->Prop),Rel X.K O B σ H env->fi env=some ds->(∀J H',az H H'->Ha X.K (OO O σ env) J H' ds->R J H')->wi σ H R)
  (hb:∀X':Cx,X'.prog=X.prog->X'.w=X.w->X'.K=X.K->X'.mg=X.mg->X'.base=X.base->Fx X' N' (rl eF sc) k false->GV X' tg g/\LU X' ifs fc/\EV X' elt fe)
  (Ct:∀x,foldedSetIterable iter X.env x=pure x){pins:List (Addr×Obj)}{s:Shared}{σ:L2.St}{H:Hp}(I:Inv X pins σ H s){O:Addr->Prop}{B:Hp}{env:En}{r:Sl}(R:Rel X.K O B σ H env)(e:nQ fi caps nt g fc fe env=some r)
  {use:Option (Value->Sem Unit)}{QQ:Value->Shared->Prop}
  (fin:∀(C0 p:Addr) (H':Hp) (s':Shared),(∃m,s'.heap.Ns C0 m)->lP X pins H' C0->(∀h',Ku C0 s'.heap h'->Inv X pins σ H' { s' with heap:=h' })->az H H'->Res X.K (OO O σ env) H H' (.ref p) r ->
   compPost (model X.prog X.w) X.A X.xe use QQ (.ref p) C0 (.ok .next) s'):
  wpAny (model X.prog X.w) X.A (comprehension (.ListComp elt [⟨tg,iter,ifs,0⟩] eF pos) eF X.env (firstIterPos [⟨tg,iter,ifs,0⟩] pos) (newList []) (firstAsync [⟨tg,iter,ifs,0⟩]) (firstIter [⟨tg,iter,ifs,0⟩] X.env) use) QQ X.xe s:=by
 obtain⟨ds,e1,e2⟩:=bind_some e;obtain⟨cs,e3,e4⟩:=bind_some e2;clear e e2;by_cases hlen:ds.length<=16777216;case neg=>rw[if_neg hlen] at e4;cases e4
 rw[if_pos hlen] at e4;obtain⟨rs,e5,rfl⟩:=map_some e4;clear e4;have DP:closureFor eF X.env=pure (j5 X.env.cells eF.names []):=a9A λy hy hf=>I.ok.has y.1 (by show X.env.scope.names.lookup y.1=_\/X.env.scope.names.lookup y.1=_;rw[h.sc];exact C.free y hy hf);have Vo:=pi pins s σ H (λJ H'=>az H H'/\Ha X.K (OO O σ env) J H' ds) I (ki O B σ H env ds _ R e1 λJ H' s' wk=>⟨s',wk⟩);refine wpAny_comprehension_free (use:=use) rfl Ct DP C.kind C.loc (cU Vo λxv s1 h1=>cU h1 λQe s2 h2=>?_);clear Vo h1 DP Ct e1 ki pi;obtain⟨it,fp,tn,J,H2,rfl,I2,T,Gv,f2,Cg,wk⟩:=h2;refine Ky (wpAny_newFunctionEnv C.Ap (by intro y hy;simp at hy) (λqx rY mJ=>?_) C.kind);dsimp only at rY mJ ⊢;generalize Mp:s2.heap.push { cls:=.type "list",dict:=none,data:=.seq ([]:List Value).toArray }=H3 at rY mJ ⊢;have hsz:H3.objs.size=s2.heap.objs.size+1:=by rw[<-Mp,KI]
 have Ma:∀b o,s2.heap.get? b=some o->H3.get? b=some o:=λb o e=>by rw[<-Mp];exact ky _ e
 have k33:qx.get? s2.heap.objs.size=some { cls:=.type "list",dict:=none,data:=.seq ([]:List Value).toArray }:=mJ.extBut _ _ (by rw[hsz];exact lb (A1 _)) (ky _ (by rw[<-Mp];exact qI _ rfl));have Vj:∀b o,H3.get? b=some o->qx.get? b=some o:=λb o e=>mJ.extBut b o (lb (ij e)) (ky _ e);clear Mp mJ;have I3:Inv X pins σ H2 { s2 with heap:=H3 }:=I2.kept (t':=s2.toks) Ma;have Jo:∀b∈fp,b<s2.heap.objs.size:=λb hb=>by obtain⟨o,eo,_⟩:=T.obj 0 _ Gv b hb;exact ij eo
 have JN:∀b∈fp,∃o,H3.get? b=some o:=λb hb=>by obtain⟨o,eo,_⟩:=T.obj 0 _ Gv b hb;exact⟨o,Ma b o eo⟩
 have R2:=R.grow Cg;obtain⟨lc,ls,cg⟩:=Xt R2 e3;have Vr:s2.heap.objs.size<=H3.objs.size:=by rw[hsz];exact Nat.le_succ _
 have QD:H2 s2.heap.objs.size=none:=I2.cM.fresh (fQ _)
 have qs:∀(i:Nat) (es:Sl),(pE nt Sl.no++cs)[i]?=some es->es.own->False:=λi es e o=>by
  rcases S2 e with z|⟨_,z⟩;.cases z;exact o
  .obtain ⟨d,_,_,z,_⟩:=cg _ _ z;cases z;exact o
 have QC:=hb (CH X N' eF (s2.heap.objs.size::fp) { s2 with heap:=H3 } H2) rfl rfl rfl rfl rfl ⟨rfl,by show rl eF X.env.scope=_;rw[h.sc],rfl,λz=>(nomatch z),BJ,h.room,C.nd,λz=>(nomatch z)⟩
 have R0:Rel X.K (OO O σ env) H2 (pE nt none++ji caps σ) H2 (pE nt Sl.no++cs):=by
  have noOwn:∀p,¬lN (pE nt none++ji caps σ) (pE nt Sl.no++cs) p:=λp ⟨i,es,e,o,_⟩=>qs i es e o;refine⟨az.refl _,R2.dm,by simp[lc,ls],λi d e=>?_,λi es e=>(qs i _ e trivial).elim,λi es e=>(qs i _ e trivial).elim,λi ks es e=>(qs i _ e trivial).elim,λi j es fs p e _ _ _ o=>(qs i es e o).elim⟩;rcases S2 e with z|⟨hi,z⟩;.cases z
  .obtain ⟨d',v,i',z1,z2,z3,_⟩:=cg _ _ z;cases z1;refine⟨v,?_,z3.less λp hp=>hp.elim id λz=>(noOwn p z).elim⟩;rw[MN (by simpa using hi),MK];exact z2
 clear cg lc ls e3;have kk:∀b∈fp,∀o,s2.heap.get? b=some o->qx.get? b=some o:=λb _ o e=>Vj b o (Ma b o e)
 have loop:∀t,codeAny (model X.prog X.w) X.A (.compLoop (.ListComp elt [⟨tg,iter,ifs,0⟩] eF pos) 0 (.ref it) (.ref s2.heap.objs.size) (compEnvC eF (j5 X.env.cells eF.names []) H3.objs.size X.env))
   (compPost (model X.prog X.w) X.A X.xe use QQ (.ref s2.heap.objs.size) H3.objs.size) { s2 with heap:=qx,toks:=t }:=λt=>by
  refine b4s (Y:=CH X N' eF (s2.heap.objs.size::fp) { s2 with heap:=H3 } H2) T rfl rfl hlen QC.1 QC.2.1 QC.2.2 wk qs (λb hb=>lb (Jo b hb)) (λH' pl hn c6 b hb=>?_) (by show s2.heap.objs.size≠H3.objs.size;rw[hsz];exact lb (A1 _)) (λz=>?_) nA (λx c e=>?_) (λp hp=>absurd hp (by simp[CH])) (λpl aH H' af ys xs s4 I4 JS PM vx s24 Vk hr4=>?_)
   ⟨0,_,H2,_,[],[],[],rs,rfl,FG _,b4B (s3:={ s2 with heap:=H3 }) (s4:={ s2 with heap:=qx,toks:=t }) C h.sc h.n h.calm I2 I3 f2 JN hsz rfl rfl Vj (by simpa using rY),T.keep _ _ _ Gv kk,λb hb=>(f2 b hb).1,QD,⟨_,k33⟩,.nil,R0,Gd.refl (az.refl _),.nil,e5,rfl,fQ _⟩;.obtain ⟨_,g1,g2,g3,g4,g5⟩:=f2 b hb;refine⟨hn b hb,lb (oC (Jo b hb) Vr),λz=>?_,.inl (mZ _ hb),λx c e=>g4 x c (D5 C h.sc I2 e),λp hp=>c6 p (by simpa[CH] using hp) b hb⟩;exact(iF.mp (I2.iM b z)).elim g1 g2
  .obtain ⟨_,o,ho,_⟩:=I2.stack.mem z;exact absurd (ij ho) (BL _)
  .obtain ⟨_,z⟩:=I2.cell x c (D5 C h.sc I2 e);exact lb z.lt
  .obtain ⟨m4,hn4,_⟩:=I4.loc;have hC0:H' H3.objs.size=none:=I4.free;have Mj:H3.objs.size≠s2.heap.objs.size:=by rw[hsz];exact Nat.succ_ne_self _
   refine fin H3.objs.size s2.heap.objs.size (upd H' s2.heap.objs.size (.lst xs)) s4 ⟨m4,hn4⟩ (I2.vy Vr (by rw[eX Mj];exact hC0)) (λh' sb=>b4A (s3:={ s2 with heap:=H3 }) (ys:=ys) I2 rfl Ma hsz f2 I4 sb JS PM vx (by rw[Vk.length,kM];exact iV hr4 hlen)) (λb o e=>?_) ⟨_,xs,rfl,Cg.free QD,ni,Vk.map (λp hp hn z=>hn (.inl (z.elim id λz=>?_))) λp u e _=>by rw[eX (oM e JS)];exact e⟩;.have e2:=Cg b o e;rw[eX (oM e2 QD)];exact s24 b o e2
   .rw [z,JS] at hp;exact(hp rfl).elim
 exact codeAny_compStart_list (loop _) (T.self _ 0 _ _ _ (T.keep _ _ _ Gv kk) (loop _))
theorem Hj(h:Fx X N sc k full)(C:fS N sc N' caps nt eF)(hi:IV X tg iter fi)
  (hb:∀X':Cx,X'.prog=X.prog->X'.w=X.w->X'.K=X.K->X'.mg=X.mg->X'.base=X.base->Fx X' N' (rl eF sc) k false->GV X' tg g/\LU X' ifs fc/\EV X' elt fe)
  (Ct:autoParam (∀x,foldedSetIterable iter X.env x=pure x) ra3._auto_1):EV X (.ListComp elt [⟨tg,iter,ifs,0⟩] eF pos) (nQ fi caps nt g fc fe):=by obtain⟨wi,pi,ki⟩:=hi;refine⟨λσ H Q=>∃O B env r,Rel X.K O B σ H env/\nQ fi caps nt g fc fe env=some r/\∀v H',az H H'->Res X.K (OO O σ env) H H' v r->Q v H',?_,λO B σ H env r Q R e q=>⟨O,B,env,r,R,e,q⟩⟩;rintro pins s σ H Q I ⟨O,B,env,r,R,e,q⟩;rw[eval_ListComp];exact Yv h C pi ki hb Ct I R e (use:=none) λC0 p H' s' ⟨m,hn⟩ _ hI sm rr=>⟨m,hn,λh' sb=>⟨.ref p,H',hI h' sb,rfl,q _ H' sm rr⟩⟩
theorem b6I{i:Nat}{x:Str}{pos' Iy:Pos}(b:Bool)(h:Fx X N sc k full)(C:fS N sc N' caps nt eF)(hi:IV X tg iter fi)
  (hb:∀X':Cx,X'.prog=X.prog->X'.w=X.w->X'.K=X.K->X'.mg=X.mg->X'.base=X.base->Fx X' N' (rl eF sc) k false->GV X' tg g/\LU X' ifs fc/\EV X' elt fe)
  (hN:autoParam (N[i]?=some x) ra2._auto_1)(hv:autoParam (Loc sc x) ra5._auto_1)(hf:autoParam (full=true\/sc.names.lookup x=some .local) ra5._auto_1)(h1:autoParam ((sc.names.lookup x==some .local)=true) ra2._auto_1)(h2:autoParam ((pos'.line==pos.line)=true) ra2._auto_1)(h3:autoParam ((eF.names.any λ(n,k)=>n==x&&(k==.local||k==.cell))=false) ra2._auto_1)
  (Ct:autoParam (∀x,foldedSetIterable iter X.env x=pure x) ra3._auto_1):SV X (.Assign [.Name x pos'] (.ListComp elt [⟨tg,iter,ifs,0⟩] eF pos) Iy) (bif b then IE i (nQ fi caps nt g fc fe) else fD i (nQ fi caps nt g fc fe)):=by
 obtain⟨wi,pi,ki⟩:=hi;refine⟨λD σ H=>∃O B env fl af,Rel X.K O B σ H env/\(bif b then IE i (nQ fi caps nt g fc fe) else fD i (nQ fi caps nt g fc fe)) env=some (fl,af)/\gK X.K O B σ H env D fl af,?_,λO B σ H env fl af D R e q=>⟨O,B,env,fl,af,R,e,q⟩⟩;rintro pins s σ H D I ⟨O,B,env,fl,af,R,e,q⟩
 obtain⟨r,e1,hl,hfl,t,rfl,ht⟩:∃r,nQ fi caps nt g fc fe env=some r/\i<env.length/\fl=.nx/\∃t,af=env.set i t/\(t=r\/t=.sh r.d):=by
  cases b with
  |true => dsimp only [cond] at e;obtain⟨r,e1,e2⟩:=bind_some e;obtain⟨hl,e3⟩:=jv e2;cases e3;exact⟨r,e1,hl,rfl,_,rfl,.inl rfl⟩
  |false => dsimp only [cond] at e;obtain⟨r,e1,e2⟩:=bind_some e;obtain⟨hl,e3⟩:=jv e2;cases e3;exact⟨r,e1,hl,rfl,_,rfl,.inr rfl⟩
 subst hfl
 have hs:swapsWith (.ListComp elt [⟨tg,iter,ifs,0⟩] eF pos) (some (.Name x pos')) Iy.line X.env=pure true:=by
  have hk:X.env.blockKind=.function:=by unfold Env.blockKind;rw[I.ok.kind];rfl
  have hk2:X.env.kindOf x=sc.names.lookup x:=by unfold Mz;rw[h.sc]
  unfold swapsWith;dsimp only;rw[hk,hk2,h1,show (pos'.line==(Expr.ListComp elt [⟨tg,iter,ifs,0⟩] eF pos).pos.line)=true from h2,h3];rfl
 rw[exec_Assign_Name_used _ _ _ _ hs];refine eN (wpAny_standAt (eN ?_));show wpAny _ _ (comprehension _ eF X.env _ (newList []) _ _ (some (assign (.Name x pos') X.env)) >>= λ_=>pure ()) _ _ _;refine eN (Yv h C pi ki hb Ct I R e1 (use:=some (assign (.Name x pos') X.env)) λC0 p H' s' ⟨m,hn⟩ DM hI sm rr=>?_);have I':Inv X pins σ H' s':=hI s'.heap (Heap.SameBut.refl _ _);refine wpAny_assign_Name (YH (v:=.ref p) I' h.tL (h.ix hN) (h.loc hv) rfl (λs2 I2 ⟨a,sb,ha⟩=>?_) (h.Cc hf))
 have hac:C0≠a:=λz=>by
  rcases ha with ha|ha;.exact DM.2.1 (z.trans ha)
  .exact DM.2.2.2.2.1 x a ha z.symm
 obtain⟨o,es,ep,ho,rest⟩:=hn;refine⟨m,⟨o,es,ep,(sb.2 C0 hac).trans ho,rest⟩,λh' sb'=>?_⟩;refine jb (jb ?_);have I3:Inv X pins (σ.set i (some (.ref p))) H' { s2 with heap:=h' }:=I2.turned (t':=s2.toks) (it:=C0) (λb o hb e=>(sb'.2 b hb).trans e) DM.1 DM.2.1 DM.2.2.2.1 DM.2.2.2.2.1 DM.2.2.2.2.2
 have hr:Res X.K (OO O σ env) H H' (.ref p) t:=by
  rcases ht with rfl|rfl;.exact rr
  .exact rr.is λq=>R.oo
 obtain⟨R',g'⟩:=R.set sm hr hl;exact⟨_,H',I3,q _ H' R' g'⟩
end
end DL
namespace DL
open PySem PySem.Spec PyProof.Rows L2
section
variable {X:Cx}{pins:List (Addr×Obj)}{σ:L2.St}{H:Hp}{s:Shared}
theorem b4W(I:Inv X pins σ H s)(hA:A'.handled=none)(hq:Sq X.K H k p xs)
  (h:∀(aS:List Value) (h2:Heap) (St:Nat->Heap->Prop),aR xs aS->Walks X.prog X.w A' s.heap.objs.size [s.heap.objs.size,p] [s.heap.objs.size] aS.length (λi v=>aS[i]?=some v) St->St 0 h2 ->
   (∀b o,s.heap.get? b=some o->h2.get? b=some o)->(∀b∈[s.heap.objs.size,p],b<h2.objs.size)->Q (.ref s.heap.objs.size) { s with heap:=h2 }):wpAny (model X.prog X.w) A' (pyIter (.ref p)) Q E s:=by
 cases k with
 |true =>
  obtain⟨aS,rv,pl,hz⟩:=I.list (show kA X.K H p xs from hq);have k9:p<s.heap.objs.size:=by obtain⟨o,n,e,_⟩:=pl;exact ij e
  refine wpAny_pyIter_list pl.isList ?_;have W:=Walks.list (prog:=X.prog) (w:=X.w) hA s.heap.objs.size p (lb k9) aS.toArray;refine h aS _ (λi h=>h.IsListIter s.heap.objs.size p i/\h.IsList p aS.toArray) rv (by simpa using W) ⟨⟨_,qI _ rfl,rfl,rfl⟩,pl.isList.push _⟩ (λb o e=>ky _ e) λb hb=>?_;rw[KI];rcases iF.mp hb with rfl|hb;.exact A1 _
  .rw [BK.mp hb];exact Nat.lt_succ_of_lt k9
 |false =>
  obtain⟨aS,rv,pl,hz⟩:=I.tuple (show ll X.K H p xs from hq);have xI:s.heap.IsTuple p aS.toArray:=pl;have k9:p<s.heap.objs.size:=by obtain⟨o,e,_⟩:=pl;exact ij e
  refine wpAny_pyIter_tuple xI ?_;have W:=Walks.tuple (prog:=X.prog) (w:=X.w) hA s.heap.objs.size p (lb k9) aS.toArray;refine h aS _ (λi h=>h.IsTupleIter s.heap.objs.size p i/\h.IsTuple p aS.toArray) rv (by simpa using W) ⟨⟨_,qI _ rfl,rfl,rfl⟩,?_⟩ (λb o e=>ky _ e) λb hb=>?_;.obtain ⟨o,e,r⟩:=xI;exact⟨o,ky _ e,r⟩
  .rw [KI];rcases iF.mp hb with rfl | hb;.exact A1 _
   .rw [BK.mp hb];exact Nat.lt_succ_of_lt k9
theorem b2S(I:Inv X pins σ H s){h2 h':Heap}{tk:Nat}(k1:∀b o,s.heap.get? b=some o->h2.get? b=some o)(k2:∀b o,b∉[s.heap.objs.size]->h2.get? b=some o->h'.get? b=some o):Inv X pins σ H { s with heap:=h',toks:=tk }:=
 I.kept λb o e=>k2 b o (λz=>absurd (ij e) (by rw[BK.mp z];exact BL _)) (k1 b o e)
end
noncomputable def CV:List D->Option (List Bool)
 |[]=>some []
 | .bl i::ds=>(CV ds).map (i::·)
 |_::_=>none
theorem YE:∀{ds:List D} {ns:List Bool},CV ds=some ns->ds=ns.map D.bl
 |[],ns,e=>by cases e;rfl
 | .bl i::ds,ns,e=>by obtain⟨r,e1,rfl⟩:=map_some (show (CV ds).map (i::·)=some ns from e);rw[YE e1];rfl
 | .dO::_,_,e=>by cases e
 | .int _::_,_,e=>by cases e
 | .str _::_,_,e=>by cases e
 | .tup _::_,_,e=>by cases e
 | .lst _ _::_,_,e=>by cases e
theorem Yb{K:aG}{O:Addr->Prop}{H:Hp}:∀{xs:List V} {ns:List Bool},aU K O H xs (ns.map D.bl)->xs=ns.map V.bl
 |_,[],.nil=>rfl
 |_,n::r,.cons h t=>by rw[Be h,Yb t];rfl
theorem b6E{ns:List Bool}(r:aR (ns.map V.bl) aS){i:Nat}(h:aS[i]?=some v):v=.bool (ns.getD i false):=by
 have hl:=r.length;have hi:=(oE.mp h).1;have yB:i<ns.length:=by rw[kN] at hl;omega
 obtain⟨u,hu,ru⟩:=r.get (show (ns.map V.bl)[i]?=some (.bl ns[i]) by simp[yB]);rw[h] at hu;cases hu;obtain rfl:v=MA ns[i]:=ru;simp[yB]
section
variable {X:Cx}{a:Expr}{p pos:Pos}{ba:En->Option (Bool×List D)}
theorem YM(ns:List Bool):(lT ns.length).all (λi=>ns.getD i false)=ns.all id:=by
 rw[Bool.eq_iff_iff,q9,q9];constructor;.intro h x hx;obtain⟨i,hi,rfl⟩:=V5.mp hx;have:=h i (BI.mpr hi);simpa[hi] using this
 .intro h i hi;have hi:=BI.mp hi;have:=h ns[i] (KN hi);simpa[hi] using this
theorem b4z(hc:X.calm=true):hX X (.builtin "all") (λxs H Q=>∃p k ns,xs=[.ref p]/\Sq X.K H k p (List.map V.bl ns)/\Q (.bl (ns.all id)) H):=by
 intro pins s σ H xs us Q I r h;obtain⟨p,k,ns,rfl,hq,q⟩:=h;obtain⟨u,rfl,ru⟩:=r.one;cases ru;refine call_all_walk (b4W (A':=X.A.in1) I (I.ok.hd hc) hq λaS h2 St rv W st0 k1 DM=>?_);refine⟨_,_,_,_,_,_,λi=>ns.getD i false,rfl,W,st0,λi v s Q E hP hQ=>?_,λh' tk hk=>?_⟩;.rw [b6E rv hP];exact GL hQ
 .have hl:aS.length=ns.length:=by rw[<-rv.length];simp
  rw[hl,YM];exact⟨.bl _,H,b2S I k1 hk,rfl,q⟩
noncomputable def Fs(f:En->Option (Bool×List D)):En->Option Sl:=λenv=>(f env).bind λx=>(CV x.2).map λns=>.sh (.bl (ns.all id))
theorem WO(hg:Gl X "all")(hm:X.mg "all" = none)(hc:X.calm=true)(ha:BV X a ba)(hs:autoParam (starEach [a] X.env=[(false,eval a X.env)]) ra2._auto_1):EV X (.Call (.Name "all" p) [a] [] pos) (Fs ba):=by obtain⟨t,pt,k⟩:=ha;refine⟨_,Lo (b4z hc) hg hm (by decide +kernel) (lX pt sG hs) (by decide) (by decide) hs rfl,λO B σ H env s Q R e q=>?_⟩;obtain⟨⟨kk,ds⟩,e1,e2⟩:=bind_some e;obtain⟨ns,e3,rfl⟩:=map_some e2;have VG:=YE e3;dsimp only at VG;subst VG;refine k O B σ H env kk _ _ R e1 λl xs H1 s1 hq hx=>⟨l,kk,ns,rfl,?_,q _ H1 s1 (Is.bl _)⟩;rw[<-Yb hx];exact hq
end
end DL
namespace DL
open PySem PySem.Spec PyProof.Rows L2
noncomputable def pM:List (Option Bool)->Option (List Bool)
 |[]=>some []
 |some b::r=>(pM r).map (b::·)
 |none::_=>none
noncomputable def Fk:D->D->Option Bool
 | .int i,.int j=>some (decide (i=j))
 | .bl i,.bl j=>some (decide (i=j))
 | .str i,.str j=>some (decide (i=j))
 | .dO,.dO=>some true
 | .int _,.dO=>some false
 | .dO,.int _=>some false
 |_,_=>none
noncomputable def kI:Nat->D->D->Option Bool
 |n+1,.tup a,.tup b=>(pM (GO (kI n) a b)).map λbs=>bs.all id&&decide (a.length=b.length)
 |n+1,.lst _ a,.lst _ b=>if a.length=b.length then (pM (GO (kI n) a b)).map λbs=>bs.all id else some false
 |_,a,b=>Fk a b
theorem Yq{a b:D}:kI 0 a b=Fk a b:=by unfold kI;rfl
theorem Yo{n:Nat}{d d':D}(ht:¬ ∃a c,d=.tup a/\d'=.tup c)(hl:¬ ∃a c ro EE,d=.lst ro a/\d'=.lst EE c):kI (n+1) d d'=Fk d d':=by
 unfold kI;split;.exact absurd ⟨_,_,rfl,rfl⟩ ht
 .exact absurd ⟨_,_,_,_,rfl,rfl⟩ hl
 .rfl
theorem Hm:∀{os:List (Option Bool)} {bs:List Bool},pM os=some bs->os.length=bs.length/\∀(i:Nat) (b:Bool),bs[i]?=some b->os[i]?=some (some b)
 |[],bs,e=>by cases e;exact⟨rfl,λi b h=>by simp at h⟩
 |some b::r,bs,e=>by
  obtain⟨bs',e1,rfl⟩:=map_some (show (pM r).map (b::·)=some bs from e);obtain⟨l,ih⟩:=Hm e1;refine⟨by simp[l],λi c h=>?_⟩
  cases i with
  |zero=>simpa using h
  |succ i=>simpa using ih i c (by simpa using h)
 |none::_,bs,e=>by cases e
theorem all_range{bs:List Bool}{n:Nat}(h:bs.length=n):(lT n).all (λi=>bs.getD i false)=bs.all id:=by rw[<-h];exact YM bs
section
variable {X:Cx}{pins:List (Addr×Obj)}{σ:L2.St}{H:Hp}{s:Shared}{O O':Addr->Prop}
noncomputable def IsV(K:aG)(O:Addr->Prop)(H:Hp)(v:V):D->Prop
 | .dO=>v=.dO
 | .bl b=>v=.bl b
 | .int i=>v=.int i
 | .str x=>v=.str x
 | .tup ds=>∃p xs,v=.ref p/\ll K H p xs/\aU K O H xs ds
 | .lst _ ds=>∃p xs,v=.ref p/\kA K H p xs/\aU K O H xs ds
 | .exc _=>True
 | .vC _ _=>True
 | .obj _ _ _=>True
 | .yG _ _=>True
 | .BG _ _=>True
theorem Is.DK{K:aG}{v:V}{d:D}(h:Is K O H v d):IsV K O H v d:=by
 cases d with
 |dO=>exact F3 h
 |bl b=>exact Be h
 |int i=>exact nh h
 |str x=>exact lh h
 |tup ds=>exact Nd h
 |lst r ds => obtain⟨p,xs,e,h1,h2⟩:=h.seq (k:=true) (ds:=ds) rfl;exact⟨p,xs,e,h1,h2⟩
 |exc n=>trivial
 |vC n m=>trivial
 |obj n1 m1 o1=>trivial
 |yG n1 m1=>trivial
 |BG n1 m1=>trivial
theorem zip_get{n:Nat}{i:Nat}{o:Option Bool}(h:(GO (kI n) a b)[i]?=some o):∃x y,a[i]?=some x/\b[i]?=some y/\kI n x y=o:=by
 rw[V9] at h
 cases ha:a[i]? with
 |none=>rw[ha] at h;simp at h
 |some x =>
  cases hb:b[i]? with
  |none=>rw[ha,hb] at h;simp at h
  |some y=>rw[ha,hb] at h;exact⟨x,y,rfl,rfl,by simpa using h⟩
theorem Yr{v:V}{d d':D}{b:Bool}(h:Is X.K O H v d)(h':Is X.K O' H v d')(e:Fk d d'=some b):b=true:=by
 unfold Fk at e;split at e;.have h1:=nh h;have h2:=nh h';rw[h1] at h2;cases h2;cases e;simp
 .have h1:=Be h;have h2:=Be h';rw[h1] at h2;cases h2;cases e;simp
 .have h1:=lh h;have h2:=lh h';rw[h1] at h2;cases h2;cases e;simp
 .cases e;rfl
 .have h1:=nh h;have h2:=F3 h';rw[h1] at h2;cases h2
 .have h1:=F3 h;have h2:=nh h';rw[h1] at h2;cases h2
 .cases e
theorem Yp(I:Inv X pins σ H s):∀(n:Nat) {v:V} {d d':D} {b:Bool},Is X.K O H v d->Is X.K O' H v d'->kI n d d'=some b->b=true:=by
 intro n
 induction n with
 |zero => intro v d d' b h h' e;rw[Yq] at e;exact Yr h h' e
 |succ n ih =>
  intro v d d' b h h' e;have key:∀{xs:List V} {ds ds':List D} {bs:List Bool},aU X.K O H xs ds->aU X.K O' H xs ds'->pM (GO (kI n) ds ds')=some bs->bs.all id=true:=λ{xs ds ds' bs} a1 a2 ea=>by obtain⟨_,g⟩:=Hm ea;rw[q9];intro c hc;obtain⟨i,hi,rfl⟩:=V5.mp hc;obtain⟨x,y,ex,ey,exy⟩:=zip_get (g i _ (v5 hi));obtain⟨z,ez,iz⟩:=a1.get ex;obtain⟨z',VE,iz'⟩:=a2.get ey;rw[ez] at VE;cases VE;exact ih iz iz' exy
  by_cases ht:∃a c,d=.tup a/\d'=.tup c;.obtain ⟨ds,es,rfl,rfl⟩:=ht;obtain⟨_,xs,rfl,h,a1⟩:=h.DK;obtain⟨_,ys,hr,h',a2⟩:=h'.DK;cases hr;cases I.n9 h h';simp only[kI] at e;obtain⟨bs,e1,rfl⟩:=map_some e;rw[key a1 a2 e1,<-a1.length,<-a2.length];simp
  .by_cases hl:∃a c ro EE,d=.lst ro a/\d'=.lst EE c;.obtain ⟨ds,es,ro,EE,rfl,rfl⟩:=hl;obtain⟨_,xs,rfl,h,a1⟩:=h.DK;obtain⟨_,ys,hr,h',a2⟩:=h'.DK;cases hr;cases I.qu h h';simp only[kI] at e;rw[if_pos (by rw[<-a1.length,<-a2.length])] at e;obtain⟨bs,e1,rfl⟩:=map_some e;exact key a1 a2 e1
   .rw [Yo ht hl] at e;exact Yr h h' e
theorem X0{xs:List V}{aS:List Value}{O:Addr->Prop}{K:aG}{ds:List D}(r:aR xs aS)(a:aU K O H xs ds){j:Nat}(h:j<aS.toArray.size):∃d v,ds[j]?=some d/\Is K O H v d/\RelV v aS.toArray[j]:=by
 have hj:j<aS.length:=by simpa using h
 have hl:=r.length;obtain⟨d,hd,hv⟩:=a.Fc (i:=j) (x:=xs[j]'(by omega)) (v5 (by omega));obtain⟨u,hu,ru⟩:=r.get (i:=j) (x:=xs[j]'(by omega)) (v5 (by omega));rw[v5 hj] at hu;refine⟨d,_,hd,hv,?_⟩;rw[List.getElem_toArray,gY hu];exact ru
open PySem.SeqAt in
theorem WT{A:Around}{u u':Value}{v v':V}{d d':D}{b:Bool}(h:Is X.K O H v d)(h':Is X.K O' H v' d')(r:RelV v u)(r':RelV v' u')(e:Fk d d'=some b):EqAt A s u u' b/\RcAt A s u u' b/\RcNeAt A s u u' (!b):=by
 unfold Fk at e;split at e;.have h1:=nh h;have h2:=nh h';subst h1;subst h2;obtain⟨t,rfl⟩:=r;obtain⟨t',rfl⟩:=r';cases e;exact⟨EqAt.int_int _ t _ t',RcAt.int_int _ t _ t',RcNeAt.int_int _ t _ t'⟩
 .have h1:=Be h;have h2:=Be h';subst h1;subst h2;obtain rfl:u=_:=r;obtain rfl:u'=_:=r';cases e;exact⟨EqAt.bool_bool _ _,RcAt.bool_bool _ _,RcNeAt.bool_bool _ _⟩
 .have h1:=lh h;have h2:=lh h';subst h1;subst h2;obtain⟨t,rfl⟩:=r;obtain⟨t',rfl⟩:=r';cases e;exact⟨EqAt.str_str _ t _ t',RcAt.str_str _ t _ t',RcNeAt.str_str _ t _ t'⟩
 .have h1:=F3 h;have h2:=F3 h';subst h1;subst h2;obtain rfl:u=FJ:=r;obtain rfl:u'=FJ:=r';cases e;exact⟨EqAt.same _,RcAt.none_none,RcNeAt.none_none⟩
 .have h1:=nh h;have h2:=F3 h';subst h1;subst h2;obtain⟨t,rfl⟩:=r;obtain rfl:u'=FJ:=r';cases e;exact⟨EqAt.int_none _ t,RcAt.int_none _ t,RcNeAt.int_none _ t⟩
 .have h1:=F3 h;have h2:=nh h';subst h1;subst h2;obtain rfl:u=FJ:=r;obtain⟨t,rfl⟩:=r';cases e;exact⟨EqAt.none_int _ t,RcAt.none_int _ t,RcNeAt.none_int _ t⟩
 .cases e
open PySem.SeqAt in
theorem Sb(I:Inv X pins σ H s):∀(n:Nat) {A:Around} {u u':Value} {v v':V} {d d':D} {b:Bool},A.units+n<cLine->Is X.K O H v d->Is X.K O' H v' d'->RelV v u->RelV v' u'->kI n d d'=some b ->
  EqAt A s u u' b/\RcAt A s u u' b/\RcNeAt A s u u' (!b):=by
 intro n
 induction n with
 |zero => intro A u u' v v' d d' b hu h h' r r' e;rw[Yq] at e;exact WT h h' r r' e
 |succ n ih =>
  intro A u u' v v' d d' b hu h h' r r' e
  have elems:∀{xs ys:List V} {aS iP:List Value} {ds es:List D} {bs:List Bool},aR xs aS->aR ys iP->aU X.K O H xs ds->aU X.K O' H ys es->pM (GO (kI n) ds es)=some bs ->
    ∀j (h1:j<aS.toArray.size) (h2:j<iP.toArray.size),EqAt A.in1 s aS.toArray[j] iP.toArray[j] (bs.getD j false):=λ{xs ys aS iP ds es bs} rx ry ax ay ea j h1 h2=>by
   obtain⟨d1,v1,e1,i1,r1⟩:=X0 rx ax h1;obtain⟨d2,v2,e2,i2,r2⟩:=X0 ry ay h2;obtain⟨hl,g⟩:=Hm ea;have hz:(GO (kI n) ds es)[j]?=some (kI n d1 d2):=by rw[V9,e1,e2]
   have hj:j<bs.length:=by rw[<-hl];exact(oE.mp hz).1
   have:=g j bs[j] (v5 hj);rw[hz] at this;have e3:bs.getD j false=bs[j]:=by simp[hj]
   rw[e3];exact(ih (A:=A.in1) (by show A.units+1+n<_;omega) i1 i2 r1 r2 (gY this)).1
  by_cases ht:∃a c,d=.tup a/\d'=.tup c
  .obtain ⟨ds,es,rfl,rfl⟩:=ht;simp only[kI] at e;obtain⟨bs,e1,rfl⟩:=map_some e;obtain⟨p,xs,rfl,hq,ax⟩:=h.DK;obtain⟨p',ys,rfl,rX,ay⟩:=h'.DK;obtain⟨aS,rx,pl,_⟩:=I.tuple hq;obtain⟨iP,ry,xI,_⟩:=I.tuple rX;obtain rfl:u=mV p:=r;obtain rfl:u'=mV p':=r';have pl:s.heap.IsTuple p aS.toArray:=pl;have xI:s.heap.IsTuple p' iP.toArray:=xI;have hlen:bs.length=min ds.length es.length:=by rw[<-(Hm e1).1,V1]
   have l1:aS.toArray.size=ds.length:=by rw[lI,<-rx.length,ax.length]
   have l2:iP.toArray.size=es.length:=by rw[lI,<-ry.length,ay.length]
   have val:((lT (min aS.toArray.size iP.toArray.size)).all (λj=>bs.getD j false)&&aS.toArray.size==iP.toArray.size)=(bs.all id&&decide (ds.length=es.length)):=by rw[l1,l2,all_range hlen];rfl
   have rc:=RcAt.tuples pl xI (by omega) (elems rx ry ax ay e1);have rn:=RcNeAt.tuples pl xI (by omega) (elems rx ry ax ay e1);rw[val] at rc rn;refine⟨?_,rc,rn⟩;by_cases hp:p=p';.subst hp;have:=Yp I (n+1) h h' (show kI (n+1) (.tup ds) (.tup es)=some (bs.all id&&decide (ds.length=es.length)) by simp only[kI];rw[e1];rfl);rw[this];exact EqAt.same _
   .exact .of_refs hp rc
  by_cases hl:∃a c ro EE,d=.lst ro a/\d'=.lst EE c
  .obtain ⟨ds,es,ro,EE,rfl,rfl⟩:=hl;have e0:=e;simp only[kI] at e;obtain⟨p,xs,rfl,hq,ax⟩:=h.DK;obtain⟨p',ys,rfl,rX,ay⟩:=h'.DK;obtain⟨aS,rx,pl,_⟩:=I.list hq;obtain⟨iP,ry,xI,_⟩:=I.list rX;obtain rfl:u=mV p:=r;obtain rfl:u'=mV p':=r';have l1:aS.toArray.size=ds.length:=by rw[lI,<-rx.length,ax.length]
   have l2:iP.toArray.size=es.length:=by rw[lI,<-ry.length,ay.length]
   have fin:RcAt A s (.ref p) (.ref p') b->RcNeAt A s (.ref p) (.ref p') (!b)->EqAt A s (.ref p) (.ref p') b/\RcAt A s (.ref p) (.ref p') b/\RcNeAt A s (.ref p) (.ref p') (!b):=λrc rn=>by
    refine⟨?_,rc,rn⟩;by_cases hp:p=p';.subst hp;rw[Yp I (n+1) h h' e0];exact EqAt.same _
    .exact .of_refs hp rc
   by_cases hlen:ds.length=es.length
   .rw [if_pos hlen] at e;obtain⟨bs,e1,rfl⟩:=map_some e;have hbs:bs.length=ds.length:=by rw[<-(Hm e1).1,V1];omega
    have rc:=RcAt.lists pl.isList xI.isList (by omega) (by omega) (elems rx ry ax ay e1);have rn:=RcNeAt.lists pl.isList xI.isList (by omega) (by omega) (elems rx ry ax ay e1);rw[l1,all_range hbs] at rc rn;exact fin rc rn
   .rw [if_neg hlen] at e;cases e;have Mj:(aS.toArray.size != iP.toArray.size)=true:=by rw[l1,l2];simpa using hlen
    exact fin (RcAt.lists_lengths pl.isList xI.isList Mj (by omega)) (RcNeAt.lists_lengths pl.isList xI.isList Mj (by omega))
  rw[Yo ht hl] at e;exact WT h h' r r' e
noncomputable def bJ:D->D->Option Sl:=λa b=>(kI 8 a b).map λk=>.sh (.bl k)
noncomputable def gp:D->D->Option Sl:=λa b=>(kI 8 a b).map λk=>.sh (.bl !k)
theorem fO(hu:X.A.units+8<cLine):n4 X (compareOp .Eq) bJ:=by
 refine⟨λx y H Q=>∃O O' a b k,Is X.K O H x a/\Is X.K O' H y b/\kI 8 a b=some k/\Q (.bl k) H,?_,λO H x y a b s Q hO hx hy e q=>?_⟩;.intro pins s σ H x y v u Q I rx ry h;obtain⟨O,O',a,b,k,hx,hy,e,q⟩:=h;exact(Sb I 8 hu hx hy rx ry e).2.1 _ _ _ _ ⟨.bl k,H,I,rfl,q⟩
 .obtain ⟨k,e1,rfl⟩:=map_some e;exact⟨O,O,a,b,k,hx,hy,e1,q _ H (az.refl _) (Is.bl _)⟩
theorem FZ(hu:X.A.units+8<cLine):n4 X (compareOp .NotEq) gp:=by
 refine⟨λx y H Q=>∃O O' a b k,Is X.K O H x a/\Is X.K O' H y b/\kI 8 a b=some k/\Q (.bl !k) H,?_,λO H x y a b s Q hO hx hy e q=>?_⟩;.intro pins s σ H x y v u Q I rx ry h;obtain⟨O,O',a,b,k,hx,hy,e,q⟩:=h;exact(Sb I 8 hu hx hy rx ry e).2.2 _ _ _ _ ⟨.bl _,H,I,rfl,q⟩
 .obtain ⟨k,e1,rfl⟩:=map_some e;exact⟨O,O,a,b,k,hx,hy,e1,q _ H (az.refl _) (Is.bl _)⟩
end
theorem Fx.u8{X:Cx}{N:List Str}{sc:Scope}{k:Nat}{full:Bool}(h:Fx X N sc k full):X.A.units+8<cLine:=by have:=h.room.un;omega
theorem rB{X X':Cx}{x:Str}(e4:X'.mg=X.mg)(h:X.mg x=none):X'.mg x=none:=by rw[e4];exact h
end DL
namespace DL
open PySem PySem.Spec PyProof.Rows L2
theorem b21{P:Program}{w:World}{K:aG}{tg:Expr}(it:Addr)(lo:Int)(n:Nat):Turn P w K tg (wH lo n) [it] it (λi h=>IsLongIter h it (lo+(i:Nat)*1) ((n:Int)-(i:Nat)) 1) where
 mem:=by simp
 obj:=λi h st b hb=>by
  have e:b=it:=by simpa using hb
  subst e;exact⟨_,st,λv z=>by have z':Data.fields _=Data.cell v:=z;cases z'⟩
 keep:=λi h h' st k=>k it (by simp) _ st
 item:=by intro X hP hw hK hc i pins s σ H E I hf st hg;subst hP hw hK;obtain⟨f0,f1,f2,f3,f4,f5⟩:=hf it (by simp);have W:=Walks.longrange (prog:=X.prog) (w:=X.w) (I.ok.hd hc) it lo 1 n;refine W.item i s _ _ hg st λv h' tk hv sU kk=>?_;obtain⟨t,rfl⟩:=hv;have I1:Inv X pins σ H { s with heap:=h',toks:=tk }:=I.turned (λb o hb e=>kk b o (by simpa using hb) e) f0 f1 f3 f4 f5;refine⟨_,rfl,KZ (s:={ s with heap:=h',toks:=tk }) (n:="longrange_iterator") sU rfl rfl (by decide) ⟨.int (lo+i),H,I1,⟨t,?_⟩,⟨rfl,rfl⟩,sU,λb hb=>(hf b hb).1⟩⟩;rw[Int.mul_one]
 done:=by intro X hP hw hK hc i pins s σ H E I hf st hg;subst hP hw hK;obtain⟨f0,f1,f2,f3,f4,f5⟩:=hf it (by simp);exact wpAny_pyNext_long_end (I.ok.hd hc) st (by have:n<=i:=hg;omega) λh' eb=>⟨rfl,I.turned (t':=s.toks) (λb o hb e=>eb b o hb e) f0 f1 f3 f4 f5⟩
 self:=λ_ _ _ _ _ st h=>wpAny_pyIter_longiter st h
section
variable {X:Cx}{tg:Expr}
theorem b3r{pins:List (Addr×Obj)}{σ:L2.St}{H:Hp}{s:Shared}{R:It->Hp->Prop}{E:Value->Shared->Prop}{lo hi:Int}{t u v:Tok}{tk:Nat}(I:Inv X pins σ H s)
  (q:R (wH lo (hi-lo).toNat) H):wpAny (model X.prog X.w) X.A (pyIter (.ref s.heap.objs.size)) (UH X pins σ tg R) E { s with heap:=s.heap.push { cls:=.type "range",data:=.fields #[.int lo t,.int hi u,.int 1 v] },toks:=tk }:=by
 have I1:Inv X pins σ H { s with heap:=s.heap.push { cls:=.type "range",data:=.fields #[.int lo t,.int hi u,.int 1 v] },toks:=tk }:=I.kept λb o e=>ky _ e;have e1:lo+((0:Nat):Int)*1=lo:=by simp
 have e2:(((hi-lo).toNat:Nat):Int)-((0:Nat):Int)=VX lo hi 1:=by rw[rangeSize_one];split<;>omega
 have fin:∀b∈[(s.heap.push { cls:=.type "range",data:=.fields #[.int lo t,.int hi u,.int 1 v] }).objs.size],lP X pins H b:=λb hb=>by
  have e:b=(s.heap.push { cls:=.type "range",data:=.fields #[.int lo t,.int hi u,.int 1 v] }).objs.size:=by simpa using hb
  subst e;exact I1.vy (fQ _) (I1.cM.fresh (fQ _))
 by_cases Gz:Builtin.Range.small lo hi 1=true;.refine wpAny_pyIter_range (Q1 ..) Gz ?_;refine⟨_,[(s.heap.push { cls:=.type "range",data:=.fields #[.int lo t,.int hi u,.int 1 v] }).objs.size],_,_,H,rfl,I1.kept (t':=tk) λb o e=>ky _ e,Y1 _ lo (hi-lo).toNat,?_,fin,q⟩;show IsRangeIter _ _ (lo+((0:Nat):Int)*1) ((((hi-lo).toNat:Nat):Int)-((0:Nat):Int)) 1;rw[e1,e2];exact qI _ rfl
 .refine wpAny_pyIter_longrange (Q1 ..) (by simpa using Gz) ?_;refine⟨_,[(s.heap.push { cls:=.type "range",data:=.fields #[.int lo t,.int hi u,.int 1 v] }).objs.size],_,_,H,rfl,I1.kept (t':=tk) λb o e=>ky _ e,b21 _ lo (hi-lo).toNat,?_,fin,q⟩;show IsLongIter _ _ (lo+((0:Nat):Int)*1) ((((hi-lo).toNat:Nat):Int)-((0:Nat):Int)) 1;rw[e1,e2];exact qI _ rfl
noncomputable def b9w(ta:TA):TI:=λσ H R=>ta σ H λvs H1=>∃j:Int,vs=[.int j]/\R (wH 0 j.toNat) H1
theorem b2v(hg:Gl X "range")(hm:X.mg "range" = none)(ha:PA X [a] ta)(hs:autoParam (starEach [a] X.env=[(false,eval a X.env)]) ra2._auto_1):PI X tg (.Call (.Name "range" p) [a] [] pos) (b9w ta):=by
 intro pins s σ H R I h;refine Call_ (K6 I hg hm boot_range (RB (cU (ha pos pins s σ H _ I h) λus s1 ⟨vs,H1,I1,r1,q1⟩=>?_) hs rfl));obtain⟨j,e,q⟩:=q1;subst e
 cases r1 with
 |cons r rr => cases rr;obtain⟨t,rfl⟩:=r;exact call_range_1 (b3r I1 (by simpa using q))
noncomputable def KS:List D->Option (List D)
 |[.int j]=>some (jz 0 j.toNat)
 |_=>none
theorem b5j(Qv:Gl X "range")(hm:X.mg "range" = none)(ha:AV X [a] fs)(h1:autoParam (starEach [a] X.env=[(false,eval a X.env)]) ra2._auto_1):IV X tg (.Call (.Name "range" p) [a] [] pos) (CG KS fs):=by
 obtain⟨ti,pi,ki⟩:=ha;refine⟨_,b2v Qv hm pi h1,λO B σ H env ds R Rl e q=>?_⟩;obtain⟨as,e1,e2⟩:=bind_some e;refine ki O B σ H env as _ Rl e1 λvs H1 s1 r1=>?_;unfold KS at e2;split at e2;.cases e2;exact⟨_,Yc r1,q _ H1 s1 (b4Z _ _)⟩
 .cases e2
end
end DL
namespace DL
open PySem PySem.Spec PyProof.Rows L2
def UZ(b:Bool)(h:Heap)(l:Addr)(items:Array Value):Prop:=match b with
 |true=>h.IsList l items
 |false=>h.IsTuple l items
section
variable {prog:Program}{w:World}{A:Around}{E:Value->Shared->Prop}{s:Shared}
end
end DL
namespace DL
open PySem PySem.Spec PyProof.Rows L2
section
variable {X:Cx}{pins:List (Addr×Obj)}{σ:L2.St}{H:Hp}{s:Shared}
theorem Iw(I:Inv X pins σ H s)(h:Sq X.K H b l xs):∃aS:List Value,aR xs aS/\UZ b s.heap l aS.toArray:=by
 cases b with
 |true=>obtain⟨aS,r,p,_⟩:=I.list h;exact⟨aS,r,p.isList⟩
 |false=>obtain⟨aS,r,p,_⟩:=I.tuple h;exact⟨aS,r,p⟩
end
section
variable {prog:Program}{w:World}{A:Around}{E:Value->Shared->Prop}{s:Shared}
end
section
variable {X:Cx}{elts:List Expr}{kk:Nat}{tp:Pos}
end
end DL
namespace DL
open PySem PySem.Spec PyProof.Rows L2 PySem.SeqAt
section
variable {X:Cx}{pins:List (Addr×Obj)}{s:Shared}{σ:L2.St}{H:Hp}
theorem JB(e:Value->Bool)(hl:UZ b s.heap l items)(he:∀y,y∈items->EqAt A.in1 s y x (e y))
  (h:Q (.bool (items.any e)) s):wpAny (model prog w) A (compareOp .In x (.ref l)) Q E s:=by
 cases b with
 |true=>exact in_listAt e hl he h
 |false=>exact in_tupleAt e hl he h
noncomputable def inD(a:D)(ds:List D):Option Bool:=(pM (ds.map λd=>kI 7 d a)).map λbs=>bs.any id
noncomputable def VA:D->D->Option Sl:=λa d=>(lp d).bind λx=>(inD a x.2).map λk=>.sh (.bl k)
theorem Je(hu:X.A.units+8<cLine):n4 X (compareOp .In) VA:=by
 refine⟨λx y H Q=>∃O p k xs a ds bs,y=.ref p/\Sq X.K H k p xs/\aU X.K O H xs ds/\Is X.K O H x a/\pM (ds.map λd=>kI 7 d a)=some bs/\Q (.bl (bs.any id)) H,?_,λO H x y a b s Q hO hx hy e q=>?_⟩
 .intro pins s σ H x y v u Q I rx ry h;obtain⟨O,p,k,xs,a,ds,bs,rfl,hq,hs,ha,hb,q⟩:=h;cases ry;obtain⟨aS,rv,hl⟩:=Iw I hq;obtain⟨l1,g1⟩:=Hm hb;have hlen:aS.length=bs.length:=by rw[<-rv.length,hs.length,<-l1,kN]
  have at_:∀(j:Nat) (y:Value) (b:Bool),aS[j]?=some y->bs[j]?=some b->EqAt X.A.in1 s y v b:=λj y b h1 h2=>by
   have h3:=g1 j b h2;rw[zp] at h3
   cases hd:ds[j]? with
   |none=>rw[hd] at h3;cases h3
   |some d => rw[hd] at h3;have h4:kI 7 d a=some b:=gY h3;obtain⟨z,hz,iz⟩:=hs.get hd;obtain⟨y',Vn,rz⟩:=rv.get hz;rw[h1] at Vn;cases Vn;exact(Sb I 7 (A:=X.A.in1) (by show X.A.units+1+7<cLine;omega) iz ha rz rx h4).1
  classical
  have e1:aS.toArray.any (λy=>decide (∃j:Nat,aS[j]?=some y/\bs[j]?=some true))=bs.any id:=by
   rw[Bool.eq_iff_iff];simp only[List.any_toArray,List.any_eq_true,decide_eq_true_eq,id];constructor;.rintro ⟨y,hy,j,h1,h2⟩;exact⟨true,MW h2,rfl⟩
   .rintro ⟨b,hb,rfl⟩;obtain⟨j,hj⟩:=V8.mp hb;have JJ:j<aS.length:=by rw[hlen];exact(oE.mp hj).1
    exact⟨aS[j],KN JJ,j,v5 JJ,hj⟩
  refine JB (λy=>decide (∃j:Nat,aS[j]?=some y/\bs[j]?=some true)) hl (λy hy=>?_) ?_
  .by_cases ht:∃j:Nat,aS[j]?=some y/\bs[j]?=some true;.rw [decide_eq_true ht];obtain⟨j,h1,h2⟩:=ht;exact at_ j y true h1 h2
   .rw [decide_eq_false ht];obtain⟨j,hj⟩:=V8.mp (List.mem_toArray.mp hy);have JJ:j<bs.length:=by rw[<-hlen];exact(oE.mp hj).1
    refine at_ j y false hj ?_;rw[v5 JJ]
    cases hb2:bs[j] with
    |false=>rfl
    |true=>exact absurd ⟨j,hj,by rw[v5 JJ,hb2]⟩ ht
  .rw [e1];exact⟨.bl (bs.any id),H,I,rfl,q⟩
 .obtain ⟨⟨k,ds⟩,e1,e2⟩:=bind_some e;obtain⟨b1,e3,rfl⟩:=map_some e2;obtain⟨bs,e4,rfl⟩:=map_some e3;obtain⟨p,xs,rfl,hq,hs⟩:=hy.seq e1;exact⟨O,p,k,xs,a,ds,bs,rfl,hq,hs,hx,e4,q _ H (az.refl _) (Is.bl _)⟩
end
end DL
namespace DL
open PySem PySem.Spec PyProof.Rows L2
section
variable {X:Cx}{N:List Str}{sc:Scope}{k:Nat}{full:Bool}{pos pos' p1 p2 p3 p4:Pos}{e c:Expr}{fa:En->Option Sl}{ga:En->Option Bool}
end
end DL
namespace DL
open PySem L2
def Wo{α:Type}(o:Option α)(Q:α->Prop):Prop:=∃a,o=some a/\Q a
section
variable {α β:Type}
theorem a0T{a:α}{Q:α->Prop}:Wo (some a) Q↔Q a:=⟨λ⟨_,e,h⟩=>by cases e;exact h,λh=>⟨a,rfl,h⟩⟩
theorem Wo_none:Wo (none:Option α) Q↔False:=⟨λ⟨_,e,_⟩=>(nomatch e),gg⟩
theorem a09{o:Option α}{f:α->Option β}{Q:β->Prop}:Wo (o.bind f) Q↔Wo o λa=>Wo (f a) Q:=by
 cases o with
 |none=>simp[Wo]
 |some a=>simp[Wo]
theorem a8i{o:Option α}{f:α->β}{Q:β->Prop}:Wo (o.map f) Q↔Wo o λa=>Q (f a):=by
 cases o with
 |none=>simp[Wo]
 |some a=>simp[Wo]
theorem BW{c:Prop}[Decidable c]{a:α}{Q:α->Prop}:Wo (if c then some a else none) Q↔c/\Q a:=by
 by_cases h:c;.rw [if_pos h,a0T];exact⟨λz=>⟨h,z⟩,λz=>z.2⟩
 .rw [if_neg h,Wo_none];exact⟨gg,λz=>h z.1⟩
theorem Wo.mono{o:Option α}{P Q:α->Prop}(h:Wo o P)(k:∀a,P a->Q a):Wo o Q:=let ⟨a,e,p⟩:=h;⟨a,e,k a p⟩
theorem Wo.eq{o:Option α}{a:α}(h:Wo o λx=>x=a):o=some a:=let ⟨_,e,p⟩:=h;by rw[e,p]
theorem Bk{o:Option α}{P Q:α->Prop}(k:∀a,P a↔Q a):Wo o P↔Wo o Q:=⟨λh=>h.mono λa=>(k a).mp,λh=>h.mono λa=>(k a).mpr⟩
end
noncomputable def qi(G:SF)(Q:Fl×En->Prop):Fl×En->Prop
 |(.nx,e)=>Wo (G e) Q
 |p=>Q p
theorem b6N:qi G Q (.nx,e)↔Wo (G e) Q:=CO
theorem b3b:qi G Q (.bk,e)↔Q (.bk,e):=CO
theorem b3a:qi G Q (.ct,e)↔Q (.ct,e):=CO
theorem b29:qi G Q (.rt r,e)↔Q (.rt r,e):=CO
theorem Wo_seq:Wo (a9 F G env) Q↔Wo (F env) (qi G Q):=by
 unfold a9
 cases h:F env with
 |none=>simp[Wo]
 |some p =>
  obtain⟨fl,e⟩:=p;rw[a0T]
  cases fl with
  |nx=>exact CO
  |bk=>rw[b3b];exact a0T
  |ct=>rw[b3a];exact a0T
  |rt r=>rw[b29];exact a0T
theorem b0H:Wo (kC c F G env) Q↔Wo (c env) λb=>(b=true->Wo (F env) Q)/\(b=false->Wo (G env) Q):=by
 unfold kC
 cases h:c env with
 |none=>simp[Wo]
 |some b=>cases b<;>simp[a0T]
theorem b77:Wo (lq env) Q↔Q (.nx,env):=a0T
theorem Wo_ret:Wo (bZ f env) Q↔Wo (f env) λr=>Q (.rt r,env):=a8i
theorem Wo_setF:Wo (fD i f env) Q↔Wo (f env) λr=>i<env.length/\Q (.nx,env.set i (.sh r.d)):=by unfold fD;rw[a09];simp only[BW]
noncomputable def CW:Option Sl->(Sl->Prop)->Prop
 |some (.sh d),Q=>Q (.sh d)
 |_,_=>False
theorem b75:CW (some (.sh d)) Q↔Q (.sh d):=CO
theorem Wo_eV:Wo (eV i env) Q↔CW env[i]? Q:=by
 unfold eV
 cases env[i]? with
 |none=>simp[L0,CW,Wo]
 |some s=>cases s<;>simp[L0,CW,Wo]
theorem Wo_eC:Wo (eC d env) Q↔Q (.sh d):=a0T
theorem b91:Wo (ae g fa fb env) Q↔Wo (fa env) λx=>Wo (fb env) λy=>Wo (g x.d y.d) Q:=by unfold ae;rw[a09];simp only[a09]
theorem b8b:Wo (aD (.int i) (.int j)) Q↔Q (.sh (.int (i+j))):=a0T
theorem Wo_gMul:Wo (lF (.int i) (.int j)) Q↔MulC i j/\Q (.sh (.int (i*j))):=BW
theorem b8a:Wo (Fg (.int i) (.int j)) Q↔DivC i j/\Q (.sh (.int (i/j))):=BW
theorem Wo_gMod:Wo (o8 (.int i) (.int j)) Q↔0<j/\Q (.sh (.int (i%j))):=BW
theorem b79:Wo (CC (.int i) (.int j)) Q↔PowC i j/\Q (.sh (.int (i^j.toNat))):=BW
theorem b9Y:Wo (gGe (.int i) (.int j)) Q↔Q (.sh (.bl (decide (j<=i)))):=a0T
theorem b4G:Wo (iB f env) Q↔Wo (f env) λr=>Wo (mh r.d) Q:=a09
theorem b4H:Wo (oH f g env) Q↔Wo (f env) λb=>(b=true->Wo (g env) Q)/\(b=false->Q false):=by
 unfold oH
 cases f env with
 |none=>simp[Wo]
 |some b=>cases b<;>simp[a0T]
theorem b8j:Wo (ag env) Q↔Q []:=a0T
theorem b5O:Wo (ah f g env) Q↔Wo (f env) λr=>Wo (g env) λds=>Q (r.d::ds):=by unfold ah;rw[a09];simp only[a09,a0T]
theorem b8d:Wo (pf f env) Q↔Wo (f env) λds=>ds.length<=16777216/\Q (.sh (.tup ds)):=by unfold pf;rw[a09];simp only[BW]
theorem b8e:Wo (bh f env) Q↔Wo (f env) λds=>ds.length<=16777216/\Q (.ow ds):=by unfold bh;rw[a09];simp only[BW]
theorem b9W:Wo (lp (.lst r ds)) Q↔Q (true,ds):=a0T
theorem b5N:Wo (dH n φ fs env) Q↔Wo (fs env) λds=>ds.length=n/\Wo (φ ds) Q:=by
 unfold dH;rw[a09];have h:∀ds:List D,Wo (if ds.length=n then φ ds else none) Q↔ds.length=n/\Wo (φ ds) Q:=λds=>by by_cases h:ds.length=n<;>simp[h,Wo_none]
 simp only[h]
theorem b5m:Wo (vq T (.dO)) Q↔Q (.sh (.bl (rW T (.dO)))):=a0T
theorem b7p:Wo (vq T (.bl b)) Q↔Q (.sh (.bl (rW T (.bl b)))):=a0T
theorem b5o:Wo (vq T (.int i)) Q↔Q (.sh (.bl (rW T (.int i)))):=a0T
theorem b5l:Wo (vq T (.str x)) Q↔Q (.sh (.bl (rW T (.str x)))):=a0T
theorem b5k:Wo (vq T (.tup ds)) Q↔Q (.sh (.bl (rW T (.tup ds)))):=a0T
theorem b5n:Wo (vq T (.lst r ds)) Q↔Q (.sh (.bl (rW T (.lst r ds)))):=a0T
noncomputable def dN(Q:Sl->Prop):Fl×En->Prop
 |(.rt r,_)=>Q r
 |(.nx,_)=>Q (.sh .dO)
 |_=>False
theorem b7V:dN Q (.rt r,e)↔Q r:=CO
theorem lj:Wo (cV F N ds) Q↔Wo (F (jQ N ds)) (dN Q):=by
 unfold cV
 cases F (jQ N ds) with
 |none=>simp[Wo]
 |some p => obtain⟨fl,e⟩:=p;rw[a0T];cases fl<;>simp[a0T,Wo_none,dN]
theorem Wo_for:Wo (z0 f g F env) Q↔Wo (f env) λr=>Wo (lp r.d) λx=>Wo (forL g F x.2 env) Q:=by unfold z0;rw[a09];simp only[a09]
theorem Wo_forR:Wo (KY h f g F env) Q↔Wo (f env) λds=>Wo (h ds) λis=>Wo (forL g F is env) Q:=by unfold KY;rw[a09];simp only[a09]
noncomputable def Ww(I:En->Prop)(Q:Fl×En->Prop):Fl×En->Prop
 |(.nx,e)=>I e
 |(.ct,e)=>I e
 |(.bk,e)=>Q (.nx,e)
 |(.rt r,e)=>Q (.rt r,e)
theorem b1t:Ww I Q (.nx,e)↔I e:=CO
theorem XS{α:Type}(enc:α->D)(I:List α->En->Prop)(xs:List α)(turn:∀pre a post env,xs=pre++a::post->I pre env->Wo (g (enc a) env) λe=>Wo (F e) (Ww (I (pre++[a])) Q))
  (done:∀env,I xs env->Q (.nx,env)):∀{env:En},I [] env->Wo (forL g F (xs.map enc) env) Q:=by
 have key:∀(post pre:List α) (env:En),xs=pre++post->I pre env->Wo (forL g F (post.map enc) env) Q:=by
  intro post
  induction post with
  |nil => intro pre env e h;rw[qJ] at e;subst e;exact⟨_,rfl,done env h⟩
  |cons a post ih =>
   intro pre env e h;obtain⟨e1,h1,p,h2,h3⟩:=turn pre a post env e h;rw[jM];unfold forL;rw[h1];dsimp only;rw[h2];obtain⟨fl,e2⟩:=p
   cases fl with
   |nx=>exact ih (pre++[a]) e2 (by rw[e,pG];rfl) h3
   |ct=>exact ih (pre++[a]) e2 (by rw[e,pG];rfl) h3
   |bk=>exact⟨_,rfl,h3⟩
   |rt r=>exact⟨_,rfl,h3⟩
 exact λ{env} h=>key xs [] env rfl h
theorem b9X:Wo (gN i d env) Q↔i<env.length/\Q (env.set i (.sh d)):=BW
theorem Wo_gT:Wo (gT n u (.tup ds) env) Q↔ds.length=n/\Wo (u ds env) Q:=by unfold gT;by_cases h:ds.length=n<;>simp[h,Wo_none]
theorem b5K:Wo (G8 [] env) Q↔Q env:=a0T
theorem b4K:Wo (BO g u (d::ds) env) Q↔Wo (g d env) λe=>Wo (u ds e) Q:=a09
noncomputable def qL:Option Sl->(List D->Prop)->Prop
 |some (.ow ds),Q=>Q ds
 |_,_=>False
theorem b6v:qL (some (.ow ds)) Q↔Q ds:=CO
theorem b6w:Wo (jy i f env) Q↔qL env[i]? λds=>Wo (f env) λr=>ds.length<16777216/\Q (.nx,env.set i (.ow (ds++[r.d]))):=by
 unfold jy
 cases env[i]? with
 |none=>simp[Wo_none,qL]
 |some s=>cases s with
  |no=>simp[Wo_none,qL]
  |dw d=>simp[Wo_none,qL]
  |tw _ _=>simp[Wo_none,qL]
  |sh d=>simp[Wo_none,qL]
  |ow ds=>dsimp only [qL];rw[a09];simp only[BW]
theorem Sl_sh:Sl.d (.sh d)=d:=rfl
theorem Sl_ow:Sl.d (.ow ds)=.lst false ds:=rfl
theorem b5L:Wo (aD (.lst false a) (.lst false b)) Q↔a.length+b.length<=16777216/\Q (.ow (a++b)):=BW
theorem b3U:D.oy .dO=true:=rfl
theorem b5p:D.oy (.bl b)=false:=rfl
theorem b3W:D.oy (.int i)=false:=rfl
theorem b3T:D.oy (.str x)=false:=rfl
theorem b3S:D.oy (.tup ds)=false:=rfl
theorem b3V:D.oy (.lst r ds)=false:=rfl
theorem b8h:Wo (nQ fi caps nt g fc fe env) Q↔Wo (fi env) λds=>Wo (sv caps env) λcs=>ds.length<=16777216/\Wo (pU g fc fe ds (pE nt Sl.no++cs)) λrs=>Q (.ow rs):=by
 unfold nQ;rw[a09];refine Bk λds=>?_;rw[a09];refine Bk λcs=>?_;by_cases h:ds.length<=16777216;.rw [if_pos h,a8i];exact⟨λz=>⟨h,z⟩,λz=>z.2⟩
 .rw [if_neg h,Wo_none];exact⟨gg,λz=>h z.1⟩
theorem b8i:Wo (sv [] env) Q↔Q []:=a0T
theorem rep0{l:En}:pE 0 Sl.no++l=l:=rfl
theorem rep1{l:En}:pE 1 Sl.no++l=Sl.no::l:=rfl
theorem rep2{l:En}:pE 2 Sl.no++l=Sl.no::Sl.no::l:=rfl
theorem rep3{l:En}:pE 3 Sl.no++l=Sl.no::Sl.no::Sl.no::l:=rfl
theorem rep4{l:En}:pE 4 Sl.no++l=Sl.no::Sl.no::Sl.no::Sl.no::l:=rfl
theorem b5J:Wo (sE env) Q↔Q true:=a0T
theorem Wo_compC:Wo (pU g fc fe (d::ds) e) Q↔Wo (g d e) λe1=>Wo (fc e1) λb =>
  (b=true->Wo (fe e1) λr=>Wo (pU g fc fe ds e1) λrs=>Q (r.d::rs))/\(b=false->Wo (pU g fc fe ds e1) Q):=by
 rw[pU,a09];refine Bk λe1=>?_;rw[a09];refine Bk λb=>?_;cases b;.rw [if_neg zq];simp
 .rw [if_pos rfl,a09];simp only[a09,a0T];simp
theorem b8c:Wo (o9 f env) Q↔Wo (f env) λr=>Wo (lp r.d) λx=>Q x.2:=by unfold o9;rw[a09];simp only[a8i]
theorem comp_map{α:Type}(enc:α->D)(f:α->D)(P:En->Prop)(xs:List α)
  (h:∀a∈xs,∀e,P e->Wo (g (enc a) e) λe1=>P e1/\Wo (fc e1) λb=>b=true/\Wo (fe e1) λr=>r.d=f a):∀{e:En},P e->pU g fc fe (xs.map enc) e=some (xs.map f):=by
 induction xs with
 |nil=>intro e _;rfl
 |cons a xs ih => intro e he;obtain⟨e1,g1,p1,b,c1,rfl,r,f1,f2⟩:=h a nA e he;rw[jM,pU,g1,Ry,c1,Ry,if_pos rfl,f1,Ry,ih (λb hb=>h b (mZ _ hb)) p1,f2];rfl
noncomputable def CJ{α:Type}(xs:List α)(lo hi:Option Int):List α:=(xs.drop (HT.d7 xs.length 0 lo)).take (HT.d7 xs.length xs.length hi-HT.d7 xs.length 0 lo)
theorem b5G{α:Type}{f:α->D}(xs:List α)(lo hi:Option Int):cutD (xs.map f) lo hi=(CJ xs lo hi).map f:=by unfold cutD CJ;rw[kN,<-List.map_drop,<-List.map_take]
theorem b7Y{α:Type}(xs:List α){n:Nat}:CJ xs none (some (n:Int))=xs.take n:=by
 unfold CJ;rw[HT.Cf,HT.zZ];simp only[Nat.sub_zero,List.drop_zero];by_cases h:n<=xs.length;.rw [Rq h]
 .rw [Nat.min_eq_right (by omega),RC (fQ _),RC (by omega)]
end DL
namespace DL
theorem XQ(h:-(10^250)<=i)(h2:i<=10^250)(h3:-(10^250)<=j)(h4:j<=10^250):MulC i j:=.inr (.inr ⟨⟨h,h2⟩,h3,h4⟩)
theorem b7X(h:0<j)(h2:j<=10^250):DivC i j:=⟨h,h2⟩
end DL
namespace DL
open PySem PySem.Spec PyProof.Rows L2
def Tr(h:Heap)(e T:Addr)(c:Value):Prop:=∃oe vs a0 oT ts,h.get? e=some oe/\(oe.cls=c/\vs[0]?=some a0)/\oe.data=.fields vs/\vs[1]?=some (.ref T)/\T≠e/\h.get? T=some oT/\oT.data=.fields ts/\ts[3]?=some .none
structure Lies(h0:Heap)(H:Hp)(h:Heap)(e:Addr)(c:Value):Prop where
 new:h0.get? e=none
 un:H e=none
 tr:∃T,h0.get? T=none/\H T=none/\Tr h e T c
theorem b5b(x:gj P w H h a o):∃u,h.get? a=some u:=by
 induction o with
 |lst xs=>obtain⟨_,_,_,_,e⟩:=x;exact⟨_,e⟩
 |tup xs=>obtain⟨_,_,_,ob,e,_⟩:=x;exact⟨_,e⟩
 |dK dz=>obtain⟨_,_,_,_,o,_,_,e,_⟩:=x;exact⟨_,e⟩
 |dT dz=>obtain⟨_,_,_,_,o,_,_,e,_⟩:=x;exact⟨_,e⟩
 |set S n=>obtain⟨o,_,_,_,e,_⟩:=x;exact⟨_,e⟩
 |tab q=>obtain⟨_,e,_⟩:=x;exact⟨_,e⟩
 |ins C dx fs=>obtain⟨_,_,_,e,_⟩:=x;exact⟨_,e⟩
 |own y=>obtain⟨ob,e⟩:=x;exact⟨_,e⟩
 |xd fs=>obtain⟨_,⟨_,_,_,e,_⟩,_⟩:=x;exact⟨_,e⟩
 |L4 lo hi=>obtain⟨_,_,_,e⟩:=x;exact⟨_,e⟩
 |q8 ob u ih=>obtain⟨e,_⟩:=x;exact⟨_,e⟩
 |DC ps=>exact⟨_,x⟩
 |met f y=>exact⟨_,x⟩
 |ext φ=>obtain⟨_,⟨o,e⟩,_⟩:=x;exact⟨_,e⟩
theorem WX(x:jK P w H h)(e:H a=some o):∃u,h.get? a=some u:=b5b (x a o e)
theorem b5r(x:jK P w H h)(e:h.get? a=none):H a=none:=by
 cases q:H a with
 |none=>rfl
 |some o=>obtain⟨u,z⟩:=WX x q;rw[e] at z;cases z
theorem TX{h b0 b1:Heap}:∀{l:List Env},h.FunFrames b0 l->(∀L∈j4 l,b1.get? L=none)->h.FunFrames b1 l
 |[],_,_=>trivial
 |env::r,⟨k,⟨L,o,hf,_,ho,hd⟩,t⟩,hb =>
  ⟨k,⟨L,o,hf,hb L (by unfold j4;rw[Kz,hf];exact nA),ho,hd⟩,
   TX t λL' m=>hb L' (by unfold j4 at m ⊢;rw[Kz,hf];exact mZ _ m)⟩
noncomputable def Cs(h:Heap)(e T:Addr)(l:List Env):Heap:=Rw h (e::T::j4 l)
theorem WU(t:Tr h e T c)(hl:h.FunFrames b0 l):∃a0,Heap.FlyingW (Cs h e T l) l e c a0 h:=by obtain⟨oe,vs,a0,oT,ts,he,hc,hd,h1,hT,GG,GD,h3⟩:=t;refine⟨a0,λb o q=>Rn _ q,KD _ nA,TX hl λL m=>KD _ (mZ _ (mZ _ m)),?_⟩;exact⟨oe,vs,T,oT,ts,he,hc,hd,h1,KD _ (mZ _ nA),hT,GG,GD,h3⟩
theorem Td{h h1 h' b0 B:Heap}(hl:h.FunFrames b0 l)(hB:∀b o,h.get? b=some o->b∉j4 l->b∉ex->B.get? b=some o)(st:B.StaysIn h')(k1:∀b o,h.get? b=some o->h1.get? b=some o)(up:h1.UpToSlots h'):Un (j4 l) ex H H h h':=by
 have sl:∀b o,h.get? b=some o->b∈j4 l->∃s,h'.get? b=some { o with slots:=s }:=λb o e m=>by obtain⟨_,o',lS,hd⟩:=hl.mem m;rw[e] at lS;cases lS;exact up b o (k1 b o e) hd
 refine⟨λb o e _ n1 n2=>st b o (hB b o e n1 n2),λb o e _ m _=>sl b o e m,λ_ _ _ n _=>n,λb o e n2=>?_,λ_ _ q=>q,λ_ _ _ q=>q,λ_ ps q=>⟨#[],by rw[q];simp⟩⟩;by_cases m:b∈j4 l;.obtain ⟨s,q⟩:=sl b o e m;exact⟨_,q⟩
 .exact ⟨o,st b o (hB b o e m n2)⟩
theorem S4(a:Un fs [] H0 H h0 h)(b:Un fs2 Ms H H' h h')(hf:∀x∈fs2,x∈fs\/h0.get? x=none)(hx:∀x∈Ms,h0.get? x=none):Un fs [] H0 H' h0 h' where
 keep:=λc o q n hc _=>b.keep c o (a.keep c o q n hc (by simp)) (a.free c o q n (by simp)) (λz=>(hf c z).elim hc λy=>by rw[q] at y;cases y) λz=>by rw[hx c z] at q;cases q
 slot:=λc o q n hc _=>by
  obtain⟨sl,e1⟩:=a.slot c o q n hc (by simp);have nx:c∉Ms:=λz=>by rw[hx c z] at q;cases q
  obtain⟨s2,e2⟩:=b.any e1 (a.free c o q n (by simp)) nx;exact⟨s2,e2⟩
 free:=λc o q n _=>by obtain⟨o',e1⟩:=a.there c o q (by simp);exact b.free c o' e1 (a.free c o q n (by simp)) λz=>by rw[hx c z] at q;cases q
 there:=λc o q _=>by obtain⟨o',e1⟩:=a.there c o q (by simp);exact b.there c o' e1 λz=>by rw[hx c z] at q;cases q
 jR:=λc xs q=>b.jR c xs (a.jR c xs q)
 jE:=λc o u q=>b.jE c o u (a.jE c o u q)
 jS:=λc ps q=>by obtain⟨m1,e1⟩:=a.jS c ps q;obtain⟨m2,e2⟩:=b.jS c _ e1;exact⟨m1++m2,by rw[e2,MS]⟩
theorem Ts{P:Program}{w:World}{H:Hp}{fs ex:List Addr}{h h':Heap}(ok:jK P w H h)(B:Heap)(hB:∀b o,h.get? b=some o->b∉fs->b∉ex->B.get? b=some o)(st:B.StaysIn h')(hf:∀b∈fs,H b=none)(hx:∀b∈ex,H b=none):jK P w H h':=λa o e=>by
 refine(ok a o e).oV (λb u hb q=>st b u (hB b u q ?_ ?_)) (λ_ _ _ q=>q) λ_ _ q=>q
 .intro z;rcases hb with rfl | hb;.rw [hf _ z] at e;cases e
  .rw [hf _ z] at hb;cases hb
 .intro z;rcases hb with rfl | hb;.rw [hx _ z] at e;cases e
  .rw [hx _ z] at hb;cases hb
theorem Xd{P:Program}{w:World}{H:Hp}{h0 h h' b0 B:Heap}{l l':List Env}{ex:List Addr}{e:Addr}{c a0:Value}(ok:jK P w H h)(hl:h.FunFrames b0 l)(hB:∀b o,h.get? b=some o->b∉j4 l->b∉ex->B.get? b=some o)(fl:Heap.FlyingW B l' e c a0 h')
  (up:∀b o,h.get? b=some o->b∈j4 l->∃sl,h'.get? b=some { o with slots:=sl })(hf:∀b∈j4 l,H b=none)(hx:∀b∈ex,H b=none)(t0:∀b o,h0.get? b=some o->∃o',h.get? b=some o')(x0:∀b∈ex,h0.get? b=none):
  ∃T,h0.get? T=none/\H T=none/\Tr h' e T c:=by
 obtain⟨_,_,_,oe,vs,T,oT,ts,he,hc,hd,h1,hn,hT,GG,GD,h3⟩:=fl
 have key:∀o,h.get? T=some o->T∈ex:=λo q=>by
  by_cases m:T∈j4 l;.exfalso;obtain⟨_,o',lS,Mi⟩:=hl.mem m;rw[q] at lS;cases lS;obtain⟨sl,q'⟩:=up T o q m;rw[GG] at q';cases q';exact Mi ts GD
  .by_cases n:T∈ex;.exact n
   .have:=hB T o q m n;rw[hn] at this;cases this
 refine⟨T,?_,?_,oe,vs,a0,oT,ts,he,hc,hd,h1,hT,GG,GD,h3⟩
 .cases q:h0.get? T with
  |none=>rfl
  |some o => obtain⟨o',q'⟩:=t0 T o q;rw[x0 T (key o' q')] at q;cases q
 .cases q:H T with
  |none=>rfl
  |some o => obtain⟨u,q'⟩:=WX ok q;rw[hx T (key u q')] at q;cases q
noncomputable def nE(P:Program)(w:World):uu:=λouter H s E e s'=>∃ea c H',e=.ref ea/\s'.os=s.os/\AllBare s'.gens/\Un (j4 outer) [] H H' s.heap s'.heap/\jK P w H' s'.heap/\Lies s.heap H' s'.heap ea c/\E c none H'
def Xk(X:Cx)(W:L2.St->Hp->Value->Prop):Prop:=∀(pins:List (Addr×Obj)) (σ:L2.St) (H:Hp) (s:Shared) (e:Value) (s':Shared),Inv X pins σ H s->nE X.prog X.w X.stack H s (λc _ H'=>W σ H' c) e s'->X.xe e s'
def Xr(X:Cx)(W:L2.St->Hp->Value->Prop):Prop:=∀(pins:List (Addr×Obj)) (σ:L2.St) (H:Hp) (s:Shared) (h':Heap) (e:Addr) (c:Value) (vs:List Value),Inv X pins σ H s->Heap.MadeExcOf s.heap h' e c vs->W σ H c->X.xe (.ref e) { s with heap:=h' }
section
variable {P:Program}{w:World}{K:aG}{mg:Str->Option Value}{base:Heap}{N:List Str}{qual:Str}{scope:Scope}{f:Addr}{cd:Value}{A:Around}{outer:List Env}{s:Shared}{H:Hp}{E:XK}
theorem Nz{X:Cx}{pins:List (Addr×Obj)}{σ:L2.St}{H':Hp}{s1:Shared}(I:Inv X pins σ H' s1)(hx:X.ex=[]){a:Addr}(h:s1.heap.get? a=none):X.dZ.heap.get? a=none:=by
 cases q:X.dZ.heap.get? a with
 |none=>rfl
 |some o => obtain⟨o',e⟩:=I.base.there a o q (by rw[hx];simp);rw[h] at e;cases e
theorem R5:Xk (hU (nE P w) P w K mg base N qual scope f cd A outer s H E) λ_ H' c=>E c none H':=by
 intro pins σ H1 s1 e s' I hc;obtain⟨ea,c,H',rfl,os,bare,un,cM,⟨new,EW,T,ES,hT,tr⟩,hE⟩:=hc;have J:Inv (hU (nE P w) P w K mg base N qual scope f cd A outer s H E) pins σ H' s':=I.A0 os un cM bare (by simp);have hl:=J.stack;have ir:=J.jT;obtain⟨a0,fl⟩:=WU tr hl;show wpAny _ _ (leaving _ _) _ _ s';have ne:s.heap.get? ea=none:=Nz I rfl new;have nT:s.heap.get? T=none:=Nz I rfl ES
 have hB:∀b o,s'.heap.get? b=some o->b∉j4 (hU (nE P w) P w K mg base N qual scope f cd A outer s H E).stack->b∉[ea,T]->(Cs s'.heap ea T (hU (nE P w) P w K mg base N qual scope f cd A outer s H E).stack).get? b=some o:=λb o q n1 n2 =>
  MV _ q λz=>by
   rcases iF.mp z with z|z;.exact n2 (by simp[z])
   .rcases iF.mp z with z | z;.exact n2 (by simp[z])
    .exact n1 z
 refine wpAny_leaves_onW (outer:=outer) J.ok.frames rfl fl λh' Fi up=>?_;have U:=Td (H:=H') hl hB Fi.1 (λ_ _ q=>q) up
 have hx:∀b∈[ea,T],H' b=none:=λb z=>by
  rcases iF.mp z with z|z;.rw [z];exact EW
  .rw [BK.mp z];exact hT
 have x0:∀b∈[ea,T],s.heap.get? b=none:=λb z=>by
  rcases iF.mp z with z|z;.rw [z];exact ne
  .rw [BK.mp z];exact nT
 refine⟨ea,c,H',rfl,J.os,bare,?_,Ts cM _ hB Fi.1 ir hx,⟨ne,EW,?_⟩,hE⟩
 .refine S4 J.base U (λx z=>?_) x0;rcases iF.mp (J.iM x z) with z | z;.exact .inr (by rw[z];exact MJ J.ok.above)
  .exact .inl z
 .exact Xd cM hl hB Fi (λb o q m=>U.any q (ir b m) λz=>by
    obtain⟨_,o',lS,Mi⟩:=hl.mem m;obtain⟨oe,vs,a0',oT,ts,he,_,hd,_,_,GG,GD,_⟩:=tr;rcases iF.mp z with z|z;.rw [z,he] at lS;cases lS;exact Mi vs hd
    .rw [BK.mp z,GG] at lS;cases lS;exact Mi ts GD) ir hx (λb o q=>J.base.there b o q (by show b∉[];simp)) x0
theorem RX:Xr (hU (nE P w) P w K mg base N qual scope f cd A outer s H E) λ_ H' c=>E c none H':=by
 intro pins σ H1 s1 h1 ea c vs J hx hE;have hl:=J.stack;have ir:=J.jT;have ne:s.heap.get? ea=none:=Nz J rfl hx.new;have hB:∀b o,s1.heap.get? b=some o->b∉j4 (hU (nE P w) P w K mg base N qual scope f cd A outer s H E).stack->b∉([]:List Addr)->(Rw s1.heap (j4 (hU (nE P w) P w K mg base N qual scope f cd A outer s H E).stack)).get? b=some o:=λb o q n1 _=>MV _ q n1;show wpAny _ _ (leaving _ _) _ _ _;refine wpAny_leaves_madeW (s:={ s1 with heap:=h1 }) (outer:=outer) J.ok.frames rfl (λb o q=>Rn _ q) (TX hl λL m=>KD _ m) hx λh' t Fi _ _ up=>?_;have U:=Td (H:=H1) hl hB Fi.1 hx.keeps up;refine⟨ea,c,H1,rfl,J.os,J.bare,?_,Ts J.cM _ hB Fi.1 ir (by simp),⟨ne,b5r J.cM hx.new,?_⟩,hE⟩
 .refine S4 J.base U (λx z=>?_) (by simp);rcases iF.mp (J.iM x z) with z | z;.exact .inr (by rw[z];exact MJ J.ok.above)
  .exact .inl z
 .exact Xd J.cM hl hB Fi (λb o q m=>U.any q (ir b m) (by simp)) ir (by simp) (λb o q=>J.base.there b o q (by show b∉[];simp)) (by simp)
end
end DL
namespace DL
open PySem PySem.Spec PyProof.Rows L2
noncomputable def Gw(K:aG)(mg:Str->Option Value)(n:Nat)(ρ:List D->Option Str):Sp:=λvs H _ E=>∃(O:Addr->Prop) (ds:List D) (nm:Str),zM K O H/\aU K O H vs ds/\vs.length=n/\ρ ds=some nm/\∀c H',mg nm=some c->az H H'->E c none H'
inductive EX (X:Cx) (W:L2.St->Hp->Value->Prop) (e:Expr) (r:En->Option Str):Prop
 |mk (t:TE) (p:PE X e t) (k:∀(O:Addr->Prop) (B:Hp) (σ:L2.St) (H:Hp) (env:En) (nm:Str) (Q:VK),Rel X.K O B σ H env->r env=some nm->(∀c H',X.mg nm=some c->az H H'->W σ H' c)->t σ H Q)
inductive AX (X:Cx) (W:L2.St->Hp->Value->Prop) (es:List Expr) (r:En->Option Str):Prop
 |mk (t:TA) (p:PA X es t) (k:∀(O:Addr->Prop) (B:Hp) (σ:L2.St) (H:Hp) (env:En) (nm:Str) (Q:List V->Hp->Prop),Rel X.K O B σ H env->r env=some nm->(∀c H',X.mg nm=some c->az H H'->W σ H' c)->t σ H Q)
noncomputable abbrev RF:=En->Option (Str×En)
inductive XV (X:Cx) (W:L2.St->Hp->Value->Prop) (st:Stmt) (r:RF):Prop
 | mk (t:TS) (p:PS X st t) (k:∀(O:Addr->Prop) (B:Hp) (σ:L2.St) (H:Hp) (env:En) (nm:Str) (af:En) (D:Ends),Rel X.K O B σ H env->r env=some (nm,af) ->
  (∀aH H' c,X.mg nm=some c->Rel X.K O B aH H' af->Gd σ env H aH af H'->W aH H' c)->t D σ H)
inductive Dr (X:Cx) (W:L2.St->Hp->Value->Prop) (st:List Stmt) (r:RF):Prop
 | mk (t:TS) (p:nZ X st t) (k:∀(O:Addr->Prop) (B:Hp) (σ:L2.St) (H:Hp) (env:En) (nm:Str) (af:En) (D:Ends),Rel X.K O B σ H env->r env=some (nm,af) ->
  (∀aH H' c,X.mg nm=some c->Rel X.K O B aH H' af->Gd σ env H aH af H'->W aH H' c)->t D σ H)
section
variable {X:Cx}{W:L2.St->Hp->Value->Prop}{e a b c:Expr}{es:List Expr}{st:Stmt}{rest sa sb:List Stmt}{F G:SF}{r r':RF}{re:En->Option Str}{fa:En->Option Sl}{ga:En->Option Bool}{fs:En->Option (List D)}{pos p bx np:Pos}
noncomputable def EJ:RF:=λ_=>none
noncomputable def Na:SF:=λ_=>none
theorem X7:SV X st Na:=⟨λ_ _ _=>False,λ_ _ _ _ _ _ h=>h.elim,λ_ _ _ _ _ _ _ _ _ e _=>by cases e⟩
theorem RY:XV X W st EJ:=⟨λ_ _ _=>False,λ_ _ _ _ _ _ h=>h.elim,λ_ _ _ _ _ _ _ _ _ e _=>by cases e⟩
theorem EV.aI(h:EV X.aI e fa):EV X e fa:=let ⟨t,p,k⟩:=h;⟨t,p.aI,k⟩
theorem TV.aI(h:TV X.aI e ga):TV X e ga:=let ⟨t,p,k⟩:=h;⟨t,p.aI,k⟩
theorem SV.aI(h:SV X.aI st F):SV X st F:=let ⟨t,p,k⟩:=h;⟨t,λpins s σ H D I hw=>mW (p pins s σ H D (I.iA _) hw) (λ_ _ q=>q.dI) λ_ _ z=>gg z,k⟩
theorem AV.aI(h:AV X.aI es fs):AV X es fs:=let ⟨t,p,k⟩:=h;⟨t,λpo pins s σ H Q I hw=>mW (p po pins s σ H Q (I.iA _) hw) (λ_ _ ⟨v,H',I',r,q⟩=>⟨v,H',I'.dI,r,q⟩) λ_ _ z=>gg z,k⟩
theorem b6x:Dr X W [] EJ:=⟨λ_ _ _=>False,λ_ _ _ _ _ _ h=>h.elim,λ_ _ _ _ _ _ _ _ _ e _=>by cases e⟩
noncomputable def uJ(r:RF)(F:SF)(r':RF):RF:=λenv=>match r env with
 |some x=>some x
 |none=>match F env with
  |some (.nx,env1)=>r' env1
  |_=>none
theorem NG(h:XV X W st r):Dr X W [st] r:=let ⟨t,p,k⟩:=h;⟨t,NH p,k⟩
theorem Tu(h:XV X W st r)(hv:SV X st F)(h2:Dr X W rest r'):Dr X W (st::rest) (uJ r F r'):=by
 obtain⟨t,p,k⟩:=h;obtain⟨v,pv,kv⟩:=hv;obtain⟨u,p',k'⟩:=h2;refine⟨λD σ H=>t { D with nx:=u D } σ H\/v { D with nx:=u D } σ H,λpins s σ H D I hw=>?_,λO B σ H env nm af D R e q=>?_⟩
 .rcases hw with hw | hw;.exact Bn p p' pins s σ H D I hw
  .exact Bn pv p' pins s σ H D I hw
 .unfold uJ at e
  cases hr:r env with
  |some x => rw[hr] at e;obtain rfl:=gY e;exact .inl (k O B σ H env nm af _ R hr q)
  |none =>
   rw[hr] at e
   cases hF:F env with
   |none=>rw[hF] at e;cases e
   |some x =>
    obtain⟨fl,env1⟩:=x;rw[hF] at e
    cases fl with
    |nx=>exact .inr (kv O B σ H env .nx env1 _ R hF λaH H' R' g'=>k' O B aH H' env1 nm af D R' e λft H2 c hc R2 g2=>q ft H2 c hc R2 (g'.trans g2))
    |bk=>cases e
    |ct=>cases e
    |rt z=>cases e
noncomputable def PD(c:En->Option Bool)(r r':RF):RF:=λenv=>match c env with
 |some true=>r env
 |some false=>r' env
 |none=>none
theorem HY(hc:TV X c ga)(ha:Dr X W sa r)(hb:Dr X W sb r'):XV X W (.If c sa sb pos) (PD ga r r'):=by
 obtain⟨tc,pc,kc⟩:=hc;obtain⟨t,p,k⟩:=ha;obtain⟨u,p',k'⟩:=hb;refine⟨_,M6 pc p p',λO B σ H env nm af D R e q=>?_⟩;unfold PD at e
 cases h:ga env with
 |none=>rw[h] at e;cases e
 |some x =>
  rw[h] at e;refine kc O B σ H env x _ R h λH1 s1=>?_
  cases x with
  |true => rw[if_pos rfl];exact k O B σ H1 env nm af D (R.grow s1) e λft H2 c hc R2 g2=>q ft H2 c hc R2 ((Gd.refl s1).trans g2)
  |false => rw[if_neg zq];exact k' O B σ H1 env nm af D (R.grow s1) e λft H2 c hc R2 g2=>q ft H2 c hc R2 ((Gd.refl s1).trans g2)
noncomputable def rE(re:En->Option Str):RF:=λenv=>(re env).map λnm=>(nm,env)
theorem b8q(h:EX X W e re):XV X W (.Return (some e) pos) (rE re):=by obtain⟨t,p,k⟩:=h;refine⟨_,La p,λO B σ H env nm af D R e q=>?_⟩;obtain⟨n1,e1,e2⟩:=map_some e;cases e2;exact k O B σ H env nm _ R e1 λc H' hc s=>q σ H' c hc (R.grow s) (Gd.refl s)
theorem b8p{i:Nat}{x:Str}(hN:X.N.Nodup)(hi:X.N[i]?=some x)(hx:Loc X.env.scope x)(h:EX X W e re)(hs:autoParam (swapsWith e (some (.Name x pos')) pos.line X.env=pure false) ra2._auto_1)
  (hf:autoParam (X.fn x=true\/X.env.scope.names.lookup x=some .local) ra0._auto_1):XV X W (.Assign [.Name x pos'] e pos) (rE re):=by obtain⟨t,p,k⟩:=h;refine⟨_,F0 hN hi hx p hs hf,λO B σ H env nm af D R e q=>?_⟩;obtain⟨n1,e1,e2⟩:=map_some e;cases e2;exact k O B σ H env nm _ R e1 λc H' hc s=>q σ H' c hc (R.grow s) (Gd.refl s)
theorem SI(h:EX X W e re)(hr:AV X es fs)(hs:autoParam (starEach (e::es) X.env=(false,eval e X.env)::starEach es X.env) ra2._auto_1):AX X W (e::es) re:=by obtain⟨t,p,k⟩:=h;obtain⟨u,p',_⟩:=hr;exact⟨_,lX p p' hs,λO B σ H env nm Q R e q=>k O B σ H env nm _ R e q⟩
noncomputable def Nk(f:En->Option Sl)(re:En->Option Str):En->Option Str:=λenv=>(f env).bind λ_=>re env
theorem b73(h:EV X e fa)(hr:AX X W es re)(hs:autoParam (starEach (e::es) X.env=(false,eval e X.env)::starEach es X.env) ra2._auto_1):AX X W (e::es) (Nk fa re):=by obtain⟨t,p,k⟩:=h;obtain⟨u,p',k'⟩:=hr;refine⟨_,lX p p' hs,λO B σ H env nm Q R e q=>?_⟩;obtain⟨x,e1,e2⟩:=bind_some e;exact k O B σ H env x _ R e1 λv H1 s1 r1=>k' O B σ H1 env nm _ (R.grow s1) e2 λc H' hc s=>q c H' hc (s1.trans s)
noncomputable def BQ(n:Nat)(ρ:List D->Option Str)(fs:En->Option (List D)):En->Option Str:=λenv=>(fs env).bind λds=>if ds.length=n then ρ ds else none
theorem KU{k:Nat}{f:Addr}{fd:FuncData}{ps:List Str}{sp:Sp}{pins:List (Addr×Obj)}{σ:L2.St}{H:Hp}{s:Shared}{Q:VK}{us:List Value}{vs:List V}(F:bQ X.prog X.w X.K X.mg X.base (nE X.prog X.w) k f fd ps sp)(hr:cD k X.A)(hb:Binds X.K fd ps [])(hx:Xk X W)
  (I:Inv X pins σ H s)(rv:aR vs us)(h:sp (vs++[]) H Q λc _ H'=>W σ H' c):wpAny (model X.prog X.w) X.A (call (.ref f) us) (EP X pins σ Q) X.xe s:=by
 have r2:aR (vs++[]) (us++[]):=rv.append .nil;have hl:(us++[]).length=ps.length:=by rw[<-r2.length];exact F.len _ _ _ _ h
 refine Kv (Kt (F.run X.A X.stack s H ⟨us,[]⟩ (us++[]) (vs++[]) Q _ hr I.ig (hb s us I.km hl) r2 h) λz s' hq=>?_)
 cases z with
 |error e=>exact hx pins σ H s e s' I hq
 |ok fl =>
  cases fl with
  |ret u=>exact I.after hq
  |next=>exact gg hq
  |brk=>exact gg hq
  |cont=>exact gg hq
theorem b7O{k:Nat}{f:Addr}{fd:FuncData}{ps:List Str}{ρ:List D->Option Str}{x:Str}(F:bQ X.prog X.w X.K X.mg X.base (nE X.prog X.w) k f fd ps (Gw X.K X.mg ps.length ρ))(hr:cD k X.A)(hg:Gl X x)(hm:X.mg x=some (.ref f))(hk:ud X.K (.ref f)=true)(hb:Binds X.K fd ps [])
  (hx:Xk X W)(ha:AV X (e::es) fs)(d8:autoParam ((x==("__debug__":Str))=false) ra1._auto_1)(he:autoParam (starEach (e::es) X.env=(false,eval e X.env)::starEach es X.env) ra2._auto_1)(c6:autoParam ((backTo pos (starEach es X.env)).any (·.1)=false) ra2._auto_1):
  EX X W (.Call (.Name x p) (e::es) [] pos) (BQ ps.length ρ fs):=by
 obtain⟨t,pt,ka⟩:=ha;refine⟨λσ H Q=>t σ H λvs H1=>Gw X.K X.mg ps.length ρ (vs++[]) H1 Q λc _ H'=>W σ H' c,λpins s σ H Q I h=>?_,λO B σ H env nm Q R e q=>?_⟩;.refine FO (BY I hg hm ?_ d8);refine DW (h₀:=X.base) I.ok.mod.yk hk (cU (pt pos pins s σ H _ I h) λus s1 ⟨vs,H1,I1,r,q⟩=>⟨I1.km,?_⟩) he c6;exact KU F hr hb hx I1 r q
 .obtain ⟨ds,e1,e2⟩:=bind_some e;refine ka O B σ H env ds _ R e1 λvs H1 s1 r1=>?_;by_cases hn:ds.length=ps.length;.rw [if_pos hn] at e2;rw[qJ];exact⟨OO O σ env,ds,nm,(R.grow s1).dm,r1,by rw[r1.length,hn],e2,λc H' hc s=>q c H' hc (s1.trans s)⟩
  .rw [if_neg hn] at e2;cases e2
noncomputable def z8(r r':En->Option Str):En->Option Str:=λenv=>match r env with
 |some x=>some x
 |none=>r' env
theorem Ke(h:EX X W e re)(h':EX X W e re'):EX X W e (z8 re re'):=by
 obtain⟨t,p,k⟩:=h;obtain⟨u,p',k'⟩:=h';refine⟨λσ H Q=>t σ H Q\/u σ H Q,λpins s σ H Q I hw=>hw.elim (p pins s σ H Q I) (p' pins s σ H Q I),λO B σ H env nm Q R e q=>?_⟩;unfold z8 at e
 cases hr:re env with
 |some x=>rw[hr] at e;obtain rfl:=gY e;exact .inl (k O B σ H env x Q R hr q)
 |none=>rw[hr] at e;exact .inr (k' O B σ H env nm Q R e q)
end
noncomputable abbrev Wy:List Value:=[.type "ValueError",.type "Exception",.type "BaseException",.type "object"]
structure LW(K:aG)(C:Addr):Prop where
 ob:∃(bm:List Value) (N:Addr) (nm q:Str) (bs:List Value) (hdct:Bool) (sn:List Str) (sub:List Value) (ab:Bool) (col:Option Bool) (dd:Option Addr) (k0 k1 k2 k3 k5:Option Value),K.lookup C=some (excClassObj nm q C N bs bm hdct sn sub ab col dd k0 k1 k2 k3 k5 "ValueError.__new__") /\
  PySem.W.nsOkIn K N=true/\iE K N "__init__" = some none/\PySem.W.tailIn K Wy bm=true
section
variable {X:Cx}{W:L2.St->Hp->Value->Prop}{e:Expr}{es:List Expr}{fs:En->Option (List D)}{pos p bx np:Pos}{x:Str}{C:Addr}
noncomputable def pN(nm:Str)(fs:En->Option (List D)):RF:=λenv=>(fs env).bind λds=>if ds.length<=16777216 then some (nm,env) else none
theorem B0(hc:X.calm=true)(hx:Xr X W)(ec:LW X.K C)(hg:Gl X x)(hm:X.mg x=some (.ref C))(ha:AV X (e::es) fs)(d8:autoParam ((x==("__debug__":Str))=false) ra1._auto_1)
  (he:autoParam (starEach (e::es) X.env=(false,eval e X.env)::starEach es X.env) ra2._auto_1)(c6:autoParam ((backTo bx (starEach es X.env)).any (·.1)=false) ra2._auto_1):XV X W (.Raise (some (.Call (.Name x np) (e::es) [] bx)) none pos) (pN x fs):=by
 obtain⟨t,pt,ka⟩:=ha;refine⟨λD σ H=>t σ H λvs H1=>vs.length<=sizeLine/\W σ H1 (.ref C),λpins s σ H D I h=>?_,λO B σ H env nm af D R e q=>?_⟩
 .obtain ⟨bm,N,nm,q,bs,hdct,sn,sub,ab,col,dd,k0,k1,k2,k3,k5,lk,n1,n2,tl⟩:=ec.ob;have T:=Wd I.km tl
  refine wpAny_Raise_call_subT (C:=C) (nm:=nm) (q:=q) (N:=N) (bs:=bs) (bm:=bm) (hdct:=hdct) (sn:=sn) (sub:=sub) (ab:=ab) (col:=col) (dd:=dd) (k0:=k0) (k1:=k1) (k2:=k2) (k3:=k3) (k5:=k5)
   PySem.F.excBase_ValueError (mN:=X.base.nsMap N) (T.hasType (by decide +kernel)) (I.ok.hd hc) (by rw[he];show (false||(backTo bx (starEach es X.env)).any (·.1))=false;rw[c6];rfl) (PySem.W.nsMap_none_of_in I.mod.yk n1 n2) (BY I hg hm ⟨rfl,?_⟩ d8);have h1:=pt bx pins s σ H _ I h;rw[he] at h1 ⊢;refine V6 (mW h1 (λus s2 ⟨vs,H2,I2,r2,hl,q2⟩=>?_) λ_ _ y=>y);exact⟨rfl,by show us.length<=_;rw[<-r2.length];exact hl,I2.km _ _ lk,(Heap.Ns.of_isNs (PySem.W.isNs_of_in I2.mod.yk n1)).keeps I2.bk,Wd I2.km tl,λh' ea hm=>hx pins σ H2 s2 h' ea _ _ I2 hm q2⟩
 .obtain ⟨ds,e1,e2⟩:=bind_some e;obtain⟨hl,e3⟩:=jv e2;cases e3;exact ka O B σ H env ds _ R e1 λvs H1 s1 r1=>⟨by rw[r1.length,kM];exact hl,q σ H1 _ hm (R.grow s1) (Gd.refl s1)⟩
end
section
variable {P:Program}{w:World}{K:aG}{mg:Str->Option Value}{base:Heap}
noncomputable def Ci(r:RF)(N:Nat)(ds:List D):Option Str:=(r (jQ N ds)).map (·.1)
theorem Kc{x qual:Str}{st:Stmt}{f:Addr}{fd:FuncData}{N ps:List Str}{k:Nat}{r:RF}(Fn:ur K x qual st f fd)(S:bP N ps (dR st))
  (bu:∀(X:Cx) (W:L2.St->Hp->Value->Prop),X.prog=P->X.w=w->X.K=K->X.mg=mg->X.base=base->Fx X.aI N (dR st) k->Xk X W->Xr X W->Dr X W (iG st) r):bQ P w K mg base (nE P w) (k+1) f fd ps (Gw K mg ps.length (Ci r N.length)):=by
 obtain⟨oc,od,kV,doc,pm,an,fu,ct,Ad,rfl,lk,dC⟩:=Fn.ex;refine M0 lk dC S (λvs H Q E h=>?_) λA outer s H vs Q E hr tR=>?_;.obtain ⟨O,ds,nm,_,_,hl,_⟩:=h;exact hl
 obtain⟨O,ds,nm,hO,hi,hl,e,q⟩:=tR;obtain⟨t,p,kk⟩:=bu (hU (nE P w) P w K mg base N qual (dR st) f fu A outer s H E) (λ_ H' c=>E c none H') rfl rfl rfl rfl rfl ⟨rfl,rfl,rfl,λ_ _=>rfl,BJ,hr,S.nd,λ_=>⟨rfl,rfl,rfl⟩⟩ R5 RX;obtain⟨⟨P0,af⟩,e1,e2⟩:=map_some e;cases e2;exact⟨t,p,kk O H (start N vs) H (jQ N.length ds) P0 af _ (Hv hO hi) e1 λaH H' c hc R' _=>q c H' hc R'.same⟩
end
def Xz(P:Program)(w:World)(K:aG)(mg:Str->Option Value)(base:Heap)(x:Str)(st:Stmt)(ps:List Str)(j:Nat)(ρ:List D->Option Str):Prop:=∃f fd,Def K mg x st ps f fd/\bQ P w K mg base (nE P w) j f fd ps (Gw K mg ps.length ρ)
theorem Wu{P:Program}{w:World}{K:aG}{mg:Str->Option Value}{base:Heap}{x:Str}{st:Stmt}{f:Addr}{fd:FuncData}{N ps:List Str}{k:Nat}{r:RF}(D':Def K mg x st ps f fd)
  (bu:∀(X:Cx) (W:L2.St->Hp->Value->Prop),Sx X P w K mg base->Fx X.aI N (dR st) k->Xk X W->Xr X W->Dr X W (iG st) r)(S:autoParam (bP N ps (dR st)) ra6._auto_1):Xz P w K mg base x st ps (k+1) (Ci r N.length):=
 ⟨f,fd,D',Kc D'.fn S λX W e1 e2 e3 e4 e5=>by subst e1 e2 e3 e4 e5;exact bu X W (.mk X)⟩
theorem O4{X X':Cx}{x:Str}{st:Stmt}{ps:List Str}{j:Nat}{ρ:List D->Option Str}(e1:X'.prog=X.prog)(e2:X'.w=X.w)(e3:X'.K=X.K)(e4:X'.mg=X.mg)(e5:X'.base=X.base)(O:Xz X.prog X.w X.K X.mg X.base x st ps j ρ):Xz X'.prog X'.w X'.K X'.mg X'.base x st ps j ρ:=by rw[e1,e2,e3,e4,e5];exact O
theorem Fx.O6{X:Cx}{W:L2.St->Hp->Value->Prop}{N:List Str}{sc:Scope}{k j:Nat}{full:Bool}{x:Str}{st:Stmt}{ps:List Str}{ρ:List D->Option Str}{e:Expr}{es:List Expr}{fs:En->Option (List D)}{p pos:Pos}(h:Fx X.aI N sc k full)(O:Xz X.prog X.w X.K X.mg X.base x st ps j ρ)(hx:Xk X W)(ha:AV X (e::es) fs)(hj:autoParam (j<=k) ra1._auto_1)(hg:autoParam (sc.names.lookup x=some .globalImplicit) ra2._auto_1)(d8:autoParam ((x==("__debug__":Str))=false) ra1._auto_1)(he:autoParam (starEach (e::es) X.env=(false,eval e X.env)::starEach es X.env) ra2._auto_1)(c6:autoParam ((backTo pos (starEach es X.env)).any (·.1)=false) ra2._auto_1):
  EX X W (.Call (.Name x p) (e::es) [] pos) (BQ ps.length ρ fs):=by obtain⟨f,fd,D',F⟩:=O;exact b7O F (h.room.mono hj) (h.g hg) D'.m D'.fn.kp D'.bd hx ha d8 he c6
end DL
namespace DL
open PySem PySem.Spec PyProof.Rows L2
section
variable {X:Cx}{pins:List (Addr×Obj)}{σ:L2.St}{H:Hp}{s:Shared}{h':Heap}
theorem b7r(J:Inv X pins σ H s)(hx:X.ex=[])(U:Un (j4 X.stack) Ms H H s.heap h')(cM:jK X.prog X.w H h')
  (n0:∀b∈Ms,X.dZ.heap.get? b=none/\b≠X.env.locals/\(∀x c,X.env.cells.lookup x=some c->c≠b)/\∀p∈X.pn++pins,p.1≠b):Inv X pins σ H { s with heap:=h' }:=by
 have cellK:∀x c v,X.env.cells.lookup x=some c->s.heap.IsCell c v->h'.IsCell c v:=λx c v e ⟨o,ho,hd⟩=>by obtain⟨sl,q⟩:=U.any ho (J.eG x c e) λz=>(n0 c z).2.2.1 x c e rfl;exact⟨_,q,hd⟩
 have hb:=J.base;rw[hx] at hb;refine⟨J.ok,J.os,J.bare,?_,?_,λx c e=>?_,J.free,J.eG,λp hp=>?_,cM,J.len⟩
 .rw [hx];refine S4 hb U (λx z=>?_) λb z=>(n0 b z).1;rcases iF.mp (J.iM x z) with z | z;.exact .inr (by rw[z];exact MJ J.ok.above)
  .exact .inl z
 .obtain ⟨m,⟨o,es,ep,ho,r⟩,hl⟩:=J.loc;obtain⟨sl,q⟩:=U.any ho J.free λz=>(n0 _ z).2.1 rfl;refine⟨m,⟨_,es,ep,q,r⟩,λi x v e1 e2 e3=>?_⟩;obtain⟨u,ru,l⟩:=hl i x v e1 e2 e3;refine⟨u,ru,?_⟩;rcases l with l | ⟨k,c,e,z⟩;.exact .inl l
  .exact .inr ⟨k,c,e,cellK x c _ e z⟩
 .obtain ⟨v,z⟩:=J.cell x c e;exact⟨v,cellK x c v e z⟩
 .obtain ⟨e,n,ne,nf,d⟩:=J.pin p hp;exact⟨U.keep p.1 p.2 e n (λz=>(iF.mp (J.iM _ z)).elim ne nf) λz=>(n0 p.1 z).2.2.2 p hp rfl,n,ne,nf,d⟩
theorem b3Y(J:Inv X pins σ H s)(h1:H e=none)(h0:X.dZ.heap.get? e=none)(h2:mT e C s.heap)(h3:e≠X.env.locals)(h4:∀x c,X.env.cells.lookup x=some c->c≠e)(h5:∀p∈X.pn++pins,p.1≠e):
  Inv X pins σ (upd H e (.ext (mT e C))) s:=by
 have ne:∀{b:Addr} {u:HO},H b=some u->b≠e:=λq=>oM q h1;refine⟨J.ok,J.os,J.bare,⟨J.base.keep,J.base.slot,λb o q n hx=>?_,J.base.there,λb xs q=>?_,λb o u q=>?_,λb ps q=>?_⟩,J.loc,J.cell,?_,λx c q=>?_,λp hp=>?_,λb u q=>?_,J.len⟩;.rw [eX (λz=>by rw[z,h0] at q;cases q)];exact J.base.free b o q n hx
 .have:=J.base.jR b xs q;rw[eX (ne this)];exact this
 .have:=J.base.jE b o u q;rw[eX (ne this)];exact this
 .obtain ⟨m,q'⟩:=J.base.jS b ps q;exact⟨m,by rw[eX (ne q')];exact q'⟩
 .rw [eX (pD h3)];exact J.free
 .rw [eX (h4 x c q)];exact J.eG x c q
 .obtain ⟨a,n,r⟩:=J.pin p hp;exact⟨a,by rw[eX (h5 p hp)];exact n,r⟩
 .by_cases hb:b=e;.subst hb;rw[ni] at q;cases q;obtain⟨o,ho,hc⟩:=h2;exact⟨⟨o,ho,hc⟩,⟨o,ho⟩,λg1 g2 ⟨o1,e1,e2⟩ k=>⟨o1,k o1 e1,e2⟩⟩
  .rw [eX hb] at q;exact(J.cM b u q).oV (λ_ _ _ z=>z) (λc _ _ z=>by rw[eX (ne z)];exact z) λc xs z=>by rw[eX (ne z)];exact z
noncomputable abbrev JP(X:Cx)(v:Value):Cx:={ X with A:=X.A.mark (some v),calm:=false,xe:=λ_ _=>False }
theorem Ya(J:Inv X pins σ H s)(v:Value):Inv (JP X v) pins σ H s:=
 ⟨⟨J.ok.mod,J.ok.kind,J.ok.glob,J.ok.blt,J.ok.above,J.ok.inj,J.ok.has,J.ok.Fw,λz=>(nomatch z),J.ok.frames,J.ok.Gu,J.ok.Mr,J.ok.bs,J.ok.A3,J.ok.rU,J.ok.vz,J.ok.j3,J.ok.CF⟩,J.os,J.bare,J.base,J.loc,J.cell,J.free,J.eG,J.pin,J.cM,J.len⟩
theorem NW(ok:X.Ok)(J:Inv (JP X v) pins σ H s):Inv X pins σ H s:=⟨ok,J.os,J.bare,J.base,J.loc,J.cell,J.free,J.eG,J.pin,J.cM,J.len⟩
noncomputable abbrev L5(X:Cx)(pins:List (Addr×Obj))(E:Value->Shared->Prop):Cx:={ X with xe:=E,pn:=X.pn++pins }
theorem b7q(J:Inv X pins σ H s)(E:Value->Shared->Prop):Inv (L5 X pins E) [] σ H s:=
 ⟨⟨J.ok.mod,J.ok.kind,J.ok.glob,J.ok.blt,J.ok.above,J.ok.inj,J.ok.has,J.ok.Fw,J.ok.hd,J.ok.frames,J.ok.Gu,J.ok.Mr,J.ok.bs,J.ok.A3,J.ok.rU,J.ok.vz,J.ok.j3,J.ok.CF⟩,J.os,J.bare,J.base,J.loc,J.cell,J.free,J.eG,λp hp=>J.pin p (by simpa using hp),J.cM,J.len⟩
theorem b3X(ok:X.Ok)(J:Inv (L5 X pins E) more σ H s):Inv X pins σ H s:=
 ⟨ok,J.os,J.bare,J.base,J.loc,J.cell,J.free,J.eG,λp hp=>J.pin p (KC _ hp),J.cM,J.len⟩
theorem name_goes{M:Model}{A:Around}{E:Value->Shared->Prop}{i:Nat}{n:Str}{pos:Pos}{Q:Unit->Shared->Prop}(J:Inv X pins σ H s)(hN:X.N.Nodup)(hi:X.N[i]?=some n)(hl:X.env.kindOf n=some .local)
  (q:∀s',Inv X pins (σ.set i none) H s'->Q () s'):wpAny M A (do bindName X.env n .none;unbindBehindTheSuite X.env n pos) Q E s:=by
 obtain⟨m,hn,Mm⟩:=id J.loc;have E8:(X.env.scope.kind==.class||(X.env.scope.kind==.module&&X.env.locals != X.env.globals))=false:=by rw[J.ok.kind];rfl
 refine wpAny_nameGoes_keeps hl hn E8 λh1 v hn1 sb=>q _ ?_;have sm:∀b o,b≠X.env.locals->s.heap.get? b=some o->h1.get? b=some o:=λb o hb e=>(sb.2 b hb).trans e;have Gy:∀b o,X.dZ.heap.get? b=some o->b≠X.env.locals:=λb o e=>lb (oC (ij e) J.ok.above);refine⟨J.ok,J.os,J.bare,⟨λb o e k f x=>sm b o (Gy b o e) (J.base.keep b o e k f x),λb o e k f x=>?_,J.base.free,λb o e x=>?_,J.base.jR,J.base.jE,J.base.jS⟩,⟨_,hn1,λj y w e1 e2 e3=>?_⟩,λx c e=>?_,J.free,J.eG,λp hp=>?_,λb u e=>?_,by rw[List.length_set];exact J.len⟩;.obtain ⟨sl,e1⟩:=J.base.slot b o e k f x;exact⟨sl,sm b _ (Gy b o e) e1⟩
 .obtain ⟨o',e1⟩:=J.base.there b o e x;exact⟨o',sm b _ (Gy b o e) e1⟩
 .have hj:j≠i:=λz=>by subst z;rw[lg (by rw[J.len];exact(oE.mp hi).1)] at e2;cases e2
  rw[gG (pD hj)] at e2;obtain⟨u',r',q'⟩:=Mm j y w e1 e2 e3;refine⟨u',r',?_⟩;rcases q' with⟨k,e⟩|⟨k,c,e,z⟩;.refine .inl ⟨k,?_⟩;have:y≠n:=λe=>hj (Te hN e1 (e▸hi));simp[this,e]
  .exact .inr ⟨k,c,e,z.sameBut sb (J.CK y c e)⟩
 .obtain ⟨w',z⟩:=J.cell x c e;exact⟨w',z.sameBut sb (J.CK x c e)⟩
 .obtain ⟨e,n,ne,nf,d⟩:=J.pin p hp;exact⟨sm p.1 p.2 ne e,n,ne,nf,d⟩
 .refine (J.cM b u e).oV (λc w hc z=>sm c w ?_ z) (λ_ _ _ z=>z) λ_ _ z=>z;rintro rfl;rcases hc with hc | hc;.rw [<-hc,J.free] at e;cases e
  .rw [J.free] at hc;cases hc
end
theorem Rel.drop{K:aG}{O:Addr->Prop}{B H:Hp}{σ:L2.St}{env:En}(R:Rel K O B σ H env)(i:Nat):Rel K O B (σ.set i none) H (env.set i .no)/\Gd σ env H (σ.set i none) (env.set i .no) H:=by
 have own:∀q,lN (σ.set i none) (env.set i .no) q->lN σ env q:=λq ⟨j,ds,e1,o,e2⟩=>by
  by_cases hj:j=i;.subst hj;rw[Rg] at e1;simp at e1;rw[<-e1.2] at o;exact o.elim
  .rw [gG (pD hj)] at e1 e2;exact⟨j,ds,e1,o,e2⟩
 have oo:∀q,OO O (σ.set i none) (env.set i .no) q->OO O σ env q:=λq z=>z.elim .inl λz=>.inr (own q z)
 have at_:∀{j:Nat} {x:Sl},(env.set i .no)[j]?=some x->x≠.no->j≠i/\env[j]?=some x:=λ{j x} e hx=>by
  by_cases hj:j=i;.subst hj;rw[Rg] at e;simp at e;exact absurd e.2.symm hx
  .rw [gG (pD hj)] at e;exact⟨hj,e⟩
 refine⟨⟨R.same,R.mR,by simp[R.len],λj d e=>?_,λj ds e=>?_,λj ds e=>?_,λj ks ds e=>?_,λj k ds es p e1 e2 e3 e4 o1 o2=>?_⟩,λq u e n=>⟨e,λz=>n (own q z)⟩⟩;.obtain ⟨hj,e⟩:=at_ e (λz=>nomatch z);obtain⟨v,e1,h⟩:=R.sh j d e;exact⟨v,by rw[gG (pD hj)];exact e1,h.less oo⟩
 .obtain ⟨hj,e⟩:=at_ e (λz=>nomatch z);obtain⟨p,xs,e1,e2,e3,h⟩:=R.ow j ds e;exact⟨p,xs,by rw[gG (pD hj)];exact e1,e2,e3,h.less oo⟩
 .obtain ⟨hj,e⟩:=at_ e (λz=>nomatch z);obtain⟨p,e1,e2,e3⟩:=R.dw j ds e;exact⟨p,by rw[gG (pD hj)];exact e1,e2,e3⟩
 .obtain ⟨hj,e⟩:=at_ e (λz=>nomatch z);obtain⟨p,xs,e1,e2,e3,e4,h⟩:=R.tw j ks ds e;exact⟨p,xs,by rw[gG (pD hj)];exact e1,e2,e3,e4,h.less oo⟩
 .obtain ⟨hj,e1⟩:=at_ e1 (λz=>by rw[z] at o1;exact o1);obtain⟨hk,e2⟩:=at_ e2 (λz=>by rw[z] at o2;exact o2);rw[gG (pD hj)] at e3;rw[gG (pD hk)] at e4;exact R.sep j k ds es p e1 e2 e3 e4 o1 o2
end DL
namespace DL
open PySem PySem.Spec PyProof.Rows L2
structure Hx(X:Cx)(N:List Str)(sc:Scope):Prop where
 n:X.N=N
 sc:X.env.scope=sc
 fn:∀x,X.fn x=true
 nd:N.Nodup
noncomputable def qj(i:Nat)(hit:Str->Bool)(Fb:SF)(rb:RF)(Fh:SF):SF:=λenv=>match Fb env with
 |some x=>some x
 |none=>match rb env with
  |none=>none
  |some (nm,env1)=>if hit nm=true/\i<env1.length then (match Fh (env1.set i (.sh (.exc nm))) with
    |some (fl,cC)=>some (fl,cC.set i .no)
    |none=>none) else none
section
variable {X:Cx}{N:List Str}{sc:Scope}{k i:Nat}{n Cn:Str}{hc:Value}{body sT:List Stmt}{b0:Stmt}{Fb Fh:SF}{rb:RF}{hit:Str->Bool}{np EY pos:Pos}
theorem b8G(h:Fx X N sc k)(hi:N[i]?=some n)(Mm:sc.names.lookup n=some .local)(hg:Gl X Cn)(hm:X.mg Cn=some hc)
  (QA:∀nm c,hit nm=true->X.mg nm=some c->∃C,c=.ref C/\iE X.K mainGlobals nm=some (some (.ref C))/\Ro X.K (.ref C) hc=some true)
  (hb:∀X':Cx,X'.prog=X.prog->X'.w=X.w->X'.K=X.K->X'.mg=X.mg->X'.base=X.base->Fx X' N sc k->qX X' body Fb)
  (hx:∀(X':Cx) (W:L2.St->Hp->Value->Prop),X'.prog=X.prog->X'.w=X.w->X'.K=X.K->X'.mg=X.mg->X'.base=X.base->Fx X'.aI N sc k->Xk X' W->Dr X' W body rb)
  (hh:∀X':Cx,X'.prog=X.prog->X'.w=X.w->X'.K=X.K->X'.mg=X.mg->X'.base=X.base->Hx X' N sc->qX X' (b0::sT) Fh)
  (d8:autoParam ((Cn==("__debug__":Str))=false) ra1._auto_1):
  SV X (.Try body [.ExceptHandler (some (.Name Cn np)) (some n) (b0::sT) EY] [] [] pos) (qj i hit Fb rb Fh):=by
 refine⟨λD σ H=>∃(O:Addr->Prop) (B:Hp) (env:En) (fl:Fl) (af:En),Rel X.K O B σ H env/\qj i hit Fb rb Fh env=some (fl,af)/\gK X.K O B σ H env D fl af,λpins s σ H D I hw=>?_,λO B σ H env fl af D R e q=>⟨O,B,env,fl,af,R,e,q⟩⟩;obtain⟨O,B,env,fl,af,R,e,q⟩:=hw;refine wpAny_Try_except ?_;unfold qj at e
 cases hF:Fb env with
 |some x =>
  obtain⟨f1,env1⟩:=x;rw[hF] at e;cases e;obtain⟨t,p,kk⟩:=hb X.aI rfl rfl rfl rfl rfl ⟨h.n,h.sc,h.calm,h.fn,BJ,h.room,h.nd,h.top⟩;refine mW (p pins s σ H D (I.iA _) (kk O B σ H env fl af D R hF q)) (λf s1 hq=>?_) λ_ _ z=>gg z;have hq:=hq.dI
  cases f with
  |next=>exact KJ hq
  |brk=>exact hq
  |cont=>exact hq
  |ret u=>exact hq
 |none =>
  rw[hF] at e;dsimp only at e
  cases hr:rb env with
  |none=>rw[hr] at e;cases e
  |some y =>
  obtain⟨nm,env1⟩:=y;rw[hr] at e;dsimp only at e
  obtain⟨⟨Qu,Mn⟩,e⟩:(hit nm=true/\i<env1.length)/\(match Fh (env1.set i (.sh (.exc nm))) with
    |some (fl,cC)=>some (fl,cC.set i .no)
    |none=>none)=some (fl,af):=by
   split at e;.rename_i hh;exact⟨hh,e⟩
   .cases e
  cases hH:Fh (env1.set i (.sh (.exc nm))) with
  |none=>rw[hH] at e;cases e
  |some z =>
  obtain⟨f2,cC⟩:=z;rw[hH] at e;cases e;obtain⟨jB,JM,hex⟩:=h.top rfl
  have xk:Xk (L5 X pins λe bT=>wpAny (model X.prog X.w) X.A (noteFrame e X.env) (λ_ uw=>wpAny (model X.prog X.w) X.A (setFlight e none) (λ_ zU=>wpAny (model X.prog X.w) X.A (handleBy e X.env [.ExceptHandler (some (.Name Cn np)) (some n) (b0::sT) EY]) (SP X pins D) X.xe zU) X.xe uw) X.xe bT)
    (λaH H' c=>X.mg nm=some c/\Rel X.K O B aH H' env1/\Gd σ env H aH env1 H'):=by
   intro U3 jw H1 s1 e1 s' I1 QB;obtain⟨ea,c,H',rfl,os,bare,un,cM,⟨new,EW,T,ES,hT,tr⟩,hmc,R1,g1⟩:=QB;obtain⟨C,rfl,E6,Qz⟩:=QA nm c Qu hmc;have LV:Inv X pins jw H1 s1:=b3X I.ok I1;have J:Inv X pins jw H' s':=LV.A0 os un cM bare (by simp);have hl:=J.stack;have ir:=J.jT;obtain⟨a0,fly⟩:=WU tr hl
   have fresh:∀a,s1.heap.get? a=none->X.dZ.heap.get? a=none/\a≠X.env.locals/\(∀x c,X.env.cells.lookup x=some c->c≠a)/\∀p∈X.pn++pins,p.1≠a:=λa ha=>by
    refine⟨Nz LV hex ha,λz=>?_,λx c e z=>?_,λp hp z=>?_⟩;.obtain ⟨m,⟨o,_,_,ho,_⟩,_⟩:=LV.loc;rw[<-z,ha] at ho;cases ho
    .obtain ⟨v,o,ho,_⟩:=LV.cell x c e;rw[z,ha] at ho;cases ho
    .have:=(LV.pin p hp).1;rw[z,ha] at this;cases this
   have n0:∀b∈[ea,T],X.dZ.heap.get? b=none/\b≠X.env.locals/\(∀x c,X.env.cells.lookup x=some c->c≠b)/\∀p∈X.pn++pins,p.1≠b:=λb z=>by
    rcases iF.mp z with z|z;.rw [z];exact fresh ea new
    .rw [BK.mp z];exact fresh T ES
   have hx0:∀b∈[ea,T],H' b=none:=λb z=>by
    rcases iF.mp z with z|z;.rw [z];exact EW
    .rw [BK.mp z];exact hT
   have hB:∀b o,s'.heap.get? b=some o->b∉j4 X.stack->b∉[ea,T]->(Cs s'.heap ea T X.stack).get? b=some o:=λb o q n1 n2 =>
    MV _ q λz=>by
     rcases iF.mp z with z|z;.exact n2 (by simp[z])
     .rcases iF.mp z with z | z;.exact n2 (by simp[z])
      .exact n1 z
   have land:∀h5:Heap,(Cs s'.heap ea T X.stack).StaysIn h5->s'.heap.UpToSlots h5->Inv X pins jw H' { s' with heap:=h5 }:=λh5 st up =>
    b7r J hex (Td (H:=H') hl hB st (λ_ _ q=>q) up) (Ts cM _ hB st ir hx0) n0;show wpAny (model X.prog X.w) X.A (noteFrame (.ref ea) X.env) _ X.xe s';have Kd:=fly;rw[jB] at Kd;refine wpAny_looks_onW (env:=X.env) (outer:=X.outer) (by rw[J.ok.frames,jB]) JM Kd λh4 held US=>?_;refine wpAny_landsW held λh5 QO UR=>?_;have J5:=land h5 (by rw[jB];exact QO.1) (US.trans UR);obtain⟨ob,hob,Mh⟩:=QO.there;refine wpAny_handleBy_cons (codeAny_handlers_test ?_) (by intro q;cases q);refine BY (X:=JP X (.ref ea)) (Ya J5 _) hg hm ?_ d8;refine PySem.W.exm_one (e:=ea) (h:=h5) J5.km (Mh▸(PySem.W.Looks.ld hob).andThen .now) Qz _ _ _ _ (λ_ _ q=>q) ?_;refine codeAny_handlers_suite_as ?_;refine lands_againW QO λh6 VC up6=>?_;have J6:=land h6 (by rw[jB];exact VC.1) ((US.trans UR).trans up6);obtain⟨ob6,Qq,Qp⟩:=VC.there;obtain⟨f0,f1,f2',f3⟩:=fresh ea new;have J7:=b3Y (C:=C) J6 EW f0 ⟨ob6,Qq,Qp⟩ (pD λz=>f1 z.symm) f2' f3;have JL:X.N[i]?=some n:=h.ix hi;have JH:X.env.kindOf n=some .local:=by unfold Mz;rw[h.sc];exact Mm
   refine Tw (X:=JP X (.ref ea)) (v:=.ref ea) (Ya J7 _) h.tL JL (eO JH) rfl (λs8 J8=>?_) (eO (h.fn rfl n));have sm:az H' (upd H' ea (.ext (mT ea C))):=λb o q=>by rw[eX (oM q EW)];exact q
   have R7:=R1.grow sm;obtain⟨R8,g8⟩:=R7.set (r:=.sh (.exc nm)) (az.refl _) (Is.exc (p:=ea) (C:=C) (λz=>R1.oo z EW) E6 ni) Mn;have QK:=(g1.trans (Gd.refl sm)).trans g8;obtain⟨th,ph,kh⟩:=hh (JP X (.ref ea)) rfl rfl rfl rfl rfl ⟨h.n,h.sc,h.fn rfl,h.nd⟩
   cases fl with
   |nx =>
    refine mW (ph pins s8 _ _ { nx:=λaH H2=>Rel X.K O B aH H2 cC/\Gd σ env H aH cC H2,rt:=λ_ _=>False } J8 (kh O B _ _ _ .nx cC _ R8 hH λaH H2 R' g'=>⟨R',QK.trans g'⟩)) (λf s9 hq=>?_) λ_ _ z=>gg z
    cases f with
    |next => obtain⟨OX,H9,J9,R9,g9⟩:=hq;obtain⟨LM,J2⟩:=R9.drop i;exact name_goes (NW J.ok J9) h.tL JL JH λPq Gq=>⟨_,H9,Gq,q _ _ LM (g9.trans J2)⟩
    |brk=>obtain⟨_,_,_,z⟩:=hq;exact gg z
    |cont=>obtain⟨_,_,_,z⟩:=hq;exact gg z
    |ret u=>obtain⟨_,_,_,_,_,z⟩:=hq;exact gg z
   |bk =>
    refine mW (ph pins s8 _ _ { nx:=λ_ _=>False,bk:=λaH H2=>Rel X.K O B aH H2 cC/\Gd σ env H aH cC H2,rt:=λ_ _=>False } J8 (kh O B _ _ _ .bk cC _ R8 hH λaH H2 R' g'=>⟨R',QK.trans g'⟩)) (λf s9 hq=>?_) λ_ _ z=>gg z
    cases f with
    |brk => obtain⟨OX,H9,J9,R9,g9⟩:=hq;obtain⟨LM,J2⟩:=R9.drop i;exact name_goes (NW J.ok J9) h.tL JL JH λPq Gq=>⟨_,H9,Gq,q _ _ LM (g9.trans J2)⟩
    |next=>obtain⟨_,_,_,z⟩:=hq;exact gg z
    |cont=>obtain⟨_,_,_,z⟩:=hq;exact gg z
    |ret u=>obtain⟨_,_,_,_,_,z⟩:=hq;exact gg z
   |ct =>
    refine mW (ph pins s8 _ _ { nx:=λ_ _=>False,ct:=λaH H2=>Rel X.K O B aH H2 cC/\Gd σ env H aH cC H2,rt:=λ_ _=>False } J8 (kh O B _ _ _ .ct cC _ R8 hH λaH H2 R' g'=>⟨R',QK.trans g'⟩)) (λf s9 hq=>?_) λ_ _ z=>gg z
    cases f with
    |cont => obtain⟨OX,H9,J9,R9,g9⟩:=hq;obtain⟨LM,J2⟩:=R9.drop i;exact name_goes (NW J.ok J9) h.tL JL JH λPq Gq=>⟨_,H9,Gq,q _ _ LM (g9.trans J2)⟩
    |next=>obtain⟨_,_,_,z⟩:=hq;exact gg z
    |brk=>obtain⟨_,_,_,z⟩:=hq;exact gg z
    |ret u=>obtain⟨_,_,_,_,_,z⟩:=hq;exact gg z
   |rt r =>
    refine mW (ph pins s8 _ _ { nx:=λ_ _=>False,rt:=D.rt } J8 (kh O B _ _ _ (.rt r) cC _ R8 hH λv H2 s2 r2=>q v H2 s2 r2)) (λf s9 hq=>?_) λ_ _ z=>gg z
    cases f with
    |ret u => obtain⟨v,OX,H9,J9,rv,z⟩:=hq;exact name_goes (NW J.ok J9) h.tL JL JH λPq Gq=>⟨v,_,H9,Gq,rv,z⟩
    |next=>obtain⟨_,_,_,z⟩:=hq;exact gg z
    |brk=>obtain⟨_,_,_,z⟩:=hq;exact gg z
    |cont=>obtain⟨_,_,_,z⟩:=hq;exact gg z
  obtain⟨t,p,kk⟩:=hx (L5 X pins _) _ rfl rfl rfl rfl rfl ⟨h.n,h.sc,h.calm,h.fn,BJ,h.room,h.nd,h.top⟩ xk;refine mW (p [] s σ H { nx:=λ_ _=>False,rt:=λ_ _=>False } (b7q I _) (kk O B σ H env nm env1 _ R hr λaH H' c QB R' g'=>⟨QB,R',g'⟩)) (λf s1 hq=>?_) λ_ _ z=>z
  cases f with
  |next=>obtain⟨_,_,_,z⟩:=hq;exact gg z
  |brk=>obtain⟨_,_,_,z⟩:=hq;exact gg z
  |cont=>obtain⟨_,_,_,z⟩:=hq;exact gg z
  |ret u=>obtain⟨_,_,_,_,_,z⟩:=hq;exact gg z
end
end DL
namespace DL
open PySem PySem.W PySem.Spec PySem.Calls PyProof.Rows L2 PySem.Builtin.ObjectAttr PySem.Builtin PySem.Builtin.Getset_descriptor
section
variable {prog:Program}{w:World}{A:Around}{E:Value->Shared->Prop}{s:Shared}{K:Frag}{x C:Addr}
theorem Nr(p:mT x C h)(M:Model):Looks M h (typeOf (.ref x)) (.ref C):=by obtain⟨o,h1,h2⟩:=p;exact h2▸(Looks.ld h1).andThen .now
structure n6(K:Frag)(C:Addr):Prop where
 ga:findIn K (.ref C) "__getattribute__" = some (some (.builtin "BaseException.__getattribute__"))
 no:findIn K (.ref C) "__getattr__" = some none
 at_:findIn K (.ref C) "__class__" = some (some (.builtin "object.__class__"))
 get:specialIn K (.builtin "object.__class__") "__get__" = some (some (.builtin "getset_descriptor.__get__"))
 tk:takesIn K (.builtin "object.__class__")=some true
 mro:mroIn K C (.type "object")=some true
 mrB:mroIn K C (.type "BaseException")=some true
theorem b2N(k:n6 K C)(X:K.In h):Looks M h (find (.ref x) (.ref C) "__class__") (.bind (.builtin "getset_descriptor.__get__") (.builtin "object.__class__")):=by
 have d:Looks M h (dataDescriptor? (some (.builtin "object.__class__")) (some (.builtin "getset_descriptor.__get__"))) (some (.builtin "getset_descriptor.__get__",.builtin "object.__class__")):=
  (looks_takesIn X k.tk).andThen .now;exact(ME X k.at_).andThen ((show Looks M h (getOf (some (.builtin "object.__class__"))) (some (.builtin "getset_descriptor.__get__")) from looks_specialIn X k.get).andThen (d.andThen (Looks.tag .now)))
theorem b7M(k:n6 K C)(X:K.In s.heap)(p:mT x C s.heap)(q:R (.ok (.ret (.ref C))) s):
  codeAny (model prog w) A (.call (.builtin "getset_descriptor.__get__") ⟨[.builtin "object.__class__",.ref x,tp],[]⟩) R s:=by
 obtain⟨hp,gs,dr,tk,os⟩:=s;have T0:=Nr p (model prog w);have T1:=looks_mroIn (M:=model prog w) X k.mro;refine codeAny_call_builtin KF.slot_gs.plain KF.entry_gs ?_;refine KF.slot_gs.check _ _ _ _ _ _ _ _ KF.type_class (KF.args_gs _ _ _) ?_;unfold Builtin.«getset_descriptor.__get__» descrGet;rw[dga_obj];apply eN;apply jb;unfold descrGetter descrCheckInstance descrNameAndClass isInstance;simp only[KF.owner_class];repeat lk
 refine⟨Code.quiet_builtin _ (by decide +kernel),?_⟩;apply codeAny_builtin KF.entry_class;unfold Builtin.«object.__class__» shownTypeOf;repeat lk
 exact q
theorem b9J(k:n6 K C)(X:K.In s.heap)(p:mT x C s.heap)(q:R (.ok (.ret (.ref C))) s):
  codeAny (model prog w) A (.call (.builtin "BaseException.__getattribute__") ⟨[.ref x,.str "__class__" tk],[]⟩) R s:=by
 obtain⟨hp,gs,dr,tt,os⟩:=s;have T0:=Nr p (model prog w);have T2:=b2N (M:=model prog w) (x:=x) k X;have T4:=looks_mroIn (M:=model prog w) X k.mrB;have kd:builtinKind "BaseException.__getattribute__" = some .slot:=by decide +kernel
 have sp:splitId "BaseException.__getattribute__" = some ("BaseException","__getattribute__"):=by decide +kernel
 have ar:=F.args_bexc_ga (.ref x) (.str "__class__" tk);refine codeAny_call_builtin F.attr_ValueError.ga.plain F.entry_bexc_ga ?_;have ti:Looks (model prog w) hp (isInstance (.ref x) (.type "BaseException")) true:=T0.andThen T4;simp only[checkBuiltinCall,kd,sp];refine eN (ti.at ?_);simp only[Bool.not_true,MR,if_false];refine wpAny_of_eq ar ?_;unfold Builtin.«object.__getattribute__»;apply eN;refine wpAny_of_eq (a:=(mV x,[GI "__class__" tk])) rfl ?_;apply eN;apply jb;refine eN (T0.at ?_);refine eN (T2.at ?_);show wpAny _ _ (holding [.builtin "object.__class__"] (call (.builtin "getset_descriptor.__get__") [.builtin "object.__class__",.ref x,.ref C]) >>= ret) _ _ _;apply eN;apply MD;apply Kv;refine b7M (s:=⟨hp,gs,dr,tt,os⟩) k X p ?_;apply jb;exact q
theorem b4h(k:n6 K C)(X:K.In s.heap)(p:mT x C s.heap)(q:Q (some (.ref C)) { s with toks:=s.toks+1 }):wpAny (model prog w) A (getAttr? (.ref x) "__class__") Q E s:=by
 obtain⟨hp,gs,dr,tk,os⟩:=s;have T0:=Nr p (model prog w);have T1:=ME (M:=model prog w) X k.ga;have T3:=ME (M:=model prog w) X k.no;have b:=F.attr_ValueError.ga.bind (.ref x);unfold getAttr? getAttrBy? getAttrBy;apply eN;apply wpAny_mkText;apply eN;apply wpAny_attempt;apply MD;refine eN (T0.at ?_);refine eN (T1.at ?_);have ne:(MC "BaseException.__getattribute__" == MC "object.__getattribute__")=false:=by decide +kernel
 have ne':(onTheHeap (mV C)&&MC "BaseException.__getattribute__" == MC "object.__getattribute__")=false:=by rw[ne];rfl
 dsimp only;rw[ne'];simp only[MR,if_false];unfold getAttrByItsOwn hookBefore;have oh:onTheHeap (mV C)=true:=rfl;rw[oh,if_pos rfl];refine eN (T3.at ?_);apply eN;apply wpAny_attempt;apply MD;unfold callGetattribute boundAndCalled;simp only[Bool.false_and,MR,if_false];refine eN (wpAny_of_eq b ?_);apply Kv;refine b9J (s:=⟨hp,gs,dr,tk+1,os⟩) k X p ?_;refine handed_on rfl ?_;exact jb q
theorem b7l(k:n6 K C)(cd:(clsIn K C).isSome=true):KitX K (.ref x) (.ref C) (mT x C) where
 ty:=λM h _ p=>Nr p M
 it:=λM h X p=>by
  unfold clsIn at cd;split at cd;.rename_i ho;intro A' Q' E' s' kp q;unfold isType loadHead;apply eN;exact wpAny_loadPart (kp _ _ (X _ _ ho)) (jb q)
  .cases cd
 ne:=λh tp dd aS n sl X htp=>by
  rw[Bool.eq_false_iff];intro q;obtain rfl:C=tp:=Value.ref.inj (beq_iff_eq.mp q);unfold clsIn at cd;split at cd;.rename_i ho;have z:=(X _ _ ho).symm.trans htp;cases z
  .cases cd
 ca:=λX p q=>b4h k X p q
end
section
variable {X:Cx}{a:Expr}{pos p p2:Pos}{fa:En->Option Sl}
def PC(K:Frag)(c:Value)(cv:V):List V->Hp->VK->Prop:=λxs H Q=>∃p C b,xs=[.ref p,cv]/\H p=some (.ext (mT p C))/\n6 K C/\(clsIn K C).isSome=true/\kitOne K (.ref C) c=some b/\Q (.bl b) H
theorem b2i(hr:∀u,RelV cv u->u=c):hX X (.builtin "isinstance") (PC X.K c cv):=by intro pins s σ H xs us Q I r h;obtain⟨p,C,b,rfl,hp,k,cd,e,q⟩:=h;obtain⟨u,w',rfl,r1,r2⟩:=vals2 r;obtain rfl:=hr w' r2;obtain rfl:u=mV p:=r1;obtain⟨hc,_,_⟩:=I.cM p _ hp;exact kia_one (b7l k cd) I.km hc e (by intro z;cases z) λtk=>⟨.bl b,H,I.tok _,rfl,q⟩
noncomputable def AJ(tab:Str->Option Bool)(f:En->Option Sl):En->Option Sl:=λenv=>(f env).bind λr=>match r.d with
 | .exc n=>(tab n).map λb=>.sh (.bl b)
 |_=>none
theorem WZ{K:Frag}{O:Addr->Prop}{H:Hp}{v:V}{n:Str}(h:Is K O H v (.exc n)):∃p C,v=.ref p/\nsIn K mainGlobals n=some (some (.ref C))/\H p=some (.ext (mT p C)):=by
 cases h with
 |exc ho hn hp=>exact⟨_,_,rfl,hn,hp⟩
theorem WQ(hg:Gl X "isinstance")(hm:X.mg "isinstance" = none)(Qw:Gl X x)(Qr:X.mg x=some (.ref C2))
  (ht:∀n b C,tab n=some b->nsIn X.K mainGlobals n=some (some (.ref C))->n6 X.K C/\(clsIn X.K C).isSome=true/\kitOne X.K (.ref C) (.ref C2)=some b)(ha:EV X a fa)
  (hd:autoParam ((x==("__debug__":Str))=false) ra1._auto_1)
  (hs:autoParam (starEach [a,.Name x p2] X.env=[(false,eval a X.env),(false,eval (.Name x p2) X.env)]) ra2._auto_1)(yA:autoParam (starEach [.Name x p2] X.env=[(false,eval (.Name x p2) X.env)]) ra2._auto_1):
  EV X (.Call (.Name "isinstance" p) [a,.Name x p2] [] pos) (AJ tab fa):=by
 obtain⟨t,pt,k⟩:=ha;have pn:PE X (.Name x p2) (λ_ H Q=>Q (.ref C2) H):=λpins s σ H Q I h=>BY I Qw Qr ⟨.ref C2,H,I,rfl,h⟩ hd;refine⟨_,Lo (b2i (c:=.ref C2) (cv:=.ref C2) λu r=>r) hg hm (by decide +kernel) (lX pt (lX pn sG yA) (by rw[hs,yA])) (by decide) (by decide) (by rw[hs,yA]) (by rw[yA];rfl),λO B σ H env s Q R e q=>?_⟩;obtain⟨r,e1,e2⟩:=bind_some e;refine k O B σ H env r _ R e1 λv H1 s1 r1=>?_;have hi:=r1.is λq=>R.oo
 cases hd:r.d with
 |exc n => rw[hd] at e2 hi;obtain⟨b,e3,e4⟩:=map_some e2;subst e4;obtain⟨pp,C,rfl,hn,hp⟩:=WZ hi;obtain⟨c1,c2,c3⟩:=ht n b C e3 hn;exact⟨pp,C,b,rfl,hp,c1,c2,c3,q _ H1 s1 (Is.bl _)⟩
 |_=>rw[hd] at e2;cases e2
theorem b7R(hg:Gl X "isinstance")(hm:X.mg "isinstance" = none)(Qw:Gl X x)(Qr:X.mg x=none)(hv:bootBuiltins x=some (.type T))
  (ht:∀n b C,tab n=some b->nsIn X.K mainGlobals n=some (some (.ref C))->n6 X.K C/\(clsIn X.K C).isSome=true/\kitOne X.K (.ref C) (.type T)=some b)(ha:EV X a fa)
  (hn:autoParam (x ≠ "__name__") ra1._auto_1)(hd:autoParam ((x==("__debug__":Str))=false) ra1._auto_1)
  (hs:autoParam (starEach [a,.Name x p2] X.env=[(false,eval a X.env),(false,eval (.Name x p2) X.env)]) ra2._auto_1)(yA:autoParam (starEach [.Name x p2] X.env=[(false,eval (.Name x p2) X.env)]) ra2._auto_1):
  EV X (.Call (.Name "isinstance" p) [a,.Name x p2] [] pos) (AJ tab fa):=by
 obtain⟨t,pt,k⟩:=ha;refine⟨_,Lo (b2i (c:=.type T) (cv:=.ty T) λu r=>r) hg hm (by decide +kernel) (lX pt (lX (b63 (v:=.ty T) Qw Qr hv rfl hn hd) sG yA) (by rw[hs,yA])) (by decide) (by decide) (by rw[hs,yA]) (by rw[yA];rfl),λO B σ H env s Q R e q=>?_⟩;obtain⟨r,e1,e2⟩:=bind_some e;refine k O B σ H env r _ R e1 λv H1 s1 r1=>?_;have hi:=r1.is λq=>R.oo
 cases hd:r.d with
 |exc n => rw[hd] at e2 hi;obtain⟨b,e3,e4⟩:=map_some e2;subst e4;obtain⟨pp,C,rfl,hn,hp⟩:=WZ hi;obtain⟨c1,c2,c3⟩:=ht n b C e3 hn;exact⟨pp,C,b,rfl,hp,c1,c2,c3,q _ H1 s1 (Is.bl _)⟩
 |_=>rw[hd] at e2;cases e2
end
section
variable {X:Cx}{N:List Str}{sc:Scope}{pos p p1 p2 pos' bx:Pos}{e a b:Expr}{fa fb:En->Option Sl}
theorem Hx.v(h:Hx X N sc)(i:Nat)(hN:autoParam (N[i]?=some x) ra2._auto_1)(hv:autoParam (jJ sc x) ra4._auto_1)(hd:autoParam ((x==("__debug__":Str))=false) ra2._auto_1)
  (dC:autoParam ((x==("__classdict__":Str))=false) ra2._auto_1):EV X (.Name x pos) (eV i):=WR i (by rw[h.n];exact hN) (by rw[h.sc];exact hv) hd dC
theorem Hx.g(h:Hx X N sc)(hg:autoParam (sc.names.lookup x=some .globalImplicit) ra2._auto_1):Gl X x:=by show X.env.kindOf x=some .globalImplicit;unfold Mz;rw[h.sc];exact hg
end
structure Cl(K:Frag)(mg:Str->Option Value)(x:Str)(C:Addr):Prop where
 ns:nsIn K mainGlobals x=some (some (.ref C))
 m:mg x=some (.ref C)
 ck:n6 K C
 cd:(clsIn K C).isSome=true
def RO(K:Frag)(c:Value)(tab:Str->Option Bool):Prop:=∀n b C,tab n=some b->nsIn K mainGlobals n=some (some (.ref C))->n6 K C/\(clsIn K C).isSome=true/\kitOne K (.ref C) c=some b
noncomputable def M5:Str->Option Bool:=λ_=>none
noncomputable def K2(x:Str)(b:Bool)(tab:Str->Option Bool):Str->Option Bool:=λn=>if n=x then some b else tab n
theorem S3{K:Frag}{c:Value}:RO K c M5:=λn b C e _=>by cases e
theorem Tt{K:Frag}{mg:Str->Option Value}{c:Value}{x:Str}{C:Addr}{b:Bool}{tab:Str->Option Bool}(k:Cl K mg x C)(s:kitOne K (.ref C) c=some b)(r:RO K c tab):RO K c (K2 x b tab):=λn b' C' e hn=>by
 unfold K2 at e;split at e
 .rename_i h;subst h;cases e;obtain rfl:C=C':=by have:=k.ns.symm.trans hn;cases this;rfl
  exact⟨k.ck,k.cd,s⟩
 .exact r n b' C' e hn
def RN(K:Frag)(mg:Str->Option Value)(hc:Value)(hit:Str->Bool):Prop:=∀nm c,hit nm=true->mg nm=some c->∃C,c=.ref C/\nsIn K mainGlobals nm=some (some (.ref C))/\exmOne K (.ref C) hc=some true
noncomputable def Wn:Str->Bool:=λ_=>false
noncomputable def RS(x:Str)(hit:Str->Bool):Str->Bool:=λn=>decide (n=x)||hit n
theorem b7t{K:Frag}{mg:Str->Option Value}{hc:Value}:RN K mg hc Wn:=λn c e _=>by cases e
theorem b5s{K:Frag}{mg:Str->Option Value}{hc:Value}{x:Str}{C:Addr}{hit:Str->Bool}(k:Cl K mg x C)(s:exmOne K (.ref C) hc=some true)(r:RN K mg hc hit):RN K mg hc (RS x hit):=λn c e hm=>by
 unfold RS at e;by_cases h:n=x
 .subst h;obtain rfl:c=.ref C:=by have:=hm.symm.trans k.m;cases this;rfl
  exact⟨C,rfl,k.ns,s⟩
 .exact r n c (by simpa[h] using e) hm
theorem Hx.dh{X:Cx}{N:List Str}{sc:Scope}{pos pos':Pos}{e:Expr}{fa:En->Option Sl}(h:Hx X N sc)(i:Nat){x:Str}(he:EV X e fa)(hN:autoParam (N[i]?=some x) ra2._auto_1)(hv:autoParam (Loc sc x) ra5._auto_1)
  (hs:autoParam (swapsWith e (some (.Name x pos')) pos.line X.env=pure false) ra2._auto_1):SV X (.Assign [.Name x pos'] e pos) (fD i fa):=X3 (by rw[h.n];exact h.nd) (by rw[h.n];exact hN) (by rw[h.sc];exact hv) he hs (.inl (h.fn x))
theorem b4I:Wo (Na env) Q↔False:=Wo_none
end DL
namespace DL
open PySem PySem.Spec PyProof.Rows L2
section
variable {X:Cx}{W:L2.St->Hp->Value->Prop}{a b:Expr}{re:En->Option Str}{fa:En->Option Sl}{pos:Pos}
theorem b9K(h:AX X W es re):EX X W (.List es pos) re:=by obtain⟨t,p,k⟩:=h;exact⟨_,Xn p,λO B σ H env nm Q R e q=>k O B σ H env nm _ R e q⟩
end
end DL
namespace DL
open PySem PySem.Spec PyProof.Rows L2
section
variable {X:Cx}{a b c:Expr}{pos:Pos}{fa fb fc:En->Option Sl}
theorem Ll(ho:n4 X (compareOp op) g)(lS:n4 X (compareOp Jd) g')(ha:EV X a fa)(hb:EV X b fb)(hc:EV X c fc)(hm:lastMarks [op,Jd] [b,c]=false:=by with_unfolding_all rfl):
  TV X (.Compare a [op,Jd] [b,c] pos) (oH (bI (ae g fa fb)) (bI (ae g' fb fc))):=by
 obtain⟨r,hr,hg⟩:=ho;obtain⟨r',Mf,Qx⟩:=lS;obtain⟨ta,pa,ka⟩:=ha;obtain⟨tb,pb,kb⟩:=hb;obtain⟨tc,pc,kc⟩:=hc;refine⟨_,b43 hr Mf pa pb pc hm,λO B σ H env k Q R e q=>?_⟩;unfold oH at e
 cases e1:bI (ae g fa fb) env with
 |none=>rw[e1] at e;cases e
 |some b1 =>
  rw[e1] at e;obtain⟨x,ex,e3⟩:=bind_some (NK e1);obtain⟨y,ey,e4⟩:=bind_some e3;refine ka O B σ H env x _ R ex λv H1 s1 h1=>?_;refine kb O B σ H1 env y _ (R.grow s1) ey λu H2 s2 h2=>?_;have R2:=(R.grow s1).grow s2;refine hg (OO O σ env) H2 v u x.d y.d _ _ (λq=>R2.oo) ((h1.is λq=>R.oo).grow s2) (h2.is λq=>(R.grow s1).oo) e4 λw H3 s3 h3=>?_;refine⟨b1,Be h3,?_⟩
  cases b1 with
  |false => cases e;rw[if_neg (by decide)];exact⟨false,rfl,q H3 ((s1.trans s2).trans s3)⟩
  |true => rw[if_pos rfl];obtain⟨y',VF,e5⟩:=bind_some (NK e);rw[ey] at VF;cases VF;obtain⟨z,ez,e6⟩:=bind_some e5;have R3:=R2.grow s3;refine kc O B σ H3 env z _ R3 ez λw' H4 s4 h4=>?_;have R4:=R3.grow s4;refine Qx (OO O σ env) H4 u w' y.d z.d _ _ (λq=>R4.oo) (((h2.is λq=>(R.grow s1).oo).grow s3).grow s4) (h4.is λq=>R3.oo) e6 λw2 H5 s5 h5=>?_;exact⟨k,Be h5,q H5 ((((s1.trans s2).trans s3).trans s4).trans s5)⟩
end
end DL
namespace DL
open PySem PySem.Spec PyProof.Rows L2
section
variable {X:Cx}
noncomputable def Ba(f:En->Option Sl):En->Option Sl:=λenv=>(f env).bind λr=>match r with
 | .sh (.int i)=>if i.natAbs.log2<1920 then some (.sh (.str (toString i))) else none
 |_=>none
theorem SN(hg:Gl X "str")(hm:X.mg "str" = none)(he:EV X e fa)(hs:autoParam (starEach [e] X.env=[(false,eval e X.env)]) ra2._auto_1):EV X (.Call (.Name "str" p) [e] [] pos) (Ba fa):=by
 obtain⟨t,pt,k⟩:=he;refine⟨_,TJ j6 hg hm (by decide +kernel) (lX pt sG hs) (by decide) (by decide) hs rfl,λO B σ H env s Q R e q=>?_⟩;obtain⟨r,e1,e2⟩:=bind_some e;split at e2;.obtain ⟨hz,rfl⟩:=jv e2;refine k O B σ H env _ _ R e1 λv H1 s1 r1=>?_;obtain rfl:=nh r1;exact⟨_,rfl,hz,q _ H1 s1 (Is.str _)⟩
 .cases e2
def PJ(X:Cx)(es:List Expr)(tj:Str->L2.St->Hp->VK->Prop):Prop:=
 ∀(out:Str) (pins:List (Addr×Obj)) (s:Shared) (σ:L2.St) (H:Hp) (Q:VK),Inv X pins σ H s->tj out σ H Q->wpAny (model X.prog X.w) X.A (joinParts out (evalEach es X.env)) (EP X pins σ Q) X.xe s
theorem b84:PJ X [] (λout _ H Q=>out.length<=sizeLine/\Q (.str out) H):=by intro out pins s σ H Q I h;exact joinParts_nil ⟨.str out,H,I.tok _,⟨_,rfl⟩,h.2⟩ h.1
theorem b6Y(he:PE X e t)(hs:PJ X es tj):PJ X (e::es) (λout σ H Q=>t σ H λx H1=>∃y,x=.str y/\(out++y).length<=sizeLine/\tj (out++y) σ H1 Q):=by intro out pins s σ H Q I h;show wpAny _ _ (joinParts out (eval e X.env::evalEach es X.env)) _ _ s;refine joinParts_cons (cU (he pins s σ H _ I h) λv s1 ⟨x,H1,I1,r1,q1⟩=>?_);obtain⟨y,rfl,hz,q⟩:=q1;obtain⟨u,rfl⟩:=r1;exact⟨hz,hs _ pins s1 σ H1 Q I1 q⟩
noncomputable def iL:Option Sl->Option Str
 |some (.sh (.str y))=>some y
 |_=>none
theorem uq(h:iL o=some y):o=some (.sh (.str y)):=by
 unfold iL at h;split at h;.cases h;rfl
 .cases h
def JV(X:Cx)(es:List Expr)(f:En->Option Str):Prop:=
 ∃tj,PJ X es tj/\∀(O:Addr->Prop) (B:Hp) (σ:L2.St) (H:Hp) (env:En) (y out:Str) (Q:VK),Rel X.K O B σ H env->f env=some y->(out++y).length<=sizeLine->(∀H',az H H'->Q (.str (out++y)) H')->tj out σ H Q
noncomputable def lu:En->Option Str:=λ_=>some ra
noncomputable def jc(fe:En->Option Sl)(f:En->Option Str):En->Option Str:=λenv=>(iL (fe env)).bind λy=>(f env).map λz=>y++z
theorem Hb:JV X [] lu:=by refine⟨_,b84,λO B σ H env y out Q R e hz q=>?_⟩;cases e;have:=q H (az.refl _);rw[Str.append_empty] at this hz;exact⟨hz,this⟩
theorem ri(he:EV X e fe)(hs:JV X es f):JV X (e::es) (jc fe f):=by obtain⟨t,pt,kt⟩:=he;obtain⟨tj,pj,kj⟩:=hs;refine⟨_,b6Y pt pj,λO B σ H env y out Q R e hz q=>?_⟩;obtain⟨y1,e1,e2⟩:=bind_some e;obtain⟨z,e3,rfl⟩:=map_some e2;refine kt O B σ H env _ _ R (uq e1) λv H1 s1 r1=>?_;obtain rfl:=lh r1;rw[<-Str.append_assoc] at hz q;refine⟨y1,rfl,?_,kj O B σ H1 env z (out++y1) Q (R.grow s1) e3 hz λH' s'=>q H' (s1.trans s')⟩;rw[pJ] at hz;omega
noncomputable def rg(f:En->Option Str):En->Option Sl:=λenv=>(f env).bind λy=>if y.length<=16777216 then some (.sh (.str y)) else none
theorem Hk(h:JV X (e::e'::es) f):EV X (.JoinedStr (e::e'::es) pos) (rg f):=by obtain⟨tj,pj,k⟩:=h;refine⟨λσ H Q=>tj ra σ H Q,λpins s σ H Q I hw=>JoinedStr_many (pj ra pins s σ H Q I hw),λO B σ H env s Q R e q=>?_⟩;obtain⟨y,e1,e2⟩:=bind_some e;obtain⟨hz,rfl⟩:=jv e2;refine k O B σ H env y ra Q R e1 (by rw[Str.empty_append,kM];exact hz) λH' s'=>?_;rw[Str.empty_append];exact q _ H' s' (Is.str _)
theorem b8K:Es X (λx l u H Q=>∃z,x=.str z/\z.length<=sizeLine/\Q (.str (Txt.slice z l u)) H):=by
 intro pins s σ H x v vl vu lo hi sl Q I r hs pl pu h;obtain⟨z,rfl,hz,q⟩:=h;obtain⟨t,rfl⟩:=r
 have go:∀(l u:Option (Int×Tok)),s.heap.IsSlice sl l u none->Q (.str (Txt.slice z (l.map (·.1)) (u.map (·.1)))) H->∃T id,typeLookup (.type T) "__getitem__" = pure (some (.builtin id))/\s.TypeIs (.str z t) T/\wpAny (model X.prog X.w) X.A (getItem (.str z t) (.ref sl)) (EP X pins σ Q) X.xe s:=λl u hs q =>
  ⟨"str",_,F.slot_str_getitem.lookup,CS _ _ _,wpAny_getItem_str_slice (l:=l) (u:=u) (st:=none) hs rfl (post_val_or_str ⟨iV (Txt.slice_le z _ _) hz,λt' k=>⟨.str _,H,I.tok k,⟨_,rfl⟩,q⟩⟩)⟩
 cases pl with
 |none=>cases pu with
  |none=>exact go none none hs q
  |int j u=>exact go none (some (j,u)) hs q
 |int i t'=>cases pu with
  |none=>exact go (some (i,t')) none hs q
  |int j u=>exact go (some (i,t')) (some (j,u)) hs q
noncomputable def vB(f:En->Option Sl)(lo hi:En->Option (Option Int)):En->Option Sl:=λenv=>(iL (f env)).bind λy=>(lo env).bind λl=>(hi env).bind λh=>if y.length<=16777216 then some (.sh (.str (Txt.slice y l h))) else none
theorem Tq{a:Expr}{fa:En->Option Sl}{lo hi:Option Expr}{fl fh:En->Option (Option Int)}{p2 pos:Pos}(ha:EV X a fa)(hl:PP X lo fl)(hh:PP X hi fh):EV X (.Subscript a (.Slice lo hi none p2) pos) (vB fa fl fh):=by obtain⟨t,p,k⟩:=ha;obtain⟨tl,pl,kl⟩:=hl;obtain⟨th,ph,kh⟩:=hh;refine⟨_,Yj b8K p pl ph,λO B σ H env r Q R e q=>?_⟩;obtain⟨y,e1,e2⟩:=bind_some e;obtain⟨l,el,e3⟩:=bind_some e2;obtain⟨h,eh,e4⟩:=bind_some e3;obtain⟨hz,rfl⟩:=jv e4;refine k O B σ H env _ _ R (uq e1) λv H1 s1 r1=>?_;obtain rfl:=lh r1;refine kl O B σ H1 env l _ (R.grow s1) el λH2 s2=>?_;refine kh O B σ H2 env h _ ((R.grow s1).grow s2) eh λH3 s3=>?_;exact⟨y,rfl,by rw[kM];exact hz,q _ H3 ((s1.trans s2).trans s3) (Is.str _)⟩
noncomputable def UJ(x:Str):It:=⟨λi _=>i<x.cps.size,λi H v H'=>H'=H/\∃c,x.cps[i]?=some c/\v=.str ⟨#[c]⟩,λi _=>x.cps.size<=i⟩
theorem b20{P:Program}{w:World}{K:aG}{tg:Expr}(it:Addr)(x:Str)(t:Tok):Turn P w K tg (UJ x) [it] it (λi h=>h.IsStrIter it "str_ascii_iterator" x t i) where
 mem:=by simp
 obj:=λi h st b hb=>by
  have e:b=it:=by simpa using hb
  subst e;obtain⟨o,ho,hc,hd⟩:=st;exact⟨o,ho,λv z=>by rw[hd] at z;cases z⟩
 keep:=λi h h' st k=>by obtain⟨o,ho,r⟩:=st;exact⟨o,k it (by simp) o ho,r⟩
 item:=by intro X hP hw hK hc i pins s σ H E I hf st hg;subst hP hw hK;obtain⟨f0,f1,f2,f3,f4,f5⟩:=hf it (by simp);have W:=Walks.strAscii (prog:=X.prog) (w:=X.w) (I.ok.hd hc) it x t;refine W.item i s _ _ hg st λv h' tk hv sU kk=>?_;obtain⟨c,u,hx,rfl⟩:=hv;have I1:Inv X pins σ H { s with heap:=h',toks:=tk }:=I.turned (λb o hb e=>kk b o (by simpa using hb) e) f0 f1 f3 f4 f5;obtain⟨o,ho,BF,hd⟩:=id sU;exact⟨_,rfl,KZ (s:={ s with heap:=h',toks:=tk }) (n:="str_ascii_iterator") ho BF hd (by decide) ⟨.str ⟨#[c]⟩,H,I1,⟨u,rfl⟩,⟨rfl,c,hx,rfl⟩,sU,λb hb=>(hf b hb).1⟩⟩
 done:=by intro X hP hw hK hc i pins s σ H E I hf st hg;subst hP hw hK;obtain⟨f0,f1,f2,f3,f4,f5⟩:=hf it (by simp);exact wpAny_pyNext_ascii_end (I.ok.hd hc) st (by have Qx:x.cps.size<=i:=hg;simpa using Qx) λh' eb=>⟨rfl,I.turned (t':=s.toks) (λb o hb e=>eb b o hb e) f0 f1 f3 f4 f5⟩
 self:=λ_ _ _ _ _ st h=>wpAny_pyIter_striter_ascii st h
theorem b6Z{tg e:Expr}{t:TE}(h:PE X e t):PI X tg e (λσ H R=>t σ H λx H1=>∃z,x=.str z/\z.cps.all (·<128)=true/\R (UJ z) H1):=by
 intro pins s σ H R I hw;refine cU (h pins s σ H _ I hw) λv s1 ⟨x,H1,I1,r1,q1⟩=>?_;obtain⟨z,rfl,ha,q⟩:=q1;obtain⟨u,rfl⟩:=r1;refine wpAny_pyIter_ascii ha ?_;refine⟨s1.heap.objs.size,[s1.heap.objs.size],_,_,H1,rfl,I1.kept (t':=s1.toks) λb o e=>ky _ e,b20 _ z u,⟨_,qI _ rfl,rfl,rfl⟩,λb hb=>?_,q⟩;have e:b=s1.heap.objs.size:=by simpa using hb
 subst e;exact I1.vy (fQ _) (I1.cM.fresh (fQ _))
noncomputable def Cb(x:Str):List D:=x.cps.toList.map λc=>.str ⟨#[c]⟩
theorem b4P{K:aG}{O:Addr->Prop}{H:Hp}(x:Str):Ha K O (UJ x) H (Cb x):=λO' H2 _ _ i=>by
 refine⟨λd hd=>?_,λhl=>show x.cps.size<=i by simpa[Cb] using hl⟩;unfold Cb at hd;rw[zp] at hd;obtain⟨c,hc,rfl⟩:=map_some hd;have hi:i<x.cps.size:=by simpa using(oE.mp hc).1
 refine⟨hi,λv H3 hy=>?_⟩;obtain⟨rfl,c',hx,rfl⟩:=hy;have:c'=c:=by rw[<-Array.getElem?_toList,hc] at hx;exact(gY hx).symm
 subst this;exact⟨az.refl _,Is.str _⟩
noncomputable def Fj(f:En->Option Sl):En->Option (List D):=λenv=>(iL (f env)).bind λy=>if y.cps.all (·<128)=true then some (Cb y) else none
theorem XJ(h:EV X e fa):IV X tg e (Fj fa):=by obtain⟨t,p,k⟩:=h;refine⟨_,b6Z p,λO B σ H env ds R Rl e q=>?_⟩;obtain⟨y,e1,e2⟩:=bind_some e;obtain⟨ha,rfl⟩:=jv e2;refine k O B σ H env _ _ Rl (uq e1) λv H1 s1 r1=>?_;obtain rfl:=lh r1;exact⟨y,rfl,ha,q _ H1 s1 (b4P y)⟩
open PySem.Builtin.Str in
theorem b0k:LP X "str.partition" (λx xs H Q=>∃z y,x=.str z/\xs=[.str y]/\(y.length==0)=false/\z.length<=sizeLine/\∀p,H p=none->Q (.ref p) (upd H p (.tup [.str (v7 z y).1,.str (v7 z y).2.1,.str (v7 z y).2.2]))):=by
 intro pins s σ H x xs v us Q I r rs h;obtain⟨z,y,rfl,rfl,hy,hz,q⟩:=h;obtain⟨t,rfl⟩:=r;obtain⟨u',rfl,u,rfl⟩:=vals1 rs;refine FH F.slot_str_partition (CS _ _ _) F.entry_str_partition (F.args_str_partition_2 _ _) (meets_str_partition z y t u hy hz) ?_;have q':=q;unfold v7 at q';revert q'
 cases occurrences z y 0 z.length 1 with
 |nil => intro q';refine⟨.ref s.heap.objs.size,_,I.laid (t':=s.toks+1) (o:=.tup [.str z,.str ra,.str ra]) (λb ob q=>ky _ q) (fQ _) ?_,rfl,q' _ (I.cM.fresh (fQ _))⟩;exact⟨by show 3<=sizeLine;decide,_,.cons ⟨t,rfl⟩ (.cons ⟨_,rfl⟩ (.cons ⟨_,rfl⟩ .nil)),Mw _ _⟩
 |cons i r => intro q';refine⟨.ref s.heap.objs.size,_,I.laid (t':=s.toks+1+1) (o:=.tup [.str (strSub z 0 i),.str y,.str (strSub z (i+y.length) z.length)]) (λb ob q=>ky _ q) (fQ _) ?_,rfl,q' _ (I.cM.fresh (fQ _))⟩;exact⟨by show 3<=sizeLine;decide,_,.cons ⟨_,rfl⟩ (.cons ⟨u,rfl⟩ (.cons ⟨_,rfl⟩ .nil)),Mw _ _⟩
noncomputable def KP(fo fe:En->Option Sl):En->Option Sl:=λenv=>(iL (fo env)).bind λz=>(iL (fe env)).bind λy=>if (y.length==0)=false/\z.length<=16777216 then some (.sh (.tup [.str (v7 z y).1,.str (v7 z y).2.1,.str (v7 z y).2.2])) else none
theorem Y2{o e:Expr}{fo fe:En->Option Sl}{apos bx:Pos}(ho:EV X o fo)(he:EV X e fe)(hR:autoParam (attributeBase o "partition" X.env (eval o X.env)=eval o X.env) ra2._auto_1)
  (kH:autoParam (((backTo bx (starEach [e] X.env)).all (λx=>!x.1)&&(backToKw bx (keywordEach [] X.env)).all (λx=>x.1.isSome)&&decide ([e].length+([]:List Keyword).length+(if ([]:List Keyword).isEmpty then 0 else 1)<30))=true) ra2._auto_1)
  (hJ:autoParam ((apos.endLine==bx.line)=true) ra2._auto_1)(hs:autoParam (starEach [e] X.env=[(false,eval e X.env)]) ra2._auto_1):EV X (.Call (.Attribute o "partition" apos) [e] [] bx) (KP fo fe):=by obtain⟨to,po,ko⟩:=ho;obtain⟨te,pe,ke⟩:=he;refine⟨_,KR (T:="str") MP F.slot_str_partition F.type_str_partition b0k po (lX pe sG hs) hR kH hJ hs rfl,λO B σ H env r Q R e q=>?_⟩;obtain⟨z,e1,e2⟩:=bind_some e;obtain⟨y,e3,e4⟩:=bind_some e2;obtain⟨⟨hy,hz⟩,rfl⟩:=jv e4;refine ko O B σ H env _ _ R (uq e1) λv H1 s1 r1=>?_;obtain rfl:=lh r1;refine⟨rfl,?_⟩;refine ke O B σ H1 env _ _ (R.grow s1) (uq e3) λv H2 s2 r2=>?_;obtain rfl:=lh r2;have R2:=(R.grow s1).grow s2;exact⟨z,y,rfl,rfl,hy,by rw[kM];exact hz,λp hp=>q _ _ ((s1.trans s2).trans (Bq hp _)) ((Le (O:=OO O σ env) (H:=H2) (λ_=>R2.oo) hp (.cons (Is.str _) (.cons (Is.str _) (.cons (Is.str _) .nil)))).from (s1.trans s2))⟩
noncomputable def G7(f:En->Option Sl):En->Option Sl:=λenv=>(iL (f env)).bind λy=>if y.length<=16777216 then some (.sh (.int y.length)) else none
theorem SM(hg:Gl X "len")(hm:X.mg "len" = none)(ha:EV X a fa)(hs:autoParam (starEach [a] X.env=[(false,eval a X.env)]) ra2._auto_1):EV X (.Call (.Name "len" p) [a] [] pos) (G7 fa):=by obtain⟨t,pt,k⟩:=ha;refine⟨_,Lo b0A hg hm PySem.boot_len (lX pt sG hs) (by decide) (by decide) hs rfl,λO B σ H env s Q R e q=>?_⟩;obtain⟨y,e1,e2⟩:=bind_some e;obtain⟨hz,rfl⟩:=jv e2;refine k O B σ H env _ _ R (uq e1) λv H1 s1 r1=>?_;obtain rfl:=lh r1;exact⟨y,rfl,by rw[kM];exact hz,q _ H1 s1 (Is.int _)⟩
end
end DL
namespace DL
open PySem PySem.Spec PyProof.Rows L2
section
variable {X X':Cx}
def BA(mg:Str->Option Value)(x:Str)(n:Int):Prop:=∃t,mg x=some (.int n t)
def Gr(mg:Str->Option Value)(x y:Str):Prop:=∃t,mg x=some (.str y t)
theorem Bl(hg:Gl X x)(hm:BA X.mg x n)(hd:autoParam ((x==("__debug__":Str))=false) ra1._auto_1):EV X (.Name x pos) (eC (.int n)):=by obtain⟨t,hm⟩:=hm;refine⟨_,SX (v:=.int n) hg hm ⟨t,rfl⟩ hd,λO B σ H env s Q R e q=>?_⟩;cases e;exact q _ H (az.refl _) (Is.int _)
theorem Ys(hg:Gl X x)(hm:Gr X.mg x y)(hd:autoParam ((x==("__debug__":Str))=false) ra1._auto_1):EV X (.Name x pos) (eC (.str y)):=by obtain⟨t,hm⟩:=hm;refine⟨_,SX (v:=.str y) hg hm ⟨t,rfl⟩ hd,λO B σ H env s Q R e q=>?_⟩;cases e;exact q _ H (az.refl _) (Is.str _)
theorem Wm(e4:X'.mg=X.mg)(h:Gr X.mg x y):Gr X'.mg x y:=by rw[e4];exact h
end
section
variable {X:Cx}{N:List Str}{sc:Scope}{k:Nat}{full:Bool}{pos pos':Pos}{e:Expr}{fa:En->Option Sl}
end
end DL
namespace DL
open PySem PySem.Spec PyProof.Rows L2
section
variable {X X':Cx}
theorem Lp{α:Type}{c:Prop}[Decidable c]{o:Option α}{y:α}(h:(if c then o else none)=some y):c/\o=some y:=by
 split at h;.exact ⟨‹c›,h⟩
 .cases h
noncomputable def ie:D->D->Option Sl
 | .str i,.str j=>some (.sh (.bl (!(VW j i 0 j.length 1).isEmpty)))
 |_,_=>none
theorem K7:n4 X (compareOp .In) ie:=by
 refine⟨_,b3y,λO H x y a b s Q hO hx hy e q=>?_⟩;unfold ie at e;split at e;.cases e;exact⟨_,_,lh hx,lh hy,q _ H (az.refl _) (Is.bl _)⟩
 .cases e
noncomputable def uI(z:Str)(n:Nat):Str:=⟨(pE n z.cps).foldl (·++·) #[]⟩
theorem Yy:∀(l:List (Array Nat)) (a:Array Nat),(l.foldl (·++·) a).toList=a.toList++(l.map Q6).flatten
 |[],a=>by simp
 |b::l,a=>by rw[FD,Yy l (a++b)];simp
theorem b3n(z:Str)(n:Nat):(uI z n).cps.toList=(pE n z.cps.toList).flatten:=by unfold uI;rw[Yy];simp
theorem b40(z:Str)(n:Nat):(uI z n).length=n*z.length:=by have h:=congrArg GX (b3n z n);simp only[MU,List.length_flatten,List.map_replicate,List.sum_replicate_nat] at h;exact h
theorem b2x:lO X (binaryOp .Mult) (λx y H Q=>∃z n,x=.str z/\y=.int n/\(1<n/\n<=1000)/\(0<z.length/\z.length<=1000)/\Q (.str (uI z n.toNat)) H):=by
 intro pins s σ H x y v u Q I rx ry h;obtain⟨z,n,rfl,rfl,hn,hz,q⟩:=h;obtain⟨t,rfl⟩:=rx;obtain⟨t',rfl⟩:=ry;have hlen:(uI z n.toNat).length<=sizeLine:=by rw[b40,kM];have:n.toNat*z.length<=1000*1000:=Nat.mul_le_mul (by omega) hz.2;omega
 have hsz:z.length*n.toNat<=1000*1000:=Nat.mul_le_mul hz.2 (by omega);refine PySem.P.mul_str ?_ (λ_ _=>?_) (λ_ _=>?_) ?_;.rw [decide_eq_false (by omega),decide_eq_false (by omega)];rfl
 .have:(1000:Int)<=(2^63-1)/n:=(Int.le_ediv_iff_mul_le (by omega)).mpr (by omega);omega
 .unfold Wh;rw[kM];exact decide_eq_false (by omega)
 .rw [if_neg (by omega),if_neg (by simp;omega)];exact⟨hlen,⟨.str _,H,I.tok _,⟨_,rfl⟩,q⟩⟩
noncomputable def M1:D->D->Option Sl
 | .str z,.int n=>if (1<n/\n<=1000)/\0<z.length/\z.length<=1000 then some (.sh (.str (uI z n.toNat))) else none
 |_,_=>none
theorem b7a:n4 X (binaryOp .Mult) M1:=by
 refine⟨_,b2x,λO H x y a b s Q hO hx hy e q=>?_⟩;unfold M1 at e;split at e;.obtain ⟨⟨h1,h2⟩,rfl⟩:=jv e;exact⟨_,_,lh hx,nh hy,h1,h2,q _ H (az.refl _) (Is.str _)⟩
 .cases e
noncomputable def Ki(fa fb:En->Option Sl):En->Option Sl:=λenv=>(iL (fa env)).bind λz=>match fb env with
 |some (.sh (.int i))=>if z.length<=16777216 then (nD z.cps.toList i).map λc=>.sh (.str ⟨#[c]⟩) else none
 |_=>none
theorem b9M(ha:EV X a fa)(hb:EV X b fb)(hs:SE b:=by exact λ_ _=>rfl):EV X (.Subscript a b pos) (Ki fa fb):=by
 obtain⟨t,p,k⟩:=ha;obtain⟨u,p',k'⟩:=hb;refine⟨_,WI W2 p p' hs,λO B σ H env r Q R e q=>?_⟩;obtain⟨z,e1,e2⟩:=bind_some e;split at e2;.rename_i i e3;obtain⟨hz,e4⟩:=Lp e2;obtain⟨c,e5,rfl⟩:=map_some e4;refine k O B σ H env _ _ R (uq e1) λv H1 s1 r1=>?_;obtain rfl:=lh r1;refine k' O B σ H1 env _ _ (R.grow s1) e3 λw H2 s2 r2=>?_;obtain rfl:=nh r2;exact⟨z,i,c,rfl,rfl,by rw[kM];exact hz,e5,q _ H2 (s1.trans s2) (Is.str _)⟩
 .cases e2
open PySem.Builtin.Str in
theorem b3H:LP X "str.startswith" (λx xs H Q=>∃z y,x=.str z/\xs=[.str y]/\Q (.bl (decide (0+y.length<=z.length)&&subAt z y 0)) H):=by intro pins s σ H x xs v us Q I r rs h;obtain⟨z,y,rfl,rfl,q⟩:=h;obtain⟨t,rfl⟩:=r;obtain⟨u',rfl,u,rfl⟩:=vals1 rs;exact FH V7 (CS _ _ _) F.entry_str_startswith (F.args_str_startswith_2 _ _) (gives_str_startswith z y t u).meets ⟨.bl _,H,I,rfl,q⟩
noncomputable def SJ(fo fe:En->Option Sl):En->Option Sl:=λenv=>(iL (fo env)).bind λz=>(iL (fe env)).map λy=>.sh (.bl (decide (0+y.length<=z.length)&&Builtin.Str.subAt z y 0))
theorem Yw{o e:Expr}{fo fe:En->Option Sl}{apos bx:Pos}(ho:EV X o fo)(he:EV X e fe)(hR:autoParam (attributeBase o "startswith" X.env (eval o X.env)=eval o X.env) ra2._auto_1)
  (kH:autoParam (((backTo bx (starEach [e] X.env)).all (λx=>!x.1)&&(backToKw bx (keywordEach [] X.env)).all (λx=>x.1.isSome)&&decide ([e].length+([]:List Keyword).length+(if ([]:List Keyword).isEmpty then 0 else 1)<30))=true) ra2._auto_1)
  (hJ:autoParam ((apos.endLine==bx.line)=true) ra2._auto_1)(hs:autoParam (starEach [e] X.env=[(false,eval e X.env)]) ra2._auto_1):EV X (.Call (.Attribute o "startswith" apos) [e] [] bx) (SJ fo fe):=by obtain⟨to,po,ko⟩:=ho;obtain⟨te,pe,ke⟩:=he;refine⟨_,KR (T:="str") MP V7 F.type_str_startswith b3H po (lX pe sG hs) hR kH hJ hs rfl,λO B σ H env r Q R e q=>?_⟩;obtain⟨z,e1,e2⟩:=bind_some e;obtain⟨y,e3,rfl⟩:=map_some e2;refine ko O B σ H env _ _ R (uq e1) λv H1 s1 r1=>?_;obtain rfl:=lh r1;refine⟨rfl,?_⟩;refine ke O B σ H1 env _ _ (R.grow s1) (uq e3) λv H2 s2 r2=>?_;obtain rfl:=lh r2;exact⟨z,y,rfl,rfl,q _ H2 (s1.trans s2) (Is.bl _)⟩
theorem a9B:hX X (.type "int") (λxs H Q=>∃z n,xs=[.str z]/\PySem.intText? z=some n/\z.length<=640/\Q (.int n) H):=by intro pins s σ H xs us Q I r h;obtain⟨z,n,rfl,hn,hz,q⟩:=h;obtain⟨u,rfl,t,rfl⟩:=vals1 r;exact PySem.W.KIN.call_text hn hz ⟨.int _,H,I.tok _,⟨_,rfl⟩,q⟩
noncomputable def Ws(f:En->Option Sl):En->Option Sl:=λenv=>(iL (f env)).bind λz=>if z.length<=640 then (PySem.intText? z).map λn=>.sh (.int n) else none
theorem b7S(hg:Gl X "int")(hm:X.mg "int" = none)(he:EV X e fa)(hs:autoParam (starEach [e] X.env=[(false,eval e X.env)]) ra2._auto_1):EV X (.Call (.Name "int" p) [e] [] pos) (Ws fa):=by obtain⟨t,pt,k⟩:=he;refine⟨_,TJ a9B hg hm (by decide +kernel) (lX pt sG hs) (by decide) (by decide) hs rfl,λO B σ H env s Q R e q=>?_⟩;obtain⟨z,e1,e2⟩:=bind_some e;obtain⟨hz,e3⟩:=Lp e2;obtain⟨n,e4,rfl⟩:=map_some e3;refine k O B σ H env _ _ R (uq e1) λv H1 s1 r1=>?_;obtain rfl:=lh r1;exact⟨z,n,rfl,e4,hz,q _ H1 s1 (Is.int _)⟩
theorem b9a(h:PE X a t):PE X (.FormattedValue a 114 none pos) (λσ H Q=>t σ H λx H1=>∃y,x=.str y/\(reprText y).length<=sizeLine/\Q (.str (reprText y)) H1):=by intro pins s σ H Q I hw;refine wpAny_FormattedValue_repr (cU (h pins s σ H _ I hw) λv s1 ⟨x,H1,I1,r1,q1⟩=>?_);obtain⟨y,rfl,hz,q⟩:=q1;obtain⟨u,rfl⟩:=r1;exact wpAny_pyReprObj_str (formatField_str (λt' tk=>⟨.str _,H1,I1.tok tk,⟨_,rfl⟩,q⟩) hz) hz
noncomputable def lH(fa:En->Option Sl):En->Option Sl:=λenv=>(iL (fa env)).bind λy=>if (reprText y).length<=16777216 then some (.sh (.str (reprText y))) else none
theorem K4(h:EV X a fa):EV X (.FormattedValue a 114 none pos) (lH fa):=by obtain⟨t,pt,k⟩:=h;refine⟨_,b9a pt,λO B σ H env s Q R e q=>?_⟩;obtain⟨y,e1,e2⟩:=bind_some e;obtain⟨hz,rfl⟩:=jv e2;refine k O B σ H env _ _ R (uq e1) λv H1 s1 r1=>?_;obtain rfl:=lh r1;exact⟨y,rfl,by rw[kM];exact hz,q _ H1 s1 (Is.str _)⟩
def OV(K:aG)(mg:Str->Option Value)(x:Str)(ys:List Str):Prop:=∃a:Addr,mg x=some (.ref a)/\ll K (λ_=>none) a (ys.map V.str)
theorem Tc{K:aG}{O:Addr->Prop}{H:Hp}:∀ys:List Str,aU K O H (ys.map V.str) (ys.map D.str)
 |[]=>.nil
 |y::ys=>.cons (.str y) (Tc ys)
theorem b5D(hg:Gl X x)(hm:OV X.K X.mg x ys)(hd:autoParam ((x==("__debug__":Str))=false) ra1._auto_1):EV X (.Name x pos) (eC (.tup (ys.map D.str))):=by obtain⟨a,hm,hs⟩:=hm;refine⟨_,SX (v:=.ref a) hg hm rfl hd,λO B σ H env s Q R e q=>?_⟩;cases e;exact q _ H (az.refl _) (Is.vf hs (Tc ys))
theorem YK:∀(ys:List (Str×Tok)),aR ((ys.map (·.1)).map V.str) (ys.map λp=>GI p.1 p.2)
 |[]=>.nil
 |y::ys=>.cons ⟨y.2,rfl⟩ (YK ys)
theorem b9y{K:aG}{mg:Str->Option Value}{x:Str}{a:Addr}{ys:List (Str×Tok)}{o:Obj}{n:Nat}(hm:mg x=some (.ref a))(hk:K.lookup a=some o)(hc:o.cls=.type "tuple")(hd:o.data=.seq (ys.map λp=>GI p.1 p.2).toArray n)(hl:ys.length<=1000):OV K mg x (ys.map (·.1)):=
 ⟨a,hm,.inr ⟨o,_,n,hk,hc,hd,by rw[lI,kN,kM];omega,YK ys⟩⟩
end
end DL
namespace DL
open PySem PySem.Spec PyProof.Rows L2
section
variable {K:aG}{O O':Addr->Prop}{H:Hp}{p:Addr}{ys:List V}
end
end DL
namespace DL
open PySem PySem.Spec PyProof.Rows L2
theorem Tv{K:aG}{O:Addr->Prop}{H:Hp}{f:Str}{d:D}:∀{ns:List Str} {vs:List V} {ds:List D},aU K O H vs ds->(ns.zip ds).lookup f=some d->∃v,(ns.zip vs).lookup f=some v/\Is K O H v d
 |[],_,_,_,e=>by cases e
 |n::ns,_,_,.nil,e=>by cases e
 |n::ns,_,_,.cons h t,e=>by
  rw[Rk,qH] at e ⊢;by_cases z:(f==n)=true;.rw [z] at e ⊢;cases e;exact⟨_,rfl,h⟩
  .rw [KL] at z;rw[z] at e ⊢;exact Tv t e
theorem Hu:∀{ns:List Str} {vs:List V},m∉ns->(ns.zip vs).lookup m=none
 |[],_,_=>rfl
 |n::ns,[],_=>rfl
 |n::ns,v::vs,h=>by
  rw[Rk,qH];have:(m==n)=false:=by rw[beq_eq_false_iff_ne];exact λe=>h (by rw[e];exact nA)
  rw[this];exact Hu λz=>h (mZ _ z)
theorem SY:∀{ns:List Str} {us:List V},f∉ns->ns.length=us.length->gL f y (ns.zip us)=(ns++[f]).zip (us++[y])
 |[],[],_,_=>rfl
 |[],_::_,_,h=>by cases h
 |_::_,[],_,h=>by cases h
 |n::ns,u::us,h,hl=>by show (if n=f then _ else (n,u)::gL f y (ns.zip us))=(n,u)::(ns++[f]).zip (us++[y]);rw[if_neg (λe=>h (by rw[e];exact nA)),SY (λz=>h (mZ _ z)) (by simpa using hl)]
theorem uj{α:Type}{c:Prop}[Decidable c]{x:Option α}{y:α}(h:(if c then x else none)=some y):c/\x=some y:=by
 by_cases hc:c;.rw [if_pos hc] at h;exact⟨hc,h⟩
 .rw [if_neg hc] at h;cases h
theorem b5a{σ:L2.St}{env:En}{x:Option V}{q:Addr}(h:lN (x::σ) (.no::env) q):lN σ env q:=by
 obtain⟨i,s,e1,o,e2⟩:=h
 cases i with
 |zero=>cases e1;exact o.elim
 |succ i=>exact⟨i,s,by simpa using e1,o,by simpa using e2⟩
theorem Yn{K:aG}{O:Addr->Prop}{B H:Hp}{σ:L2.St}{env:En}(x:Option V)(R:Rel K O B σ H env):Rel K O B (x::σ) H (.no::env):=by
 have oo:∀q,OO O (x::σ) (.no::env) q->OO O σ env q:=λq z=>z.elim .inl λz=>.inr (b5a z);refine⟨R.same,R.mR,by simp[R.len],λi d e=>?_,λi ds e=>?_,λi ks e=>?_,λi ks ds e=>?_,λi j ds es p e1 e2 e3 e4 o1 o2=>?_⟩
 .cases i with
  |zero=>cases e
  |succ i=>obtain⟨v,f1,f2⟩:=R.sh i d (by simpa using e);exact⟨v,by simpa using f1,f2.less oo⟩
 .cases i with
  |zero=>cases e
  |succ i=>obtain⟨p,xs,f1,f2,f3,f4⟩:=R.ow i ds (by simpa using e);exact⟨p,xs,by simpa using f1,f2,f3,f4.less oo⟩
 .cases i with
  |zero=>cases e
  |succ i=>obtain⟨p,f1,f2,f3⟩:=R.dw i ks (by simpa using e);exact⟨p,by simpa using f1,f2,f3⟩
 .cases i with
  |zero=>cases e
  |succ i=>obtain⟨p,xs,f1,f2,f3,f4,f5⟩:=R.tw i ks ds (by simpa using e);exact⟨p,xs,by simpa using f1,f2,f3,f4,f5.less oo⟩
 .cases i with
  |zero=>cases e1;exact o1.elim
  |succ i =>
   cases j with
   |zero=>cases e2;exact o2.elim
   |succ j=>rw[R.sep i j ds es p (by simpa using e1) (by simpa using e2) (by simpa using e3) (by simpa using e4) o1 o2]
def n5(K:aG)(c:Str)(P:Addr->Prop):Prop:=∀C,iE K mainGlobals c=some (some (.ref C))->rA K C/\P C
noncomputable def eA(cs:List Str)(f:Str):D->Option D
 | .obj c ns ds=>if c∈cs then (ns.zip ds).lookup f else none
 |_=>none
noncomputable def eM(cs:List Str)(f:Str)(fo:En->Option Sl):En->Option Sl:=λenv=>(fo env).bind λr=>(eA cs f r.d).map Sl.sh
section
variable {X:Cx}{e o:Expr}{es:List Expr}{f m:Str}{pos apos p:Pos}{fo:En->Option Sl}{fs:En->Option (List D)}{cs:List Str}
theorem lV(ho:EV X o fo)(hc:∀c∈cs,n5 X.K c λC=>ak X.K C f)(hb:autoParam (attributeBase o f X.env (eval o X.env)=eval o X.env) ra2._auto_1):EV X (.Attribute o f pos) (eM cs f fo):=by
 obtain⟨t,pt,k⟩:=ho;refine⟨_,b9c pt hb,λO B σ H env s Q R e q=>?_⟩;obtain⟨r,e1,e2⟩:=bind_some e;obtain⟨d,e3,rfl⟩:=map_some e2;refine k O B σ H env r _ R e1 λv H1 s1 r1=>?_;have hi:=r1.is λq=>R.oo
 cases hd:r.d with
 |obj c ns ds =>
  rw[hd] at hi e3;obtain⟨hm,e4⟩:=uj (show (if c∈cs then (ns.zip ds).lookup f else none)=some d from e3)
  cases hi with
  |obj ho hn hp hl hs => obtain⟨u,hu,iu⟩:=Tv hs e4;obtain⟨c1,c2⟩:=hc c hm _ hn;exact⟨_,_,_,_,u,rfl,hp,c1,c2,hu,q u H1 s1 iu⟩
 |_=>rw[hd] at e3;cases e3
inductive MethP (X:Cx) (m:Str) (j:Nat) (t:TA) (σ:L2.St) (Q:VK) (x:V) (H1:Hp):Prop
 | mk (a C dx:Addr) (fs:List (Str×V)) (f:Addr) (fd:FuncData) (ps:List Str) (sp:Sp) (ex:x=.ref a) (ea:H1 a=some (.ins C dx fs)) (c:rA X.K C) (hm:aZ X.K C m f) (l:fs.lookup m=none) (hb:Binds X.K fd ps []) (F:bQ X.prog X.w X.K X.mg X.base iq j f fd ps sp)
  (q:t σ H1 λvs H2=>sp (x::vs) H2 Q E0)
noncomputable def SA(X:Cx)(m:Str)(j:Nat)(ta:TE)(t:TA):TE:=λσ H Q=>ta σ H (MethP X m j t σ Q)
theorem Yi{pl:Sem Bool}{j:Nat}{ta:TE}{t:TA}(he:PE X o ta)(hr:cD j X.A)(ha:PA X (e::es) t)
  (jB:autoParam (starEach (e::es) X.env=(false,eval e X.env)::starEach es X.env) ra2._auto_1)(c6:autoParam ((backTo pos (starEach es X.env)).any (·.1)=false) ra2._auto_1)
  (ht:autoParam (eval (.Call (.Attribute o m apos) (e::es) [] pos) X.env=(eval o X.env >>= λov=>standAt apos.atName >>= λ_=>holding [ov] (getMethod ov m pl) >>= λz=>callWith pos z.1 z.2 (backTo pos (starEach (e::es) X.env)) (backToKw pos (keywordEach [] X.env)))) ra2._auto_1):
  PE X (.Call (.Attribute o m apos) (e::es) [] pos) (SA X m j ta t):=by intro pins s σ H Q I h;refine GY (pl:=pl) (cU (he pins s σ H _ I h) λu s1 ⟨x,H1,I1,rx,a,C,dx,fs,f,fd,ps,sp,ex,ea,c,hm,l,hb,F,q⟩=>?_) ht;subst ex;obtain rfl:u=mV a:=rx;refine NV I1 ea c hm l (DW (first:=[.ref a]) (h₀:=X.base) I.ok.mod.yk hm.kp (cU (ha pos pins s1 σ H1 _ I1 q) λus s2 ⟨vs,H2,I2,r,q2⟩=>⟨I2.km,?_⟩) jB c6);exact Nm (us:=.ref a::us) (vs:=.ref a::vs) (dvs:=[]) (E:=E0) F hr hb .nil Bd I2 (.cons rfl r) (by rw[qJ];exact q2)
theorem YL{pl:Sem Bool}{j:Nat}{ta:TE}(he:PE X o ta)(hr:cD j X.A)
  (ht:autoParam (eval (.Call (.Attribute o m apos) [] [] pos) X.env=(eval o X.env >>= λov=>standAt apos.atName >>= λ_=>holding [ov] (getMethod ov m pl) >>= λz=>callWith pos z.1 z.2 (backTo pos (starEach [] X.env)) (backToKw pos (keywordEach [] X.env)))) ra2._auto_1):
  PE X (.Call (.Attribute o m apos) [] [] pos) (SA X m j ta Ez):=by intro pins s σ H Q I h;refine GY (pl:=pl) (cU (he pins s σ H _ I h) λu s1 ⟨x,H1,I1,rx,a,C,dx,fs,f,fd,ps,sp,ex,ea,c,hm,l,hb,F,q⟩=>?_) ht;subst ex;obtain rfl:u=mV a:=rx;exact NV I1 ea c hm l (Wg (first:=[.ref a]) I1.km hm.kp (Nm (us:=[.ref a]) (vs:=[.ref a]) (dvs:=[]) (E:=E0) F hr hb .nil Bd I1 (.cons rfl .nil) q))
noncomputable abbrev bo:=List (Str×(List D->Option Sl))
def MT(X:Cx)(m:Str)(n j:Nat)(tab:bo):Prop:=∀c φ,tab.lookup c=some φ->n5 X.K c λC=>∃f fd ps,aZ X.K C m f/\ps.length=n/\Binds X.K fd ps []/\bQ X.prog X.w X.K X.mg X.base iq j f fd ps (wI X.K n φ)
noncomputable def gn(m:Str)(n:Nat)(tab:bo)(d:D)(as:List D):Option Sl:=match d with
 | .obj c ns ds=>if m∈ns\/as.length+1≠n then none else (tab.lookup c).bind λφ=>φ (.obj c ns ds::as)
 |_=>none
noncomputable def jk(m:Str)(n:Nat)(tab:bo)(fo:En->Option Sl)(fa:En->Option (List D)):En->Option Sl:=λenv=>(fo env).bind λr=>(fa env).bind λas=>gn m n tab r.d as
theorem Yz(T:MT X m n j tab)
  (k:∀(O:Addr->Prop) (B:Hp) (σ:L2.St) (H:Hp) (env:En) (r:Sl) (Q:VK),Rel X.K O B σ H env->fo env=some r->(∀v H',az H H'->Res X.K (OO O σ env) H H' v r->Q v H')->t σ H Q)
  (ka:∀(O:Addr->Prop) (B:Hp) (σ:L2.St) (H:Hp) (env:En) (ds:List D) (Q:List V->Hp->Prop),Rel X.K O B σ H env->fs env=some ds->(∀vs H',az H H'->aU X.K (OO O σ env) H' vs ds->Q vs H')->u σ H Q)
  (O:Addr->Prop)(B:Hp)(σ:L2.St)(H:Hp)(env:En)(s:Sl)(Q:VK)(R:Rel X.K O B σ H env)(e:jk m n tab fo fs env=some s)(q:∀v H',az H H'->Res X.K (OO O σ env) H H' v s->Q v H'):SA X m j t u σ H Q:=by
 obtain⟨r,e1,e2⟩:=bind_some e;obtain⟨as,e3,e4⟩:=bind_some e2;refine k O B σ H env r _ R e1 λv H1 s1 r1=>?_;have hi:=r1.is λq=>R.oo
 cases hd:r.d with
 |obj c ns ds =>
  rw[hd] at hi e4;unfold gn at e4;dsimp only at e4;split at e4;.cases e4
  .rename_i Ay;rw[not_or] at Ay;obtain⟨φ,e5,e6⟩:=bind_some e4;have yB:=hi
   cases hi with
   |obj ho hn hp hl hs => obtain⟨c1,f,fd,ps,c2,c3,c4,c5⟩:=T c φ e5 _ hn;refine⟨_,_,_,_,f,fd,ps,_,rfl,hp,c1,c2,Hu Ay.1,c4,c5,?_⟩;refine ka O B σ H1 env as _ (R.grow s1) e3 λvs H2 s2 r2=>?_;have nl:as.length+1=n:=Classical.not_not.mp Ay.2;exact⟨OO O σ env,_,s,((R.grow s1).grow s2).dm,.cons (yB.grow s2) r2,by rw[jj,r2.length];exact nl,e6,λv H3 s3 r3=>q v H3 ((s1.trans s2).trans s3) (r3.from (s1.trans s2))⟩
 |_=>rw[hd] at e4;cases e4
theorem b7Q{n j:Nat}{tab:bo}{pl:Sem Bool}(ho:EV X o fo)(ha:AV X (e::es) fs)(hr:cD j X.A)(T:MT X m n j tab)
  (jB:autoParam (starEach (e::es) X.env=(false,eval e X.env)::starEach es X.env) ra2._auto_1)(c6:autoParam ((backTo pos (starEach es X.env)).any (·.1)=false) ra2._auto_1)
  (ht:autoParam (eval (.Call (.Attribute o m apos) (e::es) [] pos) X.env=(eval o X.env >>= λov=>standAt apos.atName >>= λ_=>holding [ov] (getMethod ov m pl) >>= λz=>callWith pos z.1 z.2 (backTo pos (starEach (e::es) X.env)) (backToKw pos (keywordEach [] X.env)))) ra2._auto_1):
  EV X (.Call (.Attribute o m apos) (e::es) [] pos) (jk m n tab fo fs):=by obtain⟨t,pt,k⟩:=ho;obtain⟨u,pu,ka⟩:=ha;exact⟨_,Yi pt hr pu jB c6 ht,λO B σ H env s Q R e q=>Yz T k ka O B σ H env s Q R e q⟩
theorem b5C{n j:Nat}{tab:bo}{pl:Sem Bool}(ho:EV X o fo)(hr:cD j X.A)(T:MT X m n j tab)
  (ht:autoParam (eval (.Call (.Attribute o m apos) [] [] pos) X.env=(eval o X.env >>= λov=>standAt apos.atName >>= λ_=>holding [ov] (getMethod ov m pl) >>= λz=>callWith pos z.1 z.2 (backTo pos (starEach [] X.env)) (backToKw pos (keywordEach [] X.env)))) ra2._auto_1):
  EV X (.Call (.Attribute o m apos) [] [] pos) (jk m n tab fo ag):=by obtain⟨t,pt,k⟩:=ho;refine⟨_,YL pt hr ht,λO B σ H env s Q R e q=>Yz T k (λO B σ H env ds Q R e q=>?_) O B σ H env s Q R e q⟩;obtain rfl:=gY (show some []=some ds from e);exact q [] H (az.refl _) .nil
noncomputable def uy(K:aG)(C:Addr)(n:Nat)(ns:List Str)(ψ:List D->Option (List D)):Sp:=λvs H Q _=>∃(O:Addr->Prop) (p dx:Addr) (ws:List V) (ds fs:List D),vs=.ref p::ws/\ws.length=n/\H p=some (.ins C dx [])/\zM K O H/\O p/\aU K O H ws ds/\ψ ds=some fs /\
 ∀(us:List V) (H':Hp),ns.length=us.length->(∀q u,H q=some u->q≠p->H' q=some u)->H' p=some (.ins C dx (ns.zip us))->aU K O H' us fs->Q .dO H'
noncomputable def yF(c:Str)(n:Nat)(ns:List Str)(ψ:List D->Option (List D))(fa:En->Option (List D)):En->Option Sl:=λenv=>(fa env).bind λas=>if as.length=n then (ψ as).map λds=>Sl.sh (.obj c ns ds) else none
theorem Kf{c:Str}{C f:Addr}{fd:FuncData}{ps:List Str}{n j:Nat}{ns:List Str}{ψ:List D->Option (List D)}(M:Mk X.K C f)(F:bQ X.prog X.w X.K X.mg X.base iq j f fd ps (uy X.K C n ns ψ))(hr:cD (j+1) X.A)(hg:Gl X c)(hm:X.mg c=some (.ref C))(hn:iE X.K mainGlobals c=some (some (.ref C)))(hb:Binds X.K fd ps [])
  (ha:AV X (e::es) fs)(d8:autoParam ((c==("__debug__":Str))=false) ra1._auto_1)(he:autoParam (starEach (e::es) X.env=(false,eval e X.env)::starEach es X.env) ra2._auto_1)(c6:autoParam ((backTo pos (starEach es X.env)).any (·.1)=false) ra2._auto_1):
  EV X (.Call (.Name c p) (e::es) [] pos) (yF c n ns ψ fs):=by
 obtain⟨t,pt,ka⟩:=ha;refine⟨_,Lf M F hr hg hm hb .nil (Bd (X:=X)) pt d8 he c6,λO B σ H env r Q R e q=>?_⟩;obtain⟨as,e1,e2⟩:=bind_some e;obtain⟨hl,e3⟩:=uj e2;obtain⟨gs,e4,rfl⟩:=map_some e3;refine ka O B σ H env as _ R e1 λvs H1 s1 r1=>?_;intro x dx nx Jq ne;have nO:¬OO O σ env x:=λz=>(R.grow s1).oo z nx;have up1:∀q u,H1 q=some u->upd (upd H1 dx (.own x)) x (.ins C dx []) q=some u:=λq u e=>by rw[eX (oM e nx),eX (oM e Jq)];exact e
 refine⟨λq=>OO O σ env q\/q=x,x,dx,vs,as,gs,by rw[qJ],by rw[r1.length];exact hl,ni,⟨λq hq=>?_,(R.grow s1).dm.2.grow λq u e=>up1 q u e⟩,.inr rfl,r1.map (λq hq hn z=>z.elim hn λe=>hq (by rw[e];exact nx)) λq u e _=>up1 q u e,e4,λus H' rZ kp hp hs=>⟨rfl,?_⟩⟩
 .rcases hq with hq | rfl
  .cases hz:H1 q with
   |none=>exact absurd hz ((R.grow s1).oo hq)
   |some u=>rw[up1 q u hz];exact λz=>nomatch z
  .rw [ni];exact λz=>nomatch z
 .have sm:az H1 H':=λq u e=>kp q u (up1 q u e) (oM e nx);exact q _ H' (s1.trans sm) (Is.obj nO hn hp rZ (hs.less λq z=>.inl z))
inductive Eu (X:Cx) (nH:List Stmt) (C:Addr) (F:En->List Str->List D->Option (List Str×List D)):Prop
 | mk (t:TS) (p:nZ X nH t) (k:∀(O:Addr->Prop) (σ:L2.St) (H:Hp) (env:En) (p dx:Addr) (ns:List Str) (us:List V) (ds:List D) (iN:List Str) (ds':List D) (Dn:Ends),Rel X.K O H σ H env->(∀(i:Nat) s,env[i]?=some s->¬s.own)->O p->σ[0]?=some (some (V.ref p))->H p=some (.ins C dx (ns.zip us))->ns.length=us.length->aU X.K O H us ds->F env ns ds=some (iN,ds') ->
  (∀(H':Hp) (us':List V),(∀q u,H q=some u->q≠p->H' q=some u)->H' p=some (.ins C dx (iN.zip us'))->iN.length=us'.length->aU X.K O H' us' ds'->Dn.nx σ H')->t Dn σ H)
noncomputable def iD:En->List Str->List D->Option (List Str×List D):=λ_ ns ds=>some (ns,ds)
noncomputable def dB(f:Str)(fe:En->Option Sl)(F:En->List Str->List D->Option (List Str×List D)):En->List Str->List D->Option (List Str×List D):=λenv ns ds=>(fe env).bind λr=>if f∈ns\/900<ns.length then none else F env (ns++[f]) (ds++[r.d])
theorem uk:Eu X [] C iD:=⟨_,Li,λO σ H env p dx ns us ds iN ds' Dn R no op hs hp hl hi e q=>by cases (show some (ns,ds)=some (iN,ds') from e);exact q H us (λ_ _ e _=>e) hp hl hi⟩
theorem b9t{C:Addr}{fe:En->Option Sl}{F:En->List Str->List D->Option (List Str×List D)}{nH:List Stmt}{x:Str}{p1 pos':Pos}(hv:EV X e fe)(hr:Eu X nH C F)(c:rA X.K C)(n:ak X.K C f)
  (hN:X.N[0]?=some x)(mI:jJ X.env.scope x)(hd:autoParam ((x==("__debug__":Str))=false) ra2._auto_1)(dC:autoParam ((x==("__classdict__":Str))=false) ra2._auto_1)
  (hs:autoParam (swapsWith e (some (.Attribute (.Name x p1) f pos')) pos.line X.env=pure false) ra2._auto_1):Eu X (.Assign [.Attribute (.Name x p1) f pos'] e pos::nH) C (dB f fe F):=by
 obtain⟨t,pt,k⟩:=hv;obtain⟨u,pu,ku⟩:=hr;refine⟨_,Bn (Xp (wC hN mI hd dC) pt hs) pu,λO σ H env p dx ns us ds iN ds' Dn R no op hs hp hl hi e q=>?_⟩;obtain⟨r,e1,e2⟩:=bind_some e;split at e2;.cases e2
 rename_i Ay;rw[not_or] at Ay;have qs:∀q,lN σ env q->False:=λq ⟨i,s,h1,h2,_⟩=>no i s h1 h2;refine k O H σ H env r _ R e1 λv H1 s1 r1=>?_;have iv:=(r1.is λq=>R.oo).less (O':=O) λq z=>.inl z;refine⟨.ref p,hs,p,C,dx,ns.zip us,rfl,s1 _ _ hp,c,n,by rw[Rp];omega,?_⟩;rw[SY Ay.1 hl];have kp:∀q u,H1 q=some u->q≠p->upd H1 p (.ins C dx ((ns++[f]).zip (us++[v]))) q=some u:=λq u e ne=>by rw[eX ne];exact e
 have mp:∀{w:V} {d:D},Is X.K O H1 w d->Is X.K O (upd H1 p (.ins C dx ((ns++[f]).zip (us++[v])))) w d:=λh=>h.map (λ_ _ z=>z) λq u e nq=>kp q u e λz=>nq (by rw[z];exact op);have P5:∀{w:List V} {d:List D},aU X.K O H1 w d->aU X.K O (upd H1 p (.ins C dx ((ns++[f]).zip (us++[v])))) w d:=λh=>h.map (λ_ _ z=>z) λq u e nq=>kp q u e λz=>nq (by rw[z];exact op);refine ku O σ _ env p dx (ns++[f]) (us++[v]) (ds++[r.d]) iN ds' Dn ⟨az.refl _,⟨λq hq=>?_,λc' P e'=>?_⟩,R.len,λi d e=>?_,λi es e=>(no i _ e trivial).elim,λi es e=>(no i _ e trivial).elim,λi ks es e=>(no i _ e trivial).elim,λi j es fs q e1 _ _ _ o _=>(no i _ e1 o).elim⟩ no op hs ni (by rw[mU,mU,hl];rfl) ((P5 (hi.grow s1)).append (.cons (mp iv) .nil)) e2 λH' us' kq Ax rZ yB=>q H' us' (λq u e ne=>kq q u (kp q u (s1 _ _ e) ne) ne) Ax rZ yB
 .by_cases z:q=p;.rw [z,ni];exact λz=>nomatch z
  .rw [eX z]
   cases hz:H q with
   |none=>exact absurd hz (R.mR.1 q hq)
   |some u=>rw[s1 _ _ hz];exact λz=>nomatch z
 .have e3:=R.mR.2 c' P e';exact kp _ _ (s1 _ _ e3) λz=>by rw[z,hp] at e3;cases e3
 .obtain ⟨w,f1,f2⟩:=R.sh i d e;refine⟨w,f1,(mp ((f2.grow s1).less λq z=>.inl z)).less λq z=>z.elim id λz=>(qs q z).elim⟩
end
section
variable {P:Program}{w:World}{K:aG}{mg:Str->Option Value}{base:Heap}
noncomputable def eZ(F:En->List Str->List D->Option (List Str×List D))(N:Nat)(ns:List Str)(ds:List D):Option (List D):=match F (.no::jQ (N-1) ds) [] [] with
 |some (iN,fs)=>if iN=ns then some fs else none
 |none=>none
theorem XR{qual:Str}{st:Stmt}{f C:Addr}{fd:FuncData}{N ps:List Str}{k n:Nat}{ns:List Str}{F:En->List Str->List D->Option (List Str×List D)}(Fn:ur K "__init__" qual st f fd)(S:bP N ps (dR st))(vt:ps.length=n+1)(hN:1<=N.length)
  (bu:∀X:Cx,X.prog=P->X.w=w->X.K=K->X.mg=mg->X.base=base->Fx X N (dR st) k->Eu X (iG st) C F):bQ P w K mg base iq (k+1) f fd ps (uy K C n ns (eZ F N.length ns)):=by
 refine Fn.ok S (λvs H Q E h=>?_) (λfu A outer s H vs Q E hr h=>?_);.obtain ⟨O,p,dx,ws,ds,fs,rfl,hl,_⟩:=h;rw[jj,hl,vt]
 obtain⟨O,p,dx,ws,ds,fs,rfl,hl,hp,dm,op,hi,e,q⟩:=h;obtain⟨t,pt,kk⟩:=bu (hU iq P w K mg base N qual (dR st) f fu A outer s H E).aI rfl rfl rfl rfl rfl ⟨rfl,rfl,rfl,λ_ _=>rfl,BJ,hr,S.nd,λ_=>⟨rfl,rfl,rfl⟩⟩;refine⟨t,pt,?_⟩;have R0:=Hv (N:=N.tail) dm hi;have R1:=Yn (some (V.ref p)) R0;have es:some (V.ref p)::start N.tail ws=start N (V.ref p::ws):=by unfold L2.start;rw[jM,GK,MO,jj,Nat.sub_sub,Nat.add_comm 1]
 rw[es,MO] at R1;unfold eZ at e
 cases hF:F (.no::jQ (N.length-1) ds) [] [] with
 |none=>rw[hF] at e;cases e
 |some y =>
  obtain⟨iN,yE⟩:=y;rw[hF] at e;obtain⟨rfl,rfl⟩:=jv (show (if iN=ns then some yE else none)=some fs from e);refine kk O _ H _ p dx [] [] [] iN yE _ R1 (λi s h1 h2=>?_) op rfl hp rfl .nil hF λH' us' kp Ax rZ yB=>q us' H' rZ kp Ax yB
  cases i with
  |zero=>cases h1;exact h2
  |succ i =>
   have h1:(jQ (N.length-1) ds)[i]?=some s:=by simpa using h1
   unfold jQ at h1;rw[KA] at h1;split at h1;.rw [zp] at h1;obtain⟨d,_,e⟩:=map_some h1;cases e;exact h2
   .rw [FK] at h1;split at h1;.cases h1;exact h2
    .cases h1
end
end DL
namespace DL
open PySem PySem.Spec PyProof.Rows L2
structure df(K:aG)(c:Str)(C:Addr):Prop where
 a:iE K mainGlobals c=some (some (.ref C))
 c:rA K C
theorem df.n{K:aG}{c:Str}{C:Addr}{P:Addr->Prop}(h:df K c C)(p:P C):n5 K c P:=λC' e=>by rw[h.a] at e;cases e;exact⟨h.c,p⟩
def FL(K:aG)(f:Str)(cs:List Str):Prop:=∀c∈cs,n5 K c λC=>ak K C f
theorem wA{K:aG}{f:Str}:FL K f []:=λ_ h=>nomatch h
theorem kz{K:aG}{f c:Str}{C:Addr}{cs:List Str}(h:df K c C)(n:ak K C f)(T:FL K f cs):FL K f (c::cs):=λc' hc=>by
 rcases iF.mp hc with rfl|hc;.exact h.n n
 .exact T c' hc
structure cy(K:aG)(f:Addr)(x qual:Str)(st:Stmt)(ps:List Str)(fd:FuncData):Prop where
 fn:ur K x qual st f fd
 bd:Binds K fd ps []
def Om(P:Program)(w:World)(K:aG)(mg:Str->Option Value)(base:Heap)(f:Addr)(x qual:Str)(st:Stmt)(ps:List Str)(j:Nat)(φ:List D->Option Sl):Prop:=∃fd,cy K f x qual st ps fd/\bQ P w K mg base iq j f fd ps (wI K ps.length φ)
theorem pV{P:Program}{w:World}{K:aG}{mg:Str->Option Value}{base:Heap}{x qual:Str}{st:Stmt}{f:Addr}{fd:FuncData}{N ps:List Str}{k:Nat}{F:SF}(D':cy K f x qual st ps fd)
  (bu:∀X:Cx,Sx X P w K mg base->Fx X N (dR st) k->qX X (iG st) F)(S:autoParam (bP N ps (dR st)) ra6._auto_1):Om P w K mg base f x qual st ps (k+1) (cV F N.length):=
 ⟨fd,D',Ka D'.fn S λX e1 e2 e3 e4 e5=>by subst e1 e2 e3 e4 e5;exact bu X (.mk X)⟩
def lZ(P:Program)(w:World)(K:aG)(mg:Str->Option Value)(base:Heap)(m:Str)(n j:Nat)(tab:bo):Prop:=∀c φ,tab.lookup c=some φ->n5 K c λC=>∃f fd ps,aZ K C m f/\ps.length=n/\Binds K fd ps []/\bQ P w K mg base iq j f fd ps (wI K n φ)
section
variable {P:Program}{w:World}{K:aG}{mg:Str->Option Value}{base:Heap}{m c:Str}{n j:Nat}{tab:bo}
theorem F4:lZ P w K mg base m n j []:=λc φ e=>nomatch e
theorem lW{C f:Addr}{x qual:Str}{st:Stmt}{ps:List Str}{i:Nat}{φ:List D->Option Sl}(h:df K c C)(hm:aZ K C m f)(O:Om P w K mg base f x qual st ps i φ)(T:lZ P w K mg base m n j tab)(hj:autoParam (i<=j) ra1._auto_1)(hl:autoParam (ps.length=n) ra2._auto_1):lZ P w K mg base m n j ((c,φ)::tab):=λc' Z9 e=>by
 rw[qH] at e;by_cases z:(c'==c)=true
 .rw [z] at e;cases e;obtain rfl:c'=c:=by simpa using z
  obtain⟨fd,D',F⟩:=O;exact h.n ⟨f,fd,ps,hm,hl,D'.bd,by rw[<-hl];exact F.mono hj⟩
 .rw [KL] at z;rw[z] at e;exact T c' Z9 e
theorem P7{X X':Cx}(e1:X'.prog=X.prog)(e2:X'.w=X.w)(e3:X'.K=X.K)(e4:X'.mg=X.mg)(e5:X'.base=X.base)(T:lZ X.prog X.w X.K X.mg X.base m n j tab):lZ X'.prog X'.w X'.K X'.mg X'.base m n j tab:=by rw[e1,e2,e3,e4,e5];exact T
end
structure FM(K:aG)(n q:Str)(t:Stmt)(f:Addr)(od an:Option Addr)(sl:Array (Option Value))(oc kV dc pm cd ct:Value):Prop where
 l:K.lookup f=some ⟨oc,od,.func (pI n q (qR t) (iG t) (dR t) .none kV dc pm an cd ct),sl⟩
 c:KH K cd q=true
 k:ud K (.ref f)=true
theorem gX{K:aG}{n q:Str}{t:Stmt}{f:Addr}{od an:Option Addr}{sl:Array (Option Value)}{oc kV dc pm cd ct:Value}{ps:List Str}(i:FM K n q t f od an sl oc kV dc pm cd ct)(hb:∀(kV doc pm:Value) (an:Option Addr) (fu ct:Value) (us:List Value),us.length=ps.length->bindArgs (pI n q (qR t) (iG t) (dR t) .none kV doc pm an fu ct) ⟨us,[]⟩=pure (ps.zip us)):
  cy K f n q t ps (pI n q (qR t) (iG t) (dR t) .none kV dc pm an cd ct):=⟨Nq i.l i.c i.k,(Nq i.l i.c i.k).binds hb⟩
def iY(P:Program)(w:World)(K:aG)(mg:Str->Option Value)(base:Heap)(c:Str)(n:Nat)(ns:List Str)(j:Nat)(ψ:List D->Option (List D)):Prop:=∃C f fd ps,Mk K C f/\bQ P w K mg base iq j f fd ps (uy K C n ns ψ)/\mg c=some (.ref C)/\iE K mainGlobals c=some (some (.ref C))/\Binds K fd ps []
theorem Bb{P:Program}{w:World}{K:aG}{mg:Str->Option Value}{base:Heap}{c qual:Str}{st:Stmt}{f C:Addr}{fd:FuncData}{N ps:List Str}{k n:Nat}{ns:List Str}{F:En->List Str->List D->Option (List Str×List D)}(h:df K c C)(hm:mg c=some (.ref C))(M:Mk K C f)(D':cy K f "__init__" qual st ps fd)
  (bu:∀X:Cx,Sx X P w K mg base->Fx X N (dR st) k->Eu X (iG st) C F)(vt:autoParam (ps.length=n+1) ra2._auto_1)(hN:autoParam (1<=N.length) ra1._auto_1)(S:autoParam (bP N ps (dR st)) ra6._auto_1):iY P w K mg base c n ns (k+1) (eZ F N.length ns):=
 ⟨C,f,fd,ps,M,XR D'.fn S vt hN λX e1 e2 e3 e4 e5=>by subst e1 e2 e3 e4 e5;exact bu X (.mk X),hm,h.a,D'.bd⟩
section
variable {X:Cx}{N:List Str}{sc:Scope}{k j n:Nat}{full:Bool}{e o:Expr}{es:List Expr}{m c f:Str}{pos p apos pos' p1:Pos}{fo fe:En->Option Sl}{fs:En->Option (List D)}{tab:bo}
theorem Fx.mt(h:Fx X N sc k full)(T:lZ X.prog X.w X.K X.mg X.base m n j tab)(ho:EV X o fo)(ha:AV X (e::es) fs)(hj:autoParam (j<=k) ra1._auto_1){pl:Sem Bool}
  (jB:autoParam (starEach (e::es) X.env=(false,eval e X.env)::starEach es X.env) ra2._auto_1)(c6:autoParam ((backTo pos (starEach es X.env)).any (·.1)=false) ra2._auto_1)
  (ht:autoParam (eval (.Call (.Attribute o m apos) (e::es) [] pos) X.env=(eval o X.env >>= λov=>standAt apos.atName >>= λ_=>holding [ov] (getMethod ov m pl) >>= λz=>callWith pos z.1 z.2 (backTo pos (starEach (e::es) X.env)) (backToKw pos (keywordEach [] X.env)))) ra2._auto_1):
  EV X (.Call (.Attribute o m apos) (e::es) [] pos) (jk m n tab fo fs):=b7Q (pl:=pl) ho ha (h.room.mono hj) T jB c6 ht
theorem Fx.ve(h:Fx X N sc k full)(T:lZ X.prog X.w X.K X.mg X.base m n j tab)(ho:EV X o fo)(hj:autoParam (j<=k) ra1._auto_1){pl:Sem Bool}
  (ht:autoParam (eval (.Call (.Attribute o m apos) [] [] pos) X.env=(eval o X.env >>= λov=>standAt apos.atName >>= λ_=>holding [ov] (getMethod ov m pl) >>= λz=>callWith pos z.1 z.2 (backTo pos (starEach [] X.env)) (backToKw pos (keywordEach [] X.env)))) ra2._auto_1):
  EV X (.Call (.Attribute o m apos) [] [] pos) (jk m n tab fo ag):=b5C (pl:=pl) ho (h.room.mono hj) T ht
theorem Fx.DH{ns:List Str}{ψ:List D->Option (List D)}(h:Fx X N sc k full)(T:iY X.prog X.w X.K X.mg X.base c n ns j ψ)(ha:AV X (e::es) fs)(hj:autoParam (j+1<=k) ra1._auto_1)(hg:autoParam (sc.names.lookup c=some .globalImplicit) ra2._auto_1)(d8:autoParam ((c==("__debug__":Str))=false) ra2._auto_1)
  (he:autoParam (starEach (e::es) X.env=(false,eval e X.env)::starEach es X.env) ra2._auto_1)(c6:autoParam ((backTo pos (starEach es X.env)).any (·.1)=false) ra2._auto_1):EV X (.Call (.Name c p) (e::es) [] pos) (yF c n ns ψ fs):=by obtain⟨C,f,fd,ps,M,F,hm,hn,hb⟩:=T;exact Kf M F (h.room.mono hj) (h.g hg) hm hn hb ha d8 he c6
theorem Fx.fM(h:Fx X N sc k full)(c:rA X.K C)(n:ak X.K C f)(hv:EV X e fe)(hr:Eu X nH C F)(hN:autoParam (N[0]?=some x) ra2._auto_1)(mI:autoParam (jJ sc x) ra4._auto_1)(hd:autoParam ((x==("__debug__":Str))=false) ra2._auto_1)(dC:autoParam ((x==("__classdict__":Str))=false) ra2._auto_1)
  (hs:autoParam (swapsWith e (some (.Attribute (.Name x p1) f pos')) pos.line X.env=pure false) ra2._auto_1):Eu X (.Assign [.Attribute (.Name x p1) f pos'] e pos::nH) C (dB f fe F):=b9t hv hr c n (h.ix hN) (h.uv mI) hd dC hs
end
noncomputable def JA(tab:List (Str×Bool)):D->Option Sl
 | .obj c _ _=>(tab.lookup c).map λb=>.sh (.bl b)
 |_=>none
noncomputable def QT(tab:List (Str×Bool))(fo:En->Option Sl):En->Option Sl:=λenv=>(fo env).bind λr=>JA tab r.d
section
variable {X:Cx}{a:Expr}{p p2 pos:Pos}{fa:En->Option Sl}
end
end DL
namespace DL
open PySem PySem.Spec PyProof.Rows L2
section
variable {K:aG}{O O' L:Addr->Prop}{H:Hp}
end
section
variable {X:Cx}{e o:Expr}{es:List Expr}{f m:Str}{pos apos p:Pos}{fo:En->Option Sl}{fs:En->Option (List D)}
end
section
variable {P:Program}{w:World}{K:aG}{mg:Str->Option Value}{base:Heap}
end
section
variable {X:Cx}{N:List Str}{sc:Scope}{k j n:Nat}{full:Bool}{e o:Expr}{es:List Expr}{m c f:Str}{pos p apos pos' p1:Pos}{fo fe:En->Option Sl}{fs:En->Option (List D)}
end
end DL
namespace DL
open PySem L2
section
variable {env:En}{Q:Sl->Prop}{fo fk fd:En->Option Sl}{fa:En->Option (List D)}
theorem b8g:Wo (eM cs f fo env) Q↔Wo (fo env) λr=>Wo (eA cs f r.d) λd=>Q (.sh d):=by unfold eM;rw[a09];exact Bk λr=>a8i
theorem b5M:Wo (jk m n tab fo fa env) Q↔Wo (fo env) λr=>Wo (fa env) λas=>Wo (gn m n tab r.d as) Q:=by unfold jk;rw[a09];exact Bk λr=>a09
theorem b9Z:Wo (yF c n ns ψ fa env) Q↔Wo (fa env) λas=>as.length=n/\Wo (ψ as) λds=>Q (.sh (.obj c ns ds)):=by
 unfold yF;rw[a09];refine Bk λas=>?_;by_cases h:as.length=n;.rw [if_pos h,a8i];exact⟨λz=>⟨h,z⟩,λz=>z.2⟩
 .rw [if_neg h];exact⟨λz=>(Wo_none.mp z).elim,λz=>(h z.1).elim⟩
theorem b8f:Wo (QT tab fo env) Q↔Wo (fo env) λr=>Wo (JA tab r.d) Q:=a09
end
end DL
namespace DL
open PySem PySem.Spec PyProof.Rows L2
noncomputable def FU:List D->Option (List Str)
 |[]=>some []
 | .str x::ds=>(FU ds).map (x::·)
 |_::_=>none
end DL
namespace DL
open PySem PySem.Spec PyProof.Rows L2
section
variable {X:Cx}{e:Expr}{es:List Expr}{pos p1 p2 bx p:Pos}{fs:En->Option (List D)}{fe:En->Option Sl}{g:En->Option (List D×En)}
variable {N:List Str}{sc:Scope}{k j:Nat}{full:Bool}
end
end DL
namespace DL
open PySem PySem.Spec PyProof.Rows L2
section
variable {X:Cx}
theorem b0z:hX X (.type "str") (λxs H Q=>∃y,xs=[.str y]/\Q (.str y) H):=by intro pins s σ H xs us Q I r h;obtain⟨y,rfl,q⟩:=h;obtain⟨u,rfl,t,rfl⟩:=vals1 r;exact PySem.P.str_of_str ⟨.str _,H,I,⟨_,rfl⟩,q⟩
noncomputable def rO:D->Option Str
 | .int i=>if i.natAbs.log2<1920 then some (toString i) else none
 | .str y=>some y
 |_=>none
noncomputable def D0(f:En->Option Sl):En->Option Sl:=λenv=>(f env).bind λr=>(rO r.d).map λy=>.sh (.str y)
theorem b7P(hg:Gl X "str")(hm:X.mg "str" = none)(he:EV X e fa)(hs:autoParam (starEach [e] X.env=[(false,eval e X.env)]) ra2._auto_1):EV X (.Call (.Name "str" p) [e] [] pos) (D0 fa):=by
 obtain⟨t,pt,k⟩:=he;refine⟨_,TJ (j6.or b0z) hg hm (by decide +kernel) (lX pt sG hs) (by decide) (by decide) hs rfl,λO B σ H env s Q R e q=>?_⟩;obtain⟨r,e1,e2⟩:=bind_some e;obtain⟨y,e3,rfl⟩:=map_some e2;refine k O B σ H env _ _ R e1 λv H1 s1 r1=>?_;have hi:=r1.is λq=>R.oo
 cases hd:r.d with
 |int i => rw[hd] at hi e3;obtain⟨hz,rfl⟩:=jv (show (if i.natAbs.log2<1920 then some (toString i:Str) else none)=some y from e3);obtain rfl:=nh hi;exact .inl ⟨_,rfl,hz,q _ H1 s1 (Is.str _)⟩
 |str z => rw[hd] at hi e3;cases e3;obtain rfl:=lh hi;exact .inr ⟨_,rfl,q _ H1 s1 (Is.str _)⟩
 |_=>rw[hd] at e3;cases e3
noncomputable def oJ(sep:Str)(ls:List Str):Nat:=ls.foldl (λa x=>a+x.length+sep.length) 0
noncomputable def dX(sep:Str):List Str->Str
 |[y]=>y
 |ls=>Builtin.Str.glued sep ls
theorem WE{K:aG}{O:Addr->Prop}{H:Hp}:∀{xs:List V} {ds:List D} {ls:List Str},aU K O H xs ds->FU ds=some ls->xs=ls.map V.str
 |_,_,_,.nil,e=>by cases e;rfl
 |_,_,_,.cons (d:=d) h t,e=>by
  cases d with
  |str y => obtain⟨r,e1,rfl⟩:=map_some (show (FU _).map (y::·)=some _ from e);obtain rfl:=lh h;rw[WE t e1];rfl
  |_=>cases e
theorem Wx:∀{ls:List Str} {us:List Value},aR (ls.map V.str) us->∃l:List (Str×Tok),us=strValues l/\l.map (·.1)=ls
 |[],us,h=>by cases h;exact⟨[],rfl,rfl⟩
 |y::ls,_,.cons h t=>by obtain⟨k,rfl⟩:=h;obtain⟨l,rfl,rfl⟩:=Wx t;exact⟨(y,k)::l,rfl,rfl⟩
theorem b7f:LP X "str.join" (λx xs H Q=>∃z a ls,x=.str z/\xs=[.ref a]/\kA X.K H a (ls.map V.str)/\oJ z ls<=sizeLine/\(dX z ls).length<=sizeLine/\Q (.str (dX z ls)) H):=by
 intro pins s σ H x xs v us Q I r rs h;obtain⟨z,a,ls,rfl,rfl,hq,hl,hj,q⟩:=h;obtain⟨t,rfl⟩:=r;obtain⟨u',rfl,rfl⟩:=vals1 rs;obtain⟨aS,vv,pl,_⟩:=I.list hq;obtain⟨l,hu,rfl⟩:=Wx vv;have hu':aS=strValues l:=hu;subst hu';refine FH F.slot_str_join (CS _ _ _) F.entry_str_join (F.args_str_join_2 _ _) (meets_str_join_list z t a l ?_) ⟨pl.isList,?_⟩
 .unfold Wh;rw[List.foldl_toArray'];.exact decide_eq_false (Nat.not_lt.mpr hl)
  .simp
 .cases l with
  |nil=>exact⟨hj,.str _,H,I.tok _,⟨_,rfl⟩,q⟩
  |cons p l=>cases l with
   |nil=>exact⟨.str _,H,I,⟨_,rfl⟩,q⟩
   |cons p' l=>exact⟨hj,.str _,H,I.tok _,⟨_,rfl⟩,q⟩
noncomputable def qz(fo:En->Option Sl)(fe:En->Option (Bool×List D)):En->Option Sl:=λenv=>(iL (fo env)).bind λz=>(fe env).bind λx=>if x.1=true then (FU x.2).bind λls=>if oJ z ls<=16777216/\(dX z ls).length<=16777216 then some (.sh (.str (dX z ls))) else none else none
theorem FR{o e:Expr}{fo:En->Option Sl}{fe:En->Option (Bool×List D)}{apos bx:Pos}(ho:EV X o fo)(he:BV X e fe)(hR:autoParam (attributeBase o "join" X.env (eval o X.env)=eval o X.env) ra2._auto_1)
  (kH:autoParam (((backTo bx (starEach [e] X.env)).all (λx=>!x.1)&&(backToKw bx (keywordEach [] X.env)).all (λx=>x.1.isSome)&&decide ([e].length+([]:List Keyword).length+(if ([]:List Keyword).isEmpty then 0 else 1)<30))=true) ra2._auto_1)
  (hJ:autoParam ((apos.endLine==bx.line)=true) ra2._auto_1)(hs:autoParam (starEach [e] X.env=[(false,eval e X.env)]) ra2._auto_1):EV X (.Call (.Attribute o "join" apos) [e] [] bx) (qz fo fe):=by obtain⟨to,po,ko⟩:=ho;obtain⟨te,pe,ke⟩:=he;refine⟨_,KR (T:="str") MP F.slot_str_join F.type_str_join b7f po (lX pe sG hs) hR kH hJ hs rfl,λO B σ H env r Q R e q=>?_⟩;obtain⟨z,e1,e2⟩:=bind_some e;obtain⟨⟨kk,ds⟩,e3,e4⟩:=bind_some e2;obtain⟨hk,e5⟩:=uj e4;obtain⟨ls,e6,e7⟩:=bind_some e5;obtain⟨⟨hl,hj⟩,rfl⟩:=jv e7;refine ko O B σ H env _ _ R (uq e1) λv H1 s1 r1=>?_;obtain rfl:=lh r1;refine⟨rfl,?_⟩;refine ke O B σ H1 env _ _ _ (R.grow s1) e3 λpp xs H2 s2 hq hx=>?_;cases (show kk=true from hk);refine⟨z,pp,ls,rfl,rfl,by rw[<-WE hx e6];exact hq,by rw[kM];exact hl,by rw[kM];exact hj,q _ H2 (s1.trans s2) (Is.str _)⟩
end
end DL
namespace DL
open PySem PySem.Spec PyProof.Rows L2
section
variable {X:Cx}{N N':List Str}{sc eF:Scope}{k:Nat}{full:Bool}{elt iter tg:Expr}{ifs:List Expr}{pos:Pos}{fi:En->Option (List D)}{caps:List Nat}{nt:Nat}{g:GF}{fc:En->Option Bool}{fe:En->Option Sl}
end
section
variable {K:aG}{O:Addr->Prop}{B H H':Hp}{σ:L2.St}{env:En}{p C dx:Addr}
theorem Rel.rebase(R:Rel K O B σ H env)(no:∀(i:Nat) s,env[i]?=some s->¬s.own):Rel K O H σ H env:=
 ⟨az.refl _,R.mR.grow R.same,R.len,R.sh,λi es e=>(no i _ e trivial).elim,λi es e=>(no i _ e trivial).elim,λi ks es e=>(no i _ e trivial).elim,R.sep⟩
theorem Rel.UQ(R:Rel K O H σ H env)(no:∀(i:Nat) s,env[i]?=some s->¬s.own)(op:O p)(hp:H p=some (.ins C dx fs))(kp:∀q u,H q=some u->q≠p->H' q=some u)(Ax:H' p≠none):Rel K O H' σ H' env:=by
 refine⟨az.refl _,⟨λq hq=>?_,λc' P e'=>?_⟩,R.len,λi d e=>?_,λi es e=>(no i _ e trivial).elim,λi es e=>(no i _ e trivial).elim,λi ks es e=>(no i _ e trivial).elim,λi j es fs q e1 _ _ _ o _=>(no i _ e1 o).elim⟩
 .by_cases z:q=p;.rw [z];exact Ax
  .cases hz:H q with
   |none=>exact absurd hz (R.mR.1 q hq)
   |some u=>rw[kp _ _ hz z];exact λz=>nomatch z
 .have e3:=R.mR.2 c' P e';exact kp _ _ e3 λz=>by rw[z,hp] at e3;cases e3
 .obtain ⟨w,f1,f2⟩:=R.sh i d e;exact⟨w,f1,f2.map (λ_ _ z=>z) λq u e nq=>kp q u e λz=>nq (by rw[z];exact .inl op)⟩
end
noncomputable abbrev IF:=En->List Str->List D->Option (List Str×List D)
inductive By (X:Cx) (nH:List Stmt) (C:Addr) (F:IF):Prop
 | mk (t:TS) (p:nZ X nH t) (k:∀(O:Addr->Prop) (σ:L2.St) (H:Hp) (env:En) (p dx:Addr) (ns:List Str) (us:List V) (ds:List D) (iN:List Str) (ds':List D) (Dn:Ends),Rel X.K O H σ H env->(∀(i:Nat) s,env[i]?=some s->¬s.own)->O p->σ[0]?=some (some (V.ref p))->H p=some (.ins C dx (ns.zip us))->ns.length=us.length->aU X.K O H us ds->F env ns ds=some (iN,ds') ->
  (∀(aH:L2.St) (H':Hp) (us':List V),(∀q u,H q=some u->q≠p->H' q=some u)->H' p=some (.ins C dx (iN.zip us'))->iN.length=us'.length->aU X.K O H' us' ds'->Dn.nx aH H')->t Dn σ H)
noncomputable def K0(n:Nat)(DZ:List Str)(ψ:List D->Option (List D))(fa:En->Option (List D))(F:IF):IF:=λenv ns _=>if ns=[] then (fa env).bind λas=>if as.length=n then (ψ as).bind λgs=>F env DZ gs else none else none
section
variable {X:Cx}{C:Addr}{F:IF}{st:Stmt}{nH:List Stmt}
theorem Ss:By X [] C iD:=⟨_,Li,λO σ H env p dx ns us ds iN ds' Dn R no op hs hp hl hi e q=>by cases (show some (ns,ds)=some (iN,ds') from e);exact q σ H us (λ_ _ e _=>e) hp hl hi⟩
theorem b9s{e:Expr}{f x:Str}{fe:En->Option Sl}{p1 pos' pos:Pos}(hv:EV X e fe)(hr:By X nH C F)(c:rA X.K C)(n:ak X.K C f)
  (hN:X.N[0]?=some x)(mI:jJ X.env.scope x)(hd:autoParam ((x==("__debug__":Str))=false) ra2._auto_1)(dC:autoParam ((x==("__classdict__":Str))=false) ra2._auto_1)
  (hs:autoParam (swapsWith e (some (.Attribute (.Name x p1) f pos')) pos.line X.env=pure false) ra2._auto_1):By X (.Assign [.Attribute (.Name x p1) f pos'] e pos::nH) C (dB f fe F):=by
 obtain⟨t,pt,k⟩:=hv;obtain⟨u,pu,ku⟩:=hr;refine⟨_,Bn (Xp (wC hN mI hd dC) pt hs) pu,λO σ H env p dx ns us ds iN ds' Dn R no op hs hp hl hi e q=>?_⟩;obtain⟨r,e1,e2⟩:=bind_some e;split at e2;.cases e2
 rename_i Ay;rw[not_or] at Ay;refine k O H σ H env r _ R e1 λv H1 s1 r1=>?_;have iv:=(r1.is λq=>R.oo).less (O':=O) λq z=>.inl z;refine⟨.ref p,hs,p,C,dx,ns.zip us,rfl,s1 _ _ hp,c,n,by rw[Rp];omega,?_⟩;rw[SY Ay.1 hl];have kp:∀q u,H1 q=some u->q≠p->upd H1 p (.ins C dx ((ns++[f]).zip (us++[v]))) q=some u:=λq u e ne=>by rw[eX ne];exact e
 have mp:∀{w:V} {d:D},Is X.K O H1 w d->Is X.K O (upd H1 p (.ins C dx ((ns++[f]).zip (us++[v])))) w d:=λh=>h.map (λ_ _ z=>z) λq u e nq=>kp q u e λz=>nq (by rw[z];exact op);have P5:∀{w:List V} {d:List D},aU X.K O H1 w d->aU X.K O (upd H1 p (.ins C dx ((ns++[f]).zip (us++[v])))) w d:=λh=>h.map (λ_ _ z=>z) λq u e nq=>kp q u e λz=>nq (by rw[z];exact op);have R1:Rel X.K O H1 σ H1 env:=(R.grow s1).rebase no;exact ku O σ _ env p dx (ns++[f]) (us++[v]) (ds++[r.d]) iN ds' Dn (R1.UQ no op (s1 _ _ hp) kp (by rw[ni];exact λz=>nomatch z)) no op hs ni (by rw[mU,mU,hl];rfl) ((P5 (hi.grow s1)).append (.cons (mp iv) .nil)) e2 λaH H' us' kq Ax rZ yB=>q aH H' us' (λq u e ne=>kq q u (kp q u (s1 _ _ e) ne) ne) Ax rZ yB
structure qZ(K:aG)(C0 m:Addr):Prop where
 g:Rf K (.ref C0) "__getattribute__" = some (some (.builtin "type.__getattribute__"))
 r:VN K C0 (.type "type")=true
 f:VM K (.ref C0) (.type "type") "__init__" = some (.val (.ref m))
 k:ud K (.ref m)=true
theorem b64{c:Str}{C0 f:Addr}{fd:FuncData}{ps:List Str}{j:Nat}{sp:Sp}{e:Expr}{es:List Expr}{t:TA}{p apos pos:Pos}{pl:Sem Bool}(b:qZ X.K C0 f)(Fn:bQ X.prog X.w X.K X.mg X.base iq j f fd ps sp)(hr:cD j X.A)(hg:Gl X c)(hm:X.mg c=some (.ref C0))(hb:Binds X.K fd ps [])(ha:PA X (e::es) t)
  (d8:autoParam ((c==("__debug__":Str))=false) ra1._auto_1)(jB:autoParam (starEach (e::es) X.env=(false,eval e X.env)::starEach es X.env) ra2._auto_1)(c6:autoParam ((backTo pos (starEach es X.env)).any (·.1)=false) ra2._auto_1)
  (ht:autoParam (eval (.Call (.Attribute (.Name c p) "__init__" apos) (e::es) [] pos) X.env=(eval (.Name c p) X.env >>= λov=>standAt apos.atName >>= λ_=>holding [ov] (getMethod ov "__init__" pl) >>= λz=>callWith pos z.1 z.2 (backTo pos (starEach (e::es) X.env)) (backToKw pos (keywordEach [] X.env)))) ra2._auto_1):
  PE X (.Call (.Attribute (.Name c p) "__init__" apos) (e::es) [] pos) (RZ sp [] E0 t):=by intro pins s σ H Q I h;refine GY (pl:=pl) (BY I hg hm ?_ d8) ht;refine PySem.W.method_cls I.km b.g (PySem.W.cls_value I.km b.r b.f rfl ?_);have I1:Inv X pins σ H { s with toks:=s.toks+1 }:=I.tok _;refine DW (first:=[]) (h₀:=X.base) I.ok.mod.yk b.k (cU (ha pos pins _ σ H _ I1 h) λus s1 ⟨vs,H1,I1,r,q⟩=>⟨I1.km,?_⟩) jB c6;exact Nm Fn hr hb .nil Bd I1 r q
theorem b7o{c x:Str}{C0 f:Addr}{fd:FuncData}{ps:List Str}{j n:Nat}{DZ:List Str}{ψ:List D->Option (List D)}{fs:En->Option (List D)}{es:List Expr}{p p1 apos bx pos:Pos}{pl:Sem Bool}(b:qZ X.K C0 f)(Fn:bQ X.prog X.w X.K X.mg X.base iq j f fd ps (uy X.K C n DZ ψ))(hrm:cD j X.A)(hg:Gl X c)(hm:X.mg c=some (.ref C0))(hb:Binds X.K fd ps [])
  (ha:AV X es fs)(hr:By X nH C F)(hN:X.N[0]?=some x)(mI:jJ X.env.scope x)(hd:autoParam ((x==("__debug__":Str))=false) ra2._auto_1)(dC:autoParam ((x==("__classdict__":Str))=false) ra2._auto_1)
  (d8:autoParam ((c==("__debug__":Str))=false) ra1._auto_1)(jB:autoParam (starEach (.Name x p1::es) X.env=(false,eval (.Name x p1) X.env)::starEach es X.env) ra2._auto_1)(c6:autoParam ((backTo bx (starEach es X.env)).any (·.1)=false) ra2._auto_1)
  (ht:autoParam (eval (.Call (.Attribute (.Name c p) "__init__" apos) (.Name x p1::es) [] bx) X.env=(eval (.Name c p) X.env >>= λov=>standAt apos.atName >>= λ_=>holding [ov] (getMethod ov "__init__" pl) >>= λz=>callWith bx z.1 z.2 (backTo bx (starEach (.Name x p1::es) X.env)) (backToKw bx (keywordEach [] X.env)))) ra2._auto_1)
  (hs:autoParam (swapsWith (.Call (.Attribute (.Name c p) "__init__" apos) (.Name x p1::es) [] bx) none pos.line X.env=pure false) ra2._auto_1):
  By X (.Expr (.Call (.Attribute (.Name c p) "__init__" apos) (.Name x p1::es) [] bx) pos::nH) C (K0 n DZ ψ fs F):=by obtain⟨t,pt,ka⟩:=ha;obtain⟨u,pu,ku⟩:=hr;refine⟨_,Bn (NF (b64 (pl:=pl) b Fn hrm hg hm hb (lX (wC hN mI hd dC) pt jB) d8 jB c6 ht) hs) pu,λO σ H env p dx ns us ds iN ds' Dn R no op hs hp hl hi e q=>?_⟩;obtain⟨hn0,e1⟩:=uj e;subst hn0;obtain rfl:us=[]:=VV.mp hl.symm;obtain⟨as,e2,e3⟩:=bind_some e1;obtain⟨hln,e4⟩:=uj e3;obtain⟨gs,e5,e6⟩:=bind_some e4;refine⟨.ref p,hs,?_⟩;refine ka O H σ H env as _ R e2 λvs H1 s1 r1=>?_;have R1:Rel X.K O H1 σ H1 env:=(R.grow s1).rebase no;have i1:aU X.K O H1 vs as:=r1.less λq z=>.inl z;refine⟨O,p,dx,vs,as,gs,by rw[qJ],by rw[r1.length];exact hln,s1 _ _ hp,R1.mR,op,i1,e5,λn8 H2 Vq Vi Vp hi2=>?_⟩;exact ku O σ H2 env p dx DZ n8 gs iN ds' Dn (R1.UQ no op (s1 _ _ hp) Vi (by rw[Vp];exact λz=>nomatch z)) no op hs Vp Vq hi2 e6 λma H3 zS kp3=>q ma H3 zS λq u e ne=>kp3 q u (Vi q u (s1 _ _ e) ne) ne
end
section
variable {P:Program}{w:World}{K:aG}{mg:Str->Option Value}{base:Heap}
theorem b5z{qual:Str}{st:Stmt}{f C:Addr}{fd:FuncData}{N ps:List Str}{k n:Nat}{ns:List Str}{F:IF}(Fn:ur K "__init__" qual st f fd)(S:bP N ps (dR st))(vt:ps.length=n+1)(hN:1<=N.length)
  (bu:∀X:Cx,X.prog=P->X.w=w->X.K=K->X.mg=mg->X.base=base->Fx X N (dR st) k->By X (iG st) C F):bQ P w K mg base iq (k+1) f fd ps (uy K C n ns (eZ F N.length ns)):=by
 refine Fn.ok S (λvs H Q E h=>?_) (λfu A outer s H vs Q E hr h=>?_);.obtain ⟨O,p,dx,ws,ds,fs,rfl,hl,_⟩:=h;rw[jj,hl,vt]
 obtain⟨O,p,dx,ws,ds,fs,rfl,hl,hp,dm,op,hi,e,q⟩:=h;obtain⟨t,pt,kk⟩:=bu (hU iq P w K mg base N qual (dR st) f fu A outer s H E).aI rfl rfl rfl rfl rfl ⟨rfl,rfl,rfl,λ_ _=>rfl,BJ,hr,S.nd,λ_=>⟨rfl,rfl,rfl⟩⟩;refine⟨t,pt,?_⟩;have R0:=Hv (N:=N.tail) dm hi;have R1:=Yn (some (V.ref p)) R0;have es:some (V.ref p)::start N.tail ws=start N (V.ref p::ws):=by unfold L2.start;rw[jM,GK,MO,jj,Nat.sub_sub,Nat.add_comm 1]
 rw[es,MO] at R1;unfold eZ at e
 cases hF:F (.no::jQ (N.length-1) ds) [] [] with
 |none=>rw[hF] at e;cases e
 |some y =>
  obtain⟨iN,yE⟩:=y;rw[hF] at e;obtain⟨rfl,rfl⟩:=jv (show (if iN=ns then some yE else none)=some fs from e);refine kk O _ H _ p dx [] [] [] iN yE _ R1 (λi s h1 h2=>?_) op rfl hp rfl .nil hF λaH H' us' kp Ax rZ yB=>q us' H' rZ kp Ax yB
  cases i with
  |zero=>cases h1;exact h2
  |succ i =>
   have h1:(jQ (N.length-1) ds)[i]?=some s:=by simpa using h1
   unfold jQ at h1;rw[KA] at h1;split at h1;.rw [zp] at h1;obtain⟨d,_,e⟩:=map_some h1;cases e;exact h2
   .rw [FK] at h1;split at h1;.cases h1;exact h2
    .cases h1
theorem Sv{c qual:Str}{st:Stmt}{f C:Addr}{fd:FuncData}{N ps:List Str}{k n:Nat}{ns:List Str}{F:IF}(h:df K c C)(hm:mg c=some (.ref C))(M:Mk K C f)(D':cy K f "__init__" qual st ps fd)
  (bu:∀X:Cx,Sx X P w K mg base->Fx X N (dR st) k->By X (iG st) C F)(vt:autoParam (ps.length=n+1) ra2._auto_1)(hN:autoParam (1<=N.length) ra1._auto_1)(S:autoParam (bP N ps (dR st)) ra6._auto_1):iY P w K mg base c n ns (k+1) (eZ F N.length ns):=
 ⟨C,f,fd,ps,M,b5z D'.fn S vt hN λX e1 e2 e3 e4 e5=>by subst e1 e2 e3 e4 e5;exact bu X (.mk X),hm,h.a,D'.bd⟩
def Et(P:Program)(w:World)(K:aG)(mg:Str->Option Value)(base:Heap)(C0 C f:Addr)(b:Str)(n:Nat)(ns:List Str)(j:Nat)(ψ:List D->Option (List D)):Prop:=∃fd ps,qZ K C0 f/\mg b=some (.ref C0)/\bQ P w K mg base iq j f fd ps (uy K C n ns ψ)/\Binds K fd ps []
theorem RV{b qual:Str}{st:Stmt}{f C0 C:Addr}{fd:FuncData}{N ps:List Str}{k n:Nat}{ns:List Str}{F:IF}(hbf:qZ K C0 f)(hm:mg b=some (.ref C0))(D':cy K f "__init__" qual st ps fd)
  (bu:∀X:Cx,Sx X P w K mg base->Fx X N (dR st) k->Eu X (iG st) C F)(vt:autoParam (ps.length=n+1) ra2._auto_1)(hN:autoParam (1<=N.length) ra1._auto_1)(S:autoParam (bP N ps (dR st)) ra6._auto_1):Et P w K mg base C0 C f b n ns (k+1) (eZ F N.length ns):=
 ⟨fd,ps,hbf,hm,XR D'.fn S vt hN λX e1 e2 e3 e4 e5=>by subst e1 e2 e3 e4 e5;exact bu X (.mk X),D'.bd⟩
end
section
variable {X:Cx}{N:List Str}{sc:Scope}{k j n:Nat}{full:Bool}{C:Addr}{F:IF}{nH:List Stmt}{x:Str}
theorem Fx.Mb{e:Expr}{f:Str}{fe:En->Option Sl}{p1 pos' pos:Pos}(h:Fx X N sc k full)(c:rA X.K C)(n:ak X.K C f)(hv:EV X e fe)(hr:By X nH C F)(hN:autoParam (N[0]?=some x) ra2._auto_1)(mI:autoParam (jJ sc x) ra4._auto_1)(hd:autoParam ((x==("__debug__":Str))=false) ra2._auto_1)(dC:autoParam ((x==("__classdict__":Str))=false) ra2._auto_1)
  (hs:autoParam (swapsWith e (some (.Attribute (.Name x p1) f pos')) pos.line X.env=pure false) ra2._auto_1):By X (.Assign [.Attribute (.Name x p1) f pos'] e pos::nH) C (dB f fe F):=b9s hv hr c n (h.ix hN) (h.uv mI) hd dC hs
theorem Fx.Qd{b:Str}{C0 f:Addr}{DZ:List Str}{ψ:List D->Option (List D)}{fs:En->Option (List D)}{es:List Expr}{p p1 apos bx pos:Pos}{pl:Sem Bool}(h:Fx X N sc k full)(T:Et X.prog X.w X.K X.mg X.base C0 C f b n DZ j ψ)(ha:AV X es fs)(hr:By X nH C F)(hj:autoParam (j<=k) ra1._auto_1)(hg:autoParam (sc.names.lookup b=some .globalImplicit) ra2._auto_1)
  (hN:autoParam (N[0]?=some x) ra2._auto_1)(mI:autoParam (jJ sc x) ra4._auto_1)(hd:autoParam ((x==("__debug__":Str))=false) ra2._auto_1)(dC:autoParam ((x==("__classdict__":Str))=false) ra2._auto_1)
  (d8:autoParam ((b==("__debug__":Str))=false) ra1._auto_1)(jB:autoParam (starEach (.Name x p1::es) X.env=(false,eval (.Name x p1) X.env)::starEach es X.env) ra2._auto_1)(c6:autoParam ((backTo bx (starEach es X.env)).any (·.1)=false) ra2._auto_1)
  (ht:autoParam (eval (.Call (.Attribute (.Name b p) "__init__" apos) (.Name x p1::es) [] bx) X.env=(eval (.Name b p) X.env >>= λov=>standAt apos.atName >>= λ_=>holding [ov] (getMethod ov "__init__" pl) >>= λz=>callWith bx z.1 z.2 (backTo bx (starEach (.Name x p1::es) X.env)) (backToKw bx (keywordEach [] X.env)))) ra2._auto_1)
  (hs:autoParam (swapsWith (.Call (.Attribute (.Name b p) "__init__" apos) (.Name x p1::es) [] bx) none pos.line X.env=pure false) ra2._auto_1):
  By X (.Expr (.Call (.Attribute (.Name b p) "__init__" apos) (.Name x p1::es) [] bx) pos::nH) C (K0 n DZ ψ fs F):=by obtain⟨fd,ps,B,hm,Fn,hb⟩:=T;exact b7o (pl:=pl) B Fn (h.room.mono hj) (h.g hg) hm hb ha hr (h.ix hN) (h.uv mI) hd dC d8 jB c6 ht hs
end
end DL
namespace DL
open PySem PySem.Spec PyProof.Rows L2
section
variable {X:Cx}
end
end DL
namespace DPr
open PySem PySem.Spec PyProof.Rows
section
variable {prog:Program}{w:World}{A:Around}{E:Value->Shared->Prop}{s:Shared}{K:Type}[DecidableEq K]{knd:KeyKind prog w K}{R:Result->Shared->Prop}
end
end DPr
namespace DL
open PySem PySem.Spec PyProof.Rows L2
section
variable {X:Cx}{pins:List (Addr×Obj)}{σ:L2.St}{H:Hp}{s:Shared}
end
end DL
namespace DL
open PySem PySem.Spec PyProof.Rows L2
section
variable {P:Program}{w:World}{K:aG}{tg:Expr}{it l:Addr}{o:Obj}{ks:List Str}{vs:List V}{ep:Nat}
end
section
variable {K:aG}{O:Addr->Prop}{H:Hp}{l:Addr}{o:Obj}{ks:List Str}{vs:List V}{ds:List D}
end
section
variable {X:Cx}{tg e:Expr}{te:TE}{elts:List Expr}{kk:Nat}{tp p2 bx:Pos}{fa:En->Option Sl}
end
end DL
namespace DL
open PySem PySem.Spec PyProof.Rows L2
section
variable {X:Cx}{N:List Str}{sc:Scope}{k:Nat}{full:Bool}{a:Expr}{fa:En->Option Sl}{pos p:Pos}{i:Nat}{x:Str}
end
section
variable {env:En}
theorem XB{α:Type}{c:Prop}[Decidable c]{x:Option α}{Q:α->Prop}:Wo (if c then x else none) Q↔c/\Wo x Q:=by
 by_cases h:c;.rw [if_pos h];exact⟨λz=>⟨h,z⟩,λz=>z.2⟩
 .rw [if_neg h];exact⟨λz=>(Wo_none.mp z).elim,λz=>(h z.1).elim⟩
theorem b2k:Wo (D0 f env) Q↔Wo (f env) λr=>Wo (rO r.d) λy=>Q (.sh (.str y)):=by unfold D0;rw[a09];exact Bk λp=>a8i
theorem b90:Wo (qz fo fe env) Q↔Wo (iL (fo env)) λz=>Wo (fe env) λx=>x.1=true/\Wo (FU x.2) λls=>(oJ z ls<=16777216/\(dX z ls).length<=16777216)/\Q (.sh (.str (dX z ls))):=by unfold qz;rw[a09];refine Bk λz=>?_;rw[a09];refine Bk λx=>?_;rw[XB,a09];refine and_congr_right λ_=>Bk λls=>?_;rw[XB,a0T]
end
end DL
namespace DL
open PySem PySem.Spec PyProof.Rows L2
section
variable {X:Cx}
theorem b9b(h:PE X a t):PE X (.FormattedValue a (-1) none pos) (λσ H Q=>t σ H λx H1=>∃i,x=.int i/\i.natAbs.log2<1920/\Q (.str (toString i)) H1):=by intro pins s σ H Q I hw;refine FormattedValue_plain (cU (h pins s σ H _ I hw) λv s1 ⟨x,H1,I1,r1,q1⟩=>?_);obtain⟨i,rfl,hz,q⟩:=q1;obtain⟨u,rfl⟩:=r1;exact wpAny_formatField_int hz ⟨.str _,H1,I1.tok _,⟨_,rfl⟩,q⟩
noncomputable def jF(fa:En->Option Sl):En->Option Sl:=λenv=>(fa env).bind λr=>match r with
 | .sh (.int i)=>if i.natAbs.log2<1920 then some (.sh (.str (toString i))) else none
 |_=>none
theorem Nn(h:EV X a fa):EV X (.FormattedValue a (-1) none pos) (jF fa):=by
 obtain⟨t,pt,k⟩:=h;refine⟨_,b9b pt,λO B σ H env s Q R e q=>?_⟩;obtain⟨r,e1,e2⟩:=bind_some e;split at e2;.obtain ⟨hz,rfl⟩:=jv e2;refine k O B σ H env _ _ R e1 λv H1 s1 r1=>?_;obtain rfl:=nh r1;exact⟨_,rfl,hz,q _ H1 s1 (Is.str _)⟩
 .cases e2
end
end DL
namespace DL
open PySem PySem.Spec PyProof.Rows L2 PySem.SeqAt
section
variable {X:Cx}{pins:List (Addr×Obj)}{s:Shared}{σ:L2.St}{H:Hp}
end
end DL
namespace DL
open PySem PySem.Spec PyProof.Rows L2
section
variable {K:aG}{O O' O1 O2 L:Addr->Prop}{H:Hp}{d0:List D}
end
section
variable {X:Cx}{N N':List Str}{sc eF:Scope}{k:Nat}{full:Bool}{elt iter tg:Expr}{ifs:List Expr}{pos:Pos}{fi:En->Option (List D)}{caps:List Nat}{nt:Nat}{g:GF}{fc:En->Option Bool}{fe:En->Option Sl}
end
section
variable {X:Cx}{C:Addr}{F:IF}{st:Stmt}{nH:List Stmt}
end
section
variable {P:Program}{w:World}{K:aG}{mg:Str->Option Value}{base:Heap}
end
section
variable {X:Cx}{N:List Str}{sc:Scope}{k j:Nat}{full:Bool}{e:Expr}{c f:Str}{pos p:Pos}
end
end DL
namespace DL
open PySem PySem.Spec PyProof.Rows L2
noncomputable abbrev RI:=En->List Str->List D->Option Str
section
variable {X:Cx}{W:L2.St->Hp->Value->Prop}{C:Addr}{R:RI}{st:Stmt}{nH:List Stmt}{e:Expr}{es:List Expr}{p pos bx:Pos}
end
section
variable {P:Program}{w:World}{K:aG}{mg:Str->Option Value}{base:Heap}
end
section
variable {X:Cx}{W:L2.St->Hp->Value->Prop}{N:List Str}{sc:Scope}{k j n:Nat}{full:Bool}{C:Addr}{R:RI}{nH:List Stmt}{x:Str}
end
end DL
namespace DL
open PySem PySem.Spec PyProof.Rows L2
section
variable {P:Program}{w:World}{K:aG}{mg:Str->Option Value}{base:Heap}{N:List Str}{qual:Str}{scope:Scope}{f:Addr}{cd:Value}{A:Around}{outer:List Env}{s:Shared}{H:Hp}{E:XK}
end
section
variable {prog:Program}{w:World}{A:Around}{R:Result->Shared->Prop}{s:Shared}
end
end DL
namespace DL
open PySem PySem.Spec PyProof.Rows L2
section
variable {X:Cx}{N N':List Str}{sc eF:Scope}{k:Nat}{full:Bool}{elt iter tg:Expr}{ifs:List Expr}{pos:Pos}{fi:En->Option (List D)}{caps:List Nat}{nt:Nat}{g:GF}{fc:En->Option Bool}{fe:En->Option Sl}{re:En->Option Str}{W:L2.St->Hp->Value->Prop}{nm:Str}
end
end DL
namespace DL
open PySem PySem.Spec PyProof.Rows L2
section
variable {X:Cx}{N N':List Str}{sc eF:Scope}{k:Nat}{full:Bool}{elt iter tg:Expr}{ifs:List Expr}{pos:Pos}{fi:En->Option (List D)}{caps:List Nat}{nt:Nat}{g:GF}{fc:En->Option Bool}{fe:En->Option Sl}{re:En->Option Str}{W:L2.St->Hp->Value->Prop}{nm:Str}
end
end DL
namespace DL
open PySem PySem.Spec PyProof.Rows L2
noncomputable abbrev UG:=List (Str×(List D->Option Str))
section
variable {P:Program}{w:World}{K:aG}{mg:Str->Option Value}{base:Heap}{m c:Str}{n j:Nat}{tab:UG}
end
section
variable {X:Cx}{W:L2.St->Hp->Value->Prop}{N:List Str}{sc:Scope}{k j n:Nat}{full:Bool}{e o:Expr}{es:List Expr}{m:Str}{pos apos:Pos}{fo:En->Option Sl}{fs:En->Option (List D)}{re:En->Option Str}
inductive Bx (X:Cx) (W:L2.St->Hp->Value->Prop) (m:Str) (j:Nat) (t:TA) (σ:L2.St) (Q:VK) (x:V) (H1:Hp):Prop
 | mk (a C dx:Addr) (fs:List (Str×V)) (f:Addr) (fd:FuncData) (ps:List Str) (sp:Sp) (ex:x=.ref a) (ea:H1 a=some (.ins C dx fs)) (c:rA X.K C) (hm:aZ X.K C m f) (l:fs.lookup m=none) (hb:Binds X.K fd ps []) (F:bQ X.prog X.w X.K X.mg X.base (nE X.prog X.w) j f fd ps sp)
  (q:t σ H1 λvs H2=>sp ((x::vs)++[]) H2 Q λc _ H'=>W σ H' c)
theorem b3v{pl:Sem Bool}{ta:TE}{t:TA}(hx:Xk X W)(he:PE X o ta)(hr:cD j X.A)(ha:PA X (e::es) t)
  (jB:autoParam (starEach (e::es) X.env=(false,eval e X.env)::starEach es X.env) ra2._auto_1)(c6:autoParam ((backTo pos (starEach es X.env)).any (·.1)=false) ra2._auto_1)
  (ht:autoParam (eval (.Call (.Attribute o m apos) (e::es) [] pos) X.env=(eval o X.env >>= λov=>standAt apos.atName >>= λ_=>holding [ov] (getMethod ov m pl) >>= λz=>callWith pos z.1 z.2 (backTo pos (starEach (e::es) X.env)) (backToKw pos (keywordEach [] X.env)))) ra2._auto_1):
  PE X (.Call (.Attribute o m apos) (e::es) [] pos) (λσ H Q=>ta σ H (Bx X W m j t σ Q)):=by intro pins s σ H Q I h;refine GY (pl:=pl) (cU (he pins s σ H _ I h) λu s1 ⟨x,H1,I1,rx,a,C,dx,fs,f,fd,ps,sp,ex,ea,c,hm,l,hb,F,q⟩=>?_) ht;subst ex;obtain rfl:u=mV a:=rx;refine NV I1 ea c hm l (DW (first:=[.ref a]) (h₀:=X.base) I.ok.mod.yk hm.kp (cU (ha pos pins s1 σ H1 _ I1 q) λus s2 ⟨vs,H2,I2,r,q2⟩=>⟨I2.km,?_⟩) jB c6);exact KU (us:=.ref a::us) (vs:=.ref a::vs) F hr hb hx I2 (.cons rfl r) q2
end
end DL
namespace DL
open PySem PySem.Spec PyProof.Rows L2
section
variable {X:Cx}{k v:Expr}{fk fv:En->Option Sl}{pos:Pos}
end
end DL
namespace DL
open PySem PySem.Spec PyProof.Rows L2 PySem.SeqAt
section
variable {X:Cx}{pins:List (Addr×Obj)}{s:Shared}{σ:L2.St}{H:Hp}
end
end DL
namespace DL
open PySem PySem.Spec PyProof.Rows L2
section
variable {X:Cx}{j:Nat}{st:Stmt}{rest body:List Stmt}{F G:SF}{pos:Pos}
noncomputable def Kp(j:Nat)(p:Addr)(D:Ends):Ends:={ D with nx:=λσ H=>σ[j]?=some (some (V.ref p))->D.nx σ H,bk:=λσ H=>σ[j]?=some (some (V.ref p))->D.bk σ H,ct:=λσ H=>σ[j]?=some (some (V.ref p))->D.ct σ H }
def Z3(X:Cx)(j:Nat)(st:Stmt)(F:SF):Prop:=
 ∃t:TS,PS X st t/\∀(O:Addr->Prop) (B:Hp) (σ:L2.St) (H:Hp) (env:En) (fl:Fl) (af:En) (D:Ends) (p:Addr),Rel X.K O B σ H env->σ[j]?=some (some (V.ref p))->F env=some (fl,af)->gK X.K O B σ H env (Kp j p D) fl af->t D σ H
theorem b2n{i:Nat}{x:Str}{e:Expr}{fa:En->Option Sl}{p1 p2 bx:Pos}(ha:EV X e fa)(hN:autoParam (X.N[i]?=some x) ra2._auto_1)(hv:autoParam (jJ X.env.scope x) ra4._auto_1)(hd:autoParam ((x==("__debug__":Str))=false) ra1._auto_1)
  (dC:autoParam ((x==("__classdict__":Str))=false) ra1._auto_1)(hs:autoParam (starEach [e] X.env=[(false,eval e X.env)]) ra2._auto_1)
  (hR:autoParam (attributeBase (.Name x p1) "append" X.env (eval (.Name x p1) X.env)=eval (.Name x p1) X.env) ra2._auto_1)
  (kH:autoParam (((backTo bx (starEach [e] X.env)).all (λx=>!x.1)&&(backToKw bx (keywordEach [] X.env)).all (λx=>x.1.isSome)
   && decide ([e].length+([]:List Keyword).length+(if ([]:List Keyword).isEmpty then 0 else 1)<30))=true) ra2._auto_1)
  (hJ:autoParam ((p2.endLine==bx.line)=true) ra2._auto_1)
  (Qm:autoParam (swapsWith (.Call (.Attribute (.Name x p1) "append" p2) [e] [] bx) none pos.line X.env=pure false) ra2._auto_1):
  Z3 X j (.Expr (.Call (.Attribute (.Name x p1) "append" p2) [e] [] bx) pos) (jy i fa):=by
 obtain⟨t,p,k⟩:=ha;refine⟨_,NF (KR PySem.F.plainAttrs_list V' PySem.F.type_list_append b3I (wC hN hv hd dC) (lX p sG hs) hR kH hJ hs rfl) Qm,λO B σ H env fl af D a R ha e q=>?_⟩;unfold jy at e
 cases h:env[i]? with
 |none=>rw[h] at e;cases e
 |some s =>
  rw[h] at e
  cases s with
  |no=>cases e
  |sh d=>cases e
  |dw dz=>cases e
  |tw _ _=>cases e
  |ow ds => obtain⟨r,e1,e2⟩:=bind_some e;obtain⟨hl,e3⟩:=jv e2;cases e3;obtain⟨l,xs,f1,f2,f3,f4⟩:=R.ow i ds h;refine⟨_,f1,.inl ⟨rfl,_,kA.of f3⟩,?_⟩;refine k O B σ H env r _ R e1 λv H1 s1 r1=>⟨l,xs,v,rfl,rfl,s1 _ _ f3,by rw[f4.length,kM];exact hl,?_⟩;obtain⟨R',g'⟩:=(R.grow s1).wr h f1 ((f4.grow s1).append (.cons (r1.is λq=>R.oo) .nil));exact q _ _ R' (g'.from s1) ha
end
section
variable {P:Program}{w:World}{K:aG}{mg:Str->Option Value}{base:Heap}
end
section
variable {X:Cx}{j:Nat}{pos:Pos}
variable {k n:Nat}{f:Addr}{fd:FuncData}{ps:List Str}{φ:List D->List D->Option (List D)}{x:Str}{p pos':Pos}{e:Expr}{es:List Expr}{fs:En->Option (List D)}
end
section
variable {X:Cx}{N:List Str}{sc:Scope}{k j m:Nat}{full:Bool}{x:Str}{pos p p1 p2 pos' bx:Pos}{e:Expr}{fa:En->Option Sl}
end
theorem b48{X:Cx}{o:Expr}{ta:TE}{m:Str}{es:List Expr}{apos pos:Pos}{pl:Sem Bool}(he:PE X o ta)
  (ht:autoParam (eval (.Call (.Attribute o m apos) es [] pos) X.env=(do
   let ov <-eval o X.env
   standAt apos.atName
   let (f,first) <-holding [ov] (getMethod ov m pl)
   callWith pos f first (backTo pos (starEach es X.env)) (backToKw pos (keywordEach [] X.env)))) ra2._auto_1):
  PE X (.Call (.Attribute o m apos) es [] pos) (λσ H _=>ta σ H λ_ _=>False):=by intro pins s σ H Q I h;exact GY (pl:=pl) (cU (he pins s σ H _ I h) λu s1 ⟨x,H1,I1,rx,f⟩=>f.elim) ht
theorem b7N{X:Cx}{W:L2.St->Hp->Value->Prop}{o:Expr}{re:En->Option Str}{m:Str}{es:List Expr}{apos pos:Pos}{pl:Sem Bool}(h:EX X W o re)
  (ht:autoParam (eval (.Call (.Attribute o m apos) es [] pos) X.env=(do
   let ov <-eval o X.env
   standAt apos.atName
   let (f,first) <-holding [ov] (getMethod ov m pl)
   callWith pos f first (backTo pos (starEach es X.env)) (backToKw pos (keywordEach [] X.env)))) ra2._auto_1):EX X W (.Call (.Attribute o m apos) es [] pos) re:=by obtain⟨t,p,k⟩:=h;exact⟨_,b48 p ht,λO B σ H env nm Q R e q=>k O B σ H env nm _ R e q⟩
end DL
namespace DL
open PySem PySem.Spec PyProof.Rows L2
section
variable {X:Cx}{N:List Str}{sc:Scope}{k:Nat}{Cn:Str}{hc:Value}{body sT:List Stmt}{b0:Stmt}{Fb Fh:SF}{rb:RF}{hit:Str->Bool}{np EY pos:Pos}
end
end DL
namespace DL
open PySem PySem.Spec PyProof.Rows L2
abbrev Kq(p:Addr)(H H':Hp):Prop:=∀q u,H q=some u->q≠p->H' q=some u
noncomputable def iI(p:Addr)(B H':Hp):Hp:=λq=>if q=p then H' p else B q
structure Gh(K:aG)(c:Str)(ns:List Str)(j:Nat)(p C dx:Addr)(O:Addr->Prop)(B:Hp)(σ:L2.St)(H:Hp)(env:En)(us:List V)(ds:List D):Prop where
 rel:Rel K O B σ H env
 op:O p
 a:σ[j]?=some (some (V.ref p))
 ob:H p=some (.ins C dx (ns.zip us))
 ln:ns.length=us.length
 is:aU K (OO O σ env) H us ds
 cn:iE K mainGlobals c=some (some (.ref C))
 no:env[j]?=some .no
section
variable {K:aG}{c:Str}{ns:List Str}{j:Nat}{p C dx:Addr}{O:Addr->Prop}{B H H':Hp}{σ:L2.St}{env:En}{us us':List V}{ds ds':List D}{fs:List (Str×V)}
theorem Kq.trans{H2:Hp}(a:Kq p H H')(b:Kq p H' H2):Kq p H H2:=λq u e n=>b q u (a q u e n) n
theorem qQ{H2:Hp}:iI p (iI p B H') H2=iI p B H2:=by
 funext q;unfold iI;by_cases h:q=p;.rw [if_pos h,if_pos h]
 .rw [if_neg h,if_neg h,if_neg h]
theorem Rel.bp(R:Rel K O B σ H env)(op:O p):B p=H p:=by
 cases h:B p with
 |none=>exact absurd h (R.mR.1 p op)
 |some u=>exact(R.same p u h).symm
theorem Gh.ph(G:Gh K c ns j p C dx O B σ H env us ds):iI p B H=B:=by
 funext q;unfold iI;by_cases h:q=p;.rw [if_pos h,h,G.rel.bp G.op]
 .rw [if_neg h]
theorem Gh.grow(s:az H H')(G:Gh K c ns j p C dx O B σ H env us ds):Gh K c ns j p C dx O B σ H' env us ds:=⟨G.rel.grow s,G.op,G.a,s _ _ G.ob,G.ln,G.is.grow s,G.cn,G.no⟩
theorem Rel.gst(R:Rel K O B σ H env)(op:O p)(hp:H p=some (.ins C dx fs))(k:Kq p H H')(Ax:H' p≠none):Rel K O (iI p B H') σ H' env:=by
 have nB:∀{q},B q=none->q≠p:=λ{q} e z=>by rw[z,R.bp op,hp] at e;cases e
 have hO:∀{v:V} {d:D},Is K (OO O σ env) H v d->Is K (OO O σ env) H' v d:=λh=>h.map (λ_ _ z=>z) λq u e n=>k q u e λz=>n (.inl (by rw[z];exact op));have Vw:∀{v:List V} {d:List D},aU K (OO O σ env) H v d->aU K (OO O σ env) H' v d:=λh=>h.map (λ_ _ z=>z) λq u e n=>k q u e λz=>n (.inl (by rw[z];exact op));refine⟨λq u e=>?_,⟨λq hq=>?_,λc P e=>?_⟩,R.len,λi d e=>?_,λi es e=>?_,λi dz e=>?_,λi ks es e=>?_,R.sep⟩
 .unfold iI at e;by_cases h:q=p;.rw [if_pos h] at e;rw[h];exact e
  .rw [if_neg h] at e;exact k q u (R.same q u e) h
 .unfold iI;by_cases h:q=p;.rw [if_pos h];exact Ax
  .rw [if_neg h];exact R.mR.1 q hq
 .have e1:=R.mR.2 c P e;have:P≠p:=λz=>by rw[z,R.bp op,hp] at e1;cases e1
  unfold iI;rw[if_neg this];exact e1
 .obtain ⟨v,e1,h⟩:=R.sh i d e;exact⟨v,e1,hO h⟩
 .obtain ⟨q,xs,e1,e2,e3,h⟩:=R.ow i es e;exact⟨q,xs,e1,by unfold iI;rw[if_neg (nB e2)];exact e2,k _ _ e3 (nB e2),Vw h⟩
 .obtain ⟨q,e1,e2,e3⟩:=R.dw i dz e;exact⟨q,e1,by unfold iI;rw[if_neg (nB e2)];exact e2,k _ _ e3 (nB e2)⟩
 .obtain ⟨q,xs,e1,e2,e3,e4,h⟩:=R.tw i ks es e;exact⟨q,xs,e1,by unfold iI;rw[if_neg (nB e2)];exact e2,k _ _ e3 (nB e2),e4,Vw h⟩
theorem Gh.step(G:Gh K c ns j p C dx O B σ H env us ds)(k:Kq p H H')(ob:H' p=some (.ins C dx (ns.zip us')))(ln:ns.length=us'.length)(is:aU K (OO O σ env) H' us' ds'):Gh K c ns j p C dx O (iI p B H') σ H' env us' ds':=
 ⟨G.rel.gst G.op G.ob k (by rw[ob];exact λz=>nomatch z),G.op,G.a,ob,ln,is,G.cn,G.no⟩
theorem Gh.noOwn(G:Gh K c ns j p C dx O B σ H env us ds):¬lN σ env p:=λ⟨i,s,e1,o,e2⟩=>by obtain⟨q,u,f1,f2,_⟩:=G.rel.ad e1 o;rw[e2] at f1;cases f1;rw[G.rel.bp G.op,G.ob] at f2;cases f2
theorem Gh.view(G:Gh K c ns j p C dx O B σ H env us ds):Rel K (λq=>O q/\q≠p) B σ H (env.set j (.sh (.obj c ns ds))):=by
 have R:=G.rel;have hj:j<env.length:=(oE.mp G.no).1
 have own:∀q,lN σ (env.set j (.sh (.obj c ns ds))) q->lN σ env q:=λq ⟨i,s,e1,o,e2⟩=>by
  by_cases h:j=i;.subst h;rw[lg hj] at e1;cases e1;exact o.elim
  .rw [gG h] at e1;exact⟨i,s,e1,o,e2⟩
 have less:∀q,OO (λq=>O q/\q≠p) σ (env.set j (.sh (.obj c ns ds))) q->OO O σ env q:=λq z=>z.elim (λz=>.inl z.1) λz=>.inr (own q z)
 have at':∀{i:Nat} {s:Sl},(env.set j (.sh (.obj c ns ds)))[i]?=some s->(i=j/\s=.sh (.obj c ns ds))\/env[i]?=some s:=λ{i s} e=>by
  by_cases h:j=i;.subst h;rw[lg hj] at e;exact .inl ⟨rfl,(gY e).symm⟩
  .rw [gG h] at e;exact .inr e
 refine⟨R.same,⟨λq hq=>R.mR.1 q hq.1,R.mR.2⟩,by simp[R.len],λi d e=>?_,λi es e=>?_,λi dz e=>?_,λi ks es e=>?_,λi k es fs q e1 e2 e3 e4 o1 o2=>?_⟩
 .rcases at' e with⟨rfl,e1⟩ | e1;.cases e1;exact⟨_,G.a,.obj (λz=>z.elim (λz=>z.2 rfl) λz=>G.noOwn (own p z)) G.cn G.ob G.ln (G.is.less less)⟩
  .obtain ⟨v,f1,h⟩:=R.sh i d e1;exact⟨v,f1,h.less less⟩
 .rcases at' e with⟨_,e1⟩ | e1;.cases e1
  .obtain ⟨q,xs,f1,f2,f3,h⟩:=R.ow i es e1;exact⟨q,xs,f1,f2,f3,h.less less⟩
 .rcases at' e with⟨_,e1⟩ | e1;.cases e1
  .exact R.dw i dz e1
 .rcases at' e with⟨_,e1⟩ | e1;.cases e1
  .obtain ⟨q,xs,f1,f2,f3,f4,h⟩:=R.tw i ks es e1;exact⟨q,xs,f1,f2,f3,f4,h.less less⟩
 .rcases at' e1 with⟨_,z⟩ | e1;.rw [z] at o1;exact o1.elim
  .rcases at' e2 with⟨_,z⟩ | e2;.rw [z] at o2;exact o2.elim
   .exact R.sep i k es fs q e1 e2 e3 e4 o1 o2
end
noncomputable def PL:D->Bool
 | .dO=>true
 | .bl _=>true
 | .int _=>true
 | .str _=>true
 |_=>false
theorem b83{K:aG}{O O':Addr->Prop}{H H':Hp}{v:V}{d:D}(hp:PL d=true)(h:Is K O H v d):Is K O' H' v d:=by
 cases h with
 |dO=>exact .dO
 |bl b=>exact .bl b
 |int i=>exact .int i
 |str x=>exact .str x
 |_=>cases hp
noncomputable abbrev GE:=En->List D->Option (D×List D)
noncomputable abbrev GA:=En->List D->Option (List D×List D)
noncomputable abbrev GS:=En->List D->Option (Fl×En×List D)
inductive EG (X:Cx) (c:Str) (ns:List Str) (j:Nat) (e:Expr) (f:GE):Prop
 | mk (t:TE) (p:PE X e t) (k:∀(O:Addr->Prop) (B:Hp) (σ:L2.St) (H:Hp) (env:En) (a C dx:Addr) (us:List V) (ds:List D) (d:D) (ds':List D) (Q:VK),Gh X.K c ns j a C dx O B σ H env us ds->f env ds=some (d,ds') ->
  (∀v H' us',Kq a H H'->Gh X.K c ns j a C dx O (iI a B H') σ H' env us' ds'->Is X.K (OO O σ env) H' v d->Q v H')->t σ H Q)
inductive AG (X:Cx) (c:Str) (ns:List Str) (j:Nat) (es:List Expr) (f:GA):Prop
 | mk (t:TA) (p:PA X es t) (k:∀(O:Addr->Prop) (B:Hp) (σ:L2.St) (H:Hp) (env:En) (a C dx:Addr) (us:List V) (ds:List D) (as ds':List D) (Q:List V->Hp->Prop),Gh X.K c ns j a C dx O B σ H env us ds->f env ds=some (as,ds') ->
  (∀vs H' us',Kq a H H'->Gh X.K c ns j a C dx O (iI a B H') σ H' env us' ds'->aU X.K (OO O σ env) H' vs as->Q vs H')->t σ H Q)
noncomputable def BB(K:aG)(c:Str)(ns:List Str)(j:Nat)(a C dx:Addr)(O:Addr->Prop)(B:Hp)(D:Ends):Fl->En->List DL.D->Prop
 | .nx,af,ds'=>∀aH H' us',Gh K c ns j a C dx O (iI a B H') aH H' af us' ds'->D.nx aH H'
 | .bk,af,ds'=>∀aH H' us',Gh K c ns j a C dx O (iI a B H') aH H' af us' ds'->D.bk aH H'
 | .ct,af,ds'=>∀aH H' us',Gh K c ns j a C dx O (iI a B H') aH H' af us' ds'->D.ct aH H'
 | .rt r,_,ds'=>∀v H' us',Kq a B H'->H' a=some (.ins C dx (ns.zip us'))->ns.length=us'.length->aU K O H' us' ds'->Is K O H' v r.d->D.rt v H'
theorem BB.from{K:aG}{c:Str}{ns:List Str}{j:Nat}{a C dx:Addr}{O:Addr->Prop}{B H1:Hp}{D:Ends}{fl:Fl}{af:En}{ds':List DL.D}(h:BB K c ns j a C dx O B D fl af ds'):BB K c ns j a C dx O (iI a B H1) D fl af ds':=by
 cases fl with
 |nx=>exact λaH H' us' g=>h aH H' us' (by rw[qQ] at g;exact g)
 |bk=>exact λaH H' us' g=>h aH H' us' (by rw[qQ] at g;exact g)
 |ct=>exact λaH H' us' g=>h aH H' us' (by rw[qQ] at g;exact g)
 |rt r=>exact λv H' us' k=>h v H' us' λq u e n=>k q u (by unfold iI;rw[if_neg n];exact e) n
inductive SG (X:Cx) (c:Str) (ns:List Str) (j:Nat) (st:Stmt) (F:GS):Prop
 |mk (t:TS) (p:PS X st t) (k:∀(O:Addr->Prop) (B:Hp) (σ:L2.St) (H:Hp) (env:En) (a C dx:Addr) (us:List V) (ds:List D) (fl:Fl) (af:En) (ds':List D) (E:Ends),Gh X.K c ns j a C dx O B σ H env us ds->F env ds=some (fl,af,ds')->BB X.K c ns j a C dx O B E fl af ds'->t E σ H)
inductive qY (X:Cx) (c:Str) (ns:List Str) (j:Nat) (st:List Stmt) (F:GS):Prop
 |mk (t:TS) (p:nZ X st t) (k:∀(O:Addr->Prop) (B:Hp) (σ:L2.St) (H:Hp) (env:En) (a C dx:Addr) (us:List V) (ds:List D) (fl:Fl) (af:En) (ds':List D) (E:Ends),Gh X.K c ns j a C dx O B σ H env us ds->F env ds=some (fl,af,ds')->BB X.K c ns j a C dx O B E fl af ds'->t E σ H)
noncomputable def bR(f:En->Option Sl):GE:=λenv ds=>(f env).map λr=>(r.d,ds)
noncomputable def QI(c:Str)(ns:List Str)(j:Nat)(f:En->Option Sl):GE:=λenv ds=>(f (env.set j (.sh (.obj c ns ds)))).bind λr=>if PL r.d=true then some (r.d,ds) else none
noncomputable def aN:GA:=λ_ ds=>some ([],ds)
noncomputable def bH(f:GE)(g:GA):GA:=λenv ds=>(f env ds).bind λx=>(g env x.2).map λy=>(x.1::y.1,y.2)
noncomputable def AB(g:GA):GE:=λenv ds=>(g env ds).bind λx=>if x.1.length<=16777216 then some (.tup x.1,x.2) else none
noncomputable def D2(n:Nat)(φ:List D->Option Sl)(g:GA):GE:=λenv ds=>(g env ds).bind λx=>if x.1.length=n then (φ x.1).map λr=>(r.d,x.2) else none
noncomputable def mP(c:Str)(n:Nat)(ns:List Str)(ψ:List D->Option (List D))(g:GA):GE:=λenv ds=>(g env ds).bind λx=>if x.1.length=n then (ψ x.1).map λfs=>(.obj c ns fs,x.2) else none
noncomputable def bY(n:Nat)(φ:List D->List D->Option (D×List D))(g:GA):GE:=λenv ds=>(g env ds).bind λx=>if x.1.length=n then φ x.1 x.2 else none
section
variable {X:Cx}{c:Str}{ns:List Str}{j:Nat}{e o:Expr}{es:List Expr}{pos apos np p:Pos}{f:GE}{g:GA}{fe:En->Option Sl}
theorem cH(h:EV X e fe):EG X c ns j e (bR fe):=by obtain⟨t,pt,k⟩:=h;refine⟨t,pt,λO B σ H env a C dx us ds d ds' Q G e q=>?_⟩;obtain⟨r,e1,e2⟩:=map_some e;cases e2;refine k O B σ H env r _ G.rel e1 λv H' s r1=>?_;have G':=G.grow s;refine q v H' us (λq u e _=>s q u e) (by rw[G'.ph];exact G') (r1.is λq=>G.rel.oo)
theorem Kg(h:EV X e fe):EG X c ns j e (QI c ns j fe):=by obtain⟨t,pt,k⟩:=h;refine⟨t,pt,λO B σ H env a C dx us ds d ds' Q G e q=>?_⟩;obtain⟨r,e1,e2⟩:=bind_some e;obtain⟨hp,e3⟩:=jv e2;cases e3;refine k _ B σ H _ r _ G.view e1 λv H' s r1=>?_;have G':=G.grow s;refine q v H' us (λq u e _=>s q u e) (by rw[G'.ph];exact G') (b83 hp (r1.is λq=>G.view.oo))
theorem bX:AG X c ns j [] aN:=⟨_,sG,λO B σ H env a C dx us ds as ds' Q G e q=>by cases (show some (([]:List D),ds)=some (as,ds') from e);exact q [] H us (λ_ _ e _=>e) (by rw[G.ph];exact G) .nil⟩
theorem Gh.mv{K:aG}{a C dx:Addr}{O:Addr->Prop}{B H H':Hp}{σ:L2.St}{env:En}{us:List V}{ds:List D}(G:Gh K c ns j a C dx O B σ H env us ds)(k:Kq a H H'){v:V}{d:D}(h:Is K (OO O σ env) H v d):Is K (OO O σ env) H' v d:=
 h.map (λ_ _ z=>z) λq u e n=>k q u e λz=>n (.inl (by rw[z];exact G.op))
theorem Gh.mvs{K:aG}{a C dx:Addr}{O:Addr->Prop}{B H H':Hp}{σ:L2.St}{env:En}{us:List V}{ds:List D}(G:Gh K c ns j a C dx O B σ H env us ds)(k:Kq a H H'){v:List V}{d:List D}(h:aU K (OO O σ env) H v d):aU K (OO O σ env) H' v d:=
 h.map (λ_ _ z=>z) λq u e n=>k q u e λz=>n (.inl (by rw[z];exact G.op))
theorem cL(h:EG X c ns j e f)(h2:AG X c ns j es g)(hs:autoParam (starEach (e::es) X.env=(false,eval e X.env)::starEach es X.env) ra2._auto_1):AG X c ns j (e::es) (bH f g):=by obtain⟨t,pt,k⟩:=h;obtain⟨u,pu,ku⟩:=h2;refine⟨_,lX pt pu hs,λO B σ H env a C dx us ds as ds' Q G e q=>?_⟩;obtain⟨⟨d,br⟩,e1,e2⟩:=bind_some e;obtain⟨⟨S5,mQ⟩,e3,e4⟩:=map_some e2;cases e4;refine k O B σ H env a C dx us ds d br _ G e1 λv H1 iH k1 G1 h1=>?_;refine ku O _ σ H1 env a C dx iH br S5 mQ _ G1 e3 λvs H2 n8 k2 G2 h2=>?_;rw[qQ] at G2;exact q _ H2 n8 (k1.trans k2) G2 (.cons (G1.mv k2 h1) h2)
theorem b9N{x1}(h:AG X c ns j es g):EG X c ns j (.Tuple es x1 pos) (AB g):=by obtain⟨t,pt,k⟩:=h;refine⟨_,Nj pt,λO B σ H env a C dx us ds d ds' Q G e q=>?_⟩;obtain⟨⟨as,br⟩,e1,e2⟩:=bind_some e;obtain⟨hl,e3⟩:=jv e2;cases e3;refine k O B σ H env a C dx us ds as br _ G e1 λvs H1 iH k1 G1 r1=>⟨by rw[r1.length,kM];exact hl,λp hp=>?_⟩;have s:=Bq hp (.tup vs);have G2:=G1.grow s;refine q _ _ iH (k1.trans λq u e _=>s q u e) ?_ (Le (O:=OO O σ env) (H:=H1) (λ_ z=>G1.rel.oo z) hp r1);have:=G2.ph;rw[qQ] at this;rw[this];exact G2
theorem b7W{k:Nat}{f:Addr}{fd:FuncData}{ps:List Str}{φ:List D->Option Sl}{x:Str}(F:bQ X.prog X.w X.K X.mg X.base iq k f fd ps (wI X.K ps.length φ))(hr:cD k X.A)(hg:Gl X x)(hm:X.mg x=some (.ref f))(hk:ud X.K (.ref f)=true)(hb:Binds X.K fd ps [])
  (ha:AG X c ns j (e::es) g)(d8:autoParam ((x==("__debug__":Str))=false) ra1._auto_1)(he:autoParam (starEach (e::es) X.env=(false,eval e X.env)::starEach es X.env) ra2._auto_1)(c6:autoParam ((backTo pos (starEach es X.env)).any (·.1)=false) ra2._auto_1):
  EG X c ns j (.Call (.Name x p) (e::es) [] pos) (D2 ps.length φ g):=by obtain⟨t,pt,ka⟩:=ha;refine⟨_,SW F hr hg hm hk hb .nil (Bd (X:=X)) pt d8 he c6,λO B σ H env a C dx us ds d ds' Q G e q=>?_⟩;obtain⟨⟨as,br⟩,e1,e2⟩:=bind_some e;obtain⟨hl,e3⟩:=uj e2;obtain⟨r',e4,e5⟩:=map_some e3;cases e5;refine ka O B σ H env a C dx us ds as br _ G e1 λvs H1 iH k1 G1 r1=>?_;rw[qJ];refine⟨OO O σ env,as,r',G1.rel.dm,r1,by rw[r1.length];exact hl,e4,λv H2 s2 r2=>?_⟩;have G2:=G1.grow s2;have:=G2.ph;rw[qQ] at this;exact q v H2 iH (k1.trans λq u e _=>s2 q u e) (by rw[this];exact G2) (r2.is λq=>G1.rel.oo)
theorem Kh{c':Str}{C f:Addr}{fd:FuncData}{ps:List Str}{n k:Nat}{iN:List Str}{ψ:List D->Option (List D)}(M:Mk X.K C f)(F:bQ X.prog X.w X.K X.mg X.base iq k f fd ps (uy X.K C n iN ψ))(hr:cD (k+1) X.A)(hg:Gl X c')(hm:X.mg c'=some (.ref C))(hn:iE X.K mainGlobals c'=some (some (.ref C)))(hb:Binds X.K fd ps [])
  (ha:AG X c ns j (e::es) g)(d8:autoParam ((c'==("__debug__":Str))=false) ra1._auto_1)(he:autoParam (starEach (e::es) X.env=(false,eval e X.env)::starEach es X.env) ra2._auto_1)(c6:autoParam ((backTo pos (starEach es X.env)).any (·.1)=false) ra2._auto_1):
  EG X c ns j (.Call (.Name c' p) (e::es) [] pos) (mP c' n iN ψ g):=by
 obtain⟨t,pt,ka⟩:=ha;refine⟨_,Lf M F hr hg hm hb .nil (Bd (X:=X)) pt d8 he c6,λO B σ H env a C' Ft us ds d ds' Q G e q=>?_⟩;obtain⟨⟨as,br⟩,e1,e2⟩:=bind_some e;obtain⟨hl,e3⟩:=uj e2;obtain⟨gs,e4,e5⟩:=map_some e3;cases e5;refine ka O B σ H env a C' Ft us ds as br _ G e1 λvs H1 iH k1 G1 r1=>?_;intro x dx nx Jq ne;have R1:=G1.rel;have nO:¬OO O σ env x:=λz=>R1.oo z nx;have up1:∀q u,H1 q=some u->upd (upd H1 dx (.own x)) x (.ins C dx []) q=some u:=λq u e=>by rw[eX (oM e nx),eX (oM e Jq)];exact e
 refine⟨λq=>OO O σ env q\/q=x,x,dx,vs,as,gs,by rw[qJ],by rw[r1.length];exact hl,ni,⟨λq hq=>?_,R1.dm.2.grow λq u e=>up1 q u e⟩,.inr rfl,r1.map (λq hq hn z=>z.elim hn λe=>hq (by rw[e];exact nx)) λq u e _=>up1 q u e,e4,λn8 H' rZ kp hp hs=>⟨rfl,?_⟩⟩
 .rcases hq with hq | rfl
  .cases hz:H1 q with
   |none=>exact absurd hz (R1.oo hq)
   |some u=>rw[up1 q u hz];exact λz=>nomatch z
  .rw [ni];exact λz=>nomatch z
 .have sm:az H1 H':=λq u e=>kp q u (up1 q u e) (oM e nx);have G2:=G1.grow sm;have:=G2.ph;rw[qQ] at this;exact q _ H' iH (k1.trans λq u e _=>sm q u e) (by rw[this];exact G2) (Is.obj nO hn hp rZ (hs.less λq z=>.inl z))
end
noncomputable def iQ{α:Type}(q:Nat)(x:α)(l:List α):List α:=l.take q++x::l.drop q
theorem F6{α:Type}{q:Nat}{x:α}{l:List α}:(iQ q x l).length=l.length+1:=by unfold iQ;rw[mU,jj,DY,Ra];omega
theorem b7s{α:Type}{q:Nat}{x:α}{l:List α}(h:q<=l.length):(iQ q x l)[q]?=some x:=by unfold iQ;rw[MN (by rw[DY];omega),DY,Rq h,Nat.sub_self];rfl
theorem b5q{α:Type}{q:Nat}{x y:α}{l:List α}(h:q<=l.length):(iQ q x l).set q y=iQ q y l:=by unfold iQ;rw[List.set_append_right _ _ (by rw[DY];omega),DY,Rq h,Nat.sub_self];rfl
theorem Rel.hide{K:aG}{O:Addr->Prop}{B H:Hp}{σ:L2.St}{env:En}{q:Nat}{v:V}{s:Sl}(R:Rel K O B σ H env)(he:env[q]?=some s)(hs:¬s.own):Rel K O B (σ.set q (some v)) H (env.set q .no)/\∀a,lN (σ.set q (some v)) (env.set q .no) a->lN σ env a:=by
 have hq:q<env.length:=(oE.mp he).1
 have at':∀{i:Nat} {t:Sl},(env.set q .no)[i]?=some t->(i=q/\t=.no)\/(q≠i/\env[i]?=some t):=λ{i t} e=>by
  by_cases h:q=i;.subst h;rw[lg hq] at e;exact .inl ⟨rfl,(gY e).symm⟩
  .rw [gG h] at e;exact .inr ⟨h,e⟩
 have own:∀a,lN (σ.set q (some v)) (env.set q .no) a->lN σ env a:=λa ⟨i,t,e1,o,e2⟩=>by
  rcases at' e1 with⟨_,z⟩|⟨h,e1⟩;.rw [z] at o;exact o.elim
  .rw [gG h] at e2;exact⟨i,t,e1,o,e2⟩
 have less:∀a,OO O (σ.set q (some v)) (env.set q .no) a->OO O σ env a:=λa z=>z.elim .inl λz=>.inr (own a z);refine⟨⟨R.same,R.mR,by simp[R.len],λi d e=>?_,λi es e=>?_,λi dz e=>?_,λi ks es e=>?_,λi k es fs a e1 e2 e3 e4 o1 o2=>?_⟩,own⟩
 .rcases at' e with⟨_,z⟩ | ⟨h,e⟩;.cases z
  .obtain ⟨w,f1,f2⟩:=R.sh i d e;exact⟨w,by rw[gG h];exact f1,f2.less less⟩
 .rcases at' e with⟨_,z⟩ | ⟨h,e⟩;.cases z
  .obtain ⟨p,xs,f1,f2,f3,f4⟩:=R.ow i es e;exact⟨p,xs,by rw[gG h];exact f1,f2,f3,f4.less less⟩
 .rcases at' e with⟨_,z⟩ | ⟨h,e⟩;.cases z
  .obtain ⟨p,f1,f2⟩:=R.dw i dz e;exact⟨p,by rw[gG h];exact f1,f2⟩
 .rcases at' e with⟨_,z⟩ | ⟨h,e⟩;.cases z
  .obtain ⟨p,xs,f1,f2,f3,f4,f5⟩:=R.tw i ks es e;exact⟨p,xs,by rw[gG h];exact f1,f2,f3,f4,f5.less less⟩
 .rcases at' e1 with⟨_,z⟩ | ⟨h1,e1⟩;.rw [z] at o1;exact o1.elim
  .rcases at' e2 with⟨_,z⟩ | ⟨h2,e2⟩;.rw [z] at o2;exact o2.elim
   .rw [gG h1] at e3;rw[gG h2] at e4;exact R.sep i k es fs a e1 e2 e3 e4 o1 o2
noncomputable def IA(K:aG)(c:Str)(ns:List Str)(j n:Nat)(φ:List D->List D->Option (D×List D)):Sp:=λvs H Q _=>∃(O:Addr->Prop) (p C dx:Addr) (ws us:List V) (as ds:List D) (d:D) (ds':List D),vs=iQ j (.ref p) ws/\ws.length=n/\iE K mainGlobals c=some (some (.ref C))/\zM K O H/\O p/\H p=some (.ins C dx (ns.zip us))/\ns.length=us.length/\aU K O H us ds/\aU K O H ws as/\φ as ds=some (d,ds') /\
 ∀v H' us',Kq p H H'->H' p=some (.ins C dx (ns.zip us'))->ns.length=us'.length->aU K O H' us' ds'->Is K O H' v d->Q v H'
noncomputable def C6(j N:Nat)(as:List D):En:=(jQ N (iQ j .dO as)).set j .no
noncomputable def fF(F:GS)(j N:Nat)(as ds:List D):Option (D×List D):=match F (C6 j N as) ds with
 |some (.rt r,_,ds')=>some (r.d,ds')
 |some (.nx,_,ds')=>some (.dO,ds')
 |_=>none
section
variable {P:Program}{w:World}{K:aG}{mg:Str->Option Value}{base:Heap}
theorem aU.ins{O:Addr->Prop}{H:Hp}:∀(j:Nat) {ws:List V} {as:List D},aU K O H ws as->aU K O H (iQ j .dO ws) (iQ j .dO as):=λj {ws as} h=>(h.take j).append (.cons .dO (h.drop j))
theorem b2o{N:Nat}{as:List D}{i:Nat}{s:Sl}(h:(jQ N as)[i]?=some s):¬s.own:=λo=>by
 unfold jQ at h;rw[KA] at h;split at h;.rw [zp] at h;obtain⟨d,_,e⟩:=map_some h;cases e;exact o
 .rw [FK] at h;split at h;.cases h;exact o
  .cases h
theorem X9{c:Str}{ns:List Str}{O:Addr->Prop}{H:Hp}{N:List Str}{p C dx:Addr}{ws us:List V}{as ds:List D}{j:Nat}(hj:j<=ws.length)(cn:iE K mainGlobals c=some (some (.ref C)))(dm:zM K O H)(op:O p)(ob:H p=some (.ins C dx (ns.zip us)))(ln:ns.length=us.length)(iu:aU K O H us ds)(hi:aU K O H ws as):
  Gh K c ns j p C dx O H (start N (iQ j (V.ref p) ws)) H (C6 j N.length as) us ds:=by
 have hja:j<=as.length:=by rw[<-hi.length];exact hj
 have R0:=Hv (N:=N) dm (hi.ins j);have he:(jQ N.length (iQ j .dO as))[j]?=some (.sh .dO):=by unfold jQ;rw[KO (by rw[kN,F6];omega),zp,b7s hja];rfl
 obtain⟨R1,own⟩:=R0.hide (v:=.ref p) he λz=>z;have es:(start N (iQ j .dO ws)).set j (some (V.ref p))=start N (iQ j (V.ref p) ws):=by unfold L2.start;rw[List.set_append_left _ _ (by rw[kN,F6];omega),F6,F6,<-List.map_set,b5q hj]
 rw[es] at R1 own;refine⟨R1,op,?_,ob,ln,iu.less λq z=>z.elim id λz=>?_,cn,?_⟩;.rw [<-es,lg];unfold L2.start;rw[mU,kN,F6];omega
 .obtain ⟨i,s,e1,o,_⟩:=own q z;exact(b2o e1 o).elim
 .unfold C6;rw[lg (oE.mp he).1]
theorem Kb{x qual:Str}{st:Stmt}{f:Addr}{fd:FuncData}{N ps:List Str}{k n j:Nat}{c:Str}{ns:List Str}{F:GS}(Fn:ur K x qual st f fd)(S:bP N ps (dR st))(vt:ps.length=n+1)(hj:j<=n)
  (bu:∀X:Cx,X.prog=P->X.w=w->X.K=K->X.mg=mg->X.base=base->Fx X N (dR st) k->qY X c ns j (iG st) F):bQ P w K mg base iq (k+1) f fd ps (IA K c ns j n (fF F j N.length)):=by
 refine Fn.ok S (λvs H Q E h=>?_) (λfu A outer s H vs Q E hr h=>?_);.obtain ⟨O,p,C,dx,ws,us,as,ds,d,ds',rfl,hl,_⟩:=h;rw[F6,hl,vt]
 obtain⟨O,p,C,dx,ws,us,as,ds,d,ds',rfl,hl,cn,dm,op,ob,ln,iu,hi,e,q⟩:=h;obtain⟨t,pt,kk⟩:=bu (hU iq P w K mg base N qual (dR st) f fu A outer s H E).aI rfl rfl rfl rfl rfl ⟨rfl,rfl,rfl,λ_ _=>rfl,BJ,hr,S.nd,λ_=>⟨rfl,rfl,rfl⟩⟩;refine⟨t,pt,?_⟩;unfold fF at e
 cases hF:F (C6 j N.length as) ds with
 |none=>rw[hF] at e;cases e
 |some y =>
  obtain⟨fl,af,mQ⟩:=y;rw[hF] at e;refine kk O H _ H _ p C dx us ds fl af mQ _ (X9 (by rw[hl];exact hj) cn dm op ob ln iu hi) hF ?_
  cases fl with
  |nx => cases e;intro aH H' us' G';refine q _ H' us' (λq u e n=>G'.rel.same q u (by unfold iI;rw[if_neg n];exact e)) G'.ob G'.ln (G'.is.less λq z=>.inl z) .dO
  |rt r => cases e;exact λv H' us' k1 h1 h2 h3 h4=>q v H' us' k1 h1 h2 h3 h4
  |bk=>cases e
  |ct=>cases e
end
end DL
namespace DL
open PySem PySem.Spec PyProof.Rows L2
section
variable {X:Cx}{c m:Str}{ns:List Str}{j:Nat}{e o:Expr}{es:List Expr}{pos apos np p p2:Pos}{f:GE}{g:GA}{fe:En->Option Sl}
inductive AH (X:Cx) (c:Str) (ns:List Str) (j q:Nat) (es:List Expr) (f:GA):Prop
 | mk (t:TA) (p:PA X es t) (k:∀(O:Addr->Prop) (B:Hp) (σ:L2.St) (H:Hp) (env:En) (a C dx:Addr) (us:List V) (ds:List D) (as ds':List D) (Q:List V->Hp->Prop),Gh X.K c ns j a C dx O B σ H env us ds->f env ds=some (as,ds') ->
  (∀vs H' us',Kq a H H'->Gh X.K c ns j a C dx O (iI a B H') σ H' env us' ds'->aU X.K (OO O σ env) H' vs as->Q (iQ q (.ref a) vs) H')->t σ H Q)
theorem b76{y:Str}(hN:X.N[j]?=some y)(hv:jJ X.env.scope y)(ha:AG X c ns j es g)(hd:autoParam ((y==("__debug__":Str))=false) ra1._auto_1)(dC:autoParam ((y==("__classdict__":Str))=false) ra1._auto_1)
  (he:autoParam (starEach (.Name y p2::es) X.env=(false,eval (.Name y p2) X.env)::starEach es X.env) ra2._auto_1):AH X c ns j 0 (.Name y p2::es) g:=by obtain⟨t,pt,ka⟩:=ha;exact⟨_,lX (wC hN hv hd dC) pt he,λO B σ H env a C dx us ds as ds' Q G e q=>⟨_,G.a,ka O B σ H env a C dx us ds as ds' _ G e q⟩⟩
theorem SH{q:Nat}(h:EG X c ns j e f)(h2:AH X c ns j q es g)(hs:autoParam (starEach (e::es) X.env=(false,eval e X.env)::starEach es X.env) ra2._auto_1):AH X c ns j (q+1) (e::es) (bH f g):=by obtain⟨t,pt,k⟩:=h;obtain⟨u,pu,ku⟩:=h2;refine⟨_,lX pt pu hs,λO B σ H env a C dx us ds as ds' Q G e q=>?_⟩;obtain⟨⟨d,br⟩,e1,e2⟩:=bind_some e;obtain⟨⟨S5,mQ⟩,e3,e4⟩:=map_some e2;cases e4;refine k O B σ H env a C dx us ds d br _ G e1 λv H1 iH k1 G1 h1=>?_;refine ku O _ σ H1 env a C dx iH br S5 mQ _ G1 e3 λvs H2 n8 k2 G2 h2=>?_;rw[qQ] at G2;exact q _ H2 n8 (k1.trans k2) G2 (.cons (G1.mv k2 h1) h2)
theorem b5F{k n q:Nat}{fa:Addr}{fd:FuncData}{ps:List Str}{φ:List D->List D->Option (D×List D)}{x:Str}(F:bQ X.prog X.w X.K X.mg X.base iq k fa fd ps (IA X.K c ns q n φ))(hr:cD k X.A)(hg:Gl X x)(hm:X.mg x=some (.ref fa))(hk:ud X.K (.ref fa)=true)(hb:Binds X.K fd ps [])
  (ha:AH X c ns j q (e::es) g)(d8:autoParam ((x==("__debug__":Str))=false) ra1._auto_1)(he:autoParam (starEach (e::es) X.env=(false,eval e X.env)::starEach es X.env) ra2._auto_1)(c6:autoParam ((backTo pos (starEach es X.env)).any (·.1)=false) ra2._auto_1):
  EG X c ns j (.Call (.Name x p) (e::es) [] pos) (bY n φ g):=by obtain⟨t,pt,ka⟩:=ha;refine⟨_,SW F hr hg hm hk hb .nil (Bd (X:=X)) pt d8 he c6,λO B σ H env a C dx us ds d ds' Q G e q=>?_⟩;obtain⟨⟨as,br⟩,e1,e2⟩:=bind_some e;obtain⟨hl,e3⟩:=uj e2;refine ka O B σ H env a C dx us ds as br _ G e1 λvs H1 iH k1 G1 r1=>?_;rw[qJ];refine⟨OO O σ env,a,C,dx,vs,iH,as,br,d,ds',rfl,by rw[r1.length];exact hl,G.cn,G1.rel.dm,.inl G.op,G1.ob,G1.ln,G1.is,r1,e3,λv H2 n8 k2 h1 h2 h3 h4=>?_⟩;have G2:=G1.step k2 h1 h2 h3;rw[qQ] at G2;exact q v H2 n8 (k1.trans k2) G2 h4
def MG(X:Cx)(c:Str)(ns:List Str)(m:Str)(n k:Nat)(φ:List D->List D->Option (D×List D)):Prop:=n5 X.K c λC=>∃f fd ps,aZ X.K C m f/\Binds X.K fd ps []/\bQ X.prog X.w X.K X.mg X.base iq k f fd ps (IA X.K c ns 0 n φ)
theorem b5E{k n:Nat}{φ:List D->List D->Option (D×List D)}{y:Str}{pl:Sem Bool}(T:MG X c ns m n k φ)(hr:cD k X.A)(hm:m∉ns)(hN:X.N[j]?=some y)(hv:jJ X.env.scope y)(ha:AG X c ns j (e::es) g)(hd:autoParam ((y==("__debug__":Str))=false) ra1._auto_1)(dC:autoParam ((y==("__classdict__":Str))=false) ra1._auto_1)
  (jB:autoParam (starEach (e::es) X.env=(false,eval e X.env)::starEach es X.env) ra2._auto_1)(c6:autoParam ((backTo pos (starEach es X.env)).any (·.1)=false) ra2._auto_1)
  (ht:autoParam (eval (.Call (.Attribute (.Name y p2) m apos) (e::es) [] pos) X.env=(eval (.Name y p2) X.env >>= λov=>standAt apos.atName >>= λ_=>holding [ov] (getMethod ov m pl) >>= λz=>callWith pos z.1 z.2 (backTo pos (starEach (e::es) X.env)) (backToKw pos (keywordEach [] X.env)))) ra2._auto_1):
  EG X c ns j (.Call (.Attribute (.Name y p2) m apos) (e::es) [] pos) (bY n φ g):=by obtain⟨t,pt,ka⟩:=ha;refine⟨_,Yi (wC hN hv hd dC) hr pt jB c6 ht,λO B σ H env a C dx us ds d ds' Q G e q=>?_⟩;obtain⟨⟨as,br⟩,e1,e2⟩:=bind_some e;obtain⟨hl,e3⟩:=uj e2;obtain⟨c1,f,fd,ps,c2,c3,c4⟩:=T C G.cn;refine⟨_,G.a,⟨a,C,dx,_,f,fd,ps,_,rfl,G.ob,c1,c2,Hu hm,c3,c4,?_⟩⟩;refine ka O B σ H env a C dx us ds as br _ G e1 λvs H1 iH k1 G1 r1=>?_;refine⟨OO O σ env,a,C,dx,vs,iH,as,br,d,ds',rfl,by rw[r1.length];exact hl,G.cn,G1.rel.dm,.inl G.op,G1.ob,G1.ln,G1.is,r1,e3,λv H2 n8 k2 h1 h2 h3 h4=>?_⟩;have G2:=G1.step k2 h1 h2 h3;rw[qQ] at G2;exact q v H2 n8 (k1.trans k2) G2 h4
theorem b4m{k:Nat}{φ:List D->List D->Option (D×List D)}{y:Str}{pl:Sem Bool}(T:MG X c ns m 0 k φ)(hr:cD k X.A)(hm:m∉ns)(hN:X.N[j]?=some y)(hv:jJ X.env.scope y)(hd:autoParam ((y==("__debug__":Str))=false) ra1._auto_1)(dC:autoParam ((y==("__classdict__":Str))=false) ra1._auto_1)
  (ht:autoParam (eval (.Call (.Attribute (.Name y p2) m apos) [] [] pos) X.env=(eval (.Name y p2) X.env >>= λov=>standAt apos.atName >>= λ_=>holding [ov] (getMethod ov m pl) >>= λz=>callWith pos z.1 z.2 (backTo pos (starEach [] X.env)) (backToKw pos (keywordEach [] X.env)))) ra2._auto_1):
  EG X c ns j (.Call (.Attribute (.Name y p2) m apos) [] [] pos) (bY 0 φ aN):=by refine⟨_,YL (wC hN hv hd dC) hr ht,λO B σ H env a C dx us ds d ds' Q G e q=>?_⟩;have e3:φ [] ds=some (d,ds'):=e;obtain⟨c1,f,fd,ps,c2,c3,c4⟩:=T C G.cn;refine⟨_,G.a,⟨a,C,dx,_,f,fd,ps,_,rfl,G.ob,c1,c2,Hu hm,c3,c4,?_⟩⟩;exact⟨OO O σ env,a,C,dx,[],us,[],ds,d,ds',rfl,rfl,G.cn,G.rel.dm,.inl G.op,G.ob,G.ln,G.is,.nil,e3,λv H2 n8 k2 h1 h2 h3 h4=>q v H2 n8 k2 (G.step k2 h1 h2 h3) h4⟩
end
noncomputable def bq:GS:=λenv ds=>some (.nx,env,ds)
noncomputable def jH:GS:=λ_ _=>none
noncomputable def cR(F G:GS):GS:=λenv ds=>match F env ds with
 |some (.nx,env1,br)=>G env1 br
 |some (.bk,env1,br)=>some (.bk,env1,br)
 |some (.ct,env1,br)=>some (.ct,env1,br)
 |some (.rt r,env1,br)=>some (.rt r,env1,br)
 |none=>none
noncomputable def aY(c:Str)(ns:List Str)(j:Nat)(ga:En->Option Bool)(F G:GS):GS:=λenv ds=>match ga (env.set j (.sh (.obj c ns ds))) with
 |some true=>F env ds
 |some false=>G env ds
 |none=>none
noncomputable def ic(c:Str)(ns:List Str)(j:Nat)(ga:En->Option Bool)(F:GS):Nat->GS
 |0,_,_=>none
 |n+1,env,ds=>match ga (env.set j (.sh (.obj c ns ds))) with
  |some true=>match F env ds with
   |some (.nx,env1,br)=>ic c ns j ga F n env1 br
   |some (.ct,env1,br)=>ic c ns j ga F n env1 br
   |some (.bk,env1,br)=>some (.nx,env1,br)
   |some (.rt r,env1,br)=>some (.rt r,env1,br)
   |none=>none
  |some false=>some (.nx,env,ds)
  |none=>none
noncomputable def SQ(c:Str)(ns:List Str)(j:Nat)(m:Nat)(ga:En->Option Bool)(F:GS):GS:=ic c ns j ga F m
noncomputable def ed(i:Nat)(f:GE):GS:=λenv ds=>(f env ds).bind λx=>if i<env.length then some (.nx,env.set i (.sh x.1),x.2) else none
noncomputable def Nc(i:Nat)(f:En->Option Sl):GS:=λenv ds=>(f env).bind λr=>if i<env.length then some (.nx,env.set i r,ds) else none
noncomputable def pW(f:GE):GS:=λenv ds=>(f env ds).map λx=>(.nx,env,x.2)
noncomputable def fN(f:GE):GS:=λenv ds=>(f env ds).map λx=>(.rt (.sh x.1),env,x.2)
noncomputable def K5(i:Nat):GS:=λenv ds=>match env[i]? with
 |some (.ow es)=>some (.rt (.sh (.lst false es)),env,ds)
 |_=>none
noncomputable def yD(j:Nat)(F:SF):GS:=λenv ds=>match F env with
 |some (.nx,af)=>match af[j]? with
  |some .no=>some (.nx,af,ds)
  |_=>none
 |_=>none
noncomputable def M2(i:Nat)(fe:En->Option Sl):GS:=λenv ds=>match ds[i]?,fe env with
 |some (.int m),some (.sh (.int n))=>some (.nx,env,ds.set i (.int (m+n)))
 |_,_=>none
theorem WY{n f:Str}{ns:List Str}(h:n≠f):(n::ns).idxOf f=ns.idxOf f+1:=by rw[List.idxOf_cons,beq_eq_false_iff_ne.mpr h];rfl
theorem Yl{f:Str}{z:V}:∀{ns:List Str} {us:List V},f∈ns->ns.length=us.length->gL f z (ns.zip us)=ns.zip (us.set (ns.idxOf f) z)
 |[],_,h,_=>nomatch h
 |_::_,[],_,h=>nomatch h
 |n::ns,u::us,h,hl=>by
  show (if n=f then (n,z)::ns.zip us else (n,u)::gL f z (ns.zip us))=_;by_cases e:n=f;.rw [if_pos e,e,V4];rfl
  .rw [if_neg e,WY e,Yl ((iF.mp h).resolve_left λz=>e z.symm) (by simpa using hl)];rfl
theorem Yf{f:Str}{d:D}:∀{ns:List Str} {ds:List D},f∈ns->ds[ns.idxOf f]?=some d->(ns.zip ds).lookup f=some d
 |[],_,h,_=>nomatch h
 |_::_,[],_,e=>by simp at e
 |n::ns,x::ds,h,e=>by
  rw[Rk,qH];by_cases z:n=f;.rw [z,V4] at e;rw[z,beq_self_eq_true];exact e
  .rw [WY z] at e;rw[beq_eq_false_iff_ne.mpr λy=>z y.symm];exact Yf ((iF.mp h).resolve_left λy=>z y.symm) (by simpa using e)
section
variable {K:aG}{c:Str}{ns:List Str}{j:Nat}{p C dx:Addr}{O:Addr->Prop}{B H H':Hp}{σ aH:L2.St}{env af:En}{us:List V}{ds:List D}
theorem Gh.to(G:Gh K c ns j p C dx O B σ H env us ds)(R:Rel K O B aH H' af)(g:Gd σ env H aH af H')(ha:aH[j]?=σ[j]?)(hn:af[j]?=some .no):Gh K c ns j p C dx O B aH H' af us ds:=
 ⟨R,G.op,ha.trans G.a,(g p _ G.ob G.noOwn).1,G.ln,g.Jz G.is,G.cn,hn⟩
end
section
variable {X:Cx}{c:Str}{ns:List Str}{j:Nat}{e:Expr}{es:List Expr}{st:Stmt}{rest body sa sb:List Stmt}{pos:Pos}{f:GE}{F G:GS}{fe:En->Option Sl}{cn:Expr}{ga:En->Option Bool}
theorem gU:qY X c ns j [] bq:=⟨_,Li,λO B σ H env a C dx us ds fl af ds' E G e q=>by cases (show some (Fl.nx,env,ds)=some (fl,af,ds') from e);exact q σ H us (by rw[G.ph];exact G)⟩
theorem eD(h:SG X c ns j st F):qY X c ns j [st] F:=let ⟨t,p,k⟩:=h;⟨t,NH p,k⟩
theorem pX:SG X c ns j st jH:=⟨_,b44,λ_ _ _ _ _ _ _ _ _ _ _ _ _ _ _ e _=>by cases e⟩
theorem eH(h:SG X c ns j st F)(h2:qY X c ns j rest G):qY X c ns j (st::rest) (cR F G):=by
 obtain⟨t,p,k⟩:=h;obtain⟨u,p',k'⟩:=h2;refine⟨_,Bn p p',λO B σ H env a C dx us ds fl af ds' E G1 e q=>?_⟩;unfold cR at e
 cases hF:F env ds with
 |none=>rw[hF] at e;cases e
 |some x =>
  obtain⟨f1,env1,br⟩:=x;rw[hF] at e;refine k O B σ H env a C dx us ds f1 env1 br _ G1 hF ?_
  cases f1 with
  |nx=>exact λaH H' us' G2=>k' O _ aH H' env1 a C dx us' br fl af ds' E G2 e q.from
  |bk=>cases e;exact q
  |ct=>cases e;exact q
  |rt r=>cases e;exact q
theorem gR(hc:TV X cn ga)(ha:qY X c ns j sa F)(hb:qY X c ns j sb G):SG X c ns j (.If cn sa sb pos) (aY c ns j ga F G):=by
 obtain⟨tc,pc,kc⟩:=hc;obtain⟨t,p,k⟩:=ha;obtain⟨u,p',k'⟩:=hb;refine⟨_,M6 pc p p',λO B σ H env a C dx us ds fl af ds' E G1 e q=>?_⟩;unfold aY at e
 cases h:ga (env.set j (.sh (.obj c ns ds))) with
 |none=>rw[h] at e;cases e
 |some x =>
  rw[h] at e;refine kc _ B σ H _ x _ G1.view h λH1 s1=>?_
  cases x with
  |true => rw[if_pos rfl];exact k O B σ H1 env a C dx us ds fl af ds' E (G1.grow s1) e q
  |false => rw[if_neg zq];exact k' O B σ H1 env a C dx us ds fl af ds' E (G1.grow s1) e q
theorem X5(m:Nat)(hp:PassesOwn (model X.prog X.w) X.A X.env X.xe)(hc:TV X cn ga)(hb:qY X c ns j body F):SG X c ns j (.While cn body [] pos) (SQ c ns j m ga F):=by
 obtain⟨tc,pc,kc⟩:=hc;obtain⟨tb,pb,kb⟩:=hb;refine⟨_,Yk hp pc pb,λO B σ H env a C dx us ds fl af ds' E G e q=>?_⟩;refine⟨λn jw H1=>∃env1 iH br,Gh X.K c ns j a C dx O (iI a B H1) jw H1 env1 iH br/\ic c ns j ga F n env1 br=some (fl,af,ds'),⟨m,env,us,ds,by rw[G.ph];exact G,e⟩,?_⟩;rintro n jw H1 ⟨env1,iH,br,G1,e1⟩
 cases n with
 |zero=>cases e1
 |succ n =>
  rw[ic] at e1
  cases h:ga (env1.set j (.sh (.obj c ns br))) with
  |none=>rw[h] at e1;cases e1
  |some x =>
   rw[h] at e1;refine kc _ _ jw H1 _ x _ G1.view h λH2 s2=>?_;have G2:=G1.grow s2;have e2:=G2.ph;rw[qQ] at e2;rw[<-e2] at G2
   cases x with
   |false => rw[if_neg zq];cases e1;exact q jw H2 iH G2
   |true =>
    rw[if_pos rfl];refine⟨λaH H'=>∃cC n8 mQ,Gh X.K c ns j a C dx O (iI a B H') aH H' cC n8 mQ/\ic c ns j ga F n cC mQ=some (fl,af,ds'),λaH H' ⟨cC,n8,mQ,a1,a2⟩=>⟨n,A1 n,cC,n8,mQ,a1,a2⟩,?_⟩;dsimp only at e1
    cases hF:F env1 br with
    |none=>rw[hF] at e1;cases e1
    |some y =>
     obtain⟨f2,cC,mQ⟩:=y;rw[hF] at e1;refine kb O _ jw H2 env1 a C dx iH br f2 cC mQ _ G2 hF ?_
     cases f2 with
     |nx=>exact λft H3 zS G3=>⟨cC,zS,mQ,by rw[qQ] at G3;exact G3,e1⟩
     |ct=>exact λft H3 zS G3=>⟨cC,zS,mQ,by rw[qQ] at G3;exact G3,e1⟩
     |bk=>cases e1;exact λft H3 zS G3=>q ft H3 zS (by rw[qQ] at G3;exact G3)
     |rt r=>cases e1;exact q.from
theorem b8M{i:Nat}{x:Str}{pos':Pos}(hN:X.N.Nodup)(hi:X.N[i]?=some x)(hx:Loc X.env.scope x)(Cr:i≠j)(he:EG X c ns j e f)(hs:autoParam (swapsWith e (some (.Name x pos')) pos.line X.env=pure false) ra2._auto_1)(hf:autoParam (X.fn x=true\/X.env.scope.names.lookup x=some .local) ra0._auto_1):
  SG X c ns j (.Assign [.Name x pos'] e pos) (ed i f):=by obtain⟨t,p,k⟩:=he;refine⟨_,F0 hN hi hx p hs hf,λO B σ H env a C dx us ds fl af ds' E G e q=>?_⟩;obtain⟨⟨d,br⟩,e1,e2⟩:=bind_some e;obtain⟨hl,e3⟩:=jv e2;cases e3;refine k O B σ H env a C dx us ds d br _ G e1 λv H1 iH k1 G1 h1=>?_;obtain⟨R',g'⟩:=G1.rel.set (r:=.sh d) (az.refl _) h1 hl;exact q _ H1 iH (G1.to R' g' (gG Cr) (by rw[gG Cr];exact G1.no))
theorem b6K{i:Nat}{x:Str}{pos':Pos}(hN:X.N.Nodup)(hi:X.N[i]?=some x)(hx:Loc X.env.scope x)(Cr:i≠j)(he:EV X e fe)(hs:autoParam (swapsWith e (some (.Name x pos')) pos.line X.env=pure false) ra2._auto_1)(hf:autoParam (X.fn x=true\/X.env.scope.names.lookup x=some .local) ra0._auto_1):
  SG X c ns j (.Assign [.Name x pos'] e pos) (Nc i fe):=by obtain⟨t,p,k⟩:=he;refine⟨_,F0 hN hi hx p hs hf,λO B σ H env a C dx us ds fl af ds' E G e q=>?_⟩;obtain⟨r,e1,e2⟩:=bind_some e;obtain⟨hl,e3⟩:=jv e2;cases e3;refine k O B σ H env r _ G.rel e1 λv H1 s1 r1=>?_;obtain⟨R',g'⟩:=G.rel.set s1 r1 hl;have G':=G.to R' g' (gG Cr) (by rw[gG Cr];exact G.no);exact q _ H1 us (by rw[G'.ph];exact G')
theorem zH(he:EG X c ns j e f)(hs:autoParam (swapsWith e none pos.line X.env=pure false) ra2._auto_1):SG X c ns j (.Expr e pos) (pW f):=by obtain⟨t,p,k⟩:=he;refine⟨_,NF p hs,λO B σ H env a C dx us ds fl af ds' E G e q=>?_⟩;obtain⟨⟨d,br⟩,e1,e2⟩:=map_some e;cases e2;exact k O B σ H env a C dx us ds d br _ G e1 λv H1 iH k1 G1 h1=>q σ H1 iH G1
theorem iJ(he:EG X c ns j e f):SG X c ns j (.Return (some e) pos) (fN f):=by obtain⟨t,p,k⟩:=he;refine⟨_,La p,λO B σ H env a C dx us ds fl af ds' E G e q=>?_⟩;obtain⟨⟨d,br⟩,e1,e2⟩:=map_some e;cases e2;exact k O B σ H env a C dx us ds d br _ G e1 λv H1 iH k1 G1 h1=>q v H1 iH (λq u e n=>k1 q u (G.rel.same q u e) n) G1.ob G1.ln (G1.is.less λq z=>.inl z) (h1.less λq z=>.inl z)
theorem b6L{i:Nat}{x:Str}{p:Pos}(hN:X.N[i]?=some x)(hv:jJ X.env.scope x)(hd:autoParam ((x==("__debug__":Str))=false) ra1._auto_1)(dC:autoParam ((x==("__classdict__":Str))=false) ra1._auto_1):SG X c ns j (.Return (some (.Name x p)) pos) (K5 i):=by
 refine⟨_,La (wC hN hv hd dC),λO B σ H env a C dx us ds fl af ds' E G e q=>?_⟩;unfold K5 at e;split at e;.rename_i es he;cases e;obtain⟨l,xs,f1,f2,f3,f4⟩:=G.rel.ow i es he;exact⟨_,f1,q _ H us (λq u e _=>G.rel.same q u e) G.ob G.ln (G.is.less λq z=>.inl z) (.lst (λz=>G.rel.mR.1 l z f2) f3 (f4.less λq z=>.inl z))⟩
 .cases e
theorem Pn{F':SF}(h:Z3 X j st F'):SG X c ns j st (yD j F'):=by
 obtain⟨t,p,k⟩:=h;refine⟨t,p,λO B σ H env a C dx us ds fl af ds' E G e q=>?_⟩;unfold yD at e;split at e
 .rename_i env1 he;split at e;.rename_i hn;cases e;refine k O B σ H env .nx af E a G.rel G.a he λaH H' R' g' ha=>?_;have G':=G.to R' g' (ha.trans G.a.symm) hn;exact q aH H' us (by rw[G'.ph];exact G')
  .cases e
 .cases e
theorem b8N{f' x:Str}{p1 zT:Pos}(QA:n5 X.K c λC=>ak X.K C f')(hm:f'∈ns)(Gz:ns.length<1000)(he:EV X e fe)(hN:X.N[j]?=some x)(hv:jJ X.env.scope x)(hd:autoParam ((x==("__debug__":Str))=false) ra1._auto_1)(dC:autoParam ((x==("__classdict__":Str))=false) ra1._auto_1):
  SG X c ns j (.AugAssign (.Attribute (.Name x p1) f' zT) .Add e pos) (M2 (ns.idxOf f') fe):=by
 obtain⟨t,p,k⟩:=he;refine⟨_,b3s (wC hN hv hd dC) p b9v,λO B σ H env a C dx us ds fl af ds' E G e q=>?_⟩;unfold M2 at e;split at e
 .rename_i m n e1 e2;cases e;obtain⟨c1,c2⟩:=QA C G.cn;obtain⟨v,hv1,hv2⟩:=Tv G.is (Yf hm e1);cases hv2;refine⟨_,G.a,a,C,dx,_,_,rfl,G.ob,c1,c2,hv1,?_⟩;refine k O B σ H env _ _ G.rel e2 λv H1 s1 r1=>?_;cases r1;refine⟨m,n,rfl,rfl,dx,_,s1 _ _ G.ob,by rw[Rp,<-G.ln,Nat.min_self];exact Gz,?_⟩;rw[Yl hm G.ln];have kq:Kq a H1 (upd H1 a (.ins C dx (ns.zip (us.set (ns.idxOf f') (.int (m+n)))))):=λq u e ne=>by rw[eX ne];exact e
  have G1:=G.grow s1;have G2:=G1.step (us':=us.set (ns.idxOf f') (.int (m+n))) (ds':=ds.set (ns.idxOf f') (.int (m+n))) kq ni (by rw[List.length_set];exact G.ln) (aU.set (.int _) _ (G1.mvs kq G1.is));exact q σ _ _ G2
 .cases e
end
end DL
namespace DL
open PySem PySem.Spec PyProof.Rows L2
noncomputable abbrev GR:=En->List D->Option Str
inductive rq (X:Cx) (W:L2.St->Hp->Value->Prop) (c:Str) (ns:List Str) (j:Nat) (e:Expr) (r:GR):Prop
 | mk (t:TE) (p:PE X e t) (k:∀(O:Addr->Prop) (B:Hp) (σ:L2.St) (H:Hp) (env:En) (a C dx:Addr) (us:List V) (ds:List D) (nm:Str) (Q:VK),Gh X.K c ns j a C dx O B σ H env us ds->r env ds=some nm ->
  (∀cv H',X.mg nm=some cv->Kq a H H'->W σ H' cv)->t σ H Q)
inductive HX (X:Cx) (W:L2.St->Hp->Value->Prop) (c:Str) (ns:List Str) (j:Nat) (es:List Expr) (r:GR):Prop
 | mk (t:TA) (p:PA X es t) (k:∀(O:Addr->Prop) (B:Hp) (σ:L2.St) (H:Hp) (env:En) (a C dx:Addr) (us:List V) (ds:List D) (nm:Str) (Q:List V->Hp->Prop),Gh X.K c ns j a C dx O B σ H env us ds->r env ds=some nm ->
  (∀cv H',X.mg nm=some cv->Kq a H H'->W σ H' cv)->t σ H Q)
inductive XG (X:Cx) (W:L2.St->Hp->Value->Prop) (c:Str) (ns:List Str) (j:Nat) (st:Stmt) (r:GR):Prop
 | mk (t:TS) (p:PS X st t) (k:∀(O:Addr->Prop) (B:Hp) (σ:L2.St) (H:Hp) (env:En) (a C dx:Addr) (us:List V) (ds:List D) (nm:Str) (E:Ends),Gh X.K c ns j a C dx O B σ H env us ds->r env ds=some nm ->
  (∀aH H' cv,X.mg nm=some cv->Kq a B H'->W aH H' cv)->t E σ H)
inductive zL (X:Cx) (W:L2.St->Hp->Value->Prop) (c:Str) (ns:List Str) (j:Nat) (st:List Stmt) (r:GR):Prop
 | mk (t:TS) (p:nZ X st t) (k:∀(O:Addr->Prop) (B:Hp) (σ:L2.St) (H:Hp) (env:En) (a C dx:Addr) (us:List V) (ds:List D) (nm:Str) (E:Ends),Gh X.K c ns j a C dx O B σ H env us ds->r env ds=some nm ->
  (∀aH H' cv,X.mg nm=some cv->Kq a B H'->W aH H' cv)->t E σ H)
noncomputable def b9:GR:=λ_ _=>none
noncomputable def F1(f:GE)(r:GR):GR:=λenv ds=>(f env ds).bind λx=>r env x.2
noncomputable def Hf(n:Nat)(ρ:List D->Option Str)(g:GA):GR:=λenv ds=>(g env ds).bind λx=>if x.1.length=n then ρ x.1 else none
noncomputable def fP(n:Nat)(ρ:List D->List D->Option Str)(g:GA):GR:=λenv ds=>(g env ds).bind λx=>if x.1.length=n then ρ x.1 x.2 else none
noncomputable def sZ(r:RF):GR:=λenv _=>(r env).map (·.1)
noncomputable def dF(r:GR)(F:GS)(r':GR):GR:=λenv ds=>match r env ds with
 |some x=>some x
 |none=>match F env ds with
  |some (.nx,env1,br)=>r' env1 br
  |_=>none
noncomputable def dJ(c:Str)(ns:List Str)(j:Nat)(ga:En->Option Bool)(r r':GR):GR:=λenv ds=>match ga (env.set j (.sh (.obj c ns ds))) with
 |some true=>r env ds
 |some false=>r' env ds
 |none=>none
noncomputable def oG(c:Str)(ns:List Str)(j:Nat)(ga:En->Option Bool)(F:GS)(r:GR):Nat->GR
 |0,_,_=>none
 |n+1,env,ds=>match ga (env.set j (.sh (.obj c ns ds))) with
  |some true=>match r env ds with
   |some x=>some x
   |none=>match F env ds with
    |some (.nx,env1,br)=>oG c ns j ga F r n env1 br
    |some (.ct,env1,br)=>oG c ns j ga F r n env1 br
    |_=>none
  |_=>none
noncomputable def XF(c:Str)(ns:List Str)(j:Nat)(m:Nat)(ga:En->Option Bool)(F:GS)(r:GR):GR:=oG c ns j ga F r m
noncomputable def ux(K:aG)(mg:Str->Option Value)(c:Str)(ns:List Str)(j n:Nat)(ρ:List D->List D->Option Str):Sp:=λvs H _ E=>∃(O:Addr->Prop) (p C dx:Addr) (ws us:List V) (as ds:List D) (nm:Str),vs=iQ j (.ref p) ws/\ws.length=n/\iE K mainGlobals c=some (some (.ref C))/\zM K O H/\O p/\H p=some (.ins C dx (ns.zip us))/\ns.length=us.length/\aU K O H us ds/\aU K O H ws as/\ρ as ds=some nm /\
 ∀cv H',mg nm=some cv->Kq p H H'->E cv none H'
section
variable {X:Cx}{W:L2.St->Hp->Value->Prop}{c m:Str}{ns:List Str}{j:Nat}{e o:Expr}{es:List Expr}{st:Stmt}{rest body sa sb:List Stmt}{pos apos np p p2:Pos}{f:GE}{g:GA}{F G:GS}{r r':GR}{fe:En->Option Sl}{cn:Expr}{ga:En->Option Bool}
theorem EG.aI(h:EG X.aI c ns j e f):EG X c ns j e f:=let ⟨t,p,k⟩:=h;⟨t,p.aI,k⟩
theorem AH.aI{q:Nat}(h:AH X.aI c ns j q es g):AH X c ns j q es g:=let ⟨t,p,k⟩:=h;⟨t,λpo pins s σ H Q I hw=>mW (p po pins s σ H Q (I.iA _) hw) (λ_ _ ⟨v,H',I',r,q⟩=>⟨v,H',I'.dI,r,q⟩) λ_ _ z=>gg z,k⟩
theorem AG.aI(h:AG X.aI c ns j es g):AG X c ns j es g:=let ⟨t,p,k⟩:=h;⟨t,λpo pins s σ H Q I hw=>mW (p po pins s σ H Q (I.iA _) hw) (λ_ _ ⟨v,H',I',r,q⟩=>⟨v,H',I'.dI,r,q⟩) λ_ _ z=>gg z,k⟩
theorem SG.aI(h:SG X.aI c ns j st F):SG X c ns j st F:=let ⟨t,p,k⟩:=h;⟨t,λpins s σ H D I hw=>mW (p pins s σ H D (I.iA _) hw) (λ_ _ q=>q.dI) λ_ _ z=>gg z,k⟩
theorem qY.aI(h:qY X.aI c ns j rest F):qY X c ns j rest F:=let ⟨t,p,k⟩:=h;⟨t,p.aI,k⟩
theorem qO:XG X W c ns j st b9:=⟨λ_ _ _=>False,λ_ _ _ _ _ _ h=>h.elim,λ_ _ _ _ _ _ _ _ _ _ _ _ _ e _=>by cases e⟩
theorem Ee(h:rq X W c ns j e r)(h2:AG X c ns j es g)(hs:autoParam (starEach (e::es) X.env=(false,eval e X.env)::starEach es X.env) ra2._auto_1):HX X W c ns j (e::es) r:=by obtain⟨t,pt,k⟩:=h;obtain⟨u,pu,_⟩:=h2;exact⟨_,lX pt pu hs,λO B σ H env a C dx us ds nm Q G e q=>k O B σ H env a C dx us ds nm _ G e q⟩
theorem Hn(h:EG X c ns j e f)(h2:HX X W c ns j es r)(hs:autoParam (starEach (e::es) X.env=(false,eval e X.env)::starEach es X.env) ra2._auto_1):HX X W c ns j (e::es) (F1 f r):=by obtain⟨t,pt,k⟩:=h;obtain⟨u,pu,ku⟩:=h2;refine⟨_,lX pt pu hs,λO B σ H env a C dx us ds nm Q G e q=>?_⟩;obtain⟨⟨d,br⟩,e1,e2⟩:=bind_some e;refine k O B σ H env a C dx us ds d br _ G e1 λv H1 iH k1 G1 _=>?_;exact ku O _ σ H1 env a C dx iH br nm _ G1 e2 λcv H' hc k2=>q cv H' hc (k1.trans k2)
theorem b7K{x1}(h:HX X W c ns j es r):rq X W c ns j (.Tuple es x1 pos) r:=by obtain⟨t,pt,k⟩:=h;exact⟨_,Nj pt,λO B σ H env a C dx us ds nm Q G e q=>k O B σ H env a C dx us ds nm _ G e q⟩
theorem b7L{c':Str}{C f:Addr}{fd:FuncData}{ps:List Str}{n k:Nat}{iN:List Str}{ψ:List D->Option (List D)}(M:Mk X.K C f)(F:bQ X.prog X.w X.K X.mg X.base iq k f fd ps (uy X.K C n iN ψ))(hr:cD (k+1) X.A)(hg:Gl X c')(hm:X.mg c'=some (.ref C))(hb:Binds X.K fd ps [])
  (ha:HX X W c ns j (e::es) r)(d8:autoParam ((c'==("__debug__":Str))=false) ra1._auto_1)(he:autoParam (starEach (e::es) X.env=(false,eval e X.env)::starEach es X.env) ra2._auto_1)(c6:autoParam ((backTo pos (starEach es X.env)).any (·.1)=false) ra2._auto_1):
  rq X W c ns j (.Call (.Name c' p) (e::es) [] pos) r:=by obtain⟨t,pt,ka⟩:=ha;exact⟨_,Lf M F hr hg hm hb .nil (Bd (X:=X)) pt d8 he c6,λO B σ H env a C' Ft us ds nm Q G e q=>ka O B σ H env a C' Ft us ds nm _ G e q⟩
theorem b5B{k:Nat}{fa:Addr}{fd:FuncData}{ps:List Str}{ρ:List D->Option Str}{x:Str}(F:bQ X.prog X.w X.K X.mg X.base (nE X.prog X.w) k fa fd ps (Gw X.K X.mg ps.length ρ))(hr:cD k X.A)(hg:Gl X x)(hm:X.mg x=some (.ref fa))(hk:ud X.K (.ref fa)=true)(hb:Binds X.K fd ps [])
  (hx:Xk X W)(ha:AG X c ns j (e::es) g)(d8:autoParam ((x==("__debug__":Str))=false) ra1._auto_1)(he:autoParam (starEach (e::es) X.env=(false,eval e X.env)::starEach es X.env) ra2._auto_1)(c6:autoParam ((backTo pos (starEach es X.env)).any (·.1)=false) ra2._auto_1):
  rq X W c ns j (.Call (.Name x p) (e::es) [] pos) (Hf ps.length ρ g):=by
 obtain⟨t,pt,ka⟩:=ha;refine⟨λσ H Q=>t σ H λvs H1=>Gw X.K X.mg ps.length ρ (vs++[]) H1 Q λc _ H'=>W σ H' c,λpins s σ H Q I h=>?_,λO B σ H env a C dx us ds nm Q G e q=>?_⟩;.refine FO (BY I hg hm ?_ d8);refine DW (h₀:=X.base) I.ok.mod.yk hk (cU (pt pos pins s σ H _ I h) λus s1 ⟨vs,H1,I1,r,q⟩=>⟨I1.km,?_⟩) he c6;exact KU F hr hb hx I1 r q
 .obtain ⟨⟨as,br⟩,e1,e2⟩:=bind_some e;obtain⟨hl,e3⟩:=uj e2;refine ka O B σ H env a C dx us ds as br _ G e1 λvs H1 iH k1 G1 r1=>?_;rw[qJ];exact⟨OO O σ env,as,nm,G1.rel.dm,r1,by rw[r1.length];exact hl,e3,λcv H' hc s=>q cv H' hc (k1.trans λq u e _=>s q u e)⟩
theorem b4g{k n q:Nat}{fa:Addr}{fd:FuncData}{ps:List Str}{ρ:List D->List D->Option Str}{x:Str}(F:bQ X.prog X.w X.K X.mg X.base (nE X.prog X.w) k fa fd ps (ux X.K X.mg c ns q n ρ))(hr:cD k X.A)(hg:Gl X x)(hm:X.mg x=some (.ref fa))(hk:ud X.K (.ref fa)=true)(hb:Binds X.K fd ps [])
  (hx:Xk X W)(ha:AH X c ns j q (e::es) g)(d8:autoParam ((x==("__debug__":Str))=false) ra1._auto_1)
  (he:autoParam (starEach (e::es) X.env=(false,eval e X.env)::starEach es X.env) ra2._auto_1)(c6:autoParam ((backTo pos (starEach es X.env)).any (·.1)=false) ra2._auto_1):
  rq X W c ns j (.Call (.Name x p) (e::es) [] pos) (fP n ρ g):=by
 obtain⟨t,pt,ka⟩:=ha;refine⟨λσ H Q=>t σ H λvs H1=>ux X.K X.mg c ns q n ρ (vs++[]) H1 Q λc _ H'=>W σ H' c,λpins s σ H Q I h=>?_,λO B σ H env a C dx us ds nm Q G e q=>?_⟩;.refine FO (BY I hg hm ?_ d8);refine DW (h₀:=X.base) I.ok.mod.yk hk (cU (pt pos pins s σ H _ I h) λus s1 ⟨vs,H1,I1,r,q⟩=>⟨I1.km,?_⟩) he c6;exact KU F hr hb hx I1 r q
 .obtain ⟨⟨as,br⟩,e1,e2⟩:=bind_some e;obtain⟨hl,e3⟩:=uj e2;refine ka O B σ H env a C dx us ds as br _ G e1 λvs H1 iH k1 G1 r1=>?_;rw[qJ];exact⟨OO O σ env,a,C,dx,vs,iH,as,br,nm,rfl,by rw[r1.length];exact hl,G.cn,G1.rel.dm,.inl G.op,G1.ob,G1.ln,G1.is,r1,e3,λcv H' hc k2=>q cv H' hc (k1.trans k2)⟩
def Z6(X:Cx)(c:Str)(ns:List Str)(m:Str)(n k:Nat)(ρ:List D->List D->Option Str):Prop:=n5 X.K c λC=>∃f fd ps,aZ X.K C m f/\Binds X.K fd ps []/\bQ X.prog X.w X.K X.mg X.base (nE X.prog X.w) k f fd ps (ux X.K X.mg c ns 0 n ρ)
theorem b4f{k n:Nat}{ρ:List D->List D->Option Str}{y:Str}{pl:Sem Bool}(T:Z6 X c ns m n k ρ)(hx:Xk X W)(hr:cD k X.A)(hm:m∉ns)(hN:X.N[j]?=some y)(hv:jJ X.env.scope y)(ha:AG X c ns j (e::es) g)(hd:autoParam ((y==("__debug__":Str))=false) ra1._auto_1)(dC:autoParam ((y==("__classdict__":Str))=false) ra1._auto_1)
  (jB:autoParam (starEach (e::es) X.env=(false,eval e X.env)::starEach es X.env) ra2._auto_1)(c6:autoParam ((backTo pos (starEach es X.env)).any (·.1)=false) ra2._auto_1)
  (ht:autoParam (eval (.Call (.Attribute (.Name y p2) m apos) (e::es) [] pos) X.env=(eval (.Name y p2) X.env >>= λov=>standAt apos.atName >>= λ_=>holding [ov] (getMethod ov m pl) >>= λz=>callWith pos z.1 z.2 (backTo pos (starEach (e::es) X.env)) (backToKw pos (keywordEach [] X.env)))) ra2._auto_1):
  rq X W c ns j (.Call (.Attribute (.Name y p2) m apos) (e::es) [] pos) (fP n ρ g):=by obtain⟨t,pt,ka⟩:=ha;refine⟨_,b3v hx (wC hN hv hd dC) hr pt jB c6 ht,λO B σ H env a C dx us ds nm Q G e q=>?_⟩;obtain⟨⟨as,br⟩,e1,e2⟩:=bind_some e;obtain⟨hl,e3⟩:=uj e2;obtain⟨c1,f,fd,ps,c2,c3,c4⟩:=T C G.cn;refine⟨_,G.a,⟨a,C,dx,_,f,fd,ps,_,rfl,G.ob,c1,c2,Hu hm,c3,c4,?_⟩⟩;refine ka O B σ H env a C dx us ds as br _ G e1 λvs H1 iH k1 G1 r1=>?_;rw[qJ];exact⟨OO O σ env,a,C,dx,vs,iH,as,br,nm,rfl,by rw[r1.length];exact hl,G.cn,G1.rel.dm,.inl G.op,G1.ob,G1.ln,G1.is,r1,e3,λcv H' hc k2=>q cv H' hc (k1.trans k2)⟩
theorem b2w{pl:Sem Bool}{ta:TE}{k:Nat}(hx:Xk X W)(he:PE X o ta)(hr:cD k X.A)
  (ht:autoParam (eval (.Call (.Attribute o m apos) [] [] pos) X.env=(eval o X.env >>= λov=>standAt apos.atName >>= λ_=>holding [ov] (getMethod ov m pl) >>= λz=>callWith pos z.1 z.2 (backTo pos (starEach [] X.env)) (backToKw pos (keywordEach [] X.env)))) ra2._auto_1):
  PE X (.Call (.Attribute o m apos) [] [] pos) (λσ H Q=>ta σ H (Bx X W m k Ez σ Q)):=by intro pins s σ H Q I h;refine GY (pl:=pl) (cU (he pins s σ H _ I h) λu s1 ⟨x,H1,I1,rx,a,C,dx,fs,f,fd,ps,sp,ex,ea,c,hm,l,hb,F,q⟩=>?_) ht;subst ex;obtain rfl:u=mV a:=rx;exact NV I1 ea c hm l (Wg (first:=[.ref a]) I1.km hm.kp (KU (us:=[.ref a]) (vs:=[.ref a]) F hr hb hx I1 (.cons rfl .nil) q))
theorem b2Q{k:Nat}{ρ:List D->List D->Option Str}{y:Str}{pl:Sem Bool}(T:Z6 X c ns m 0 k ρ)(hx:Xk X W)(hr:cD k X.A)(hm:m∉ns)(hN:X.N[j]?=some y)(hv:jJ X.env.scope y)(hd:autoParam ((y==("__debug__":Str))=false) ra1._auto_1)(dC:autoParam ((y==("__classdict__":Str))=false) ra1._auto_1)
  (ht:autoParam (eval (.Call (.Attribute (.Name y p2) m apos) [] [] pos) X.env=(eval (.Name y p2) X.env >>= λov=>standAt apos.atName >>= λ_=>holding [ov] (getMethod ov m pl) >>= λz=>callWith pos z.1 z.2 (backTo pos (starEach [] X.env)) (backToKw pos (keywordEach [] X.env)))) ra2._auto_1):
  rq X W c ns j (.Call (.Attribute (.Name y p2) m apos) [] [] pos) (fP 0 ρ aN):=by refine⟨_,b2w hx (wC hN hv hd dC) hr ht,λO B σ H env a C dx us ds nm Q G e q=>?_⟩;have e3:ρ [] ds=some nm:=e;obtain⟨c1,f,fd,ps,c2,c3,c4⟩:=T C G.cn;refine⟨_,G.a,⟨a,C,dx,_,f,fd,ps,_,rfl,G.ob,c1,c2,Hu hm,c3,c4,?_⟩⟩;exact⟨OO O σ env,a,C,dx,[],us,[],ds,nm,rfl,rfl,G.cn,G.rel.dm,.inl G.op,G.ob,G.ln,G.is,.nil,e3,λcv H' hc k2=>q cv H' hc k2⟩
theorem C4{r:RF}(h:XV X W st r):XG X W c ns j st (sZ r):=by obtain⟨t,p,k⟩:=h;refine⟨t,p,λO B σ H env a C dx us ds nm E G e q=>?_⟩;obtain⟨⟨P0,af⟩,e1,e2⟩:=map_some e;cases e2;exact k O B σ H env P0 af E G.rel e1 λaH H' cv hc R' _=>q aH H' cv hc λq u e _=>R'.same q u e
theorem b8r{i:Nat}{x:Str}{pos':Pos}(hN:X.N.Nodup)(hi:X.N[i]?=some x)(hx:Loc X.env.scope x)(h:rq X W c ns j e r)(hs:autoParam (swapsWith e (some (.Name x pos')) pos.line X.env=pure false) ra2._auto_1)
  (hf:autoParam (X.fn x=true\/X.env.scope.names.lookup x=some .local) ra0._auto_1):XG X W c ns j (.Assign [.Name x pos'] e pos) r:=by obtain⟨t,p,k⟩:=h;exact⟨_,F0 hN hi hx p hs hf,λO B σ H env a C dx us ds nm E G e q=>k O B σ H env a C dx us ds nm _ G e λcv H' hc k1=>q σ H' cv hc λq u e n=>k1 q u (G.rel.same q u e) n⟩
theorem Hl(h:rq X W c ns j e r)(hs:autoParam (swapsWith e none pos.line X.env=pure false) ra2._auto_1):XG X W c ns j (.Expr e pos) r:=by obtain⟨t,p,k⟩:=h;exact⟨_,NF p hs,λO B σ H env a C dx us ds nm E G e q=>k O B σ H env a C dx us ds nm _ G e λcv H' hc k1=>q σ H' cv hc λq u e n=>k1 q u (G.rel.same q u e) n⟩
theorem wz(h:rq X W c ns j e r):XG X W c ns j (.Return (some e) pos) r:=by obtain⟨t,p,k⟩:=h;exact⟨_,La p,λO B σ H env a C dx us ds nm E G e q=>k O B σ H env a C dx us ds nm _ G e λcv H' hc k1=>q σ H' cv hc λq u e n=>k1 q u (G.rel.same q u e) n⟩
theorem jl(h:XG X W c ns j st r):zL X W c ns j [st] r:=let ⟨t,p,k⟩:=h;⟨t,NH p,k⟩
theorem oK:zL X W c ns j [] b9:=⟨_,Li,λ_ _ _ _ _ _ _ _ _ _ _ _ _ e _=>by cases e⟩
theorem gi(h:XG X W c ns j st r)(hv:SG X c ns j st F)(h2:zL X W c ns j rest r'):zL X W c ns j (st::rest) (dF r F r'):=by
 obtain⟨t,p,k⟩:=h;obtain⟨v,pv,kv⟩:=hv;obtain⟨u,p',k'⟩:=h2;refine⟨λD σ H=>t { D with nx:=u D } σ H\/v { D with nx:=u D } σ H,λpins s σ H D I hw=>?_,λO B σ H env a C dx us ds nm E G e q=>?_⟩
 .rcases hw with hw | hw;.exact Bn p p' pins s σ H D I hw
  .exact Bn pv p' pins s σ H D I hw
 .unfold dF at e
  cases hr:r env ds with
  |some x => rw[hr] at e;obtain rfl:=gY e;exact .inl (k O B σ H env a C dx us ds x _ G hr q)
  |none =>
   rw[hr] at e
   cases hF:F env ds with
   |none=>rw[hF] at e;cases e
   |some x =>
    obtain⟨fl,env1,br⟩:=x;rw[hF] at e
    cases fl with
    |nx=>exact .inr (kv O B σ H env a C dx us ds .nx env1 br _ G hF λaH H' us' G'=>k' O _ aH H' env1 a C dx us' br nm E G' e λft H2 cv hc k2=>q ft H2 cv hc λq u e n=>k2 q u (by unfold iI;rw[if_neg n];exact e) n)
    |bk=>cases e
    |ct=>cases e
    |rt z=>cases e
theorem oI(hc:TV X cn ga)(ha:zL X W c ns j sa r)(hb:zL X W c ns j sb r'):XG X W c ns j (.If cn sa sb pos) (dJ c ns j ga r r'):=by
 obtain⟨tc,pc,kc⟩:=hc;obtain⟨t,p,k⟩:=ha;obtain⟨u,p',k'⟩:=hb;refine⟨_,M6 pc p p',λO B σ H env a C dx us ds nm E G e q=>?_⟩;unfold dJ at e
 cases h:ga (env.set j (.sh (.obj c ns ds))) with
 |none=>rw[h] at e;cases e
 |some x =>
  rw[h] at e;refine kc _ B σ H _ x _ G.view h λH1 s1=>?_
  cases x with
  |true => rw[if_pos rfl];exact k O B σ H1 env a C dx us ds nm E (G.grow s1) e q
  |false => rw[if_neg zq];exact k' O B σ H1 env a C dx us ds nm E (G.grow s1) e q
theorem b4N(m:Nat)(hp:PassesOwn (model X.prog X.w) X.A X.env X.xe)(hc:TV X cn ga)(hb:qY X c ns j body F)(hx:zL X W c ns j body r):XG X W c ns j (.While cn body [] pos) (XF c ns j m ga F r):=by
 obtain⟨tc,pc,kc⟩:=hc;obtain⟨tb,pb,kb⟩:=hb;obtain⟨tx,px,kx⟩:=hx;have both:nZ X body (λD σ H=>tx D σ H\/tb D σ H):=λpins s σ H D I hw=>hw.elim (px pins s σ H D I) (pb pins s σ H D I);refine⟨_,Yk hp pc both,λO B σ H env a C dx us ds nm E G e q=>?_⟩;refine⟨λn jw H1=>∃env1 iH br,Gh X.K c ns j a C dx O (iI a B H1) jw H1 env1 iH br/\oG c ns j ga F r n env1 br=some nm,⟨m,env,us,ds,by rw[G.ph];exact G,e⟩,?_⟩;rintro n jw H1 ⟨env1,iH,br,G1,e1⟩
 cases n with
 |zero=>cases e1
 |succ n =>
  rw[oG] at e1
  cases h:ga (env1.set j (.sh (.obj c ns br))) with
  |none=>rw[h] at e1;cases e1
  |some x =>
   rw[h] at e1;refine kc _ _ jw H1 _ x _ G1.view h λH2 s2=>?_;have G2:=G1.grow s2;have e2:=G2.ph;rw[qQ] at e2;rw[<-e2] at G2
   cases x with
   |false=>cases e1
   |true =>
    rw[if_pos rfl];refine⟨λaH H'=>∃cC n8 mQ,Gh X.K c ns j a C dx O (iI a B H') aH H' cC n8 mQ/\oG c ns j ga F r n cC mQ=some nm,λaH H' ⟨cC,n8,mQ,a1,a2⟩=>⟨n,A1 n,cC,n8,mQ,a1,a2⟩,?_⟩;dsimp only at e1
    cases hr:r env1 br with
    |some y => rw[hr] at e1;obtain rfl:=gY e1;exact .inl (kx O _ jw H2 env1 a C dx iH br y _ G2 hr λaH H' cv hc k2=>q aH H' cv hc λq u e n=>k2 q u (by unfold iI;rw[if_neg n];exact e) n)
    |none =>
     rw[hr] at e1;dsimp only at e1
     cases hF:F env1 br with
     |none=>rw[hF] at e1;cases e1
     |some y =>
      obtain⟨f2,cC,mQ⟩:=y;rw[hF] at e1;refine .inr (kb O _ jw H2 env1 a C dx iH br f2 cC mQ _ G2 hF ?_)
      cases f2 with
      |nx=>exact λft H3 zS G3=>⟨cC,zS,mQ,by rw[qQ] at G3;exact G3,e1⟩
      |ct=>exact λft H3 zS G3=>⟨cC,zS,mQ,by rw[qQ] at G3;exact G3,e1⟩
      |bk=>cases e1
      |rt r=>cases e1
end
section
variable {P:Program}{w:World}{K:aG}{mg:Str->Option Value}{base:Heap}
noncomputable def sC(r:GR)(j N:Nat)(as ds:List D):Option Str:=r (C6 j N as) ds
theorem Wt{x qual:Str}{st:Stmt}{f:Addr}{fd:FuncData}{N ps:List Str}{k n j:Nat}{c:Str}{ns:List Str}{r:GR}(Fn:ur K x qual st f fd)(S:bP N ps (dR st))(vt:ps.length=n+1)(hj:j<=n)
  (bu:∀(X:Cx) (W:L2.St->Hp->Value->Prop),X.prog=P->X.w=w->X.K=K->X.mg=mg->X.base=base->Fx X.aI N (dR st) k->Xk X W->Xr X W->PassesOwn (model X.prog X.w) X.A X.env X.xe->zL X W c ns j (iG st) r):bQ P w K mg base (nE P w) (k+1) f fd ps (ux K mg c ns j n (sC r j N.length)):=by
 obtain⟨oc,od,kV,doc,pm,an,fu,ct,Ad,rfl,lk,dC⟩:=Fn.ex;refine M0 lk dC S (λvs H Q E h=>?_) λA outer s H vs Q E hr tR=>?_;.obtain ⟨O,p,C,dx,ws,us,as,ds,nm,rfl,hl,_⟩:=h;rw[F6,hl,vt]
 obtain⟨O,p,C,dx,ws,us,as,ds,nm,rfl,hl,cn,dm,op,ob,ln,iu,hi,e,q⟩:=tR;obtain⟨t,pt,kk⟩:=bu (hU (nE P w) P w K mg base N qual (dR st) f fu A outer s H E) (λ_ H' c=>E c none H') rfl rfl rfl rfl rfl ⟨rfl,rfl,rfl,λ_ _=>rfl,BJ,hr,S.nd,λ_=>⟨rfl,rfl,rfl⟩⟩ R5 RX VS;exact⟨t,pt,kk O H _ H _ p C dx us ds nm _ (X9 (by rw[hl];exact hj) cn dm op ob ln iu hi) e λaH H' cv hc k1=>q cv H' hc k1⟩
end
end DL
namespace DL
open PySem PySem.Spec PyProof.Rows L2
section
variable {P:Program}{w:World}{K:aG}{mg:Str->Option Value}{base:Heap}{c:Str}{ns:List Str}
def Og(P:Program)(w:World)(K:aG)(mg:Str->Option Value)(base:Heap)(c:Str)(ns:List Str)(j:Nat)(x:Str)(st:Stmt)(ps:List Str)(i:Nat)(φ:List D->List D->Option (D×List D)):Prop:=∃f fd,Def K mg x st ps f fd/\bQ P w K mg base iq i f fd ps (IA K c ns j (ps.length-1) φ)
def Xg(P:Program)(w:World)(K:aG)(mg:Str->Option Value)(base:Heap)(c:Str)(ns:List Str)(j:Nat)(x:Str)(st:Stmt)(ps:List Str)(i:Nat)(ρ:List D->List D->Option Str):Prop:=∃f fd,Def K mg x st ps f fd/\bQ P w K mg base (nE P w) i f fd ps (ux K mg c ns j (ps.length-1) ρ)
theorem D1{x:Str}{st:Stmt}{f:Addr}{fd:FuncData}{N ps:List Str}{k j:Nat}{F:GS}(D':Def K mg x st ps f fd)(bu:∀X:Cx,Sx X P w K mg base->Fx X N (dR st) k->qY X c ns j (iG st) F)(hj:autoParam (j<ps.length) ra1._auto_1)
  (S:autoParam (bP N ps (dR st)) ra6._auto_1):Og P w K mg base c ns j x st ps (k+1) (fF F j N.length):=
 ⟨f,fd,D',Kb D'.fn S (by omega) (by omega) λX e1 e2 e3 e4 e5=>by subst e1 e2 e3 e4 e5;exact bu X (.mk X)⟩
theorem D8{x:Str}{st:Stmt}{f:Addr}{fd:FuncData}{N ps:List Str}{k j:Nat}{r:GR}(D':Def K mg x st ps f fd)(bu:∀(X:Cx) (W:L2.St->Hp->Value->Prop),Sx X P w K mg base->Fx X.aI N (dR st) k->Xk X W->Xr X W->PassesOwn (model X.prog X.w) X.A X.env X.xe->zL X W c ns j (iG st) r)(hj:autoParam (j<ps.length) ra1._auto_1)
  (S:autoParam (bP N ps (dR st)) ra6._auto_1):Xg P w K mg base c ns j x st ps (k+1) (sC r j N.length):=
 ⟨f,fd,D',Wt D'.fn S (by omega) (by omega) λX W e1 e2 e3 e4 e5=>by subst e1 e2 e3 e4 e5;exact bu X W (.mk X)⟩
def Mg(P:Program)(w:World)(K:aG)(mg:Str->Option Value)(base:Heap)(c:Str)(ns:List Str)(m:Str)(n k:Nat)(φ:List D->List D->Option (D×List D)):Prop:=n5 K c λC=>∃f fd ps,aZ K C m f/\Binds K fd ps []/\bQ P w K mg base iq k f fd ps (IA K c ns 0 n φ)
def Dw(P:Program)(w:World)(K:aG)(mg:Str->Option Value)(base:Heap)(c:Str)(ns:List Str)(m:Str)(n k:Nat)(ρ:List D->List D->Option Str):Prop:=n5 K c λC=>∃f fd ps,aZ K C m f/\Binds K fd ps []/\bQ P w K mg base (nE P w) k f fd ps (ux K mg c ns 0 n ρ)
theorem Np{x qual:Str}{st:Stmt}{f C:Addr}{fd:FuncData}{N ps:List Str}{k n:Nat}{F:GS}(h:df K c C)(hm:aZ K C x f)(D':cy K f x qual st ps fd)(bu:∀X:Cx,Sx X P w K mg base->Fx X N (dR st) k->qY X c ns 0 (iG st) F)(hn:autoParam (ps.length=n+1) ra2._auto_1)
  (S:autoParam (bP N ps (dR st)) ra6._auto_1):Mg P w K mg base c ns x n (k+1) (fF F 0 N.length):=
 h.n ⟨f,fd,ps,hm,D'.bd,Kb D'.fn S hn (FG _) λX e1 e2 e3 e4 e5=>by subst e1 e2 e3 e4 e5;exact bu X (.mk X)⟩
theorem SO{x qual:Str}{st:Stmt}{f C:Addr}{fd:FuncData}{N ps:List Str}{k n:Nat}{r:GR}(h:df K c C)(hm:aZ K C x f)(D':cy K f x qual st ps fd)(bu:∀(X:Cx) (W:L2.St->Hp->Value->Prop),Sx X P w K mg base->Fx X.aI N (dR st) k->Xk X W->Xr X W->PassesOwn (model X.prog X.w) X.A X.env X.xe->zL X W c ns 0 (iG st) r)(hn:autoParam (ps.length=n+1) ra2._auto_1)
  (S:autoParam (bP N ps (dR st)) ra6._auto_1):Dw P w K mg base c ns x n (k+1) (sC r 0 N.length):=
 h.n ⟨f,fd,ps,hm,D'.bd,Wt D'.fn S hn (FG _) λX W e1 e2 e3 e4 e5=>by subst e1 e2 e3 e4 e5;exact bu X W (.mk X)⟩
end
section
variable {X:Cx}{W:L2.St->Hp->Value->Prop}{N:List Str}{sc:Scope}{k i j n:Nat}{full:Bool}{e o:Expr}{es:List Expr}{m c f:Str}{ns:List Str}{pos p apos pos' p1 p2:Pos}{fe:En->Option Sl}{ge:GE}{ga:GA}{r:GR}
theorem Fx.gm(h:Fx X N sc k full){y:Str}(ha:AG X c ns j es ga)(hN:autoParam (N[j]?=some y) ra2._auto_1)(hv:autoParam (jJ sc y) ra4._auto_1)(hd:autoParam ((y==("__debug__":Str))=false) ra2._auto_1)(dC:autoParam ((y==("__classdict__":Str))=false) ra2._auto_1)
  (he:autoParam (starEach (.Name y p2::es) X.env=(false,eval (.Name y p2) X.env)::starEach es X.env) ra2._auto_1):AH X c ns j 0 (.Name y p2::es) ga:=b76 (h.ix hN) (h.uv hv) ha hd dC he
theorem Fx.jD(h:Fx X N sc k full){x:Str}{st:Stmt}{ps:List Str}{φ:List D->List D->Option (D×List D)}{q:Nat}(O:Og X.prog X.w X.K X.mg X.base c ns q x st ps i φ)(ha:AH X c ns j q (e::es) ga)(hi:autoParam (i<=k) ra1._auto_1)(hg:autoParam (sc.names.lookup x=some .globalImplicit) ra2._auto_1)(d8:autoParam ((x==("__debug__":Str))=false) ra2._auto_1)(he:autoParam (starEach (e::es) X.env=(false,eval e X.env)::starEach es X.env) ra2._auto_1)(c6:autoParam ((backTo pos (starEach es X.env)).any (·.1)=false) ra2._auto_1):
  EG X c ns j (.Call (.Name x p) (e::es) [] pos) (bY (ps.length-1) φ ga):=by obtain⟨f,fd,D',F⟩:=O;exact b5F F (h.room.mono hi) (h.g hg) D'.m D'.fn.kp D'.bd ha d8 he c6
theorem Fx.jC(h:Fx X.aI N sc k full){x:Str}{st:Stmt}{ps:List Str}{ρ:List D->List D->Option Str}{q:Nat}(O:Xg X.prog X.w X.K X.mg X.base c ns q x st ps i ρ)(hx:Xk X W)(ha:AH X c ns j q (e::es) ga)(hi:autoParam (i<=k) ra1._auto_1)(hg:autoParam (sc.names.lookup x=some .globalImplicit) ra2._auto_1)(d8:autoParam ((x==("__debug__":Str))=false) ra2._auto_1)(he:autoParam (starEach (e::es) X.env=(false,eval e X.env)::starEach es X.env) ra2._auto_1)(c6:autoParam ((backTo pos (starEach es X.env)).any (·.1)=false) ra2._auto_1):
  rq X W c ns j (.Call (.Name x p) (e::es) [] pos) (fP (ps.length-1) ρ ga):=by obtain⟨f,fd,D',F⟩:=O;exact b4g F (h.room.mono hi) (h.g hg) D'.m D'.fn.kp D'.bd hx ha d8 he c6
theorem Fx.gmt(h:Fx X N sc k full){y:Str}{φ:List D->List D->Option (D×List D)}(T:Mg X.prog X.w X.K X.mg X.base c ns m n i φ)(ha:AG X c ns j (e::es) ga)(hi:autoParam (i<=k) ra1._auto_1)(hm:autoParam (m∉ns) ra8._auto_1)(hN:autoParam (N[j]?=some y) ra2._auto_1)(hv:autoParam (jJ sc y) ra4._auto_1)(hd:autoParam ((y==("__debug__":Str))=false) ra2._auto_1)(dC:autoParam ((y==("__classdict__":Str))=false) ra2._auto_1){pl:Sem Bool}
  (jB:autoParam (starEach (e::es) X.env=(false,eval e X.env)::starEach es X.env) ra2._auto_1)(c6:autoParam ((backTo pos (starEach es X.env)).any (·.1)=false) ra2._auto_1)
  (ht:autoParam (eval (.Call (.Attribute (.Name y p2) m apos) (e::es) [] pos) X.env=(eval (.Name y p2) X.env >>= λov=>standAt apos.atName >>= λ_=>holding [ov] (getMethod ov m pl) >>= λz=>callWith pos z.1 z.2 (backTo pos (starEach (e::es) X.env)) (backToKw pos (keywordEach [] X.env)))) ra2._auto_1):
  EG X c ns j (.Call (.Attribute (.Name y p2) m apos) (e::es) [] pos) (bY n φ ga):=b5E (pl:=pl) T (h.room.mono hi) hm (h.ix hN) (h.uv hv) ha hd dC jB c6 ht
theorem Fx.gf(h:Fx X N sc k full){y:Str}{φ:List D->List D->Option (D×List D)}(T:Mg X.prog X.w X.K X.mg X.base c ns m 0 i φ)(hi:autoParam (i<=k) ra1._auto_1)(hm:autoParam (m∉ns) ra8._auto_1)(hN:autoParam (N[j]?=some y) ra2._auto_1)(hv:autoParam (jJ sc y) ra4._auto_1)(hd:autoParam ((y==("__debug__":Str))=false) ra2._auto_1)(dC:autoParam ((y==("__classdict__":Str))=false) ra2._auto_1){pl:Sem Bool}
  (ht:autoParam (eval (.Call (.Attribute (.Name y p2) m apos) [] [] pos) X.env=(eval (.Name y p2) X.env >>= λov=>standAt apos.atName >>= λ_=>holding [ov] (getMethod ov m pl) >>= λz=>callWith pos z.1 z.2 (backTo pos (starEach [] X.env)) (backToKw pos (keywordEach [] X.env)))) ra2._auto_1):
  EG X c ns j (.Call (.Attribute (.Name y p2) m apos) [] [] pos) (bY 0 φ aN):=b4m (pl:=pl) T (h.room.mono hi) hm (h.ix hN) (h.uv hv) hd dC ht
theorem Fx.mM(h:Fx X.aI N sc k full){y:Str}{ρ:List D->List D->Option Str}(T:Dw X.prog X.w X.K X.mg X.base c ns m n i ρ)(hx:Xk X W)(ha:AG X c ns j (e::es) ga)(hi:autoParam (i<=k) ra1._auto_1)(hm:autoParam (m∉ns) ra8._auto_1)(hN:autoParam (N[j]?=some y) ra2._auto_1)(hv:autoParam (jJ sc y) ra4._auto_1)(hd:autoParam ((y==("__debug__":Str))=false) ra2._auto_1)(dC:autoParam ((y==("__classdict__":Str))=false) ra2._auto_1){pl:Sem Bool}
  (jB:autoParam (starEach (e::es) X.env=(false,eval e X.env)::starEach es X.env) ra2._auto_1)(c6:autoParam ((backTo pos (starEach es X.env)).any (·.1)=false) ra2._auto_1)
  (ht:autoParam (eval (.Call (.Attribute (.Name y p2) m apos) (e::es) [] pos) X.env=(eval (.Name y p2) X.env >>= λov=>standAt apos.atName >>= λ_=>holding [ov] (getMethod ov m pl) >>= λz=>callWith pos z.1 z.2 (backTo pos (starEach (e::es) X.env)) (backToKw pos (keywordEach [] X.env)))) ra2._auto_1):
  rq X W c ns j (.Call (.Attribute (.Name y p2) m apos) (e::es) [] pos) (fP n ρ ga):=b4f (pl:=pl) T hx (h.room.mono hi) hm (h.ix hN) (h.uv hv) ha hd dC jB c6 ht
theorem Fx.qy(h:Fx X.aI N sc k full){y:Str}{ρ:List D->List D->Option Str}(T:Dw X.prog X.w X.K X.mg X.base c ns m 0 i ρ)(hx:Xk X W)(hi:autoParam (i<=k) ra1._auto_1)(hm:autoParam (m∉ns) ra8._auto_1)(hN:autoParam (N[j]?=some y) ra2._auto_1)(hv:autoParam (jJ sc y) ra4._auto_1)(hd:autoParam ((y==("__debug__":Str))=false) ra2._auto_1)(dC:autoParam ((y==("__classdict__":Str))=false) ra2._auto_1){pl:Sem Bool}
  (ht:autoParam (eval (.Call (.Attribute (.Name y p2) m apos) [] [] pos) X.env=(eval (.Name y p2) X.env >>= λov=>standAt apos.atName >>= λ_=>holding [ov] (getMethod ov m pl) >>= λz=>callWith pos z.1 z.2 (backTo pos (starEach [] X.env)) (backToKw pos (keywordEach [] X.env)))) ra2._auto_1):
  rq X W c ns j (.Call (.Attribute (.Name y p2) m apos) [] [] pos) (fP 0 ρ aN):=b2Q (pl:=pl) T hx (h.room.mono hi) hm (h.ix hN) (h.uv hv) hd dC ht
theorem Fx.JY(h:Fx X N sc k full){x:Str}{st:Stmt}{ps:List Str}{φ:List D->Option Sl}(O:Oz X.prog X.w X.K X.mg X.base x st ps i φ)(ha:AG X c ns j (e::es) ga)(hi:autoParam (i<=k) ra1._auto_1)(hg:autoParam (sc.names.lookup x=some .globalImplicit) ra2._auto_1)(d8:autoParam ((x==("__debug__":Str))=false) ra2._auto_1)(he:autoParam (starEach (e::es) X.env=(false,eval e X.env)::starEach es X.env) ra2._auto_1)(c6:autoParam ((backTo pos (starEach es X.env)).any (·.1)=false) ra2._auto_1):
  EG X c ns j (.Call (.Name x p) (e::es) [] pos) (D2 ps.length φ ga):=by obtain⟨f,fd,D',F⟩:=O;exact b7W F (h.room.mono hi) (h.g hg) D'.m D'.fn.kp D'.bd ha d8 he c6
theorem Fx.JW(h:Fx X.aI N sc k full){x:Str}{st:Stmt}{ps:List Str}{ρ:List D->Option Str}(O:Xz X.prog X.w X.K X.mg X.base x st ps i ρ)(hx:Xk X W)(ha:AG X c ns j (e::es) ga)(hi:autoParam (i<=k) ra1._auto_1)(hg:autoParam (sc.names.lookup x=some .globalImplicit) ra2._auto_1)(d8:autoParam ((x==("__debug__":Str))=false) ra2._auto_1)(he:autoParam (starEach (e::es) X.env=(false,eval e X.env)::starEach es X.env) ra2._auto_1)(c6:autoParam ((backTo pos (starEach es X.env)).any (·.1)=false) ra2._auto_1):
  rq X W c ns j (.Call (.Name x p) (e::es) [] pos) (Hf ps.length ρ ga):=by obtain⟨f,fd,D',F⟩:=O;exact b5B F (h.room.mono hi) (h.g hg) D'.m D'.fn.kp D'.bd hx ha d8 he c6
theorem Fx.tU{c':Str}{iN:List Str}{ψ:List D->Option (List D)}(h:Fx X N sc k full)(T:iY X.prog X.w X.K X.mg X.base c' n iN i ψ)(ha:AG X c ns j (e::es) ga)(hi:autoParam (i+1<=k) ra1._auto_1)(hg:autoParam (sc.names.lookup c'=some .globalImplicit) ra2._auto_1)(d8:autoParam ((c'==("__debug__":Str))=false) ra2._auto_1)
  (he:autoParam (starEach (e::es) X.env=(false,eval e X.env)::starEach es X.env) ra2._auto_1)(c6:autoParam ((backTo pos (starEach es X.env)).any (·.1)=false) ra2._auto_1):EG X c ns j (.Call (.Name c' p) (e::es) [] pos) (mP c' n iN ψ ga):=by obtain⟨C,f,fd,ps,M,F,hm,hn,hb⟩:=T;exact Kh M F (h.room.mono hi) (h.g hg) hm hn hb ha d8 he c6
theorem Fx.r0{c':Str}{iN:List Str}{ψ:List D->Option (List D)}(h:Fx X.aI N sc k full)(T:iY X.prog X.w X.K X.mg X.base c' n iN i ψ)(ha:HX X W c ns j (e::es) r)(hi:autoParam (i+1<=k) ra1._auto_1)(hg:autoParam (sc.names.lookup c'=some .globalImplicit) ra2._auto_1)(d8:autoParam ((c'==("__debug__":Str))=false) ra2._auto_1)
  (he:autoParam (starEach (e::es) X.env=(false,eval e X.env)::starEach es X.env) ra2._auto_1)(c6:autoParam ((backTo pos (starEach es X.env)).any (·.1)=false) ra2._auto_1):rq X W c ns j (.Call (.Name c' p) (e::es) [] pos) r:=by obtain⟨C,f,fd,ps,M,F,hm,hn,hb⟩:=T;exact b7L M F (h.room.mono hi) (h.g hg) hm hb ha d8 he c6
theorem Fx.cJ(h:Fx X N sc k full)(i:Nat){x:Str}(he:EG X c ns j e ge)(Cr:autoParam (i≠j) ra1._auto_1)(hi:autoParam (N[i]?=some x) ra2._auto_1)(hx:autoParam (Loc sc x) ra5._auto_1)(hs:autoParam (swapsWith e (some (.Name x pos')) pos.line X.env=pure false) ra2._auto_1)(hf:autoParam (full=true\/sc.names.lookup x=some .local) ra5._auto_1):
  SG X c ns j (.Assign [.Name x pos'] e pos) (ed i ge):=b8M h.tL (h.ix hi) (h.loc hx) Cr he hs (h.Cc hf)
theorem Fx.DQ(h:Fx X N sc k full)(i:Nat){x:Str}(he:EV X e fe)(Cr:autoParam (i≠j) ra1._auto_1)(hi:autoParam (N[i]?=some x) ra2._auto_1)(hx:autoParam (Loc sc x) ra5._auto_1)(hs:autoParam (swapsWith e (some (.Name x pos')) pos.line X.env=pure false) ra2._auto_1)(hf:autoParam (full=true\/sc.names.lookup x=some .local) ra5._auto_1):
  SG X c ns j (.Assign [.Name x pos'] e pos) (Nc i fe):=b6K h.tL (h.ix hi) (h.loc hx) Cr he hs (h.Cc hf)
theorem Fx.gE(h:Fx X.aI N sc k full)(i:Nat){x:Str}(he:rq X W c ns j e r)(hi:autoParam (N[i]?=some x) ra2._auto_1)(hx:autoParam (Loc sc x) ra5._auto_1)(hs:autoParam (swapsWith e (some (.Name x pos')) pos.line X.env=pure false) ra2._auto_1)(hf:autoParam (full=true\/sc.names.lookup x=some .local) ra5._auto_1):
  XG X W c ns j (.Assign [.Name x pos'] e pos) r:=b8r h.tL (h.ix hi) (h.loc hx) he hs (h.Cc hf)
theorem Fx.JX(h:Fx X N sc k full)(i:Nat){x:Str}(hN:autoParam (N[i]?=some x) ra2._auto_1)(hv:autoParam (jJ sc x) ra4._auto_1)(hd:autoParam ((x==("__debug__":Str))=false) ra2._auto_1)(dC:autoParam ((x==("__classdict__":Str))=false) ra2._auto_1):SG X c ns j (.Return (some (.Name x p)) pos) (K5 i):=b6L (h.ix hN) (h.uv hv) hd dC
theorem Fx.QH(h:Fx X N sc k full){C:Addr}{f' x:Str}{p1 zT:Pos}(kc:df X.K c C)(na:ak X.K C f')(he:EV X e fe)(hm:autoParam (f'∈ns) ra8._auto_1)(Gz:autoParam (ns.length<1000) ra8._auto_1)(hN:autoParam (N[j]?=some x) ra2._auto_1)(hv:autoParam (jJ sc x) ra4._auto_1)(hd:autoParam ((x==("__debug__":Str))=false) ra2._auto_1)(dC:autoParam ((x==("__classdict__":Str))=false) ra2._auto_1):
  SG X c ns j (.AugAssign (.Attribute (.Name x p1) f' zT) .Add e pos) (M2 (ns.idxOf f') fe):=b8N (kc.n na) hm Gz he (h.ix hN) (h.uv hv) hd dC
theorem Fx.Cu(h:Fx X N sc k full)(i:Nat){x:Str}(ha:EV X e fe)(hN:autoParam (N[i]?=some x) ra2._auto_1)(hv:autoParam (jJ sc x) ra4._auto_1)(hd:autoParam ((x==("__debug__":Str))=false) ra2._auto_1)
  (dC:autoParam ((x==("__classdict__":Str))=false) ra2._auto_1)(hs:autoParam (starEach [e] X.env=[(false,eval e X.env)]) ra2._auto_1)
  (hR:autoParam (attributeBase (.Name x p1) "append" X.env (eval (.Name x p1) X.env)=eval (.Name x p1) X.env) ra2._auto_1)
  (kH:autoParam (((backTo p (starEach [e] X.env)).all (λx=>!x.1)&&(backToKw p (keywordEach [] X.env)).all (λx=>x.1.isSome)
   && decide ([e].length+([]:List Keyword).length+(if ([]:List Keyword).isEmpty then 0 else 1)<30))=true) ra2._auto_1)
  (hJ:autoParam ((p2.endLine==p.line)=true) ra2._auto_1)
  (Qm:autoParam (swapsWith (.Call (.Attribute (.Name x p1) "append" p2) [e] [] p) none pos.line X.env=pure false) ra2._auto_1):
  SG X c ns j (.Expr (.Call (.Attribute (.Name x p1) "append" p2) [e] [] p) pos) (yD j (jy i fe)):=Pn (b2n ha (h.ix hN) (h.uv hv) hd dC hs hR kH hJ Qm)
end
end DL
namespace DL
open PySem PySem.Spec PyProof.Rows L2
theorem Rel.intro{K:aG}{O:Addr->Prop}{B H H':Hp}{σ:L2.St}{env:En}{x:Addr}(R:Rel K O B σ H env)(s:az H H')(nx:H x=none)(hx:H' x≠none):Rel K (λq=>O q\/q=x) (iI x B H') σ H' env:=by
 have nB:B x=none:=R.same.free nx;have hO:∀q,H q≠none->¬OO O σ env q->¬OO (λq=>O q\/q=x) σ env q:=λq hq hn z=>z.elim (λz=>z.elim (λz=>hn (.inl z)) λz=>hq (by rw[z];exact nx)) λz=>hn (.inr z);have ne:∀{q u},H q=some u->q≠x:=λ{q u} e z=>by rw[z,nx] at e;cases e
 have pB:∀{q},q≠x->iI x B H' q=B q:=λh=>if_neg h;refine⟨λq u e=>?_,⟨λq hq=>?_,λc P e=>?_⟩,R.len,λi d e=>?_,λi es e=>?_,λi dz e=>?_,λi ks es e=>?_,R.sep⟩
 .by_cases h:q=x;.rw [h] at e ⊢;unfold iI at e;rw[if_pos rfl] at e;exact e
  .rw [pB h] at e;exact s q u (R.same q u e)
 .by_cases h:q=x;.rw [h];unfold iI;rw[if_pos rfl];exact hx
  .rw [pB h];exact R.mR.1 q (hq.resolve_right h)
 .have e1:=R.mR.2 c P e;rw[pB (ne (R.same _ _ e1))];exact e1
 .obtain ⟨v,e1,h⟩:=R.sh i d e;exact⟨v,e1,h.map hO λq u e _=>s q u e⟩
 .obtain ⟨q,xs,e1,e2,e3,h⟩:=R.ow i es e;exact⟨q,xs,e1,by rw[pB (ne e3)];exact e2,s _ _ e3,h.map hO λq u e _=>s q u e⟩
 .obtain ⟨q,e1,e2,e3⟩:=R.dw i dz e;exact⟨q,e1,by rw[pB (ne e3)];exact e2,s _ _ e3⟩
 .obtain ⟨q,xs,e1,e2,e3,e4,h⟩:=R.tw i ks es e;exact⟨q,xs,e1,by rw[pB (ne e3)];exact e2,s _ _ e3,e4,h.map hO λq u e _=>s q u e⟩
noncomputable def Lc(j n:Nat)(ψ:List D->Option (List D))(fs:En->Option (List D))(G:GS):SF:=λenv=>match env[j]? with
 |some .no=>(fs env).bind λas=>if as.length=n then (ψ as).bind λds=>match G (env.set j .no) ds with
  |some (.rt r,af,_)=>some (.rt (.sh r.d),af)
  |_=>none
  else none
 |_=>none
noncomputable def Lb(j n:Nat)(ψ:List D->Option (List D))(fs:En->Option (List D))(r:GR):En->Option Str:=λenv=>match env[j]? with
 |some .no=>(fs env).bind λas=>if as.length=n then (ψ as).bind λds=>r (env.set j .no) ds else none
 |_=>none
inductive UC (X:Cx) (W:L2.St->Hp->Value->Prop) (st:List Stmt) (r:En->Option Str):Prop
 |mk (t:TS) (p:nZ X st t) (k:∀(O:Addr->Prop) (B:Hp) (σ:L2.St) (H:Hp) (env:En) (nm:Str) (D:Ends),Rel X.K O B σ H env->r env=some nm->(∀aH H' c,X.mg nm=some c->az B H'->W aH H' c)->t D σ H)
section
variable {X:Cx}{W:L2.St->Hp->Value->Prop}{c y:Str}{ns:List Str}{j n:Nat}{e:Expr}{es:List Expr}{rest:List Stmt}{pos pos' jA p:Pos}{fs:En->Option (List D)}{ψ:List D->Option (List D)}
theorem Wq{C:Addr}{O:Addr->Prop}{B H:Hp}{σ:L2.St}{env:En}{as gs:List D}{t:TA}(ka:∀(O:Addr->Prop) (B:Hp) (σ:L2.St) (H:Hp) (env:En) (ds:List D) (Q:List V->Hp->Prop),Rel X.K O B σ H env->fs env=some ds->(∀vs H',az H H'->aU X.K (OO O σ env) H' vs ds->Q vs H')->t σ H Q)
  (R:Rel X.K O B σ H env)(hn:iE X.K mainGlobals c=some (some (.ref C)))(hj:env[j]?=some .no)(e1:fs env=some as)(hl:as.length=n)(e4:ψ as=some gs){Q:VK}
  (q:∀x dx us H',B x=none->Gh X.K c ns j x C dx (λq=>O q\/q=x) (iI x B H') (σ.set j (some (.ref x))) H' (env.set j .no) us gs->Q (.ref x) H'):M4 C (uy X.K C n ns ψ) [] E0 t σ H Q:=by
 refine ka O B σ H env as _ R e1 λvs H1 s1 r1=>?_;intro x dx nx Jq ne;have up1:∀q u,H1 q=some u->upd (upd H1 dx (.own x)) x (.ins C dx []) q=some u:=λq u e=>by rw[eX (oM e nx),eX (oM e Jq)];exact e
 refine⟨λq=>OO O σ env q\/q=x,x,dx,vs,as,gs,by rw[qJ],by rw[r1.length];exact hl,ni,⟨λq hq=>?_,(R.grow s1).dm.2.grow λq u e=>up1 q u e⟩,.inr rfl,r1.map (λq hq hn z=>z.elim hn λe=>hq (by rw[e];exact nx)) λq u e _=>up1 q u e,e4,λus H' rZ kp hp hs=>⟨rfl,?_⟩⟩
 .rcases hq with hq | rfl
  .cases hz:H1 q with
   |none=>exact absurd hz ((R.grow s1).oo hq)
   |some u=>rw[up1 q u hz];exact λz=>nomatch z
  .rw [ni];exact λz=>nomatch z
 .have sm:az H H':=λq u e=>kp q u (up1 q u (s1 q u e)) (oM (s1 q u e) nx);have U9:H x=none:=s1.free nx;have R1:=R.intro sm U9 (by rw[hp];exact λz=>nomatch z);obtain⟨R2,own⟩:=R1.hide (v:=.ref x) hj λz=>z;have k9:j<σ.length:=by rw[R.len];exact(oE.mp hj).1
  refine q x dx us H' (R.same.free U9) ⟨R2,.inr rfl,lg k9,hp,rZ,hs.less λq z=>?_,hn,lg (by rw[<-R.len];exact k9)⟩;rcases z with(z|z)|z;.exact .inl (.inl z)
  .exact .inr z
  .exact .inl (.inr (own q z))
theorem b27{C f:Addr}{fd:FuncData}{ps:List Str}{k:Nat}{G:GS}(M:Mk X.K C f)(F:bQ X.prog X.w X.K X.mg X.base iq k f fd ps (uy X.K C n ns ψ))(hr:cD (k+1) X.A)(hg:Gl X c)(hm:X.mg c=some (.ref C))(hn:iE X.K mainGlobals c=some (some (.ref C)))(hb:Binds X.K fd ps [])
  (ha:AV X (e::es) fs)(hN:X.N.Nodup)(hi:X.N[j]?=some y)(hx:Loc X.env.scope y)(h2:qY X c ns j rest G)(hs:autoParam (swapsWith (.Call (.Name c p) (e::es) [] jA) (some (.Name y pos')) pos.line X.env=pure false) ra2._auto_1)(hf:autoParam (X.fn y=true\/X.env.scope.names.lookup y=some .local) ra0._auto_1)
  (d8:autoParam ((c==("__debug__":Str))=false) ra1._auto_1)(he:autoParam (starEach (e::es) X.env=(false,eval e X.env)::starEach es X.env) ra2._auto_1)(c6:autoParam ((backTo jA (starEach es X.env)).any (·.1)=false) ra2._auto_1):
  qX X (.Assign [.Name y pos'] (.Call (.Name c p) (e::es) [] jA) pos::rest) (Lc j n ψ fs G):=by
 obtain⟨t,pt,ka⟩:=ha;obtain⟨u,pu,ku⟩:=h2;refine⟨_,Bn (F0 hN hi hx (Lf M F hr hg hm hb .nil (Bd (X:=X)) pt d8 he c6) hs hf) pu,λO B σ H env fl af D R e q=>?_⟩;unfold Lc at e;split at e
 .rename_i hj;obtain⟨as,e1,e2⟩:=bind_some e;obtain⟨hl,e3⟩:=uj e2;obtain⟨gs,e4,e5⟩:=bind_some e3;show M4 C (uy X.K C n ns ψ) [] E0 t σ H λv H1=>u D (σ.set j (some v)) H1;refine Wq (ns:=ns) ka R hn hj e1 hl e4 λx dx us H' nB G'=>?_
  cases hG:G (env.set j .no) gs with
  |none=>rw[hG] at e5;cases e5
  |some z =>
   obtain⟨f1,env1,br⟩:=z;rw[hG] at e5;refine ku _ _ _ H' _ x C dx us gs f1 env1 br D G' hG ?_
   cases f1 with
   |rt r =>
    cases e5
    exact λv H2 us' k1 _ _ _ h4=>q v H2 (λq u e=>by
     have ne:q≠x:=λz=>by rw[z,nB] at e;cases e
     exact k1 q u (by unfold iI;rw[if_neg ne];exact e) ne) (h4.less λq z=>.inl z)
   |nx=>cases e5
   |bk=>cases e5
   |ct=>cases e5
 .cases e
theorem b2U{C f:Addr}{fd:FuncData}{ps:List Str}{k:Nat}{r:GR}(M:Mk X.K C f)(F:bQ X.prog X.w X.K X.mg X.base iq k f fd ps (uy X.K C n ns ψ))(hr:cD (k+1) X.A)(hg:Gl X c)(hm:X.mg c=some (.ref C))(hn:iE X.K mainGlobals c=some (some (.ref C)))(hb:Binds X.K fd ps [])
  (ha:AV X (e::es) fs)(hN:X.N.Nodup)(hi:X.N[j]?=some y)(hx:Loc X.env.scope y)(h2:zL X W c ns j rest r)(hs:autoParam (swapsWith (.Call (.Name c p) (e::es) [] jA) (some (.Name y pos')) pos.line X.env=pure false) ra2._auto_1)(hf:autoParam (X.fn y=true\/X.env.scope.names.lookup y=some .local) ra0._auto_1)
  (d8:autoParam ((c==("__debug__":Str))=false) ra1._auto_1)(he:autoParam (starEach (e::es) X.env=(false,eval e X.env)::starEach es X.env) ra2._auto_1)(c6:autoParam ((backTo jA (starEach es X.env)).any (·.1)=false) ra2._auto_1):
  UC X W (.Assign [.Name y pos'] (.Call (.Name c p) (e::es) [] jA) pos::rest) (Lb j n ψ fs r):=by
 obtain⟨t,pt,ka⟩:=ha;obtain⟨u,pu,ku⟩:=h2;refine⟨_,Bn (F0 hN hi hx (Lf M F hr hg hm hb .nil (Bd (X:=X)) pt d8 he c6) hs hf) pu,λO B σ H env nm D R e q=>?_⟩;unfold Lb at e;split at e
 .rename_i hj;obtain⟨as,e1,e2⟩:=bind_some e;obtain⟨hl,e3⟩:=uj e2;obtain⟨gs,e4,e5⟩:=bind_some e3;show M4 C (uy X.K C n ns ψ) [] E0 t σ H λv H1=>u D (σ.set j (some v)) H1;refine Wq (ns:=ns) ka R hn hj e1 hl e4 λx dx us H' nB G'=>?_;refine ku _ _ _ H' _ x C dx us gs nm D G' e5 λaH H2 cv hc k1=>q aH H2 cv hc λq u e=>?_;have ne:q≠x:=λz=>by rw[z,nB] at e;cases e
  exact k1 q u (by unfold iI;rw[if_neg ne];exact e) ne
 .cases e
end
section
variable {P:Program}{w:World}{K:aG}{mg:Str->Option Value}{base:Heap}
noncomputable def WD(r:En->Option Str)(N:Nat)(ds:List D):Option Str:=r (jQ N ds)
theorem b9D{x:Str}{st:Stmt}{f:Addr}{fd:FuncData}{N ps:List Str}{k:Nat}{r:En->Option Str}(D':Def K mg x st ps f fd)
  (bu:∀(X:Cx) (W:L2.St->Hp->Value->Prop),Sx X P w K mg base->Fx X.aI N (dR st) k->Xk X W->Xr X W->PassesOwn (model X.prog X.w) X.A X.env X.xe->UC X W (iG st) r)(S:autoParam (bP N ps (dR st)) ra6._auto_1):Xz P w K mg base x st ps (k+1) (WD r N.length):=by
 refine⟨f,fd,D',?_⟩;obtain⟨oc,od,kV,doc,pm,an,fu,ct,Ad,rfl,lk,dC⟩:=D'.fn.ex;refine M0 lk dC S (λvs H Q E h=>?_) λA outer s H vs Q E hr tR=>?_;.obtain ⟨O,ds,nm,_,_,hl,_⟩:=h;exact hl
 obtain⟨O,ds,nm,hO,hi,hl,e,q⟩:=tR;obtain⟨t,p,kk⟩:=bu (hU (nE P w) P w K mg base N _ (dR st) f fu A outer s H E) (λ_ H' c=>E c none H') (.mk _) ⟨rfl,rfl,rfl,λ_ _=>rfl,BJ,hr,S.nd,λ_=>⟨rfl,rfl,rfl⟩⟩ R5 RX VS;exact⟨t,p,kk O H (start N vs) H (jQ N.length ds) nm _ (Hv hO hi) e λaH H' c hc s=>q c H' hc s⟩
end
section
variable {X:Cx}{W:L2.St->Hp->Value->Prop}{N:List Str}{sc:Scope}{k i n:Nat}{full:Bool}{c y:Str}{ns:List Str}{e:Expr}{es:List Expr}{rest:List Stmt}{pos pos' jA p:Pos}{fs:En->Option (List D)}{ψ:List D->Option (List D)}
theorem Fx.enter{G:GS}(h:Fx X N sc k full)(j:Nat)(T:iY X.prog X.w X.K X.mg X.base c n ns i ψ)(ha:AV X (e::es) fs)(h2:qY X c ns j rest G)(hi:autoParam (i+1<=k) ra1._auto_1)(hg:autoParam (sc.names.lookup c=some .globalImplicit) ra2._auto_1)(hN:autoParam (N[j]?=some y) ra2._auto_1)(hx:autoParam (Loc sc y) ra5._auto_1)
  (hs:autoParam (swapsWith (.Call (.Name c p) (e::es) [] jA) (some (.Name y pos')) pos.line X.env=pure false) ra2._auto_1)(hf:autoParam (full=true\/sc.names.lookup y=some .local) ra5._auto_1)(d8:autoParam ((c==("__debug__":Str))=false) ra2._auto_1)(he:autoParam (starEach (e::es) X.env=(false,eval e X.env)::starEach es X.env) ra2._auto_1)(c6:autoParam ((backTo jA (starEach es X.env)).any (·.1)=false) ra2._auto_1):
  qX X (.Assign [.Name y pos'] (.Call (.Name c p) (e::es) [] jA) pos::rest) (Lc j n ψ fs G):=by obtain⟨C,f,fd,ps,M,F,hm,hn,hb⟩:=T;exact b27 M F (h.room.mono hi) (h.g hg) hm hn hb ha h.tL (h.ix hN) (h.loc hx) h2 hs (h.Cc hf) d8 he c6
theorem Fx.Ey{r:GR}(h:Fx X.aI N sc k full)(j:Nat)(T:iY X.prog X.w X.K X.mg X.base c n ns i ψ)(ha:AV X (e::es) fs)(h2:zL X W c ns j rest r)(hi:autoParam (i+1<=k) ra1._auto_1)(hg:autoParam (sc.names.lookup c=some .globalImplicit) ra2._auto_1)(hN:autoParam (N[j]?=some y) ra2._auto_1)(hx:autoParam (Loc sc y) ra5._auto_1)
  (hs:autoParam (swapsWith (.Call (.Name c p) (e::es) [] jA) (some (.Name y pos')) pos.line X.env=pure false) ra2._auto_1)(hf:autoParam (full=true\/sc.names.lookup y=some .local) ra5._auto_1)(d8:autoParam ((c==("__debug__":Str))=false) ra2._auto_1)(he:autoParam (starEach (e::es) X.env=(false,eval e X.env)::starEach es X.env) ra2._auto_1)(c6:autoParam ((backTo jA (starEach es X.env)).any (·.1)=false) ra2._auto_1):
  UC X W (.Assign [.Name y pos'] (.Call (.Name c p) (e::es) [] jA) pos::rest) (Lb j n ψ fs r):=by obtain⟨C,f,fd,ps,M,F,hm,hn,hb⟩:=T;exact b2U M F (h.room.mono hi) (h.g hg) hm hn hb ha h.tL (h.ix hN) (h.loc hx) h2 hs (h.Cc hf) d8 he c6
end
end DL
namespace DL
open PySem PySem.Spec PyProof.Rows L2
theorem b68{P:Program}{w:World}{K:aG}{mg:Str->Option Value}{base:Heap}{c x:Str}{ns:List Str}{j:Nat}{st:Stmt}{f:Addr}{fd:FuncData}{ps:List Str}{i:Nat}(D':Def K mg x st ps f fd):Og P w K mg base c ns j x st ps i λ_ _=>none:=
 ⟨f,fd,D',⟨λvs H Q E ⟨_,_,_,_,_,_,_,_,_,_,_,_,_,_,_,_,_,_,_,e,_⟩=>(nomatch e),λA outer s H args us vs Q E _ _ _ _ ⟨_,_,_,_,_,_,_,_,_,_,_,_,_,_,_,_,_,_,_,e,_⟩=>(nomatch e)⟩⟩
theorem b6B{P:Program}{w:World}{K:aG}{mg:Str->Option Value}{base:Heap}{c x:Str}{ns:List Str}{j:Nat}{st:Stmt}{f:Addr}{fd:FuncData}{ps:List Str}{i:Nat}(D':Def K mg x st ps f fd):Xg P w K mg base c ns j x st ps i λ_ _=>none:=
 ⟨f,fd,D',⟨λvs H Q E ⟨_,_,_,_,_,_,_,_,_,_,_,_,_,_,_,_,_,_,e,_⟩=>(nomatch e),λA outer s H args us vs Q E _ _ _ _ ⟨_,_,_,_,_,_,_,_,_,_,_,_,_,_,_,_,_,_,e,_⟩=>(nomatch e)⟩⟩
end DL
namespace DL
open PySem PySem.Spec PyProof.Rows L2
theorem WS{X:Cx}{W:L2.St->Hp->Value->Prop}{re:En->Option Str}{pos:Pos}{x1}{es:List Expr}(h:AX X W es re):EX X W (.Tuple es x1 pos) re:=by obtain⟨t,p,k⟩:=h;exact⟨_,Nj p,λO B σ H env nm Q R e q=>k O B σ H env nm _ R e q⟩
section
variable {X:Cx}
theorem YI:∀(l:List Str) (n:Nat),aR (l.map V.str) (strsFrom n l)
 |[],_=>.nil
 |_::l,n=>.cons ⟨n,rfl⟩ (YI l (n+1))
open PySem.Builtin.Str in
theorem b5d:LP X "str.split" (λx xs H Q=>∃z y,x=.str z/\xs=[.str y]/\(y.length==0)=false/\z.length<=sizeLine/\(pH z y).length<=sizeLine/\∀p,H p=none->Q (.ref p) (upd H p (.lst ((pH z y).map V.str)))):=by
 intro pins s σ H x xs v us Q I r rs h;obtain⟨z,y,rfl,rfl,hy,hz,hl,q⟩:=h;obtain⟨t,rfl⟩:=r;obtain⟨u',rfl,u,rfl⟩:=vals1 rs;have one:pH z y=[z]->EP X pins σ Q (.ref s.heap.objs.size) { s with heap:=s.heap.push { cls:=.type "list",data:=.seq #[.str z t] } }:=λe=>by rw[e] at q;refine⟨.ref s.heap.objs.size,_,I.laid (t':=s.toks) (o:=.lst [.str z]) (λb ob q=>ky _ q) (fQ _) ?_,rfl,q _ (I.cM.fresh (fQ _))⟩;exact⟨by show 1<=sizeLine;decide,_,0,.cons ⟨t,rfl⟩ .nil,qI _ rfl⟩
 by_cases h1:(decide (z.length<y.length)||decide (strKind z<strKind y))=true;.refine FH MY (CS _ _ _) Rc (Rj _ _) (meets_str_split_cannot_occur z y t u h1) ?_;exact one (by unfold pH;rw[if_pos h1])
 .have Vz:=KL _ |>.mp h1;by_cases h2:(occurrences z y 0 z.length (z.length+1)).isEmpty=true;.refine FH MY (CS _ _ _) Rc (Rj _ _) (meets_str_split_not_found z y t u Vz hy h2) ?_;exact one (by unfold pH;rw[if_neg h1,if_pos h2])
  .have h2':=KL _ |>.mp h2;have e:pH z y=partsBetween z (occurrences z y 0 z.length (z.length+1)) y.length:=by unfold pH;rw[if_neg h1,if_neg h2]
   rw[e] at q hl;refine FH MY (CS _ _ _) Rc (Rj _ _) (meets_str_split_sep z y t u Vz hy h2' hz hl) ?_;refine⟨.ref s.heap.objs.size,_,I.laid (t':=s.toks+_) (o:=.lst ((partsBetween z (occurrences z y 0 z.length (z.length+1)) y.length).map V.str)) (λb ob q=>ky _ q) (fQ _) ?_,rfl,q _ (I.cM.fresh (fQ _))⟩;exact⟨by rw[kN];exact hl,_,0,YI _ _,qI _ rfl⟩
noncomputable def M9(fo fe:En->Option Sl):En->Option Sl:=λenv=>(iL (fo env)).bind λz=>(iL (fe env)).bind λy=>if (y.length==0)=false/\z.length<=16777216/\(pH z y).length<=16777216 then some (.ow ((pH z y).map D.str)) else none
theorem Yt{o e:Expr}{fo fe:En->Option Sl}{apos bx:Pos}(ho:EV X o fo)(he:EV X e fe)(hR:autoParam (attributeBase o "split" X.env (eval o X.env)=eval o X.env) ra2._auto_1)
  (kH:autoParam (((backTo bx (starEach [e] X.env)).all (λx=>!x.1)&&(backToKw bx (keywordEach [] X.env)).all (λx=>x.1.isSome)&&decide ([e].length+([]:List Keyword).length+(if ([]:List Keyword).isEmpty then 0 else 1)<30))=true) ra2._auto_1)
  (hJ:autoParam ((apos.endLine==bx.line)=true) ra2._auto_1)(hs:autoParam (starEach [e] X.env=[(false,eval e X.env)]) ra2._auto_1):EV X (.Call (.Attribute o "split" apos) [e] [] bx) (M9 fo fe):=by obtain⟨to,po,ko⟩:=ho;obtain⟨te,pe,ke⟩:=he;refine⟨_,KR (T:="str") MP MY F.type_str_split b5d po (lX pe sG hs) hR kH hJ hs rfl,λO B σ H env r Q R e q=>?_⟩;obtain⟨z,e1,e2⟩:=bind_some e;obtain⟨y,e3,e4⟩:=bind_some e2;obtain⟨⟨hy,hz,hl⟩,rfl⟩:=jv e4;refine ko O B σ H env _ _ R (uq e1) λv H1 s1 r1=>?_;obtain rfl:=lh r1;refine⟨rfl,?_⟩;refine ke O B σ H1 env _ _ (R.grow s1) (uq e3) λv H2 s2 r2=>?_;obtain rfl:=lh r2;exact⟨z,y,rfl,rfl,hy,by rw[kM];exact hz,by rw[kM];exact hl,λp hp=>q _ _ ((s1.trans s2).trans (Bq hp _)) ((NC (O:=OO O σ env) hp (Tc _)).from (s1.trans s2))⟩
end
end DL
namespace DL
open PySem PySem.Spec PyProof.Rows L2
section
variable {X:Cx}{W:L2.St->Hp->Value->Prop}{N:List Str}{sc:Scope}{k i n:Nat}{full:Bool}{e:Expr}{es:List Expr}{p pos:Pos}{re:En->Option Str}
end
end DL
namespace My
open PySem L2 DL
noncomputable def top(i:Nat):Stmt:=PySem.Challenge.pw_offerhouse_k40_no_rules_read.main.body.getD i (.Pass ⟨0,0,0,0⟩)
noncomputable def aa:List Str:=["words","place"]
noncomputable def Nw:List Str:=["Each"]
noncomputable def D6:List Str:=["Each","Flat","Only"]
noncomputable def Ea:List Str:=["Each","Flat","Only"]
noncomputable def Ef:List Str:=["Flat","Blocks","Fee"]
noncomputable def Hi:List Str:=["Bands","Steps"]
noncomputable def Nv:List Str:=["Blocks"]
noncomputable def Nt:List Str:=["Blocks"]
noncomputable def Nu:List Str:=["Named"]
noncomputable def Bh:List Str:=["Sum","Cheaper","Dearer","Only","After","Roomy","Fee"]
noncomputable def Ho:List Str:=["Sum","Cheaper","Dearer"]
noncomputable def NL:List Str:=["After"]
noncomputable def Ln:List Str:=["Words"]
noncomputable def Lm:List Str:=["Words"]
noncomputable abbrev Zs:Stmt:=jn (top 36) 3
noncomputable abbrev Ur{α:Type}(Y:Str->Str->Stmt->List Str->α):α:=Y "at_end" "Words.at_end" Zs ["self"]
noncomputable abbrev Zt:Stmt:=jn (top 36) 1
noncomputable abbrev Us{α:Type}(Y:Str->Str->Stmt->List Str->α):α:=Y "coming" "Words.coming" Zt ["self"]
noncomputable abbrev Zd:Stmt:=jn (top 36) 2
noncomputable abbrev a81{α:Type}(Y:Str->Str->Stmt->List Str->α):α:=Y "taken" "Words.taken" Zd ["self"]
noncomputable abbrev Zv:Stmt:=jn (top 36) 5
noncomputable abbrev ZO{α:Type}(Y:Str->Str->Stmt->List Str->α):α:=Y "number" "Words.number" Zv ["self"]
noncomputable abbrev Z1:Stmt:=jn (top 36) 6
noncomputable abbrev ZS{α:Type}(Y:Str->Str->Stmt->List Str->α):α:=Y "number_from" "Words.number_from" Z1 ["self","least"]
noncomputable abbrev Zu:Stmt:=jn (top 36) 4
noncomputable abbrev ZN{α:Type}(Y:Str->Str->Stmt->List Str->α):α:=Y "expect" "Words.expect" Zu ["self","asked"]
noncomputable abbrev ZG:Stmt:=jn (top 8) 3
noncomputable abbrev Ol{α:Type}(Y:Str->Str->Stmt->List Str->α):α:=Y "written" "Each.written" ZG ["self"]
noncomputable abbrev ZI:Stmt:=jn (top 9) 3
noncomputable abbrev Oo{α:Type}(Y:Str->Str->Stmt->List Str->α):α:=Y "written" "Flat.written" ZI ["self"]
noncomputable abbrev Z0:Stmt:=jn (top 10) 2
noncomputable abbrev UA{α:Type}(Y:Str->Str->Stmt->List Str->α):α:=Y "written_rows" "Rows.written_rows" Z0 ["self"]
noncomputable abbrev Zy:Stmt:=jn (top 11) 2
noncomputable abbrev OM{α:Type}(Y:Str->Str->Stmt->List Str->α):α:=Y "written" "Bands.written" Zy ["self"]
noncomputable abbrev ZD:Stmt:=jn (top 12) 2
noncomputable abbrev OQ{α:Type}(Y:Str->Str->Stmt->List Str->α):α:=Y "written" "Steps.written" ZD ["self"]
noncomputable abbrev ZU:Stmt:=jn (top 13) 3
noncomputable abbrev OF{α:Type}(Y:Str->Str->Stmt->List Str->α):α:=Y "written" "Blocks.written" ZU ["self"]
noncomputable abbrev ZA:Stmt:=jn (top 14) 4
noncomputable abbrev ON{α:Type}(Y:Str->Str->Stmt->List Str->α):α:=Y "written" "Named.written" ZA ["self"]
noncomputable abbrev Z2:Stmt:=jn (top 15) 3
noncomputable abbrev OR{α:Type}(Y:Str->Str->Stmt->List Str->α):α:=Y "written_between" "Pair.written_between" Z2 ["self","word"]
noncomputable abbrev Zc:Stmt:=jn (top 16) 2
noncomputable abbrev OA{α:Type}(Y:Str->Str->Stmt->List Str->α):α:=Y "written" "Sum.written" Zc ["self"]
noncomputable abbrev ZP:Stmt:=jn (top 17) 2
noncomputable abbrev OK{α:Type}(Y:Str->Str->Stmt->List Str->α):α:=Y "written" "Cheaper.written" ZP ["self"]
noncomputable abbrev ZV:Stmt:=jn (top 18) 2
noncomputable abbrev OG{α:Type}(Y:Str->Str->Stmt->List Str->α):α:=Y "written" "Dearer.written" ZV ["self"]
noncomputable abbrev ZZ:Stmt:=jn (top 19) 2
noncomputable abbrev OS{α:Type}(Y:Str->Str->Stmt->List Str->α):α:=Y "written_with" "Single.written_with" ZZ ["self","words"]
noncomputable abbrev ZK:Stmt:=jn (top 20) 3
noncomputable abbrev Oq{α:Type}(Y:Str->Str->Stmt->List Str->α):α:=Y "written" "Only.written" ZK ["self"]
noncomputable abbrev Zx:Stmt:=jn (top 21) 3
noncomputable abbrev OL{α:Type}(Y:Str->Str->Stmt->List Str->α):α:=Y "written" "After.written" Zx ["self"]
noncomputable abbrev ZC:Stmt:=jn (top 22) 2
noncomputable abbrev OP{α:Type}(Y:Str->Str->Stmt->List Str->α):α:=Y "written" "Roomy.written" ZC ["self"]
noncomputable abbrev Zb:Stmt:=jn (top 23) 3
noncomputable abbrev Oy{α:Type}(Y:Str->Str->Stmt->List Str->α):α:=Y "written" "Fee.written" Zb ["self"]
noncomputable abbrev ZE:Stmt:=jn (top 36) 0
noncomputable abbrev a7A{α:Type}(Y:Str->Str->Stmt->List Str->α):α:=Y "__init__" "Words.__init__" ZE ["self","text"]
noncomputable abbrev Zz:Stmt:=jn (top 14) 0
noncomputable abbrev a7B{α:Type}(Y:Str->Str->Stmt->List Str->α):α:=Y "__init__" "Named.__init__" Zz ["self","name"]
noncomputable abbrev ZT:Stmt:=jn (top 13) 0
noncomputable abbrev a7i{α:Type}(Y:Str->Str->Stmt->List Str->α):α:=Y "__init__" "Blocks.__init__" ZT ["self","size","price","many"]
noncomputable abbrev Zr:Stmt:=jn (top 10) 0
noncomputable abbrev ZM{α:Type}(Y:Str->Str->Stmt->List Str->α):α:=Y "__init__" "Rows.__init__" Zr ["self","rows"]
noncomputable abbrev ZH:Stmt:=jn (top 9) 0
noncomputable abbrev a8r{α:Type}(Y:Str->Str->Stmt->List Str->α):α:=Y "__init__" "Flat.__init__" ZH ["self","price","low","high"]
noncomputable abbrev ZF:Stmt:=jn (top 8) 0
noncomputable abbrev a8s{α:Type}(Y:Str->Str->Stmt->List Str->α):α:=Y "__init__" "Each.__init__" ZF ["self","unit","low","high"]
noncomputable abbrev ZW:Stmt:=jn (top 19) 0
noncomputable abbrev OH{α:Type}(Y:Str->Str->Stmt->List Str->α):α:=Y "__init__" "Single.__init__" ZW ["self","one"]
noncomputable abbrev Za:Stmt:=jn (top 23) 0
noncomputable abbrev a82{α:Type}(Y:Str->Str->Stmt->List Str->α):α:=Y "__init__" "Fee.__init__" Za ["self","one","price"]
noncomputable abbrev Zw:Stmt:=jn (top 21) 0
noncomputable abbrev a7C{α:Type}(Y:Str->Str->Stmt->List Str->α):α:=Y "__init__" "After.__init__" Zw ["self","one","count"]
noncomputable abbrev ZJ:Stmt:=jn (top 20) 0
noncomputable abbrev a8q{α:Type}(Y:Str->Str->Stmt->List Str->α):α:=Y "__init__" "Only.__init__" ZJ ["self","one","low","high"]
noncomputable abbrev Zq:Stmt:=jn (top 15) 0
noncomputable abbrev Uq{α:Type}(Y:Str->Str->Stmt->List Str->α):α:=Y "__init__" "Pair.__init__" Zq ["self","one","other"]
noncomputable def sL:List D->Option (List D):=eZ (dB "words" (M9 (eV 1) (eC (.str " "))) (dB "place" (eC (.int 0)) iD)) 2 aa
noncomputable def a8C:SF:=
 (bZ (ae bJ (eM Lm "place" (eV 0)) (iU (nC (eM Ln "words" (eV 0))))))
noncomputable def OE:List D->Option Sl:=cV a8C 1
noncomputable def Dl:bo:=[("Words",OE)]
noncomputable def Hr:List Str:=["name"]
noncomputable def TK:List D->Option (List D):=eZ (dB "name" (eV 1) iD) 2 Hr
noncomputable abbrev YZ:Stmt:=top 33
noncomputable abbrev TC{α:Type}(Y:Str->Stmt->List Str->α):α:=Y "is_name" YZ ["text"]
noncomputable def b4L:SF:=
 (a9 (kC (mi (nR (oH (bI (ae r6 (eC (.int 1)) (G7 (eV 0)))) (bI (ae r6 (G7 (eV 0)) (eC (.int 8)))))) (bI (ae VA (eV 0) (eC (.tup [D.str "each",D.str "from",D.str "to",D.str "flat",D.str "bands",D.str "steps",D.str "blocks",D.str "at",D.str "times",D.str "plus",D.str "or",D.str "max",D.str "only",D.str "after",D.str "roomy",D.str "fee"])))))
 (bZ (eC (.bl false))) lq)
 (bZ (Fs (nC (nQ (Fj (eV 0)) [] 1 (gN 0) sE (ae ie (eV 0) (eC (.str "abcdefghijklmnopqrstuvwxyz"))))))))
noncomputable def Dh:List D->Option Sl:=cV b4L 1
noncomputable def Ei:List Str:=["size","price","many"]
noncomputable def T5:List D->Option (List D):=eZ (dB "size" (eV 1) (dB "price" (eV 2) (dB "many" (eV 3) iD))) 4 Ei
noncomputable def Oc:SF:=
 (bZ (Fq (bI (ae AE (eM Lm "place" (eV 0)) (iU (nC (eM Ln "words" (eV 0)))))) (gF (nC (eM Ln "words" (eV 0))) (eM Lm "place" (eV 0))) (eC (.str ""))))
noncomputable def HN:List D->Option Sl:=cV Oc 1
theorem iX:Wo (HN [a0]) Q↔Wo (Oc [.sh a0]) (dN Q):=lj
noncomputable def sJ:bo:=[("Words",HN)]
noncomputable def a9H:GS:=
 (cR (ed 1 (QI "Words" aa 0 (jk "coming" 1 sJ (eV 0) ag)))
 (cR (M2 (aa.idxOf ("place":Str)) (eC (.int 1)))
 (fN (bR (eV 1)))))
noncomputable def gZ:List D->List D->Option (D×List D):=fF a9H 0 2
noncomputable abbrev Ze:Stmt:=top 35
noncomputable abbrev Ut{α:Type}(Y:Str->Stmt->List Str->α):α:=Y "are_figures" Ze ["text"]
noncomputable def a9G:SF:=
 (a9 (kC (mi (nR (oH (bI (ae r6 (eC (.int 1)) (G7 (eV 0)))) (bI (ae r6 (G7 (eV 0)) (eC (.int 40)))))) (oH (bI (ae bJ (Ki (eV 0) (eC (.int 0))) (eC (.str "0")))) (bI (ae DR (G7 (eV 0)) (eC (.int 1))))))
 (bZ (eC (.bl false))) lq)
 (bZ (Fs (nC (nQ (Fj (eV 0)) [] 1 (gN 0) sE (ae ie (eV 0) (eC (.str "0123456789"))))))))
noncomputable def LC:List D->Option Sl:=cV a9G 1
noncomputable abbrev Zj:Stmt:=top 34
noncomputable abbrev Hz{α:Type}(Y:Str->Stmt->List Str->α):α:=Y "number_of" Zj ["text"]
noncomputable def b1s:SF:=
 (a9 (fD 1 (Fq (iB (SJ (eV 0) (eC (.str "-")))) (vB (eV 0) (lQ (eC (.int 1))) mm) (eV 0)))
 (a9 (kC (mi (nR (iB (dH 1 LC (ah (eV 1) ag)))) (bI (ae bJ (eV 0) (eC (.str "-0")))))
 Na lq)
 (bZ (Ws (eV 0)))))
noncomputable def pY:List D->Option Sl:=cV b1s 2
noncomputable def b1q:RF:=
 (uJ EJ (fD 1 (Fq (iB (SJ (eV 0) (eC (.str "-")))) (vB (eV 0) (lQ (eC (.int 1))) mm) (eV 0)))
 (uJ (PD (mi (nR (iB (dH 1 LC (ah (eV 1) ag)))) (bI (ae bJ (eV 0) (eC (.str "-0")))))
 (pN "BadRule" (ah (rg (jc (lH (eV 0)) (jc (eC (.str " is no number")) lu))) ag)) EJ) (kC (mi (nR (iB (dH 1 LC (ah (eV 1) ag)))) (bI (ae bJ (eV 0) (eC (.str "-0")))))
 Na lq)
 EJ))
noncomputable def qV:List D->Option Str:=Ci b1q 2
noncomputable def a8B:GS:=
 (fN (D2 1 pY (bH (bY 0 gZ aN) aN)))
noncomputable def rk:List D->List D->Option (D×List D):=fF a8B 0 1
noncomputable def a8A:GR:=
 (Hf 1 qV (bH (bY 0 gZ aN) aN))
noncomputable def Dm:List D->List D->Option Str:=sC a8A 0 1
noncomputable def ZQ:GS:=
 (cR (ed 2 (bY 0 rk aN))
 (cR (aY "Words" aa 0 (bI (ae AE (eV 2) (eV 1)))
 jH bq)
 (fN (bR (eV 2)))))
noncomputable def rm:List D->List D->Option (D×List D):=fF ZQ 0 3
noncomputable def ZR:GR:=
 (dF (fP 0 Dm aN) (ed 2 (bY 0 rk aN))
 (dF (dJ "Words" aa 0 (bI (ae AE (eV 2) (eV 1)))
 (sZ (pN "BadRule" (ah (rg (jc (jF (eV 2)) (jc (eC (.str " is less than ")) (jc (jF (eV 1)) lu)))) ag))) b9) (aY "Words" aa 0 (bI (ae AE (eV 2) (eV 1)))
 jH bq)
 b9))
noncomputable def Eo:List D->List D->Option Str:=sC ZR 0 3
noncomputable def Uo:GS:=
 (cR (ed 2 (bY 0 gZ aN))
 (aY "Words" aa 0 (bI (ae gp (eV 2) (eV 1)))
 jH bq))
noncomputable def qS:List D->List D->Option (D×List D):=fF Uo 0 3
noncomputable def LF:GR:=
 (dF b9 (ed 2 (bY 0 gZ aN))
 (dJ "Words" aa 0 (bI (ae gp (eV 2) (eV 1)))
 (sZ (pN "BadRule" (ah (rg (jc (lH (eV 2)) (jc (eC (.str " stands where ")) (jc (lH (eV 1)) (jc (eC (.str " is asked")) lu))))) ag))) b9))
noncomputable def Bt:List D->List D->Option Str:=sC LF 0 3
noncomputable abbrev Zf:Stmt:=top 44
noncomputable abbrev HI{α:Type}(Y:Str->Stmt->List Str->α):α:=Y "blocks_from" Zf ["words"]
noncomputable def Zg:GS:=
 (cR (ed 1 (bY 1 rm (bH (bR (eC (.int 1))) aN)))
 (cR (pW (bY 1 qS (bH (bR (eC (.str "at"))) aN)))
 (cR (ed 2 (bY 0 rk aN))
 (cR (pW (bY 1 qS (bH (bR (eC (.str "times"))) aN)))
 (cR (ed 3 (bY 1 rm (bH (bR (eC (.int 1))) aN)))
 (cR (aY "Words" aa 0 (bI (ae DR (eV 3) (eC (.int 40))))
 jH bq)
 (fN (bR (yF "Blocks" 3 Ei T5 (ah (eV 1) (ah (eV 2) (ah (eV 3) ag))))))))))))
noncomputable def LD:List D->List D->Option (D×List D):=fF Zg 0 4
noncomputable def Zh:GR:=
 (dF (fP 1 Eo (bH (bR (eC (.int 1))) aN)) (ed 1 (bY 1 rm (bH (bR (eC (.int 1))) aN)))
 (dF (fP 1 Bt (bH (bR (eC (.str "at"))) aN)) (pW (bY 1 qS (bH (bR (eC (.str "at"))) aN)))
 (dF (fP 0 Dm aN) (ed 2 (bY 0 rk aN))
 (dF (fP 1 Bt (bH (bR (eC (.str "times"))) aN)) (pW (bY 1 qS (bH (bR (eC (.str "times"))) aN)))
 (dF (fP 1 Eo (bH (bR (eC (.int 1))) aN)) (ed 3 (bY 1 rm (bH (bR (eC (.int 1))) aN)))
 (dF (dJ "Words" aa 0 (bI (ae DR (eV 3) (eC (.int 40))))
 (sZ (pN "BadRule" (ah (eC (.str "there are too many blocks")) ag))) b9) (aY "Words" aa 0 (bI (ae DR (eV 3) (eC (.int 40))))
 jH bq)
 b9))))))
noncomputable def Ob:List D->List D->Option Str:=sC Zh 0 4
noncomputable abbrev YF:Stmt:=top 43
noncomputable abbrev Ht{α:Type}(Y:Str->Stmt->List Str->α):α:=Y "row_of" YF ["word"]
noncomputable def Th:SF:=
 (a9 (fD 1 (KP (eV 0) (eC (.str ":"))))
 (bZ (pf (ah (dH 1 pY (ah (gF (bV 1) (eC (.int 0))) ag)) (ah (dH 1 pY (ah (gF (bV 1) (eC (.int 2))) ag)) ag)))))
noncomputable def p5:List D->Option Sl:=cV Th 2
noncomputable def Tj:RF:=
 (uJ EJ (fD 1 (KP (eV 0) (eC (.str ":"))))
 (rE (z8 (BQ 1 qV (ah (gF (bV 1) (eC (.int 0))) ag)) (Nk (dH 1 pY (ah (gF (bV 1) (eC (.int 0))) ag)) (BQ 1 qV (ah (gF (bV 1) (eC (.int 2))) ag))))))
noncomputable def zI:List D->Option Str:=Ci Tj 2
theorem Bw:Wo (p5 [a0]) Q↔Wo (Th [.sh a0,.no]) (dN Q):=lj
noncomputable abbrev Zl:Stmt:=top 42
noncomputable abbrev HB{α:Type}(Y:Str->Stmt->List Str->α):α:=Y "rows_from" Zl ["words"]
noncomputable def Gb:GS:=
 (cR (Nc 1 (bh ag))
 (cR (ed 2 (bR (eC (.int 0))))
 (cR (SQ "Words" aa 0 1000 (bI (ae ie (eC (.str ":")) (jk "coming" 1 sJ (eV 0) ag)))
 (cR (ed 3 (D2 1 p5 (bH (bY 0 gZ aN) aN)))
 (cR (aY "Words" aa 0 (bI (ae AE (gF (bV 3) (eC (.int 0))) (eV 2)))
 jH bq)
 (cR (yD 0 (jy 1 (eV 3)))
 (ed 2 (bR (ae aD (gF (bV 3) (eC (.int 0))) (eC (.int 1)))))))))
 (cR (aY "Words" aa 0 (nR (oH (bI (ae r6 (eC (.int 1)) (iU (bV 1)))) (bI (ae r6 (iU (bV 1)) (eC (.int 20))))))
 jH bq)
 (K5 1)))))
noncomputable def qU:List D->List D->Option (D×List D):=fF Gb 0 4
noncomputable def Ls:GR:=
 (dF b9 (Nc 1 (bh ag))
 (dF b9 (ed 2 (bR (eC (.int 0))))
 (dF (XF "Words" aa 0 1000 (bI (ae ie (eC (.str ":")) (jk "coming" 1 sJ (eV 0) ag)))
 (cR (ed 3 (D2 1 p5 (bH (bY 0 gZ aN) aN)))
 (cR (aY "Words" aa 0 (bI (ae AE (gF (bV 3) (eC (.int 0))) (eV 2)))
 jH bq)
 (cR (yD 0 (jy 1 (eV 3)))
 (ed 2 (bR (ae aD (gF (bV 3) (eC (.int 0))) (eC (.int 1)))))))) (dF (Hf 1 zI (bH (bY 0 gZ aN) aN)) (ed 3 (D2 1 p5 (bH (bY 0 gZ aN) aN)))
 (dF (dJ "Words" aa 0 (bI (ae AE (gF (bV 3) (eC (.int 0))) (eV 2)))
 (sZ (pN "BadRule" (ah (eC (.str "the tops of the rows do not ascend from 0 on")) ag))) b9) (aY "Words" aa 0 (bI (ae AE (gF (bV 3) (eC (.int 0))) (eV 2)))
 jH bq)
 (dF b9 (yD 0 (jy 1 (eV 3)))
 b9)))) (SQ "Words" aa 0 1000 (bI (ae ie (eC (.str ":")) (jk "coming" 1 sJ (eV 0) ag)))
 (cR (ed 3 (D2 1 p5 (bH (bY 0 gZ aN) aN)))
 (cR (aY "Words" aa 0 (bI (ae AE (gF (bV 3) (eC (.int 0))) (eV 2)))
 jH bq)
 (cR (yD 0 (jy 1 (eV 3)))
 (ed 2 (bR (ae aD (gF (bV 3) (eC (.int 0))) (eC (.int 1)))))))))
 (dF (dJ "Words" aa 0 (nR (oH (bI (ae r6 (eC (.int 1)) (iU (bV 1)))) (bI (ae r6 (iU (bV 1)) (eC (.int 20))))))
 (sZ (pN "BadRule" (ah (eC (.str "there are no rows, or too many")) ag))) b9) (aY "Words" aa 0 (nR (oH (bI (ae r6 (eC (.int 1)) (iU (bV 1)))) (bI (ae r6 (iU (bV 1)) (eC (.int 20))))))
 jH bq)
 b9))))
noncomputable def HG:List D->List D->Option Str:=sC Ls 0 4
noncomputable def pP:List Str:=["rows"]
noncomputable def Bp:List D->Option (List D):=eZ (dB "rows" (nQ (o9 (eV 1)) [] 2 (gT 2 (BO (gN 0) (BO (gN 1) G8))) sE (pf (ah (eV 0) (ah (eV 1) ag)))) iD) 2 pP
noncomputable def pO:List Str:=["rows"]
noncomputable def Bo:List D->Option (List D):=eZ (dB "rows" (nQ (o9 (eV 1)) [] 2 (gT 2 (BO (gN 0) (BO (gN 1) G8))) sE (pf (ah (eV 0) (ah (eV 1) ag)))) iD) 2 pO
noncomputable def Ec:List Str:=["price","low","high"]
noncomputable def Tg:List D->Option (List D):=eZ (dB "price" (eV 1) (dB "low" (eV 2) (dB "high" (eV 3) iD))) 4 Ec
noncomputable abbrev Zo:Stmt:=top 41
noncomputable abbrev HC{α:Type}(Y:Str->Stmt->List Str->α):α:=Y "span_from" Zo ["words"]
noncomputable def TQ:GS:=
 (cR (ed 1 (bY 1 rm (bH (bR (eC (.int 0))) aN)))
 (cR (pW (bY 1 qS (bH (bR (eC (.str "to"))) aN)))
 (fN (AB (bH (bR (eV 1)) (bH (bY 1 rm (bH (bR (eV 1)) aN)) aN))))))
noncomputable def B3:List D->List D->Option (D×List D):=fF TQ 0 2
noncomputable def TU:GR:=
 (dF (fP 1 Eo (bH (bR (eC (.int 0))) aN)) (ed 1 (bY 1 rm (bH (bR (eC (.int 0))) aN)))
 (dF (fP 1 Bt (bH (bR (eC (.str "to"))) aN)) (pW (bY 1 qS (bH (bR (eC (.str "to"))) aN)))
 (F1 (bR (eV 1)) (fP 1 Eo (bH (bR (eV 1)) aN)))))
noncomputable def HH:List D->List D->Option Str:=sC TU 0 2
noncomputable abbrev Zi:Stmt:=top 40
noncomputable abbrev Hy{α:Type}(Y:Str->Stmt->List Str->α):α:=Y "flat_from" Zi ["words"]
noncomputable def YQ:GS:=
 (cR (ed 1 (bY 0 rk aN))
 (cR (pW (bY 1 qS (bH (bR (eC (.str "from"))) aN)))
 (cR (ed 2 (bY 0 B3 aN))
 (fN (bR (yF "Flat" 3 Ec Tg (ah (eV 1) (ah (gF (bV 2) (eC (.int 0))) (ah (gF (bV 2) (eC (.int 1))) ag)))))))))
noncomputable def Lz:List D->List D->Option (D×List D):=fF YQ 0 3
noncomputable def YS:GR:=
 (dF (fP 0 Dm aN) (ed 1 (bY 0 rk aN))
 (dF (fP 1 Bt (bH (bR (eC (.str "from"))) aN)) (pW (bY 1 qS (bH (bR (eC (.str "from"))) aN)))
 (dF (fP 0 HH aN) (ed 2 (bY 0 B3 aN))
 b9)))
noncomputable def Ox:List D->List D->Option Str:=sC YS 0 3
noncomputable def Eb:List Str:=["unit","low","high"]
noncomputable def Tf:List D->Option (List D):=eZ (dB "unit" (eV 1) (dB "low" (eV 2) (dB "high" (eV 3) iD))) 4 Eb
noncomputable abbrev Y4:Stmt:=top 39
noncomputable abbrev Hw{α:Type}(Y:Str->Stmt->List Str->α):α:=Y "each_from" Y4 ["words"]
noncomputable def YO:GS:=
 (cR (ed 1 (bY 0 rk aN))
 (cR (pW (bY 1 qS (bH (bR (eC (.str "from"))) aN)))
 (cR (ed 2 (bY 0 B3 aN))
 (fN (bR (yF "Each" 3 Eb Tf (ah (eV 1) (ah (gF (bV 2) (eC (.int 0))) (ah (gF (bV 2) (eC (.int 1))) ag)))))))))
noncomputable def Ly:List D->List D->Option (D×List D):=fF YO 0 3
noncomputable def YR:GR:=
 (dF (fP 0 Dm aN) (ed 1 (bY 0 rk aN))
 (dF (fP 1 Bt (bH (bR (eC (.str "from"))) aN)) (pW (bY 1 qS (bH (bR (eC (.str "from"))) aN)))
 (dF (fP 0 HH aN) (ed 2 (bY 0 B3 aN))
 b9)))
noncomputable def Ow:List D->List D->Option Str:=sC YR 0 3
noncomputable def B1:List Str:=["one"]
noncomputable def Di:List D->Option (List D):=eZ (dB "one" (eV 1) iD) 2 B1
noncomputable def Bi:List Str:=["one","price"]
noncomputable def Lg:List D->Option (List D):=eZ (K0 1 B1 Di (ah (eV 1) ag) (dB "price" (eV 2) iD)) 3 Bi
noncomputable def Dd:List Str:=["one"]
noncomputable def NQ:List D->Option (List D):=eZ (dB "one" (eV 1) iD) 2 Dd
noncomputable def Bm:List Str:=["one","count"]
noncomputable def Lq:List D->Option (List D):=eZ (K0 1 B1 Di (ah (eV 1) ag) (dB "count" (eV 2) iD)) 3 Bm
noncomputable def Bj:List Str:=["one","low","high"]
noncomputable def NM:List D->Option (List D):=eZ (K0 1 B1 Di (ah (eV 1) ag) (dB "low" (eV 2) (dB "high" (eV 3) iD))) 4 Bj
noncomputable def C8:List Str:=["one","other"]
noncomputable def Lx:List D->Option (List D):=eZ (dB "one" (eV 1) (dB "other" (eV 2) iD)) 3 C8
noncomputable def Dk:List Str:=["one","other"]
noncomputable def Lu:List D->Option (List D):=eZ (dB "one" (eV 1) (dB "other" (eV 2) iD)) 3 Dk
noncomputable def C7:List Str:=["one","other"]
noncomputable def Lh:List D->Option (List D):=eZ (dB "one" (eV 1) (dB "other" (eV 2) iD)) 3 C7
noncomputable abbrev Zn:Stmt:=top 46
noncomputable abbrev Dj{α:Type}(Y:Str->Stmt->List Str->α):α:=Y "rule_over" Zn ["one","words","around"]
noncomputable def TN(kp:List D->List D->Option (D×List D)):GS:=
 (cR (ed 3 (bY 0 gZ aN))
 (cR (aY "Words" aa 1 (bI (ae bJ (eV 3) (eC (.str "plus"))))
 (fN (mP "Sum" 2 C7 Lh (bH (bR (eV 0)) (bH (bY 1 kp (bH (bR (eV 2)) aN)) aN)))) bq)
 (cR (aY "Words" aa 1 (bI (ae bJ (eV 3) (eC (.str "or"))))
 (fN (mP "Cheaper" 2 Dk Lu (bH (bR (eV 0)) (bH (bY 1 kp (bH (bR (eV 2)) aN)) aN)))) bq)
 (cR (aY "Words" aa 1 (bI (ae bJ (eV 3) (eC (.str "max"))))
 (fN (mP "Dearer" 2 C8 Lx (bH (bR (eV 0)) (bH (bY 1 kp (bH (bR (eV 2)) aN)) aN)))) bq)
 (cR (aY "Words" aa 1 (bI (ae bJ (eV 3) (eC (.str "only"))))
 (cR (ed 4 (bY 0 B3 aN))
 (fN (bR (yF "Only" 3 Bj NM (ah (eV 0) (ah (gF (bV 4) (eC (.int 0))) (ah (gF (bV 4) (eC (.int 1))) ag))))))) bq)
 (cR (aY "Words" aa 1 (bI (ae bJ (eV 3) (eC (.str "after"))))
 (fN (mP "After" 2 Bm Lq (bH (bR (eV 0)) (bH (bY 1 rm (bH (bR (eC (.int 0))) aN)) aN)))) bq)
 (cR (aY "Words" aa 1 (bI (ae bJ (eV 3) (eC (.str "roomy"))))
 (fN (bR (yF "Roomy" 1 Dd NQ (ah (eV 0) ag)))) bq)
 (cR (aY "Words" aa 1 (bI (ae bJ (eV 3) (eC (.str "fee"))))
 (fN (mP "Fee" 2 Bi Lg (bH (bR (eV 0)) (bH (bY 0 rk aN) aN)))) bq)
 jH))))))))
noncomputable def Ga(kp:List D->List D->Option (D×List D)):List D->List D->Option (D×List D):=fF (TN kp) 1 5
noncomputable def TR(kp:List D->List D->Option (D×List D))(kr:List D->List D->Option Str):GR:=
 (dF b9 (ed 3 (bY 0 gZ aN))
 (dF (dJ "Words" aa 1 (bI (ae bJ (eV 3) (eC (.str "plus"))))
 (F1 (bR (eV 0)) (fP 1 kr (bH (bR (eV 2)) aN))) b9) (aY "Words" aa 1 (bI (ae bJ (eV 3) (eC (.str "plus"))))
 (fN (mP "Sum" 2 C7 Lh (bH (bR (eV 0)) (bH (bY 1 kp (bH (bR (eV 2)) aN)) aN)))) bq)
 (dF (dJ "Words" aa 1 (bI (ae bJ (eV 3) (eC (.str "or"))))
 (F1 (bR (eV 0)) (fP 1 kr (bH (bR (eV 2)) aN))) b9) (aY "Words" aa 1 (bI (ae bJ (eV 3) (eC (.str "or"))))
 (fN (mP "Cheaper" 2 Dk Lu (bH (bR (eV 0)) (bH (bY 1 kp (bH (bR (eV 2)) aN)) aN)))) bq)
 (dF (dJ "Words" aa 1 (bI (ae bJ (eV 3) (eC (.str "max"))))
 (F1 (bR (eV 0)) (fP 1 kr (bH (bR (eV 2)) aN))) b9) (aY "Words" aa 1 (bI (ae bJ (eV 3) (eC (.str "max"))))
 (fN (mP "Dearer" 2 C8 Lx (bH (bR (eV 0)) (bH (bY 1 kp (bH (bR (eV 2)) aN)) aN)))) bq)
 (dF (dJ "Words" aa 1 (bI (ae bJ (eV 3) (eC (.str "only"))))
 (dF (fP 0 HH aN) (ed 4 (bY 0 B3 aN))
 b9) b9) (aY "Words" aa 1 (bI (ae bJ (eV 3) (eC (.str "only"))))
 (cR (ed 4 (bY 0 B3 aN))
 (fN (bR (yF "Only" 3 Bj NM (ah (eV 0) (ah (gF (bV 4) (eC (.int 0))) (ah (gF (bV 4) (eC (.int 1))) ag))))))) bq)
 (dF (dJ "Words" aa 1 (bI (ae bJ (eV 3) (eC (.str "after"))))
 (F1 (bR (eV 0)) (fP 1 Eo (bH (bR (eC (.int 0))) aN))) b9) (aY "Words" aa 1 (bI (ae bJ (eV 3) (eC (.str "after"))))
 (fN (mP "After" 2 Bm Lq (bH (bR (eV 0)) (bH (bY 1 rm (bH (bR (eC (.int 0))) aN)) aN)))) bq)
 (dF b9 (aY "Words" aa 1 (bI (ae bJ (eV 3) (eC (.str "roomy"))))
 (fN (bR (yF "Roomy" 1 Dd NQ (ah (eV 0) ag)))) bq)
 (dF (dJ "Words" aa 1 (bI (ae bJ (eV 3) (eC (.str "fee"))))
 (F1 (bR (eV 0)) (fP 0 Dm aN)) b9) (aY "Words" aa 1 (bI (ae bJ (eV 3) (eC (.str "fee"))))
 (fN (mP "Fee" 2 Bi Lg (bH (bR (eV 0)) (bH (bY 0 rk aN) aN)))) bq)
 (sZ (pN "BadRule" (ah (rg (jc (eC (.str "nothing is done with a rule by ")) (jc (lH (eV 3)) lu))) ag)))))))))))
noncomputable def LA(kp:List D->List D->Option (D×List D))(kr:List D->List D->Option Str):List D->List D->Option Str:=sC (TR kp kr) 1 5
noncomputable abbrev ZX:Stmt:=top 45
noncomputable abbrev Dp{α:Type}(Y:Str->Stmt->List Str->α):α:=Y "bracketed_from" ZX ["words","around"]
noncomputable def Ux(kp:List D->List D->Option (D×List D)):GS:=
 (cR (aY "Words" aa 0 (bI (ae DR (eV 1) (eC (.int 20))))
 jH bq)
 (cR (ed 2 (bY 1 kp (bH (bR (ae aD (eV 1) (eC (.int 1)))) aN)))
 (cR (ed 3 (bY 2 (Ga kp) (bH (bR (eV 2)) (bH (bR (ae aD (eV 1) (eC (.int 1)))) aN))))
 (cR (pW (bY 1 qS (bH (bR (eC (.str ")"))) aN)))
 (fN (bR (eV 3)))))))
noncomputable def Gk(kp:List D->List D->Option (D×List D)):List D->List D->Option (D×List D):=fF (Ux kp) 0 4
noncomputable def Uy(kp:List D->List D->Option (D×List D))(kr:List D->List D->Option Str):GR:=
 (dF (dJ "Words" aa 0 (bI (ae DR (eV 1) (eC (.int 20))))
 (sZ (pN "BadRule" (ah (eC (.str "a bracket stands within too many pairs of brackets")) ag))) b9) (aY "Words" aa 0 (bI (ae DR (eV 1) (eC (.int 20))))
 jH bq)
 (dF (fP 1 kr (bH (bR (ae aD (eV 1) (eC (.int 1)))) aN)) (ed 2 (bY 1 kp (bH (bR (ae aD (eV 1) (eC (.int 1)))) aN)))
 (dF (fP 2 (LA kp kr) (bH (bR (eV 2)) (bH (bR (ae aD (eV 1) (eC (.int 1)))) aN))) (ed 3 (bY 2 (Ga kp) (bH (bR (eV 2)) (bH (bR (ae aD (eV 1) (eC (.int 1)))) aN))))
 (dF (fP 1 Bt (bH (bR (eC (.str ")"))) aN)) (pW (bY 1 qS (bH (bR (eC (.str ")"))) aN)))
 b9))))
noncomputable def LI(kp:List D->List D->Option (D×List D))(kr:List D->List D->Option Str):List D->List D->Option Str:=sC (Uy kp kr) 0 4
noncomputable abbrev Zm:Stmt:=top 38
noncomputable abbrev B7{α:Type}(Y:Str->Stmt->List Str->α):α:=Y "rule_from" Zm ["words","around"]
noncomputable def Bs(kp:List D->List D->Option (D×List D)):GS:=
 (cR (ed 2 (bY 0 gZ aN))
 (cR (aY "Words" aa 0 (bI (ae bJ (eV 2) (eC (.str "("))))
 (fN (bY 1 (Gk kp) (bH (bR (eV 1)) aN))) bq)
 (cR (aY "Words" aa 0 (bI (ae bJ (eV 2) (eC (.str "each"))))
 (fN (bY 0 Ly aN)) bq)
 (cR (aY "Words" aa 0 (bI (ae bJ (eV 2) (eC (.str "flat"))))
 (fN (bY 0 Lz aN)) bq)
 (cR (aY "Words" aa 0 (bI (ae bJ (eV 2) (eC (.str "bands"))))
 (fN (mP "Bands" 1 pO Bo (bH (bY 0 qU aN) aN))) bq)
 (cR (aY "Words" aa 0 (bI (ae bJ (eV 2) (eC (.str "steps"))))
 (fN (mP "Steps" 1 pP Bp (bH (bY 0 qU aN) aN))) bq)
 (cR (aY "Words" aa 0 (bI (ae bJ (eV 2) (eC (.str "blocks"))))
 (fN (bY 0 LD aN)) bq)
 (cR (aY "Words" aa 0 (nR (iB (dH 1 Dh (ah (eV 2) ag))))
 jH bq)
 (fN (bR (yF "Named" 1 Hr TK (ah (eV 2) ag))))))))))))
noncomputable def Up(kp:List D->List D->Option (D×List D)):List D->List D->Option (D×List D):=fF (Bs kp) 0 3
noncomputable def Gg(kp:List D->List D->Option (D×List D))(kr:List D->List D->Option Str):GR:=
 (dF b9 (ed 2 (bY 0 gZ aN))
 (dF (dJ "Words" aa 0 (bI (ae bJ (eV 2) (eC (.str "("))))
 (fP 1 (LI kp kr) (bH (bR (eV 1)) aN)) b9) (aY "Words" aa 0 (bI (ae bJ (eV 2) (eC (.str "("))))
 (fN (bY 1 (Gk kp) (bH (bR (eV 1)) aN))) bq)
 (dF (dJ "Words" aa 0 (bI (ae bJ (eV 2) (eC (.str "each"))))
 (fP 0 Ow aN) b9) (aY "Words" aa 0 (bI (ae bJ (eV 2) (eC (.str "each"))))
 (fN (bY 0 Ly aN)) bq)
 (dF (dJ "Words" aa 0 (bI (ae bJ (eV 2) (eC (.str "flat"))))
 (fP 0 Ox aN) b9) (aY "Words" aa 0 (bI (ae bJ (eV 2) (eC (.str "flat"))))
 (fN (bY 0 Lz aN)) bq)
 (dF (dJ "Words" aa 0 (bI (ae bJ (eV 2) (eC (.str "bands"))))
 (fP 0 HG aN) b9) (aY "Words" aa 0 (bI (ae bJ (eV 2) (eC (.str "bands"))))
 (fN (mP "Bands" 1 pO Bo (bH (bY 0 qU aN) aN))) bq)
 (dF (dJ "Words" aa 0 (bI (ae bJ (eV 2) (eC (.str "steps"))))
 (fP 0 HG aN) b9) (aY "Words" aa 0 (bI (ae bJ (eV 2) (eC (.str "steps"))))
 (fN (mP "Steps" 1 pP Bp (bH (bY 0 qU aN) aN))) bq)
 (dF (dJ "Words" aa 0 (bI (ae bJ (eV 2) (eC (.str "blocks"))))
 (fP 0 Ob aN) b9) (aY "Words" aa 0 (bI (ae bJ (eV 2) (eC (.str "blocks"))))
 (fN (bY 0 LD aN)) bq)
 (dF (dJ "Words" aa 0 (nR (iB (dH 1 Dh (ah (eV 2) ag))))
 (sZ (pN "BadRule" (ah (rg (jc (eC (.str "no rule begins with ")) (jc (lH (eV 2)) lu))) ag))) b9) (aY "Words" aa 0 (nR (iB (dH 1 Dh (ah (eV 2) ag))))
 jH bq)
 b9))))))))
noncomputable def Uj(kp:List D->List D->Option (D×List D))(kr:List D->List D->Option Str):List D->List D->Option Str:=sC (Gg kp kr) 0 3
noncomputable def iK:Nat->List D->List D->Option (D×List D)
 |0=>λ_ _=>none
 |n+1=>Up (iK n)
noncomputable def pZ:Nat->List D->List D->Option Str
 |0=>λ_ _=>none
 |n+1=>Uj (iK n) (pZ n)
noncomputable abbrev Zk:Stmt:=top 37
noncomputable abbrev HA{α:Type}(Y:Str->Stmt->List Str->α):α:=Y "read_rule" Zk ["text"]
noncomputable def B2:SF:=
 (Lc 1 1 sL (ah (eV 0) ag)
 (cR (ed 2 (bY 1 (iK 23) (bH (bR (eC (.int 0))) aN)))
 (cR (aY "Words" aa 1 (nR (iB (jk "at_end" 1 Dl (eV 1) ag)))
 jH bq)
 (fN (bR (eV 2))))))
noncomputable def Br:List D->Option Sl:=cV B2 3
noncomputable def Lr:En->Option Str:=
 (Lb 1 1 sL (ah (eV 0) ag)
 (dF (fP 1 (pZ 23) (bH (bR (eC (.int 0))) aN)) (ed 2 (bY 1 (iK 23) (bH (bR (eC (.int 0))) aN)))
 (dF (dJ "Words" aa 1 (nR (iB (jk "at_end" 1 Dl (eV 1) ag)))
 (sZ (pN "BadRule" (ah (eC (.str "the rule ends ahead of the text")) ag))) b9) (aY "Words" aa 1 (nR (iB (jk "at_end" 1 Dl (eV 1) ag)))
 jH bq)
 b9)))
noncomputable def Em:List D->Option Str:=WD Lr 3
noncomputable abbrev YG:Stmt:=top 7
noncomputable abbrev TB{α:Type}(Y:Str->Stmt->List Str->α):α:=Y "worded" YG ["words"]
noncomputable def Ti:SF:=
 (bZ (qz (eC (.str " ")) (nC (nQ (o9 (eV 0)) [] 1 (gN 0) sE (D0 (eV 0))))))
noncomputable def wF:List D->Option Sl:=cV Ti 1
theorem Bv:Wo (wF [a0]) Q↔Wo (Ti [.sh a0]) (dN Q):=lj
noncomputable def Uk(kp:bo):SF:=
 (bZ (dH 1 wF (ah (bh (ah (eC (.str "each")) (ah (eM Nw "unit" (eV 0)) (ah (eC (.str "from")) (ah (eM D6 "low" (eV 0)) (ah (eC (.str "to")) (ah (eM Ea "high" (eV 0)) ag))))))) ag)))
noncomputable def HS(kp:bo):List D->Option Sl:=cV (Uk kp) 1
theorem ny{kp:bo}:Wo (HS kp [a0]) Q↔Wo (Uk kp [.sh a0]) (dN Q):=lj
noncomputable def Ul(kp:bo):SF:=
 (bZ (dH 1 wF (ah (bh (ah (eC (.str "flat")) (ah (eM Ef "price" (eV 0)) (ah (eC (.str "from")) (ah (eM D6 "low" (eV 0)) (ah (eC (.str "to")) (ah (eM Ea "high" (eV 0)) ag))))))) ag)))
noncomputable def HU(kp:bo):List D->Option Sl:=cV (Ul kp) 1
theorem nv{kp:bo}:Wo (HU kp [a0]) Q↔Wo (Ul kp [.sh a0]) (dN Q):=lj
noncomputable def UB:SF:=
 (bZ (dH 1 wF (ah (nQ (o9 (eM Hi "rows" (eV 0))) [] 2 (gT 2 (BO (gN 0) (BO (gN 1) G8))) sE (rg (jc (jF (eV 0)) (jc (eC (.str ":")) (jc (jF (eV 1)) lu))))) ag)))
noncomputable def B9:List D->Option Sl:=cV UB 1
theorem jo:Wo (B9 [a0]) Q↔Wo (UB [.sh a0]) (dN Q):=lj
noncomputable def Ek:bo:=[("Bands",B9),("Steps",B9)]
noncomputable def N4(kp:bo):SF:=
 (bZ (dH 1 wF (ah (bh (ah (eC (.str "bands")) (ah (jk "written_rows" 1 Ek (eV 0) ag) ag))) ag)))
noncomputable def Gi(kp:bo):List D->Option Sl:=cV (N4 kp) 1
theorem iy{kp:bo}:Wo (Gi kp [a0]) Q↔Wo (N4 kp [.sh a0]) (dN Q):=lj
noncomputable def N5(kp:bo):SF:=
 (bZ (dH 1 wF (ah (bh (ah (eC (.str "steps")) (ah (jk "written_rows" 1 Ek (eV 0) ag) ag))) ag)))
noncomputable def Gj(kp:bo):List D->Option Sl:=cV (N5 kp) 1
theorem iw{kp:bo}:Wo (Gj kp [a0]) Q↔Wo (N5 kp [.sh a0]) (dN Q):=lj
noncomputable def Uv(kp:bo):SF:=
 (bZ (dH 1 wF (ah (bh (ah (eC (.str "blocks")) (ah (eM Nv "size" (eV 0)) (ah (eC (.str "at")) (ah (eM Ef "price" (eV 0)) (ah (eC (.str "times")) (ah (eM Nt "many" (eV 0)) ag))))))) ag)))
noncomputable def HJ(kp:bo):List D->Option Sl:=cV (Uv kp) 1
theorem kP{kp:bo}:Wo (HJ kp [a0]) Q↔Wo (Uv kp [.sh a0]) (dN Q):=lj
noncomputable def Uh(kp:bo):SF:=
 (bZ (eM Nu "name" (eV 0)))
noncomputable def HQ(kp:bo):List D->Option Sl:=cV (Uh kp) 1
theorem lL{kp:bo}:Wo (HQ kp [a0]) Q↔Wo (Uh kp [.sh a0]) (dN Q):=lj
noncomputable def LG(kp:bo):SF:=
 (bZ (dH 1 wF (ah (bh (ah (eC (.str "(")) (ah (jk "written" 1 kp (eM Bh "one" (eV 0)) ag) (ah (eV 1) (ah (jk "written" 1 kp (eM Ho "other" (eV 0)) ag) (ah (eC (.str ")")) ag)))))) ag)))
noncomputable def B8(kp:bo):List D->Option Sl:=cV (LG kp) 2
theorem cZ{kp:bo}:Wo (B8 kp [a0,a1]) Q↔Wo (LG kp [.sh a0,.sh a1]) (dN Q):=lj
noncomputable def Dq(kp:bo):bo:=[("Sum",B8 kp),("Cheaper",B8 kp),("Dearer",B8 kp)]
noncomputable def Uc(kp:bo):SF:=
 (bZ (jk "written_between" 2 (Dq kp) (eV 0) (ah (eC (.str "plus")) ag)))
noncomputable def HF(kp:bo):List D->Option Sl:=cV (Uc kp) 1
theorem nW{kp:bo}:Wo (HF kp [a0]) Q↔Wo (Uc kp [.sh a0]) (dN Q):=lj
noncomputable def Uz(kp:bo):SF:=
 (bZ (jk "written_between" 2 (Dq kp) (eV 0) (ah (eC (.str "or")) ag)))
noncomputable def HL(kp:bo):List D->Option Sl:=cV (Uz kp) 1
theorem j8{kp:bo}:Wo (HL kp [a0]) Q↔Wo (Uz kp [.sh a0]) (dN Q):=lj
noncomputable def Uw(kp:bo):SF:=
 (bZ (jk "written_between" 2 (Dq kp) (eV 0) (ah (eC (.str "max")) ag)))
noncomputable def HK(kp:bo):List D->Option Sl:=cV (Uw kp) 1
theorem kO{kp:bo}:Wo (HK kp [a0]) Q↔Wo (Uw kp [.sh a0]) (dN Q):=lj
noncomputable def HM(kp:bo):SF:=
 (bZ (dH 1 wF (ah (ae aD (ae aD (bh (ah (eC (.str "(")) (ah (jk "written" 1 kp (eM Bh "one" (eV 0)) ag) ag))) (eV 1)) (bh (ah (eC (.str ")")) ag))) ag)))
noncomputable def zK(kp:bo):List D->Option Sl:=cV (HM kp) 2
theorem cF{kp:bo}:Wo (zK kp [a0,a1]) Q↔Wo (HM kp [.sh a0,.sh a1]) (dN Q):=lj
noncomputable def Bu(kp:bo):bo:=[("Only",zK kp),("After",zK kp),("Roomy",zK kp),("Fee",zK kp)]
noncomputable def Um(kp:bo):SF:=
 (bZ (jk "written_with" 2 (Bu kp) (eV 0) (ah (bh (ah (eC (.str "only")) (ah (eM D6 "low" (eV 0)) (ah (eC (.str "to")) (ah (eM Ea "high" (eV 0)) ag))))) ag)))
noncomputable def HV(kp:bo):List D->Option Sl:=cV (Um kp) 1
theorem nu{kp:bo}:Wo (HV kp [a0]) Q↔Wo (Um kp [.sh a0]) (dN Q):=lj
noncomputable def Ug(kp:bo):SF:=
 (bZ (jk "written_with" 2 (Bu kp) (eV 0) (ah (bh (ah (eC (.str "after")) (ah (eM NL "count" (eV 0)) ag))) ag)))
noncomputable def HP(kp:bo):List D->Option Sl:=cV (Ug kp) 1
theorem lM{kp:bo}:Wo (HP kp [a0]) Q↔Wo (Ug kp [.sh a0]) (dN Q):=lj
noncomputable def Ui(kp:bo):SF:=
 (bZ (jk "written_with" 2 (Bu kp) (eV 0) (ah (bh (ah (eC (.str "roomy")) ag)) ag)))
noncomputable def HR(kp:bo):List D->Option Sl:=cV (Ui kp) 1
theorem lK{kp:bo}:Wo (HR kp [a0]) Q↔Wo (Ui kp [.sh a0]) (dN Q):=lj
noncomputable def Ub(kp:bo):SF:=
 (bZ (jk "written_with" 2 (Bu kp) (eV 0) (ah (bh (ah (eC (.str "fee")) (ah (eM Ef "price" (eV 0)) ag))) ag)))
noncomputable def HE(kp:bo):List D->Option Sl:=cV (Ub kp) 1
theorem nX{kp:bo}:Wo (HE kp [a0]) Q↔Wo (Ub kp [.sh a0]) (dN Q):=lj
noncomputable def Zp(kp:bo):bo:=[("Each",HS kp),("Flat",HU kp),("Bands",Gi kp),("Steps",Gj kp),("Blocks",HJ kp),("Named",HQ kp),("Sum",HF kp),("Cheaper",HL kp),("Dearer",HK kp),("Only",HV kp),("After",HP kp),("Roomy",HR kp),("Fee",HE kp)]
noncomputable def c9:Nat->bo
 |0=>[]
 |n+1=>Zp (c9 n)
noncomputable abbrev Y7:Stmt:=top 54
noncomputable abbrev T8{α:Type}(Y:Str->Stmt->List Str->α):α:=Y "_law_told" Y7 ["text"]
noncomputable def NX:SF:=
 (a9 (fD 1 (bh ag))
 (a9 (qj 2 (RS "BadRule" Wn) (fD 1 (bh (ah (jk "written" 1 (c9 24) (dH 1 Br (ah (eV 0) ag)) ag) ag)))
 (rE (BQ 1 Em (ah (eV 0) ag)))
 (fD 1 (bh (ah (AJ (K2 "BadRule" true M5) (eV 2)) (ah (AJ (K2 "BadRule" true M5) (eV 2)) (ah (Fp (AJ (K2 "BadRule" false M5) (eV 2))) ag))))))
 (bZ (eV 1))))
noncomputable def jm:List D->Option Sl:=cV NX 3
theorem nr:Wo (jm [a0]) Q↔Wo (NX [.sh a0,.no,.no]) (dN Q):=lj
noncomputable abbrev Y0:Stmt:=top 49
noncomputable abbrev TF{α:Type}(Y:Str->Stmt->List Str->α):α:=Y "_law_mix" Y0 ["cell","k","size"]
noncomputable def To:SF:=
 (a9 (fD 3 (ae aD (eC (.int 271828182845904523536028747135266249775724709369995)) (ae lF (ae lF (eC (.int 2)) (eV 1)) (eV 1))))
 (a9 (fD 4 (ae aD (ae lF (ae aD (ae o8 (eV 0) (ae CC (eC (.int 10)) (eC (.int 60)))) (eC (.int 1))) (eV 3)) (ae lF (eC (.int 7907)) (eV 1))))
 (bZ (ae o8 (ae Fg (ae o8 (ae lF (eV 4) (eV 4)) (ae aD (ae CC (eC (.int 10)) (eC (.int 60))) (eC (.int 7)))) (eC (.int 11))) (eV 2)))))
noncomputable def nk:List D->Option Sl:=cV To 5
theorem wG:Wo (nk [a0,a1,a2]) Q↔Wo (To [.sh a0,.sh a1,.sh a2,.no,.no]) (dN Q):=lj
noncomputable abbrev ZL:Stmt:=top 53
noncomputable abbrev Uu{α:Type}(Y:Str->Stmt->List Str->α):α:=Y "_law_changed" ZL ["cell"]
noncomputable def Ud:SF:=
 (a9 (fD 1 (bh (ah (eC (.str "( ( each 3 from 0 to 9")) (ah (eC (.str "or")) (ah (eC (.str "steps 4:1 9:2 ) plus")) (ah (eC (.str "( blocks 2 at 5 times 3 only 1 to 4 ) )")) ag))))))
 (a9 (fD 1 (M9 (qz (eC (.str " ")) (bV 1)) (eC (.str " "))))
 (a9 (fD 2 (dH 3 nk (ah (eV 0) (ah (eC (.int 6)) (ah (iU (bV 1)) ag)))))
 (a9 (fD 3 (gF (bV 1) (dH 3 nk (ah (eV 0) (ah (eC (.int 7)) (ah (iU (bV 1)) ag))))))
 (a9 (fD 4 (dH 3 nk (ah (eV 0) (ah (eC (.int 8)) (ah (eC (.int 4)) ag)))))
 (a9 (kC (bI (ae bJ (eV 4) (eC (.int 0))))
 (bZ (qz (eC (.str " ")) (nC (ae aD (pk (bV 1) mm (lQ (eV 2))) (pk (bV 1) (lQ (ae aD (eV 2) (eC (.int 1)))) mm))))) lq)
 (a9 (kC (bI (ae bJ (eV 4) (eC (.int 1))))
 (bZ (qz (eC (.str " ")) (nC (ae aD (ae aD (pk (bV 1) mm (lQ (eV 2))) (bh (ah (eV 3) ag))) (pk (bV 1) (lQ (eV 2)) mm))))) lq)
 (a9 (kC (bI (ae bJ (eV 4) (eC (.int 2))))
 (bZ (qz (eC (.str " ")) (nC (ae aD (ae aD (pk (bV 1) mm (lQ (eV 2))) (bh (ah (eV 3) ag))) (pk (bV 1) (lQ (ae aD (eV 2) (eC (.int 1)))) mm))))) lq)
 (bZ (qz (eC (.str " ")) (nC (ae aD (ae aD (pk (bV 1) mm (lQ (eV 2))) (bh (ah (gF (bV 1) (eV 2)) ag))) (pk (bV 1) (lQ (eV 2)) mm)))))))))))))
noncomputable def Gm:List D->Option Sl:=cV Ud 5
theorem nV:Wo (Gm [a0]) Q↔Wo (Ud [.sh a0,.no,.no,.no,.no]) (dN Q):=lj
noncomputable abbrev Y':Stmt:=top 51
noncomputable abbrev Ua{α:Type}(Y:Str->Stmt->List Str->α):α:=Y "_law_nested" Y' ["pairs"]
noncomputable def Ue:SF:=
 (a9 (fD 1 (eC (.str "p")))
 (a9 (KY EF (ah (eV 0) ag) (gN 2)
 (fD 1 (ae aD (ae aD (eC (.str "( ")) (eV 1)) (gF (nC (bh (ah (eC (.str " roomy )")) (ah (eC (.str " plus q )")) (ah (eC (.str " fee 1 )")) ag))))) (ae o8 (eV 2) (eC (.int 3)))))))
 (bZ (eV 1))))
noncomputable def HD:List D->Option Sl:=cV Ue 3
theorem pQ:Wo (HD [a0]) Q↔Wo (Ue [.sh a0,.no,.no]) (dN Q):=lj
noncomputable abbrev Y5:Stmt:=top 52
noncomputable abbrev T6{α:Type}(Y:Str->Stmt->List Str->α):α:=Y "_law_edge" Y5 ["cell","beyond"]
noncomputable def T9:SF:=
 (a9 (fD 2 (dH 3 nk (ah (eV 0) (ah (eC (.int 3)) (ah (eC (.int 4)) ag)))))
 (a9 (kC (bI (ae bJ (eV 2) (eC (.int 0))))
 (bZ (ae aD (ae aD (ae aD (eC (.str "flat ")) (vB (eC (.str "-")) mm (lQ (dH 3 nk (ah (eV 0) (ah (eC (.int 4)) (ah (eC (.int 2)) ag))))))) (ae M1 (eC (.str "7")) (ae aD (eC (.int 40)) (eV 1)))) (eC (.str " from 0 to 5")))) lq)
 (a9 (kC (bI (ae bJ (eV 2) (eC (.int 1))))
 (a9 (fD 3 (nQ (CG KS (ah (ae aD (eC (.int 20)) (eV 1)) ag)) [0] 1 (gN 0) sE (ae aD (ae aD (Ba (ae lF (eV 0) (eC (.int 10)))) (eC (.str ":"))) (Ba (ae AD (dH 3 nk (ah (eV 1) (ah (eV 0) (ah (eC (.int 99)) ag)))) (eC (.int 50)))))))
 (bZ (ae aD (gF (nC (bh (ah (eC (.str "bands ")) (ah (eC (.str "steps ")) ag)))) (dH 3 nk (ah (eV 0) (ah (eC (.int 5)) (ah (eC (.int 2)) ag))))) (qz (eC (.str " ")) (bV 3))))) lq)
 (a9 (kC (bI (ae bJ (eV 2) (eC (.int 2))))
 (bZ (ae aD (eC (.str "blocks 3 at -4 times ")) (Ba (ae aD (eC (.int 40)) (eV 1))))) lq)
 (bZ (dH 1 HD (ah (ae aD (eC (.int 21)) (eV 1)) ag)))))))
noncomputable def B6:List D->Option Sl:=cV T9 4
theorem sN:Wo (B6 [a0,a1]) Q↔Wo (T9 [.sh a0,.sh a1,.no,.no]) (dN Q):=lj
noncomputable abbrev Y6:Stmt:=top 50
noncomputable abbrev T7{α:Type}(Y:Str->Stmt->List Str->α):α:=Y "_law_near" Y6 ["cell"]
noncomputable def T':SF:=
 (a9 (fD 1 (bh (ah (eC (.str "")) (ah (eC (.str "each")) (ah (eC (.str "each 1 from 2 to 1")) (ah (eC (.str "each 01 from 0 to 1")) (ah (eC (.str "each 1_0 from 0 to 1")) ag)))))))
 (a9 (fD 1 (ae aD (eV 1) (bh (ah (eC (.str "each +1 from 0 to 1")) (ah (eC (.str "each -0 from 0 to 1")) (ah (eC (.str "each 1 from -1 to 2")) (ah (eC (.str "each 1 to 2")) ag)))))))
 (a9 (fD 1 (ae aD (eV 1) (bh (ah (eC (.str "each x from 0 to 1")) (ah (eC (.str "each 1 from 0 to")) (ah (eC (.str "flat 1 from 0 for 1")) ag))))))
 (a9 (fD 1 (ae aD (eV 1) (bh (ah (eC (.str "flat  1 from 0 to 1")) (ah (eC (.str "flat 1 from 0 to 1 ")) (ah (eC (.str " flat 1 from 0 to 1")) ag))))))
 (a9 (fD 1 (ae aD (eV 1) (bh (ah (eC (.str "Flat 1 from 0 to 1")) (ah (eC (.str "bands")) (ah (eC (.str "bands 1:2 1:3")) (ah (eC (.str "bands 2:1 1:1")) (ah (eC (.str "bands 1:")) ag))))))))
 (a9 (fD 1 (ae aD (eV 1) (bh (ah (eC (.str "bands :1")) (ah (eC (.str "bands 1:2:3")) (ah (eC (.str "bands -1:2")) (ah (eC (.str "bands 1: 2")) (ah (eC (.str "steps")) (ah (eC (.str "steps 3:1 3:1")) ag)))))))))
 (a9 (fD 1 (ae aD (eV 1) (bh (ah (eC (.str "steps 01:1")) (ah (eC (.str "steps 1:1 p")) (ah (eC (.str "steps 0:1,1:2")) (ah (eC (.str "blocks 0 at 1 times 1")) ag)))))))
 (a9 (fD 1 (ae aD (eV 1) (bh (ah (eC (.str "blocks 1 at 1 times 0")) (ah (eC (.str "blocks 1 at 1")) (ah (eC (.str "blocks -1 at 1 times 1")) (ah (eC (.str "Name")) ag)))))))
 (a9 (fD 1 (ae aD (eV 1) (bh (ah (eC (.str "abcdefghi")) (ah (eC (.str "plus")) (ah (eC (.str "roomy")) (ah (eC (.str "p1")) (ah (eC (.str "p q")) (ah (eC (.str "( p")) (ah (eC (.str "p )")) (ah (eC (.str "( p )")) (ah (eC (.str "( p plus )")) ag))))))))))))
 (a9 (fD 1 (ae aD (eV 1) (bh (ah (eC (.str "( plus p )")) (ah (eC (.str "( p minus q )")) (ah (eC (.str "( p only 2 to 1 )")) (ah (eC (.str "( p only 0 to )")) ag)))))))
 (a9 (fD 1 (ae aD (eV 1) (bh (ah (eC (.str "( p after -1 )")) (ah (eC (.str "( p roomy 1 )")) (ah (eC (.str "( p fee )")) (ah (eC (.str "( p fee 1.5 )")) (ah (eC (.str "(p roomy)")) ag))))))))
 (a9 (fD 1 (ae aD (eV 1) (bh (ah (eC (.str "( p plus q r )")) ag))))
 (a9 (fD 1 (ae aD (eV 1) (bh (ah (eC (.str "( p only -1 to 2 )")) (ah (eC (.str "flat 1 from -1 to 2")) (ah (eC (.str "( p only 01 to 2 )")) ag))))))
 (a9 (fD 2 (gF (bV 1) (dH 3 nk (ah (eV 0) (ah (eC (.int 1)) (ah (iU (bV 1)) ag))))))
 (bZ (gF (nC (bh (ah (eV 2) (ah (ae aD (ae aD (eC (.str "( ")) (eV 2)) (eC (.str " plus q )"))) (ah (ae aD (ae aD (eC (.str "( q or ")) (eV 2)) (eC (.str " )"))) (ah (ae aD (ae aD (eC (.str "( ")) (eV 2)) (eC (.str " fee 3 )"))) ag)))))) (dH 3 nk (ah (eV 0) (ah (eC (.int 2)) (ah (eC (.int 4)) ag))))))))))))))))))))
noncomputable def F8:List D->Option Sl:=cV T' 3
theorem sM:Wo (F8 [a0]) Q↔Wo (T' [.sh a0,.no,.no]) (dN Q):=lj
noncomputable abbrev K9:Stmt:=top 55
noncomputable abbrev Ii{α:Type}(Y:Str->Stmt->List Str->α):α:=Y "law" K9 ["script"]
noncomputable def RM:SF:=
 (a9 (z0 (ae aD (pk (bV 0) mm (lQ (eC (.int 40)))) (bh (ah (eC (.int 0)) ag))) (gN 1)
 (a9 (kC (bI (ae gp (dH 1 jm (ah (dH 1 F8 (ah (eV 1) ag)) ag)) (bh (ah (eC (.bl true)) (ah (eC (.bl true)) (ah (eC (.bl true)) ag))))))
 (bZ (eC (.bl false))) lq)
 (a9 (fD 2 (dH 2 B6 (ah (eV 1) (ah (eC (.int 0)) ag))))
 (a9 (kC (mi (bI (ae gp (dH 1 jm (ah (eV 2) ag)) (bh (ah (eV 2) ag)))) (bI (ae gp (dH 1 jm (ah (dH 2 B6 (ah (eV 1) (ah (eC (.int 1)) ag))) ag)) (bh (ah (eC (.bl true)) (ah (eC (.bl true)) (ah (eC (.bl true)) ag)))))))
 (bZ (eC (.bl false))) lq)
 (a9 (fD 3 (dH 1 Gm (ah (eV 1) ag)))
 (a9 (fD 4 (dH 1 jm (ah (eV 3) ag)))
 (kC (oH (bI (ae gp (eV 4) (bh (ah (eC (.bl true)) (ah (eC (.bl true)) (ah (eC (.bl true)) ag)))))) (bI (ae gp (eV 4) (bh (ah (eV 3) ag)))))
 (bZ (eC (.bl false))) lq)))))))
 (bZ (eC (.bl true))))
noncomputable def ND:List D->Option Sl:=cV RM 5
theorem LJ:Wo (ND [a0]) Q↔Wo (RM [.sh a0,.no,.no,.no,.no]) (dN Q):=lj
structure Du(K:aG)(mg:Str->Option Value)(aA p9 p8:Addr):Prop where
 bS:Cl K mg "BadRule" aA
 v0p:Cl K mg "OfferError" p9
 v0q:Cl K mg "TooMany" p8
 O9:Ro K (.ref aA) (.ref p9)=some true
 ef:GU K (.ref aA) (.ref aA)=some true
 O8:GU K (.ref aA) (.ref p8)=some false
 dg:GU K (.ref aA) (.type "ValueError")=some true
 c7:LW K aA
theorem qe{X X':Cx}{aA p9 p8:Addr}(e3:X'.K=X.K)(e4:X'.mg=X.mg)(h:Du X.K X.mg aA p9 p8):Du X'.K X'.mg aA p9 p8:=by rw[e3,e4];exact h
structure Z5(K:aG)(mg:Str->Option Value)(du dt cY cW cu dD e9 bw cq cK cz cX eB bj cp cc cb cA bA aO bB bE bD aE bf bb aW be aq bU aQ aV ai bC bg bc bW bK bL bt aT cj cm ao cB bM cf aK:Addr):Prop where
 fU:df K "Each" du
 Ff:mg "Each" = some (.ref du)
 rN:Mk K du cm
 gx:ak K du "unit"
 h9:ak K du "low"
 gy:ak K du "high"
 gc:aZ K du "written" bE
 fT:df K "Flat" dt
 Fe:mg "Flat" = some (.ref dt)
 rM:Mk K dt cj
 fI:ak K dt "price"
 h8:ak K dt "low"
 gv:ak K dt "high"
 fZ:aZ K dt "written" bD
 gD:df K "Bands" cY
 CA:mg "Bands" = some (.ref cY)
 oS:Mk K cY aT
 fK:ak K cY "rows"
 dn:aZ K cY "written_rows" aE
 fB:aZ K cY "written" bf
 gA:df K "Steps" cW
 Cw:mg "Steps" = some (.ref cW)
 oP:Mk K cW aT
 fG:ak K cW "rows"
 dj:aZ K cW "written_rows" aE
 fx:aZ K cW "written" bb
 di:df K "Blocks" cu
 AA:mg "Blocks" = some (.ref cu)
 me:Mk K cu bt
 eR:ak K cu "size"
 ej:ak K cu "price"
 eS:ak K cu "many"
 eL:aZ K cu "written" aW
 ia:df K "Named" dD
 Cz:mg "Named" = some (.ref dD)
 oR:Mk K dD bL
 fH:ak K dD "name"
 fA:aZ K dD "written" be
 jq:df K "Sum" e9
 JZ:mg "Sum" = some (.ref e9)
 zQ:Mk K e9 aK
 i0:ak K e9 "one"
 gq:ak K e9 "other"
 da:aZ K e9 "written_between" aq
 gO:aZ K e9 "written" bU
 c8:df K "Cheaper" bw
 vw:mg "Cheaper" = some (.ref bw)
 kB:Mk K bw aK
 eQ:ak K bw "one"
 dU:ak K bw "other"
 cG:aZ K bw "written_between" aq
 eu:aZ K bw "written" aQ
 dQ:df K "Dearer" cq
 Az:mg "Dearer" = some (.ref cq)
 md:Mk K cq aK
 fJ:ak K cq "one"
 ei:ak K cq "other"
 cI:aZ K cq "written_between" aq
 eK:aZ K cq "written" aV
 fw:df K "Only" cK
 Fd:mg "Only" = some (.ref cK)
 rL:Mk K cK cf
 hZ:ak K cK "one"
 h7:ak K cK "low"
 gu:ak K cK "high"
 dM:aZ K cK "written_with" ai
 fY:aZ K cK "written" bC
 eU:df K "After" cz
 CB:mg "After" = some (.ref cz)
 oU:Mk K cz bM
 gz:ak K cz "one"
 eT:ak K cz "count"
 dq:aZ K cz "written_with" ai
 fC:aZ K cz "written" bg
 gC:df K "Roomy" cX
 Cy:mg "Roomy" = some (.ref cX)
 oQ:Mk K cX ao
 gr:ak K cX "one"
 dk:aZ K cX "written_with" ai
 fy:aZ K cX "written" bc
 jr:df K "Fee" eB
 J0:mg "Fee" = some (.ref eB)
 zR:Mk K eB cB
 ja:ak K eB "one"
 gw:ak K eB "price"
 dW:aZ K eB "written_with" ai
 gP:aZ K eB "written" bW
 cE:df K "Words" bj
 Cv:mg "Words" = some (.ref bj)
 oO:Mk K bj bK
 eP:ak K bj "words"
 dP:ak K bj "place"
 fX:aZ K bj "at_end" cc
 fW:aZ K bj "coming" cb
 gM:aZ K bj "taken" cA
 cN:aZ K bj "number_from" aO
 et:aZ K bj "expect" bB
 er:aZ K bj "number" bA
 mO:mg "Single" = some (.ref cp)
 mY:qZ K cp ao
section
variable {P:Program}{w:World}{K:aG}{mg:Str->Option Value}{base:Heap}
variable {aA p9 p8:Addr}(TT:Du K mg aA p9 p8)
variable {du dt cY cW cu dD e9 bw cq cK cz cX eB bj cp cc cb cA bA aO bB bE bD aE bf bb aW be aq bU aQ aV ai bC bg bc bW bK bL bt aT cj cm ao cB bM cf aK:Addr}(OB:Z5 K mg du dt cY cW cu dD e9 bw cq cK cz cX eB bj cp cc cb cA bA aO bB bE bD aE bf bb aW be aq bU aQ aV ai bC bg bc bW bK bL bt aT cj cm ao cB bM cf aK)
variable (z_str:mg "str" = none)
variable (z_all:mg "all" = none)
variable (z_LETTERS:Gr mg "LETTERS" "abcdefghijklmnopqrstuvwxyz")
variable (z_OWN_WORDS:OV K mg "OWN_WORDS" ["each","from","to","flat","bands","steps","blocks","at","times","plus","or","max","only","after","roomy","fee"])
variable (z_len:mg "len" = none)
variable (z_MOST_LETTERS:BA mg "MOST_LETTERS" 8)
variable (z_int:mg "int" = none)
variable (z_FIGURES:Gr mg "FIGURES" "0123456789")
variable (z_MOST_FIGURES:BA mg "MOST_FIGURES" 40)
variable (z_MOST_ROWS:BA mg "MOST_ROWS" 20)
variable (z_MOST_BLOCKS:BA mg "MOST_BLOCKS" 40)
variable (z_MOST_PAIRS_AROUND:BA mg "MOST_PAIRS_AROUND" 20)
variable (z_range:mg "range" = none)
variable (z_isinstance:mg "isinstance" = none)
variable (z_ValueError:mg "ValueError" = none)
variable {bF:List D->List D->Option (D×List D)}{dA:List D->List D->Option Str}{bN:Nat}(aw:B7 (Og P w K mg base "Words" aa 0) bN bF)(bG:B7 (Xg P w K mg base "Words" aa 0) bN dA)
variable {aj:bo}{au:Nat}(dy:lZ P w K mg base "written" 1 au aj)
include OB in
theorem b0X(D':a7A (cy K bK) d):iY P w K mg base "Words" 1 aa 1 sL:=Bb (N:=["self","text"]) OB.cE OB.Cv OB.oO D' λX r h=>by cases r;exact(h.fM OB.cE.c OB.eP (Yt (h.v 1) aB) (h.fM OB.cE.c OB.dP cx uk))
variable (gk:iY P w K mg base "Words" 1 aa 1 sL)
include OB in
theorem b06:FL K "place" Lm:=(kz OB.cE OB.dP wA)
variable (fq:FL K "place" Lm)
include OB in
theorem b04:FL K "words" Ln:=(kz OB.cE OB.eP wA)
variable (fm:FL K "words" Ln)
include z_len fq fm in
theorem a7T(D':Ur (cy K a) d):Ur (Om P w K mg base a) 1 OE:=pV (N:=["self"]) D' λX r h=>by cases r;exact(gh (hV (Sd (fO h.u8) (lV (h.v 0) fq) (D7 h.g z_len (wu (lV (h.v 0) fm))))))
variable (Oh:Ur (Om P w K mg base cc) 1 OE)
include OB Oh in
theorem b0g:lZ P w K mg base "at_end" 1 1 Dl:=(lW OB.cE OB.fX Oh F4)
variable (dY:lZ P w K mg base "at_end" 1 1 Dl)
include OB in
theorem b00(D':a7B (cy K bL) d):iY P w K mg base "Named" 1 Hr 1 TK:=Bb (N:=["self","name"]) OB.ia OB.Cz OB.oR D' λX r h=>by cases r;exact(h.fM OB.ia.c OB.fH (h.v 1) uk)
variable (hW:iY P w K mg base "Named" 1 Hr 1 TK)
include z_all z_LETTERS z_OWN_WORDS z_len z_MOST_LETTERS in
theorem b2z(D':TC (Def K mg) a d):TC (Oz P w K mg base) 1 Dh:=lG (N:=["text"]) D' λX r h=>by cases r;exact(gH (wx (qa (G6 (um (Ll BM BM cx (SM h.g z_len (h.v 0)) (Bl h.g z_MOST_LETTERS))) (Hh (de (Je h.u8) (h.v 0) (b5D (ys:=["each","from","to","flat","bands","steps","blocks","at","times","plus","or","max","only","after","roomy","fee"]) h.g z_OWN_WORDS) (by with_unfolding_all rfl))))) (gh (hV sA)) wD) (gh (hV (WO h.g z_all h.calm (wu (Hj (N':=["sign"]) (caps:=[]) (nt:=1) h ⟨rfl,by decide +kernel,by decide +kernel,by decide +kernel,by decide +kernel,rfl,rfl,by decide +kernel⟩ (XJ (h.v 0)) (λX1 kL kK gQ d9 kJ h1=>⟨(h1.tg 0),F2,(Sd K7 (h1.v 0) (Ys h1.g (Wm d9 z_LETTERS)) (by with_unfolding_all rfl))⟩)))))))
variable (Eh:TC (Oz P w K mg base) 1 Dh)
include OB in
theorem b0i(D':a7i (cy K bt) d):iY P w K mg base "Blocks" 3 Ei 1 T5:=Bb (N:=["self","size","price","many"]) OB.di OB.AA OB.me D' λX r h=>by cases r;exact(h.fM OB.di.c OB.eR (h.v 1) (h.fM OB.di.c OB.ej (h.v 2) (h.fM OB.di.c OB.eS (h.v 3) uk)))
variable (fR:iY P w K mg base "Blocks" 3 Ei 1 T5)
include z_len fq fm in
theorem a7S(D':Us (cy K a) d):Us (Om P w K mg base a) 1 HN:=pV (N:=["self"]) D' λX r h=>by cases r;exact(gh (hV (RU (de C3 (lV (h.v 0) fq) (D7 h.g z_len (wu (lV (h.v 0) fm)))) (j7 (wu (lV (h.v 0) fm)) (lV (h.v 0) fq)) aB)))
variable (Oi:Us (Om P w K mg base cb) 1 HN)
include OB Oi in
theorem b0f:lZ P w K mg base "coming" 1 1 sJ:=(lW OB.cE OB.fW Oi F4)
variable (cQ:lZ P w K mg base "coming" 1 1 sJ)
include OB cQ in
theorem a8w(D':a81 (cy K cA) d):Mg P w K mg base "Words" aa "taken" 0 2 gZ:=Np (N:=["self","word"]) OB.cE OB.gM D' λX r h=>by cases r;exact(eH (h.cJ 1 (Kg (h.ve (n:=1) cQ (h.v 0)))) (eH (h.QH OB.cE OB.dP cx) (eD (iJ (cH (h.v 1))))))
variable (iW:Mg P w K mg base "Words" aa "taken" 0 2 gZ)
include z_all z_len z_FIGURES z_MOST_FIGURES in
theorem a8v(D':Ut (Def K mg) a d):Ut (Oz P w K mg base) 1 LC:=lG (N:=["text"]) D' λX r h=>by cases r;exact(gH (wx (qa (G6 (um (Ll BM BM cx (SM h.g z_len (h.v 0)) (Bl h.g z_MOST_FIGURES))) (Hh (qa (Xf (de (fO h.u8) (b9M (h.v 0) cx) aB) (X2 (de FV (SM h.g z_len (h.v 0)) cx))))))) (gh (hV sA)) wD) (gh (hV (WO h.g z_all h.calm (wu (Hj (N':=["sign"]) (caps:=[]) (nt:=1) h ⟨rfl,by decide +kernel,by decide +kernel,by decide +kernel,by decide +kernel,rfl,rfl,by decide +kernel⟩ (XJ (h.v 0)) (λX1 kL kK gQ d9 kJ h1=>⟨(h1.tg 0),F2,(Sd K7 (h1.v 0) (Ys h1.g (Wm d9 z_FIGURES)) (by with_unfolding_all rfl))⟩)))))))
variable (El:Ut (Oz P w K mg base) 1 LC)
include TT z_int El in
theorem b0c(D':Hz (Def K mg) a d):Hz (Oz P w K mg base) 2 pY:=lG (N:=["text","figures"]) D' λX r h=>by cases r;exact(gH (h.dh 1 (RU (Bg (Yw (h.v 0) aB)) (Tq (h.v 0) (zG cx) zF) (h.v 0))) (gH (wx (qa (G6 (um (Bg (h.cl El (av (h.v 1) bz)))) (Hh (de (fO h.u8) (h.v 0) aB)))) (gh X7) wD) (gh (hV (b7S h.g z_int (h.v 0))))))
variable (uo:Hz (Oz P w K mg base) 2 pY)
include TT z_int El in
theorem a9N(D':Hz (Def K mg) a d):Hz (Xz P w K mg base) 2 qV:=Wu (N:=["text","figures"]) D' λX W r h xk xr=>by cases r;exact(Tu RY (SV.aI (h.dh 1 (RU (Bg (Yw (h.v 0) aB)) (Tq (h.v 0) (zG cx) zF) (h.v 0)))) (Tu (HY (TV.aI (qa (G6 (um (Bg (h.cl El (av (h.v 1) bz)))) (Hh (de (fO h.u8) (h.v 0) aB))))) (NG (B0 h.calm xr TT.c7 h.g TT.bS.m (AV.aI (av (Hk (ri (K4 (h.v 0)) (ri aB Hb))) bz)))) b6x) (SV.aI (wx (qa (G6 (um (Bg (h.cl El (av (h.v 1) bz)))) (Hh (de (fO h.u8) (h.v 0) aB)))) (gh X7) wD)) (NG RY)))
variable (B4:Hz (Xz P w K mg base) 2 qV)
include OB iW uo in
theorem a7Q(D':ZO (cy K bA) d):Mg P w K mg base "Words" aa "number" 0 3 rk:=Np (N:=["self"]) OB.cE OB.er D' λX r h=>by cases r;exact(eD (iJ (h.JY uo (cL (h.gf iW) bX))))
variable (ju:Mg P w K mg base "Words" aa "number" 0 3 rk)
include OB iW uo B4 in
theorem a7w(D':ZO (cy K bA) d):Dw P w K mg base "Words" aa "number" 0 3 Dm:=SO (N:=["self"]) OB.cE OB.er D' λX W r h xk xr xp=>by cases r;exact(jl (wz (h.JW B4 xk (AG.aI (cL (h.gf iW) bX)))))
variable (rp:Dw P w K mg base "Words" aa "number" 0 3 Dm)
include OB ju in
theorem a52(D':ZS (cy K aO) d):Mg P w K mg base "Words" aa "number_from" 1 4 rm:=Np (N:=["self","least","number"]) OB.cE OB.cN D' λX r h=>by cases r;exact(eH (h.cJ 2 (h.gf ju)) (eH (gR (de C3 (h.v 2) (h.v 1)) (eD pX) gU) (eD (iJ (cH (h.v 2))))))
variable (nj:Mg P w K mg base "Words" aa "number_from" 1 4 rm)
include TT OB ju rp in
theorem a51(D':ZS (cy K aO) d):Dw P w K mg base "Words" aa "number_from" 1 4 Eo:=SO (N:=["self","least","number"]) OB.cE OB.cN D' λX W r h xk xr xp=>by cases r;exact(gi (h.gE 2 (h.qy rp xk)) (SG.aI (h.cJ 2 (h.gf ju))) (gi (oI (TV.aI (de C3 (h.v 2) (h.v 1))) (jl (C4 (B0 h.calm xr TT.c7 h.g TT.bS.m (AV.aI (av (Hk (ri (Nn (h.v 2)) (ri aB (ri (Nn (h.v 1)) Hb)))) bz))))) oK) (SG.aI (gR (de C3 (h.v 2) (h.v 1)) (eD pX) gU)) (jl qO)))
variable (zJ:Dw P w K mg base "Words" aa "number_from" 1 4 Eo)
include OB iW in
theorem a7R(D':ZN (cy K bB) d):Mg P w K mg base "Words" aa "expect" 1 3 qS:=Np (N:=["self","asked","word"]) OB.cE OB.et D' λX r h=>by cases r;exact(eH (h.cJ 2 (h.gf iW)) (eD (gR (de (FZ h.u8) (h.v 2) (h.v 1)) (eD pX) gU)))
variable (jd:Mg P w K mg base "Words" aa "expect" 1 3 qS)
include TT OB iW in
theorem a7x(D':ZN (cy K bB) d):Dw P w K mg base "Words" aa "expect" 1 3 Bt:=SO (N:=["self","asked","word"]) OB.cE OB.et D' λX W r h xk xr xp=>by cases r;exact(gi qO (SG.aI (h.cJ 2 (h.gf iW))) (jl (oI (TV.aI (de (FZ h.u8) (h.v 2) (h.v 1))) (jl (C4 (B0 h.calm xr TT.c7 h.g TT.bS.m (AV.aI (av (Hk (ri (K4 (h.v 2)) (ri aB (ri (K4 (h.v 1)) (ri aB Hb))))) bz))))) oK)))
variable (qW:Dw P w K mg base "Words" aa "expect" 1 3 Bt)
include OB z_MOST_BLOCKS fR ju nj jd in
theorem a8u(D':HI (Def K mg) a d):HI (Og P w K mg base "Words" aa 0) 5 LD:=D1 (N:=["words","size","price","many"]) (j:=0) D' λX r h=>by cases r;exact(eH (h.cJ 1 (h.gmt nj (cL (cH cx) bX))) (eH (zH (h.gmt jd (cL (cH aB) bX))) (eH (h.cJ 2 (h.gf ju)) (eH (zH (h.gmt jd (cL (cH aB) bX))) (eH (h.cJ 3 (h.gmt nj (cL (cH cx) bX))) (eH (gR (de FV (h.v 3) (Bl h.g z_MOST_BLOCKS)) (eD pX) gU) (eD (iJ (cH (h.DH fR (av (h.v 1) (av (h.v 2) (av (h.v 3) bz)))))))))))))
variable (F9:HI (Og P w K mg base "Words" aa 0) 5 LD)
include TT OB z_MOST_BLOCKS fR ju rp nj zJ jd qW in
theorem a8o(D':HI (Def K mg) a d):HI (Xg P w K mg base "Words" aa 0) 5 Ob:=D8 (N:=["words","size","price","many"]) (j:=0) D' λX W r h xk xr xp=>by cases r;exact(gi (h.gE 1 (h.mM zJ xk (AG.aI (cL (cH cx) bX)))) (SG.aI (h.cJ 1 (h.gmt nj (cL (cH cx) bX)))) (gi (Hl (h.mM qW xk (AG.aI (cL (cH aB) bX)))) (SG.aI (zH (h.gmt jd (cL (cH aB) bX)))) (gi (h.gE 2 (h.qy rp xk)) (SG.aI (h.cJ 2 (h.gf ju))) (gi (Hl (h.mM qW xk (AG.aI (cL (cH aB) bX)))) (SG.aI (zH (h.gmt jd (cL (cH aB) bX)))) (gi (h.gE 3 (h.mM zJ xk (AG.aI (cL (cH cx) bX)))) (SG.aI (h.cJ 3 (h.gmt nj (cL (cH cx) bX)))) (gi (oI (TV.aI (de FV (h.v 3) (Bl h.g z_MOST_BLOCKS))) (jl (C4 (B0 h.calm xr TT.c7 h.g TT.bS.m (AV.aI (av aB bz))))) oK) (SG.aI (gR (de FV (h.v 3) (Bl h.g z_MOST_BLOCKS)) (eD pX) gU)) (jl qO)))))))
variable (Oj:HI (Xg P w K mg base "Words" aa 0) 5 Ob)
include uo B4 in
theorem b3A(D':Ht (Def K mg) a d):Ht (Oz P w K mg base) 3 p5:=lG (N:=["word","parts"]) D' λX r h=>by cases r;exact(gH (h.dh 1 (Y2 (h.v 0) aB)) (gh (hV (Se (av (h.cl uo (av (j7 (h.bv 1) cx) bz)) (av (h.cl uo (av (j7 (h.bv 1) cx) bz)) bz))))))
variable (C9:Ht (Oz P w K mg base) 3 p5)
include uo B4 in
theorem b2V(D':Ht (Def K mg) a d):Ht (Xz P w K mg base) 3 zI:=Wu (N:=["word","parts"]) D' λX W r h xk xr=>by cases r;exact(Tu RY (SV.aI (h.dh 1 (Y2 (h.v 0) aB))) (NG (b8q (Ke (WS (SI (h.O6 B4 xk (AV.aI (av (j7 (h.bv 1) cx) bz))) (AV.aI (av (h.cl uo (av (j7 (h.bv 1) cx) bz)) bz)))) (WS (b73 (EV.aI (h.cl uo (av (j7 (h.bv 1) cx) bz))) (SI (h.O6 B4 xk (AV.aI (av (j7 (h.bv 1) cx) bz))) (AV.aI bz))))))))
variable (NR:Ht (Xz P w K mg base) 3 zI)
include OB z_len z_MOST_ROWS cQ iW C9 in
theorem b0a(D':HB (Def K mg) a d):HB (Og P w K mg base "Words" aa 0) 4 qU:=D1 (N:=["words","rows","least_top","row"]) (j:=0) D' λX r h=>by cases r;exact(eH (h.DQ 1 (gS bz)) (eH (h.cJ 2 (cH cx)) (eH (X5 1000 h.own (de K7 aB (h.ve (n:=1) cQ (h.v 0)) (by with_unfolding_all rfl)) (eH (h.cJ 3 (h.JY C9 (cL (h.gf iW) bX))) (eH (gR (de C3 (j7 (h.bv 3) cx) (h.v 2)) (eD pX) gU) (eH (h.Cu 1 (h.v 3)) (eD (h.cJ 2 (cH (dv eI (j7 (h.bv 3) cx) cx)))))))) (eH (gR (um (Ll BM BM cx (D7 h.g z_len (h.bv 1)) (Bl h.g z_MOST_ROWS))) (eD pX) gU) (eD (h.JX 1))))))
variable (De:HB (Og P w K mg base "Words" aa 0) 4 qU)
include TT OB z_len z_MOST_ROWS cQ iW C9 NR in
theorem a9L(D':HB (Def K mg) a d):HB (Xg P w K mg base "Words" aa 0) 4 HG:=D8 (N:=["words","rows","least_top","row"]) (j:=0) D' λX W r h xk xr xp=>by cases r;exact(gi qO (SG.aI (h.DQ 1 (gS bz))) (gi qO (SG.aI (h.cJ 2 (cH cx))) (gi (b4N 1000 xp (TV.aI (de K7 aB (h.ve (n:=1) cQ (h.v 0)) (by with_unfolding_all rfl))) (qY.aI (eH (h.cJ 3 (h.JY C9 (cL (h.gf iW) bX))) (eH (gR (de C3 (j7 (h.bv 3) cx) (h.v 2)) (eD pX) gU) (eH (h.Cu 1 (h.v 3)) (eD (h.cJ 2 (cH (dv eI (j7 (h.bv 3) cx) cx)))))))) (gi (h.gE 3 (h.JW NR xk (AG.aI (cL (h.gf iW) bX)))) (SG.aI (h.cJ 3 (h.JY C9 (cL (h.gf iW) bX)))) (gi (oI (TV.aI (de C3 (j7 (h.bv 3) cx) (h.v 2))) (jl (C4 (B0 h.calm xr TT.c7 h.g TT.bS.m (AV.aI (av aB bz))))) oK) (SG.aI (gR (de C3 (j7 (h.bv 3) cx) (h.v 2)) (eD pX) gU)) (gi qO (SG.aI (h.Cu 1 (h.v 3))) (jl qO))))) (SG.aI (X5 1000 h.own (de K7 aB (h.ve (n:=1) cQ (h.v 0)) (by with_unfolding_all rfl)) (eH (h.cJ 3 (h.JY C9 (cL (h.gf iW) bX))) (eH (gR (de C3 (j7 (h.bv 3) cx) (h.v 2)) (eD pX) gU) (eH (h.Cu 1 (h.v 3)) (eD (h.cJ 2 (cH (dv eI (j7 (h.bv 3) cx) cx))))))))) (gi (oI (TV.aI (um (Ll BM BM cx (D7 h.g z_len (h.bv 1)) (Bl h.g z_MOST_ROWS)))) (jl (C4 (B0 h.calm xr TT.c7 h.g TT.bS.m (AV.aI (av aB bz))))) oK) (SG.aI (gR (um (Ll BM BM cx (D7 h.g z_len (h.bv 1)) (Bl h.g z_MOST_ROWS))) (eD pX) gU)) (jl qO)))))
variable (LB:HB (Xg P w K mg base "Words" aa 0) 4 HG)
include OB in
theorem b0Y(D':ZM (cy K aT) d):iY P w K mg base "Steps" 1 pP 1 Bp:=Bb (N:=["self","rows"]) OB.gA OB.Cw OB.oP D' λX r h=>by cases r;exact(h.fM OB.gA.c OB.fG (Hj (N':=["top","unit"]) (caps:=[]) (nt:=2) h ⟨rfl,by decide +kernel,by decide +kernel,by decide +kernel,by decide +kernel,rfl,rfl,by decide +kernel⟩ (Nf (h.v 1)) (λX1 kL kK gQ d9 kJ h1=>⟨(Sw (n:=2) h1.calm (Hq (h1.tg 0) (Hq (h1.tg 1) SR))),F2,(Se (av (h1.v 0) (av (h1.v 1) bz)))⟩)) uk)
variable (ff:iY P w K mg base "Steps" 1 pP 1 Bp)
include OB in
theorem b01(D':ZM (cy K aT) d):iY P w K mg base "Bands" 1 pO 1 Bo:=Bb (N:=["self","rows"]) OB.gD OB.CA OB.oS D' λX r h=>by cases r;exact(h.fM OB.gD.c OB.fK (Hj (N':=["top","unit"]) (caps:=[]) (nt:=2) h ⟨rfl,by decide +kernel,by decide +kernel,by decide +kernel,by decide +kernel,rfl,rfl,by decide +kernel⟩ (Nf (h.v 1)) (λX1 kL kK gQ d9 kJ h1=>⟨(Sw (n:=2) h1.calm (Hq (h1.tg 0) (Hq (h1.tg 1) SR))),F2,(Se (av (h1.v 0) (av (h1.v 1) bz)))⟩)) uk)
variable (fj:iY P w K mg base "Bands" 1 pO 1 Bo)
include OB in
theorem b2B(D':a8r (cy K cj) d):iY P w K mg base "Flat" 3 Ec 1 Tg:=Bb (N:=["self","price","low","high"]) OB.fT OB.Fe OB.rM D' λX r h=>by cases r;exact(h.fM OB.fT.c OB.fI (h.v 1) (h.fM OB.fT.c OB.h8 (h.v 2) (h.fM OB.fT.c OB.gv (h.v 3) uk)))
variable (jf:iY P w K mg base "Flat" 3 Ec 1 Tg)
include OB nj jd in
theorem a98(D':HC (Def K mg) a d):HC (Og P w K mg base "Words" aa 0) 5 B3:=D1 (N:=["words","low"]) (j:=0) D' λX r h=>by cases r;exact(eH (h.cJ 1 (h.gmt nj (cL (cH cx) bX))) (eH (zH (h.gmt jd (cL (cH aB) bX))) (eD (iJ (b9N (cL (cH (h.v 1)) (cL (h.gmt nj (cL (cH (h.v 1)) bX)) bX)))))))
variable (nU:HC (Og P w K mg base "Words" aa 0) 5 B3)
include OB nj zJ jd qW in
theorem a9I(D':HC (Def K mg) a d):HC (Xg P w K mg base "Words" aa 0) 5 HH:=D8 (N:=["words","low"]) (j:=0) D' λX W r h xk xr xp=>by cases r;exact(gi (h.gE 1 (h.mM zJ xk (AG.aI (cL (cH cx) bX)))) (SG.aI (h.cJ 1 (h.gmt nj (cL (cH cx) bX)))) (gi (Hl (h.mM qW xk (AG.aI (cL (cH aB) bX)))) (SG.aI (zH (h.gmt jd (cL (cH aB) bX)))) (jl (wz (b7K (Hn (EG.aI (cH (h.v 1))) (Ee (h.mM zJ xk (AG.aI (cL (cH (h.v 1)) bX))) (AG.aI bX))))))))
variable (B5:HC (Xg P w K mg base "Words" aa 0) 5 HH)
include OB ju jd jf nU in
theorem b0d(D':Hy (Def K mg) a d):Hy (Og P w K mg base "Words" aa 0) 6 Lz:=D1 (N:=["words","price","span"]) (j:=0) D' λX r h=>by cases r;exact(eH (h.cJ 1 (h.gf ju)) (eH (zH (h.gmt jd (cL (cH aB) bX))) (eH (h.cJ 2 (h.jD nU (h.gm bX))) (eD (iJ (cH (h.DH jf (av (h.v 1) (av (j7 (h.bv 2) cx) (av (j7 (h.bv 2) cx) bz))))))))))
variable (Ge:Hy (Og P w K mg base "Words" aa 0) 6 Lz)
include OB ju rp jd qW jf nU B5 in
theorem a9O(D':Hy (Def K mg) a d):Hy (Xg P w K mg base "Words" aa 0) 6 Ox:=D8 (N:=["words","price","span"]) (j:=0) D' λX W r h xk xr xp=>by cases r;exact(gi (h.gE 1 (h.qy rp xk)) (SG.aI (h.cJ 1 (h.gf ju))) (gi (Hl (h.mM qW xk (AG.aI (cL (cH aB) bX)))) (SG.aI (zH (h.gmt jd (cL (cH aB) bX)))) (gi (h.gE 2 (h.jC B5 xk (AH.aI (h.gm bX)))) (SG.aI (h.cJ 2 (h.jD nU (h.gm bX)))) (jl qO))))
variable (NZ:Hy (Xg P w K mg base "Words" aa 0) 6 Ox)
include OB in
theorem b2C(D':a8s (cy K cm) d):iY P w K mg base "Each" 3 Eb 1 Tf:=Bb (N:=["self","unit","low","high"]) OB.fU OB.Ff OB.rN D' λX r h=>by cases r;exact(h.fM OB.fU.c OB.gx (h.v 1) (h.fM OB.fU.c OB.h9 (h.v 2) (h.fM OB.fU.c OB.gy (h.v 3) uk)))
variable (jg:iY P w K mg base "Each" 3 Eb 1 Tf)
include OB ju jd nU jg in
theorem b0e(D':Hw (Def K mg) a d):Hw (Og P w K mg base "Words" aa 0) 6 Ly:=D1 (N:=["words","unit","span"]) (j:=0) D' λX r h=>by cases r;exact(eH (h.cJ 1 (h.gf ju)) (eH (zH (h.gmt jd (cL (cH aB) bX))) (eH (h.cJ 2 (h.jD nU (h.gm bX))) (eD (iJ (cH (h.DH jg (av (h.v 1) (av (j7 (h.bv 2) cx) (av (j7 (h.bv 2) cx) bz))))))))))
variable (Gc:Hw (Og P w K mg base "Words" aa 0) 6 Ly)
include OB ju rp jd qW nU B5 jg in
theorem a9P(D':Hw (Def K mg) a d):Hw (Xg P w K mg base "Words" aa 0) 6 Ow:=D8 (N:=["words","unit","span"]) (j:=0) D' λX W r h xk xr xp=>by cases r;exact(gi (h.gE 1 (h.qy rp xk)) (SG.aI (h.cJ 1 (h.gf ju))) (gi (Hl (h.mM qW xk (AG.aI (cL (cH aB) bX)))) (SG.aI (zH (h.gmt jd (cL (cH aB) bX)))) (gi (h.gE 2 (h.jC B5 xk (AH.aI (h.gm bX)))) (SG.aI (h.cJ 2 (h.jD nU (h.gm bX)))) (jl qO))))
variable (NY:Hw (Xg P w K mg base "Words" aa 0) 6 Ow)
include OB in
theorem b3D(D':OH (cy K ao) d):Et P w K mg base cp eB ao "Single" 1 B1 1 Di:=RV (N:=["self","one"]) OB.mY OB.mO D' λX r h=>by cases r;exact(h.fM OB.jr.c OB.ja (h.v 1) uk)
variable (pS:Et P w K mg base cp eB ao "Single" 1 B1 1 Di)
include OB pS in
theorem b3C(D':a82 (cy K cB) d):iY P w K mg base "Fee" 2 Bi 2 Lg:=Sv (N:=["self","one","price"]) OB.jr OB.J0 OB.zR D' λX r h=>by cases r;exact(h.Qd pS (av (h.v 1) bz) (h.Mb OB.jr.c OB.gw (h.v 2) Ss))
variable (ip:iY P w K mg base "Fee" 2 Bi 2 Lg)
include OB in
theorem b0Z(D':OH (cy K ao) d):iY P w K mg base "Roomy" 1 Dd 1 NQ:=Bb (N:=["self","one"]) OB.gC OB.Cy OB.oQ D' λX r h=>by cases r;exact(h.fM OB.gC.c OB.gr (h.v 1) uk)
variable (fg:iY P w K mg base "Roomy" 1 Dd 1 NQ)
include OB in
theorem b03(D':OH (cy K ao) d):Et P w K mg base cp cz ao "Single" 1 B1 1 Di:=RV (N:=["self","one"]) OB.mY OB.mO D' λX r h=>by cases r;exact(h.fM OB.eU.c OB.gz (h.v 1) uk)
variable (j9:Et P w K mg base cp cz ao "Single" 1 B1 1 Di)
include OB j9 in
theorem b02(D':a7C (cy K bM) d):iY P w K mg base "After" 2 Bm 2 Lq:=Sv (N:=["self","one","count"]) OB.eU OB.CB OB.oU D' λX r h=>by cases r;exact(h.Qd j9 (av (h.v 1) bz) (h.Mb OB.eU.c OB.eT (h.v 2) Ss))
variable (eE:iY P w K mg base "After" 2 Bm 2 Lq)
include OB in
theorem b2D(D':OH (cy K ao) d):Et P w K mg base cp cK ao "Single" 1 B1 1 Di:=RV (N:=["self","one"]) OB.mY OB.mO D' λX r h=>by cases r;exact(h.fM OB.fw.c OB.hZ (h.v 1) uk)
variable (l4:Et P w K mg base cp cK ao "Single" 1 B1 1 Di)
include OB l4 in
theorem b2A(D':a8q (cy K cf) d):iY P w K mg base "Only" 3 Bj 2 NM:=Sv (N:=["self","one","low","high"]) OB.fw OB.Fd OB.rL D' λX r h=>by cases r;exact(h.Qd l4 (av (h.v 1) bz) (h.Mb OB.fw.c OB.h7 (h.v 2) (h.Mb OB.fw.c OB.gu (h.v 3) Ss)))
variable (gJ:iY P w K mg base "Only" 3 Bj 2 NM)
include OB in
theorem b0h(D':Uq (cy K aK) d):iY P w K mg base "Dearer" 2 C8 1 Lx:=Bb (N:=["self","one","other"]) OB.dQ OB.Az OB.md D' λX r h=>by cases r;exact(h.fM OB.dQ.c OB.fJ (h.v 1) (h.fM OB.dQ.c OB.ei (h.v 2) uk))
variable (dG:iY P w K mg base "Dearer" 2 C8 1 Lx)
include OB in
theorem a9g(D':Uq (cy K aK) d):iY P w K mg base "Cheaper" 2 Dk 1 Lu:=Bb (N:=["self","one","other"]) OB.c8 OB.vw OB.kB D' λX r h=>by cases r;exact(h.fM OB.c8.c OB.eQ (h.v 1) (h.fM OB.c8.c OB.dU (h.v 2) uk))
variable (c0:iY P w K mg base "Cheaper" 2 Dk 1 Lu)
include OB in
theorem b3B(D':Uq (cy K aK) d):iY P w K mg base "Sum" 2 C7 1 Lh:=Bb (N:=["self","one","other"]) OB.jq OB.JZ OB.zQ D' λX r h=>by cases r;exact(h.fM OB.jq.c OB.i0 (h.v 1) (h.fM OB.jq.c OB.gq (h.v 2) uk))
variable (il:iY P w K mg base "Sum" 2 C7 1 Lh)
include OB aw iW ju nj nU ip fg eE gJ dG c0 il in
theorem Y3(D':Dj (Def K mg) a d):Dj (Og P w K mg base "Words" aa 1) (bN+6) (Ga bF):=D1 (N:=["one","words","around","word","span"]) (j:=1) D' λX r h=>by cases r;exact(eH (h.cJ 3 (h.gf iW (hi:=by omega))) (eH (gR (de (fO h.u8) (h.v 3) aB) (eD (iJ (h.tU il (cL (cH (h.v 0)) (cL (h.jD aw (h.gm (cL (cH (h.v 2)) bX)) (hi:=by omega)) bX)) (hi:=by omega)))) gU) (eH (gR (de (fO h.u8) (h.v 3) aB) (eD (iJ (h.tU c0 (cL (cH (h.v 0)) (cL (h.jD aw (h.gm (cL (cH (h.v 2)) bX)) (hi:=by omega)) bX)) (hi:=by omega)))) gU) (eH (gR (de (fO h.u8) (h.v 3) aB) (eD (iJ (h.tU dG (cL (cH (h.v 0)) (cL (h.jD aw (h.gm (cL (cH (h.v 2)) bX)) (hi:=by omega)) bX)) (hi:=by omega)))) gU) (eH (gR (de (fO h.u8) (h.v 3) aB) (eH (h.cJ 4 (h.jD nU (h.gm bX) (hi:=by omega))) (eD (iJ (cH (h.DH gJ (av (h.v 0) (av (j7 (h.bv 4) cx) (av (j7 (h.bv 4) cx) bz))) (hj:=by omega)))))) gU) (eH (gR (de (fO h.u8) (h.v 3) aB) (eD (iJ (h.tU eE (cL (cH (h.v 0)) (cL (h.gmt nj (cL (cH cx) bX) (hi:=by omega)) bX)) (hi:=by omega)))) gU) (eH (gR (de (fO h.u8) (h.v 3) aB) (eD (iJ (cH (h.DH fg (av (h.v 0) bz) (hj:=by omega))))) gU) (eH (gR (de (fO h.u8) (h.v 3) aB) (eD (iJ (h.tU ip (cL (cH (h.v 0)) (cL (h.gf ju (hi:=by omega)) bX)) (hi:=by omega)))) gU) (eD pX)))))))))
variable (Df:Dj (Og P w K mg base "Words" aa 1) (bN+6) (Ga bF))
include TT OB aw bG iW ju rp nj zJ nU B5 ip fg eE gJ dG c0 il in
theorem a9J(D':Dj (Def K mg) a d):Dj (Xg P w K mg base "Words" aa 1) (bN+6) (LA bF dA):=D8 (N:=["one","words","around","word","span"]) (j:=1) D' λX W r h xk xr xp=>by cases r;exact(gi qO (SG.aI (h.cJ 3 (h.gf iW (hi:=by omega)))) (gi (oI (TV.aI (de (fO h.u8) (h.v 3) aB)) (jl (wz (h.r0 il (Hn (EG.aI (cH (h.v 0))) (Ee (h.jC bG xk (AH.aI (h.gm (cL (cH (h.v 2)) bX))) (hi:=by omega)) (AG.aI bX))) (hi:=by omega)))) oK) (SG.aI (gR (de (fO h.u8) (h.v 3) aB) (eD (iJ (h.tU il (cL (cH (h.v 0)) (cL (h.jD aw (h.gm (cL (cH (h.v 2)) bX)) (hi:=by omega)) bX)) (hi:=by omega)))) gU)) (gi (oI (TV.aI (de (fO h.u8) (h.v 3) aB)) (jl (wz (h.r0 c0 (Hn (EG.aI (cH (h.v 0))) (Ee (h.jC bG xk (AH.aI (h.gm (cL (cH (h.v 2)) bX))) (hi:=by omega)) (AG.aI bX))) (hi:=by omega)))) oK) (SG.aI (gR (de (fO h.u8) (h.v 3) aB) (eD (iJ (h.tU c0 (cL (cH (h.v 0)) (cL (h.jD aw (h.gm (cL (cH (h.v 2)) bX)) (hi:=by omega)) bX)) (hi:=by omega)))) gU)) (gi (oI (TV.aI (de (fO h.u8) (h.v 3) aB)) (jl (wz (h.r0 dG (Hn (EG.aI (cH (h.v 0))) (Ee (h.jC bG xk (AH.aI (h.gm (cL (cH (h.v 2)) bX))) (hi:=by omega)) (AG.aI bX))) (hi:=by omega)))) oK) (SG.aI (gR (de (fO h.u8) (h.v 3) aB) (eD (iJ (h.tU dG (cL (cH (h.v 0)) (cL (h.jD aw (h.gm (cL (cH (h.v 2)) bX)) (hi:=by omega)) bX)) (hi:=by omega)))) gU)) (gi (oI (TV.aI (de (fO h.u8) (h.v 3) aB)) (gi (h.gE 4 (h.jC B5 xk (AH.aI (h.gm bX)) (hi:=by omega))) (SG.aI (h.cJ 4 (h.jD nU (h.gm bX) (hi:=by omega)))) (jl qO)) oK) (SG.aI (gR (de (fO h.u8) (h.v 3) aB) (eH (h.cJ 4 (h.jD nU (h.gm bX) (hi:=by omega))) (eD (iJ (cH (h.DH gJ (av (h.v 0) (av (j7 (h.bv 4) cx) (av (j7 (h.bv 4) cx) bz))) (hj:=by omega)))))) gU)) (gi (oI (TV.aI (de (fO h.u8) (h.v 3) aB)) (jl (wz (h.r0 eE (Hn (EG.aI (cH (h.v 0))) (Ee (h.mM zJ xk (AG.aI (cL (cH cx) bX)) (hi:=by omega)) (AG.aI bX))) (hi:=by omega)))) oK) (SG.aI (gR (de (fO h.u8) (h.v 3) aB) (eD (iJ (h.tU eE (cL (cH (h.v 0)) (cL (h.gmt nj (cL (cH cx) bX) (hi:=by omega)) bX)) (hi:=by omega)))) gU)) (gi qO (SG.aI (gR (de (fO h.u8) (h.v 3) aB) (eD (iJ (cH (h.DH fg (av (h.v 0) bz) (hj:=by omega))))) gU)) (gi (oI (TV.aI (de (fO h.u8) (h.v 3) aB)) (jl (wz (h.r0 ip (Hn (EG.aI (cH (h.v 0))) (Ee (h.qy rp xk (hi:=by omega)) (AG.aI bX))) (hi:=by omega)))) oK) (SG.aI (gR (de (fO h.u8) (h.v 3) aB) (eD (iJ (h.tU ip (cL (cH (h.v 0)) (cL (h.gf ju (hi:=by omega)) bX)) (hi:=by omega)))) gU)) (jl (C4 (B0 h.calm xr TT.c7 h.g TT.bS.m (AV.aI (av (Hk (ri aB (ri (K4 (h.v 3)) Hb))) bz)))))))))))))
variable (N2:Dj (Xg P w K mg base "Words" aa 1) (bN+6) (LA bF dA))
include OB z_MOST_PAIRS_AROUND aw jd Df in
theorem ZY(D':Dp (Def K mg) a d):Dp (Og P w K mg base "Words" aa 0) (bN+7) (Gk bF):=D1 (N:=["words","around","one","rule"]) (j:=0) D' λX r h=>by cases r;exact(eH (gR (de FV (h.v 1) (Bl h.g z_MOST_PAIRS_AROUND)) (eD pX) gU) (eH (h.cJ 2 (h.jD aw (h.gm (cL (cH (dv eI (h.v 1) cx)) bX)) (hi:=by omega))) (eH (h.cJ 3 (h.jD Df (SH (cH (h.v 2)) (h.gm (cL (cH (dv eI (h.v 1) cx)) bX))) (hi:=by omega))) (eH (zH (h.gmt jd (cL (cH aB) bX) (hi:=by omega))) (eD (iJ (cH (h.v 3))))))))
variable (Ej:Dp (Og P w K mg base "Words" aa 0) (bN+7) (Gk bF))
include TT OB z_MOST_PAIRS_AROUND aw bG jd qW Df N2 in
theorem a6M(D':Dp (Def K mg) a d):Dp (Xg P w K mg base "Words" aa 0) (bN+7) (LI bF dA):=D8 (N:=["words","around","one","rule"]) (j:=0) D' λX W r h xk xr xp=>by cases r;exact(gi (oI (TV.aI (de FV (h.v 1) (Bl h.g z_MOST_PAIRS_AROUND))) (jl (C4 (B0 h.calm xr TT.c7 h.g TT.bS.m (AV.aI (av aB bz))))) oK) (SG.aI (gR (de FV (h.v 1) (Bl h.g z_MOST_PAIRS_AROUND)) (eD pX) gU)) (gi (h.gE 2 (h.jC bG xk (AH.aI (h.gm (cL (cH (dv eI (h.v 1) cx)) bX))) (hi:=by omega))) (SG.aI (h.cJ 2 (h.jD aw (h.gm (cL (cH (dv eI (h.v 1) cx)) bX)) (hi:=by omega)))) (gi (h.gE 3 (h.jC N2 xk (AH.aI (SH (cH (h.v 2)) (h.gm (cL (cH (dv eI (h.v 1) cx)) bX)))) (hi:=by omega))) (SG.aI (h.cJ 3 (h.jD Df (SH (cH (h.v 2)) (h.gm (cL (cH (dv eI (h.v 1) cx)) bX))) (hi:=by omega)))) (gi (Hl (h.mM qW xk (AG.aI (cL (cH aB) bX)) (hi:=by omega))) (SG.aI (zH (h.gmt jd (cL (cH aB) bX) (hi:=by omega)))) (jl qO)))))
variable (OJ:Dp (Xg P w K mg base "Words" aa 0) (bN+7) (LI bF dA))
include OB hW Eh iW F9 De ff fj Ge Gc Ej in
theorem a99(D':B7 (Def K mg) a d):B7 (Og P w K mg base "Words" aa 0) (bN+8) (Up bF):=D1 (N:=["words","around","word"]) (j:=0) D' λX r h=>by cases r;exact(eH (h.cJ 2 (h.gf iW (hi:=by omega))) (eH (gR (de (fO h.u8) (h.v 2) aB) (eD (iJ (h.jD Ej (h.gm (cL (cH (h.v 1)) bX)) (hi:=by omega)))) gU) (eH (gR (de (fO h.u8) (h.v 2) aB) (eD (iJ (h.jD Gc (h.gm bX) (hi:=by omega)))) gU) (eH (gR (de (fO h.u8) (h.v 2) aB) (eD (iJ (h.jD Ge (h.gm bX) (hi:=by omega)))) gU) (eH (gR (de (fO h.u8) (h.v 2) aB) (eD (iJ (h.tU fj (cL (h.jD De (h.gm bX) (hi:=by omega)) bX) (hi:=by omega)))) gU) (eH (gR (de (fO h.u8) (h.v 2) aB) (eD (iJ (h.tU ff (cL (h.jD De (h.gm bX) (hi:=by omega)) bX) (hi:=by omega)))) gU) (eH (gR (de (fO h.u8) (h.v 2) aB) (eD (iJ (h.jD F9 (h.gm bX) (hi:=by omega)))) gU) (eH (gR (um (Bg (h.cl Eh (av (h.v 2) bz) (hj:=by omega)))) (eD pX) gU) (eD (iJ (cH (h.DH hW (av (h.v 2) bz) (hj:=by omega)))))))))))))
variable (Gf:B7 (Og P w K mg base "Words" aa 0) 185 (iK 23))
include TT OB aw bG hW Eh iW F9 Oj De LB ff fj Ge NZ Gc NY Ej OJ in
theorem a9K(D':B7 (Def K mg) a d):B7 (Xg P w K mg base "Words" aa 0) (bN+8) (Uj bF dA):=D8 (N:=["words","around","word"]) (j:=0) D' λX W r h xk xr xp=>by cases r;exact(gi qO (SG.aI (h.cJ 2 (h.gf iW (hi:=by omega)))) (gi (oI (TV.aI (de (fO h.u8) (h.v 2) aB)) (jl (wz (h.jC OJ xk (AH.aI (h.gm (cL (cH (h.v 1)) bX))) (hi:=by omega)))) oK) (SG.aI (gR (de (fO h.u8) (h.v 2) aB) (eD (iJ (h.jD Ej (h.gm (cL (cH (h.v 1)) bX)) (hi:=by omega)))) gU)) (gi (oI (TV.aI (de (fO h.u8) (h.v 2) aB)) (jl (wz (h.jC NY xk (AH.aI (h.gm bX)) (hi:=by omega)))) oK) (SG.aI (gR (de (fO h.u8) (h.v 2) aB) (eD (iJ (h.jD Gc (h.gm bX) (hi:=by omega)))) gU)) (gi (oI (TV.aI (de (fO h.u8) (h.v 2) aB)) (jl (wz (h.jC NZ xk (AH.aI (h.gm bX)) (hi:=by omega)))) oK) (SG.aI (gR (de (fO h.u8) (h.v 2) aB) (eD (iJ (h.jD Ge (h.gm bX) (hi:=by omega)))) gU)) (gi (oI (TV.aI (de (fO h.u8) (h.v 2) aB)) (jl (wz (h.r0 fj (Ee (h.jC LB xk (AH.aI (h.gm bX)) (hi:=by omega)) (AG.aI bX)) (hi:=by omega)))) oK) (SG.aI (gR (de (fO h.u8) (h.v 2) aB) (eD (iJ (h.tU fj (cL (h.jD De (h.gm bX) (hi:=by omega)) bX) (hi:=by omega)))) gU)) (gi (oI (TV.aI (de (fO h.u8) (h.v 2) aB)) (jl (wz (h.r0 ff (Ee (h.jC LB xk (AH.aI (h.gm bX)) (hi:=by omega)) (AG.aI bX)) (hi:=by omega)))) oK) (SG.aI (gR (de (fO h.u8) (h.v 2) aB) (eD (iJ (h.tU ff (cL (h.jD De (h.gm bX) (hi:=by omega)) bX) (hi:=by omega)))) gU)) (gi (oI (TV.aI (de (fO h.u8) (h.v 2) aB)) (jl (wz (h.jC Oj xk (AH.aI (h.gm bX)) (hi:=by omega)))) oK) (SG.aI (gR (de (fO h.u8) (h.v 2) aB) (eD (iJ (h.jD F9 (h.gm bX) (hi:=by omega)))) gU)) (gi (oI (TV.aI (um (Bg (h.cl Eh (av (h.v 2) bz) (hj:=by omega))))) (jl (C4 (B0 h.calm xr TT.c7 h.g TT.bS.m (AV.aI (av (Hk (ri aB (ri (K4 (h.v 2)) Hb))) bz))))) oK) (SG.aI (gR (um (Bg (h.cl Eh (av (h.v 2) bz) (hj:=by omega)))) (eD pX) gU)) (jl qO)))))))))
variable (N1:B7 (Xg P w K mg base "Words" aa 0) 185 (pZ 23))
include OB gk dY Gf in
theorem b0b(D':HA (Def K mg) a d):HA (Oz P w K mg base) 186 Br:=lG (N:=["text","words","rule"]) D' λX r h=>by cases r;exact(h.enter 1 gk (av (h.v 0) bz) (eH (h.cJ 2 (h.jD Gf (h.gm (cL (cH cx) bX)))) (eH (gR (um (Bg (h.ve (n:=1) dY (h.v 1)))) (eD pX) gU) (eD (iJ (cH (h.v 2)))))))
variable (NT:HA (Oz P w K mg base) 186 Br)
include TT OB gk dY Gf N1 in
theorem a9M(D':HA (Def K mg) a d):HA (Xz P w K mg base) 186 Em:=b9D (N:=["text","words","rule"]) D' λX W r h xk xr xp=>by cases r;exact(h.Ey 1 gk (AV.aI (av (h.v 0) bz)) (gi (h.gE 2 (h.jC N1 xk (AH.aI (h.gm (cL (cH cx) bX))))) (SG.aI (h.cJ 2 (h.jD Gf (h.gm (cL (cH cx) bX))))) (gi (oI (TV.aI (um (Bg (h.ve (n:=1) dY (h.v 1))))) (jl (C4 (B0 h.calm xr TT.c7 h.g TT.bS.m (AV.aI (av aB bz))))) oK) (SG.aI (gR (um (Bg (h.ve (n:=1) dY (h.v 1)))) (eD pX) gU)) (jl qO))))
variable (N0:HA (Xz P w K mg base) 186 Em)
include z_str in
theorem b3z(D':TB (Def K mg) a d):TB (Oz P w K mg base) 1 wF:=lG (N:=["words"]) D' λX r h=>by cases r;exact(gh (hV (FR aB (wu (Hj (N':=["word"]) (caps:=[]) (nt:=1) h ⟨rfl,by decide +kernel,by decide +kernel,by decide +kernel,by decide +kernel,rfl,rfl,by decide +kernel⟩ (Nf (h.v 0)) (λX1 kL kK gQ d9 kJ h1=>⟨(h1.tg 0),F2,(b7P h1.g (rB d9 z_str) (h1.v 0))⟩))))))
variable (lJ:TB (Oz P w K mg base) 1 wF)
include OB in
theorem b2J:FL K "high" Ea:=(kz OB.fU OB.gy (kz OB.fT OB.gv (kz OB.fw OB.gu wA)))
variable (eY:FL K "high" Ea)
include OB in
theorem b3F:FL K "low" D6:=(kz OB.fU OB.h9 (kz OB.fT OB.h8 (kz OB.fw OB.h7 wA)))
variable (gW:FL K "low" D6)
include OB in
theorem b2E:FL K "unit" Nw:=(kz OB.fU OB.gx wA)
variable (l5:FL K "unit" Nw)
include lJ eY gW l5 in
theorem a7W(D':Ol (cy K a) d):Ol (Om P w K mg base a) (au+2) (HS aj):=pV (N:=["self"]) D' λX r h=>by cases r;exact(gh (hV (h.cl lJ (av (gS (av aB (av (lV (h.v 0) l5) (av aB (av (lV (h.v 0) gW) (av aB (av (lV (h.v 0) eY) bz))))))) bz) (hj:=by omega))))
variable (Od:Ol (Om P w K mg base bE) (au+2) (HS aj))
include OB in
theorem b05:FL K "price" Ef:=(kz OB.fT OB.fI (kz OB.di OB.ej (kz OB.jr OB.gw wA)))
variable (dS:FL K "price" Ef)
include lJ eY gW dS in
theorem a7V(D':Oo (cy K a) d):Oo (Om P w K mg base a) (au+2) (HU aj):=pV (N:=["self"]) D' λX r h=>by cases r;exact(gh (hV (h.cl lJ (av (gS (av aB (av (lV (h.v 0) dS) (av aB (av (lV (h.v 0) gW) (av aB (av (lV (h.v 0) eY) bz))))))) bz) (hj:=by omega))))
variable (Oe:Oo (Om P w K mg base bD) (au+2) (HU aj))
include OB in
theorem b2G:FL K "rows" Hi:=(kz OB.gD OB.fK (kz OB.gA OB.fG wA))
variable (l7:FL K "rows" Hi)
include lJ l7 in
theorem a53(D':UA (cy K a) d):UA (Om P w K mg base a) 2 B9:=pV (N:=["self"]) D' λX r h=>by cases r;exact(gh (hV (h.cl lJ (av (Hj (N':=["top","unit"]) (caps:=[]) (nt:=2) h ⟨rfl,by decide +kernel,by decide +kernel,by decide +kernel,by decide +kernel,rfl,rfl,by decide +kernel⟩ (Nf (lV (h.v 0) l7)) (λX1 kL kK gQ d9 kJ h1=>⟨(Sw (n:=2) h1.calm (Hq (h1.tg 0) (Hq (h1.tg 1) SR))),F2,(Hk (ri (Nn (h1.v 0)) (ri aB (ri (Nn (h1.v 1)) Hb))))⟩)) bz))))
variable (LH:UA (Om P w K mg base aE) 2 B9)
include OB LH in
theorem a6C:lZ P w K mg base "written_rows" 1 2 Ek:=(lW OB.gD OB.dn LH (lW OB.gA OB.dj LH F4))
variable (cw:lZ P w K mg base "written_rows" 1 2 Ek)
include lJ cw in
theorem a7n(D':OM (cy K a) d):OM (Om P w K mg base a) (au+3) (Gi aj):=pV (N:=["self"]) D' λX r h=>by cases r;exact(gh (hV (h.cl lJ (av (gS (av aB (av (h.ve (n:=1) cw (h.v 0) (hj:=by omega)) bz))) bz) (hj:=by omega))))
variable (N7:OM (Om P w K mg base bf) (au+3) (Gi aj))
include lJ cw in
theorem a7k(D':OQ (cy K a) d):OQ (Om P w K mg base a) (au+3) (Gj aj):=pV (N:=["self"]) D' λX r h=>by cases r;exact(gh (hV (h.cl lJ (av (gS (av aB (av (h.ve (n:=1) cw (h.v 0) (hj:=by omega)) bz))) bz) (hj:=by omega))))
variable (Oa:OQ (Om P w K mg base bb) (au+3) (Gj aj))
include OB in
theorem b2I:FL K "many" Nt:=(kz OB.di OB.eS wA)
variable (l9:FL K "many" Nt)
include OB in
theorem b2F:FL K "size" Nv:=(kz OB.di OB.eR wA)
variable (l6:FL K "size" Nv)
include lJ dS l9 l6 in
theorem a6U(D':OF (cy K a) d):OF (Om P w K mg base a) (au+2) (HJ aj):=pV (N:=["self"]) D' λX r h=>by cases r;exact(gh (hV (h.cl lJ (av (gS (av aB (av (lV (h.v 0) l6) (av aB (av (lV (h.v 0) dS) (av aB (av (lV (h.v 0) l9) bz))))))) bz) (hj:=by omega))))
variable (OC:OF (Om P w K mg base aW) (au+2) (HJ aj))
include OB in
theorem b2H:FL K "name" Nu:=(kz OB.ia OB.fH wA)
variable (l8:FL K "name" Nu)
include l8 in
theorem a7m(D':ON (cy K a) d):ON (Om P w K mg base a) (au+1) (HQ aj):=pV (N:=["self"]) D' λX r h=>by cases r;exact(gh (hV (lV (h.v 0) l8)))
variable (N8:ON (Om P w K mg base be) (au+1) (HQ aj))
include OB in
theorem b07:FL K "other" Ho:=(kz OB.jq OB.gq (kz OB.c8 OB.dU (kz OB.dQ OB.ei wA)))
variable (j':FL K "other" Ho)
include OB in
theorem b3E:FL K "one" Bh:=(kz OB.jq OB.i0 (kz OB.c8 OB.eQ (kz OB.dQ OB.fJ (kz OB.fw OB.hZ (kz OB.eU OB.gz (kz OB.gC OB.gr (kz OB.jr OB.ja wA)))))))
variable (jL:FL K "one" Bh)
include dy lJ j' jL in
theorem a49(D':OR (cy K a) d):OR (Om P w K mg base a) (au+2) (B8 aj):=pV (N:=["self","word"]) D' λX r h=>by cases r;exact(gh (hV (h.cl lJ (av (gS (av aB (av (h.ve (n:=1) dy (lV (h.v 0) jL) (hj:=by omega)) (av (h.v 1) (av (h.ve (n:=1) dy (lV (h.v 0) j') (hj:=by omega)) (av aB bz)))))) bz) (hj:=by omega))))
variable (HW:OR (Om P w K mg base aq) (au+2) (B8 aj))
include OB HW in
theorem a5H:lZ P w K mg base "written_between" 2 (au+2) (Dq aj):=(lW OB.jq OB.da HW (lW OB.c8 OB.cG HW (lW OB.dQ OB.cI HW F4 (hj:=by omega)) (hj:=by omega)) (hj:=by omega))
variable (aM:lZ P w K mg base "written_between" 2 (au+2) (Dq aj))
include aM in
theorem a8x(D':OA (cy K a) d):OA (Om P w K mg base a) (au+3) (HF aj):=pV (N:=["self"]) D' λX r h=>by cases r;exact(gh (hV (h.mt (n:=2) aM (h.v 0) (av aB bz) (hj:=by omega))))
variable (Ou:OA (Om P w K mg base bU) (au+3) (HF aj))
include aM in
theorem a6D(D':OK (cy K a) d):OK (Om P w K mg base a) (au+3) (HL aj):=pV (N:=["self"]) D' λX r h=>by cases r;exact(gh (hV (h.mt (n:=2) aM (h.v 0) (av aB bz) (hj:=by omega))))
variable (OI:OK (Om P w K mg base aQ) (au+3) (HL aj))
include aM in
theorem a6T(D':OG (cy K a) d):OG (Om P w K mg base a) (au+3) (HK aj):=pV (N:=["self"]) D' λX r h=>by cases r;exact(gh (hV (h.mt (n:=2) aM (h.v 0) (av aB bz) (hj:=by omega))))
variable (OD:OG (Om P w K mg base aV) (au+3) (HK aj))
include dy lJ jL in
theorem a5o(D':OS (cy K a) d):OS (Om P w K mg base a) (au+2) (zK aj):=pV (N:=["self","words"]) D' λX r h=>by cases r;exact(gh (hV (h.cl lJ (av (dv eI (dv eI (gS (av aB (av (h.ve (n:=1) dy (lV (h.v 0) jL) (hj:=by omega)) bz))) (h.v 1)) (gS (av aB bz))) bz) (hj:=by omega))))
variable (Gn:OS (Om P w K mg base ai) (au+2) (zK aj))
include OB Gn in
theorem a6B:lZ P w K mg base "written_with" 2 (au+2) (Bu aj):=(lW OB.fw OB.dM Gn (lW OB.eU OB.dq Gn (lW OB.gC OB.dk Gn (lW OB.jr OB.dW Gn F4 (hj:=by omega)) (hj:=by omega)) (hj:=by omega)) (hj:=by omega))
variable (aJ:lZ P w K mg base "written_with" 2 (au+2) (Bu aj))
include eY gW aJ in
theorem a7U(D':Oq (cy K a) d):Oq (Om P w K mg base a) (au+3) (HV aj):=pV (N:=["self"]) D' λX r h=>by cases r;exact(gh (hV (h.mt (n:=2) aJ (h.v 0) (av (gS (av aB (av (lV (h.v 0) gW) (av aB (av (lV (h.v 0) eY) bz))))) bz) (hj:=by omega))))
variable (Of:Oq (Om P w K mg base bC) (au+3) (HV aj))
include OB in
theorem b08:FL K "count" NL:=(kz OB.eU OB.eT wA)
variable (kf:FL K "count" NL)
include aJ kf in
theorem a7o(D':OL (cy K a) d):OL (Om P w K mg base a) (au+3) (HP aj):=pV (N:=["self"]) D' λX r h=>by cases r;exact(gh (hV (h.mt (n:=2) aJ (h.v 0) (av (gS (av aB (av (lV (h.v 0) kf) bz))) bz) (hj:=by omega))))
variable (N6:OL (Om P w K mg base bg) (au+3) (HP aj))
include aJ in
theorem a7l(D':OP (cy K a) d):OP (Om P w K mg base a) (au+3) (HR aj):=pV (N:=["self"]) D' λX r h=>by cases r;exact(gh (hV (h.mt (n:=2) aJ (h.v 0) (av (gS (av aB bz)) bz) (hj:=by omega))))
variable (N9:OP (Om P w K mg base bc) (au+3) (HR aj))
include dS aJ in
theorem a8y(D':Oy (cy K a) d):Oy (Om P w K mg base a) (au+3) (HE aj):=pV (N:=["self"]) D' λX r h=>by cases r;exact(gh (hV (h.mt (n:=2) aJ (h.v 0) (av (gS (av aB (av (lV (h.v 0) dS) bz))) bz) (hj:=by omega))))
variable (Ot:Oy (Om P w K mg base bW) (au+3) (HE aj))
include OB Od Oe N7 Oa OC N8 Ou OI OD Of N6 N9 Ot in
theorem a9f:lZ P w K mg base "written" 1 (au+3) (Zp aj):=(lW OB.fU OB.gc Od (lW OB.fT OB.fZ Oe (lW OB.gD OB.fB N7 (lW OB.gA OB.fx Oa (lW OB.di OB.eL OC (lW OB.ia OB.fA N8 (lW OB.jq OB.gO Ou (lW OB.c8 OB.eu OI (lW OB.dQ OB.eK OD (lW OB.fw OB.fY Of (lW OB.eU OB.fC N6 (lW OB.gC OB.fy N9 (lW OB.jr OB.gP Ot F4 (hj:=by omega)) (hj:=by omega)) (hj:=by omega)) (hj:=by omega)) (hj:=by omega)) (hj:=by omega)) (hj:=by omega)) (hj:=by omega)) (hj:=by omega)) (hj:=by omega)) (hj:=by omega)) (hj:=by omega)) (hj:=by omega))
variable (ik:lZ P w K mg base "written" 1 73 (c9 24))
include TT z_isinstance z_ValueError NT N0 ik in
theorem b0U(D':T8 (Def K mg) a d):T8 (Oz P w K mg base) 187 jm:=lG (N:=["text","told","e"]) D' λX r h=>by cases r;exact(gH (h.dh 1 (gS bz)) (gH (b8G (i:=2) h rfl rfl h.g TT.v0p.m (b5s TT.bS TT.O9 b7t) (λX1 kL kK gQ d9 kJ h1=>(gh (h1.dh 1 (gS (av (h1.ve (n:=1) (P7 kL kK gQ d9 kJ ik) (h1.cl (Jf kL kK gQ d9 kJ NT) (av (h1.v 0) bz))) bz))))) (λX1 W1 kL kK gQ d9 kJ h1 Z'=>(NG (b8p h1.tL (h1.ix (i:=1) rfl) (h1.loc (by first | exact eO rfl | exact dE rfl)) (b9K (SI (b7N (h1.O6 (O4 kL kK gQ d9 kJ N0) Z' (AV.aI (av (h1.v 0) bz)))) (AV.aI bz))) (hf:=h1.Cc (eO rfl))))) (λX1 kL kK gQ d9 kJ h1=>(gh (h1.dh 1 (gS (av (WQ h1.g (rB d9 z_isinstance) h1.g (qe gQ d9 TT).bS.m (Tt (qe gQ d9 TT).bS (qe gQ d9 TT).ef S3) (h1.v 2)) (av (b7R h1.g (rB d9 z_isinstance) h1.g (rB d9 z_ValueError) (by decide +kernel) (Tt (qe gQ d9 TT).bS (qe gQ d9 TT).dg S3) (h1.v 2)) (av (b9L (WQ h1.g (rB d9 z_isinstance) h1.g (qe gQ d9 TT).v0q.m (Tt (qe gQ d9 TT).bS (qe gQ d9 TT).O8 S3) (h1.v 2))) bz)))))))) (gh (hV (h.v 1)))))
variable (F7:T8 (Oz P w K mg base) 187 jm)
theorem b2y(D':TF (Def K mg) a d):TF (Oz P w K mg base) 1 nk:=lG (N:=["cell","k","size","odd","big"]) D' λX r h=>by cases r;exact(gH (h.dh 3 (dv eI cx (dv He (dv He cx (h.v 1)) (h.v 1)))) (gH (h.dh 4 (dv eI (dv He (dv eI (dv Ni (h.v 0) (dv Xm cx cx)) cx) (h.v 3)) (dv He cx (h.v 1)))) (gh (hV (dv Ni (dv b9g (dv Ni (dv He (h.v 4) (h.v 4)) (dv eI (dv Xm cx cx) cx)) cx) (h.v 2))))))
variable (rj:TF (Oz P w K mg base) 1 nk)
include z_len rj in
theorem a8t(D':Uu (Def K mg) a d):Uu (Oz P w K mg base) 2 Gm:=lG (N:=["cell","words","at","other","way"]) D' λX r h=>by cases r;exact(gH (h.dh 1 (gS (av aB (av aB (av aB (av aB bz)))))) (gH (h.dh 1 (Yt (FR aB (h.bv 1)) aB)) (gH (h.dh 2 (h.cl rj (av (h.v 0) (av cx (av (D7 h.g z_len (h.bv 1)) bz))))) (gH (h.dh 3 (j7 (h.bv 1) (h.cl rj (av (h.v 0) (av cx (av (D7 h.g z_len (h.bv 1)) bz)))))) (gH (h.dh 4 (h.cl rj (av (h.v 0) (av cx (av cx bz))))) (gH (wx (de (fO h.u8) (h.v 4) cx) (gh (hV (FR aB (wu (dv eI (Dc (h.bv 1) zF (zG (h.v 2))) (Dc (h.bv 1) (zG (dv eI (h.v 2) cx)) zF)))))) wD) (gH (wx (de (fO h.u8) (h.v 4) cx) (gh (hV (FR aB (wu (dv eI (dv eI (Dc (h.bv 1) zF (zG (h.v 2))) (gS (av (h.v 3) bz))) (Dc (h.bv 1) (zG (h.v 2)) zF)))))) wD) (gH (wx (de (fO h.u8) (h.v 4) cx) (gh (hV (FR aB (wu (dv eI (dv eI (Dc (h.bv 1) zF (zG (h.v 2))) (gS (av (h.v 3) bz))) (Dc (h.bv 1) (zG (dv eI (h.v 2) cx)) zF)))))) wD) (gh (hV (FR aB (wu (dv eI (dv eI (Dc (h.bv 1) zF (zG (h.v 2))) (gS (av (j7 (h.bv 1) (h.v 2)) bz))) (Dc (h.bv 1) (zG (h.v 2)) zF))))))))))))))
variable (Ov:Uu (Oz P w K mg base) 2 Gm)
include z_range in
theorem a9e(D':Ua (Def K mg) a d):Ua (Oz P w K mg base) 1 HD:=lG (N:=["pairs","text","k"]) D' λX r h=>by cases r;exact(gH (h.dh 1 aB) (gH (b4S h.own h.calm h.g z_range (av (h.v 0) bz) (h.tg 2) (gh (h.dh 1 (dv eI (dv eI aB (h.v 1)) (j7 (wu (gS (av aB (av aB (av aB bz))))) (dv Ni (h.v 2) cx)))))) (gh (hV (h.v 1)))))
variable (N3:Ua (Oz P w K mg base) 1 HD)
include z_str z_range rj N3 in
theorem b0W(D':T6 (Def K mg) a d):T6 (Oz P w K mg base) 2 B6:=lG (N:=["cell","beyond","kind","rows"]) D' λX r h=>by cases r;exact(gH (h.dh 2 (h.cl rj (av (h.v 0) (av cx (av cx bz))))) (gH (wx (de (fO h.u8) (h.v 2) cx) (gh (hV (dv eI (dv eI (dv eI aB (Tq aB zF (zG (h.cl rj (av (h.v 0) (av cx (av cx bz))))))) (dv b7a aB (dv eI cx (h.v 1)))) aB))) wD) (gH (wx (de (fO h.u8) (h.v 2) cx) (gH (b6I (i:=3) false (N':=["k","cell"]) (caps:=[0]) (nt:=1) h ⟨rfl,by decide +kernel,by decide +kernel,by decide +kernel,by decide +kernel,rfl,rfl,by decide +kernel⟩ (b5j h.g z_range (av (dv eI cx (h.v 1)) bz)) (λX1 kL kK gQ d9 kJ h1=>⟨(h1.tg 0),F2,(dv eI (dv eI (SN h1.g (rB d9 z_str) (dv He (h1.v 0) cx)) aB) (SN h1.g (rB d9 z_str) (dv b9f (h1.cl (Jf kL kK gQ d9 kJ rj) (av (h1.v 1) (av (h1.v 0) (av cx bz)))) cx)))⟩)) (gh (hV (dv eI (j7 (wu (gS (av aB (av aB bz)))) (h.cl rj (av (h.v 0) (av cx (av cx bz))))) (FR aB (h.bv 3)))))) wD) (gH (wx (de (fO h.u8) (h.v 2) cx) (gh (hV (dv eI aB (SN h.g z_str (dv eI cx (h.v 1)))))) wD) (gh (hV (h.cl N3 (av (dv eI cx (h.v 1)) bz))))))))
variable (Lv:T6 (Oz P w K mg base) 2 B6)
include z_len rj in
theorem b0V(D':T7 (Def K mg) a d):T7 (Oz P w K mg base) 2 F8:=lG (N:=["cell","some","text"]) D' λX r h=>by cases r;exact(gH (h.dh 1 (gS (av aB (av aB (av aB (av aB (av aB bz))))))) (gH (h.dh 1 (dv eI (h.v 1) (gS (av aB (av aB (av aB (av aB bz))))))) (gH (h.dh 1 (dv eI (h.v 1) (gS (av aB (av aB (av aB bz)))))) (gH (h.dh 1 (dv eI (h.v 1) (gS (av aB (av aB (av aB bz)))))) (gH (h.dh 1 (dv eI (h.v 1) (gS (av aB (av aB (av aB (av aB (av aB bz)))))))) (gH (h.dh 1 (dv eI (h.v 1) (gS (av aB (av aB (av aB (av aB (av aB (av aB bz))))))))) (gH (h.dh 1 (dv eI (h.v 1) (gS (av aB (av aB (av aB (av aB bz))))))) (gH (h.dh 1 (dv eI (h.v 1) (gS (av aB (av aB (av aB (av aB bz))))))) (gH (h.dh 1 (dv eI (h.v 1) (gS (av aB (av aB (av aB (av aB (av aB (av aB (av aB (av aB (av aB bz)))))))))))) (gH (h.dh 1 (dv eI (h.v 1) (gS (av aB (av aB (av aB (av aB bz))))))) (gH (h.dh 1 (dv eI (h.v 1) (gS (av aB (av aB (av aB (av aB (av aB bz)))))))) (gH (h.dh 1 (dv eI (h.v 1) (gS (av aB bz)))) (gH (h.dh 1 (dv eI (h.v 1) (gS (av aB (av aB (av aB bz)))))) (gH (h.dh 2 (j7 (h.bv 1) (h.cl rj (av (h.v 0) (av cx (av (D7 h.g z_len (h.bv 1)) bz)))))) (gh (hV (j7 (wu (gS (av (h.v 2) (av (dv eI (dv eI aB (h.v 2)) aB) (av (dv eI (dv eI aB (h.v 2)) aB) (av (dv eI (dv eI aB (h.v 2)) aB) bz)))))) (h.cl rj (av (h.v 0) (av cx (av cx bz)))))))))))))))))))))
variable (NU:T7 (Oz P w K mg base) 2 F8)
include F7 Ov Lv NU in
theorem b9d(D':Ii (Def K mg) a d):bQ P w K mg base iq 188 a d ["script"] (wI K 1 ND):=J' (N:=["script","cell","edge","changed","told"]) D' λX r h=>by cases r;exact(gH (b8H h.own h.calm (dv eI (Dc (h.bv 0) zF (zG cx)) (gS (av cx bz))) (h.tg 1) (gH (wx (de (FZ h.u8) (h.cl F7 (av (h.cl NU (av (h.v 1) bz)) bz)) (gS (av sA (av sA (av sA bz))))) (gh (hV sA)) wD) (gH (h.dh 2 (h.cl Lv (av (h.v 1) (av cx bz)))) (gH (wx (qa (G6 (de (FZ h.u8) (h.cl F7 (av (h.v 2) bz)) (gS (av (h.v 2) bz))) (Hh (de (FZ h.u8) (h.cl F7 (av (h.cl Lv (av (h.v 1) (av cx bz))) bz)) (gS (av sA (av sA (av sA bz)))))))) (gh (hV sA)) wD) (gH (h.dh 3 (h.cl Ov (av (h.v 1) bz))) (gH (h.dh 4 (h.cl F7 (av (h.v 3) bz))) (gh (wx (qa (Xf (de (FZ h.u8) (h.v 4) (gS (av sA (av sA (av sA bz))))) (X2 (de (FZ h.u8) (h.v 4) (gS (av (h.v 3) bz)))))) (gh (hV sA)) wD)))))))) (gh (hV sA)))
end
theorem all_mk{l:Rr}{w:World}{K:aG}{h:Heap}{mg:Str->Option Value}{fa:Addr}(X:K.In h)(G:h.Ns mainGlobals mg)(hfa:mg "law" = some (.ref fa))
  (i1:FI K "is_name" YZ f1 od1 an1 sl1 oc1 kV1 dc1 pm1 cd1 ct1)
  (i2:FI K "are_figures" Ze f2 od2 an2 IB oc2 kV2 dc2 pm2 cd2 ct2)
  (i3:FI K "number_of" Zj f3 od3 an3 sl3 oc3 kV3 dc3 pm3 cd3 ct3)
  (i4:FI K "blocks_from" Zf f4 od4 an4 sl4 oc4 kV4 dc4 pm4 cd4 ct4)
  (i5:FI K "row_of" YF f5 od5 an5 sl5 oc5 kV5 dc5 pm5 cd5 ct5)
  (i6:FI K "rows_from" Zl f6 od6 an6 sl6 oc6 kV6 dc6 pm6 cd6 ct6)
  (i7:FI K "span_from" Zo f7 od7 an7 sl7 oc7 kV7 dc7 pm7 cd7 ct7)
  (i8:FI K "flat_from" Zi f8 od8 an8 sl8 oc8 kV8 dc8 pm8 cd8 ct8)
  (i9:FI K "each_from" Y4 f9 od9 an9 sl9 oc9 kV9 dc9 pm9 cd9 ct9)
  (Qh:FI K "rule_over" Zn f10 od10 an10 sl10 oc10 kV10 dc10 pm10 cd10 ct10)
  (Qg:FI K "bracketed_from" ZX f11 od11 an11 sl11 oc11 kV11 dc11 pm11 cd11 ct11)
  (i12:FI K "rule_from" Zm f12 od12 an12 sl12 oc12 kV12 dc12 pm12 cd12 ct12)
  (Vm:FI K "read_rule" Zk f13 od13 an13 sl13 oc13 kV13 dc13 pm13 cd13 ct13)
  (i14:FI K "worded" YG f14 od14 an14 sl14 oc14 kV14 dc14 pm14 cd14 ct14)
  (i15:FI K "_law_told" Y7 f15 od15 an15 sl15 oc15 kV15 dc15 pm15 cd15 ct15)
  (i16:FI K "_law_mix" Y0 f16 od16 an16 sl16 oc16 kV16 dc16 pm16 cd16 ct16)
  (i17:FI K "_law_changed" ZL f17 od17 an17 sl17 oc17 kV17 dc17 pm17 cd17 ct17)
  (i18:FI K "_law_nested" Y' f18 od18 an18 sl18 oc18 kV18 dc18 pm18 cd18 ct18)
  (i19:FI K "_law_edge" Y5 f19 od19 an19 sl19 oc19 kV19 dc19 pm19 cd19 ct19)
  (i20:FI K "_law_near" Y6 f20 od20 an20 sl20 oc20 kV20 dc20 pm20 cd20 ct20)
  (Vl:FI K "law" K9 f21 od21 S6 sl21 oc21 Qc QV PK QY QW)
  (OY:iE K mainGlobals "str" = some none)
  (O3:iE K mainGlobals "all" = some none)
  (zO:∃t,iE K mainGlobals "LETTERS" = some (some (.str "abcdefghijklmnopqrstuvwxyz" t)))
  {k8 k7 k6 kZ kY kX kW kU kT kS jZ jY jX jW jV jU:Tok}{kQ:Addr}{qd:Option Addr}{qb:Array (Option Value)}{qc:Nat}(rC:iE K mainGlobals "OWN_WORDS" = some (some (.ref kQ)))(rF:K.lookup kQ=some ⟨.type "tuple",qd,.seq #[.str "each" k8,.str "from" k7,.str "to" k6,.str "flat" kZ,.str "bands" kY,.str "steps" kX,.str "blocks" kW,.str "at" kU,.str "times" kT,.str "plus" kS,.str "or" jZ,.str "max" jY,.str "only" jX,.str "after" jW,.str "roomy" jV,.str "fee" jU] qc,qb⟩)
  (OZ:iE K mainGlobals "len" = some none)
  (nF:∃t,iE K mainGlobals "MOST_LETTERS" = some (some (.int 8 t)))
  (O0:iE K mainGlobals "int" = some none)
  (zP:∃t,iE K mainGlobals "FIGURES" = some (some (.str "0123456789" t)))
  (nG:∃t,iE K mainGlobals "MOST_FIGURES" = some (some (.int 40 t)))
  (rD:∃t,iE K mainGlobals "MOST_ROWS" = some (some (.int 20 t)))
  (oN:∃t,iE K mainGlobals "MOST_BLOCKS" = some (some (.int 40 t)))
  (jx:∃t,iE K mainGlobals "MOST_PAIRS_AROUND" = some (some (.int 20 t)))
  (Ew:iE K mainGlobals "range" = some none)
  (p6:iE K mainGlobals "isinstance" = some none)
  (p7:iE K mainGlobals "ValueError" = some none)
  {aA:Addr}(ot:iE K mainGlobals "BadRule" = some (some (.ref aA)))(si:pF K (.ref aA) "__getattribute__" = some (some (.builtin "BaseException.__getattribute__")))(sf:pF K (.ref aA) "__getattr__" = some none)(se:pF K (.ref aA) "__class__" = some (some (.builtin "object.__class__")))(sd:GQ K aA (.type "object")=some true)(r8:GQ K aA (.type "BaseException")=some true)(r9:(Rz K aA).isSome=true)
  {p9:Addr}(UP:iE K mainGlobals "OfferError" = some (some (.ref p9)))(v0d:pF K (.ref p9) "__getattribute__" = some (some (.builtin "BaseException.__getattribute__")))(v0f:pF K (.ref p9) "__getattr__" = some none)(v0h:pF K (.ref p9) "__class__" = some (some (.builtin "object.__class__")))(v0j:GQ K p9 (.type "object")=some true)(v0n:GQ K p9 (.type "BaseException")=some true)(v0l:(Rz K p9).isSome=true)
  {p8:Addr}(UO:iE K mainGlobals "TooMany" = some (some (.ref p8)))(v0e:pF K (.ref p8) "__getattribute__" = some (some (.builtin "BaseException.__getattribute__")))(v0g:pF K (.ref p8) "__getattr__" = some none)(v0i:pF K (.ref p8) "__class__" = some (some (.builtin "object.__class__")))(v0k:GQ K p8 (.type "object")=some true)(v0o:GQ K p8 (.type "BaseException")=some true)(v0m:(Rz K p8).isSome=true)
  (g4:Rf K (.builtin "object.__class__") "__get__" = some (some (.builtin "getset_descriptor.__get__")))(g5:PySem.W.takesIn K (.builtin "object.__class__")=some true)
  {du dt cY cW cu dD e9 bw cq cK cz cX eB bj cp cc cb cA bA aO bB bE bD aE bf bb aW be aq bU aQ aV ai bC bg bc bW bK bL bt aT cj cm ao cB bM cf aK:Addr}
  (A9:iE K mainGlobals "Single" = some (some (.ref cp)))
  (fU:df K "Each" du)
  (rN:Mk K du cm)
  (gx:ak K du "unit")
  (h9:ak K du "low")
  (gy:ak K du "high")
  (gc:aZ K du "written" bE)
  (fT:df K "Flat" dt)
  (rM:Mk K dt cj)
  (fI:ak K dt "price")
  (h8:ak K dt "low")
  (gv:ak K dt "high")
  (fZ:aZ K dt "written" bD)
  (gD:df K "Bands" cY)
  (oS:Mk K cY aT)
  (fK:ak K cY "rows")
  (dn:aZ K cY "written_rows" aE)
  (fB:aZ K cY "written" bf)
  (gA:df K "Steps" cW)
  (oP:Mk K cW aT)
  (fG:ak K cW "rows")
  (dj:aZ K cW "written_rows" aE)
  (fx:aZ K cW "written" bb)
  (di:df K "Blocks" cu)
  (me:Mk K cu bt)
  (eR:ak K cu "size")
  (ej:ak K cu "price")
  (eS:ak K cu "many")
  (eL:aZ K cu "written" aW)
  (ia:df K "Named" dD)
  (oR:Mk K dD bL)
  (fH:ak K dD "name")
  (fA:aZ K dD "written" be)
  (jq:df K "Sum" e9)
  (zQ:Mk K e9 aK)
  (i0:ak K e9 "one")
  (gq:ak K e9 "other")
  (da:aZ K e9 "written_between" aq)
  (gO:aZ K e9 "written" bU)
  (c8:df K "Cheaper" bw)
  (kB:Mk K bw aK)
  (eQ:ak K bw "one")
  (dU:ak K bw "other")
  (cG:aZ K bw "written_between" aq)
  (eu:aZ K bw "written" aQ)
  (dQ:df K "Dearer" cq)
  (md:Mk K cq aK)
  (fJ:ak K cq "one")
  (ei:ak K cq "other")
  (cI:aZ K cq "written_between" aq)
  (eK:aZ K cq "written" aV)
  (fw:df K "Only" cK)
  (rL:Mk K cK cf)
  (hZ:ak K cK "one")
  (h7:ak K cK "low")
  (gu:ak K cK "high")
  (dM:aZ K cK "written_with" ai)
  (fY:aZ K cK "written" bC)
  (eU:df K "After" cz)
  (oU:Mk K cz bM)
  (gz:ak K cz "one")
  (eT:ak K cz "count")
  (dq:aZ K cz "written_with" ai)
  (fC:aZ K cz "written" bg)
  (gC:df K "Roomy" cX)
  (oQ:Mk K cX ao)
  (gr:ak K cX "one")
  (dk:aZ K cX "written_with" ai)
  (fy:aZ K cX "written" bc)
  (jr:df K "Fee" eB)
  (zR:Mk K eB cB)
  (ja:ak K eB "one")
  (gw:ak K eB "price")
  (dW:aZ K eB "written_with" ai)
  (gP:aZ K eB "written" bW)
  (cE:df K "Words" bj)
  (oO:Mk K bj bK)
  (eP:ak K bj "words")
  (dP:ak K bj "place")
  (fX:aZ K bj "at_end" cc)
  (fW:aZ K bj "coming" cb)
  (gM:aZ K bj "taken" cA)
  (cN:aZ K bj "number_from" aO)
  (et:aZ K bj "expect" bB)
  (er:aZ K bj "number" bA)
  (G9:pF K (.ref cp) "__init__" = some (some (.ref ao)))
  (wb:Rf K (.ref cp) "__getattribute__" = some (some (.builtin "type.__getattribute__")))
  (wa:VN K cp (.type "type")=true)
  (v9:VM K (.ref cp) (.type "type") "__init__" = some (.val (.ref ao)))
  (mB:FM K "at_end" "Words.at_end" Zs cc xN zv wM ya yp yK w9 ze yW)
  (mz:FM K "coming" "Words.coming" Zt cb xM zu wL xZ yo yJ w8 zd yV)
  (nK:FM K "taken" "Words.taken" Zd cA Ae A4 zV Ai As AK z9 AU AO)
  (iR:FM K "number" "Words.number" Zv bA xJ zr wJ xX ym yH w5 zb yT)
  (fE:FM K "number_from" "Words.number_from" Z1 aO qm qM qf qq qv qA qk qF qD)
  (iS:FM K "expect" "Words.expect" Zu bB xK zt wK xY yn yI w6 zc yU)
  (mG:FM K "written" "Each.written" ZG bE xV zC wX yh yx yR xG zl y9)
  (mE:FM K "written" "Flat.written" ZI bD xT zA wV yf yv yP xE zj y7)
  (jh:FM K "written_rows" "Rows.written_rows" Z0 aE qp qN qg qr qw qB ql qG qE)
  (lC:FM K "written" "Bands.written" Zy bf uY wo uE va vn vI uQ vY vQ)
  (ly:FM K "written" "Steps.written" ZD bb uU we uA u5 vi vE uM vU vM)
  (kF:FM K "written" "Blocks.written" ZU aW tD ug sX tH tO tY tm ub t7)
  (lA:FM K "written" "Named.written" ZA be uW wj uC u7 vk vG uO vW vO)
  (ib:FM K "written_between" "Pair.written_between" Z2 aq oj oF oa om ox oz og oB oA)
  (nL:FM K "written" "Sum.written" Zc bU Af A5 zW Aj Au AL Aa AW AQ)
  (j1:FM K "written" "Cheaper.written" ZP aQ rS sy rP rT rV sk rQ su sr)
  (kE:FM K "written" "Dearer.written" ZV aV tz uf sW tG tN tX tf ua t6)
  (iC:FM K "written_with" "Single.written_with" ZZ ai o4 pL oW o5 o6 pw oZ pC pz)
  (mC:FM K "written" "Only.written" ZK bC xQ zy wR yd yt yN xC zh yZ)
  (lD:FM K "written" "After.written" Zx bg uZ wq uF vb vo vJ uR vZ vR)
  (lz:FM K "written" "Roomy.written" ZC bc uV wg uB u6 vj vF uN vV vN)
  (nM:FM K "written" "Fee.written" Zb bW Ag A6 zX Ak Av AM Ab AY AR)
  (lx:FM K "__init__" "Words.__init__" ZE bK uT wc uz u4 vh vD uL vT vL)
  (lB:FM K "__init__" "Named.__init__" Zz bL uX wm uD u9 vm vH uP vX vP)
  (kG:FM K "__init__" "Blocks.__init__" ZT bt tE uh sY tI tP tZ tq uc t8)
  (iT:FM K "__init__" "Rows.__init__" Zr aT xO zw wN yb yq yL xA zf yX)
  (mF:FM K "__init__" "Flat.__init__" ZH cj xU zB wW yg yw yQ xF zk y8)
  (mH:FM K "__init__" "Each.__init__" ZF cm xW zD wY yi yy yS xH zm za)
  (cP:FM K "__init__" "Single.__init__" ZW ao tu ue sV tF tM tW td t9 t5)
  (nN:FM K "__init__" "Fee.__init__" Za cB Ah A7 zY Al Aw AN Ac AZ AS)
  (lE:FM K "__init__" "After.__init__" Zw bM u3 wt uG vd vp vK uS v3 vS)
  (mD:FM K "__init__" "Only.__init__" ZJ cf xS zz wU ye yu yO xD zi y6)
  (fV:FM K "__init__" "Pair.__init__" Zq aK xP zx wQ yc yr yM xB zg yY)
  (O9:Ro K (.ref aA) (.ref p9)=some true)
  (ef:GU K (.ref aA) (.ref aA)=some true)
  (O8:GU K (.ref aA) (.ref p8)=some false)
  (dg:GU K (.ref aA) (.type "ValueError")=some true)
  {jG mX kR:List Value}{je:Addr}{mn ml:Str}{mK m9:Bool}{mj:List Str}{la:Option Bool}{mS:Option Addr}{mx mw mr mq mo:Option Value}
  (rK:K.lookup aA=some (excClassObj mn ml aA je mX jG mK mj kR m9 la mS mx mw mr mq mo "ValueError.__new__"))(rJ:PySem.W.nsOkIn K je=true)(rH:iE K je "__init__" = some none)(rG:PySem.W.tailIn K Wy jG=true)
  (fin:∀ns:List Int,ns.length<=63->ND [.lst true (ns.map D.int)]=some (.sh (.bl true))):
  ∃fd:FuncData,(∀(s:Shared) (v:Value),BindsTo s fd ⟨[v],[]⟩ [("script",v)])/\∀base:Heap,K.In base->base.Ns mainGlobals mg->bQ l.prog w K mg base iq 188 fa fd ["script"] (spT K):=by
 have e:=hfa.symm.trans (kn X G Vl.a);cases e;have z_str:=FN X G OY;have z_all:=FN X G O3;have z_LETTERS:Gr mg "LETTERS" "abcdefghijklmnopqrstuvwxyz":=zO.imp λ_ q=>kn X G q;have z_OWN_WORDS:OV K mg "OWN_WORDS" ["each","from","to","flat","bands","steps","blocks","at","times","plus","or","max","only","after","roomy","fee"]:=b9y (ys:=[("each",k8),("from",k7),("to",k6),("flat",kZ),("bands",kY),("steps",kX),("blocks",kW),("at",kU),("times",kT),("plus",kS),("or",jZ),("max",jY),("only",jX),("after",jW),("roomy",jV),("fee",jU)]) (kn X G rC) rF rfl rfl (by simp);have z_len:=FN X G OZ;have z_MOST_LETTERS:BA mg "MOST_LETTERS" 8:=nF.imp λ_ q=>kn X G q;have z_int:=FN X G O0;have z_FIGURES:Gr mg "FIGURES" "0123456789":=zP.imp λ_ q=>kn X G q;have z_MOST_FIGURES:BA mg "MOST_FIGURES" 40:=nG.imp λ_ q=>kn X G q;have z_MOST_ROWS:BA mg "MOST_ROWS" 20:=rD.imp λ_ q=>kn X G q;have z_MOST_BLOCKS:BA mg "MOST_BLOCKS" 40:=oN.imp λ_ q=>kn X G q;have z_MOST_PAIRS_AROUND:BA mg "MOST_PAIRS_AROUND" 20:=jx.imp λ_ q=>kn X G q;have z_range:=FN X G Ew;have z_isinstance:=FN X G p6;have z_ValueError:=FN X G p7;have TT:Du K mg aA p9 p8:=⟨⟨ot,kn X G ot,⟨si,sf,se,g4,g5,sd,r8⟩,r9⟩,⟨UP,kn X G UP,⟨v0d,v0f,v0h,g4,g5,v0j,v0n⟩,v0l⟩,⟨UO,kn X G UO,⟨v0e,v0g,v0i,g4,g5,v0k,v0o⟩,v0m⟩,O9,ef,O8,dg,⟨⟨jG,je,mn,ml,mX,mK,mj,kR,m9,la,mS,mx,mw,mr,mq,mo,rK,rJ,rH,rG⟩⟩⟩;have OB:Z5 K mg du dt cY cW cu dD e9 bw cq cK cz cX eB bj cp cc cb cA bA aO bB bE bD aE bf bb aW be aq bU aQ aV ai bC bg bc bW bK bL bt aT cj cm ao cB bM cf aK:=⟨fU,kn X G fU.a,rN,gx,h9,gy,gc,fT,kn X G fT.a,rM,fI,h8,gv,fZ,gD,kn X G gD.a,oS,fK,dn,fB,gA,kn X G gA.a,oP,fG,dj,fx,di,kn X G di.a,me,eR,ej,eS,eL,ia,kn X G ia.a,oR,fH,fA,jq,kn X G jq.a,zQ,i0,gq,da,gO,c8,kn X G c8.a,kB,eQ,dU,cG,eu,dQ,kn X G dQ.a,md,fJ,ei,cI,eK,fw,kn X G fw.a,rL,hZ,h7,gu,dM,fY,eU,kn X G eU.a,oU,gz,eT,dq,fC,gC,kn X G gC.a,oQ,gr,dk,fy,jr,kn X G jr.a,zR,ja,gw,dW,gP,cE,kn X G cE.a,oO,eP,dP,fX,fW,gM,cN,et,er,kn X G A9,⟨wb,wa,v9,cP.k⟩⟩;refine⟨pI "law" "law" (qR K9) (iG K9) (dR K9) .none Qc QV PK S6 QY QW,λs v=>.of_eq rfl,λbase _ _=>?_⟩;have gk:=b0X (P:=l.prog) (w:=w) (base:=base) OB (gX lx (by (intro _ _ _ _ _ _ us hu; obtain⟨_,_,h⟩:=b7j hu; subst h; rfl)));have fq:=b06 OB;have fm:=b04 OB;have Oh:=a7T (P:=l.prog) (w:=w) (base:=base) z_len fq fm (gX mB (by (intro _ _ _ _ _ _ us hu; obtain⟨_,h⟩:=b7k hu; subst h; rfl)));have dY:=b0g OB Oh;have hW:=b00 (P:=l.prog) (w:=w) (base:=base) OB (gX lB (by (intro _ _ _ _ _ _ us hu; obtain⟨_,_,h⟩:=b7j hu; subst h; rfl)));have Eh:=b2z (P:=l.prog) (w:=w) (base:=base) z_all z_LETTERS z_OWN_WORDS z_len z_MOST_LETTERS (fL X G i1);have fR:=b0i (P:=l.prog) (w:=w) (base:=base) OB (gX kG (by (intro _ _ _ _ _ _ us hu; obtain⟨_,_,_,_,h⟩:=lenV4 hu; subst h; rfl)));have Oi:=a7S (P:=l.prog) (w:=w) (base:=base) z_len fq fm (gX mz (by (intro _ _ _ _ _ _ us hu; obtain⟨_,h⟩:=b7k hu; subst h; rfl)));have cQ:=b0f OB Oi;have iW:=a8w (P:=l.prog) (w:=w) (base:=base) (mg:=mg) OB cQ (gX nK (by (intro _ _ _ _ _ _ us hu; obtain⟨_,h⟩:=b7k hu; subst h; rfl)));have El:=a8v (P:=l.prog) (w:=w) (base:=base) z_all z_len z_FIGURES z_MOST_FIGURES (fL X G i2);have uo:=b0c TT z_int El (fL X G i3);have B4:=a9N TT z_int El (fL X G i3);have ju:=a7Q (P:=l.prog) (w:=w) (base:=base) (mg:=mg) OB iW uo (gX iR (by (intro _ _ _ _ _ _ us hu; obtain⟨_,h⟩:=b7k hu; subst h; rfl)));have rp:=a7w (P:=l.prog) (w:=w) (base:=base) (mg:=mg) OB iW uo B4 (gX iR (by (intro _ _ _ _ _ _ us hu; obtain⟨_,h⟩:=b7k hu; subst h; rfl)));have nj:=a52 (P:=l.prog) (w:=w) (base:=base) (mg:=mg) OB ju (gX fE (by (intro _ _ _ _ _ _ us hu; obtain⟨_,_,h⟩:=b7j hu; subst h; rfl)));have zJ:=a51 (P:=l.prog) (w:=w) (base:=base) (mg:=mg) TT OB ju rp (gX fE (by (intro _ _ _ _ _ _ us hu; obtain⟨_,_,h⟩:=b7j hu; subst h; rfl)));have jd:=a7R (P:=l.prog) (w:=w) (base:=base) (mg:=mg) OB iW (gX iS (by (intro _ _ _ _ _ _ us hu; obtain⟨_,_,h⟩:=b7j hu; subst h; rfl)));have qW:=a7x (P:=l.prog) (w:=w) (base:=base) (mg:=mg) TT OB iW (gX iS (by (intro _ _ _ _ _ _ us hu; obtain⟨_,_,h⟩:=b7j hu; subst h; rfl)));have F9:=a8u (P:=l.prog) (w:=w) (base:=base) (mg:=mg) OB z_MOST_BLOCKS fR ju nj jd (fL X G i4);have Oj:=a8o (P:=l.prog) (w:=w) (base:=base) (mg:=mg) TT OB z_MOST_BLOCKS fR ju rp nj zJ jd qW (fL X G i4);have C9:=b3A uo B4 (fL X G i5);have NR:=b2V uo B4 (fL X G i5);have De:=b0a (P:=l.prog) (w:=w) (base:=base) (mg:=mg) OB z_len z_MOST_ROWS cQ iW C9 (fL X G i6);have LB:=a9L (P:=l.prog) (w:=w) (base:=base) (mg:=mg) TT OB z_len z_MOST_ROWS cQ iW C9 NR (fL X G i6);have ff:=b0Y (P:=l.prog) (w:=w) (base:=base) OB (gX iT (by (intro _ _ _ _ _ _ us hu; obtain⟨_,_,h⟩:=b7j hu; subst h; rfl)));have fj:=b01 (P:=l.prog) (w:=w) (base:=base) OB (gX iT (by (intro _ _ _ _ _ _ us hu; obtain⟨_,_,h⟩:=b7j hu; subst h; rfl)));have jf:=b2B (P:=l.prog) (w:=w) (base:=base) OB (gX mF (by (intro _ _ _ _ _ _ us hu; obtain⟨_,_,_,_,h⟩:=lenV4 hu; subst h; rfl)));have nU:=a98 (P:=l.prog) (w:=w) (base:=base) (mg:=mg) OB nj jd (fL X G i7);have B5:=a9I (P:=l.prog) (w:=w) (base:=base) (mg:=mg) OB nj zJ jd qW (fL X G i7);have Ge:=b0d (P:=l.prog) (w:=w) (base:=base) (mg:=mg) OB ju jd jf nU (fL X G i8);have NZ:=a9O (P:=l.prog) (w:=w) (base:=base) (mg:=mg) OB ju rp jd qW jf nU B5 (fL X G i8);have jg:=b2C (P:=l.prog) (w:=w) (base:=base) OB (gX mH (by (intro _ _ _ _ _ _ us hu; obtain⟨_,_,_,_,h⟩:=lenV4 hu; subst h; rfl)));have Gc:=b0e (P:=l.prog) (w:=w) (base:=base) (mg:=mg) OB ju jd nU jg (fL X G i9);have NY:=a9P (P:=l.prog) (w:=w) (base:=base) (mg:=mg) OB ju rp jd qW nU B5 jg (fL X G i9);have pS:=b3D (P:=l.prog) (w:=w) (base:=base) OB (gX cP (by (intro _ _ _ _ _ _ us hu; obtain⟨_,_,h⟩:=b7j hu; subst h; rfl)));have ip:=b3C OB pS (gX nN (by (intro _ _ _ _ _ _ us hu; obtain⟨_,_,_,h⟩:=b7i hu; subst h; rfl)));have fg:=b0Z (P:=l.prog) (w:=w) (base:=base) OB (gX cP (by (intro _ _ _ _ _ _ us hu; obtain⟨_,_,h⟩:=b7j hu; subst h; rfl)));have j9:=b03 (P:=l.prog) (w:=w) (base:=base) OB (gX cP (by (intro _ _ _ _ _ _ us hu; obtain⟨_,_,h⟩:=b7j hu; subst h; rfl)));have eE:=b02 OB j9 (gX lE (by (intro _ _ _ _ _ _ us hu; obtain⟨_,_,_,h⟩:=b7i hu; subst h; rfl)));have l4:=b2D (P:=l.prog) (w:=w) (base:=base) OB (gX cP (by (intro _ _ _ _ _ _ us hu; obtain⟨_,_,h⟩:=b7j hu; subst h; rfl)));have gJ:=b2A OB l4 (gX mD (by (intro _ _ _ _ _ _ us hu; obtain⟨_,_,_,_,h⟩:=lenV4 hu; subst h; rfl)));have dG:=b0h (P:=l.prog) (w:=w) (base:=base) OB (gX fV (by (intro _ _ _ _ _ _ us hu; obtain⟨_,_,_,h⟩:=b7i hu; subst h; rfl)));have c0:=a9g (P:=l.prog) (w:=w) (base:=base) OB (gX fV (by (intro _ _ _ _ _ _ us hu; obtain⟨_,_,_,h⟩:=b7i hu; subst h; rfl)));have il:=b3B (P:=l.prog) (w:=w) (base:=base) OB (gX fV (by (intro _ _ _ _ _ _ us hu; obtain⟨_,_,_,h⟩:=b7i hu; subst h; rfl)))
 have jt:∀n,B7 (Og l.prog w K mg base "Words" aa 0) (8*n+1) (iK n):=λn=>by
   induction n with
   |zero=>exact b68 (qt X G i12)
   | succ n aw => rw[show 8*(n+1)+1=8*n+1+8 from by omega];have Df:Dj (Og l.prog w K mg base "Words" aa 1) (8*n+1+6) (Ga (iK n)):=Y3 (P:=l.prog) (w:=w) (base:=base) (mg:=mg) OB aw iW ju nj nU ip fg eE gJ dG c0 il (Cm X G Qh);have Ej:Dp (Og l.prog w K mg base "Words" aa 0) (8*n+1+7) (Gk (iK n)):=ZY (P:=l.prog) (w:=w) (base:=base) (mg:=mg) OB z_MOST_PAIRS_AROUND aw jd Df (qt X G Qg);exact a99 (P:=l.prog) (w:=w) (base:=base) (mg:=mg) OB hW Eh iW F9 De ff fj Ge Gc Ej (qt X G i12)
 have Gf:=jt 23
 have nJ:∀n,B7 (Xg l.prog w K mg base "Words" aa 0) (8*n+1) (pZ n):=λn=>by
   induction n with
   |zero=>exact b6B (qt X G i12)
   | succ n bG => have aw:=jt n;rw[show 8*(n+1)+1=8*n+1+8 from by omega];have Df:Dj (Og l.prog w K mg base "Words" aa 1) (8*n+1+6) (Ga (iK n)):=Y3 (P:=l.prog) (w:=w) (base:=base) (mg:=mg) OB aw iW ju nj nU ip fg eE gJ dG c0 il (Cm X G Qh);have N2:Dj (Xg l.prog w K mg base "Words" aa 1) (8*n+1+6) (LA (iK n) (pZ n)):=a9J (P:=l.prog) (w:=w) (base:=base) (mg:=mg) TT OB aw bG iW ju rp nj zJ nU B5 ip fg eE gJ dG c0 il (Cm X G Qh);have Ej:Dp (Og l.prog w K mg base "Words" aa 0) (8*n+1+7) (Gk (iK n)):=ZY (P:=l.prog) (w:=w) (base:=base) (mg:=mg) OB z_MOST_PAIRS_AROUND aw jd Df (qt X G Qg);have OJ:Dp (Xg l.prog w K mg base "Words" aa 0) (8*n+1+7) (LI (iK n) (pZ n)):=a6M (P:=l.prog) (w:=w) (base:=base) (mg:=mg) TT OB z_MOST_PAIRS_AROUND aw bG jd qW Df N2 (qt X G Qg);exact a9K (P:=l.prog) (w:=w) (base:=base) (mg:=mg) TT OB aw bG hW Eh iW F9 Oj De LB ff fj Ge NZ Gc NY Ej OJ (qt X G i12)
 have N1:=nJ 23;have NT:=b0b (P:=l.prog) (w:=w) (base:=base) (mg:=mg) OB gk dY Gf (fL X G Vm);have N0:=a9M (P:=l.prog) (w:=w) (base:=base) (mg:=mg) TT OB gk dY Gf N1 (fL X G Vm);have lJ:=b3z (P:=l.prog) (w:=w) (base:=base) z_str (fL X G i14);have eY:=b2J OB;have gW:=b3F OB;have l5:=b2E OB;have dS:=b05 OB;have l7:=b2G OB;have LH:=a53 lJ l7 (gX jh (by (intro _ _ _ _ _ _ us hu; obtain⟨_,h⟩:=b7k hu; subst h; rfl)));have cw:=a6C OB LH;have l9:=b2I OB;have l6:=b2F OB;have l8:=b2H OB;have j':=b07 OB;have jL:=b3E OB;have kf:=b08 OB
 have ik:lZ l.prog w K mg base "written" 1 73 (c9 24):=by
  have ih:∀n,lZ l.prog w K mg base "written" 1 (3*n+1) (c9 n):=λn=>by
   induction n with
   |zero=>exact F4
   | succ n dy => rw[show 3*(n+1)+1=3*n+1+3 from by omega];have Od:Ol (Om l.prog w K mg base bE) (3*n+1+2) (HS (c9 n)):=a7W lJ eY gW l5 (gX mG (by (intro _ _ _ _ _ _ us hu; obtain⟨_,h⟩:=b7k hu; subst h; rfl)));have Oe:Oo (Om l.prog w K mg base bD) (3*n+1+2) (HU (c9 n)):=a7V lJ eY gW dS (gX mE (by (intro _ _ _ _ _ _ us hu; obtain⟨_,h⟩:=b7k hu; subst h; rfl)));have N7:OM (Om l.prog w K mg base bf) (3*n+1+3) (Gi (c9 n)):=a7n lJ cw (gX lC (by (intro _ _ _ _ _ _ us hu; obtain⟨_,h⟩:=b7k hu; subst h; rfl)));have Oa:OQ (Om l.prog w K mg base bb) (3*n+1+3) (Gj (c9 n)):=a7k lJ cw (gX ly (by (intro _ _ _ _ _ _ us hu; obtain⟨_,h⟩:=b7k hu; subst h; rfl)));have OC:OF (Om l.prog w K mg base aW) (3*n+1+2) (HJ (c9 n)):=a6U lJ dS l9 l6 (gX kF (by (intro _ _ _ _ _ _ us hu; obtain⟨_,h⟩:=b7k hu; subst h; rfl)));have N8:ON (Om l.prog w K mg base be) (3*n+1+1) (HQ (c9 n)):=a7m l8 (gX lA (by (intro _ _ _ _ _ _ us hu; obtain⟨_,h⟩:=b7k hu; subst h; rfl)));have HW:OR (Om l.prog w K mg base aq) (3*n+1+2) (B8 (c9 n)):=a49 dy lJ j' jL (gX ib (by (intro _ _ _ _ _ _ us hu; obtain⟨_,_,h⟩:=b7j hu; subst h; rfl)));have aM:lZ l.prog w K mg base "written_between" 2 (3*n+1+2) (Dq (c9 n)):=a5H OB HW;have Ou:OA (Om l.prog w K mg base bU) (3*n+1+3) (HF (c9 n)):=a8x aM (gX nL (by (intro _ _ _ _ _ _ us hu; obtain⟨_,h⟩:=b7k hu; subst h; rfl)));have OI:OK (Om l.prog w K mg base aQ) (3*n+1+3) (HL (c9 n)):=a6D aM (gX j1 (by (intro _ _ _ _ _ _ us hu; obtain⟨_,h⟩:=b7k hu; subst h; rfl)));have OD:OG (Om l.prog w K mg base aV) (3*n+1+3) (HK (c9 n)):=a6T aM (gX kE (by (intro _ _ _ _ _ _ us hu; obtain⟨_,h⟩:=b7k hu; subst h; rfl)));have Gn:OS (Om l.prog w K mg base ai) (3*n+1+2) (zK (c9 n)):=a5o dy lJ jL (gX iC (by (intro _ _ _ _ _ _ us hu; obtain⟨_,_,h⟩:=b7j hu; subst h; rfl)));have aJ:lZ l.prog w K mg base "written_with" 2 (3*n+1+2) (Bu (c9 n)):=a6B OB Gn;have Of:Oq (Om l.prog w K mg base bC) (3*n+1+3) (HV (c9 n)):=a7U eY gW aJ (gX mC (by (intro _ _ _ _ _ _ us hu; obtain⟨_,h⟩:=b7k hu; subst h; rfl)));have N6:OL (Om l.prog w K mg base bg) (3*n+1+3) (HP (c9 n)):=a7o aJ kf (gX lD (by (intro _ _ _ _ _ _ us hu; obtain⟨_,h⟩:=b7k hu; subst h; rfl)));have N9:OP (Om l.prog w K mg base bc) (3*n+1+3) (HR (c9 n)):=a7l aJ (gX lz (by (intro _ _ _ _ _ _ us hu; obtain⟨_,h⟩:=b7k hu; subst h; rfl)));have Ot:Oy (Om l.prog w K mg base bW) (3*n+1+3) (HE (c9 n)):=a8y dS aJ (gX nM (by (intro _ _ _ _ _ _ us hu; obtain⟨_,h⟩:=b7k hu; subst h; rfl)));exact a9f OB Od Oe N7 Oa OC N8 Ou OI OD Of N6 N9 Ot
  exact ih 24
 have F7:=b0U TT z_isinstance z_ValueError NT N0 ik (fL X G i15);have rj:=b2y (P:=l.prog) (w:=w) (base:=base) (Cm X G i16);have Ov:=a8t z_len rj (fL X G i17);have N3:=a9e (P:=l.prog) (w:=w) (base:=base) z_range (fL X G i18);have Lv:=b0W z_str z_range rj N3 (qt X G i19);have NU:=b0V z_len rj (fL X G i20);have O_law:=b9d F7 Ov Lv NU (fL X G Vl);exact b9l O_law fin
end My
open PySem L2 DL
def vcNames:String:="a0T Wo_none a09 a8i b6N b3b b3a b29 Wo_seq b77 Wo_ret Wo_setF b75 Wo_eV Wo_eC b91 b8b Wo_gMul b8a Wo_gMod b79 b9Y b8h b8i rep0 rep1 rep2 rep3 rep4 b5J Wo_compC b8c b3U b5p b3W b3T b3S b3V b4G b4H b8j b5O b8d b8e b9W b5N b7V Wo_for Wo_forR b1t b9X Wo_gT b5K b4K b6v b6w b5L Sl_sh Sl_ow List.getElem?_cons_zero List.getElem?_cons_succ List.set_cons_zero List.set_cons_succ List.length_cons List.length_nil decide_eq_true_eq decide_eq_false_iff_not Bool.not_eq_true' Bool.not_eq_false' Bool.not_true Bool.not_false true_and and_true forall_const Bool.true_eq_false Bool.false_eq_true false_implies reduceCtorEq implies_true true_implies Int.reduceToNat Nat.reduceAdd Nat.reduceLT Nat.reduceLeDiff Nat.reduceSub Int.reduceLT Int.reduceLE Int.reduceEq Int.cast_ofNat_Int not_true_eq_false not_false_eq_true"
def vcL(s:String):Lean.MacroM (Array (Lean.TSyntax `Lean.Parser.Tactic.simpLemma)):=(s.splitOn " ").toArray.mapM fun s=>`(Lean.Parser.Tactic.simpLemma| $(Lean.mkIdent s.toName):ident)
def vcT(s:String):Lean.MacroM Lean.Syntax:=do `(tactic| first|simp only[$(← vcL s),*]|dsimp only|skip)
local macro_rules | `(tactic| walk_at "vc")=>vcT (vcNames++" b0H b4I b5m b7p b5o b5l b5k b5n")
local macro_rules | `(tactic| walk_at "v1")=>vcT vcNames
local macro_rules | `(tactic| walk_at "sc")=>`(tactic| first | omega | (simp only[DivC,PowC,MulC,LIM,R62]; omega) | rfl | decide)
namespace My
theorem D3{c:En->Option Bool}{F G:SF}{env:En}{Q:Fl×En->Prop}(h:c env=some false)(g:Wo (G env) Q):Wo (a9 (kC c F lq) G env) Q:=by rw[Wo_seq,b0H,h,a0T];exact⟨λz=>(nomatch z),λ_=>by rw[b77];exact g⟩
theorem K3{c:En->Option Bool}{f:En->Option Sl}{G:SF}{env:En}{Q:Sl->Prop}(h:c env=some true)(g:Wo (f env) Q):Wo (a9 (kC c (bZ f) lq) G env) (dN Q):=by rw[Wo_seq,b0H,h,a0T];exact⟨λ_=>by rw[Wo_ret];exact g,λz=>(nomatch z)⟩
theorem Ih{c:En->Option Bool}{F G:SF}{env:En}{Q:Fl×En->Prop}(h:c env=some true)(g:Wo (F env) (qi G Q)):Wo (a9 (kC c F lq) G env) Q:=by rw[Wo_seq,b0H,h,a0T];exact⟨λ_=>g,λz=>(nomatch z)⟩
theorem aC{f:En->Option Sl}{g:En->Option (List D)}{env:En}{r:Sl}{ds:List D}(h:f env=some r)(h2:g env=some ds):ah f g env=some (r.d::ds):=by unfold ah;rw[h,h2];rfl
theorem nS{n:Nat}{φ:List D->Option Sl}{fa:En->Option (List D)}{env:En}{ds:List D}{s:Sl}(h:fa env=some ds)(hn:ds.length=n)(hp:φ ds=some s):dH n φ fa env=some s:=by unfold dH;rw[h];show (if ds.length=n then φ ds else none)=_;rw[if_pos hn,hp]
theorem sF{g:D->D->Option Sl}{fa fb:En->Option Sl}{env:En}{x y r:Sl}(ha:fa env=some x)(hb:fb env=some y)(h:g x.d y.d=some r):ae g fa fb env=some r:=by unfold ae;rw[ha,hb];exact h
theorem rh{i:Nat}{f:En->Option Sl}{G:SF}{env:En}{s:Sl}{Q:Fl×En->Prop}(h:f env=some s)(g:Wo (G (env.set i (.sh s.d))) Q)(hi:autoParam (Ks i env.length=true) ra2._auto_1):Wo (a9 (fD i f) G env) Q:=by rw[Wo_seq,Wo_setF,h,a0T];exact⟨CU hi,g⟩
theorem b9j{a b:Int}(h:MulC a b):lF (.int a) (.int b)=some (.sh (.int (a*b))):=Wo.eq (Wo_gMul.mpr ⟨h,rfl⟩)
theorem b8y{fa:En->Option (List D)}{env:En}{ds:List D}(h:fa env=some ds)(hl:autoParam (DV ds.length 16777216=true) ra2._auto_1):pf fa env=some (.sh (.tup ds)):=by unfold pf;rw[h];show (if ds.length<=16777216 then some (Sl.sh (D.tup ds)) else none)=_;rw[if_pos (CU hl)]
theorem X4{i:Nat}{f:En->Option Sl}{env:En}{s:Sl}{Q:Fl×En->Prop}(h:f env=some s)(g:Q (.nx,env.set i (.sh s.d)))(hi:autoParam (Ks i env.length=true) ra2._auto_1):Wo (fD i f env) Q:=by rw[Wo_setF,h,a0T];exact⟨CU hi,g⟩
theorem XC{i:Nat}{f:En->Option Sl}{env:En}{s:Sl}{ds:List D}{Q:Fl×En->Prop}(h:f env=some s)(e:env[i]?=some (.ow ds))(hl:ds.length<16777216)(g:Q (.nx,env.set i (.ow (ds++[s.d])))):Wo (jy i f env) Q:=by rw[b6w,e,b6v,h,a0T];exact⟨hl,g⟩
theorem b4V{c:En->Option Bool}{F:SF}{env:En}{Q:Fl×En->Prop}(h:c env=some false)(g:Q (.nx,env)):Wo (kC c F lq env) Q:=by rw[b0H,h,a0T];exact⟨λz=>(nomatch z),λ_=>by rw[b77];exact g⟩
theorem b9V{f g:En->Option Bool}{env:En}{p q:Prop}[Decidable p][Decidable q](h:f env=some (decide p))(k:g env=some (decide q)):oH f g env=some (decide (p/\q)):=by
 refine Wo.eq ?_;rw[b4H,h,a0T];by_cases hp:p;.rw [k];simp[hp,a0T]
 .simp [hp]
theorem Pa{f:En->Option Sl}{env:En}{b:Bool}(h:f env=some (.sh (.bl b))):iB f env=some b:=by refine Wo.eq ?_;rw[b4G,h,a0T];exact⟨_,rfl,rfl⟩
theorem ID{F G:SF}{env af:En}{Q:Fl×En->Prop}(h:F env=some (.nx,af))(g:Wo (G af) Q):Wo (a9 F G env) Q:=Wo_seq.mpr ⟨_,h,g⟩
theorem b9C{f:En->Option Sl}{g:GF}{F G:SF}{env:En}{s:Sl}{b:Bool}{ds:List D}{Q:Fl×En->Prop}(h:f env=some s)(e:lp s.d=some (b,ds))(k:Wo (forL g F ds env) (qi G Q)):Wo (a9 (z0 f g F) G env) Q:=Wo_seq.mpr (Wo_for.mpr ⟨_,h,_,e,k⟩)
theorem Nl{f:En->Option Sl}{env:En}{s:Sl}{Q:Sl->Prop}(h:f env=some s)(q:Q s):Wo (bZ f env) (dN Q):=Wo_ret.mpr ⟨s,h,q⟩
theorem WN{c:En->Option Bool}{f g:En->Option Sl}{env:En}{p:Prop}[Decidable p]{s:Sl}(h:c env=some (decide p))(ht:p->f env=some s)(hf:¬p->g env=some s):Fq c f g env=some s:=by
 unfold Fq;rw[h];by_cases hp:p;.rw [decide_eq_true hp];exact ht hp
 .rw [decide_eq_false hp];exact hf hp
theorem b7A{h:List D->Option (List D)}{f:En->Option (List D)}{g:GF}{F G:SF}{env:En}{ds is:List D}{Q:Fl×En->Prop}(e:f env=some ds)(k:h ds=some is)(q:Wo (forL g F is env) (qi G Q)):Wo (a9 (KY h f g F) G env) Q:=Wo_seq.mpr (Wo_forR.mpr ⟨_,e,_,k,q⟩)
noncomputable def Fu(m:Nat):List Nat:=(Nat.toDigits 10 m).map Char.toNat
theorem WL{m c:Nat}(h:c∈Fu m):48<=c/\c<=57:=by obtain⟨ch,yC,rfl⟩:=GN.mp h;have:=Nat.isDigit_of_mem_toDigits (by decide) (by decide) yC;simp only[Char.isDigit,jN,decide_eq_true_eq] at this;exact this
theorem Sy(m:Nat):(GP (toString (m:Int))).cps.toList=Fu m:=by unfold Fu;rw[Wa];unfold Str.ofStringByList;show (Nat.repr m).toList.map Char.toNat=_;rw[Nat.toList_repr]
theorem Sz(m:Nat):(GP (toString (-((m+1:Nat):Int)))).cps.toList=45::Fu (m+1):=by unfold Fu;rw[Wa];unfold Str.ofStringByList;show (("-" ++ Nat.repr (m+1)).toList).map Char.toNat=_;rw[String.toList_append,Nat.toList_repr];rfl
open PySem.Builtin.Str in
theorem X6(x:Str)(i j:Nat):(strSub x i j).cps.toList=(x.cps.toList.drop i).take (j-i):=by show (x.cps.extract i j).toList=_;rw[V3]
theorem NJ{x y:Str}(h:x.cps.toList=y.cps.toList):x=y:=by cases x;cases y;simp only[Str.mk.injEq];exact Rx.mp h
theorem XU(x y:Str):(x++y).cps.toList=x.cps.toList++y.cps.toList:=by show (x.cps++y.cps).toList=_;simp
theorem len_list(x:Str):x.length=x.cps.toList.length:=by simp[Str.length]
open PySem.Builtin.Str in
theorem XD{x y:Str}{i:Nat}:Mx x y x.length i↔i+y.length<=x.length/\(x.cps.toList.drop i).take y.length=y.cps.toList:=by unfold Mx subAt;refine and_congr_right λh=>?_;rw[beq_iff_eq,<-Rx,V3];simp
open PySem.Builtin.Str in
theorem part_of{a y b:Str}(hy:y.length≠0)(hc:∀c∈a.cps.toList,y.cps.toList[0]?≠some c):v7 (a++y++b) y=(a,y,b):=by
 have hl:(a++y++b).cps.toList=a.cps.toList++y.cps.toList++b.cps.toList:=by rw[XU,XU]
 have hlen:(a++y++b).length=a.length+y.length+b.length:=by rw[pJ,pJ]
 have here:Mx (a++y++b) y (a++y++b).length a.length:=by rw[XD,hl,hlen,len_list a];refine⟨by omega,?_⟩;rw[pG,List.drop_left,len_list y,List.take_left]
 have no:∀k,k<a.length->¬Mx (a++y++b) y (a++y++b).length k:=λk hk h=>by rw[XD,hl] at h;have h1:=congrArg (λl=>l[0]?) h.2;rw[VY (by omega),Rm,pG,KO (by rw[<-len_list];omega)] at h1;rw[len_list] at hk;rw[Nat.add_zero,v5 hk] at h1;exact hc _ (KN hk) h1.symm
 unfold v7;rcases StrLaws.occ_head (a++y++b) y 1 (fQ 1) with⟨h0,hn⟩|⟨i,r,h0,hi,hn⟩;.exact absurd here (hn _)
 .rw [h0];have hia:i=a.length:=by have h1:¬a.length<i:=λz=>hn _ z here;have h2:¬i<a.length:=λz=>no i z hi;omega
  subst hia;dsimp only;refine Prod.ext ?_ (Prod.ext rfl ?_);.refine NJ ?_;rw[X6,hl,pG,len_list];simp
  .refine NJ ?_;dsimp only;rw[X6,hl,hlen,len_list a,len_list y];rw[show a.cps.toList++y.cps.toList++b.cps.toList=(a.cps.toList++y.cps.toList)++b.cps.toList from rfl,<-mU,List.drop_left,len_list b];exact RC (by simp)
theorem Ds{c:Nat}{x:Str}{Q:Sl->Prop}:Wo (ie (.str ⟨#[c]⟩) (.str x)) Q↔Q (.sh (.bl (decide (c∈x.cps.toList)))):=by unfold ie;rw[a0T,PySem.StrLaws.found_one]
theorem C1(c k s:Int)(hk:0<=k/\k<=1000)(hs:0<s/\s<=10^45):∃m:Int,nk [.int c,.int k,.int s]=some (.sh (.int m))/\0<=m/\m<s:=by
 have key:Wo (nk [.int c,.int k,.int s]) λx=>∃m:Int,x=.sh (.int m)/\0<=m/\m<s:=by
  refine wG.mpr ?_;unfold To;have a1:=Int.emod_nonneg c (show (10^60:Int)≠0 by decide);have a2:=Int.emod_lt_of_pos c (show (0:Int)<10^60 by decide);have k1:0<=k*k:=Int.mul_nonneg hk.1 hk.1;have k2:k*k<=1000*1000:=Int.mul_le_mul hk.2 hk.2 hk.1 (by decide);have k3:2*k*k=2*(k*k):=Int.mul_assoc ..;walk_at "vc";have o1:0<=271828182845904523536028747135266249775724709369995+2*k*k:=by omega
  have o2:271828182845904523536028747135266249775724709369995+2*k*k<=10^52:=by omega
  generalize 271828182845904523536028747135266249775724709369995+2*k*k=o at *;generalize c%10^60=u at *;have p1:0<=(u+1)*o:=Int.mul_nonneg (by omega) o1;have p2:(u+1)*o<=10^60*10^52:=Int.mul_le_mul (by omega) o2 o1 (by decide);generalize (u+1)*o=p at *;generalize (p+7907*k)*(p+7907*k)%(10^60+7)/11=w at *;exact⟨.inl (by decide),.inl (by omega),by walk_at "sc",by decide,XQ (by omega) (by omega) (by omega) (by omega),.inl (by decide),XQ (by omega) (by omega) (by omega) (by omega),by walk_at "sc",by decide,b7X (by decide) (by decide),hs.1,_,rfl,Int.emod_nonneg _ (by omega),Int.emod_lt_of_pos _ hs.1⟩
 obtain⟨x,e,m,rfl,h⟩:=key;exact⟨m,e,h⟩
theorem XY{α:Type}{c:α}:∀{u v a b:List α},c∉u->c∉v->u++c::a=v++c::b->u=v/\a=b
 |[],[],_,_,_,_,e=>⟨rfl,(MB e).2⟩
 |[],y::v,_,_,_,h,e=>absurd ((MB e).1▸nA) h
 |x::u,[],_,_,h,_,e=>absurd ((MB e).1▸nA) h
 |x::u,y::v,a,b,h,k,e=>by obtain⟨e1,e2⟩:=MB e;obtain⟨h1,h2⟩:=XY (λz=>h (mZ _ z)) (λz=>k (mZ _ z)) e2;exact⟨by rw[e1,h1],h2⟩
theorem NS{c:Nat}{w v:Str}{r:List Str}:(nP ⟨#[c]⟩ (w::v::r)).cps.toList=w.cps.toList++c::(nP ⟨#[c]⟩ (v::r)).cps.toList:=by show ((w.cps++#[c])++(nP ⟨#[c]⟩ (v::r)).cps).toList=_;simp
theorem Yd{c:Nat}:∀{ws vs:List Str},ws≠[]->vs≠[]->(∀w∈ws,c∉w.cps.toList)->(∀w∈vs,c∉w.cps.toList)->nP ⟨#[c]⟩ ws=nP ⟨#[c]⟩ vs->ws=vs
 |[],_,h,_,_,_,_=>absurd rfl h
 |_,[],_,h,_,_,_=>absurd rfl h
 |[w],[v],_,_,_,_,e=>by have e:w=v:=e;rw[e]
 |[w],v::u::r,_,_,h,_,e=>by have e:=congrArg (λs:Str=>s.cps.toList) e;rw[NS] at e;exact absurd (show c∈w.cps.toList from by rw[show w.cps.toList=_ from e];simp) (h w nA)
 |w::u::r,[v],_,_,_,h,e=>by have e:=congrArg (λs:Str=>s.cps.toList) e;rw[NS] at e;exact absurd (show c∈v.cps.toList from by rw[show v.cps.toList=_ from e.symm];simp) (h v nA)
 |w::u::r,v::x::s,_,_,h,k,e=>by have e:=congrArg (λs:Str=>s.cps.toList) e;rw[NS,NS] at e;obtain⟨e1,e2⟩:=XY (h w nA) (k v nA) e;have:=Yd (ws:=u::r) (vs:=x::s) (λz=>nomatch z) (λz=>nomatch z) (λy hy=>h y (mZ _ hy)) (λy hy=>k y (mZ _ hy)) (NJ e2);rw[this,NJ e1]
theorem b4T{x:Str}{c:Nat}(h:pH x ⟨#[c]⟩=[]):False:=by
 unfold pH at h;split at h;.cases h
 .split at h;.cases h
  .unfold Builtin.Str.partsBetween at h;have:=congrArg GX h;simp at this
theorem b2p{c:Nat}{ws:List Str}(h:ws≠[])(hw:∀w∈ws,c∉w.cps.toList):pH (nP ⟨#[c]⟩ ws) ⟨#[c]⟩=ws:=
 (Yd h b4T hw (λw hw=>StrLaws.split_free _ _ w hw) (StrLaws.join_split _ _).symm).symm
theorem Eg{z:Str}{ws:List Str}:dX z ws=z.join ws:=by
 unfold dX;split;.rfl
 .exact StrLaws.glued_eq_join _ _
local macro_rules | `(tactic| walk_at "o1")=>vcT (vcNames++" b8g b5M b9Z b8f b2k")
noncomputable def Pr(q:Int×Int):D:=.tup [.int q.1,.int q.2]
def Sh(n:Int):Prop:=-(10^50)<=n/\n<=10^50
theorem XO(rs:List (Int×Int))(hl:rs.length<=60):Wo (nQ (o9 (eV 1)) [] 2 (gT 2 (BO (gN 0) (BO (gN 1) G8))) sE (pf (ah (eV 0) (ah (eV 1) ag))) [.no,.sh (.lst false (rs.map Pr))]) λr=>r=.ow (rs.map Pr):=by
 walk_at "v1";refine⟨by rw[kN];omega,_,DL.comp_map Pr Pr (λe=>e.length=2) rs (λa ha e he=>?_) rfl,rfl⟩
 obtain⟨y0,y1,rfl⟩:∃y0 y1,e=[y0,y1]:=by
  match e,he with
  |[a,b],_=>exact⟨a,b,rfl⟩
 unfold Pr;walk_at "v1"
theorem XI{f:Str}{fe:En->Option Sl}{r:Sl}{env:En}(h:fe env=some r):dB f fe iD env [] []=some ([f],[r.d]):=by unfold dB;rw[h];rfl
theorem Yg(rs:List (Int×Int))(hl:rs.length<=60):Bo [.lst false (rs.map Pr)]=some [.lst false (rs.map Pr)]:=by unfold Bo eZ;rw[show (Sl.no::jQ (2-1) [.lst false (rs.map Pr)])=[.no,.sh (.lst false (rs.map Pr))] from rfl,XI (Wo.eq (XO rs hl))];kernel_rfl
theorem Yh(rs:List (Int×Int))(hl:rs.length<=60):Bp [.lst false (rs.map Pr)]=some [.lst false (rs.map Pr)]:=by unfold Bp eZ;rw[show (Sl.no::jQ (2-1) [.lst false (rs.map Pr)])=[.no,.sh (.lst false (rs.map Pr))] from rfl,XI (Wo.eq (XO rs hl))];kernel_rfl
noncomputable def nt(n:Int):Str:=GP (toString n)
noncomputable def lt(s:Str):List Nat:=s.cps.toList
theorem Hd(a b:Str):lt (a++b)=lt a++lt b:=by show (a.cps++b.cps).toList=_;simp[lt]
theorem D9(a:Str):a.length=(lt a).length:=by show a.cps.size=_;simp[lt]
theorem wy{a b:Str}(h:lt a=lt b):a=b:=by obtain⟨x⟩:=a;obtain⟨y⟩:=b;congr 1;exact Rx.mp h
theorem Ta(sep:Str):∀(r:List Str) (a x:Array Nat),(r.foldl (λacc p=>acc++sep.cps++p.cps) (a++x)).toList=a.toList++(r.foldl (λacc p=>acc++sep.cps++p.cps) x).toList
 |[],a,x=>by simp
 |p::r,a,x=>by rw[FD,FD,show a++x++sep.cps++p.cps=a++(x++sep.cps++p.cps) by simp[MS]];exact Ta sep r a _
theorem zE(sep a:Str):dX sep [a]=a:=rfl
theorem FT(sep a b:Str)(r:List Str):lt (dX sep (a::b::r))=lt a++(lt sep++lt (dX sep (b::r))):=by
 have key:∀r:List Str,lt (dX sep (b::r))=(r.foldl (λacc p=>acc++sep.cps++p.cps) b.cps).toList:=λr=>by
  cases r with
  |nil=>rfl
  |cons c r=>rfl
 rw[key];show ((b::r).foldl (λacc p=>acc++sep.cps++p.cps) a.cps).toList=_;rw[FD,MS,Ta,Ta];rfl
theorem Su(sep:Str):∀(ls:List Str) (a:Nat),ls.foldl (λa x=>a+x.length+sep.length) a=a+oJ sep ls
 |[],a=>rfl
 |x::r,a=>by unfold oJ;rw[FD,FD,Su,Su];omega
theorem jI(sep x:Str)(r:List Str):oJ sep (x::r)=x.length+sep.length+oJ sep r:=by unfold oJ;rw[FD,Su];unfold oJ;omega
theorem ng(sep:Str):∀ls:List Str,(dX sep ls).length<=oJ sep ls
 |[]=>MH rfl
 |[a]=>by rw[zE,jI];omega
 |a::b::r=>by have:=ng sep (b::r);rw[D9,FT,mU,mU,<-D9,<-D9,<-D9,jI];omega
theorem Nx{m k:Nat}(hk:0<k)(h:m<10^k):(Fu m).length<=k:=by unfold Fu;rw[kN];exact(Nat.length_toDigits_le_iff (by decide) hk).mpr h
theorem jP{n:Int}(h:Sh n):(nt n).length<=60:=by
 unfold nt Sh at *
 cases n with
 |ofNat m => rw[show (Mv m)=(m:Int) from rfl,D9];unfold lt;rw[Sy];have h1:=Nx (m:=m) (k:=51) (by decide) (by have:=h.2;rw[show Mv m=(m:Int) from rfl] at this;omega);omega
 |negSucc m => rw[show MI m = -((m+1:Nat):Int) from rfl,D9];unfold lt;rw[Sz,jj];have h1:=Nx (m:=m+1) (k:=51) (by decide) (by have:=h.1;rw[show MI m = -((m+1:Nat):Int) from rfl] at this;omega);omega
theorem Nh{n:Int}(h:Sh n):n.natAbs.log2<1920:=by
 unfold Sh at h;by_cases z:n.natAbs=0;.rw [z];decide
 .have h2:n.natAbs<2^200:=by omega
  have:=(Q0 z).mpr h2;omega
theorem sD{n:Int}(h:Sh n):rO (.int n)=some (nt n):=by show (if n.natAbs.log2<1920 then some (GP (toString n)) else none)=_;rw[if_pos (Nh h)];rfl
noncomputable def Rt(q:Int×Int):Str:=nt q.1 ++ ":" ++ nt q.2
theorem LL:("each":Str).length<=9/\(" ":Str).length<=9/\("from":Str).length<=9/\("to":Str).length<=9/\(" from ":Str).length<=9/\(" to ":Str).length<=9/\("flat":Str).length<=9/\("bands":Str).length<=9/\("steps":Str).length<=9/\("blocks":Str).length<=9/\("blocks ":Str).length<=9/\("at":Str).length<=9/\(" at ":Str).length<=9/\("times":Str).length<=9/\(" times ":Str).length<=9/\("(":Str).length<=9/\(")":Str).length<=9/\("( ":Str).length<=9/\(" )":Str).length<=9/\("plus":Str).length<=9/\("or":Str).length<=9/\("max":Str).length<=9/\("only":Str).length<=9/\("only ":Str).length<=9/\("after":Str).length<=9/\("fee":Str).length<=9/\("roomy":Str).length<=9/\(":":Str).length<=9:=by decide +kernel
theorem Sn{q:Int×Int}(h:Sh q.1/\Sh q.2):(Rt q).length<=130:=by have h1:=jP h.1;have h2:=jP h.2;have:=LL;unfold Rt;rw[pJ,pJ];omega
theorem BZ:∀{rs:List (Int×Int)},(∀q∈rs,Sh q.1/\Sh q.2)->oJ " " (rs.map Rt)<=140*rs.length
 |[],_=>by decide +kernel
 |q::rs,h=>by have h1:=BZ (rs:=rs) λq hq=>h q (mZ _ hq);have h2:=Sn (h q nA);have:=LL;rw[jM,jI,jj];omega
theorem strs_map:∀ts:List Str,FU (ts.map D.str)=some ts
 |[]=>rfl
 |t::ts=>by show (FU (ts.map D.str)).map (t::·)=_;rw[strs_map ts];rfl
theorem RW{fo:En->Option Sl}{fe:En->Option (Bool×List D)}{env:En}{Q:Sl->Prop}{z:Str}{ts:List Str}(h1:fo env=some (.sh (.str z)))(h2:fe env=some (true,ts.map D.str))(hl:oJ z ts<=16777216)(hq:Q (.sh (.str (dX z ts)))):Wo (qz fo fe env) Q:=by rw[b90,h1,h2];refine⟨z,rfl,_,rfl,rfl,ts,strs_map ts,⟨hl,iV (ng _ _) hl⟩,hq⟩
theorem b4r(ds:List D)(ts:List Str)(h:ds.map rO=ts.map some):pU (gN 0) sE (D0 (eV 0)) ds [Sl.no]=some (ts.map D.str):=by
 have key:∀(ds:List D) (ts:List Str),ds.map rO=ts.map some->∀x,pU (gN 0) sE (D0 (eV 0)) ds [x]=some (ts.map D.str):=by
  intro ds
  induction ds with
  |nil =>
   intro ts h x
   cases ts with
   |nil=>rfl
   |cons t ts=>cases h
  |cons d ds ih =>
   intro ts h x
   cases ts with
   |nil=>cases h
   |cons t ts => rw[jM,jM,List.cons.injEq] at h;refine Wo.eq (Wo_compC.mpr ?_);rw[b9X];refine⟨by simp,true,rfl,λ_=>?_,λz=>(nomatch z)⟩;rw[b2k];exact⟨_,rfl,t,h.1,_,ih ts h.2 _,rfl⟩
 exact key ds ts h _
theorem sI(ds:List D)(ts:List Str){r:Bool}(h:ds.map rO=ts.map some)(hn:ds.length<=1000)(hl:oJ " " ts<=16777216):wF [.lst r ds]=some (.sh (.str (dX " " ts))):=by
 refine Wo.eq (Bv.mpr ?_);unfold Ti;rw[Wo_ret];refine RW (z:=" ") (ts:=ts) rfl ?_ hl rfl;unfold nC;rw[show nQ (o9 (eV 0)) [] 1 (gN 0) sE (D0 (eV 0)) [.sh (.lst r ds)]=some (.ow (ts.map D.str)) from ?_];.rfl
 .show (if ds.length<=16777216 then (pU (gN 0) sE (D0 (eV 0)) ds [Sl.no]).map Sl.ow else none)=_;rw[if_pos (by omega),b4r ds ts h];rfl
theorem sS(y:Str):rO (.str y)=some y:=rfl
theorem b1h(a:D):eA Hi "rows" (.obj "Bands" pO [a])=some a:=by kernel_rfl
theorem b1g(a:D):eA Hi "rows" (.obj "Steps" pP [a])=some a:=by kernel_rfl
theorem VB{f:En->Option Sl}{env:En}{i:Int}(h:f env=some (.sh (.int i)))(hz:Sh i):jF f env=some (.sh (.str (nt i))):=by unfold jF;rw[h];show (if i.natAbs.log2<1920 then some (Sl.sh (.str (GP (toString i)))) else none)=_;rw[if_pos (Nh hz)];rfl
theorem b8V{q:Int×Int}(h:Sh q.1/\Sh q.2):rg (jc (jF (eV 0)) (jc (eC (.str ":")) (jc (jF (eV 1)) lu))) [.sh (.int q.1),.sh (.int q.2)]=some (.sh (.str (Rt q))):=by
 have h1:jF (eV 0) [.sh (.int q.1),.sh (.int q.2)]=some (.sh (.str (nt q.1))):=VB rfl h.1;have h2:jF (eV 1) [.sh (.int q.1),.sh (.int q.2)]=some (.sh (.str (nt q.2))):=VB rfl h.2;have e:jc (jF (eV 0)) (jc (eC (.str ":")) (jc (jF (eV 1)) lu)) [.sh (.int q.1),.sh (.int q.2)]=some (Rt q):=by unfold jc;rw[h1,h2];show some (nt q.1++(":" ++ (nt q.2++ra)))=_;rw[show nt q.1++(":" ++ (nt q.2++ra))=Rt q from wy (by unfold Rt;simp only[Hd,show lt ra=[] from rfl,qJ,pG])]
 unfold rg;rw[e];show (if (Rt q).length<=16777216 then some (Sl.sh (.str (Rt q))) else none)=_;rw[if_pos (by have:=Sn h;omega)]
theorem Ny(rs:List (Int×Int))(hr:rs.length<=60/\∀q∈rs,Sh q.1/\Sh q.2)(o:D)(hf:eA Hi "rows" o=some (.lst false (rs.map Pr))):B9 [o]=some (.sh (.str (dX " " (rs.map Rt)))):=by
 refine Wo.eq (jo.mpr ?_);unfold UB;rw[Wo_ret];walk_at "o1";rw[hf];walk_at "o1";refine⟨by rw[kN];omega,_,DL.comp_map Pr (λq=>.str (Rt q)) (λe=>e.length=2) rs (λa ha e he=>?_) rfl,?_⟩
 .obtain ⟨y0,y1,rfl⟩:∃y0 y1,e=[y0,y1]:=by
   match e,he with
   |[a,b],_=>exact⟨a,b,rfl⟩
  unfold Pr;walk_at "v1";exact⟨_,b8V (hr.2 a ha),rfl⟩
 .refine (show Wo (wF [.lst false (rs.map λq=>.str (Rt q))]) _ from ?_);rw[sI (rs.map λq=>.str (Rt q)) (rs.map Rt) (by rw[CQ,CQ];rfl) (by rw[kN];omega) (by have:=BZ hr.2;omega)];walk_at "o1"
theorem b6D(rs:List (Int×Int))(n:Nat)(hr:rs.length<=60/\∀q∈rs,Sh q.1/\Sh q.2):gn "written" 1 (c9 (n+1)) (.obj "Bands" pO [.lst false (rs.map Pr)]) []=some (.sh (.str (dX " " ["bands",dX " " (rs.map Rt)]))):=by have l0:oJ " " []=0:=rfl;rw[show gn "written" 1 (c9 (n+1)) (.obj "Bands" pO [.lst false (rs.map Pr)]) []=Gi (c9 n) [.obj "Bands" pO [.lst false (rs.map Pr)]] from by kernel_rfl];refine Wo.eq (iy.mpr ?_);unfold N4;rw[Wo_ret];walk_at "o1";rw[show gn "written_rows" 1 Ek (.obj "Bands" pO [.lst false (rs.map Pr)]) []=B9 [.obj "Bands" pO [.lst false (rs.map Pr)]] from by kernel_rfl,Ny rs hr _ (b1h _)];walk_at "o1";rw[sI _ ["bands",dX " " (rs.map Rt)] (by simp only[jM,sx,sS]) (by simp) (by have:=LL;have h1:=BZ hr.2;have h2:=hr.1;have h3:=ng " " (rs.map Rt);simp only[jI,l0];omega)];walk_at "o1";try rfl
theorem b6C(rs:List (Int×Int))(n:Nat)(hr:rs.length<=60/\∀q∈rs,Sh q.1/\Sh q.2):gn "written" 1 (c9 (n+1)) (.obj "Steps" pP [.lst false (rs.map Pr)]) []=some (.sh (.str (dX " " ["steps",dX " " (rs.map Rt)]))):=by have l0:oJ " " []=0:=rfl;rw[show gn "written" 1 (c9 (n+1)) (.obj "Steps" pP [.lst false (rs.map Pr)]) []=Gj (c9 n) [.obj "Steps" pP [.lst false (rs.map Pr)]] from by kernel_rfl];refine Wo.eq (iw.mpr ?_);unfold N5;rw[Wo_ret];walk_at "o1";rw[show gn "written_rows" 1 Ek (.obj "Steps" pP [.lst false (rs.map Pr)]) []=B9 [.obj "Steps" pP [.lst false (rs.map Pr)]] from by kernel_rfl,Ny rs hr _ (b1g _)];walk_at "o1";rw[sI _ ["steps",dX " " (rs.map Rt)] (by simp only[jM,sx,sS]) (by simp) (by have:=LL;have h1:=BZ hr.2;have h2:=hr.1;have h3:=ng " " (rs.map Rt);simp only[jI,l0];omega)];walk_at "o1";try rfl
theorem XT{f:Str}{fe:En->Option Sl}{F:IF}{env:En}{r:Sl}{ns:List Str}{ds:List D}(h:fe env=some r)(hf:¬(f∈ns\/900<ns.length)):dB f fe F env ns ds=F env (ns++[f]) (ds++[r.d]):=by unfold dB;rw[h];show (if f∈ns\/900<ns.length then none else F env (ns++[f]) (ds++[r.d]))=_;rw[if_neg hf]
noncomputable abbrev sp:Str:=" "
theorem Iz:sp=⟨#[32]⟩:=by kernel_rfl
theorem WJ{t:Str}{ws:List Str}(hs:pH t sp=ws)(h1:t.length<=16777216)(h2:ws.length<=16777216):sL [.str t]=some [.lst false (ws.map D.str),.int 0]:=by
 have e:M9 (eV 1) (eC (.str " ")) [.no,.sh (.str t)]=some (.ow (ws.map D.str)):=by show (if ((" ":Str).length==0)=false/\t.length<=16777216/\(pH t sp).length<=16777216 then some (Sl.ow ((pH t sp).map D.str)) else none)=_;rw[hs,if_pos ⟨by decide +kernel,h1,h2⟩]
 show eZ _ 2 _ _=_;unfold eZ;rw[show (Sl.no::jQ (2-1) [.str t])=[.no,.sh (.str t)] from rfl,XT e (by decide +kernel),XT (r:=.sh (.int 0)) rfl (by decide +kernel)];kernel_rfl
noncomputable abbrev wO(ds:List D):D:=.obj "Words" aa ds
theorem at_end{W:List D}{p:Int}:gn "at_end" 1 Dl (wO [.lst false W,.int p]) []=some (.sh (.bl (decide (p=W.length)))):=by refine Eq.trans (b:=OE [wO [.lst false W,.int p]]) (by kernel_rfl) ?_;kernel_rfl
noncomputable abbrev oY(t:Str):En:=[.sh (.str t),.no,.no]
theorem Sj{t:Str}{ds ds':List D}{r:D}(h:iK 23 [.int 0] ds=some (r,ds')):ed 2 (bY 1 (iK 23) (bH (bR (eC (.int 0))) aN)) (oY t) ds=some (.nx,[.sh (.str t),.no,.sh r],ds'):=by show ((iK 23 [.int 0] ds).bind λx=>if 2<3 then some (Fl.nx,(oY t).set 2 (.sh x.1),x.2) else none)=_;rw[h];rfl
theorem b6R{t:Str}{ds:List D}(h:iK 23 [.int 0] ds=none):ed 2 (bY 1 (iK 23) (bH (bR (eC (.int 0))) aN)) (oY t) ds=none:=by show ((iK 23 [.int 0] ds).bind λx=>if 2<3 then some (Fl.nx,(oY t).set 2 (.sh x.1),x.2) else none)=_;rw[h];rfl
noncomputable abbrev FX:En->Option Bool:=nR (iB (jk "at_end" 1 Dl (eV 1) ag))
theorem FW{t:Str}{r:D}{W:List D}{p:Int}:FX ([.sh (.str t),.sh (wO [.lst false W,.int p]),.sh r])=some (!decide (p=W.length)):=by have e:jk "at_end" 1 Dl (eV 1) ag [.sh (.str t),.sh (wO [.lst false W,.int p]),.sh r]=some (.sh (.bl (decide (p=W.length)))):=at_end;show ((iB (jk "at_end" 1 Dl (eV 1) ag) _).map _)=_;unfold iB;rw[e];cases decide (p=W.length)<;>rfl
section
variable {t:Str}{W W':List D}{r:D}{p:Int}(hp:sL [.str t]=some [.lst false W,.int 0])
include hp
theorem SK{G:GS}:Lc 1 1 sL (ah (eV 0) ag) G (oY t)=match G (oY t) [.lst false W,.int 0] with|some (.rt r,af,_)=>some (.rt (.sh r.d),af)|_=>none:=by show ((sL [.str t]).bind λds=>match G (oY t) ds with|some (.rt r,af,_)=>some (Fl.rt (.sh r.d),af)|_=>none)=_;rw[hp];rfl
theorem XA{R:GR}:Lb 1 1 sL (ah (eV 0) ag) R (oY t)=R (oY t) [.lst false W,.int 0]:=by show ((sL [.str t]).bind λds=>R (oY t) ds)=_;rw[hp];rfl
theorem S1(h:iK 23 [.int 0] [.lst false W,.int 0]=some (r,[.lst false W',.int p]))(hn:p=W'.length):Br [.str t]=some (.sh r):=by
 have e:B2 (oY t)=some (.rt (.sh r),[.sh (.str t),.no,.sh r]):=by unfold B2;rw[SK hp];unfold cR;rw[Sj h];show (match cR (aY "Words" aa 1 FX jH bq) (fN (bR (eV 2))) [.sh (.str t),.no,.sh r] [.lst false W',.int p] with | some (.rt r,af,_)=>some (Fl.rt (.sh r.d),af) | _=>none)=_;unfold cR aY;show (match (match (match FX [.sh (.str t),.sh (wO [.lst false W',.int p]),.sh r] with | some true=>jH [.sh (.str t),.no,.sh r] [.lst false W',.int p] | some false=>bq [.sh (.str t),.no,.sh r] [.lst false W',.int p] | none=>none) with | some (.nx,env1,br)=>fN (bR (eV 2)) env1 br | some (.bk,env1,br)=>some (.bk,env1,br) | some (.ct,env1,br)=>some (.ct,env1,br) | some (.rt r,env1,br)=>some (.rt r,env1,br) | none=>none) with | some (.rt r,af,_)=>some (Fl.rt (.sh r.d),af) | _=>none)=_;rw[FW,decide_eq_true hn];rfl
 show (match B2 (oY t) with|some (.rt r,_)=>some r|some (.nx,_)=>some (.sh .dO)|_=>none)=_;rw[e]
end
section
variable {t:Str}{W W':List D}{r:D}{p:Int}(hp:sL [.str t]=some [.lst false W,.int 0])
include hp
theorem IK{nm:Option Str}(h:pZ 23 [.int 0] [.lst false W,.int 0]=nm):fP 1 (pZ 23) (bH (bR (eC (.int 0))) aN) (oY t) [.lst false W,.int 0]=nm:=h
theorem Sk(h:iK 23 [.int 0] [.lst false W,.int 0]=none){nm:Str}(hx:pZ 23 [.int 0] [.lst false W,.int 0]=some nm):Br [.str t]=none/\Em [.str t]=some nm:=by
 constructor
 .have e:B2 (oY t)=none:=by unfold B2;rw[SK hp];unfold cR;rw[b6R h]
  show (match B2 (oY t) with|some (.rt r,_)=>some r|some (.nx,_)=>some (.sh .dO)|_=>none)=_;rw[e]
 .show Lr (oY t)=_;unfold Lr;rw[XA hp];unfold dF;rw[IK hp hx]
theorem W5(h:iK 23 [.int 0] [.lst false W,.int 0]=some (r,[.lst false W',.int p]))(hn:p≠W'.length)(hx:pZ 23 [.int 0] [.lst false W,.int 0]=none):Br [.str t]=none/\Em [.str t]=some ("BadRule":Str):=by
 constructor
 .have e:B2 (oY t)=none:=by unfold B2;rw[SK hp];unfold cR;rw[Sj h];show (match cR (aY "Words" aa 1 FX jH bq) (fN (bR (eV 2))) [.sh (.str t),.no,.sh r] [.lst false W',.int p] with | some (.rt r,af,_)=>some (Fl.rt (.sh r.d),af) | _=>none)=_;unfold cR aY;show (match (match (match FX [.sh (.str t),.sh (wO [.lst false W',.int p]),.sh r] with | some true=>jH [.sh (.str t),.no,.sh r] [.lst false W',.int p] | some false=>bq [.sh (.str t),.no,.sh r] [.lst false W',.int p] | none=>none) with | some (.nx,env1,br)=>fN (bR (eV 2)) env1 br | some (.bk,env1,br)=>some (.bk,env1,br) | some (.ct,env1,br)=>some (.ct,env1,br) | some (.rt r,env1,br)=>some (.rt r,env1,br) | none=>none) with | some (.rt r,af,_)=>some (Fl.rt (.sh r.d),af) | _=>none)=_;rw[FW,decide_eq_false hn];rfl
  show (match B2 (oY t) with|some (.rt r,_)=>some r|some (.nx,_)=>some (.sh .dO)|_=>none)=_;rw[e]
 .show Lr (oY t)=_;unfold Lr;rw[XA hp];unfold dF;rw[IK hp hx,Sj h];show (match dJ "Words" aa 1 FX _ b9 [.sh (.str t),.no,.sh r] [.lst false W',.int p] with | some x=>some x | none=>_)=_;unfold dJ;rw[show FX (List.set [.sh (.str t),.no,.sh r] 1 (.sh (.obj "Words" aa [.lst false W',.int p])))=some true from by refine(FW (t:=t) (r:=r) (W:=W') (p:=p)).trans ?_;rw[decide_eq_false hn];rfl];rfl
end
noncomputable abbrev lY:List D:=[.bl true,.bl true,.bl true]
theorem b8z{i:Nat}{hit:Str->Bool}{Fb Fh:SF}{rb:RF}{E E':En}{fl:Fl}(h:Fb E=some (fl,E')):qj i hit Fb rb Fh E=some (fl,E'):=by unfold qj;rw[h]
theorem Ic{i:Nat}{hit:Str->Bool}{Fb Fh:SF}{rb:RF}{E E1 E2:En}{fl:Fl}{nm:Str}(h:Fb E=none)(hr:rb E=some (nm,E1))(hh:hit nm=true)(hi:i<E1.length)(h2:Fh (E1.set i (.sh (.exc nm)))=some (fl,E2)):qj i hit Fb rb Fh E=some (fl,E2.set i .no):=by unfold qj;rw[h,hr];dsimp only;rw[if_pos ⟨hh,hi⟩,h2]
noncomputable abbrev LY(t:Str):En:=[.sh (.str t),.sh (.lst false []),.no]
noncomputable abbrev UU:SF:=fD 1 (bh (ah (jk "written" 1 (c9 24) (dH 1 Br (ah (eV 0) ag)) ag) ag))
noncomputable abbrev tlR:RF:=rE (BQ 1 Em (ah (eV 0) ag))
theorem K'{t:Str}(h:Br [.str t]=none)(hx:Em [.str t]=some ("BadRule":Str)):jm [.str t]=some (.sh (.lst false lY)):=by
 have e:UU (LY t)=none:=by show ((((Br [.str t]).bind λr=>gn "written" 1 (c9 24) r.d []).bind λr=>(some []).bind λrs=>some (r.d::rs)).bind λds=>if ds.length<=16777216 then some (Sl.ow ds) else none).bind _=_;rw[h];rfl
 have e2:tlR (LY t)=some (("BadRule":Str),LY t):=by show (Em [.str t]).map _=_;rw[hx];rfl
 refine Wo.eq (nr.mpr ?_);unfold NX;refine rh rfl ?_;exact ID (Ic (fl:=.nx) (E2:=[.sh (.str t),.sh (.lst false lY),.sh (.exc "BadRule")]) e e2 (by kernel_rfl) (show 2<3 by decide) (by kernel_rfl)) (Wo_ret.mpr ⟨_,rfl,rfl⟩)
theorem SD{t u:Str}{r:D}(h:Br [.str t]=some (.sh r))(hw:gn "written" 1 (c9 24) r []=some (.sh (.str u))):jm [.str t]=some (.sh (.lst false [.str u])):=by
 have e:UU (LY t)=some (.nx,[.sh (.str t),.sh (.lst false [.str u]),.no]):=by show ((((Br [.str t]).bind λr=>gn "written" 1 (c9 24) r.d []).bind λr=>(some []).bind λrs=>some (r.d::rs)).bind λds=>if ds.length<=16777216 then some (Sl.ow ds) else none).bind _=_;rw[h];show (((gn "written" 1 (c9 24) r []).bind λr=>(some []).bind λrs=>some (r.d::rs)).bind λds=>if ds.length<=16777216 then some (Sl.ow ds) else none).bind _=_;rw[hw];rfl
 refine Wo.eq (nr.mpr ?_);unfold NX;exact rh rfl (ID (b8z e) (Wo_ret.mpr ⟨_,rfl,rfl⟩))
noncomputable abbrev pR(ws:List Str):Option (D×List D):=iK 23 [.int 0] [.lst false (ws.map D.str),.int 0]
noncomputable abbrev xR(ws:List Str):Option Str:=pZ 23 [.int 0] [.lst false (ws.map D.str),.int 0]
noncomputable def cT(ws:List Str):Bool:=match pR ws with
 | none=>decide (xR ws=some ("BadRule":Str))
 |some (_,[.lst false W,.int p])=>!decide (p=W.length)&&decide (xR ws=none)
 |_=>false
noncomputable def cS(t:Str)(ws:List Str):Bool:=match pR ws with
 | some (r,[.lst false W,.int p])=>decide (p=W.length)&&(match gn "written" 1 (c9 24) r [] with
  |some (.sh (.str u))=>decide (u=t)
  |_=>false)
 |_=>false
structure Ep(ws:List Str):Prop where
 ne:ws≠[]
 fr:∀w∈ws,32∉w.cps.toList
 l1:(nP sp ws).length<=16777216
 l2:ws.length<=16777216
theorem Ep.IW{ws:List Str}(h:Ep ws):sL [.str (nP sp ws)]=some [.lst false (ws.map D.str),.int 0]:=
 WJ (by rw[Iz];exact b2p h.ne h.fr) h.l1 h.l2
theorem Ko{t:Str}{ws:List Str}(w:sL [.str t]=some [.lst false (ws.map D.str),.int 0])(h:cT ws=true):jm [.str t]=some (.sh (.lst false lY)):=by
 unfold cT at h;split at h;.rename_i e;obtain⟨k1,k2⟩:=Sk w e (of_decide_eq_true h);exact K' k1 k2
 .rename_i r W p e;rw[jN] at h;obtain⟨h1,h2⟩:=h;obtain⟨k1,k2⟩:=W5 w e (by simpa using h1) (of_decide_eq_true h2);exact K' k1 k2
 .cases h
theorem Kr{t:Str}{ws:List Str}(w:sL [.str t]=some [.lst false (ws.map D.str),.int 0])(h:cS t ws=true):jm [.str t]=some (.sh (.lst false [.str t])):=by
 unfold cS at h;split at h
 .rename_i r W p e;rw[jN] at h;obtain⟨h1,h2⟩:=h;split at h2;.rename_i u hu;have:=SD (S1 w e (of_decide_eq_true h1)) hu;rw[of_decide_eq_true h2] at this;exact this
  .cases h2
 .cases h
noncomputable def tB(t:Str):Bool:=decide (t.length<=16777216)&&decide ((pH t sp).length<=16777216)
theorem Xc{t:Str}(h:tB t=true):sL [.str t]=some [.lst false ((pH t sp).map D.str),.int 0]:=by unfold tB at h;rw[jN] at h;exact WJ rfl (of_decide_eq_true h.1) (of_decide_eq_true h.2)
noncomputable def tT(t:Str):Bool:=tB t&&cT (pH t sp)
noncomputable def tS(t:Str):Bool:=tB t&&cS t (pH t sp)
theorem WG{t:Str}(h:tT t=true):jm [.str t]=some (.sh (.lst false lY)):=by unfold tT at h;rw[jN] at h;exact Ko (Xc h.1) h.2
theorem Ij{t:Str}(h:tS t=true):jm [.str t]=some (.sh (.lst false [.str t])):=by unfold tS at h;rw[jN] at h;exact Kr (Xc h.1) h.2
section
variable {F G:GS}{r r':GR}{env env1:En}{ds br:List D}{s:Sl}{x:Str}{c:Str}{ns:List Str}{j N:Nat}{as:List D}{ga:En->Option Bool}{rf:RF}
theorem NI(h:F (C6 j N as) ds=some (.rt s,env1,br)):fF F j N as ds=some (s.d,br):=by unfold fF;rw[h]
theorem Lj(h:F (C6 j N as) ds=none):fF F j N as ds=none:=by unfold fF;rw[h]
theorem bO(h:F env ds=some (.nx,env1,br)):cR F G env ds=G env1 br:=by unfold cR;rw[h]
theorem NA(h:F env ds=some (.rt s,env1,br)):cR F G env ds=some (.rt s,env1,br):=by unfold cR;rw[h]
theorem BX(h:F env ds=none):cR F G env ds=none:=by unfold cR;rw[h]
theorem jO(h:ga (env.set j (.sh (.obj c ns ds)))=some false):aY c ns j ga F G env ds=G env ds:=by unfold aY;rw[h]
theorem Bc(h:ga (env.set j (.sh (.obj c ns ds)))=some true):aY c ns j ga F G env ds=F env ds:=by unfold aY;rw[h]
theorem cO(h:r env ds=none)(k:F env ds=some (.nx,env1,br)):dF r F r' env ds=r' env1 br:=by unfold dF;rw[h,k]
theorem BS(h:r env ds=some x):dF r F r' env ds=some x:=by unfold dF;rw[h]
theorem D4(h:ga (env.set j (.sh (.obj c ns ds)))=some true):dJ c ns j ga r r' env ds=r env ds:=by unfold dJ;rw[h]
theorem ui(h:ga (env.set j (.sh (.obj c ns ds)))=some false):dJ c ns j ga r r' env ds=r' env ds:=by unfold dJ;rw[h]
end
theorem Tp{W:List D}{p:Nat}{w:Str}(h:W[p]?=some (.str w)):gn "coming" 1 sJ (wO [.lst false W,.int p]) []=some (.sh (.str w)):=by have hp:p<W.length:=(oE.mp h).1;refine Eq.trans (b:=HN [wO [.lst false W,.int p]]) (by kernel_rfl) (Wo.eq (iX.mpr ?_));unfold Oc;refine Wo_ret.mpr ⟨_,WN (p:=(p:Int)<(W.length:Int)) (by kernel_rfl) (λ_=>?_) (λn=>absurd (Int.ofNat_lt.mpr hp) n),rfl⟩;have e:L2.nD W (p:Int)=some (.str w):=L2.CY h;show ((L2.nD W (p:Int)).map Sl.sh)=_;rw[e];rfl
theorem YU{W:List D}:gn "coming" 1 sJ (wO [.lst false W,.int W.length]) []=some (.sh (.str "")):=by refine Eq.trans (b:=HN [wO [.lst false W,.int W.length]]) (by kernel_rfl) (Wo.eq (iX.mpr ?_));unfold Oc;exact Wo_ret.mpr ⟨_,WN (p:=(W.length:Int)<(W.length:Int)) (by kernel_rfl) (λh=>absurd h (Int.lt_irrefl _)) (λ_=>rfl),rfl⟩
theorem X8{W:List D}{p:Int}{w:Str}(h:gn "coming" 1 sJ (wO [.lst false W,.int p]) []=some (.sh (.str w))):gZ [] [.lst false W,.int p]=some (.str w,[.lst false W,.int (p+1)]):=by
 have e:ed 1 (QI "Words" aa 0 (jk "coming" 1 sJ (eV 0) ag)) [.no,.no] [.lst false W,.int p]=some (.nx,[.no,.sh (.str w)],[.lst false W,.int p]):=by show (((gn "coming" 1 sJ (wO [.lst false W,.int p]) []).bind λr=>if PL r.d=true then some (r.d,[D.lst false W,.int p]) else none).bind _)=_;rw[h];rfl
 exact NI (s:=.sh (.str w)) (env1:=[.no,.sh (.str w)]) ((bO e).trans (by kernel_rfl))
theorem NP{W:List D}{p:Nat}{w:Str}(h:W[p]?=some (.str w)):gZ [] [.lst false W,.int p]=some (.str w,[.lst false W,.int ((p+1:Nat):Int)]):=X8 (Tp h)
noncomputable abbrev oX:En->Option Bool:=bI (ae ie (eC (.str ":")) (jk "coming" 1 sJ (eV 0) ag))
noncomputable abbrev IH:En->Option Bool:=bI (ae AE (gF (bV 3) (eC (.int 0))) (eV 2))
noncomputable abbrev II:GS:=ed 3 (D2 1 p5 (bH (bY 0 gZ aN) aN))
noncomputable abbrev pT:GS:=cR II (cR (aY "Words" aa 0 IH jH bq) (cR (yD 0 (jy 1 (eV 3))) (ed 2 (bR (ae aD (gF (bV 3) (eC (.int 0))) (eC (.int 1)))))))
noncomputable abbrev z5:GR:=dF (Hf 1 zI (bH (bY 0 gZ aN) aN)) II (dF (dJ "Words" aa 0 IH (sZ (pN "BadRule" (ah (eC (.str "the tops of the rows do not ascend from 0 on")) ag))) b9) (aY "Words" aa 0 IH jH bq) (dF b9 (yD 0 (jy 1 (eV 3))) b9))
structure LK(w:Str)(t x:Int):Prop where
 c:ie (.str ":") (.str w)=some (.sh (.bl true))
 r:p5 [.str w]=some (.sh (.tup [.int t,.int x]))
 n:zI [.str w]=none
inductive B':Int->List Str->List (Int×Int)->Prop
 |nil {l:Int}:B' l [] []
 |cons {l:Int} {w:Str} {t x:Int} {ws:List Str} {rs:List (Int×Int)} (k:LK w t x) (hl:¬t<l) (h:B' (t+1) ws rs):B' l (w::ws) ((t,x)::rs)
section
variable {W:List D}{p:Nat}{w:Str}{t x l:Int}{acc:List D}{r:Sl}
noncomputable abbrev ee(acc:List D)(l:Int)(r:Sl):En:=[.no,.ow acc,.sh (.int l),r]
theorem IL(h:W[p]?=some (.str w))(k:ie (.str ":") (.str w)=some (.sh (.bl true))):oX ((ee acc l r).set 0 (.sh (.obj "Words" aa [.lst false W,.int p])))=some true:=by show CZ ((gn "coming" 1 sJ (wO [.lst false W,.int p]) []).bind λy=>ie (.str ":") y.d)=_;rw[Tp h];show CZ (ie (.str ":") (.str w))=_;rw[k];rfl
theorem EI:oX ((ee acc l r).set 0 (.sh (.obj "Words" aa [.lst false W,.int W.length])))=some false:=by show CZ ((gn "coming" 1 sJ (wO [.lst false W,.int W.length]) []).bind λy=>ie (.str ":") y.d)=_;rw[YU];kernel_rfl
theorem WA(h:W[p]?=some (.str w))(k:LK w t x):II (ee acc l r) [.lst false W,.int p]=some (.nx,ee acc l (.sh (.tup [.int t,.int x])),[.lst false W,.int ((p+1:Nat):Int)]):=by show ((((gZ [] [.lst false W,.int p]).bind λy=>some ([y.1],y.2)).bind λy=>if y.1.length=1 then (p5 y.1).map λr=>(r.d,y.2) else none).bind _)=_;rw[NP h];show (((p5 [.str w]).map λr=>(r.d,[D.lst false W,.int ((p+1:Nat):Int)])).bind _)=_;rw[k.r];rfl
theorem EH(hl:¬t<l){ds:List D}:IH ((ee acc l (.sh (.tup [.int t,.int x]))).set 0 (.sh (.obj "Words" aa ds)))=some false:=by show some (decide (t<l))=_;rw[decide_eq_false hl]
theorem WB(h:W[p]?=some (.str w))(k:LK w t x)(hl:¬t<l)(ha:acc.length<16777216):pT (ee acc l r) [.lst false W,.int p]=some (.nx,ee (acc++[.tup [.int t,.int x]]) (t+1) (.sh (.tup [.int t,.int x])),[.lst false W,.int ((p+1:Nat):Int)]):=by refine(bO (WA h k)).trans ((bO (jO (EH hl))).trans ((bO (env1:=ee (acc++[.tup [.int t,.int x]]) l (.sh (.tup [.int t,.int x]))) ?_).trans rfl));have e:jy 1 (eV 3) (ee acc l (.sh (.tup [.int t,.int x])))=some (.nx,ee (acc++[.tup [.int t,.int x]]) l (.sh (.tup [.int t,.int x]))):=Wo.eq (XC (s:=.sh (.tup [.int t,.int x])) (ds:=acc) rfl rfl ha rfl);unfold yD;rw[e];rfl
theorem IG(h:W[p]?=some (.str w))(k:LK w t x)(hl:¬t<l)(ha:acc.length<16777216):z5 (ee acc l r) [.lst false W,.int p]=none:=by
 refine(cO ?_ (WA h k)).trans ((cO (ui (EH hl)) (jO (EH hl))).trans ?_);.show (((gZ [] [.lst false W,.int p]).bind λy=>some ([y.1],y.2)).bind λy=>if y.1.length=1 then zI y.1 else none)=_;rw[NP h];exact k.n
 .unfold dF b9;dsimp only;split<;>rfl
end
theorem Xy{W:List D}{p:Nat}{d:D}{r:List D}(h:W.drop p=d::r):W[p]?=some d/\W.drop (p+1)=r/\p+1<=W.length:=by
 have e:(W.drop p)[0]?=some d:=by rw[h];rfl
 rw[Rm] at e;refine⟨e,?_,(oE.mp e).1⟩;rw[<-List.drop_drop,h];rfl
theorem XN:∀{ws:List Str} {rs:List (Int×Int)} {l:Int},B' l ws rs->∀(W:List D) (p:Nat) (acc:List D) (r:Sl) (n:Nat),W.drop p=ws.map D.str->p<=W.length->ws.length<n->acc.length+ws.length<16777216 ->
  ∃l' r',ic "Words" aa 0 oX pT n (ee acc l r) [.lst false W,.int p]=some (.nx,ee (acc++rs.map Pr) l' r',[.lst false W,.int W.length])/\oG "Words" aa 0 oX pT z5 n (ee acc l r) [.lst false W,.int p]=none:=by
 intro ws rs l h
 induction h with
 |@nil l =>
  intro W p acc r n hd hp hn ha;obtain rfl:p=W.length:=by have:=congrArg GX hd;simp at this;omega
  obtain⟨m,rfl⟩:∃m,n=m+1:=⟨n-1,by omega⟩;refine⟨l,r,?_,?_⟩;.unfold ic;rw[EI];simp
  .unfold oG;rw[EI]
 |@cons l w t x ws rs k hl h ih =>
  intro W p acc r n hd hp hn ha;obtain⟨m,rfl⟩:∃m,n=m+1:=⟨n-1,by omega⟩;obtain⟨h1,h2,h3⟩:=Xy hd;rw[jj] at hn ha;obtain⟨l',r',i1,i2⟩:=ih W (p+1) (acc++[.tup [.int t,.int x]]) (.sh (.tup [.int t,.int x])) m h2 h3 (by omega) (by rw[mU,KE];omega);refine⟨l',r',?_,?_⟩;.unfold ic;rw[IL h1 k.c];dsimp only;rw[WB h1 k hl (by omega)];refine i1.trans ?_;rw[pG];rfl
  .unfold oG;rw[IL h1 k.c];dsimp only;rw[IG h1 k hl (by omega)];dsimp only;rw[WB h1 k hl (by omega)];exact i2
theorem B'.len{ws:List Str}{rs:List (Int×Int)}{l:Int}(h:B' l ws rs):ws.length=rs.length:=by
 induction h with
 |nil=>rfl
 |cons _ _ _ ih=>rw[jj,jj,ih]
noncomputable abbrev EC:En->Option Bool:=nR (oH (bI (ae r6 (eC (.int 1)) (iU (bV 1)))) (bI (ae r6 (iU (bV 1)) (eC (.int 20)))))
theorem z6{l:List D}{a:Int}{r s0:Sl}:EC [s0,.ow l,.sh (.int a),r]=some (!decide ((1:Int)<=l.length/\(l.length:Int)<=20)):=by have e:oH (bI (ae r6 (eC (.int 1)) (iU (bV 1)))) (bI (ae r6 (iU (bV 1)) (eC (.int 20)))) [s0,.ow l,.sh (.int a),r]=some (decide ((1:Int)<=l.length/\(l.length:Int)<=20)):=b9V (by kernel_rfl) (by kernel_rfl);unfold EC nR;rw[e];rfl
section
variable {ws:List Str}{rs:List (Int×Int)}{W:List D}{p:Nat}(h:B' 0 ws rs)(hd:W.drop p=ws.map D.str)(hp:p<=W.length)
include h hd hp
theorem XH(hn:1<=rs.length/\rs.length<=20):qU [] [.lst false W,.int p]=some (.lst false (rs.map Pr),[.lst false W,.int W.length]):=by have hl:=h.len;obtain⟨l',r',i1,-⟩:=XN h W p [] .no 1000 hd hp (by omega) (by simp;omega);refine NI (s:=.sh (.lst false (rs.map Pr))) (env1:=ee (rs.map Pr) l' r') ?_;show Gb [.no,.no,.no,.no] _=_;unfold Gb;refine(bO (env1:=[.no,.ow [],.no,.no]) rfl).trans ((bO (env1:=ee [] 0 .no) rfl).trans ((bO i1).trans ((bO (jO ?_)).trans rfl)));refine z6.trans ?_;rw[FC,kN,decide_eq_true ⟨by omega,by omega⟩];rfl
theorem W6(hn:20<rs.length)(hm:rs.length<900):qU [] [.lst false W,.int p]=none/\HG [] [.lst false W,.int p]=some ("BadRule":Str):=by
 have hl:=h.len;obtain⟨l',r',i1,i2⟩:=XN h W p [] .no 1000 hd hp (by omega) (by simp;omega);have ht:EC ((ee ([]++rs.map Pr) l' r').set 0 (.sh (.obj "Words" aa [.lst false W,.int W.length])))=some true:=by refine z6.trans ?_;rw[FC,kN,decide_eq_false (by omega)];rfl
 constructor;.refine Lj ?_;show Gb [.no,.no,.no,.no] _=_;unfold Gb;exact(bO (env1:=[.no,.ow [],.no,.no]) rfl).trans ((bO (env1:=ee [] 0 .no) rfl).trans ((bO i1).trans (BX (Bc ht))))
 .show Ls [.no,.no,.no,.no] _=_;unfold Ls;exact(cO rfl (env1:=[.no,.ow [],.no,.no]) rfl).trans ((cO rfl (env1:=ee [] 0 .no) rfl).trans ((cO i2 i1).trans ((BS (D4 ht)).trans rfl)))
end
inductive Tr where
 |each (p lo hi:Int)|flat (p lo hi:Int)|bands (rs:List (Int×Int))|steps (rs:List (Int×Int))|blocks (s p m:Int)|name (n:Str)
 |plus (a b:Tr)|or (a b:Tr)|max (a b:Tr)|only (a:Tr) (lo hi:Int)|after (a:Tr) (c:Int)|roomy (a:Tr)|fee (a:Tr) (p:Int)
noncomputable def Tr.o:Tr->D
 | .each p lo hi=>.obj "Each" Eb [.int p,.int lo,.int hi]
 | .flat p lo hi=>.obj "Flat" Ec [.int p,.int lo,.int hi]
 | .bands rs=>.obj "Bands" pO [.lst false (rs.map Pr)]
 | .steps rs=>.obj "Steps" pP [.lst false (rs.map Pr)]
 | .blocks s p m=>.obj "Blocks" Ei [.int s,.int p,.int m]
 | .name n=>.obj "Named" Hr [.str n]
 | .plus a b=>.obj "Sum" C7 [a.o,b.o]
 | .or a b=>.obj "Cheaper" Dk [a.o,b.o]
 | .max a b=>.obj "Dearer" C8 [a.o,b.o]
 | .only a lo hi=>.obj "Only" Bj [a.o,.int lo,.int hi]
 | .after a c=>.obj "After" Bm [a.o,.int c]
 | .roomy a=>.obj "Roomy" Dd [a.o]
 | .fee a p=>.obj "Fee" Bi [a.o,.int p]
noncomputable def Tr.pq:Tr->Nat
 | .plus a b=>a.pq+b.pq+1
 | .or a b=>a.pq+b.pq+1
 | .max a b=>a.pq+b.pq+1
 | .only a _ _=>a.pq+1
 | .after a _=>a.pq+1
 | .roomy a=>a.pq+1
 | .fee a _=>a.pq+1
 |_=>0
noncomputable def Tr.ok:Tr->Prop
 | .each p lo hi=>Sh p/\Sh lo/\Sh hi
 | .flat p lo hi=>Sh p/\Sh lo/\Sh hi
 | .bands rs=>(rs≠[]/\rs.length<=9)/\∀q∈rs,Sh q.1/\Sh q.2
 | .steps rs=>(rs≠[]/\rs.length<=9)/\∀q∈rs,Sh q.1/\Sh q.2
 | .blocks s p m=>Sh s/\Sh p/\Sh m
 | .name n=>n.length<=100
 | .plus a b=>a.ok/\b.ok
 | .or a b=>a.ok/\b.ok
 | .max a b=>a.ok/\b.ok
 | .only a lo hi=>a.ok/\Sh lo/\Sh hi
 | .after a c=>a.ok/\Sh c
 | .roomy a=>a.ok
 | .fee a p=>a.ok/\Sh p
noncomputable def Tr.tx:Tr->Str
 | .each p lo hi=>dX " " ["each",nt p,"from",nt lo,"to",nt hi]
 | .flat p lo hi=>dX " " ["flat",nt p,"from",nt lo,"to",nt hi]
 | .bands rs=>dX " " ["bands",dX " " (rs.map Rt)]
 | .steps rs=>dX " " ["steps",dX " " (rs.map Rt)]
 | .blocks s p m=>dX " " ["blocks",nt s,"at",nt p,"times",nt m]
 | .name n=>n
 | .plus a b=>dX " " ["(",a.tx,"plus",b.tx,")"]
 | .or a b=>dX " " ["(",a.tx,"or",b.tx,")"]
 | .max a b=>dX " " ["(",a.tx,"max",b.tx,")"]
 | .only a lo hi=>dX " " ["(",a.tx,"only",nt lo,"to",nt hi,")"]
 | .after a c=>dX " " ["(",a.tx,"after",nt c,")"]
 | .roomy a=>dX " " ["(",a.tx,"roomy",")"]
 | .fee a p=>dX " " ["(",a.tx,"fee",nt p,")"]
noncomputable def Tr.sz:Tr->Nat
 | .plus a b=>a.sz+b.sz+1
 | .or a b=>a.sz+b.sz+1
 | .max a b=>a.sz+b.sz+1
 | .only a _ _=>a.sz+1
 | .after a _=>a.sz+1
 | .roomy a=>a.sz+1
 | .fee a _=>a.sz+1
 |_=>1
theorem BU:∀t:Tr,t.ok->t.tx.length<=2000*t.sz:=by
 intro t;have l0:oJ " " []=0:=rfl
 induction t with
 |each p lo hi => intro hk;have:=LL;have:=jP hk.1;have:=jP hk.2.1;have:=jP hk.2.2;refine iV (ng _ _) ?_;simp only[jI,l0,Tr.sz];omega
 |flat p lo hi => intro hk;have:=LL;have:=jP hk.1;have:=jP hk.2.1;have:=jP hk.2.2;refine iV (ng _ _) ?_;simp only[jI,l0,Tr.sz];omega
 | bands rs => intro hk;have:=LL;have h1:=BZ hk.2;have h2:=hk.1.2;have h3:=ng " " (rs.map Rt);refine iV (ng _ _) ?_;simp only[jI,l0,Tr.sz];omega
 | steps rs => intro hk;have:=LL;have h1:=BZ hk.2;have h2:=hk.1.2;have h3:=ng " " (rs.map Rt);refine iV (ng _ _) ?_;simp only[jI,l0,Tr.sz];omega
 |blocks p lo hi => intro hk;have:=LL;have:=jP hk.1;have:=jP hk.2.1;have:=jP hk.2.2;refine iV (ng _ _) ?_;simp only[jI,l0,Tr.sz];omega
 |name n => intro hk;show n.length<=2000*1;have:n.length<=100:=hk;omega
 |plus a b eJ my => intro hk;have:=LL;have:=eJ hk.1;have:=my hk.2;refine iV (ng _ _) ?_;simp only[jI,l0,Tr.sz];omega
 |or a b eJ my => intro hk;have:=LL;have:=eJ hk.1;have:=my hk.2;refine iV (ng _ _) ?_;simp only[jI,l0,Tr.sz];omega
 |max a b eJ my => intro hk;have:=LL;have:=eJ hk.1;have:=my hk.2;refine iV (ng _ _) ?_;simp only[jI,l0,Tr.sz];omega
 |only a lo hi eJ => intro hk;have:=LL;have:=eJ hk.1;have:=jP hk.2.1;have:=jP hk.2.2;refine iV (ng _ _) ?_;simp only[jI,l0,Tr.sz];omega
 |after a c eJ => intro hk;have:=LL;have:=eJ hk.1;have:=jP hk.2;refine iV (ng _ _) ?_;simp only[jI,l0,Tr.sz];omega
 |roomy a eJ => intro hk;have:=LL;have:=eJ hk;refine iV (ng _ _) ?_;simp only[jI,l0,Tr.sz];omega
 |fee a c eJ => intro hk;have:=LL;have:=eJ hk.1;have:=jP hk.2;refine iV (ng _ _) ?_;simp only[jI,l0,Tr.sz];omega
theorem b7J(a b c:D):eA Nw "unit" (.obj "Each" Eb [a,b,c])=some a:=by kernel_rfl
theorem b7H(a b c:D):eA D6 "low" (.obj "Each" Eb [a,b,c])=some b:=by kernel_rfl
theorem b7E(a b c:D):eA Ea "high" (.obj "Each" Eb [a,b,c])=some c:=by kernel_rfl
theorem b7I(a b c:D):eA Ef "price" (.obj "Flat" Ec [a,b,c])=some a:=by kernel_rfl
theorem b7G(a b c:D):eA D6 "low" (.obj "Flat" Ec [a,b,c])=some b:=by kernel_rfl
theorem b7D(a b c:D):eA Ea "high" (.obj "Flat" Ec [a,b,c])=some c:=by kernel_rfl
theorem b4e(a b c:D):eA Nv "size" (.obj "Blocks" Ei [a,b,c])=some a:=by kernel_rfl
theorem b4c(a b c:D):eA Ef "price" (.obj "Blocks" Ei [a,b,c])=some b:=by kernel_rfl
theorem b4b(a b c:D):eA Nt "many" (.obj "Blocks" Ei [a,b,c])=some c:=by kernel_rfl
theorem b9H(a:D):eA Nu "name" (.obj "Named" Hr [a])=some a:=by kernel_rfl
theorem b6l(a b:D):eA Bh "one" (.obj "Sum" C7 [a,b])=some a:=by kernel_rfl
theorem b6k(a b:D):eA Ho "other" (.obj "Sum" C7 [a,b])=some b:=by kernel_rfl
theorem a8S(a b:D):eA Bh "one" (.obj "Cheaper" Dk [a,b])=some a:=by kernel_rfl
theorem a8R(a b:D):eA Ho "other" (.obj "Cheaper" Dk [a,b])=some b:=by kernel_rfl
theorem b0s(a b:D):eA Bh "one" (.obj "Dearer" C8 [a,b])=some a:=by kernel_rfl
theorem b0r(a b:D):eA Ho "other" (.obj "Dearer" C8 [a,b])=some b:=by kernel_rfl
theorem b4d(a b c:D):eA Bh "one" (.obj "Only" Bj [a,b,c])=some a:=by kernel_rfl
theorem b7F(a b c:D):eA D6 "low" (.obj "Only" Bj [a,b,c])=some b:=by kernel_rfl
theorem b7C(a b c:D):eA Ea "high" (.obj "Only" Bj [a,b,c])=some c:=by kernel_rfl
theorem b12(a b:D):eA Bh "one" (.obj "After" Bm [a,b])=some a:=by kernel_rfl
theorem b5A(a b:D):eA NL "count" (.obj "After" Bm [a,b])=some b:=by kernel_rfl
theorem b4a(a:D):eA Bh "one" (.obj "Roomy" Dd [a])=some a:=by kernel_rfl
theorem b6m(a b:D):eA Bh "one" (.obj "Fee" Bi [a,b])=some a:=by kernel_rfl
theorem b9I(a b:D):eA Ef "price" (.obj "Fee" Bi [a,b])=some b:=by kernel_rfl
local macro_rules | `(tactic| walk_at "fl")=>`(tactic| simp only[b7J,b7H,b7E,b7I,b7G,b7D,b1h,b1g,b4e,b4c,b4b,b9H,b6l,b6k,a8S,a8R,b0s,b0r,b4d,b7F,b7C,b12,b5A,b4a,b6m,b9I,a0T,Sl.d])
theorem b4n:∀(t:Tr) (n:Nat),t.pq<n->t.ok->t.sz<=1000->gn "written" 1 (c9 n) t.o []=some (.sh (.str t.tx)):=by
 intro t;have l0:oJ " " []=0:=rfl
 induction t with
 | each p lo hi => intro n hn hk hz;obtain⟨n,rfl⟩:∃m,n=m+1:=⟨n-1,by omega⟩;rw[show gn "written" 1 (c9 (n+1)) (Tr.each p lo hi).o []=HS (c9 n) [(Tr.each p lo hi).o] from by kernel_rfl];refine Wo.eq (ny.mpr ?_);unfold Uk Tr.o;rw[Wo_ret];walk_at "o1";walk_at "fl";walk_at "o1";rw[sI _ ["each",nt p,"from",nt lo,"to",nt hi] (by simp only[jM,sx,sS,sD hk.1,sD hk.2.1,sD hk.2.2]) (by simp) (by have:=LL;have:=jP hk.1;have:=jP hk.2.1;have:=jP hk.2.2;simp only[jI,l0];omega)];walk_at "o1";try rfl
 | flat p lo hi => intro n hn hk hz;obtain⟨n,rfl⟩:∃m,n=m+1:=⟨n-1,by omega⟩;rw[show gn "written" 1 (c9 (n+1)) (Tr.flat p lo hi).o []=HU (c9 n) [(Tr.flat p lo hi).o] from by kernel_rfl];refine Wo.eq (nv.mpr ?_);unfold Ul Tr.o;rw[Wo_ret];walk_at "o1";walk_at "fl";walk_at "o1";rw[sI _ ["flat",nt p,"from",nt lo,"to",nt hi] (by simp only[jM,sx,sS,sD hk.1,sD hk.2.1,sD hk.2.2]) (by simp) (by have:=LL;have:=jP hk.1;have:=jP hk.2.1;have:=jP hk.2.2;simp only[jI,l0];omega)];walk_at "o1";try rfl
 | blocks p lo hi => intro n hn hk hz;obtain⟨n,rfl⟩:∃m,n=m+1:=⟨n-1,by omega⟩;rw[show gn "written" 1 (c9 (n+1)) (Tr.blocks p lo hi).o []=HJ (c9 n) [(Tr.blocks p lo hi).o] from by kernel_rfl];refine Wo.eq (kP.mpr ?_);unfold Uv Tr.o;rw[Wo_ret];walk_at "o1";walk_at "fl";walk_at "o1";rw[sI _ ["blocks",nt p,"at",nt lo,"times",nt hi] (by simp only[jM,sx,sS,sD hk.1,sD hk.2.1,sD hk.2.2]) (by simp) (by have:=LL;have:=jP hk.1;have:=jP hk.2.1;have:=jP hk.2.2;simp only[jI,l0];omega)];walk_at "o1";try rfl
 | bands rs => intro n hn hk hz;obtain⟨n,rfl⟩:∃m,n=m+1:=⟨n-1,by omega⟩;rw[show gn "written" 1 (c9 (n+1)) (Tr.bands rs).o []=Gi (c9 n) [(Tr.bands rs).o] from by kernel_rfl];refine Wo.eq (iy.mpr ?_);unfold N4;rw[Wo_ret];walk_at "o1";rw[show gn "written_rows" 1 Ek (Tr.bands rs).o []=B9 [(Tr.bands rs).o] from by kernel_rfl,Ny rs ⟨iV hk.1.2 (by decide),hk.2⟩ _ (by unfold Tr.o;exact b1h _)];walk_at "o1";rw[sI _ ["bands",dX " " (rs.map Rt)] (by simp only[jM,sx,sS]) (by simp) (by have:=LL;have h1:=BZ hk.2;have h2:=hk.1.2;have h3:=ng " " (rs.map Rt);simp only[jI,l0];omega)];walk_at "o1";try rfl
 | steps rs => intro n hn hk hz;obtain⟨n,rfl⟩:∃m,n=m+1:=⟨n-1,by omega⟩;rw[show gn "written" 1 (c9 (n+1)) (Tr.steps rs).o []=Gj (c9 n) [(Tr.steps rs).o] from by kernel_rfl];refine Wo.eq (iw.mpr ?_);unfold N5;rw[Wo_ret];walk_at "o1";rw[show gn "written_rows" 1 Ek (Tr.steps rs).o []=B9 [(Tr.steps rs).o] from by kernel_rfl,Ny rs ⟨iV hk.1.2 (by decide),hk.2⟩ _ (by unfold Tr.o;exact b1g _)];walk_at "o1";rw[sI _ ["steps",dX " " (rs.map Rt)] (by simp only[jM,sx,sS]) (by simp) (by have:=LL;have h1:=BZ hk.2;have h2:=hk.1.2;have h3:=ng " " (rs.map Rt);simp only[jI,l0];omega)];walk_at "o1";try rfl
 | name x => intro n hn hk hz;obtain⟨n,rfl⟩:∃m,n=m+1:=⟨n-1,by omega⟩;rw[show gn "written" 1 (c9 (n+1)) (Tr.name x).o []=HQ (c9 n) [(Tr.name x).o] from by kernel_rfl];refine Wo.eq (lL.mpr ?_);unfold Uh Tr.o;rw[Wo_ret];walk_at "o1";walk_at "fl";try rfl
 | plus a b eJ my => intro n hn hk hz;obtain⟨n,rfl⟩:∃m,n=m+1:=⟨n-1,by omega⟩;simp only[Tr.pq] at hn;simp only[Tr.sz] at hz;have h1:=eJ n (by omega) hk.1 (by omega);have h2:=my n (by omega) hk.2 (by omega);rw[show gn "written" 1 (c9 (n+1)) (Tr.plus a b).o []=HF (c9 n) [(Tr.plus a b).o] from by kernel_rfl];refine Wo.eq (nW.mpr ?_);unfold Uc;rw[Wo_ret];walk_at "o1";rw[show gn "written_between" 2 (Dq (c9 n)) (Tr.plus a b).o [.str "plus"]=B8 (c9 n) [(Tr.plus a b).o,.str "plus"] from by kernel_rfl];refine cZ.mpr ?_;unfold LG Tr.o;rw[Wo_ret];walk_at "o1";rw[b6l];walk_at "o1";rw[h1];walk_at "o1";rw[b6k];walk_at "o1";rw[h2];walk_at "o1";rw[sI _ ["(",a.tx,"plus",b.tx,")"] (by simp only[jM,sx,sS]) (by simp) (by have:=LL;have:=BU a hk.1;have:=BU b hk.2;simp only[jI,l0];omega)];walk_at "o1";try rfl
 | or a b eJ my => intro n hn hk hz;obtain⟨n,rfl⟩:∃m,n=m+1:=⟨n-1,by omega⟩;simp only[Tr.pq] at hn;simp only[Tr.sz] at hz;have h1:=eJ n (by omega) hk.1 (by omega);have h2:=my n (by omega) hk.2 (by omega);rw[show gn "written" 1 (c9 (n+1)) (Tr.or a b).o []=HL (c9 n) [(Tr.or a b).o] from by kernel_rfl];refine Wo.eq (j8.mpr ?_);unfold Uz;rw[Wo_ret];walk_at "o1";rw[show gn "written_between" 2 (Dq (c9 n)) (Tr.or a b).o [.str "or"]=B8 (c9 n) [(Tr.or a b).o,.str "or"] from by kernel_rfl];refine cZ.mpr ?_;unfold LG Tr.o;rw[Wo_ret];walk_at "o1";rw[a8S];walk_at "o1";rw[h1];walk_at "o1";rw[a8R];walk_at "o1";rw[h2];walk_at "o1";rw[sI _ ["(",a.tx,"or",b.tx,")"] (by simp only[jM,sx,sS]) (by simp) (by have:=LL;have:=BU a hk.1;have:=BU b hk.2;simp only[jI,l0];omega)];walk_at "o1";try rfl
 | max a b eJ my => intro n hn hk hz;obtain⟨n,rfl⟩:∃m,n=m+1:=⟨n-1,by omega⟩;simp only[Tr.pq] at hn;simp only[Tr.sz] at hz;have h1:=eJ n (by omega) hk.1 (by omega);have h2:=my n (by omega) hk.2 (by omega);rw[show gn "written" 1 (c9 (n+1)) (Tr.max a b).o []=HK (c9 n) [(Tr.max a b).o] from by kernel_rfl];refine Wo.eq (kO.mpr ?_);unfold Uw;rw[Wo_ret];walk_at "o1";rw[show gn "written_between" 2 (Dq (c9 n)) (Tr.max a b).o [.str "max"]=B8 (c9 n) [(Tr.max a b).o,.str "max"] from by kernel_rfl];refine cZ.mpr ?_;unfold LG Tr.o;rw[Wo_ret];walk_at "o1";rw[b0s];walk_at "o1";rw[h1];walk_at "o1";rw[b0r];walk_at "o1";rw[h2];walk_at "o1";rw[sI _ ["(",a.tx,"max",b.tx,")"] (by simp only[jM,sx,sS]) (by simp) (by have:=LL;have:=BU a hk.1;have:=BU b hk.2;simp only[jI,l0];omega)];walk_at "o1";try rfl
 |only a lo hi eJ =>
  intro n hn hk hz;obtain⟨n,rfl⟩:∃m,n=m+1:=⟨n-1,by omega⟩;simp only[Tr.pq] at hn;simp only[Tr.sz] at hz;have h1:=eJ n (by omega) hk.1 (by omega);rw[show gn "written" 1 (c9 (n+1)) (Tr.only a lo hi).o []=HV (c9 n) [(Tr.only a lo hi).o] from by kernel_rfl];refine Wo.eq (nu.mpr ?_);unfold Um;rw[Wo_ret];walk_at "o1";unfold Tr.o;try walk_at "fl"
  walk_at "o1";rw[show gn "written_with" 2 (Bu (c9 n)) (.obj "Only" Bj [a.o,.int lo,.int hi]) [.lst false [.str "only",.int lo,.str "to",.int hi]]=zK (c9 n) [(.obj "Only" Bj [a.o,.int lo,.int hi]),.lst false [.str "only",.int lo,.str "to",.int hi]] from by kernel_rfl];refine cF.mpr ?_;unfold HM;rw[Wo_ret];walk_at "o1";rw[b4d];walk_at "o1";rw[h1];walk_at "o1";refine⟨by simp,?_⟩;rw[sI _ ["(",a.tx,"only",nt lo,"to",nt hi,")"] (by simp only[jM,sx,GK,FC,sS,sD hk.2.1,sD hk.2.2]) (by simp) (by have:=LL;have:=BU a hk.1;have:=jP hk.2.1;have:=jP hk.2.2;simp only[jI,l0];omega)];walk_at "o1";try rfl
 |after a c eJ =>
  intro n hn hk hz;obtain⟨n,rfl⟩:∃m,n=m+1:=⟨n-1,by omega⟩;simp only[Tr.pq] at hn;simp only[Tr.sz] at hz;have h1:=eJ n (by omega) hk.1 (by omega);rw[show gn "written" 1 (c9 (n+1)) (Tr.after a c).o []=HP (c9 n) [(Tr.after a c).o] from by kernel_rfl];refine Wo.eq (lM.mpr ?_);unfold Ug;rw[Wo_ret];walk_at "o1";unfold Tr.o;try walk_at "fl"
  walk_at "o1";rw[show gn "written_with" 2 (Bu (c9 n)) (.obj "After" Bm [a.o,.int c]) [.lst false [.str "after",.int c]]=zK (c9 n) [(.obj "After" Bm [a.o,.int c]),.lst false [.str "after",.int c]] from by kernel_rfl];refine cF.mpr ?_;unfold HM;rw[Wo_ret];walk_at "o1";rw[b12];walk_at "o1";rw[h1];walk_at "o1";refine⟨by simp,?_⟩;rw[sI _ ["(",a.tx,"after",nt c,")"] (by simp only[jM,sx,GK,FC,sS,sD hk.2]) (by simp) (by have:=LL;have:=BU a hk.1;have:=jP hk.2;simp only[jI,l0];omega)];walk_at "o1";try rfl
 |roomy a eJ =>
  intro n hn hk hz;obtain⟨n,rfl⟩:∃m,n=m+1:=⟨n-1,by omega⟩;simp only[Tr.pq] at hn;simp only[Tr.sz] at hz;have h1:=eJ n (by omega) hk (by omega);rw[show gn "written" 1 (c9 (n+1)) (Tr.roomy a).o []=HR (c9 n) [(Tr.roomy a).o] from by kernel_rfl];refine Wo.eq (lK.mpr ?_);unfold Ui;rw[Wo_ret];walk_at "o1";unfold Tr.o;try walk_at "fl"
  walk_at "o1";rw[show gn "written_with" 2 (Bu (c9 n)) (.obj "Roomy" Dd [a.o]) [.lst false [.str "roomy"]]=zK (c9 n) [(.obj "Roomy" Dd [a.o]),.lst false [.str "roomy"]] from by kernel_rfl];refine cF.mpr ?_;unfold HM;rw[Wo_ret];walk_at "o1";rw[b4a];walk_at "o1";rw[h1];walk_at "o1";refine⟨by simp,?_⟩;rw[sI _ ["(",a.tx,"roomy",")"] (by simp only[jM,sx,GK,FC,sS,sS]) (by simp) (by have:=LL;have:=BU a hk;skip;simp only[jI,l0];omega)];walk_at "o1";try rfl
 |fee a p eJ =>
  intro n hn hk hz;obtain⟨n,rfl⟩:∃m,n=m+1:=⟨n-1,by omega⟩;simp only[Tr.pq] at hn;simp only[Tr.sz] at hz;have h1:=eJ n (by omega) hk.1 (by omega);rw[show gn "written" 1 (c9 (n+1)) (Tr.fee a p).o []=HE (c9 n) [(Tr.fee a p).o] from by kernel_rfl];refine Wo.eq (nX.mpr ?_);unfold Ub;rw[Wo_ret];walk_at "o1";unfold Tr.o;try walk_at "fl"
  walk_at "o1";rw[show gn "written_with" 2 (Bu (c9 n)) (.obj "Fee" Bi [a.o,.int p]) [.lst false [.str "fee",.int p]]=zK (c9 n) [(.obj "Fee" Bi [a.o,.int p]),.lst false [.str "fee",.int p]] from by kernel_rfl];refine cF.mpr ?_;unfold HM;rw[Wo_ret];walk_at "o1";rw[b6m];walk_at "o1";rw[h1];walk_at "o1";refine⟨by simp,?_⟩;rw[sI _ ["(",a.tx,"fee",nt p,")"] (by simp only[jM,sx,GK,FC,sS,sD hk.2]) (by simp) (by have:=LL;have:=BU a hk.1;have:=jP hk.2;simp only[jI,l0];omega)];walk_at "o1";try rfl
structure Cd where
 w:Str
 k:Nat
 num:Option Int
 row:Option (Int×Int)
 col:Bool
 nm:Bool
noncomputable abbrev BR:Str:="BadRule"
noncomputable def KW:List (Nat×Str):=[(1,"("),(2,"each"),(3,"flat"),(4,"bands"),(5,"steps"),(6,"blocks"),(7,"from"),(8,"to"),(9,"at"),(10,"times"),(11,")"),(12,"plus"),(13,"or"),(14,"max"),(15,"only"),(16,"after"),(17,"roomy"),(18,"fee")]
noncomputable def UI(w:Str):Option Int->Prop
 |some n=>pY [.str w]=some (.sh (.int n))/\qV [.str w]=none/\n.natAbs.log2<1920
 |none=>pY [.str w]=none/\qV [.str w]=some BR
noncomputable def UE(w:Str):Option (Int×Int)->Prop
 |some q=>p5 [.str w]=some (.sh (Pr q))/\zI [.str w]=none
 |none=>p5 [.str w]=none/\zI [.str w]=some BR
structure Wf(c:Cd):Prop where
 eq:∀x∈KW,decide (c.w=x.2)=decide (c.k=x.1)
 num:UI c.w c.num
 row:UE c.w c.row
 col:ie (.str ":") (.str c.w)=some (.sh (.bl c.col))
 nm:Dh [.str c.w]=some (.sh (.bl c.nm))
 rep:(reprText c.w).length<=1000
noncomputable abbrev St(W:List D)(n:Nat):List D:=[.lst false W,.int ((W.length-n:Nat):Int)]
structure At(W:List D)(cs:List Cd):Prop where
 wf:∀c∈cs,Wf c
 dr:W.drop (W.length-cs.length)=cs.map λc=>.str c.w
 le:cs.length<=W.length
 VD:cs.length<=900
section
variable {W:List D}{c:Cd}{cs:List Cd}
theorem At.hd(h:At W (c::cs)):W[W.length-(cs.length+1)]?=some (.str c.w)/\W.drop (W.length-cs.length)=(cs.map λc=>.str c.w):=by obtain⟨h1,h2,h3⟩:=Xy h.dr;have:=h.le;rw[jj] at this h2 h1;refine⟨h1,?_⟩;rw[show W.length-(cs.length+1)+1=W.length-cs.length by omega] at h2;exact h2
theorem At.tl(h:At W (c::cs)):At W cs:=⟨λx hx=>h.wf x (mZ _ hx),h.hd.2,by have:=h.le;rw[jj] at this;omega,by have:=h.VD;rw[jj] at this;omega⟩
theorem At.tk(h:At W (c::cs)):gZ [] (St W (cs.length+1))=some (.str c.w,St W cs.length):=by have e:=NP h.hd.1;have:=h.le;rw[jj] at this;rw[show W.length-(cs.length+1)+1=W.length-cs.length by omega] at e;exact e
theorem M':gZ [] (St W 0)=some (.str "",[.lst false W,.int ((W.length:Int)+1)]):=X8 YU
theorem At.ne(h:At W (c::cs)):Wf c:=h.wf c nA
end
noncomputable def Sm{α:Type}(dec:α->D)(φ:List D->Option (D×List D))(ρ:List D->Option Str)(W:List D)(cs:List Cd):Option (α×List Cd)->Prop
 |some (a,r)=>At W r/\φ (St W cs.length)=some (dec a,St W r.length)/\ρ (St W cs.length)=none
 |none=>φ (St W cs.length)=none/\ρ (St W cs.length)=some BR
noncomputable def Sg{α:Type}(dec:α->D)(G:GS)(R:GR)(env:En)(ds:List D)(W:List D):Option (α×List Cd)->Prop
 |some (a,r)=>At W r/\(∃fl af,G env ds=some (fl,af,St W r.length)/\(fl=.rt (.sh (dec a))\/fl=.nx/\dec a=.dO))/\R env ds=none
 |none=>G env ds=none/\R env ds=some BR
section
variable {α β:Type}{dec:α->D}{de2:β->D}{G F:GS}{R r:GR}{env:En}{ds as:List D}{W:List D}{cs:List Cd}{o:Option (α×List Cd)}{o2:Option (β×List Cd)}{φ:List D->List D->Option (D×List D)}{ρ:List D->List D->Option Str}{i j N n:Nat}{g:GA}{f:α->List Cd->Option (β×List Cd)}{p:Prop}[Decidable p]{ga:En->Option Bool}
theorem Sg.run(h:Sg dec G R (C6 j N as) (St W cs.length) W o):Sm dec (fF G j N as) (sC R j N as) W cs o:=by
 match o,h with
 |some (a,r),⟨k,⟨fl,af,e,z⟩,x⟩ =>
  refine⟨k,?_,x⟩;unfold fF;rw[e];rcases z with rfl|⟨rfl,z⟩;.rfl
  .rw [z]
 |none,⟨e,x⟩=>exact⟨Lj e,x⟩
theorem Sg.set(k:Sm dec (φ as) (ρ as) W cs o)(hg:g env (St W cs.length)=some (as,St W cs.length))(hn:autoParam (as.length=n) ra2._auto_1)(hi:autoParam (Ks i env.length=true) ra2._auto_1)
  (q:∀a r,o=some (a,r)->At W r->Sg de2 G R (env.set i (.sh (dec a))) (St W r.length) W (f a r)):Sg de2 (cR (ed i (bY n φ g)) G) (dF (fP n ρ g) (ed i (bY n φ g)) R) env (St W cs.length) W (o.bind λx=>f x.1 x.2):=by
 have hr:fP n ρ g env (St W cs.length)=ρ as (St W cs.length):=by unfold fP;rw[hg];exact if_pos hn
 have hs:ed i (bY n φ g) env (St W cs.length)=(φ as (St W cs.length)).bind λx=>if i<env.length then some (.nx,env.set i (.sh x.1),x.2) else none:=by unfold ed bY;rw[hg];show ((if as.length=n then φ as _ else none).bind _)=_;rw[if_pos hn]
 match o,k,q with
 |some (a,r),⟨k1,k2,k3⟩,q =>
  have e:ed i (bY n φ g) env (St W cs.length)=some (.nx,env.set i (.sh (dec a)),St W r.length):=by rw[hs,k2];exact if_pos (CU hi)
  have q':=q a r rfl k1;show Sg de2 _ _ _ _ W (f a r)
  match f a r,q' with
  |some (b,r'),⟨q1,⟨fl,af,q2,q3⟩,q4⟩=>exact⟨q1,⟨fl,af,(bO e).trans q2,q3⟩,(cO (hr.trans k3) e).trans q4⟩
  |none,⟨q1,q2⟩=>exact⟨(bO e).trans q1,(cO (hr.trans k3) e).trans q2⟩
 |none,⟨k2,k3⟩,_ => exact⟨BX (by rw[hs,k2];rfl),BS (hr.trans k3)⟩
theorem Sg.expr(k:Sm dec (φ as) (ρ as) W cs o)(hg:g env (St W cs.length)=some (as,St W cs.length))(hn:autoParam (as.length=n) ra2._auto_1)
  (q:∀a r,o=some (a,r)->At W r->Sg de2 G R env (St W r.length) W (f a r)):Sg de2 (cR (pW (bY n φ g)) G) (dF (fP n ρ g) (pW (bY n φ g)) R) env (St W cs.length) W (o.bind λx=>f x.1 x.2):=by
 have hr:fP n ρ g env (St W cs.length)=ρ as (St W cs.length):=by unfold fP;rw[hg];exact if_pos hn
 have hs:pW (bY n φ g) env (St W cs.length)=(φ as (St W cs.length)).map λx=>(.nx,env,x.2):=by unfold pW bY;rw[hg];show ((if as.length=n then φ as _ else none).map _)=_;rw[if_pos hn]
 match o,k,q with
 |some (a,r),⟨k1,k2,k3⟩,q =>
  have e:pW (bY n φ g) env (St W cs.length)=some (.nx,env,St W r.length):=by rw[hs,k2];rfl
  have q':=q a r rfl k1;show Sg de2 _ _ _ _ W (f a r)
  match f a r,q' with
  |some (b,r'),⟨q1,⟨fl,af,q2,q3⟩,q4⟩=>exact⟨q1,⟨fl,af,(bO e).trans q2,q3⟩,(cO (hr.trans k3) e).trans q4⟩
  |none,⟨q1,q2⟩=>exact⟨(bO e).trans q1,(cO (hr.trans k3) e).trans q2⟩
 |none,⟨k2,k3⟩,_ => exact⟨BX (by rw[hs,k2];rfl),BS (hr.trans k3)⟩
theorem Sg.guard{rr:RF}{c:Str}{ns:List Str}(hc:ga (env.set j (.sh (.obj c ns ds)))=some (decide p))(hr:p->(rr env).map (·.1)=some BR)(q:¬p->Sg de2 G R env ds W o2):Sg de2 (cR (aY c ns j ga jH bq) G) (dF (dJ c ns j ga (sZ rr) b9) (aY c ns j ga jH bq) R) env ds W (if p then none else o2):=by
 by_cases hp:p;.rw [if_pos hp];rw[decide_eq_true hp] at hc;exact⟨BX (Bc hc),BS ((D4 hc).trans (hr hp))⟩
 .rw [if_neg hp];rw[decide_eq_false hp] at hc;have e:aY c ns j ga jH bq env ds=some (.nx,env,ds):=jO hc;have q':=q hp
  match o2,q' with
  |some (b,r'),⟨q1,⟨fl,af,q2,q3⟩,q4⟩=>exact⟨q1,⟨fl,af,(bO e).trans q2,q3⟩,(cO (ui hc) e).trans q4⟩
  |none,⟨q1,q2⟩=>exact⟨(bO e).trans q1,(cO (ui hc) e).trans q2⟩
theorem Sg.alt{c:Str}{ns:List Str}{o3:Option (β×List Cd)}(hc:ga (env.set j (.sh (.obj c ns ds)))=some (decide p))(t:p->Sg de2 F r env ds W o3)(hf:p->∀b r',o3=some (b,r')->de2 b≠.dO)(q:¬p->Sg de2 G R env ds W o2):Sg de2 (cR (aY c ns j ga F bq) G) (dF (dJ c ns j ga r b9) (aY c ns j ga F bq) R) env ds W (if p then o3 else o2):=by
 by_cases hp:p
 .rw [if_pos hp];rw[decide_eq_true hp] at hc
  match o3,t hp,hf hp with
  |some (b,r'),⟨q1,⟨fl,af,q2,q3⟩,q4⟩,hf => obtain rfl:fl=.rt (.sh (de2 b)):=q3.resolve_right λz=>hf b r' rfl z.2;have e:aY c ns j ga F bq env ds=some (.rt (.sh (de2 b)),af,St W r'.length):=(Bc hc).trans q2;refine⟨q1,⟨_,af,NA e,.inl rfl⟩,?_⟩;unfold dF;rw[show dJ c ns j ga r b9 env ds=none from(D4 hc).trans q4,e]
  |none,⟨q1,q2⟩,_=>exact⟨BX ((Bc hc).trans q1),BS ((D4 hc).trans q2)⟩
 .rw [if_neg hp];rw[decide_eq_false hp] at hc;have e:aY c ns j ga F bq env ds=some (.nx,env,ds):=jO hc;have q':=q hp
  match o2,q' with
  |some (b,r'),⟨q1,⟨fl,af,q2,q3⟩,q4⟩=>exact⟨q1,⟨fl,af,(bO e).trans q2,q3⟩,(cO (ui hc) e).trans q4⟩
  |none,⟨q1,q2⟩=>exact⟨(bO e).trans q1,(cO (ui hc) e).trans q2⟩
theorem Sg.S7{c:Str}{ns:List Str}{b:β}{r':List Cd}{s:Sl}(hc:ga (env.set j (.sh (.obj c ns ds)))=some (decide p))(t:p->F env ds=some (.rt s,env,St W r'.length)/\s=.sh (de2 b)/\At W r')(q:¬p->Sg de2 G R env ds W o2):Sg de2 (cR (aY c ns j ga F bq) G) (dF b9 (aY c ns j ga F bq) R) env ds W (if p then some (b,r') else o2):=by
 by_cases hp:p;.rw [if_pos hp];rw[decide_eq_true hp] at hc;obtain⟨t1,rfl,t3⟩:=t hp;have e:aY c ns j ga F bq env ds=some (.rt (.sh (de2 b)),env,St W r'.length):=(Bc hc).trans t1;refine⟨t3,⟨_,env,NA e,.inl rfl⟩,?_⟩;unfold dF;rw[e];rfl
 .rw [if_neg hp];rw[decide_eq_false hp] at hc;have e:aY c ns j ga F bq env ds=some (.nx,env,ds):=jO hc;have q':=q hp
  match o2,q' with
  |some (b,r'),⟨q1,⟨fl,af,q2,q3⟩,q4⟩=>exact⟨q1,⟨fl,af,(bO e).trans q2,q3⟩,(cO rfl e).trans q4⟩
  |none,⟨q1,q2⟩=>exact⟨(bO e).trans q1,(cO rfl e).trans q2⟩
theorem Sg.ret{h:GE}{a:α}{r:List Cd}(e:h env ds=some (dec a,St W r.length))(k:At W r):Sg dec (fN h) b9 env ds W (some (a,r)):=by refine⟨k,⟨_,env,?_,.inl rfl⟩,rfl⟩;unfold fN;rw[e];rfl
theorem Sg.tail(k:Sm dec (φ as) (ρ as) W cs o)(hg:g env (St W cs.length)=some (as,St W cs.length))(hn:autoParam (as.length=n) ra2._auto_1):Sg dec (fN (bY n φ g)) (fP n ρ g) env (St W cs.length) W o:=by
 have hr:fP n ρ g env (St W cs.length)=ρ as (St W cs.length):=by unfold fP;rw[hg];exact if_pos hn
 have hs:fN (bY n φ g) env (St W cs.length)=(φ as (St W cs.length)).map λx=>(.rt (.sh x.1),env,x.2):=by unfold fN bY;rw[hg];show ((if as.length=n then φ as _ else none).map _)=_;rw[if_pos hn]
 match o,k with
 |some (a,r),⟨k1,k2,k3⟩=>exact⟨k1,⟨_,env,by rw[hs,k2];rfl,.inl rfl⟩,hr.trans k3⟩
 |none,⟨k2,k3⟩=>exact⟨by rw[hs,k2];rfl,hr.trans k3⟩
theorem Sg.over{H:GE->GE}{r:GR}{f:α->β}(k:Sm dec (φ as) (ρ as) W cs o)(hg:g env (St W cs.length)=some (as,St W cs.length))(hn:autoParam (as.length=n) ra2._auto_1)
  (hr:r env (St W cs.length)=fP n ρ g env (St W cs.length))(h0:φ as (St W cs.length)=none->H (bY n φ g) env (St W cs.length)=none)(h1:∀a r',o=some (a,r')->φ as (St W cs.length)=some (dec a,St W r'.length)->H (bY n φ g) env (St W cs.length)=some (de2 (f a),St W r'.length)):Sg de2 (fN (H (bY n φ g))) r env (St W cs.length) W (o.map λx=>(f x.1,x.2)):=by
 have Mf:r env (St W cs.length)=ρ as (St W cs.length):=by rw[hr];unfold fP;rw[hg];exact if_pos hn
 match o,k,h1 with
 |some (a,r),⟨k1,k2,k3⟩,h1=>exact⟨k1,⟨_,env,by unfold fN;rw[h1 a r rfl k2];rfl,.inl rfl⟩,Mf.trans k3⟩
 |none,⟨k2,k3⟩,_=>exact⟨by unfold fN;rw[h0 k2];rfl,Mf.trans k3⟩
end
noncomputable def DG:List Cd->Option (Int×List Cd)
 |[]=>none
 |c::r=>c.num.map λn=>(n,r)
theorem Xl{ds br:List D}{w:Str}(h:gZ [] ds=some (.str w,br)):rk [] ds=(pY [.str w]).map (λr=>(r.d,br))/\Dm [] ds=qV [.str w]:=by
 constructor
 .show (match (((((gZ [] ds).bind λx=>some ([x.1],x.2)).bind λx=>if x.1.length=1 then (pY x.1).map λr=>(r.d,x.2) else none)).map λx=>(Fl.rt (.sh x.1),[Sl.no],x.2)) with
   |some (.rt r,_,ds')=>some (r.d,ds')
   |some (.nx,_,ds')=>some (.dO,ds')
   |_=>none)=_;rw[h]
  show (match (((pY [.str w]).map λr=>(r.d,br))).map (λx=>(Fl.rt (.sh x.1),[Sl.no],x.2)) with
   |some (.rt r,_,ds')=>some (r.d,ds')
   |some (.nx,_,ds')=>some (.dO,ds')
   |_=>none)=_;cases pY [.str w]<;>rfl
 .show (((gZ [] ds).bind λx=>some ([x.1],x.2)).bind λx=>if x.1.length=1 then qV x.1 else none)=_;rw[h];rfl
theorem Aq:pY [.str ""]=none/\qV [.str ""]=some BR:=⟨by kernel_rfl,by kernel_rfl⟩
section
variable {W:List D}{cs:List Cd}
theorem Lk(h:At W cs):Sm D.int (rk []) (Dm []) W cs (DG cs):=by
 cases cs with
 |nil => obtain⟨h1,h2⟩:=Xl (M' (W:=W));exact⟨h1.trans (by rw[Aq.1];rfl),h2.trans Aq.2⟩
 |cons c r =>
  obtain⟨h1,h2⟩:=Xl h.tk;have k:=h.ne.num;show Sm _ _ _ _ _ (c.num.map λn=>(n,r))
  match c.num,k with
  |some n,⟨k1,k2,_⟩=>exact⟨h.tl,h1.trans (by rw[k1];rfl),h2.trans k2⟩
  |none,⟨k1,k2⟩=>exact⟨h1.trans (by rw[k1];rfl),h2.trans k2⟩
theorem W3{n:Int}{r:List Cd}(h:At W cs)(e:DG cs=some (n,r)):n.natAbs.log2<1920:=by
 cases cs with
 |nil=>cases e
 |cons c q =>
  have k:=h.ne.num;have e:c.num.map (λn=>(n,q))=some (n,r):=e
  match c.num,k,e with
  |some m,⟨_,_,k⟩,e=>cases e;exact k
  |none,_,e=>cases e
noncomputable def sj(k:Nat):List Cd->Option (Unit×List Cd)
 |[]=>none
 |c::r=>if c.k=k then some ((),r) else none
theorem b5i{x y z u:Str}{a b c e:Nat}(h1:x.length<=a)(h2:y.length<=b)(h3:z.length<=c)(h4:u.length<=e):(x++(y++(z++(u++ra)))).length<=a+(b+(c+(e+0))):=by rw[pJ,pJ,pJ,pJ];have:ra.length=0:=rfl;omega
theorem Ym{nm:Str}{J:En->Option Str}{env:En}{y:Str}(h:J env=some y)(hl:y.length<=16777216):pN nm (ah (rg J) ag) env=some (nm,env):=by
 have e:rg J env=some (.sh (.str y)):=by unfold rg;rw[h];exact if_pos hl
 unfold pN ah;rw[e];rfl
theorem S0{nm:Str}{J:En->Option Str}{env:En}{y:Str}(h:J env=some y)(hl:y.length<=16777216):(pN nm (ah (rg J) ag) env).map (·.1)=some nm:=by rw[Ym h hl];rfl
theorem Nb{f:En->Option Sl}{env:En}{w:Str}(h:f env=some (.sh (.str w)))(hl:(reprText w).length<=1000):lH f env=some (.sh (.str (reprText w))):=by unfold lH;rw[h];exact if_pos (by omega)
theorem Bf{f:En->Option Sl}{J:En->Option Str}{env:En}{w y:Str}(h:f env=some (.sh (.str w)))(k:J env=some y):jc f J env=some (w++y):=by unfold jc;rw[h,k];rfl
noncomputable abbrev UN:RF:=pN "BadRule" (ah (rg (jc (lH (eV 2)) (jc (eC (.str " stands where ")) (jc (lH (eV 1)) (jc (eC (.str " is asked")) lu))))) ag)
theorem iO:(" stands where ":Str).length<=100/\(" is asked":Str).length<=100/\(" is less than ":Str).length<=100/\("no rule begins with ":Str).length<=100/\("nothing is done with a rule by ":Str).length<=100:=by decide +kernel
theorem b4M{w s:Str}(h1:(reprText w).length<=1000)(h2:(reprText s).length<=1000):UN [.no,.sh (.str s),.sh (.str w)]=some (BR,[.no,.sh (.str s),.sh (.str w)]):=
 Ym (Bf (Nb rfl h1) (Bf rfl (Bf (Nb rfl h2) (Bf rfl rfl)))) (iV (b5i h1 iO.1 h2 iO.2.1) (by decide))
theorem Yx{ds br:List D}{w s:Str}(h:gZ [] ds=some (.str w,br))(h1:(reprText w).length<=1000)(h2:(reprText s).length<=1000):
  (w=s->qS [.str s] ds=some (.dO,br)/\Bt [.str s] ds=none)/\(w≠s->qS [.str s] ds=none/\Bt [.str s] ds=some BR):=by
 have e:ed 2 (bY 0 gZ aN) [.no,.sh (.str s),.no] ds=some (.nx,[.no,.sh (.str s),.sh (.str w)],br):=by show ((gZ [] ds).bind _)=_;rw[h];rfl
 have t:bI (ae gp (eV 2) (eV 1)) (List.set [.no,.sh (.str s),.sh (.str w)] 0 (.sh (.obj "Words" aa br)))=some (!decide (w=s)):=rfl;refine⟨λk=>?_,λk=>?_⟩
 .rw [decide_eq_true k] at t;constructor;.show fF Uo 0 3 [.str s] ds=_;unfold fF;rw[show Uo (C6 0 3 [.str s]) ds=some (.nx,[.no,.sh (.str s),.sh (.str w)],br) from(bO e).trans (jO t)]
  .show LF [.no,.sh (.str s),.no] ds=_;unfold LF;exact(cO rfl e).trans (ui t)
 .rw [decide_eq_false k] at t;constructor;.exact Lj ((bO e).trans (Bc t))
  .show LF [.no,.sh (.str s),.no] ds=_;unfold LF;refine(cO rfl e).trans ((D4 t).trans ?_);show (UN [.no,.sh (.str s),.sh (.str w)]).map _=_;rw[b4M h1 h2];rfl
theorem Hs{k:Nat}{s:Str}(h:At W cs)(hk:(k,s)∈KW)(hs:(reprText s).length<=1000)(hn:s ≠ ""):Sm (λ_:Unit=>D.dO) (qS [.str s]) (Bt [.str s]) W cs (sj k cs):=by
 cases cs with
 |nil => have k:=(Yx (s:=s) (M' (W:=W)) (by decide +kernel) hs).2 (λz=>hn z.symm);exact k
 |cons c r =>
  have k1:=Yx (s:=s) h.tk h.ne.rep hs;have e:=h.ne.eq _ hk;show Sm _ _ _ _ _ (if c.k=k then some ((),r) else none);by_cases z:c.k=k;.rw [if_pos z];have:=k1.1 (of_decide_eq_true (e.trans (decide_eq_true z)));exact⟨h.tl,this.1,this.2⟩
  .rw [if_neg z];exact k1.2 (of_decide_eq_false (e.trans (decide_eq_false z)))
noncomputable def tV(l:Int)(cs:List Cd):Option (Int×List Cd):=(DG cs).bind λx=>if x.1<l then none else some (x.1,x.2)
theorem WW{f:En->Option Sl}{env:En}{n:Int}(h:f env=some (.sh (.int n)))(hl:n.natAbs.log2<1920):jF f env=some (.sh (.str (nt n))):=by unfold jF;rw[h];exact if_pos hl
theorem U'{n:Int}(h:n.natAbs.log2<1920):(nt n).length<=1000:=by
 have hb:n.natAbs<2^1920:=by
  by_cases z:n.natAbs=0;.rw [z];exact Nat.two_pow_pos _
  .exact (Q0 z).mp h
 have Vy:(2:Nat)^1920<=10^900:=by decide +kernel
 unfold nt
 cases n with
 |ofNat m => rw[show (Mv m)=(m:Int) from rfl,D9];unfold lt;rw[Sy];have:=Nx (m:=m) (k:=900) (by decide) (oC hb Vy);omega
 |negSucc m => rw[show MI m = -((m+1:Nat):Int) from rfl,D9];unfold lt;rw[Sz,jj];have:=Nx (m:=m+1) (k:=900) (by decide) (oC hb Vy);omega
theorem b3N{x y z:Str}{a b c:Nat}(h1:x.length<=a)(h2:y.length<=b)(h3:z.length<=c):(x++(y++(z++ra))).length<=a+(b+(c+0)):=by rw[pJ,pJ,pJ];have:ra.length=0:=rfl;omega
theorem Ld{l:Int}(h:At W cs)(hl:l.natAbs.log2<1920):Sm D.int (rm [.int l]) (Eo [.int l]) W cs (tV l cs):=by refine Sg.run (G:=ZQ) (R:=ZR) (dec:=D.int) ?_;refine Sg.set (f:=λ(n:Int) r=>if n<l then none else some (n,r)) (Lk h) rfl rfl rfl λn r e k=>?_;have hn:=W3 h e;refine Sg.guard (p:=n<l) rfl (λ_=>?_) λ_=>Sg.ret rfl k;exact S0 (Bf (WW rfl hn) (Bf rfl (Bf (WW rfl hl) rfl))) (iV (b3N (U' hn) iO.2.2.1 (U' hl)) (by decide))
theorem b9B{l n:Int}{r:List Cd}(h:At W cs)(e:tV l cs=some (n,r)):n.natAbs.log2<1920:=by
 unfold tV at e;obtain⟨x,e1,e2⟩:=VU.mp e;split at e2;.cases e2
 .cases e2;exact W3 h e1
noncomputable def DE(cs:List Cd):Option ((Int×Int)×List Cd):=(tV 0 cs).bind λx=>(sj 8 x.2).bind λy=>(tV x.1 y.2).map λz=>((x.1,z.1),z.2)
theorem kD:(reprText "to").length<=1000/\(reprText "from").length<=1000/\(reprText "at").length<=1000/\(reprText "times").length<=1000/\(reprText ")").length<=1000:=by decide +kernel
theorem oq:("to":Str) ≠ "" /\ ("from":Str) ≠ "" /\ ("at":Str) ≠ "" /\ ("times":Str) ≠ "" /\ (")":Str) ≠ "":=by decide +kernel
theorem Sr(h:At W cs):Sm Pr (B3 []) (HH []) W cs (DE cs):=by refine Sg.run (G:=TQ) (R:=TU) (dec:=Pr) ?_;unfold DE TQ TU;show Sg Pr _ _ [.no,.no] _ _ _;refine Sg.set (i:=1) (n:=1) (as:=[.int 0]) (env:=[.no,.no]) (de2:=Pr) (g:=bH (bR (eC (.int 0))) aN) (f:=λ(a:Int) r=>(sj 8 r).bind λy=>(tV a y.2).map λz=>((a,z.1),z.2)) (Ld (l:=0) h (by decide)) rfl rfl rfl λa r e k=>?_;have ha:=b9B h e;refine Sg.expr (de2:=Pr) (n:=1) (as:=[.str "to"]) (g:=bH (bR (eC (.str "to"))) aN) (f:=λ_ r=>(tV a r).map λz=>((a,z.1),z.2)) (Hs (k:=8) (s:="to") k (by decide +kernel) kD.1 oq.1) rfl rfl λ_ r' _ k'=>?_;exact Sg.over (H:=λz=>AB (bH (bR (eV 1)) (bH z aN))) (f:=λb=>(a,b)) (Ld k' ha) rfl rfl rfl (λe=>by show ((((if (1:Nat)=1 then rm [.int a] _ else none).bind _).map _).bind _)=_;rw[if_pos rfl,e];rfl) λb uK _ e=>by show ((((if (1:Nat)=1 then rm [.int a] _ else none).bind _).map _).bind _)=_;rw[if_pos rfl,e];rfl
noncomputable def Mt(N:Int->Int->Int->Tr)(cs:List Cd):Option (Tr×List Cd):=(DG cs).bind λx=>(sj 7 x.2).bind λy=>(DE y.2).bind λz=>some (N x.1 z.1.1 z.1.2,z.2)
theorem b8Q(h:At W cs):Sm Tr.o (Ly []) (Ow []) W cs (Mt Tr.each cs):=by refine Sg.run (G:=YO) (R:=YR) (dec:=Tr.o) ?_;refine Sg.set (f:=λ(a:Int) r=>(sj 7 r).bind λy=>(DE y.2).bind λz=>some (Tr.each a z.1.1 z.1.2,z.2)) (Lk h) rfl rfl rfl λa r e k=>?_;refine Sg.expr (f:=λ_ r=>(DE r).bind λz=>some (Tr.each a z.1.1 z.1.2,z.2)) (Hs k (by decide +kernel) kD.2.1 oq.2.1) rfl rfl λ_ r' _ k'=>?_;exact Sg.set (f:=λ(z:Int×Int) r=>some (Tr.each a z.1 z.2,r)) (Sr k') rfl rfl rfl λz uK _ Jx=>Sg.ret (by kernel_rfl) Jx
theorem b8P(h:At W cs):Sm Tr.o (Lz []) (Ox []) W cs (Mt Tr.flat cs):=by refine Sg.run (G:=YQ) (R:=YS) (dec:=Tr.o) ?_;refine Sg.set (f:=λ(a:Int) r=>(sj 7 r).bind λy=>(DE y.2).bind λz=>some (Tr.flat a z.1.1 z.1.2,z.2)) (Lk h) rfl rfl rfl λa r e k=>?_;refine Sg.expr (f:=λ_ r=>(DE r).bind λz=>some (Tr.flat a z.1.1 z.1.2,z.2)) (Hs k (by decide +kernel) kD.2.1 oq.2.1) rfl rfl λ_ r' _ k'=>?_;exact Sg.set (f:=λ(z:Int×Int) r=>some (Tr.flat a z.1 z.2,r)) (Sr k') rfl rfl rfl λz uK _ Jx=>Sg.ret (by kernel_rfl) Jx
noncomputable def Wl(cs:List Cd):Option (Tr×List Cd):=(tV 1 cs).bind λx=>(sj 9 x.2).bind λy=>(DG y.2).bind λz=>(sj 10 z.2).bind λu=>(tV 1 u.2).bind λv=>if v.1>40 then none else some (Tr.blocks x.1 z.1 v.1,v.2)
theorem b4X(h:At W cs):Sm Tr.o (LD []) (Ob []) W cs (Wl cs):=by refine Sg.run (G:=Zg) (R:=Zh) (dec:=Tr.o) ?_;refine Sg.set (f:=λ(a:Int) r=>(sj 9 r).bind λy=>(DG y.2).bind λz=>(sj 10 z.2).bind λu=>(tV 1 u.2).bind λv=>if v.1>40 then none else some (Tr.blocks a z.1 v.1,v.2)) (Ld (l:=1) h (by decide)) rfl rfl rfl λa r e k=>?_;refine Sg.expr (f:=λ_ r=>(DG r).bind λz=>(sj 10 z.2).bind λu=>(tV 1 u.2).bind λv=>if v.1>40 then none else some (Tr.blocks a z.1 v.1,v.2)) (Hs k (by decide +kernel) kD.2.2.1 oq.2.2.1) rfl rfl λ_ r1 _ k1=>?_;refine Sg.set (f:=λ(b:Int) r=>(sj 10 r).bind λu=>(tV 1 u.2).bind λv=>if v.1>40 then none else some (Tr.blocks a b v.1,v.2)) (Lk k1) rfl rfl rfl λb r2 _ k2=>?_;refine Sg.expr (f:=λ_ r=>(tV 1 r).bind λv=>if v.1>40 then none else some (Tr.blocks a b v.1,v.2)) (Hs k2 (by decide +kernel) kD.2.2.2.1 oq.2.2.2.1) rfl rfl λ_ r3 _ k3=>?_;refine Sg.set (f:=λ(m:Int) r=>if m>40 then none else some (Tr.blocks a b m,r)) (Ld (l:=1) k3 (by decide)) rfl rfl rfl λm r4 _ k4=>?_;exact Sg.guard (p:=m>40) rfl (λ_=>by kernel_rfl) λ_=>Sg.ret (by kernel_rfl) k4
end
noncomputable def Gx:Int->List Cd->Option (List (Int×Int)×List Cd)
 |_,[]=>some ([],[])
 |l,c::r=>if c.col=true then match c.row with
   |none=>none
   |some q=>if q.1<l then none else (Gx (q.1+1) r).map λy=>(q::y.1,y.2)
  else some ([],c::r)
noncomputable def G4(cs:List Cd):Option (List (Int×Int)×List Cd):=(Gx 0 cs).bind λy=>if ¬(1<=(y.1.length:Int)/\(y.1.length:Int)<=20) then none else some (y.1,y.2)
section
variable {W:List D}
theorem Py{c:Cd}{cs:List Cd}{l:Int}{acc:List D}{r:Sl}(h:At W (c::cs)):oX ((ee acc l r).set 0 (.sh (.obj "Words" aa (St W (cs.length+1)))))=some c.col:=by show CZ ((gn "coming" 1 sJ (wO [.lst false W,.int ((W.length-(cs.length+1):Nat):Int)]) []).bind λy=>ie (.str ":") y.d)=_;rw[Tp h.hd.1];show CZ (ie (.str ":") (.str c.w))=_;rw[h.ne.col];rfl
theorem IM{c:Cd}{cs:List Cd}{l:Int}{acc:List D}{r:Sl}{ρ:Option Str}(h:At W (c::cs))(hr:zI [.str c.w]=ρ):
  II (ee acc l r) (St W (cs.length+1))=(p5 [.str c.w]).map (λx=>(.nx,ee acc l (.sh x.d),St W cs.length))/\Hf 1 zI (bH (bY 0 gZ aN) aN) (ee acc l r) (St W (cs.length+1))=ρ:=by
 constructor;.show ((((gZ [] (St W (cs.length+1))).bind λy=>some ([y.1],y.2)).bind λy=>if y.1.length=1 then (p5 y.1).map λr=>(r.d,y.2) else none).bind λx=>if 3<4 then some (Fl.nx,(ee acc l r).set 3 (.sh x.1),x.2) else none)=_;rw[h.tk];show (((p5 [.str c.w]).map λr=>(r.d,St W cs.length)).bind λx=>if 3<4 then some (Fl.nx,(ee acc l r).set 3 (.sh x.1),x.2) else none)=_;cases p5 [.str c.w]<;>rfl
 .show (((gZ [] (St W (cs.length+1))).bind λy=>some ([y.1],y.2)).bind λy=>if y.1.length=1 then zI y.1 else none)=_;rw[h.tk];exact hr
theorem W9:∀(cs:List Cd) (l:Int) (acc:List D) (r:Sl) (n:Nat),At W cs->cs.length<n->acc.length+cs.length<16777216->match Gx l cs with
  | some (rs,q)=>At W q/\(∃l' r',ic "Words" aa 0 oX pT n (ee acc l r) (St W cs.length)=some (.nx,ee (acc++rs.map Pr) l' r',St W q.length))/\oG "Words" aa 0 oX pT z5 n (ee acc l r) (St W cs.length)=none/\rs.length<=cs.length
  | none=>ic "Words" aa 0 oX pT n (ee acc l r) (St W cs.length)=none/\oG "Words" aa 0 oX pT z5 n (ee acc l r) (St W cs.length)=some BR
 |[],l,acc,r,n,h,hn,ha=>by
  obtain⟨m,rfl⟩:∃m,n=m+1:=⟨n-1,by omega⟩;have e:oX ((ee acc l r).set 0 (.sh (.obj "Words" aa (St W ([]:List Cd).length))))=some false:=EI;refine⟨h,⟨l,r,?_⟩,?_,fQ _⟩;.unfold ic;rw[e];simp
  .unfold oG;rw[e]
 |c::cs,l,acc,r,n,h,hn,ha=>by
  obtain⟨m,rfl⟩:∃m,n=m+1:=⟨n-1,by omega⟩;rw[jj] at hn ha;have e:=Py (l:=l) (acc:=acc) (r:=r) h
  show match (if c.col=true then match c.row with
   |none=>none
   |some q=>if q.1<l then none else (Gx (q.1+1) cs).map λy=>(q::y.1,y.2)
   else some ([],c::cs)) with
   | some (rs,q)=>At W q/\(∃l' r',ic "Words" aa 0 oX pT (m+1) (ee acc l r) (St W (cs.length+1))=some (.nx,ee (acc++rs.map Pr) l' r',St W q.length))/\oG "Words" aa 0 oX pT z5 (m+1) (ee acc l r) (St W (cs.length+1))=none/\rs.length<=cs.length+1
   | none=>ic "Words" aa 0 oX pT (m+1) (ee acc l r) (St W (cs.length+1))=none/\oG "Words" aa 0 oX pT z5 (m+1) (ee acc l r) (St W (cs.length+1))=some BR;by_cases hc:c.col=true
  .rw [if_pos hc];rw[hc] at e;have hk:=h.ne.row
   have u1:∀{x},pT (ee acc l r) (St W (cs.length+1))=x->ic "Words" aa 0 oX pT (m+1) (ee acc l r) (St W (cs.length+1))=match x with
     | some (.nx,env1,br)=>ic "Words" aa 0 oX pT m env1 br
     | some (.ct,env1,br)=>ic "Words" aa 0 oX pT m env1 br
     |some (.bk,env1,br)=>some (.nx,env1,br)
     |some (.rt r,env1,br)=>some (.rt r,env1,br)
     |none=>none:=λ{x} z=>by
    rw[<-z];conv=>lhs;unfold ic
    rw[e];try rfl
   match c.row,hk with
   |none,⟨k1,k2⟩ => obtain⟨a1,a2⟩:=IM (l:=l) (acc:=acc) (r:=r) h k2;rw[k1] at a1;refine⟨u1 (BX a1),?_⟩;unfold oG;rw[e];dsimp only;rw[show z5 (ee acc l r) (St W (cs.length+1))=some BR from BS a2]
   |some q,⟨k1,k2⟩ =>
    obtain⟨a1,a2⟩:=IM (l:=l) (acc:=acc) (r:=r) h k2;rw[k1] at a1;have a1:II (ee acc l r) (St W (cs.length+1))=some (.nx,ee acc l (.sh (Pr q)),St W cs.length):=a1;have ci:IH ((ee acc l (.sh (Pr q))).set 0 (.sh (.obj "Words" aa (St W cs.length))))=some (decide (q.1<l)):=rfl;dsimp only;by_cases hl:q.1<l;.rw [if_pos hl];rw[decide_eq_true hl] at ci;refine⟨u1 ((bO a1).trans (BX (Bc ci))),?_⟩;unfold oG;rw[e];dsimp only;rw[show z5 (ee acc l r) (St W (cs.length+1))=some BR from(cO a2 a1).trans (BS ((D4 ci).trans (by kernel_rfl)))]
    .rw [if_neg hl];rw[decide_eq_false hl] at ci;have ek:yD 0 (jy 1 (eV 3)) (ee acc l (.sh (Pr q))) (St W cs.length)=some (.nx,ee (acc++[Pr q]) l (.sh (Pr q)),St W cs.length):=by have e:jy 1 (eV 3) (ee acc l (.sh (Pr q)))=some (.nx,ee (acc++[Pr q]) l (.sh (Pr q))):=Wo.eq (XC (s:=.sh (Pr q)) (ds:=acc) rfl rfl (by omega) rfl);unfold yD;rw[e];rfl
     have eb:pT (ee acc l r) (St W (cs.length+1))=some (.nx,ee (acc++[Pr q]) (q.1+1) (.sh (Pr q)),St W cs.length):=(bO a1).trans ((bO (jO ci)).trans ((bO ek).trans rfl));have ex:z5 (ee acc l r) (St W (cs.length+1))=none:=by refine(cO a2 a1).trans ((cO (ui ci) (jO ci)).trans ?_);unfold dF b9;dsimp only;split<;>rfl
     have ih:=W9 cs (q.1+1) (acc++[Pr q]) (.sh (Pr q)) m h.tl (by omega) (by rw[mU,KE];omega)
     have u2:oG "Words" aa 0 oX pT z5 (m+1) (ee acc l r) (St W (cs.length+1))=oG "Words" aa 0 oX pT z5 m (ee (acc++[Pr q]) (q.1+1) (.sh (Pr q))) (St W cs.length):=by
      conv=>lhs;unfold oG
      rw[e];dsimp only;rw[ex];dsimp only;rw[eb]
     match Gx (q.1+1) cs,ih with
     |some (rs,t),⟨i1,⟨l',r',i2⟩,i3,i4⟩ => refine⟨i1,⟨l',r',(u1 eb).trans (i2.trans ?_)⟩,u2.trans i3,by show (q::rs).length<=_;rw[jj];omega⟩;rw[pG];rfl
     |none,⟨i1,i2⟩=>exact⟨(u1 eb).trans i1,u2.trans i2⟩
  .rw [if_neg hc];rw[KL _ |>.mp hc] at e;refine⟨h,⟨l,r,?_⟩,?_,by simp⟩;.unfold ic;rw[e];simp
   .unfold oG;rw[e]
theorem Xa{cs:List Cd}(h:At W cs):Sm (λrs:List (Int×Int)=>D.lst false (rs.map Pr)) (qU []) (HG []) W cs (G4 cs):=by
 refine Sg.run (G:=Gb) (R:=Ls) ?_;have hf:=h.VD;have k:=W9 cs 0 [] .no 1000 h (by omega) (by simp;omega);show Sg _ _ _ [.no,.no,.no,.no] _ _ _;unfold G4 Gb Ls
 match Gx 0 cs,k with
 |none,⟨k1,k2⟩ => exact⟨(bO (env1:=[.no,.ow [],.no,.no]) rfl).trans ((bO (env1:=ee [] 0 .no) rfl).trans (BX k1)),(cO rfl (env1:=[.no,.ow [],.no,.no]) rfl).trans ((cO rfl (env1:=ee [] 0 .no) rfl).trans (BS k2))⟩
 |some (rs,q),⟨k0,⟨l',r',k1⟩,k2,k3⟩ =>
  have ht:EC ((ee ([]++rs.map Pr) l' r').set 0 (.sh (.obj "Words" aa (St W q.length))))=some (decide ¬((1:Int)<=rs.length/\(rs.length:Int)<=20)):=by refine z6.trans ?_;rw[FC,kN,decide_not]
  have key:Sg (λrs:List (Int×Int)=>D.lst false (rs.map Pr)) (cR (aY "Words" aa 0 EC jH bq) (K5 1)) (dF (dJ "Words" aa 0 EC (sZ (pN "BadRule" (ah (eC (.str "there are no rows, or too many")) ag))) b9) (aY "Words" aa 0 EC jH bq) b9) (ee ([]++rs.map Pr) l' r') (St W q.length) W (if ¬((1:Int)<=rs.length/\(rs.length:Int)<=20) then none else some (rs,q)):=
   Sg.guard (p:=¬((1:Int)<=rs.length/\(rs.length:Int)<=20)) ht (λ_=>by kernel_rfl) λ_=>⟨k0,⟨_,_,rfl,.inl rfl⟩,rfl⟩;show Sg _ _ _ _ _ _ (if ¬((1:Int)<=rs.length/\(rs.length:Int)<=20) then none else some (rs,q))
  match (if ¬((1:Int)<=rs.length/\(rs.length:Int)<=20) then none else some (rs,q)),key with
  |some (b,uK),⟨q1,⟨fl,af,q2,q3⟩,q4⟩=>exact⟨q1,⟨fl,af,(bO (env1:=[.no,.ow [],.no,.no]) rfl).trans ((bO (env1:=ee [] 0 .no) rfl).trans ((bO k1).trans q2)),q3⟩,(cO rfl (env1:=[.no,.ow [],.no,.no]) rfl).trans ((cO rfl (env1:=ee [] 0 .no) rfl).trans ((cO k2 k1).trans q4))⟩
  |none,⟨q1,q2⟩=>exact⟨(bO (env1:=[.no,.ow [],.no,.no]) rfl).trans ((bO (env1:=ee [] 0 .no) rfl).trans ((bO k1).trans q1)),(cO rfl (env1:=[.no,.ow [],.no,.no]) rfl).trans ((cO rfl (env1:=ee [] 0 .no) rfl).trans ((cO k2 k1).trans q2))⟩
end
noncomputable abbrev Rec:=Int->List Cd->Option (Tr×List Cd)
noncomputable def L6(rec:Rec)(one:Tr)(a:Int):List Cd->Option (Tr×List Cd)
 |[]=>none
 | c::r=>if c.k=12 then (rec a r).map λx=>(.plus one x.1,x.2) else
  if c.k=13 then (rec a r).map λx=>(.or one x.1,x.2) else
  if c.k=14 then (rec a r).map λx=>(.max one x.1,x.2) else
  if c.k=15 then (DE r).bind λz=>some (.only one z.1.1 z.1.2,z.2) else
  if c.k=16 then (tV 0 r).map λx=>(.after one x.1,x.2) else
  if c.k=17 then some (.roomy one,r) else
  if c.k=18 then (DG r).map λx=>(.fee one x.1,x.2) else none
noncomputable def RL(rec:Rec)(a:Int)(cs:List Cd):Option (Tr×List Cd):=if a>20 then none else (rec (a+1) cs).bind λx=>(L6 rec x.1 (a+1) x.2).bind λy=>(sj 11 y.2).bind λz=>some (y.1,z.2)
noncomputable def Pw(rec:Rec)(a:Int):List Cd->Option (Tr×List Cd)
 |[]=>none
 | c::r=>if c.k=1 then RL rec a r else
  if c.k=2 then Mt Tr.each r else
  if c.k=3 then Mt Tr.flat r else
  if c.k=4 then (G4 r).map λx=>(.bands x.1,x.2) else
  if c.k=5 then (G4 r).map λx=>(.steps x.1,x.2) else
  if c.k=6 then Wl r else
  if ¬c.nm=true then none else some (.name c.w,r)
noncomputable def G5:Nat->Rec
 |0=>λ_ _=>none
 |n+1=>Pw (G5 n)
theorem Jg:∀t:Tr,t.o≠.dO:=λt z=>by cases t<;>cases z
theorem lr{o:Option (Tr×List Cd)}:∀b r,o=some (b,r)->b.o≠D.dO:=λb _ _=>Jg b
section
variable {W:List D}{kp:List D->List D->Option (D×List D)}{kr:List D->List D->Option Str}{rec:Rec}
theorem Sg.take{β:Type}{de2:β->D}{F G:GS}{R:GR}{env env1:En}{ds br:List D}{o2:Option (β×List Cd)}(e:F env ds=some (.nx,env1,br))(q:Sg de2 G R env1 br W o2):Sg de2 (cR F G) (dF b9 F R) env ds W o2:=by
 match o2,q with
 |some (b,r'),⟨q1,⟨fl,af,q2,q3⟩,q4⟩=>exact⟨q1,⟨fl,af,(bO e).trans q2,q3⟩,(cO rfl e).trans q4⟩
 |none,⟨q1,q2⟩=>exact⟨(bO e).trans q1,(cO rfl e).trans q2⟩
theorem vA{c:Cd}{k:Nat}{s:Str}{i:Nat}{env:En}(h:Wf c)(hk:(k,s)∈KW)(he:env[i]?=some (.sh (.str c.w))):bI (ae bJ (eV i) (eC (.str s))) env=some (decide (c.k=k)):=by
 rw[<-h.eq _ hk];have e1:eV i env=some (.sh (.str c.w)):=by unfold eV;rw[he];rfl
 unfold bI ae;rw[e1];rfl
theorem b8O{one:Tr}{a:Int}(K:∀cs,At W cs->Sm Tr.o (kp [.int a]) (kr [.int a]) W cs (rec a cs)){cs:List Cd}(h:At W cs):Sm Tr.o (Ga kp [one.o,.int a]) (LA kp kr [one.o,.int a]) W cs (L6 rec one a cs):=by
 refine Sg.run (G:=TN kp) (R:=TR kp kr) (dec:=Tr.o) ?_;show Sg _ _ _ [.sh one.o,.no,.sh (.int a),.no,.no] _ _ _;unfold TN TR
 cases cs with
 |nil =>
  have e:ed 3 (bY 0 gZ aN) [.sh one.o,.no,.sh (.int a),.no,.no] (St W 0)=some (.nx,[.sh one.o,.no,.sh (.int a),.sh (.str ""),.no],[.lst false W,.int ((W.length:Int)+1)]):=by show ((gZ [] (St W 0)).bind _)=_;rw[M'];rfl
  exact⟨(bO e).trans (by kernel_rfl),(cO rfl e).trans (by kernel_rfl)⟩
 |cons c r =>
  have e:ed 3 (bY 0 gZ aN) [.sh one.o,.no,.sh (.int a),.no,.no] (St W (r.length+1))=some (.nx,[.sh one.o,.no,.sh (.int a),.sh (.str c.w),.no],St W r.length):=by show ((gZ [] (St W (r.length+1))).bind _)=_;rw[h.tk];rfl
  have w:=h.ne;have k:=h.tl;have last:Sg (α:=Tr) Tr.o jH (sZ (pN "BadRule" (ah (rg (jc (eC (.str "nothing is done with a rule by ")) (jc (lH (eV 3)) lu))) ag))) [.sh one.o,.no,.sh (.int a),.sh (.str c.w),.no] (St W r.length) W none:=by refine⟨rfl,S0 (Bf rfl (Bf (Nb (w:=c.w) rfl w.rep) (k:=rfl))) ?_⟩;rw[pJ,pJ];have:=iO.2.2.2.2;have:=w.rep;have:ra.length=0:=rfl;omega
  refine Sg.take e ?_;unfold L6
  exact
   Sg.alt (c:="Words") (ns:=aa) (j:=1) (p:=c.k=12) (vA (i:=3) (k:=12) (s:="plus") w (by decide +kernel) rfl) (λ_=>Sg.over (g:=bH (bR (eV 2)) aN) (n:=1) (as:=[.int a]) (H:=λz=>mP "Sum" 2 C7 Lh (bH (bR (eV 0)) (bH z aN))) (f:=λx=>Tr.plus one x) (K r k) rfl rfl rfl (λe=>by show ((((if (1:Nat)=1 then kp [.int a] _ else none).bind _).map _).bind _)=_;rw[if_pos rfl,e];rfl) λb uK _ e=>by show ((((if (1:Nat)=1 then kp [.int a] _ else none).bind _).map _).bind _)=_;rw[if_pos rfl,e];kernel_rfl) (λ_=>lr) λ_ =>
   Sg.alt (c:="Words") (ns:=aa) (j:=1) (p:=c.k=13) (vA (i:=3) (k:=13) (s:="or") w (by decide +kernel) rfl) (λ_=>Sg.over (g:=bH (bR (eV 2)) aN) (n:=1) (as:=[.int a]) (H:=λz=>mP "Cheaper" 2 Dk Lu (bH (bR (eV 0)) (bH z aN))) (f:=λx=>Tr.or one x) (K r k) rfl rfl rfl (λe=>by show ((((if (1:Nat)=1 then kp [.int a] _ else none).bind _).map _).bind _)=_;rw[if_pos rfl,e];rfl) λb uK _ e=>by show ((((if (1:Nat)=1 then kp [.int a] _ else none).bind _).map _).bind _)=_;rw[if_pos rfl,e];kernel_rfl) (λ_=>lr) λ_ =>
   Sg.alt (c:="Words") (ns:=aa) (j:=1) (p:=c.k=14) (vA (i:=3) (k:=14) (s:="max") w (by decide +kernel) rfl) (λ_=>Sg.over (g:=bH (bR (eV 2)) aN) (n:=1) (as:=[.int a]) (H:=λz=>mP "Dearer" 2 C8 Lx (bH (bR (eV 0)) (bH z aN))) (f:=λx=>Tr.max one x) (K r k) rfl rfl rfl (λe=>by show ((((if (1:Nat)=1 then kp [.int a] _ else none).bind _).map _).bind _)=_;rw[if_pos rfl,e];rfl) λb uK _ e=>by show ((((if (1:Nat)=1 then kp [.int a] _ else none).bind _).map _).bind _)=_;rw[if_pos rfl,e];kernel_rfl) (λ_=>lr) λ_ =>
   Sg.alt (c:="Words") (ns:=aa) (j:=1) (p:=c.k=15) (vA (i:=3) (k:=15) (s:="only") w (by decide +kernel) rfl) (λ_=>Sg.set (i:=4) (n:=0) (as:=[]) (g:=aN) (env:=[.sh one.o,.no,.sh (.int a),.sh (.str c.w),.no]) (f:=λ(z:Int×Int) r=>some (Tr.only one z.1 z.2,r)) (Sr k) rfl rfl rfl λz uK _ Jx=>Sg.ret (by kernel_rfl) Jx) (λ_=>lr) λ_ =>
   Sg.alt (c:="Words") (ns:=aa) (j:=1) (p:=c.k=16) (vA (i:=3) (k:=16) (s:="after") w (by decide +kernel) rfl) (λ_=>Sg.over (g:=bH (bR (eC (.int 0))) aN) (n:=1) (as:=[.int 0]) (H:=λz=>mP "After" 2 Bm Lq (bH (bR (eV 0)) (bH z aN))) (f:=λx:Int=>Tr.after one x) (Ld (l:=0) k (by decide)) rfl rfl rfl (λe=>by show ((((if (1:Nat)=1 then rm [.int 0] _ else none).bind _).map _).bind _)=_;rw[if_pos rfl,e];rfl) λb uK _ e=>by show ((((if (1:Nat)=1 then rm [.int 0] _ else none).bind _).map _).bind _)=_;rw[if_pos rfl,e];kernel_rfl) (λ_=>lr) λ_ =>
   Sg.S7 (c:="Words") (ns:=aa) (j:=1) (p:=c.k=17) (de2:=Tr.o) (b:=Tr.roomy one) (s:=.sh (Tr.roomy one).o) (vA (i:=3) (k:=17) (s:="roomy") w (by decide +kernel) rfl) (λ_=>⟨by kernel_rfl,rfl,k⟩) λ_ =>
   Sg.alt (c:="Words") (ns:=aa) (j:=1) (p:=c.k=18) (vA (i:=3) (k:=18) (s:="fee") w (by decide +kernel) rfl) (λ_=>Sg.over (g:=aN) (n:=0) (as:=[]) (H:=λz=>mP "Fee" 2 Bi Lg (bH (bR (eV 0)) (bH z aN))) (f:=λx:Int=>Tr.fee one x) (Lk k) rfl rfl rfl (λe=>by show ((((if (0:Nat)=0 then rk [] _ else none).bind _).map _).bind _)=_;rw[if_pos rfl,e];rfl) λb uK _ e=>by show ((((if (0:Nat)=0 then rk [] _ else none).bind _).map _).bind _)=_;rw[if_pos rfl,e];kernel_rfl) (λ_=>lr) λ_ =>
   last
end
section
variable {W:List D}{kp:List D->List D->Option (D×List D)}{kr:List D->List D->Option Str}{rec:Rec}
theorem b3e{a:Int}(K:∀b,b<=21->a<b->∀cs,At W cs->Sm Tr.o (kp [.int b]) (kr [.int b]) W cs (rec b cs)){cs:List Cd}(h:At W cs):Sm Tr.o (Gk kp [.int a]) (LI kp kr [.int a]) W cs (RL rec a cs):=by refine Sg.run (G:=Ux kp) (R:=Uy kp kr) (dec:=Tr.o) ?_;show Sg _ _ _ [.no,.sh (.int a),.no,.no] _ _ _;unfold Ux Uy RL;refine Sg.guard (p:=a>20) rfl (λ_=>by kernel_rfl) λha=>?_;have K1:=K (a+1) (by omega) (by omega);refine Sg.set (i:=2) (n:=1) (as:=[.int (a+1)]) (dec:=Tr.o) (f:=λ(x:Tr) r=>(L6 rec x (a+1) r).bind λy=>(sj 11 y.2).bind λz=>some (y.1,z.2)) (K1 cs h) rfl rfl rfl λx r _ k=>?_;refine Sg.set (i:=3) (n:=2) (as:=[x.o,.int (a+1)]) (dec:=Tr.o) (f:=λ(y:Tr) r=>(sj 11 r).bind λz=>some (y,z.2)) (b8O K1 k) rfl rfl rfl λy r _ k=>?_;exact Sg.expr (f:=λ_ r=>some (y,r)) (Hs (k:=11) (s:=")") k (by decide +kernel) kD.2.2.2.2 oq.2.2.2.2) rfl rfl λ_ r _ k=>Sg.ret rfl k
theorem YN{cs r:List Cd}{rs:List (Int×Int)}(e:G4 cs=some (rs,r)):rs.length<=60:=by
 unfold G4 at e;obtain⟨x,_,e⟩:=VU.mp e;split at e;.cases e
 .cases e;omega
theorem b6O{a:Int}(K:∀b,b<=21->a<b->∀cs,At W cs->Sm Tr.o (kp [.int b]) (kr [.int b]) W cs (rec b cs)){cs:List Cd}(h:At W cs):Sm Tr.o (Up kp [.int a]) (Uj kp kr [.int a]) W cs (Pw rec a cs):=by
 refine Sg.run (G:=Bs kp) (R:=Gg kp kr) (dec:=Tr.o) ?_;show Sg _ _ _ [.no,.sh (.int a),.no] _ _ _;unfold Bs Gg
 cases cs with
 |nil =>
  have e:ed 2 (bY 0 gZ aN) [.no,.sh (.int a),.no] (St W 0)=some (.nx,[.no,.sh (.int a),.sh (.str "")],[.lst false W,.int ((W.length:Int)+1)]):=by show ((gZ [] (St W 0)).bind _)=_;rw[M'];rfl
  exact⟨(bO e).trans (by kernel_rfl),(cO rfl e).trans (by kernel_rfl)⟩
 |cons c r =>
  have e:ed 2 (bY 0 gZ aN) [.no,.sh (.int a),.no] (St W (r.length+1))=some (.nx,[.no,.sh (.int a),.sh (.str c.w)],St W r.length):=by show ((gZ [] (St W (r.length+1))).bind _)=_;rw[h.tk];rfl
  have w:=h.ne;have k:=h.tl;have isn:nR (iB (dH 1 Dh (ah (eV 2) ag))) [.sh (.obj "Words" aa (St W r.length)),.sh (.int a),.sh (.str c.w)]=some (decide ¬c.nm=true):=by have e1:dH 1 Dh (ah (eV 2) ag) [.sh (.obj "Words" aa (St W r.length)),.sh (.int a),.sh (.str c.w)]=some (.sh (.bl c.nm)):=w.nm;unfold nR;rw[Pa e1];cases c.nm<;>rfl
  have ras:(pN "BadRule" (ah (rg (jc (eC (.str "no rule begins with ")) (jc (lH (eV 2)) lu))) ag) [.no,.sh (.int a),.sh (.str c.w)]).map (·.1)=some BR:=by refine S0 (Bf rfl (Bf (Nb (w:=c.w) rfl w.rep) (k:=rfl))) ?_;rw[pJ,pJ];have:=iO.2.2.2.1;have:=w.rep;have:ra.length=0:=rfl;omega
  refine Sg.take e ?_;unfold Pw
  exact
   Sg.alt (c:="Words") (ns:=aa) (j:=0) (p:=c.k=1) (vA (i:=2) (k:=1) (s:="(") w (by decide +kernel) rfl) (λ_=>Sg.tail (as:=[.int a]) (n:=1) (g:=bH (bR (eV 1)) aN) (b3e K k) rfl rfl) (λ_=>lr) λ_ =>
   Sg.alt (c:="Words") (ns:=aa) (j:=0) (p:=c.k=2) (vA (i:=2) (k:=2) (s:="each") w (by decide +kernel) rfl) (λ_=>Sg.tail (as:=[]) (n:=0) (g:=aN) (b8Q k) rfl rfl) (λ_=>lr) λ_ =>
   Sg.alt (c:="Words") (ns:=aa) (j:=0) (p:=c.k=3) (vA (i:=2) (k:=3) (s:="flat") w (by decide +kernel) rfl) (λ_=>Sg.tail (as:=[]) (n:=0) (g:=aN) (b8P k) rfl rfl) (λ_=>lr) λ_ =>
   Sg.alt (c:="Words") (ns:=aa) (j:=0) (p:=c.k=4) (vA (i:=2) (k:=4) (s:="bands") w (by decide +kernel) rfl) (λ_=>Sg.over (g:=aN) (n:=0) (as:=[]) (H:=λz=>mP "Bands" 1 pO Bo (bH z aN)) (f:=λrs:List (Int×Int)=>Tr.bands rs) (Xa k) rfl rfl rfl (λe=>by show ((((if (0:Nat)=0 then qU [] _ else none).bind _)).bind _)=_;rw[if_pos rfl,e];rfl) λb uK e0 e=>by show ((((if (0:Nat)=0 then qU [] _ else none).bind λy=>some ([y.1],y.2))).bind λy=>if y.1.length=1 then (Bo y.1).map λfs=>(D.obj "Bands" pO fs,y.2) else none)=_;rw[if_pos rfl,e];show ((Bo [.lst false (b.map Pr)]).map λfs=>(D.obj "Bands" pO fs,St W uK.length))=_;rw[Yg b (YN e0)];rfl) (λ_=>lr) λ_ =>
   Sg.alt (c:="Words") (ns:=aa) (j:=0) (p:=c.k=5) (vA (i:=2) (k:=5) (s:="steps") w (by decide +kernel) rfl) (λ_=>Sg.over (g:=aN) (n:=0) (as:=[]) (H:=λz=>mP "Steps" 1 pP Bp (bH z aN)) (f:=λrs:List (Int×Int)=>Tr.steps rs) (Xa k) rfl rfl rfl (λe=>by show ((((if (0:Nat)=0 then qU [] _ else none).bind _)).bind _)=_;rw[if_pos rfl,e];rfl) λb uK e0 e=>by show ((((if (0:Nat)=0 then qU [] _ else none).bind λy=>some ([y.1],y.2))).bind λy=>if y.1.length=1 then (Bp y.1).map λfs=>(D.obj "Steps" pP fs,y.2) else none)=_;rw[if_pos rfl,e];show ((Bp [.lst false (b.map Pr)]).map λfs=>(D.obj "Steps" pP fs,St W uK.length))=_;rw[Yh b (YN e0)];rfl) (λ_=>lr) λ_ =>
   Sg.alt (c:="Words") (ns:=aa) (j:=0) (p:=c.k=6) (vA (i:=2) (k:=6) (s:="blocks") w (by decide +kernel) rfl) (λ_=>Sg.tail (as:=[]) (n:=0) (g:=aN) (b4X k) rfl rfl) (λ_=>lr) λ_ =>
   Sg.guard (c:="Words") (ns:=aa) (j:=0) (p:=¬c.nm=true) isn (λ_=>ras) λ_=>Sg.ret (by kernel_rfl) k
theorem Xb:∀(n:Nat) (a:Int),a<=21->22-a<=n->∀cs,At W cs->Sm Tr.o (iK n [.int a]) (pZ n [.int a]) W cs (G5 n a cs)
 |0,a,ha,hn,_,_=>absurd hn (by omega)
 |n+1,a,ha,hn,cs,h=>b6O (λb hb hab cs h=>Xb n b hb (by omega) cs h) h
end
noncomputable def Tr.ws:Tr->List Str
 | .each p lo hi=>["each",nt p,"from",nt lo,"to",nt hi]
 | .flat p lo hi=>["flat",nt p,"from",nt lo,"to",nt hi]
 | .bands rs=>"bands" :: rs.map Rt
 | .steps rs=>"steps" :: rs.map Rt
 | .blocks s p m=>["blocks",nt s,"at",nt p,"times",nt m]
 | .name n=>[n]
 | .plus a b=>"(" :: (a.ws++("plus":Str)::(b.ws++[(")":Str)]))
 | .or a b=>"(" :: (a.ws++("or":Str)::(b.ws++[(")":Str)]))
 | .max a b=>"(" :: (a.ws++("max":Str)::(b.ws++[(")":Str)]))
 | .only a lo hi=>"(" :: (a.ws++[("only":Str),nt lo,"to",nt hi,")"])
 | .after a c=>"(" :: (a.ws++[("after":Str),nt c,")"])
 | .roomy a=>"(" :: (a.ws++[("roomy":Str),")"])
 | .fee a p=>"(" :: (a.ws++[("fee":Str),nt p,")"])
theorem BN:∀t:Tr,t.ws≠[]:=λt z=>by cases t<;>simp[Tr.ws] at z
theorem wB{s:Str}:∀{A B:List Str},A≠[]->B≠[]->lt (dX s (A++B))=lt (dX s A)++(lt s++lt (dX s B))
 |[],_,h,_=>absurd rfl h
 |_,[],_,h=>absurd rfl h
 |[a],b::B,_,_=>by show lt (dX s (a::b::B))=_;rw[FT,zE]
 |a::c::A,b::B,_,_=>by show lt (dX s (a::c::(A++b::B)))=_;have ih:=wB (s:=s) (A:=c::A) (B:=b::B) (λz=>nomatch z) (λz=>nomatch z);rw[FT,show c::(A++b::B)=(c::A)++b::B from rfl,ih,FT];simp only[pG]
theorem qP{s a:Str}{B:List Str}(h:B≠[]):lt (dX s (a::B))=lt a++(lt s++lt (dX s B)):=wB (A:=[a]) (λz=>nomatch z) h
theorem Ib:∀t:Tr,t.ok->t.tx=dX " " t.ws:=by
 intro t;have n1:∀{a:Str} {A:List Str},a::A≠[]:=λz=>nomatch z;have n2:∀{A:List Str} {a:Str} {B:List Str},A++a::B≠[]:=λ{A a B} z=>by simp at z
 induction t with
 |each=>exact λ_=>rfl
 |flat=>exact λ_=>rfl
 |blocks=>exact λ_=>rfl
 |name=>exact λ_=>rfl
 |bands rs =>
  intro h
  match rs,h.1.1 with
  |q::r,_=>exact wy (by simp only[Tr.tx,Tr.ws,jM,qP n1,zE])
 |steps rs =>
  intro h
  match rs,h.1.1 with
  |q::r,_=>exact wy (by simp only[Tr.tx,Tr.ws,jM,qP n1,zE])
 |plus a b eJ my=>exact λh=>wy (by simp only[Tr.tx,Tr.ws,qP n1,qP n2,wB (BN a) n1,wB (BN b) n1,zE,eJ h.1,my h.2,pG])
 |or a b eJ my=>exact λh=>wy (by simp only[Tr.tx,Tr.ws,qP n1,qP n2,wB (BN a) n1,wB (BN b) n1,zE,eJ h.1,my h.2,pG])
 |max a b eJ my=>exact λh=>wy (by simp only[Tr.tx,Tr.ws,qP n1,qP n2,wB (BN a) n1,wB (BN b) n1,zE,eJ h.1,my h.2,pG])
 |only a lo hi eJ=>exact λh=>wy (by simp only[Tr.tx,Tr.ws,qP n1,qP n2,wB (BN a) n1,zE,eJ h.1,pG])
 |after a c eJ=>exact λh=>wy (by simp only[Tr.tx,Tr.ws,qP n1,qP n2,wB (BN a) n1,zE,eJ h.1,pG])
 |roomy a eJ=>exact λh=>wy (by simp only[Tr.tx,Tr.ws,qP n1,qP n2,wB (BN a) n1,zE,eJ h,pG])
 |fee a p eJ=>exact λh=>wy (by simp only[Tr.tx,Tr.ws,qP n1,qP n2,wB (BN a) n1,zE,eJ h.1,pG])
noncomputable def qh(n:Int):Bool:=decide (-(10^50)<=n)&&decide (n<=10^50)
theorem sH{n:Int}(h:qh n=true):Sh n:=by unfold qh at h;rw[jN] at h;exact⟨of_decide_eq_true h.1,of_decide_eq_true h.2⟩
noncomputable def L1(rs:List (Int×Int)):Bool:=!rs.isEmpty&&DV rs.length 9&&rs.all λq=>qh q.1&&qh q.2
theorem W7{rs:List (Int×Int)}(h:L1 rs=true):(rs≠[]/\rs.length<=9)/\∀q∈rs,Sh q.1/\Sh q.2:=by unfold L1 at h;simp only[jN,Bool.not_eq_true',VZ,Nat.ble_eq,q9] at h;exact⟨⟨h.1.1,h.1.2⟩,λq hq=>⟨sH (h.2 q hq).1,sH (h.2 q hq).2⟩⟩
noncomputable def Tr.nI:Tr->Bool
 | .each p lo hi=>qh p&&(qh lo&&qh hi)
 | .flat p lo hi=>qh p&&(qh lo&&qh hi)
 | .bands rs=>L1 rs
 | .steps rs=>L1 rs
 | .blocks s p m=>qh s&&(qh p&&qh m)
 | .name n=>DV n.length 100
 | .plus a b=>a.nI&&b.nI
 | .or a b=>a.nI&&b.nI
 | .max a b=>a.nI&&b.nI
 | .only a lo hi=>a.nI&&(qh lo&&qh hi)
 | .after a c=>a.nI&&qh c
 | .roomy a=>a.nI
 | .fee a p=>a.nI&&qh p
theorem b9e:∀t:Tr,t.nI=true->t.ok:=by
 intro t
 induction t with
 |each p lo hi=>exact λh=>by simp only[Tr.nI,jN] at h;exact⟨sH h.1,sH h.2.1,sH h.2.2⟩
 |flat p lo hi=>exact λh=>by simp only[Tr.nI,jN] at h;exact⟨sH h.1,sH h.2.1,sH h.2.2⟩
 |bands rs=>exact λh=>W7 h
 |steps rs=>exact λh=>W7 h
 |blocks p lo hi=>exact λh=>by simp only[Tr.nI,jN] at h;exact⟨sH h.1,sH h.2.1,sH h.2.2⟩
 |name n=>exact λh=>CU h
 |plus a b eJ my=>exact λh=>by simp only[Tr.nI,jN] at h;exact⟨eJ h.1,my h.2⟩
 |or a b eJ my=>exact λh=>by simp only[Tr.nI,jN] at h;exact⟨eJ h.1,my h.2⟩
 |max a b eJ my=>exact λh=>by simp only[Tr.nI,jN] at h;exact⟨eJ h.1,my h.2⟩
 |only a lo hi eJ=>exact λh=>by simp only[Tr.nI,jN] at h;exact⟨eJ h.1,sH h.2.1,sH h.2.2⟩
 |after a c eJ=>exact λh=>by simp only[Tr.nI,jN] at h;exact⟨eJ h.1,sH h.2⟩
 |roomy a eJ=>exact λh=>eJ h
 |fee a p eJ=>exact λh=>by simp only[Tr.nI,jN] at h;exact⟨eJ h.1,sH h.2⟩
noncomputable def CD:List Cd:=[⟨⟨#[40]⟩,1,none,none,false,false⟩,⟨⟨#[101,97,99,104]⟩,2,none,none,false,false⟩,⟨⟨#[51]⟩,0,some 3,none,false,false⟩,⟨⟨#[102,114,111,109]⟩,7,none,none,false,false⟩,⟨⟨#[48]⟩,0,some 0,none,false,false⟩,⟨⟨#[116,111]⟩,8,none,none,false,false⟩,⟨⟨#[57]⟩,0,some 9,none,false,false⟩,⟨⟨#[111,114]⟩,13,none,none,false,false⟩,⟨⟨#[115,116,101,112,115]⟩,5,none,none,false,false⟩,⟨⟨#[52,58,49]⟩,0,none,some (4,1),true,false⟩,⟨⟨#[57,58,50]⟩,0,none,some (9,2),true,false⟩,⟨⟨#[41]⟩,11,none,none,false,false⟩,⟨⟨#[112,108,117,115]⟩,12,none,none,false,false⟩,⟨⟨#[98,108,111,99,107,115]⟩,6,none,none,false,false⟩,⟨⟨#[50]⟩,0,some 2,none,false,false⟩,⟨⟨#[97,116]⟩,9,none,none,false,false⟩,⟨⟨#[53]⟩,0,some 5,none,false,false⟩,⟨⟨#[116,105,109,101,115]⟩,10,none,none,false,false⟩,⟨⟨#[111,110,108,121]⟩,15,none,none,false,false⟩,⟨⟨#[49]⟩,0,some 1,none,false,false⟩,⟨⟨#[52]⟩,0,some 4,none,false,false⟩,⟨⟨#[112]⟩,0,none,none,false,true⟩,⟨⟨#[114,111,111,109,121]⟩,17,none,none,false,false⟩,⟨⟨#[113]⟩,0,none,none,false,true⟩,⟨⟨#[102,101,101]⟩,18,none,none,false,false⟩]
noncomputable def pA:List Nat:=[0,0,1,2,3,4,5,6,7,8,9,10,11,12,0,13,14,15,16,17,2,18,19,5,20,11,11]
noncomputable abbrev Dv:List Nat:=[0,1,2,3,4,5,6,7,8,9,10,11,12,13,14,15,16,17,18,19,20,21,22,23,24,25,26]
noncomputable abbrev OT:List Nat:=[0,1,2,3,4,5,6,7,8,9,10,11,12,13,14,15,16,17,18,19,20]
noncomputable def c00:Cd:=⟨⟨#[]⟩,0,none,none,false,false⟩
noncomputable def cd(j:Nat):Cd:=CD.getD j c00
noncomputable def wd(j:Nat):Str:=(cd j).w
noncomputable def O7(c:Cd):Bool:=KW.all (λx=>decide (c.w=x.2)==decide (c.k=x.1))&&(match c.num,pY [.str c.w],qV [.str c.w] with
  |some n,some (.sh (.int m)),none=>decide (m=n)&&decide (n.natAbs.log2<1920)
  |none,none,some e=>decide (e=BR)
  |_,_,_=>false)&&(match c.row,p5 [.str c.w],zI [.str c.w] with
  |some q,some (.sh (.tup [.int a,.int b])),none=>decide (a=q.1)&&decide (b=q.2)
  |none,none,some e=>decide (e=BR)
  | _,_,_=>false)&&(match ie (.str ":") (.str c.w) with
  |some (.sh (.bl b))=>b==c.col
  |_=>false)&&(match Dh [.str c.w] with
  |some (.sh (.bl b))=>b==c.nm
  |_=>false)&&decide ((reprText c.w).length<=1000)
theorem b8s{c:Cd}(h:O7 c=true):Wf c:=by
 unfold O7 at h;simp only[jN] at h;obtain⟨⟨⟨⟨⟨h1,h2⟩,h3⟩,h4⟩,h5⟩,h6⟩:=h;refine⟨λx hx=>?_,?_,?_,?_,?_,of_decide_eq_true h6⟩;.exact beq_iff_eq.mp (q9.mp h1 x hx)
 .split at h2;.rename_i n m e1 e2 e3;rw[jN] at h2;obtain⟨z1,z2⟩:=h2;obtain rfl:=of_decide_eq_true z1;rw[e1];exact⟨e2,e3,of_decide_eq_true z2⟩
  .rename_i e e1 e2 e3;rw[e1];exact⟨e2,by rw[e3,of_decide_eq_true h2]⟩
  .cases h2
 .split at h3;.rename_i q a b e1 e2 e3;rw[jN] at h3;obtain⟨z1,z2⟩:=h3;obtain rfl:=of_decide_eq_true z1;obtain rfl:=of_decide_eq_true z2;rw[e1];exact⟨e2,e3⟩
  .rename_i e e1 e2 e3;rw[e1];exact⟨e2,by rw[e3,of_decide_eq_true h3]⟩
  .cases h3
 .split at h4;.rename_i b e;rw[e,beq_iff_eq.mp h4]
  .cases h4
 .split at h5;.rename_i b e;rw[e,beq_iff_eq.mp h5]
  .cases h5
theorem Km:CD.all O7=true:=by kernel_rfl
theorem Kn{j:Nat}(h:j<25):Wf (cd j):=by
 have hl:CD.length=25:=by kernel_rfl
 unfold cd;rw[Wi,v5 (by rw[hl];exact h)];exact b8s (q9.mp Km _ (KN _))
noncomputable def CM(js:List Nat):Bool:=match G5 23 0 (js.map cd) with
 |some (t,[])=>t.nI&&Ks t.pq 24&&DV t.sz 1000&&decide (t.ws=js.map wd)
 |_=>false
noncomputable def CL(js:List Nat):Bool:=match G5 23 0 (js.map cd) with
 |some (_,[])=>false
 |_=>true
noncomputable def DT(js:List Nat):Bool:=CL js||CM js
abbrev RR(t:Str):Prop:=jm [.str t]=some (.sh (.lst false lY))
abbrev RQ(t:Str):Prop:=jm [.str t]=some (.sh (.lst false [.str t]))
abbrev Dt(r:Sl):Prop:=∃t,r=.sh (.str t)/\(RR t\/RQ t)
theorem Xw{js:List Nat}(hj:∀j∈js,j<25)(hl:js.length<=200):Sm Tr.o (iK 23 [.int 0]) (pZ 23 [.int 0]) ((js.map wd).map D.str) (js.map cd) (G5 23 0 (js.map cd))/\St ((js.map wd).map D.str) (js.map cd).length=[.lst false ((js.map wd).map D.str),.int 0]:=by
 have eW:(js.map wd).map D.str=(js.map cd).map λc=>.str c.w:=by rw[CQ,CQ];rfl
 have hA:At ((js.map wd).map D.str) (js.map cd):=by
  refine⟨λc hc=>?_,?_,?_,?_⟩;.obtain ⟨j,hj',rfl⟩:=GN.mp hc;exact Kn (hj j hj')
  .rw [eW];simp
  .simp
  .rw [kN];omega
 refine⟨Xb 23 0 (by decide) (by decide) (js.map cd) hA,?_⟩;unfold St;rw[show ((js.map wd).map D.str).length-(js.map cd).length=0 by simp];rfl
theorem Xu{js:List Nat}(h:CM js=true)(hj:∀j∈js,j<25)(hl:js.length<=200)(w:Ep (js.map wd)):RQ (nP sp (js.map wd)):=by
 obtain⟨k,e0⟩:=Xw hj hl;unfold CM at h;split at h;.rename_i t e;rw[e] at k;obtain⟨k1,k2,k3⟩:=k;rw[e0] at k2 k3;simp only[jN] at h;obtain⟨⟨⟨g1,g2⟩,g3⟩,g4⟩:=h;have ok:=b9e t g1;have hw:=b4n t 24 (CU g2) ok (CU g3);have:=SD (S1 w.IW k2 rfl) hw;rw[Ib t ok,of_decide_eq_true g4,Eg] at this;exact this
 .cases h
theorem Xv{js:List Nat}(h:CL js=true)(hj:∀j∈js,j<25)(hl:js.length<=200)(w:Ep (js.map wd)):RR (nP sp (js.map wd)):=by
 obtain⟨k,e0⟩:=Xw hj hl;unfold CL at h
 match e:G5 23 0 (js.map cd),k,h with
 |some (d,[]),_,h=>cases h
 |some (d,c::r),⟨k1,k2,k3⟩,_ => rw[e0] at k2 k3;obtain⟨z1,z2⟩:=W5 w.IW k2 (by have:=k1.le;rw[jj] at this ⊢;omega) k3;exact K' z1 z2
 |none,⟨k2,k3⟩,_ => rw[e0] at k2 k3;obtain⟨z1,z2⟩:=Sk w.IW k2 k3;exact K' z1 z2
theorem b9T{js:List Nat}(h:DT js=true)(hj:∀j∈js,j<25)(hl:js.length<=200)(w:Ep (js.map wd)):Dt (.sh (.str (nP sp (js.map wd)))):=by unfold DT at h;rw[Bool.or_eq_true] at h;exact⟨_,rfl,h.imp (λh=>Xv h hj hl w) λh=>Xu h hj hl w⟩
noncomputable def DF(i:Nat):List Nat:=pA.take i++pA.drop (i+1)
noncomputable def wZ(i o:Nat):List Nat:=pA.take i++o::pA.drop i
noncomputable def BC(i o:Nat):List Nat:=pA.take i++o::pA.drop (i+1)
noncomputable def qo(i:Nat):Nat:=pA.getD i 0
theorem b71:(Dv.all λi=>DT (DF i)&&DT (wZ i (qo i)))=true:=by kernel_rfl
theorem b70:(Dv.all λi=>OT.all λo=>DT (wZ i o))=true:=by kernel_rfl
theorem b7Z:(Dv.all λi=>OT.all λo=>(qo i==o)||DT (BC i o))=true:=by kernel_rfl
theorem b72:DT pA=true:=by kernel_rfl
theorem Jy{f:En->Option (Bool×List D)}{g:En->Option Sl}{env:En}{b:Bool}{l:List D}{i:Int}{d:D}(h:f env=some (b,l))(k:g env=some (.sh (.int i)))(e:L2.nD l i=some d):gF f g env=some (.sh d):=by unfold gF;rw[h];show ((g env).bind _)=_;rw[k];show (L2.nD l i).map Sl.sh=_;rw[e];rfl
theorem Si{l:List D}{i:Int}{d:D}(h:L2.nD l i=some d):d∈l:=by obtain⟨j,_,hj,_⟩:=L2.lU h;exact MW hj
theorem n27{i:Nat}(h:i<27):i∈Dv:=by rw[show Dv=lT 27 from by decide];exact BI.mpr h
theorem Vg{i:Nat}(h:i<21):i∈OT:=by rw[show OT=lT 21 from by decide];exact BI.mpr h
theorem Vf{j:Nat}(h:j<25):j∈lT 25:=BI.mpr h
theorem Wz:∀j∈lT 25,32∉(wd j).cps.toList/\(wd j).length<=9:=by decide +kernel
theorem M7:∀j∈pA,j<21:=by decide +kernel
theorem Ng:∀{js:List Nat},(∀j∈js,j<25)->oJ sp (js.map wd)<=20*js.length
 |[],_=>fQ _
 |t::ts,h=>by have h1:=Ng (js:=ts) λw hw=>h w (mZ _ hw);have h2:=(Wz t (Vf (h t nA))).2;have h3:(sp:Str).length<=9:=LL.2.1;rw[jM,jI,jj];omega
theorem Xe{js:List Nat}(h:∀j∈js,j<25)(hn:js≠[])(hl:js.length<=200):Ep (js.map wd):=by
 have h1:=Ng h;refine⟨λz=>hn (RJ.mp z),λw hw=>?_,?_,by rw[kN];omega⟩;.obtain ⟨j,hj,rfl⟩:=GN.mp hw;exact(Wz j (Vf (h j hj))).1
 .rw [<-Eg];have:=ng sp (js.map wd);omega
noncomputable abbrev VL:En->Option (Bool×List D):=nC (ae aD (pk (bV 1) mm (lQ (eV 2))) (pk (bV 1) (lQ (ae aD (eV 2) (eC (.int 1)))) mm))
noncomputable abbrev VJ:En->Option (Bool×List D):=nC (ae aD (ae aD (pk (bV 1) mm (lQ (eV 2))) (bh (ah (eV 3) ag))) (pk (bV 1) (lQ (eV 2)) mm))
noncomputable abbrev VI:En->Option (Bool×List D):=nC (ae aD (ae aD (pk (bV 1) mm (lQ (eV 2))) (bh (ah (eV 3) ag))) (pk (bV 1) (lQ (ae aD (eV 2) (eC (.int 1)))) mm))
noncomputable abbrev VH:En->Option (Bool×List D):=nC (ae aD (ae aD (pk (bV 1) mm (lQ (eV 2))) (bh (ah (gF (bV 1) (eV 2)) ag))) (pk (bV 1) (lQ (eV 2)) mm))
noncomputable abbrev dw(j:Nat):D:=.str (wd j)
noncomputable abbrev DU(c:Int)(i o:Nat)(m:Int):En:=[.sh (.int c),.sh (.lst false (pA.map dw)),.sh (.int i),.sh (dw o),.sh (.int m)]
theorem b8L(c:Int)(o:Nat)(m:Int):(Dv.map λi=>(VL (DU c i o m),VJ (DU c i o m),VI (DU c i o m),VH (DU c i o m)))=Dv.map λi=>(some (true,(DF i).map dw),some (true,(wZ i o).map dw),some (true,(BC i o).map dw),some (true,(wZ i (qo i)).map dw)):=by kernel_rfl
theorem b7h(o:Nat):(Dv.all λi=>DV (DF i).length 60&&DV (wZ i o).length 60&&DV (BC i o).length 60&&!(DF i).isEmpty)=true:=by kernel_rfl
theorem Tz{i:Nat}{w:Nat}(h:w∈pA.take i):w<21:=M7 w (List.mem_of_mem_take h)
theorem Tx{i:Nat}{w:Nat}(h:w∈pA.drop i):w<21:=M7 w (List.mem_of_mem_drop h)
theorem NB{fe:En->Option (Bool×List D)}{env:En}{js:List Nat}(he:fe env=some (true,js.map dw))(hs:∀j∈js,j<21)(hn:js≠[])(hl:js.length<=60)(hk:DT js=true):Wo (qz (eC (.str " ")) fe env) Dt:=by have hs:∀j∈js,j<25:=λj hj=>Nat.lt_trans (hs j hj) (by decide);have h1:=Ng hs;refine RW (z:=sp) (ts:=js.map wd) rfl (he.trans (by rw[CQ];rfl)) (by omega) ?_;rw[Eg];exact b9T hk hs (by omega) (Xe hs hn (by omega))
theorem b6T:∀i∈Dv,BC i (qo i)=pA:=by decide +kernel
theorem b4o(c:Int):∃t,Gm [.int c]=some (.sh (.str t))/\(jm [.str t]=some (.sh (.lst false lY))\/jm [.str t]=some (.sh (.lst false [.str t]))):=by
 have key:Wo (Gm [.int c]) Dt:=by
  refine nV.mpr ?_;unfold Ud;have hl:(pA.map dw).length=27:=by kernel_rfl
  refine rh (by rfl) ?_;refine rh (s:=.ow (pA.map dw)) (by kernel_rfl) ?_;obtain⟨m6,e6,a6,b6⟩:=C1 c 6 27 (by decide) (by decide);obtain⟨m7,e7,a7,b7⟩:=C1 c 7 27 (by decide) (by decide);obtain⟨m8,e8,a8,b8⟩:=C1 c 8 4 (by decide) (by decide);refine rh (s:=.sh (.int m6)) (nS (ds:=[.int c,.int 6,.int 27]) (by kernel_rfl) rfl e6) ?_;obtain⟨d,hd⟩:=Sf (xs:=pA.map dw) a7 (by rw[hl];exact b7);refine rh (s:=.sh d) (Jy rfl (nS (ds:=[.int c,.int 7,.int 27]) (by kernel_rfl) rfl e7) hd) ?_;refine rh (s:=.sh (.int m8)) (nS (ds:=[.int c,.int 8,.int 4]) rfl rfl e8) ?_;obtain⟨o,ho,rfl⟩:=GN.mp (Si hd);obtain⟨i,rfl⟩:∃i:Nat,m6=i:=⟨m6.toNat,by omega⟩;have hi:=n27 (i:=i) (by omega);have ou:=M7 o ho;have hx:=q9.mp b71 i hi;have hy:=q9.mp (q9.mp b70 i hi) o (Vg ou);have hw:=q9.mp (q9.mp b7Z i hi) o (Vg ou);have hz:=q9.mp (b7h o) i hi;have hs:=List.map_inj_left.mp (b8L c o m8) i hi;have l0:(DF i).length<=60/\(wZ i o).length<=60/\(BC i o).length<=60/\DF i≠[]:=by simp only[jN,Nat.ble_eq,Bool.not_eq_true',VZ] at hz;exact⟨hz.1.1.1,hz.1.1.2,hz.1.2,hz.2⟩
  have l3:(wZ i (qo i)).length<=60:=by refine iV (MH ?_) l0.2.1;unfold wZ;rw[mU,mU,jj,jj]
  rw[jN] at hx;rw[Bool.or_eq_true] at hw;simp only[Prod.mk.injEq] at hs;have ne1:∀o',wZ i o'≠[]:=λo' z=>by have:=congrArg GX z;unfold wZ at this;rw[mU,jj] at this;simp at this
  have ne2:∀o',BC i o'≠[]:=λo' z=>by have:=congrArg GX z;unfold BC at this;rw[mU,jj] at this;simp at this
  have s1:∀o',o'<21->∀w∈wZ i o',w<21:=λo' h' w hw=>by
   unfold wZ at hw;rcases FF.mp hw with hw|hw;.exact Tz hw
   .rcases iF.mp hw with rfl | hw;.exact h'
    .exact Tx hw
  have s2:∀w∈BC i o,w<21:=λw hw=>by
   unfold BC at hw;rcases FF.mp hw with hw|hw;.exact Tz hw
   .rcases iF.mp hw with rfl | hw;.exact ou
    .exact Tx hw
  have s0:∀w∈DF i,w<21:=λw hw=>by
   unfold DF at hw;rcases FF.mp hw with hw|hw;.exact Tz hw
   .exact Tx hw
  have oi:qo i<21:=by
   refine M7 _ ?_;unfold qo;have:i<pA.length:=by rw[show pA.length=27 from by kernel_rfl];omega
   rw[Wi,v5 this];exact KN this
  have y0:=NB hs.1 s0 l0.2.2.2 l0.1 hx.1;have y1:=NB hs.2.1 (s1 o ou) (ne1 o) l0.2.1 hy;have y2:=NB hs.2.2.1 s2 (ne2 o) l0.2.2.1 (hw.elim (λz=>by rw[show BC i o=pA from by rw[<-beq_iff_eq.mp z];exact b6T i hi];exact b72) id);have y3:=NB hs.2.2.2 (s1 _ oi) (ne1 _) l3 hx.2;show Wo (a9 (kC (bI (ae bJ (eV 4) (eC (.int 0)))) (bZ (qz (eC (.str " ")) VL)) lq) (a9 (kC (bI (ae bJ (eV 4) (eC (.int 1)))) (bZ (qz (eC (.str " ")) VJ)) lq) (a9 (kC (bI (ae bJ (eV 4) (eC (.int 2)))) (bZ (qz (eC (.str " ")) VI)) lq) (bZ (qz (eC (.str " ")) VH)))) (DU c i o m8)) (dN Dt);have hm:bI (ae bJ (eV 4) (eC (.int 0))) (DU c i o m8)=some (decide (m8=0))/\bI (ae bJ (eV 4) (eC (.int 1))) (DU c i o m8)=some (decide (m8=1))/\bI (ae bJ (eV 4) (eC (.int 2))) (DU c i o m8)=some (decide (m8=2)):=⟨rfl,rfl,rfl⟩;by_cases k0:m8=0;.exact K3 (hm.1.trans (by rw[decide_eq_true k0])) y0
  refine D3 (hm.1.trans (by rw[decide_eq_false k0])) ?_;by_cases k1:m8=1;.exact K3 (hm.2.1.trans (by rw[decide_eq_true k1])) y1
  refine D3 (hm.2.1.trans (by rw[decide_eq_false k1])) ?_;by_cases k2:m8=2;.exact K3 (hm.2.2.trans (by rw[decide_eq_true k2])) y2
  refine D3 (hm.2.2.trans (by rw[decide_eq_false k2])) ?_;obtain⟨s,h1,h2⟩:=y3;exact Nl h1 h2
 obtain⟨r,e,t,rfl,h⟩:=key;exact⟨t,e,h⟩
noncomputable def Ao(k:Nat):List Nat:=match k%3 with
 |0=>[22,11]
 |1=>[12,23,11]
 |_=>[24,19,11]
noncomputable def q0:Nat->List Nat
 |0=>[21]
 |k+1=>0::(q0 k++Ao k)
noncomputable def BD(k:Nat):Str:=match k%3 with
 | 0=>" roomy )"
 | 1=>" plus q )"
 | _=>" fee 1 )"
noncomputable abbrev lR(k:Nat):Str:=dX sp ((q0 k).map wd)
theorem Xi(k:Nat):Ao k≠[]/\(Ao k).length<=3/\∀j∈Ao k,j<25:=by unfold Ao;split<;>decide
theorem BP:∀k:Nat,q0 k≠[]/\(q0 k).length<=4*k+1/\∀j∈q0 k,j<25
 |0=>by decide
 |k+1=>by
  have h1:=BP k;have h2:=Xi k;refine⟨(λz=>nomatch z),?_,λj hj=>?_⟩;.show (0::(q0 k++Ao k)).length<=_;rw[jj,mU];omega
  .rcases iF.mp hj with rfl | hj;.decide
   .rcases FF.mp hj with hj | hj;.exact h1.2.2 j hj
    .exact h2.2.2 j hj
theorem Xh(k:Nat):lt (BD k)=lt sp++lt (dX sp ((Ao k).map wd))/\(BD k).length<=20:=by unfold BD Ao;split<;>decide +kernel
theorem tK:lt "( " = lt (wd 0)++lt sp/\("( ":Str).length<=20:=by decide +kernel
theorem b7d(k:Nat):("( ":Str)++lR k++BD k=lR (k+1):=by
 refine wy ?_;have n1:(q0 k).map wd≠[]:=λz=>(BP k).1 (RJ.mp z);have n2:(Ao k).map wd≠[]:=λz=>(Xi k).1 (RJ.mp z);have e:(q0 (k+1)).map wd=wd 0::((q0 k).map wd++(Ao k).map wd):=by show (0::(q0 k++Ao k)).map wd=_;rw[jM,List.map_append]
 show lt ("( " ++ lR k++BD k)=lt (dX sp ((q0 (k+1)).map wd));rw[Hd,Hd,tK.1,(Xh k).1,e,qP (λz=>n1 (List.append_eq_nil_iff.mp z).1),wB n1 n2];simp only[pG]
theorem b7e{k:Nat}(h:k<=22):(lR k).length<=2000:=by have h1:=BP k;have h2:=Ng h1.2.2;have h3:=ng sp ((q0 k).map wd);show (dX sp ((q0 k).map wd)).length<=2000;omega
theorem Jh:lR 0 = "p":=by decide +kernel
noncomputable abbrev nsF:SF:=fD 1 (ae aD (ae aD (eC (.str "( ")) (eV 1)) (gF (nC (bh (ah (eC (.str " roomy )")) (ah (eC (.str " plus q )")) (ah (eC (.str " fee 1 )")) ag))))) (ae o8 (eV 2) (eC (.int 3)))))
theorem b7c{n:Int}{k:Nat}(h:k<22):nsF [.sh (.int n),.sh (.str (lR k)),.sh (.int (0+(k:Int)))]=some (.nx,[.sh (.int n),.sh (.str (lR (k+1))),.sh (.int (0+(k:Int)))]):=by
 have l1:=b7e (k:=k) (by omega);have l2:=tK.2;have l3:=(Xh k).2;have a1:aD (.str "( ") (.str (lR k))=some (.sh (.str ("( " ++ lR k))):=by show (if ("( ":Str).length+(lR k).length<=16777216 then _ else _)=_;rw[if_pos (by omega)]
 have a2:aD (.str ("( " ++ lR k)) (.str (BD k))=some (.sh (.str (lR (k+1)))):=by show (if (("( ":Str)++lR k).length+(BD k).length<=16777216 then some (Sl.sh (.str ("( " ++ lR k++BD k))) else none)=_;rw[pJ,if_pos (by omega),b7d]
 have m:ae o8 (eV 2) (eC (.int 3)) [.sh (.int n),.sh (.str (lR k)),.sh (.int (0+(k:Int)))]=some (.sh (.int ((k%3:Nat):Int))):=by refine sF rfl rfl ?_;show o8 (.int (0+(k:Int))) (.int 3)=_;rw[Q2];exact Wo.eq (Wo_gMod.mpr ⟨by decide,rfl⟩)
 refine Wo.eq (X4 (s:=.sh (.str (lR (k+1)))) (sF (y:=.sh (.str (BD k))) (sF rfl rfl a1) (Jy (b:=true) (l:=[.str " roomy )",.str " plus q )",.str " fee 1 )"]) rfl m ?_) a2) rfl);have hk:k%3=0\/k%3=1\/k%3=2:=by omega
 unfold BD;rcases hk with h|h|h<;>rw[h]<;>rfl
theorem XZ{n:Nat}(h:n<=22):HD [.int n]=some (.sh (.str (lR n))):=by
 refine Wo.eq (pQ.mpr ?_);unfold Ue;refine rh (s:=.sh (.str (lR 0))) (by rw[Jh];rfl) ?_;refine b7A (ds:=[.int n]) (is:=(lT n).map λk:Nat=>D.int (0+(k:Int))) rfl ?_ ?_;.show (if R62 (n:Int) then some (jz 0 (n:Int).toNat) else none)=_;rw[if_pos (by unfold R62;omega)];rfl
 refine XS (λk:Nat=>D.int (0+(k:Int))) (λpre env=>∃x,env=[.sh (.int n),.sh (.str (lR pre.length)),x]) (lT n) (λpre a post env hx hI=>?_) (λenv hI=>?_) ⟨_,rfl⟩
 .obtain ⟨x,rfl⟩:=hI
  have ha:a=pre.length/\pre.length<n:=by
   have h1:(lT n)[pre.length]?=some a:=by rw[hx];simp
   have h2:=(oE.mp h1).1;rw[Kx] at h2;rw[List.getElem?_range h2] at h1;exact⟨(gY h1).symm,h2⟩
  obtain⟨rfl,h2⟩:=ha;refine⟨[.sh (.int n),.sh (.str (lR pre.length)),.sh (.int (0+(pre.length:Int)))],rfl,?_⟩;refine⟨_,b7c (by omega),?_⟩;rw[b1t];rw[mU,KE];exact⟨_,rfl⟩
 .obtain ⟨x,rfl⟩:=hI;rw[Kx];exact Wo_ret.mpr ⟨_,rfl,rfl⟩
theorem Xj{k:Nat}(h:k<=22):Ep ((q0 k).map wd):=Xe (BP k).2.2 (BP k).1 (by have:=(BP k).2.1;omega)
theorem An:CM (q0 21)=true/\CL (q0 22)=true:=⟨by kernel_rfl,by kernel_rfl⟩
theorem tJ:RQ (lR 21)/\RR (lR 22):=by
 constructor;.rw [lR,Eg];exact Xu An.1 (BP 21).2.2 (by have:=(BP 21).2.1;omega) (Xj (by decide))
 .rw [lR,Eg];exact Xv An.2 (BP 22).2.2 (by have:=(BP 22).2.1;omega) (Xj (by decide))
section
variable {ws:List Str}{rs:List (Int×Int)}(h:B' 0 ws rs)
noncomputable abbrev Px(w:Str):En:=[.no,.sh (.int 0),.sh (.str w)]
theorem Hg{w:Str}{r:List D}:ed 2 (bY 0 gZ aN) [.no,.sh (.int 0),.no] [.lst false (.str w::r),.int 0]=some (.nx,Px w,[.lst false (.str w::r),.int ((1:Nat):Int)]):=by show ((gZ [] [.lst false (.str w::r),.int ((0:Nat):Int)]).bind _)=_;rw[NP (w:=w) rfl];rfl
include h
theorem b2r(hn:1<=rs.length/\rs.length<=20):iK 23 [.int 0] [.lst false (.str "bands" :: ws.map D.str),.int 0]=some (.obj "Bands" pO [.lst false (rs.map Pr)],[.lst false (.str "bands" :: ws.map D.str),.int (D.str "bands" :: ws.map D.str).length]):=by refine NI (s:=.sh (.obj "Bands" pO [.lst false (rs.map Pr)])) (env1:=Px "bands") ?_;show Bs (iK 22) [.no,.sh (.int 0),.no] _=_;unfold Bs;refine(bO Hg).trans ((bO (jO (by kernel_rfl))).trans ((bO (jO (by kernel_rfl))).trans ((bO (jO (by kernel_rfl))).trans (NA ((Bc (by kernel_rfl)).trans ?_)))));show ((((qU [] [.lst false (.str "bands" :: ws.map D.str),.int ((1:Nat):Int)]).bind λy=>some ([y.1],y.2)).bind λy=>if y.1.length=1 then (Bo y.1).map λfs=>(D.obj "Bands" pO fs,y.2) else none).map _)=_;rw[XH h rfl (by simp) hn];show (((Bo [.lst false (rs.map Pr)]).map λfs=>(D.obj "Bands" pO fs,_)).map _)=_;rw[Yg rs (by omega)];rfl
theorem b2q(hn:1<=rs.length/\rs.length<=20):iK 23 [.int 0] [.lst false (.str "steps" :: ws.map D.str),.int 0]=some (.obj "Steps" pP [.lst false (rs.map Pr)],[.lst false (.str "steps" :: ws.map D.str),.int (D.str "steps" :: ws.map D.str).length]):=by refine NI (s:=.sh (.obj "Steps" pP [.lst false (rs.map Pr)])) (env1:=Px "steps") ?_;show Bs (iK 22) [.no,.sh (.int 0),.no] _=_;unfold Bs;refine(bO Hg).trans ((bO (jO (by kernel_rfl))).trans ((bO (jO (by kernel_rfl))).trans ((bO (jO (by kernel_rfl))).trans ((bO (jO (by kernel_rfl))).trans (NA ((Bc (by kernel_rfl)).trans ?_))))));show ((((qU [] [.lst false (.str "steps" :: ws.map D.str),.int ((1:Nat):Int)]).bind λy=>some ([y.1],y.2)).bind λy=>if y.1.length=1 then (Bp y.1).map λfs=>(D.obj "Steps" pP fs,y.2) else none).map _)=_;rw[XH h rfl (by simp) hn];show (((Bp [.lst false (rs.map Pr)]).map λfs=>(D.obj "Steps" pP fs,_)).map _)=_;rw[Yh rs (by omega)];rfl
theorem b0N(hn:20<rs.length)(hm:rs.length<900):iK 23 [.int 0] [.lst false (.str "bands" :: ws.map D.str),.int 0]=none/\pZ 23 [.int 0] [.lst false (.str "bands" :: ws.map D.str),.int 0]=some ("BadRule":Str):=by
 obtain⟨h1,h2⟩:=W6 (W:=.str "bands" :: ws.map D.str) (p:=1) h rfl (by simp) hn hm;constructor;.refine Lj ?_;show Bs (iK 22) [.no,.sh (.int 0),.no] _=_;unfold Bs;refine(bO Hg).trans ((bO (jO (by kernel_rfl))).trans ((bO (jO (by kernel_rfl))).trans ((bO (jO (by kernel_rfl))).trans (BX ((Bc (by kernel_rfl)).trans ?_)))));show ((((qU [] [.lst false (.str "bands" :: ws.map D.str),.int ((1:Nat):Int)]).bind λy=>some ([y.1],y.2)).bind _).map _)=_;rw[h1];rfl
 .show Gg (iK 22) (pZ 22) [.no,.sh (.int 0),.no] _=_;unfold Gg;exact(cO rfl Hg).trans ((cO (ui (by kernel_rfl)) (jO (by kernel_rfl))).trans ((cO (ui (by kernel_rfl)) (jO (by kernel_rfl))).trans ((cO (ui (by kernel_rfl)) (jO (by kernel_rfl))).trans (BS ((D4 (by kernel_rfl)).trans h2)))))
theorem b0M(hn:20<rs.length)(hm:rs.length<900):iK 23 [.int 0] [.lst false (.str "steps" :: ws.map D.str),.int 0]=none/\pZ 23 [.int 0] [.lst false (.str "steps" :: ws.map D.str),.int 0]=some ("BadRule":Str):=by
 obtain⟨h1,h2⟩:=W6 (W:=.str "steps" :: ws.map D.str) (p:=1) h rfl (by simp) hn hm;constructor;.refine Lj ?_;show Bs (iK 22) [.no,.sh (.int 0),.no] _=_;unfold Bs;refine(bO Hg).trans ((bO (jO (by kernel_rfl))).trans ((bO (jO (by kernel_rfl))).trans ((bO (jO (by kernel_rfl))).trans ((bO (jO (by kernel_rfl))).trans (BX ((Bc (by kernel_rfl)).trans ?_))))));show ((((qU [] [.lst false (.str "steps" :: ws.map D.str),.int ((1:Nat):Int)]).bind λy=>some ([y.1],y.2)).bind _).map _)=_;rw[h1];rfl
 .show Gg (iK 22) (pZ 22) [.no,.sh (.int 0),.no] _=_;unfold Gg;exact(cO rfl Hg).trans ((cO (ui (by kernel_rfl)) (jO (by kernel_rfl))).trans ((cO (ui (by kernel_rfl)) (jO (by kernel_rfl))).trans ((cO (ui (by kernel_rfl)) (jO (by kernel_rfl))).trans ((cO (ui (by kernel_rfl)) (jO (by kernel_rfl))).trans (BS ((D4 (by kernel_rfl)).trans h2))))))
end
noncomputable abbrev nz(b:Bool):Str:=if b then "bands" else "steps"
structure Z4(rs:List (Int×Int)):Prop where
 ok:B' 0 (rs.map Rt) rs
 sh:∀q∈rs,Sh q.1/\Sh q.2
 fr:∀w∈rs.map Rt,32∉w.cps.toList
theorem b7m{h:Str}{a:Str}{r:List Str}:dX sp [h,dX sp (a::r)]=dX sp (h::a::r):=wy (by rw[FT,zE,FT])
theorem DN{b:Bool}:32∉(nz b).cps.toList/\(nz b).length<=9:=by cases b<;>decide +kernel
section
variable {rs:List (Int×Int)}(k:Z4 rs)(hm:rs.length<=60)
include k hm
theorem So(b:Bool):Ep (nz b::rs.map Rt):=by
 refine⟨(λz=>nomatch z),λw hw=>?_,?_,by rw[jj,kN];omega⟩
 .rcases iF.mp hw with rfl | hw;.exact DN.1
  .exact k.fr w hw
 .rw [<-Eg];have h1:=ng sp (nz b::rs.map Rt);have h2:=BZ k.sh;have h3:=(DN (b:=b)).2;have h4:=LL;rw[jI] at h1;have h5:(sp:Str).length<=9:=h4.2.1;have h6:oJ sp (rs.map Rt)<=140*rs.length:=h2;omega
theorem rw_S(b:Bool)(h1:rs.length<=20){q:Int×Int}{r:List (Int×Int)}(he:rs=q::r):jm [.str (nP sp (nz b::rs.map Rt))]=some (.sh (.lst false [.str (nP sp (nz b::rs.map Rt))])):=by
 have hn:1<=rs.length/\rs.length<=20:=⟨by rw[he];simp,h1⟩;have w:=So k hm b;have e:nP sp (nz b::rs.map Rt)=dX sp [nz b,dX sp (rs.map Rt)]:=by rw[<-Eg,he,jM,b7m]
 have e2:∀{o:D},iK 23 [.int 0] [.lst false ((nz b::rs.map Rt).map D.str),.int 0]=some (o,[.lst false ((nz b::rs.map Rt).map D.str),.int ((nz b::rs.map Rt).map D.str).length])->gn "written" 1 (c9 24) o []=some (.sh (.str (dX sp [nz b,dX sp (rs.map Rt)])))->jm [.str (nP sp (nz b::rs.map Rt))]=some (.sh (.lst false [.str (nP sp (nz b::rs.map Rt))])):=λa1 a2=>by have:=SD (S1 w.IW a1 rfl) a2;rw[this,e]
 cases b with
 |true=>exact e2 (b2r k.ok hn) (b6D rs 23 ⟨hm,k.sh⟩)
 |false=>exact e2 (b2q k.ok hn) (b6C rs 23 ⟨hm,k.sh⟩)
theorem rw_T(b:Bool)(h1:20<rs.length):jm [.str (nP sp (nz b::rs.map Rt))]=some (.sh (.lst false lY)):=by
 have w:=So k hm b;have e2:(iK 23 [.int 0] [.lst false ((nz b::rs.map Rt).map D.str),.int 0]=none/\pZ 23 [.int 0] [.lst false ((nz b::rs.map Rt).map D.str),.int 0]=some ("BadRule":Str))->jm [.str (nP sp (nz b::rs.map Rt))]=some (.sh (.lst false lY)):=λa=>by obtain⟨k1,k2⟩:=Sk w.IW a.1 a.2;exact K' k1 k2
 cases b with
 |true=>exact e2 (b0N k.ok h1 (by omega))
 |false=>exact e2 (b0M k.ok h1 (by omega))
end
theorem RT{n:Int}{c:Nat}(h:c∈(nt n).cps.toList):c=45\/48<=c/\c<=57:=by
 unfold nt at h
 cases n with
 |ofNat m => rw[show (Mv m)=(m:Int) from rfl,Sy] at h;exact .inr (WL h)
 |negSucc m =>
  rw[show MI m = -((m+1:Nat):Int) from rfl,Sz] at h;rcases iF.mp h with rfl|h;.exact .inl rfl
  .exact .inr (WL h)
theorem M8:(":":Str)=⟨#[58]⟩:=by kernel_rfl
theorem WC(q:Int×Int):(Rt q).cps.toList=(nt q.1).cps.toList++(58::(nt q.2).cps.toList):=by
 have:lt (Rt q)=lt (nt q.1)++lt ":" ++ lt (nt q.2):=by unfold Rt;rw[Hd,Hd]
 refine this.trans ?_;rw[show lt ":" = [58] from by rw[M8];rfl];simp[lt]
theorem IJ(q:Int×Int):32∉(Rt q).cps.toList:=λh=>by
 rw[WC] at h;rcases FF.mp h with h|h;.have:=RT h;omega
 .rcases iF.mp h with h | h;.cases h
  .have:=RT h;omega
noncomputable def nB(n:Int):Bool:=(match pY [.str (nt n)] with
  |some (.sh (.int t))=>decide (t=n)
  |_=>false)&&(qV [.str (nt n)]).isNone
theorem Wr{n:Int}(h:nB n=true):pY [.str (nt n)]=some (.sh (.int n))/\qV [.str (nt n)]=none:=by
 unfold nB at h;rw[jN] at h;obtain⟨h1,h2⟩:=h;split at h1;.rename_i t e;rw[<-of_decide_eq_true h1];rw[of_decide_eq_true h1];rw[of_decide_eq_true h1] at e;exact⟨e,by simpa using h2⟩
 .cases h1
theorem P2:((lT 99).all λm=>nB ((m:Int)-50))=true:=by kernel_rfl
theorem P4:((lT 21).all λk=>nB ((k:Int)*10))=true:=by kernel_rfl
theorem b8W{a b:Int}(ha:nB a=true)(hb:nB b=true)(sa:Sh a)(sb:Sh b):LK (Rt (a,b)) a b:=by
 obtain⟨a1,a2⟩:=Wr ha;obtain⟨b1,b2⟩:=Wr hb;have hp:v7 (Rt (a,b)) ":" = (nt a,(":":Str),nt b):=part_of (y:=":") (by rw[M8];decide) λc hc=>by rw[M8];have:=RT hc;intro z;have:(58:Nat)=c:=gY z;omega
 have hl:(Rt (a,b)).length<=16777216:=by have:=Sn (q:=(a,b)) ⟨sa,sb⟩;omega
 have e:KP (eV 0) (eC (.str ":")) [.sh (.str (Rt (a,b))),.no]=some (.sh (.tup [.str (nt a),.str ":",.str (nt b)])):=by show (if ((":":Str).length==0)=false/\(Rt (a,b)).length<=16777216 then some (Sl.sh (.tup [.str (v7 (Rt (a,b)) ":").1,.str (v7 (Rt (a,b)) ":").2.1,.str (v7 (Rt (a,b)) ":").2.2])) else none)=_;rw[hp,if_pos ⟨by decide +kernel,hl⟩]
 refine⟨?_,?_,?_⟩;.rw [M8];refine Wo.eq (Ds.mpr ?_);rw[decide_eq_true];rw[WC];simp
 .refine Wo.eq (Bw.mpr ?_);unfold Th;refine rh e ?_;exact Nl (b8y (aC (r:=.sh (.int a)) (nS (ds:=[.str (nt a)]) rfl rfl a1) (aC (r:=.sh (.int b)) (nS (ds:=[.str (nt b)]) rfl rfl b1) rfl))) rfl
 .show (Tj [.sh (.str (Rt (a,b))),.no]).map _=_;unfold Tj;have e1:fD 1 (KP (eV 0) (eC (.str ":"))) [.sh (.str (Rt (a,b))),.no]=some (.nx,[.sh (.str (Rt (a,b))),.sh (.tup [.str (nt a),.str ":",.str (nt b)])]):=Wo.eq (X4 e rfl);unfold uJ EJ;dsimp only;rw[e1];dsimp only;have e2:(z8 (BQ 1 qV (ah (gF (bV 1) (eC (.int 0))) ag)) (Nk (dH 1 pY (ah (gF (bV 1) (eC (.int 0))) ag)) (BQ 1 qV (ah (gF (bV 1) (eC (.int 2))) ag)))) [.sh (.str (Rt (a,b))),.sh (.tup [.str (nt a),.str ":",.str (nt b)])]=none:=by have c1:BQ 1 qV (ah (gF (bV 1) (eC (.int 0))) ag) [.sh (.str (Rt (a,b))),.sh (.tup [.str (nt a),.str ":",.str (nt b)])]=none:=a2;have c2:dH 1 pY (ah (gF (bV 1) (eC (.int 0))) ag) [.sh (.str (Rt (a,b))),.sh (.tup [.str (nt a),.str ":",.str (nt b)])]=some (.sh (.int a)):=a1;have c3:BQ 1 qV (ah (gF (bV 1) (eC (.int 2))) ag) [.sh (.str (Rt (a,b))),.sh (.tup [.str (nt a),.str ":",.str (nt b)])]=none:=b2;unfold z8 Nk;rw[c1,c2];exact c3
  unfold rE;rw[e2];rfl
noncomputable def z7(u:Nat->Int)(k:Nat):Int×Int:=((k:Int)*10,u k-50)
theorem W8{u:Nat->Int}(hu:∀k,k<21->0<=u k/\u k<99):∀(n j:Nat) (l:Int),j+n<=21->l<=(j:Int)*10->B' l (((List.range' j n).map (z7 u)).map Rt) ((List.range' j n).map (z7 u))
 |0,_,_,_,_=>.nil
 |n+1,j,l,h,hl=>by have h1:=hu j (by omega);have b1:=q9.mp P4 j (BI.mpr (by omega));have b2:=q9.mp P2 (u j).toNat (BI.mpr (by omega));rw[show (((u j).toNat:Nat):Int)=u j by omega] at b2;have ih:=W8 hu n (j+1) ((j:Int)*10+1) (by omega) (by omega);rw[List.range'_succ];exact .cons (b8W b1 b2 ⟨by omega,by omega⟩ ⟨by omega,by omega⟩) (by omega) ih
theorem b8S{u:Nat->Int}(hu:∀k,k<21->0<=u k/\u k<99)(n:Nat)(hn:n<=21):Z4 ((lT n).map (z7 u)):=by
 refine⟨?_,λq hq=>?_,λw hw=>?_⟩;.rw [List.range_eq_range'];exact W8 hu n 0 0 (by omega) (by omega)
 .obtain ⟨k,hk,rfl⟩:=GN.mp hq;have hk:=BI.mp hk;have:=hu k (by omega);unfold z7 Sh;dsimp only;omega
 .obtain ⟨q,_,rfl⟩:=GN.mp hw;exact IJ q
def Due(b:Int)(t:Str):Prop:=(b=0->jm [.str t]=some (.sh (.lst false [.str t])))/\(b=1->jm [.str t]=some (.sh (.lst false lY)))
abbrev Ed(b:Int)(r:Sl):Prop:=∃t,r=.sh (.str t)/\Due b t
noncomputable def BH(b:Bool):Option Sl->Bool
 |some (.sh (.str t))=>if b then tT t else tS t
 |_=>false
theorem Fo{o:Option Sl}(h:BH false o=true):Wo o (Ed 0):=by
 unfold BH at h;split at h;.exact ⟨_,rfl,_,rfl,λ_=>Ij h,λz=>absurd z (by decide)⟩
 .cases h
theorem Fm{o:Option Sl}(h:BH true o=true):Wo o (Ed 1):=by
 unfold BH at h;split at h;.exact ⟨_,rfl,_,rfl,λz=>absurd z (by decide),λ_=>WG h⟩
 .cases h
noncomputable abbrev DS(M:En->Option Sl):En->Option Sl:=ae aD (ae aD (ae aD (eC (.str "flat ")) (vB (eC (.str "-")) mm (lQ M))) (ae M1 (eC (.str "7")) (ae aD (eC (.int 40)) (eV 1)))) (eC (.str " from 0 to 5"))
theorem b9P{M:En->Option Sl}{env:En}{s:Sl}(h:M env=some s):DS M env=DS (λ_=>some s) env:=by simp only[DS,ae,vB,lQ,h]
noncomputable abbrev QS:En->Option Sl:=ae aD (eC (.str "blocks 3 at -4 times ")) (Ba (ae aD (eC (.int 40)) (eV 1)))
noncomputable abbrev GH(b k:Int):En:=[.no,.sh (.int b),.sh (.int k),.no]
theorem b9O:BH false (DS (λ_=>some (.sh (.int 0))) (GH 0 0))=true/\BH false (DS (λ_=>some (.sh (.int 1))) (GH 0 0))=true/\BH true (DS (λ_=>some (.sh (.int 0))) (GH 1 0))=true/\BH true (DS (λ_=>some (.sh (.int 1))) (GH 1 0))=true:=⟨by kernel_rfl,by kernel_rfl,by kernel_rfl,by kernel_rfl⟩
theorem AI:BH false (QS (GH 0 2))=true/\BH true (QS (GH 1 2))=true:=⟨by kernel_rfl,by kernel_rfl⟩
theorem b9Q(c b:Int)(hb:b=0\/b=1):∃u:Nat->Int,(∀k,k<21->0<=u k/\u k<99)/\nQ (CG KS (ah (ae aD (eC (.int 20)) (eV 1)) ag)) [0] 1 (gN 0) sE (ae aD (ae aD (Ba (ae lF (eV 0) (eC (.int 10)))) (eC (.str ":"))) (Ba (ae AD (dH 3 nk (ah (eV 1) (ah (eV 0) (ah (eC (.int 99)) ag)))) (eC (.int 50))))) [.sh (.int c),.sh (.int b),.sh (.int 1),.no]=some (.ow (((lT (20+b).toNat).map (z7 u)).map λq=>.str (Rt q))):=by
 have hm:∀k:Nat,∃m:Int,k<21->nk [.int c,.int (0+(k:Int)),.int 99]=some (.sh (.int m))/\0<=m/\m<99:=λk=>by
  by_cases hk:k<21;.obtain ⟨m,h1,h2,h3⟩:=C1 c (0+(k:Int)) 99 (by lia) (by decide);exact⟨m,λ_=>⟨h1,h2,h3⟩⟩
  .exact ⟨0,λz=>absurd z hk⟩
 obtain⟨u,hu⟩:=Classical.axiomOfChoice hm;refine⟨u,λk hk=>(hu k hk).2,?_⟩;have hn:(20+b).toNat<=21:=by lia
 unfold nQ;rw[show CG KS (ah (ae aD (eC (.int 20)) (eV 1)) ag) [.sh (.int c),.sh (.int b),.sh (.int 1),.no]=some (jz 0 (20+b).toNat) from rfl];show (if (jz 0 (20+b).toNat).length<=16777216 then (pU _ _ _ (jz 0 (20+b).toNat) [.no,.sh (.int c)]).map Sl.ow else none)=_;rw[if_pos (by unfold jz;rw[kN,Kx];lia)];unfold jz;rw[DL.comp_map (λj:Nat=>D.int (0+(j:Int))) (λj:Nat=>D.str (Rt (z7 u j))) (λe=>∃y,e=[y,.sh (.int c)]) (lT (20+b).toNat) (λj hj e he=>?_) ⟨_,rfl⟩];.rw [CQ];rfl
 .obtain ⟨y,rfl⟩:=he;have hj:=BI.mp hj;obtain⟨h1,h2,h3⟩:=hu j (by lia);have m1:=b9j (a:=0+(j:Int)) (b:=10) (by walk_at "sc");rw[Q2] at m1;have s1:Sh ((j:Int)*10):=⟨by lia,by lia⟩;have s2:Sh (u j-50):=⟨by lia,by lia⟩;have l1:=jP s1;have l2:=jP s2;have l3:(":":Str).length<=9:=by decide +kernel
  have a1:aD (.str (nt ((j:Int)*10))) (.str ":")=some (.sh (.str (nt ((j:Int)*10) ++ ":"))):=by show (if _ then _ else _)=_;rw[if_pos (by lia)]
  have a2:aD (.str (nt ((j:Int)*10) ++ ":")) (.str (nt (u j-50)))=some (.sh (.str (nt ((j:Int)*10) ++ ":" ++ nt (u j-50)))):=by show (if _ then _ else _)=_;rw[if_pos (by rw[pJ];lia)]
  have t1:Ba (ae lF (eV 0) (eC (.int 10))) [.sh (.int (0+(j:Int))),.sh (.int c)]=some (.sh (.str (nt ((j:Int)*10)))):=by unfold Ba;rw[show ae lF (eV 0) (eC (.int 10)) [.sh (.int (0+(j:Int))),.sh (.int c)]=some (.sh (.int ((j:Int)*10))) from by rw[Q2];exact sF rfl rfl m1];exact if_pos (Nh s1)
  have t2:Ba (ae AD (dH 3 nk (ah (eV 1) (ah (eV 0) (ah (eC (.int 99)) ag)))) (eC (.int 50))) [.sh (.int (0+(j:Int))),.sh (.int c)]=some (.sh (.str (nt (u j-50)))):=by unfold Ba;rw[show ae AD (dH 3 nk (ah (eV 1) (ah (eV 0) (ah (eC (.int 99)) ag)))) (eC (.int 50)) [.sh (.int (0+(j:Int))),.sh (.int c)]=some (.sh (.int (u j-50))) from sF (nS rfl rfl h1) rfl rfl];exact if_pos (Nh s2)
  exact⟨[.sh (.int (0+(j:Int))),.sh (.int c)],rfl,⟨_,rfl⟩,true,rfl,rfl,.sh (.str (Rt (z7 u j))),sF (sF t1 rfl a1) t2 a2,rfl⟩
theorem b7v{b:Bool}{q:Int×Int}{r:List (Int×Int)}:(if b then ("bands ":Str) else "steps ")++dX sp ((q::r).map Rt)=nP sp (nz b::(q::r).map Rt):=by
 rw[<-Eg];refine wy ?_;have e:lt (if b then ("bands ":Str) else "steps ")=lt (nz b)++lt sp:=by cases b<;>decide +kernel
 rw[Hd,e,jM,FT,pG]
theorem WM(c b:Int)(hb:b=0\/b=1):∃t,B6 [.int c,.int b]=some (.sh (.str t))/\Due b t:=by
 have key:Wo (B6 [.int c,.int b]) (Ed b):=by
  refine sN.mpr ?_;unfold T9;obtain⟨m3,e3,a3,b3⟩:=C1 c 3 4 (by decide) (by decide);obtain⟨m4,e4,a4,b4⟩:=C1 c 4 2 (by decide) (by decide);obtain⟨m5,e5,a5,b5⟩:=C1 c 5 2 (by decide) (by decide);refine rh (s:=.sh (.int m3)) (nS (ds:=[.int c,.int 3,.int 4]) rfl rfl e3) ?_;have hm:∀k:Int,bI (ae bJ (eV 2) (eC (.int k))) [.sh (.int c),.sh (.int b),.sh (.int m3),.no]=some (decide (m3=k)):=λk=>rfl;by_cases k0:m3=0
  .refine K3 ((hm 0).trans (by rw[decide_eq_true k0])) ?_;have e:dH 3 nk (ah (eV 0) (ah (eC (.int 4)) (ah (eC (.int 2)) ag))) [.sh (.int c),.sh (.int b),.sh (.int m3),.no]=some (.sh (.int m4)):=nS (ds:=[.int c,.int 4,.int 2]) rfl rfl e4;show Wo (DS (dH 3 nk (ah (eV 0) (ah (eC (.int 4)) (ah (eC (.int 2)) ag)))) [.sh (.int c),.sh (.int b),.sh (.int m3),.no]) _;rw[b9P e];obtain⟨z1,z2,z3,z4⟩:=b9O;obtain rfl | rfl:m4=0\/m4=1:=by omega
   .obtain rfl | rfl:=hb;.exact Fo z1
    .exact Fm z3
   .obtain rfl | rfl:=hb;.exact Fo z2
    .exact Fm z4
  refine D3 ((hm 0).trans (by rw[decide_eq_false k0])) ?_;by_cases k1:m3=1
  .refine Ih ((hm 1).trans (by rw[decide_eq_true k1])) ?_;obtain⟨u,hu,hc⟩:=b9Q c b hb;obtain rfl:=k1;refine Wo_seq.mpr ?_;refine Wo_setF.mpr ⟨_,hc,(show 3<4 from by decide),?_⟩;have hn:20<=(20+b).toNat/\(20+b).toNat<=21:=by omega
   have k:=b8S hu (20+b).toNat hn.2;have hl:((lT (20+b).toNat).map (z7 u)).length=(20+b).toNat:=by rw[kN,Kx]
   obtain⟨q,r,hq⟩:∃q r,(lT (20+b).toNat).map (z7 u)=q::r:=by
    match h:(lT (20+b).toNat).map (z7 u),hl with
    |[],hl=>simp at hl;omega
    |q::r,_=>exact⟨q,r,rfl⟩
   generalize (lT (20+b).toNat).map (z7 u)=rs at *;have w:=So k (by omega) (decide (m5=0))
   have hj:qz (eC (.str " ")) (bV 3) [.sh (.int c),.sh (.int b),.sh (.int 1),.sh (.lst false (rs.map λq=>.str (Rt q)))]=some (.sh (.str (dX sp (rs.map Rt)))):=by
    refine Wo.eq (RW (z:=sp) (ts:=rs.map Rt) rfl ?_ ?_ rfl);.show some (true,_)=_;rw[CQ];rfl
    .have:=BZ k.sh;have h6:oJ sp (rs.map Rt)<=140*rs.length:=this;omega
   have hx:gF (nC (bh (ah (eC (.str "bands ")) (ah (eC (.str "steps ")) ag)))) (dH 3 nk (ah (eV 0) (ah (eC (.int 5)) (ah (eC (.int 2)) ag)))) [.sh (.int c),.sh (.int b),.sh (.int 1),.sh (.lst false (rs.map λq=>.str (Rt q)))]=some (.sh (.str (if decide (m5=0) then ("bands ":Str) else "steps "))):=by
    refine Jy (b:=true) (l:=[.str "bands ",.str "steps "]) rfl (nS (ds:=[.int c,.int 5,.int 2]) rfl rfl e5) ?_;obtain rfl | rfl:m5=0\/m5=1:=by omega
    .rfl
    .rfl
   have hg:aD (.str (if decide (m5=0) then ("bands ":Str) else "steps ")) (.str (dX sp (rs.map Rt)))=some (.sh (.str (nP sp (nz (decide (m5=0))::rs.map Rt)))):=by
    have e:(if decide (m5=0) then ("bands ":Str) else "steps ")++dX sp (rs.map Rt)=nP sp (nz (decide (m5=0))::rs.map Rt):=by rw[hq];exact b7v
    show (if (if decide (m5=0) then ("bands ":Str) else "steps ").length+(dX sp (rs.map Rt)).length<=16777216 then some (Sl.sh (.str ((if decide (m5=0) then ("bands ":Str) else "steps ")++dX sp (rs.map Rt)))) else none)=_;rw[<-pJ,e,if_pos w.l1]
   refine Wo_ret.mpr ⟨_,sF hx hj hg,?_⟩;refine⟨_,rfl,λh0=>?_,λh1=>?_⟩;.exact rw_S k (by omega) _ (by omega) hq
   .exact rw_T k (by omega) _ (by omega)
  refine D3 ((hm 1).trans (by rw[decide_eq_false k1])) ?_;by_cases k2:m3=2
  .refine K3 ((hm 2).trans (by rw[decide_eq_true k2])) ?_;show Wo (QS _) _;obtain rfl | rfl:=hb;.exact Fo AI.1
   .exact Fm AI.2
  refine D3 ((hm 2).trans (by rw[decide_eq_false k2])) ?_
  have z:Wo (dH 1 HD (ah (ae aD (eC (.int 21)) (eV 1)) ag) [.sh (.int c),.sh (.int b),.sh (.int m3),.no]) (Ed b):=by
   obtain rfl|rfl:=hb;.exact ⟨_,nS (ds:=[.int (21:Nat)]) rfl rfl (XZ (n:=21) (by decide)),_,rfl,λ_=>tJ.1,λz=>absurd z (by decide)⟩
   .exact ⟨_,nS (ds:=[.int (22:Nat)]) rfl rfl (XZ (n:=22) (by decide)),_,rfl,λz=>absurd z (by decide),λ_=>tJ.2⟩
  obtain⟨s,h1,h2⟩:=z;exact Nl h1 h2
 obtain⟨r,e,t,rfl,h⟩:=key;exact⟨t,e,h⟩
noncomputable def dT:D->Bool
 | .str t=>tT t
 |_=>false
theorem Kk{d:D}(h:dT d=true):∃t,d=.str t/\jm [.str t]=some (.sh (.lst false lY)):=by
 cases d with
 |str t=>exact⟨t,rfl,WG h⟩
 |_=>cases h
noncomputable abbrev L8:En->Option Sl:=bh (ah (eV 2) (ah (ae aD (ae aD (eC (.str "( ")) (eV 2)) (eC (.str " plus q )"))) (ah (ae aD (ae aD (eC (.str "( q or ")) (eV 2)) (eC (.str " )"))) (ah (ae aD (ae aD (eC (.str "( ")) (eV 2)) (eC (.str " fee 3 )"))) ag))))
noncomputable def Ck(L:List D):Bool:=L.all λd=>match L8 [.no,.no,.sh d] with
 |some (.ow l)=>decide (l.length=4)&&l.all dT
 |_=>false
abbrev Told(r:Sl):Prop:=∃t,r=.sh (.str t)/\jm [.str t]=some (.sh (.lst false lY))
noncomputable def yj:List D:=[.str "",.str "each",.str "each 1 from 2 to 1",.str "each 01 from 0 to 1",.str "each 1_0 from 0 to 1",.str "each +1 from 0 to 1",.str "each -0 from 0 to 1",.str "each 1 from -1 to 2",.str "each 1 to 2",.str "each x from 0 to 1",.str "each 1 from 0 to",.str "flat 1 from 0 for 1",.str "flat  1 from 0 to 1",.str "flat 1 from 0 to 1 ",.str " flat 1 from 0 to 1",.str "Flat 1 from 0 to 1",.str "bands",.str "bands 1:2 1:3",.str "bands 2:1 1:1",.str "bands 1:",.str "bands :1",.str "bands 1:2:3",.str "bands -1:2",.str "bands 1: 2",.str "steps",.str "steps 3:1 3:1",.str "steps 01:1",.str "steps 1:1 p",.str "steps 0:1,1:2",.str "blocks 0 at 1 times 1",.str "blocks 1 at 1 times 0",.str "blocks 1 at 1",.str "blocks -1 at 1 times 1",.str "Name",.str "abcdefghi",.str "plus",.str "roomy",.str "p1",.str "p q",.str "( p",.str "p )",.str "( p )",.str "( p plus )",.str "( plus p )",.str "( p minus q )",.str "( p only 2 to 1 )",.str "( p only 0 to )",.str "( p after -1 )",.str "( p roomy 1 )",.str "( p fee )",.str "( p fee 1.5 )",.str "(p roomy)",.str "( p plus q r )",.str "( p only -1 to 2 )",.str "flat 1 from -1 to 2",.str "( p only 01 to 2 )"]
theorem PU:Ck ((yj.drop 0).take 8)=true:=by kernel_rfl
theorem PR:Ck ((yj.drop 8).take 8)=true:=by kernel_rfl
theorem Jm:Ck ((yj.drop 16).take 8)=true:=by kernel_rfl
theorem Jl:Ck ((yj.drop 24).take 8)=true:=by kernel_rfl
theorem Jk:Ck ((yj.drop 32).take 8)=true:=by kernel_rfl
theorem Jj:Ck ((yj.drop 40).take 8)=true:=by kernel_rfl
theorem Ji:Ck ((yj.drop 48).take 8)=true:=by kernel_rfl
theorem F5{p:D->Bool}{k:Nat}{l:List D}(h:(l.take k).all p=true)(g:(l.drop k).all p=true):l.all p=true:=by have:=List.take_append_drop k l;rw[<-this,List.all_append,h,g];rfl
theorem FY{a:Nat}:(yj.drop a).drop 8=yj.drop (a+8):=List.drop_drop
theorem b9h:Ck yj=true:=by show (yj.drop 0).all _=true;refine F5 (k:=8) PU ?_;rw[FY];refine F5 (k:=8) PR ?_;rw[FY];refine F5 (k:=8) Jm ?_;rw[FY];refine F5 (k:=8) Jl ?_;rw[FY];refine F5 (k:=8) Jk ?_;rw[FY];refine F5 (k:=8) Jj ?_;rw[FY];refine F5 (k:=8) Ji ?_;rw[FY];rfl
theorem b5c{L:List D}{c:Int}(h:Ck L=true)(h0:Ks 0 L.length=true)(h1:DV L.length 1000=true):Wo (a9 (fD 2 (gF (bV 1) (dH 3 nk (ah (eV 0) (ah (eC (.int 1)) (ah (iU (bV 1)) ag)))))) (bZ (gF (nC L8) (dH 3 nk (ah (eV 0) (ah (eC (.int 2)) (ah (eC (.int 4)) ag)))))) [.sh (.int c),.sh (.lst false L),.no]) (dN Told):=by
 have g0:0<L.length:=CU h0;have g1:=CU h1;obtain⟨m1,e1,a1,b1⟩:=C1 c 1 L.length (by decide) (by omega);obtain⟨m2,e2,a2,b2⟩:=C1 c 2 4 (by decide) (by decide);obtain⟨d,hd⟩:=Sf a1 b1;have hb:=q9.mp h d (Si hd);split at hb;.rename_i l hl;rw[jN] at hb;have hl4:=of_decide_eq_true hb.1;obtain⟨d2,hd2⟩:=Sf (xs:=l) a2 (by omega);obtain⟨t,rfl,ht⟩:=Kk (q9.mp hb.2 d2 (Si hd2));refine rh (s:=.sh d) (Jy rfl (nS rfl rfl e1) hd) ?_;refine Nl (Jy (b:=true) (l:=l) ?_ (nS rfl rfl e2) hd2) ⟨t,rfl,ht⟩;have rZ:L8 [.sh (.int c),.sh (.lst false L),.sh d]=some (.ow l):=hl;show (L8 [.sh (.int c),.sh (.lst false L),.sh d]).bind _=_;rw[rZ];rfl
 .cases hb
theorem b9R(c:Int):∃t,F8 [.int c]=some (.sh (.str t))/\jm [.str t]=some (.sh (.lst false lY)):=by
 have key:Wo (F8 [.int c]) Told:=by
  refine sM.mpr ?_;unfold T';iterate 12 refine rh (by rfl) ?_
  refine rh (s:=.ow yj) (by kernel_rfl) ?_;exact b5c b9h (by kernel_rfl) (by kernel_rfl)
 obtain⟨r,e,t,rfl,h⟩:=key;exact⟨t,e,h⟩
theorem neT:gp (.lst false lY) (.lst false lY)=some (.sh (.bl false)):=by kernel_rfl
theorem Vc(t:Str):gp (.lst false [.str t]) (.lst false [.str t])=some (.sh (.bl false)):=by show some (Sl.sh (.bl (!([decide (t=t)].all id))))=_;simp
theorem P1(t:Str):gp (.lst false [.str t]) (.lst false lY)=some (.sh (.bl true)):=by kernel_rfl
noncomputable abbrev Ar(s:Sl)(x1 x2 x3 x4:Sl):En:=[s,x1,x2,x3,x4]
theorem b5f(s:Sl)(c:Int)(x2 x3 x4:Sl):∃y2 y3 y4,(a9 (kC (bI (ae gp (dH 1 jm (ah (dH 1 F8 (ah (eV 1) ag)) ag)) (bh (ah (eC (.bl true)) (ah (eC (.bl true)) (ah (eC (.bl true)) ag)))))) (bZ (eC (.bl false))) lq)
 (a9 (fD 2 (dH 2 B6 (ah (eV 1) (ah (eC (.int 0)) ag))))
 (a9 (kC (mi (bI (ae gp (dH 1 jm (ah (eV 2) ag)) (bh (ah (eV 2) ag)))) (bI (ae gp (dH 1 jm (ah (dH 2 B6 (ah (eV 1) (ah (eC (.int 1)) ag))) ag)) (bh (ah (eC (.bl true)) (ah (eC (.bl true)) (ah (eC (.bl true)) ag))))))) (bZ (eC (.bl false))) lq)
 (a9 (fD 3 (dH 1 Gm (ah (eV 1) ag)))
 (a9 (fD 4 (dH 1 jm (ah (eV 3) ag)))
 (kC (oH (bI (ae gp (eV 4) (bh (ah (eC (.bl true)) (ah (eC (.bl true)) (ah (eC (.bl true)) ag)))))) (bI (ae gp (eV 4) (bh (ah (eV 3) ag))))) (bZ (eC (.bl false))) lq)))))) (Ar s (.sh (.int c)) x2 x3 x4)=some (.nx,Ar s (.sh (.int c)) y2 y3 y4):=by
 obtain⟨t1,n1,n2⟩:=b9R c;obtain⟨t2,g1,g2⟩:=WM c 0 (.inl rfl);obtain⟨t3,g3,g4⟩:=WM c 1 (.inr rfl);obtain⟨t4,h1,h2⟩:=b4o c
 obtain⟨d,h3,h4⟩:∃d,jm [.str t4]=some (.sh (.lst false d))/\(d=lY\/d=[.str t4]):=by
  rcases h2 with h2|h2;.exact ⟨_,h2,.inl rfl⟩
  .exact ⟨_,h2,.inr rfl⟩
 refine⟨.sh (.str t2),.sh (.str t4),.sh (.lst false d),Wo.eq ?_⟩;have mh:∀{f:En->Option Sl} {env:En} {b:Bool},f env=some (.sh (.bl b))->bI f env=some b:=λh=>by unfold bI;rw[h];rfl
 refine D3 (mh (sF (x:=.sh (.lst false lY)) (y:=.ow lY) (nS (ds:=[.str t1]) (aC (r:=.sh (.str t1)) (nS (ds:=[.int c]) rfl rfl n1) rfl) rfl n2) rfl neT)) ?_;refine rh (s:=.sh (.str t2)) (nS (ds:=[.int c,.int 0]) rfl rfl g1) ?_;refine D3 ?_ ?_;.have a1:bI (ae gp (dH 1 jm (ah (eV 2) ag)) (bh (ah (eV 2) ag))) (Ar s (.sh (.int c)) (.sh (.str t2)) x3 x4)=some false:=mh (sF (x:=.sh (.lst false [.str t2])) (y:=.ow [.str t2]) (nS (ds:=[.str t2]) rfl rfl (g2.1 rfl)) rfl (Vc t2));have a2:bI (ae gp (dH 1 jm (ah (dH 2 B6 (ah (eV 1) (ah (eC (.int 1)) ag))) ag)) (bh (ah (eC (.bl true)) (ah (eC (.bl true)) (ah (eC (.bl true)) ag))))) (Ar s (.sh (.int c)) (.sh (.str t2)) x3 x4)=some false:=mh (sF (x:=.sh (.lst false lY)) (y:=.ow lY) (nS (ds:=[.str t3]) (aC (r:=.sh (.str t3)) (nS (ds:=[.int c,.int 1]) rfl rfl g3) rfl) rfl (g4.2 rfl)) rfl neT);show mi _ _ (Ar s (.sh (.int c)) (.sh (.str t2)) x3 x4)=_;unfold mi;rw[a1,a2]
 refine rh (s:=.sh (.str t4)) (nS (ds:=[.int c]) rfl rfl h1) ?_;refine rh (s:=.sh (.lst false d)) (nS (ds:=[.str t4]) rfl rfl h3) ?_;refine b4V ?_ rfl;show oH _ _ (Ar s (.sh (.int c)) (.sh (.str t2)) (.sh (.str t4)) (.sh (.lst false d)))=_;rcases h4 with rfl|rfl;.have a1:bI (ae gp (eV 4) (bh (ah (eC (.bl true)) (ah (eC (.bl true)) (ah (eC (.bl true)) ag))))) (Ar s (.sh (.int c)) (.sh (.str t2)) (.sh (.str t4)) (.sh (.lst false lY)))=some false:=mh (sF (x:=.sh (.lst false lY)) (y:=.ow lY) rfl rfl neT);unfold oH;rw[a1]
 .have a1:bI (ae gp (eV 4) (bh (ah (eC (.bl true)) (ah (eC (.bl true)) (ah (eC (.bl true)) ag))))) (Ar s (.sh (.int c)) (.sh (.str t2)) (.sh (.str t4)) (.sh (.lst false [.str t4])))=some true:=mh (sF (x:=.sh (.lst false [.str t4])) (y:=.ow lY) rfl rfl (P1 t4));have a2:bI (ae gp (eV 4) (bh (ah (eV 3) ag))) (Ar s (.sh (.int c)) (.sh (.str t2)) (.sh (.str t4)) (.sh (.lst false [.str t4])))=some false:=mh (sF (x:=.sh (.lst false [.str t4])) (y:=.ow [.str t4]) rfl rfl (Vc t4));unfold oH;rw[a1,a2]
theorem fin(ns:List Int)(E6:ns.length<=63):ND [.lst true (ns.map D.int)]=some (.sh (.bl true)):=by
 refine Wo.eq (LJ.mpr ?_);unfold RM;have hl:(ns.take 40).length<=40:=by simp;lia
 have e1:ae aD (pk (bV 0) mm (lQ (eC (.int 40)))) (bh (ah (eC (.int 0)) ag)) [.sh (.lst true (ns.map D.int)),.no,.no,.no,.no]=some (.ow ((ns.take 40++[0]).map D.int)):=by
  refine sF (x:=.ow ((ns.take 40).map D.int)) (y:=.ow [.int 0]) ?_ rfl ?_;.show some (Sl.ow (cutD (ns.map D.int) none (some ((40:Nat):Int))))=_;rw[b5G,b7Y]
  .show (if ((ns.take 40).map D.int).length+[D.int 0].length<=16777216 then some (Sl.ow ((ns.take 40).map D.int++[.int 0])) else none)=_;rw[if_pos (by rw[kN,KE];lia),List.map_append];rfl
 refine b9C e1 rfl ?_;refine XS D.int (λ_ env=>∃x1 x2 x3 x4,env=Ar (.sh (.lst true (ns.map D.int))) x1 x2 x3 x4) (ns.take 40++[0]) (λpre a post env _ hI=>?_) (λenv hI=>?_) ⟨_,_,_,_,rfl⟩;.obtain ⟨x1,x2,x3,x4,rfl⟩:=hI;obtain⟨y2,y3,y4,e⟩:=b5f (.sh (.lst true (ns.map D.int))) a x2 x3 x4;exact⟨Ar (.sh (.lst true (ns.map D.int))) (.sh (.int a)) x2 x3 x4,rfl,_,e,_,_,_,_,rfl⟩
 .exact Wo_ret.mpr ⟨_,rfl,rfl⟩
end My
structure PySem.W.Fast:Prop where
 (tw2266312066581930072 tw6273635893961149194 tw6343659254081556200 tw892188141509977749 tw6803334547798889908 tw2761062582098083395 tw10214476732458478421 tw391937403748509448 tw3308703105962288997 tw7850567119451038603 tw3374337745229876312 tw2334554508877100983 tw6821443211987540929 tw12321353400892654412 tw6022036602050089456 tw7225342787190336800 tw5558704188389453516 tw5975036125156032597 tw13403420006407874044 tw6943692970805633200 tw7992567192707512981 tw13752889391673932951 tw2114393958215574576 tw9182293674087528507 tw11845815862747084537 tw13151066352633826874 tw13155675242068189909 tw14686143563461229395 tw16243022019170169971 tw6095981631493541745 tw8911102562117954484 tw14704101830523785643 tw11288055402805016508 tw9340174220200551535 tw5127537286805052255 tw388625912403796648 tw147560181255032953 tw1547586633126372023 tw13932942127304107275 tw9897286248371877879 tw11654643638854951435 tw11251523405575483648 tw6601613769400515426 tw6723916983010365105 tw1118061750072318114 tw6708413261165936420 tw919766036381891722 tw12696103716209421767 tw9697896613828814271 tw18241747934356777090 tw10058315299932695769 tw3295368035109328463 tw8400713888624515663 tw12040647344186126056 tw3002758584870469041 tw2213546049143249040 tw12057000231600734034 tw17123175829665867938 tw15288331200289810721 tw7417116682256869433 tw17053947524352706254 tw142633178234516595 tw16691346556099663126 tw3527927152380788090 tw12517671585062147026 tw1090013194241669671 tw10168490045541930931 tw13998957086293155615 tw998785796249457684 tw4239519667817352190 tw11372537834131388677 tw2777658716612835348 tw16614347044578199866 tw17585051789435122158 tw1066956100689284248 tw11884225354170014635 tw17013966348623518100 tw8735614379660822579 tw16163311677858053117 tw317541174597030200 tw8414327090362638241 tw5630678702031576730 tw18231332788694093429 tw8920203663379778648 tw15182560138357435454 tw2950120331286802735 tw17438206650296483116 tw15512278924258167704 tw8894552338657073664 tw10328761345917818799 tw13469176655943386589 tw12747929158752792320 tw3849617619017033022 tw8638290743448767483 tw15812687246242240124 tw14500525415350069228 tw6747076835594564530 tw6546204927745266345 tw9472231844712507375 tw4288512389116085687 tw16221590790204685497 tw8657082661528582742 tw9903575543381345554 tw7743523294239271860 tw8413807303372336301 tw241255492189666304 tw9516584050290868745 tw17093564173791739917 tw8280449872635305720 tw13021320149867971239 tw8442685416835035893 tw7598816645797451490 tw5071029622847297636 tw13195492032282692879 tw16658150143800912189 tw5825878637581156150 tw2817117582373060537 tw12893567675856787023 tw10994311296851822783 tw1962580818869461660 tw17756045956325405474 tw5375027714608722023 tw2270413567680842344 tw5924918936445510035 tw14957609356929413263 tw6109284721335060962 tw12157053777931414557 tw13475314096912655142 tw8919033386770956464 tw1324580356300236425 tw11489951825215862057 tw13210185304317677703 tw13628711308933323724 tw5163073814508661582 tw13715670449444864800 tw5733075767575941175 tw17257720945180962539 tw6429987562123693264 tw4261791757564024217 tw16973901131322441999 tw7830602866785054102 tw12335670782867744791 tw10822013988765970823 tw15181870006120568252 tw15504278209355075381 tw3994645780582827368 tw461409150344494959 tw16633076562799549635 tw15952056909606952681 tw11625081932934917803 tw5203228324289339196 tw1514443880994574411 tw17398082400513050723 tw15234150186655919719 tw9517039910477971404 tw17565788326784868002 tw17241464339551932064 tw17340867364195729075 tw7029904336936139702 tw4889545413092096806 tw5877123950940929378 tw18423592612496230107 tw6502218901964614987 tw3481652799684194078 tw4600784487498027277 tw13180119674530706310 tw267951464092026225 tw1985720087061140608 tw14941139972763846516 tw1240355514212705535 tw18156327821198141258 tw3067786871499341933 tw2489932113432293668 tw7760053612921884104 tw18439270858087698049 tw4018320087112757497 tw3239033395112547010 tw7055649807330339714 tw6589410453522592787 tw8676189571741397676 tw5298376707309803537 tw2279376343225756707 tw12788981875035548512 tw17421794000089764933 tw13963236915973146560 tw6129715086186902608 tw8701966215998869660 tw16864498725500962357 tw6387605369259420324 tw16821644794823034117 tw18009961903894918548 tw14787595288921831727 tw7595588122864158869 tw4689672026410055079 tw11274829562934076710 tw1542714914717592985 tw14555498337452136725 tw4224847502889117043 tw8794737049639035349 tw16086192908439986098 tw1667881614022215036 tw9396179815713330236 tw1242720330247003503 tw7193954318957339377 tw2816532603718422282 tw16142389307772246544 tw8619244237219815932 tw9319829973808866954 tw1373732857710202774 tw14651456787854930890 tw5306644107571827545 tw11851938182915963266 tw5344148852043022932 tw5079017182369504471 tw7309766317298596256 tw5961171717112580736 tw10917172784758585182 tw4212364751751257789 tw6600364955649709677 tw3912804659094434570 tw10346356438886855935 tw10889072301947168527 tw7835728223124092519 tw12897343852518848609 tw397816619152269535 tw8759250527921446585 tw11367541085490894560 tw13895508822590494505 tw395585730395058944 tw12031474190339196172 tw7624571191299561183 tw8632986734068881273 tw9676318009195774056 tw6704385772271847077 tw6619045867742082533 tw16493136830163491765 tw1577956439993693172 tw18243292740273594206 tw77012858980513334 tw13642487999941559937 tw9518935542712444054 tw11677131094594985479 tw17532035753143555510 tw17745676941066116101 tw18171735384921122980 tw8161288095400559893 tw9286257240707794484 tw14576191654379061415 tw2977664490986049295 tw335787514330439634 tw7040026430450777105 tw14632849878529446729 tw15039588931763286999 tw10127766045871007892 tw1676862758739279175 tw6885167179498845131 tw18293008805153462220 tw536574708585708767 tw2660963622742415235 tw2279769219242800595 tw15584963111288897754 tw16755606603482587555 tw14283573076932332130 tw286576911577597825 tw5525695915700003783 tw3894063187479329766 tw7070173270642828078 tw6667297785723518681 tw12546090277770038343 tw14637733391589041273 tw14927997042232985910 tw12045373428885511181 tw2230226803988094706 tw16828230585570176253 tw4689751154380824578 tw14465768362295540308 tw3987092482521441118 tw11763651741402390867 tw9152590485149938114 tw446172897430050736 tw768916012643460688 tw12656099344601253054 tw16446496950262388132 tw12055008904628455061 tw8386752870238899025 tw14932747992148769885 tw10861919957878701880 tw10621261373324849642 tw17755081771747629472 tw8989793377822985633 tw16830835090035204664 tw5341294247565198878 tw6971043651113946608 tw18002673182231211177 tw7346895269663258259 tw40042264624930155 tw7658264737661339456 tw12626311533884267977 tw10392163483970883239 tw17920167339346411715 tw6773983193702484553 tw7920323937455411072 tw5920760579901232757 tw10684257572240590909 tw11273191457595837829 tw15722212106654559129 tw12062036543731874488 tw2709437030785947098 tw6213046811439954869 tw10408309721184289925 tw322190437238502875 tw12832437243272832810 tw11838383593327935997 tw3131951371439420302 tw5104901063987897367 tw9525793227083228916 tw4916761597346668334 tw12960447971830419552 tw11668753397556262775 tw7325651720792447031 tw737169987776504444 tw18073672709643815560 tw16338755956638444798 tw11998881364379925159 tw2482476422153129808 tw14878498631989925732 tw15025446893933410699 tw6488538763945585259 tw950221003538060209 tw7183493825623302074 tw4050342486155900337 tw16887532642041195847 tw7430906916580818181 tw1198684995318783709 tw17088680660610450026 tw11429987663336347224 tw8798727286579095956 tw9042764432881218118 tw1322502144738439367 tw8915966763613704925 tw10807274708054971504 tw40107025702557769 tw16743042649794763538 tw8679130430536514813 tw14606290656662760590 tw10176259005774700764 tw10742427139672791060 tw14028794349080992549 tw3047526680989697638 tw11620484572728439935 tw12471626301978179861 tw1807309416543931317 tw9893112807690404371 tw5128287218111370881 tw14975232629984497922 tw305120232157405132 tw15380362838718811632 tw13315058779529465370 tw1343466576704862388 tw6334813897186345946 tw18280487955991443411 tw15591504378375765783 tw7631470213393913946 tw11400372323231951881 tw17812689407027753554 tw17595612129924483349 tw11809497282372307421 tw9307414816372415732 tw8405808875701608342 tw14941142810710724983 tw9687253414451689951 tw6879507368089846024 tw906658724787424344 tw14745254821353198048 tw8211115311888492422 tw13827602139534476557 tw10093598974438785760 tw1292392858825542825 tw6784792038573983077 tw10777684534195252994 tw16910631203112087813 tw15652144728972358951 tw17023766308709153744 tw8263071395038042177 tw8230779386906794138 tw2275686771356888546 tw8671804104463646654 tw14722968180973082901 tw807991893569450190 tw16526983842277830074 tw14798258574250374400 tw12102329306317744997 tw13364553371761908771 tw12282925984748120405 tw16039319201545598797 tw12339545523736203648 tw225358049810242645 tw13359129983315366158 tw14676471899370414486 tw5144592079005494858 tw14750224550456248656 tw8877675218495572771 tw16599060181397606547 tw669417557267906895 tw3133567119833344943 tw14758345907352128576 tw14879320713230933056 tw1440761427015320769 tw15386589268711103102 tw17645267287698362575 tw2117487242471584578 tw11246740430049955326 tw13835071051503504573 tw12641672946755103806 tw225622055500885732 tw8857267550514295468 tw11499764161440728164 tw10109979982632951756 tw17824689665165090626 tw13116595082313336291 tw12957759365709187737 tw15636788921252954101 tw11952665280957836072 tw9169809443702255978 tw4013039875839988318 tw10060048015612479021 tw16032542057431989641 tw10807434014336081294 tw13710212239487497998 tw6959066913504633347 tw18221126581054578086 tw13467932804544268726 tw15562676944730477321 tw7899512430884640076 tw7319755922434945055 tw12130534903170084848 tw3711864786776311493 tw6518826522345992009 tw1347318628541454211 tw4166372679643429290 tw11513423348174130533 tw1011157018824740519 tw7293590864998235904 tw8827842210196426394 tw1140282039653044377 tw553624511705572030 tw17447317868373331737 tw4143427334422000249 tw900740691089912363 tw17075794085517577739 tw10917922484584486167 tw5889372691303915370 tw4846663009568768916 tw13851065777181090747 tw2563873337905595424 tw1000163227652292394 tw6156762053499424034 tw17031125864753480867 tw3793636994863573166 tw7292349719630604823 tw16924768133700936914 tw17262269876504203878 tw615399480440990393 tw8483108412492994359 tw9947302687016089687 tw7715651403542380625 tw15813363804349501358 tw16364935892517045415 tw16827298882249603965 tw5692602126937185484 tw14626659721364793441 tw12807817999772258467 tw10301185304578269980 tw11356538792602795533 tw15154035896279265190 tw8211487494530995489 tw13693399575219684224 tw8198647128368235838 tw10717562609178813738 tw12946761327544285273 tw10599521084768653327 tw4561703526975568059 tw6709938598045111631 tw12822660009700872009 tw1347176811621807637 tw13873564046816178540 tw14208695581428070124 tw12422809262452067674 tw9936295304830156858 tw13535796762777245738 tw9322598150919749551 tw698601297044438326 tw6270348618653986097 tw3364140518409909172 tw419834482452394254 tw8912525598168082997 tw9809819097140719017 tw14149236107484594785 tw4427565027234494080 tw6115596162856996556 tw7924548521263145489 tw2938404479890379220 tw5508726754045285993 tw1199637441174247537 tw9304581880931773293 tw5504792277453649992 tw8231386831790389384 tw12915279188014034981 tw17289484374607751904 tw2376086097935051156 tw821347592450925892 tw1849316173512097766 tw5286950606448756685 tw3000109012693027148 tw10475176159173424170:True)
open PySem PySem.W PyProof.Rows
set_option maxRecDepth 100000 in
set_option maxHeartbeats 0 in
theorem PySem.Challenge.cw_offerhouse_k40_no_rules_read_holds : PySem.Challenge.rw_offerhouse_k40_no_rules_read.Holds := by
  w_on; o_law; k_head; (case hw => w_witness2);k_fill;refine DL.HZ (l := PySem.Challenge.rw_offerhouse_k40_no_rules_read) (k := 188) ⟨rfl, by decide, by decide⟩ rfl rfl (ts := []) (fun w h Y => ⟨PySem.W.kIn_of Y, fun _ z => nomatch z⟩) (fun w => by kernel_rfl) ?F;case F => intro w mg fa h KX G JG;refine' My.all_mk KX G JG ?x0 ?x1 ?x2 ?x3 ?x4 ?x5 ?x6 ?x7 ?x8 ?x9 ?xa ?xb ?xc ?xd ?xe ?xf ?xg ?xh ?xi ?xj ?xk ?xl ?xm ?xn ?xo ?xp ?xq ?xr ?xs ?xt ?xu ?xv ?xw ?xx ?xy ?xz ?x10 ?x11 ?x12 ?x13 ?x14 ?x15 ?x16 ?x17 ?x18 ?x19 ?x1a ?x1b ?x1c ?x1d ?x1e ?x1f ?x1g ?x1h ?x1i ?x1j ?x1k ?x1l ?x1m ?x1n ?x1o ?x1p ?x1q ?x1r ?x1s ?x1t ?x1u ?x1v ?x1w ?x1x ?x1y ?x1z ?x20 ?x21 ?x22 ?x23 ?x24 ?x25 ?x26 ?x27 ?x28 ?x29 ?x2a ?x2b ?x2c ?x2d ?x2e ?x2f ?x2g ?x2h ?x2i ?x2j ?x2k ?x2l ?x2m ?x2n ?x2o ?x2p ?x2q ?x2r ?x2s ?x2t ?x2u ?x2v ?x2w ?x2x ?x2y ?x2z ?x30 ?x31 ?x32 ?x33 ?x34 ?x35 ?x36 ?x37 ?x38 ?x39 ?x3a ?x3b ?x3c ?x3d ?x3e ?x3f ?x3g ?x3h ?x3i ?x3j ?x3k ?x3l ?x3m ?x3n ?x3o ?x3p ?x3q ?x3r ?x3s ?x3t ?x3u ?x3v ?x3w ?x3x ?x3y ?x3z ?x40 ?x41 ?x42 ?x43 ?x44 ?x45 ?x46 ?x47 ?x48 ?x49 ?x4a ?x4b ?x4c ?x4d ?x4e ?x4f ?x4g ?x4h ?x4i ?x4j ?x4k ?x4l ?x4m ?x4n ?x4o ?x4p ?x4q ?x4r ?x4s ?x4t ?x4u ?x4v ?x4w ?x4x ?x4y ?x4z ?x50 ?x51 ?x52 ?x53 ?x54 ?x55 ?x56 ?x57 ?x58 ?x59 ?x5a;(case x0|x1|x2|x3|x4|x5|x6|x7|x8|x9|xa|xb|xc|xd|xe|xf|xg|xh|xi|xj|xk => constructor <;> k_is);(case xl|xm => k_is);(case xn => exact⟨_, by k_is⟩);(case xo => k_is); (case xp => k_is);(case xq => k_is);(case xr => exact⟨_, by k_is⟩);(case xs => k_is);(case xt|xu|xv|xw|xx => exact⟨_, by k_is⟩);(case xy|xz|x10|x11|x12|x13|x14|x15|x16 => k_is);(case x17 => kernel_rfl);(case x18|x19|x1a|x1b|x1c|x1d => k_is);(case x1e => kernel_rfl);(case x1f|x1g|x1h|x1i|x1j|x1k => k_is);(case x1l => kernel_rfl);(case x1m|x1n|x1o => k_is);(case x1p|x1v|x21|x26|x2b|x2h|x2l|x2r|x2x|x33|x3a|x3g|x3l|x3r => exact⟨by k_is, by k_is, by k_is, by k_is, by k_is⟩);(case x1q|x1w|x22|x27|x2c|x2i|x2m|x2s|x2y|x34|x3b|x3h|x3m|x3s => constructor <;> k_is);(case x1r|x1s|x1t|x1x|x1y|x1z|x23|x28|x2d|x2e|x2f|x2j|x2n|x2o|x2t|x2u|x2z|x30|x35|x36|x37|x3c|x3d|x3i|x3n|x3o|x3t|x3u => unfold L2.ak; k_is);(case x1u|x20|x24|x25|x29|x2a|x2g|x2k|x2p|x2q|x2v|x2w|x31|x32|x38|x39|x3e|x3f|x3j|x3k|x3p|x3q|x3v|x3w|x3x|x3y|x3z|x40 => constructor <;> k_is);(case x41|x42 => k_is);(case x43|x44 => kernel_rfl);(case x45|x46|x47|x48|x49|x4a|x4b|x4c|x4d|x4e|x4f|x4g|x4h|x4i|x4j|x4k|x4l|x4m|x4n|x4o|x4p|x4q|x4r|x4s|x4t|x4u|x4v|x4w|x4x|x4y|x4z|x50|x51 => constructor <;> k_is);(case x52|x53|x54|x55 => kernel_rfl);(case x56 => k_is);(case x57 => kernel_rfl);(case x58 => k_is);(case x59 => kernel_rfl);(case x5a => exact My.fin)
