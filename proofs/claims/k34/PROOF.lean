import PyProof.Rows.All
import Wide.All
import OpenK.AllK
import Wide.FinOn
import Lean
import PyProof.EqAt
import PyProof.EqKinds
import PyProof.TupleCall
import PySem.Challenge.RW_offerhouse_k34_made_of_others
set_option Elab.async false
set_option linter.all false
set_option synthInstance.maxSize 10000
set_option synthInstance.maxHeartbeats 60000
namespace QA
inductive E | v (i:Nat) | k (n:Nat) | i (z:Int) | u (b:Bool) (x y:E) | a (x y:E) | s (x y:E) | n (x:E) | m (s:Bool) (n:Nat) (z:Int) (x:E) | c (x:E)
inductive F | le (d t:Bool) (x y:E) | eq (t:Bool) (x y:E) | ff | no (f:F) | an (f g:F) | or (f g:F) | im (f g:F) | io (f g:F)
structure C where
  i:List Int
  n:List Nat
noncomputable def gi:List Int->Nat->Int
  | [],_=>0
  | x::_,0=>x
  | _::l,i+1=>gi l i
noncomputable def gn:List Nat->Nat->Nat
  | [],_=>0
  | x::_,0=>x
  | _::l,i+1=>gn l i
noncomputable def den (c:C):E->Nat × Int
  | .v i=>(gn c.n i,gi c.i i)
  | .k n=>(n,0)
  | .i z=>(0,z)
  | .u b x y=>(cond b (max (den c x).1 (den c y).1) (min (den c x).1 (den c y).1),cond b (max (den c x).2 (den c y).2) (min (den c x).2 (den c y).2))
  | .a x y=>((den c x).1+(den c y).1,(den c x).2+(den c y).2)
  | .s x y=>((den c x).1 - (den c y).1,(den c x).2 - (den c y).2)
  | .n x=>(0,- (den c x).2)
  | .m s n z x=>(cond s (n * (den c x).1) ((den c x).1 * n),cond s (z * (den c x).2) ((den c x).2 * z))
  | .c x=>((den c x).2.toNat,((den c x).1:Int))
noncomputable def dF (c:C):F->Prop
  | .le d t x y=>cond d (cond t ((den c x).1 < (den c y).1) ((den c x).2 < (den c y).2)) (cond t ((den c x).1<=(den c y).1) ((den c x).2<=(den c y).2))
  | .eq t x y=>cond t ((den c x).1=(den c y).1) ((den c x).2=(den c y).2)
  | .ff=>False
  | .no f=>¬ dF c f
  | .an f g=>dF c f/\dF c g
  | .or f g=>dF c f ∨ dF c g
  | .im f g=>dF c f->dF c g
  | .io f g=>(dF c f ↔ dF c g)
noncomputable def ev (r:Nat->Int):List Int->Int
  | []=>0
  | c::l=>c * r 0+ev (λi=>r (i+1)) l
noncomputable def ad:List Int->List Int->List Int
  | [],m=>m
  | x::l,[]=>x::l
  | x::l,y::m=>Int.add x y::ad l m
noncomputable def sc (k:Int):List Int->List Int
  | []=>[]
  | x::l=>Int.mul k x::sc k l
theorem ev_ad:∀ (l m:List Int) (r:Nat->Int),ev r (ad l m)=ev r l+ev r m
  | [],m,r=>(Int.zero_add _).symm
  | x::l,[],r=>(Int.add_zero _).symm
  | x::l,y::m,r=>by
    show (x+y) * r 0+ev _ (ad l m)=(x * r 0+ev _ l)+(y * r 0+ev _ m)
    rw [ev_ad l m,Int.add_mul];omega
theorem ev_sc (k:Int):∀ (l:List Int) (r:Nat->Int),ev r (sc k l)=k * ev r l
  | [],r=>(Int.mul_zero k).symm
  | x::l,r=>by
    show k * x * r 0+ev _ (sc k l)=k * (x * r 0+ev _ l)
    rw [ev_sc k l,Int.mul_add,Int.mul_assoc]
noncomputable def zz:List Int->List Int
  | []=>[]
  | k::l=>k::0::0::l
noncomputable def ui:Nat->List Int
  | 0=>[0,1]
  | i+1=>zz (ui i)
noncomputable def un:Nat->List Int
  | 0=>[0,0,1]
  | i+1=>zz (un i)
noncomputable def rr (c:C):Nat->Nat->Int
  | j,0=>gi c.i j
  | j,1=>(gn c.n j:Int)
  | j,i+2=>rr c (j+1) i
noncomputable def rho (c:C) (j:Nat):Nat->Int
  | 0=>1
  | i+1=>rr c j i
theorem ev_zz {c:C} {j:Nat}:∀ l,ev (rho c j) (zz l)=ev (rho c (j+1)) l
  | []=>rfl
  | k::l=>by
    show k * 1+(0 * _+(0 * _+ev _ l))=k * 1+ev _ l
    rw [Int.zero_mul,Int.zero_mul,Int.zero_add,Int.zero_add];rfl
theorem ev_ui {c:C}:∀ (i j:Nat),ev (rho c j) (ui i)=gi c.i (j+i)
  | 0,j=>by show 0 * _+(1 * gi c.i j+0)=gi c.i j;omega
  | i+1,j=>by show ev _ (zz _)=_;rw [ev_zz,ev_ui i];congr 1;omega
theorem ev_un {c:C}:∀ (i j:Nat),ev (rho c j) (un i)=(gn c.n (j+i):Int)
  | 0,j=>by show 0 * _+(0 * _+(1 * (gn c.n j:Int)+0))=(gn c.n j:Int);omega
  | i+1,j=>by show ev _ (zz _)=_;rw [ev_zz,ev_un i];congr 2;omega
noncomputable def ge (k:Int) (x y:List Int):List Int:=ad [k] (ad y (sc (-1) x))
theorem ev_ge {c:C} {k:Int} {x y:List Int}:ev (rho c 0) (ge k x y)=k+ev (rho c 0) y - ev (rho c 0) x:=by
  unfold ge;rw [ev_ad,ev_ad,ev_sc];show k * 1+0+_=_;omega
noncomputable def Al (r:Nat->Int) (l:List (List Int)):Prop:=∀ x∈l,0<=ev r x
theorem al_c {r:Nat->Int} {x:List Int} {l:List (List Int)} (h:0<=ev r x) (hl:Al r l):Al r (x::l):=List.forall_mem_cons.mpr ⟨h,hl⟩
theorem al_n {r:Nat->Int}:Al r []:=λ_ h=>nomatch h
theorem al_a {r:Nat->Int} {l m:List (List Int)} (h:Al r l) (hl:Al r m):Al r (l++m):=λx hx=>(List.mem_append.mp hx).elim (h x) (hl x)
noncomputable abbrev A:=List Int × List (List Int)
noncomputable def G (c:C) (P:List A) (v:Int):Prop:=∃ q∈P,ev (rho c 0) q.1=v/\Al (rho c 0) q.2
noncomputable def cp (P Q:List A) (f:List Int->List Int->List A):List A:=P.flatMap λp=>Q.flatMap λq=>(f p.1 q.1).map λr=>(r.1,r.2++(p.2++q.2))
theorem cp_ok {c:C} {P Q:List A} {f:List Int->List Int->List A} {x y v:Int} (hx:G c P x) (hy:G c Q y) (hf:∀ l m,ev (rho c 0) l=x->ev (rho c 0) m=y->G c (f l m) v):G c (cp P Q f) v:=by
  obtain ⟨p,p1,p2,p3⟩:=hx;obtain ⟨q,q1,q2,q3⟩:=hy;obtain ⟨r,r1,r2,r3⟩:=hf _ _ p2 q2
  exact ⟨_,List.mem_flatMap.mpr ⟨p,p1,List.mem_flatMap.mpr ⟨q,q1,List.mem_map.mpr ⟨r,r1,rfl⟩⟩⟩,r2,al_a r3 (al_a p3 q3)⟩
noncomputable def e0:List A:=[([],[])]
noncomputable def li:E->Bool->List A
  | .v i,t=>[(cond t (un i) (ui i),[])]
  | .k n,t=>[(cond t [(n:Int)] [],[])]
  | .i z,t=>[(cond t [] [z],[])]
  | .u b x y,t=>cp (li x t) (li y t) λl m=>[(cond b l m,[ge 0 m l]),(cond b m l,[ge 0 l m])]
  | .a x y,t=>cp (li x t) (li y t) λl m=>[(ad l m,[])]
  | .s x y,t=>cp (li x t) (li y t) λl m=>(ge 0 m l,cond t [ge 0 m l] [])::cond t [([],[ge 0 l m])] []
  | .n x,t=>cp (li x t) e0 λl _=>[(cond t [] (sc (-1) l),[])]
  | .m _ n z x,t=>cp (li x t) e0 λl _=>[(sc (cond t (n:Int) z) l,[])]
  | .c x,t=>cp (li x (!t)) e0 λl _=>(l,cond t [l] [])::cond t [([],[ge 0 l []])] []
noncomputable def va (c:C) (t:Bool) (e:E):Int:=cond t ((den c e).1:Int) (den c e).2
theorem g1 {c:C} {l:List Int} {v:Int} {L:List A} {k:List (List Int)} (h:ev (rho c 0) l=v) (hk:Al (rho c 0) k):G c ((l,k)::L) v:=⟨_,List.mem_cons_self ..,h,hk⟩
theorem g2 {c:C} {q:A} {v:Int} {L:List A} (h:G c L v):G c (q::L) v:=h.elim λx hx=>⟨x,List.mem_cons_of_mem _ hx.1,hx.2⟩
theorem ge_1 {c:C} {l m:List Int} {x y:Int} (hx:ev (rho c 0) l=x) (hy:ev (rho c 0) m=y) (h:y<=x):Al (rho c 0) [ge 0 m l]:=al_c (by rw [ev_ge];omega) al_n
theorem li_ok {c:C} (e:E):∀ (t:Bool),G c (li e t) (va c t e):=by
  have z0:G c e0 0:=g1 rfl al_n
  have k1:∀ k,ev (rho c 0) [k]=k:=λk=>by show k * 1+0=k;omega
  induction e with
  | v i=>intro t;cases t <;> exact g1 ((by first | exact ev_ui i 0 | exact ev_un i 0:ev _ _=_).trans (by rw [Nat.zero_add];rfl)) al_n
  | k n=>intro t;cases t;exact g1 rfl al_n;exact g1 (k1 _) al_n
  | i z=>intro t;cases t;exact g1 (k1 _) al_n;exact g1 rfl al_n
  | u b x y hx hy =>
    intro t;refine cp_ok (hx t) (hy t) λl m e1 e2=>?_
    rcases Int.le_total (va c t y) (va c t x) with h | h
    · refine g1 ?_ (ge_1 e1 e2 h)
      cases t <;> cases b <;> (show ev _ _=_;simp only [cond_true,cond_false];first | rw [e1] | rw [e2]) <;> (simp only [va,den,cond_true,cond_false] at *;omega)
    · refine g2 (g1 ?_ (ge_1 e2 e1 h))
      cases t <;> cases b <;> (show ev _ _=_;simp only [cond_true,cond_false];first | rw [e1] | rw [e2]) <;> (simp only [va,den,cond_true,cond_false] at *;omega)
  | a x y hx hy =>
    intro t;refine cp_ok (hx t) (hy t) λl m e1 e2=>g1 ?_ al_n
    rw [ev_ad,e1,e2];cases t <;> simp only [va,den,cond_true,cond_false];omega
  | s x y hx hy =>
    intro t;refine cp_ok (hx t) (hy t) λl m e1 e2=>?_
    cases t with
    | false=>exact g1 (by rw [ev_ge,e1,e2];simp only [va,den,cond_false];omega) al_n
    | true =>
      rcases Int.le_total (va c true y) (va c true x) with h | h
      · exact g1 (by rw [ev_ge,e1,e2];simp only [va,den,cond_true] at *;omega) (ge_1 e1 e2 h)
      · exact g2 (g1 (by show (0:Int)=_;simp only [va,den,cond_true] at *;omega) (ge_1 e2 e1 h))
  | n x hx =>
    intro t;refine cp_ok (hx t) z0 λl m e1 e2=>g1 ?_ al_n
    cases t with
    | false=>show ev _ (sc _ _)=_;rw [ev_sc,e1];simp only [va,den,cond_false];omega
    | true=>rfl
  | m s n z x hx =>
    intro t;refine cp_ok (hx t) z0 λl m e1 e2=>g1 ?_ al_n
    rw [ev_sc,e1];cases t <;> cases s <;> simp only [va,den,cond_true,cond_false,Int.natCast_mul,Int.mul_comm]
  | c x hx =>
    intro t;refine cp_ok (hx (!t)) z0 λl m e1 e2=>?_
    cases t with
    | false=>exact g1 e1 al_n
    | true =>
      rcases Int.le_total 0 (va c false x) with h | h
      · exact g1 (by rw [e1];simp only [va,den,cond_true,cond_false,Bool.not_true] at *;omega) (al_c (by rw [e1];exact h) al_n)
      · exact g2 (g1 (by show (0:Int)=_;simp only [va,den,cond_true,cond_false] at *;omega) (ge_1 rfl e1 h))
noncomputable def sg:Int->Ordering
  | .ofNat 0=>.eq
  | .ofNat _=>.gt
  | .negSucc _=>.lt
noncomputable abbrev B:=Int × Int × List Int
structure P3 where
  p:List B
  n:List B
  z:List (List Int)
noncomputable def p1 (k a:Int) (r:List Int) (q:P3):Ordering->P3
  | .eq=>⟨q.p,q.n,(k::r)::q.z⟩
  | .gt=>⟨(a,k,r)::q.p,q.n,q.z⟩
  | .lt=>⟨q.p,(Int.neg a,k,r)::q.n,q.z⟩
noncomputable def ex:Nat->List Int->Int × List Int
  | _,[]=>(0,[])
  | 0,a::l=>(a,l)
  | j+1,a::l=>((ex j l).1,a::(ex j l).2)
noncomputable def p2 (j:Nat) (q:P3):List Int->P3
  | []=>q
  | k::l=>p1 k (ex j l).1 (ex j l).2 q (sg (ex j l).1)
noncomputable def pt (j:Nat):List (List Int)->P3
  | []=>⟨[],[],[]⟩
  | x::l=>p2 j (pt j l) x
noncomputable def ct (q:P3):Bool:=Nat.ble (Nat.mul q.p.length q.n.length) (Nat.succ (Nat.add q.p.length q.n.length))
noncomputable def bs (l:List (List Int)):Nat->Nat->Nat
  | 0,_=>0
  | n+1,j=>cond (ct (pt j l)) j (bs l n (j+1))
noncomputable def gc:List Int->Nat
  | []=>0
  | x::l=>Nat.gcd x.natAbs (gc l)
noncomputable def dv (g:Int):List Int->List Int
  | []=>[]
  | x::l=>x / g::dv g l
noncomputable def t1 (k:Int) (l:List Int):Nat->List Int
  | 0=>[k]
  | 1=>k::l
  | g+2=>k / ((g+2:Nat):Int)::dv ((g+2:Nat):Int) l
noncomputable def tg:List Int->List Int
  | []=>[]
  | k::l=>t1 k l (gc l)
noncomputable def co (a b:B):List Int:=tg (ad (sc b.1 (a.2.1::a.2.2)) (sc a.1 (b.2.1::b.2.2)))
noncomputable def cr (n:List B) (z:List (List Int)) (p:List B):List (List Int):=(p.flatMap λa=>n.map λb=>co a b)++z
noncomputable def f1:List Int->Bool
  | [.negSucc _]=>true
  | _=>false
noncomputable def f0 (l:List (List Int)) (j:Nat) (f:List (List Int)->Bool):Bool:=f (cr (pt j l).n (pt j l).z (pt j l).p)
noncomputable def fm:Nat->List (List Int)->Bool
  | 0,l=>l.any f1
  | n+1,l=>l.any f1 || (Nat.ble l.length 300 && f0 l (bs l (n+1) 0) (fm n))
noncomputable def dr:Nat->(Nat->Int)->Nat->Int
  | 0,r,i=>r (i+1)
  | _+1,r,0=>r 0
  | j+1,r,i+1=>dr j (λi=>r (i+1)) i
theorem ex_ok:∀ (j:Nat) (l:List Int) (r:Nat->Int),ev r l=(ex j l).1 * r j+ev (dr j r) (ex j l).2
  | 0,[],r=>by show 0=0 * _+0;rw [Int.zero_mul];rfl
  | j+1,[],r=>by show 0=0 * _+0;rw [Int.zero_mul];rfl
  | 0,a::l,r=>rfl
  | j+1,a::l,r=>by
    show a * r 0+ev _ l=(ex j l).1 * r (j+1)+(a * r 0+ev (dr j λi=>r (i+1)) (ex j l).2)
    rw [ex_ok j l];exact Int.add_left_comm ..
noncomputable def sh (j:Nat) (r:Nat->Int):Nat->Int
  | 0=>r 0
  | i+1=>dr j (λi=>r (i+1)) i
theorem ev_cut {r:Nat->Int} {j:Nat} {k:Int} {l:List Int}:ev r (k::l)=(ex j l).1 * r (j+1)+ev (sh j r) (k::(ex j l).2):=by
  show k * r 0+ev _ l=(ex j l).1 * r (j+1)+(k * r 0+ev (dr j λi=>r (i+1)) (ex j l).2)
  rw [ex_ok j l];exact Int.add_left_comm ..
noncomputable def Bp (r:Nat->Int) (y:Int) (a:B):Prop:=0 < a.1/\0<=a.1 * y+ev r (a.2.1::a.2.2)
noncomputable def P0 (r:Nat->Int) (j:Nat) (q:P3):Prop:=(∀ a∈q.p,Bp (sh j r) (r (j+1)) a)/\(∀ a∈q.n,Bp (sh j r) (-r (j+1)) a)/\Al (sh j r) q.z
theorem sg_ok (a:Int):(sg a=.eq/\a=0) ∨ (sg a=.gt/\0 < a) ∨ (sg a=.lt/\a < 0):=by
  match a with
  | .ofNat 0=>exact .inl ⟨rfl,rfl⟩
  | .ofNat (n+1)=>exact .inr (.inl ⟨rfl,Int.natCast_pos.mpr (Nat.succ_pos n)⟩)
  | .negSucc _=>exact .inr (.inr ⟨rfl,by omega⟩)
theorem p2_ok {r:Nat->Int} {j:Nat} {q:P3} (h:P0 r j q):∀ {x:List Int},0<=ev r x->P0 r j (p2 j q x)
  | [],_=>h
  | k::l,hx=>by
    rw [ev_cut (j:=j)] at hx
    show P0 r j (p1 k (ex j l).1 (ex j l).2 q (sg (ex j l).1))
    rcases sg_ok (ex j l).1 with ⟨e,g⟩ | ⟨e,g⟩ | ⟨e,g⟩ <;> rw [e]
    · exact ⟨h.1,h.2.1,al_c (by rw [g,Int.zero_mul,Int.zero_add] at hx;exact hx) h.2.2⟩
    · exact ⟨List.forall_mem_cons.mpr ⟨⟨g,hx⟩,h.1⟩,h.2⟩
    · exact ⟨h.1,List.forall_mem_cons.mpr ⟨⟨Int.neg_pos_of_neg g,by show 0<=-(ex j l).1 * -r (j+1)+_;rw [Int.neg_mul_neg];exact hx⟩,h.2.1⟩,h.2.2⟩
theorem pt_ok {r:Nat->Int} (j:Nat):∀ {l:List (List Int)},Al r l->P0 r j (pt j l)
  | [],_=>⟨λ_ h=>(nomatch h),λ_ h=>(nomatch h),al_n⟩
  | x::l,h=>p2_ok (pt_ok j λy hy=>h y (List.mem_cons_of_mem _ hy)) (h x (List.mem_cons_self ..))
theorem gc_dv:∀ (l:List Int) (g:Nat) (r:Nat->Int),g ∣ gc l->ev r l=g * ev r (dv g l)
  | [],g,r,_=>(Int.mul_zero _).symm
  | x::l,g,r,h=>by
    have h3:(g:Int) * (x / g)=x:=Int.mul_ediv_cancel' (Int.ofNat_dvd_left.mpr (Nat.dvd_trans h (Nat.gcd_dvd_left ..)))
    show x * _+ev _ l=g * (x / g * _+ev _ (dv g l))
    rw [gc_dv l g _ (Nat.dvd_trans h (Nat.gcd_dvd_right ..)),Int.mul_add,← Int.mul_assoc,h3]
theorem t1_ok {r:Nat->Int} (hr:r 0=1) {k:Int} {l:List Int} (h:0<=ev r (k::l)):∀ {g},g=gc l->0<=ev r (t1 k l g)
  | 0,e=>by
    have h:0<=k * r 0+ev _ l:=h
    rw [gc_dv l 0 _ (by rw [e];exact Nat.dvd_refl _),Int.natCast_zero,Int.zero_mul] at h;exact h
  | 1,e=>h
  | g+2,e=>by
    have h:0<=k * r 0+ev _ l:=h
    show 0<=k / ((g+2:Nat):Int) * r 0+ev _ (dv ((g+2:Nat):Int) l)
    rw [gc_dv l (g+2) _ (by rw [e];exact Nat.dvd_refl _),hr,Int.mul_one] at h
    rw [hr,Int.mul_one]
    have hg:0 < ((g+2:Nat):Int):=by omega
    generalize ((g+2:Nat):Int)=d at *
    generalize ev _ (dv d l)=y at *
    have:-y<=k / d:=(Int.le_ediv_iff_mul_le hg).mpr (by rw [Int.neg_mul,Int.mul_comm];omega)
    omega
theorem co_ok {r:Nat->Int} (hr:r 0=1) {y:Int} {a b:B} (h1:Bp r y a) (h2:Bp r (-y) b):0<=ev r (co a b):=by
  refine t1_ok hr ?_ rfl
  show 0<=ev r (ad (sc b.1 (a.2.1::a.2.2)) (sc a.1 (b.2.1::b.2.2)))
  rw [ev_ad,ev_sc,ev_sc]
  have e1:=Int.mul_nonneg (Int.le_of_lt h2.1) h1.2
  have e2:=Int.mul_nonneg (Int.le_of_lt h1.1) h2.2
  rw [Int.mul_add] at e1 e2
  have:a.1 * (b.1 * -y)=- (b.1 * (a.1 * y)):=by rw [Int.mul_neg,Int.mul_neg,Int.mul_left_comm]
  omega
theorem f1_ok {r:Nat->Int} (hr:r 0=1) {l:List (List Int)} (h:Al r l):¬ l.any f1=true:=λk=>by
  obtain ⟨x,h1,h2⟩:=List.any_eq_true.mp k
  have:=h x h1
  unfold f1 at h2;split at h2
  · have t:0<=_ * r 0+0:=this
    rw [hr] at t;omega
  · cases h2
theorem fm_ok:∀ (n:Nat) {r:Nat->Int} {l:List (List Int)},r 0=1->Al r l->¬ fm n l=true
  | 0,r,l,hr,h=>f1_ok hr h
  | n+1,r,l,hr,h=>λk=>by
    rcases Bool.or_eq_true_iff.mp k with k | k
    · exact f1_ok hr h k
    · obtain ⟨i,j,m⟩:=pt_ok (bs l (n+1) 0) h
      refine fm_ok n (r:=sh _ r) hr (al_a (λx hx=>?_) m) (Bool.and_eq_true_iff.mp k).2
      obtain ⟨a,a1,a2⟩:=List.mem_flatMap.mp hx
      obtain ⟨b,b1,rfl⟩:=List.mem_map.mp a2
      exact co_ok (r:=sh _ r) hr (i a a1) (j b b1)
noncomputable abbrev T:=List (Bool × F)
noncomputable def al (t:Bool) (x y:E) (cs:List (List Int)) (k:List Int->List Int->List (List Int)->Bool):Bool:=(li x t).all λp=>(li y t).all λq=>k p.1 q.1 (p.2++(q.2++cs))
noncomputable def tb (w:Nat):Nat->T->List (List Int)->Bool
  | 0,_,_=>false
  | n+1,[],cs=>fm w cs
  | n+1,(b,f)::r,cs=>match f with
    | .le d t x y=>al t x y cs λl m cs=>tb w n r (cond b (ge (cond d (-1) 0) l m) (ge (cond d 0 (-1)) m l)::cs)
    | .eq t x y=>al t x y cs λl m cs=>cond b (tb w n r (ge 0 l m::ge 0 m l::cs)) (tb w n r (ge (-1) l m::cs) && tb w n r (ge (-1) m l::cs))
    | .ff=>cond b true (tb w n r cs)
    | .no f=>tb w n ((!b,f)::r) cs
    | .an f g=>cond b (tb w n ((true,f)::(true,g)::r) cs) (tb w n ((false,f)::r) cs && tb w n ((false,g)::r) cs)
    | .or f g=>cond b (tb w n ((true,f)::r) cs && tb w n ((true,g)::r) cs) (tb w n ((false,f)::(false,g)::r) cs)
    | .im f g=>cond b (tb w n ((false,f)::r) cs && tb w n ((true,g)::r) cs) (tb w n ((true,f)::(false,g)::r) cs)
    | .io f g=>tb w n ((b,g)::(true,f)::r) cs && tb w n ((!b,g)::(false,f)::r) cs
noncomputable def hd (c:C) (q:Bool × F):Prop:=cond q.1 (dF c q.2) (¬ dF c q.2)
theorem al_ok {c:C} {t:Bool} {x y:E} {cs:List (List Int)} {k:List Int->List Int->List (List Int)->Bool} (h:al t x y cs k=true) (hc:Al (rho c 0) cs):∃ l m d,ev (rho c 0) l=va c t x/\ev (rho c 0) m=va c t y/\Al (rho c 0) d/\k l m d=true:=by
  obtain ⟨p,p1,p2,p3⟩:=li_ok (c:=c) x t;obtain ⟨q,q1,q2,q3⟩:=li_ok (c:=c) y t
  exact ⟨_,_,_,p2,q2,al_a p3 (al_a q3 hc),List.all_eq_true.mp (List.all_eq_true.mp h p p1) q q1⟩
theorem tb_ok {c:C} {w:Nat}:∀ (n:Nat) {r:T} {cs:List (List Int)},Al (rho c 0) cs->(∀ q∈r,hd c q)->¬ tb w n r cs=true
  | 0,_,_,_,_=>nofun
  | n+1,[],cs,hc,hr=>fm_ok w rfl hc
  | n+1,(b,f)::r,cs,hc,hr=>λh=>by
    obtain ⟨hq,hr'⟩:=List.forall_mem_cons.mp hr
    have I:∀ {p q},hd c p->hd c q->tb w n (p::q::r) cs=true->False:=λh1 h2 h3=>tb_ok n hc (List.forall_mem_cons.mpr ⟨h1,List.forall_mem_cons.mpr ⟨h2,hr'⟩⟩) h3
    have J:∀ {p},hd c p->tb w n (p::r) cs=true->False:=λh1 h3=>tb_ok n hc (List.forall_mem_cons.mpr ⟨h1,hr'⟩) h3
    cases f with
    | le d t x y =>
      have h:al t x y cs (λl m cs=>tb w n r (cond b (ge (cond d (-1) 0) l m) (ge (cond d 0 (-1)) m l)::cs))=true:=h
      obtain ⟨l,m,e,h1,h2,he,h3⟩:=al_ok h hc
      refine tb_ok n (al_c ?_ he) hr' h3
      cases b <;> cases t <;> cases d <;> (show 0<=ev _ (ge _ _ _);rw [ev_ge,h1,h2];simp only [hd,dF,va,cond_true,cond_false] at *;omega)
    | eq t x y =>
      have h:al t x y cs (λl m cs=>cond b (tb w n r (ge 0 l m::ge 0 m l::cs)) (tb w n r (ge (-1) l m::cs) && tb w n r (ge (-1) m l::cs)))=true:=h
      obtain ⟨l,m,e,h1,h2,he,h3⟩:=al_ok h hc
      cases b with
      | true =>
        refine tb_ok n (al_c ?_ (al_c ?_ he)) hr' h3 <;>
        cases t <;> (rw [ev_ge,h1,h2];simp only [hd,dF,va,cond_true,cond_false] at *;omega)
      | false =>
        obtain ⟨h4,h5⟩:=Bool.and_eq_true_iff.mp h3
        rcases Int.lt_or_lt_of_ne (a:=ev (rho c 0) l) (b:=ev (rho c 0) m) (by rw [h1,h2];cases t <;> (simp only [hd,dF,va,cond_true,cond_false] at *;omega)) with g | g
        · exact tb_ok n (al_c (by rw [ev_ge];omega) he) hr' h4
        · exact tb_ok n (al_c (by rw [ev_ge];omega) he) hr' h5
    | ff =>
      cases b with
      | true=>exact hq
      | false=>exact tb_ok n hc hr' h
    | no f =>
      cases b with
      | true=>exact J (p:=(false,f)) hq h
      | false=>exact J (p:=(true,f)) (Classical.not_not.mp hq) h
    | an f g =>
      cases b with
      | true=>exact I (p:=(true,f)) (q:=(true,g)) hq.1 hq.2 h
      | false =>
        obtain ⟨h4,h5⟩:=Bool.and_eq_true_iff.mp h
        by_cases k:dF c f
        · exact J (p:=(false,g)) (λz=>hq ⟨k,z⟩) h5
        · exact J (p:=(false,f)) k h4
    | or f g =>
      cases b with
      | false=>exact I (p:=(false,f)) (q:=(false,g)) (λz=>hq (.inl z)) (λz=>hq (.inr z)) h
      | true =>
        obtain ⟨h4,h5⟩:=Bool.and_eq_true_iff.mp h
        rcases (hq:dF c f ∨ dF c g) with k | k
        · exact J (p:=(true,f)) k h4
        · exact J (p:=(true,g)) k h5
    | im f g =>
      cases b with
      | false=>exact I (p:=(true,f)) (q:=(false,g)) (Classical.byContradiction λz=>hq λy=>(z y).elim) (λz=>hq λ_=>z) h
      | true =>
        obtain ⟨h4,h5⟩:=Bool.and_eq_true_iff.mp h
        by_cases k:dF c f
        · exact J (p:=(true,g)) (hq k) h5
        · exact J (p:=(false,f)) k h4
    | io f g =>
      obtain ⟨h4,h5⟩:=Bool.and_eq_true_iff.mp h
      by_cases k:dF c f
      · refine I (p:=(b,g)) (q:=(true,f)) ?_ k h4
        cases b with
        | true=>exact hq.mp k
        | false=>exact λz=>hq ⟨λ_=>z,λ_=>k⟩
      · refine I (p:=(!b,g)) (q:=(false,f)) ?_ k h5
        cases b with
        | true=>exact λz=>k (hq.mpr z)
        | false=>exact Classical.byContradiction λz=>hq ⟨λy=>(k y).elim,λy=>(z y).elim⟩
noncomputable def mx:E->Nat
  | .v i=>i+1
  | .a x y=>(mx x).max (mx y)
  | .s x y=>(mx x).max (mx y)
  | .u _ x y=>(mx x).max (mx y)
  | .m _ _ _ x=>mx x
  | .n x=>mx x
  | .c x=>mx x
  | _=>0
noncomputable def mF:F->Nat
  | .le _ _ x y=>(mx x).max (mx y)
  | .eq _ x y=>(mx x).max (mx y)
  | .ff=>0
  | .no f=>mF f
  | .an f g=>(mF f).max (mF g)
  | .or f g=>(mF f).max (mF g)
  | .im f g=>(mF f).max (mF g)
  | .io f g=>(mF f).max (mF g)
noncomputable def nz:Nat->List (List Int)
  | 0=>[]
  | i+1=>un i::nz i
theorem nz_ok {c:C}:∀ n,Al (rho c 0) (nz n)
  | 0=>al_n
  | n+1=>al_c (by rw [ev_un];exact Int.natCast_nonneg _) (nz_ok n)
noncomputable def ok (f:F):Bool:=tb (mF f+mF f) 400 [(false,f)] (nz (mF f))
noncomputable abbrev Wit (c:C) (f:F):Prop:=ok f=true->dF c f
theorem R {c:C} {f:F}:Wit c f:=λh=>Classical.byContradiction λk=>tb_ok 400 (nz_ok _) (r:=[(false,f)]) (List.forall_mem_cons.mpr ⟨k,λ_ h=>absurd h List.not_mem_nil⟩) h
class AI (e:Int) (l:List Int) (l':outParam (List Int)) (n:outParam Nat):Prop
instance:AI e [] [e] 0:=⟨⟩
instance (priority:=low) [AI e l l' n]:AI e (d::l) (d::l') (.succ n):=⟨⟩
instance:AI e (e::l) (e::l) 0:=⟨⟩
class AN (e:Nat) (l:List Nat) (l':outParam (List Nat)) (n:outParam Nat):Prop
instance:AN e [] [e] 0:=⟨⟩
instance (priority:=low) [AN e l l' n]:AN e (d::l) (d::l') (.succ n):=⟨⟩
instance:AN e (e::l) (e::l) 0:=⟨⟩
class RI (e:Int) (c:C) (c':outParam C) (x:outParam E):Prop
class RN (e:Nat) (c:C) (c':outParam C) (x:outParam E):Prop
instance (priority:=low) [AI e i i' k]:RI e ⟨i,n⟩ ⟨i',n⟩ (.v k):=⟨⟩
instance (priority:=low) [AN e n n' k]:RN e ⟨i,n⟩ ⟨i,n'⟩ (.v k):=⟨⟩
class LN (e:Nat):Prop
instance:LN 0:=⟨⟩
instance:LN 1:=⟨⟩
instance:LN 1000:=⟨⟩
instance:LN 100000:=⟨⟩
instance:LN 1000000:=⟨⟩
instance:LN 12:=⟨⟩
instance:LN 140:=⟨⟩
instance:LN 16:=⟨⟩
instance:LN 16777216:=⟨⟩
instance:LN 2:=⟨⟩
instance:LN 200:=⟨⟩
instance:LN 24:=⟨⟩
instance:LN 250:=⟨⟩
instance:LN 3:=⟨⟩
instance:LN 38:=⟨⟩
instance:LN 39:=⟨⟩
instance:LN 4:=⟨⟩
instance:LN 40:=⟨⟩
instance:LN 41:=⟨⟩
instance:LN 42:=⟨⟩
instance:LN 43:=⟨⟩
instance:LN 45:=⟨⟩
instance:LN 5:=⟨⟩
instance:LN 52:=⟨⟩
instance:LN 6:=⟨⟩
instance:LN 60:=⟨⟩
instance:LN 63:=⟨⟩
instance:LN 64:=⟨⟩
instance:LN 8:=⟨⟩
instance:LN 80:=⟨⟩
instance:LN 9:=⟨⟩
instance:LN 900000:=⟨⟩
class LI (e:Int):Prop
instance:LI 0:=⟨⟩
instance:LI 1:=⟨⟩
instance:LI 10:=⟨⟩
instance:LI 1000:=⟨⟩
instance:LI 2:=⟨⟩
instance:LI 200:=⟨⟩
instance:LI 3:=⟨⟩
instance:LI 33:=⟨⟩
instance:LI 4:=⟨⟩
instance:LI 40:=⟨⟩
instance:LI 5:=⟨⟩
instance:LI 6:=⟨⟩
instance:LI 60:=⟨⟩
instance:LI 72:=⟨⟩
instance:LI 76:=⟨⟩
instance:LI 7907:=⟨⟩
instance:LI 80:=⟨⟩
instance:LI 84:=⟨⟩
instance:LI 88:=⟨⟩
instance:LI 9:=⟨⟩
instance [LI a]:LI (-a):=⟨⟩
instance (priority:=500) [LN e]:RN e c c (.k e):=⟨⟩
instance (priority:=500) [LI e]:RI e c c (.i e):=⟨⟩
instance [LI a] [LN b]:RI (a ^ b) c c (.i (a ^ b)):=⟨⟩
instance [LN a] [LN b]:RN (a ^ b) c c (.k (a ^ b)):=⟨⟩
instance [RI a c d x] [RI b d e y]:RI (max a b) c e (.u true x y):=⟨⟩
instance [RI a c d x] [RI b d e y]:RI (min a b) c e (.u false x y):=⟨⟩
instance [RN a c d x] [RN b d e y]:RN (max a b) c e (.u true x y):=⟨⟩
instance [RN a c d x] [RN b d e y]:RN (min a b) c e (.u false x y):=⟨⟩
instance [RI a c d x] [RI b d e y]:RI (a+b) c e (.a x y):=⟨⟩
instance [RN a c d x] [RN b d e y]:RN (a+b) c e (.a x y):=⟨⟩
instance [RI a c d x] [RI b d e y]:RI (a - b) c e (.s x y):=⟨⟩
instance [RN a c d x] [RN b d e y]:RN (a - b) c e (.s x y):=⟨⟩
instance [RI a c d x]:RI (-a) c d (.n x):=⟨⟩
instance [LI a] [RI b c d y]:RI (a * b) c d (.m true 0 a y):=⟨⟩
instance [LI a] [RI b c d y]:RI (b * a) c d (.m false 0 a y):=⟨⟩
instance [LN a] [RN b c d y]:RN (a * b) c d (.m true a 0 y):=⟨⟩
instance [LN a] [RN b c d y]:RN (b * a) c d (.m false a 0 y):=⟨⟩
instance [RN a c d x]:RI (Nat.cast a) c d (.c x):=⟨⟩
instance [RI a c d x]:RN (Int.toNat a) c d (.c x):=⟨⟩

class RF (p:Prop) (c:C) (c':outParam C) (f:outParam F):Prop
instance {a b:Int} [RI a c d x] [RI b d e y]:RF (a<=b) c e (.le false false x y):=⟨⟩
instance {a b:Int} [RI a c d x] [RI b d e y]:RF (a < b) c e (.le true false x y):=⟨⟩
instance {a b:Int} [RI a c d x] [RI b d e y]:RF (b ≥ a) c e (.le false false x y):=⟨⟩
instance {a b:Int} [RI a c d x] [RI b d e y]:RF (b > a) c e (.le true false x y):=⟨⟩
instance {a b:Int} [RI a c d x] [RI b d e y]:RF (a=b) c e (.eq false x y):=⟨⟩
instance {a b:Int} [RI a c d x] [RI b d e y]:RF (a ≠ b) c e (.no (.eq false x y)):=⟨⟩
instance {a b:Nat} [RN a c d x] [RN b d e y]:RF (a<=b) c e (.le false true x y):=⟨⟩
instance {a b:Nat} [RN a c d x] [RN b d e y]:RF (a < b) c e (.le true true x y):=⟨⟩
instance {a b:Nat} [RN a c d x] [RN b d e y]:RF (b ≥ a) c e (.le false true x y):=⟨⟩
instance {a b:Nat} [RN a c d x] [RN b d e y]:RF (b > a) c e (.le true true x y):=⟨⟩
instance {a b:Nat} [RN a c d x] [RN b d e y]:RF (a=b) c e (.eq true x y):=⟨⟩
instance {a b:Nat} [RN a c d x] [RN b d e y]:RF (a ≠ b) c e (.no (.eq true x y)):=⟨⟩
instance:RF False c c .ff:=⟨⟩
instance [RF p c d f]:RF (¬p) c d (.no f):=⟨⟩
instance [RF p c d f] [RF q d e g]:RF (p/\q) c e (.an f g):=⟨⟩
instance [RF p c d f] [RF q d e g]:RF (p ∨ q) c e (.or f g):=⟨⟩
instance [RF p c d f] [RF q d e g]:RF (p->q) c e (.im f g):=⟨⟩
instance [RF p c d f] [RF q d e g]:RF (p ↔ q) c e (.io f g):=⟨⟩
theorem Rw (p:Prop) [RF p ⟨[],[]⟩ c f]:Wit c f:=R
end QA
local macro_rules
  | `(tactic| ext $ps:rintroPat*:$_:num)=>`(tactic| (refine id ?_;ext $ps*))
  | `(tactic| ext $ps:rintroPat*)=>do
    let mut ty ← `(_)
    let mut f:=false
    let mut hs:=#[]
    for p in ps do
      match p with
      | `(rintroPat| $h:ident)=>hs:=hs.push (← `($h:ident))
      | _=>f:=true
    for h in hs.reverse do ty ← `(type_of% $h->$ty)
    let t ← `(tactic| (refine (?g:$ty) $hs*;refine (QA.R:type_of% (QA.Rw (type_of% ?g))) ?_;decide +kernel))
    if f then `(tactic| (exfalso;$t)) else return t
set_option Elab.async false
set_option linter.all false
set_option maxRecDepth 100000
open Array renaming length_toList->kx,getElem?_toList->BJ,toList_append->AL,getElem?_eq_getElem->G7,perm_iff_toList_perm->NK,getElem_toList->Le,toList_push->GP,toList_extract->NG,toList_reverse->NF,getD->GK,toList_inj->SG
open Array.Perm renaming refl->XM
open Bool renaming false_ne_true->vM,false_eq_true->DX,and_eq_true->DV,noConfusion->FF,not_eq_true->Nl,eq_iff_iff->Sw
open Classical renaming byContradiction->c3V,not_not->XS
open Eq renaming trans->rE
open False renaming elim->qw
open ForInStep renaming yield->BH,done->Nr
open Iff renaming rfl->jT
open Int renaming emod_lt_of_pos->G0,mul_nonneg->D0,mul_le_mul->DZ,toNat_natCast->G6,emod_nonneg->GS,not_le->Nd,not_lt->M4,mul_one->Sh
open List renaming length_append->fZ,length_map->eD,size_toArray->iJ,mem_cons_of_mem->jU,mem_cons->fB,getElem?_eq_getElem->mz,mem_cons_self->jL,getElem?_set_ne->lD,getElem?_set_self->my,length_cons->jK,append_assoc->mx,map_cons->jJ,getElem?_eq_some_iff->xO,mem_singleton->oZ,mem_append->nj,map_append->nA,length_take->oY,drop_eq_getElem_cons->AH,take_append_drop->xN,lookup_cons->qy,mem_iff_getElem->xM,replicate->oa,mem_append_right->zk,not_mem_nil->rL,getElem?_append_right->C2,pairwise_append->zo,getElem?_map->vL,append_nil->vK,getElem?_append_left->FO,getElem_mem->AJ,mem_append_left->D2,mem_map->t6,pairwise_cons->C3,take_of_length_le->FR,pairwise_iff_getElem->G8,length_drop->BL,range->pO,getElem?_replicate->GZ,mem_of_mem_take->FE,drop_eq_nil_of_le->GX,length_singleton->GU,mem_of_mem_drop->G5,length_eq_zero_iff->Lb,pairwise_singleton->La,zipWith->AF,length_pos_iff->G3,getD_eq_getElem?_getD->NJ,map_map->BI,perm_append_comm->K',getElem?_eq_none->K9,zip_cons_cons->G1,extract_eq_take_drop->NO,find?_cons->FK,reverse_perm->GO,getElem?_cons_succ->Nz,countP_cons_of_pos->Ny,set->rF,mem_reverse->GL,flatten_singleton->Nx,lookup->CS,length_replicate->Nw,getElem_take->K2,getElem?_append->NH,cons_append->K0,filterMap_cons->ND,flatten_append->NC,length_nil->KY,nil_append->K7,set_cons_zero->NI,filter_cons_of_pos->TJ,filter_cons_of_neg->TH,countP_cons_of_neg->TC,getElem?_cons_zero->Ta,flatten_cons->Nn,mem_range->KJ,drop_zero->KE,dropLast_eq_take->S8,getElem?_toArray->S7,singleton_append->S5,take_append_of_le_length->Yn,length_tail->Nk,mem_of_getElem?->S4,map_eq_cons_iff->S0,mem_filter->Nj,nodup_cons->Nh,of_mem_zip->Ng,length->GJ,length_eraseIdx_of_lt->Yo,map_nil->KO,map->CQ,set_cons_succ->Tc,ext_getElem?->To,getElem_drop->Tn,pairwise_map->Tj,filterMap_cons_some->Yv,any_cons->M8,all_eq_true->SI,foldl_cons->Sv,getElem?_zipWith->XX,mem_iff_getElem?->XU,length_zip->SX,reverse_reverse->Yf,foldl_nil->SW,drop_take->SU,take_succ_cons->Yc,length_zipWith->Yb,flatMap_append->X9,mem_filterMap->X8,getElem?_take->X6
open List.Pairwise renaming nil->DW
open List.Perm renaming refl->C1,append_left->Nv,swap->XG
open Nat renaming le_refl->cT,ne_of_lt->iE,lt_of_lt_of_le->o3,le_trans->l9,lt_succ_self->qz,lt_succ_of_lt->zl,eq_zero_of_not_pos->FQ,le_of_succ_le_succ->FP,le_of_succ_le->CV,lt_irrefl->AB,lt_of_succ_lt->FJ,zero_le->AE,pow_le_pow_right->Ld,lt_of_le_of_ne->KQ,le_of_lt->DS,le_succ->DU,add_sub_cancel_left->TK,not_lt_zero->K6,add_le_add_right->S1,ne_of_gt->KP,eq_zero_or_pos->Tf,zero_add->KN,sub_self->KL,pos_of_ne_zero->Te,one_lt_two->Np,le_add_right->SM,le_of_sub_eq_zero->XW,lt_or_ge->Nb,add_le_add_left->Ye,add_assoc->SN,lt_trans->Sm,sub_zero->Sk
open Ne renaming symm->oX
open Option renaming bind_some->AI,map_eq_some_iff->GY,isSome_iff_exists->Tz,getD_none->SJ,map_some->Sy,isSome_map->Yi,bind_none->XO,map->Se
open Option.some renaming injEq->iF,inj->gz
open Or renaming inr->cP,inl->eN
open PyProof.Rows renaming wpS_bind->cn,wpS_pure->cL,wpS_forRange->rJ,slot_tuple_getitem->NM,callWith_type1->NL,wpS_mono->rG,pairsOf_toList->GQ,wpS_modify->Fy,wpS_get->Ay
open PyProof.Rows.F renaming plain_set_update_loop->TF,entry_set_update_loop->X3
open PyProof.Rows.SortSt renaming mk'->KC
open PySem renaming wpAny_bind->aM,wpAny_pure->cp,wpAny_newObj_type->AK,sizeLine_eq->rH,wpAny_truthy_bool->CY,wpAny_holding->zj,codeAny_builtin->CU,wpAny_mono->t5,mem_of_lookup->G4,wpAny_call_entry->FH,plainId_quiet->CZ,wpAny_setField_rec->G2,wpAny_passesOwn->FN,call_isinstance->FA,fits_of_scanBound->GN,wpAny_callSpecial?_slot->NA,Builtin->c2h,wpAny_setEntries_of->KU,wpAny_Call_Name_kw->KR,codeAny_mono->DR,KeyKind->FD,wpAny_setState_of->K1,wpAny_askSetting->KZ,wpAny_of_eq->DT,wpAny_updateSeq->K8,wpAny_ite_split->K5,wpAny_seqItems->KH,wpAny_tryCatch->KG,wpAny_execs_nil->Ni,tupleKind_room_in1->Tg,wpAny_fieldsOf->Nq,wpAny_pyIter_list->Tp,wpAny_attempt->M7,strKind->M6,noFill_tuple_add->SK,wpAny_rule->KD,wpAny_letGo->M',wpAny_standAt->SR,seq_tuple_add->SQ,wpAny_call->Nf,Within->Su,call->Sf
open PySem.Around renaming under_plainId->D1,under->So
open PySem.Builtin.Builtins renaming bindParams->Yu
open PySem.Builtin.Int renaming intBits->Yd
open PySem.Builtin.List renaming listTooLong->Tv,listLengthHint->Yt,listExtendWith->Yr,listSameRef->X5
open PySem.Builtin.Range renaming rangeSize->X4
open PySem.Builtin.Slice renaming slicePlaces->NP,sliceAdjust->TB,sliceApplied->Yp
open PySem.Builtin.Tuple renaming tupleExact->NN
open PySem.Calls renaming Name_function_global->Yq,callWith_builtin->X0,spliced_cons->X7,spliced_nil->Yj
open PySem.Code renaming isFrame->Sn
open PySem.F renaming plainAttrs_list->Lc,plain_min_loop->FG,called_set->DQ,args_tuple_add_2->Tw,entry_tuple_add->Tu,slot_tuple_add->S',slot_list_append->S9,slot_list_pop->Th,type_list_append->Yw,entry_min_loop->SH,slot_list_extend->XZ,type_list_pop->XY
open PySem.Heap renaming get?_push_of_some->gg,lt_size->fI,get?_push_size->lO,size_push->pP,get?_update_other->BK,get?_update_self->GW,SameBut->AG,ExtBut->M9
open PySem.Heap.SameBut renaming update->Ya,refl->Yh
open PySem.IsRange renaming new->Sg
open PySem.NameKind renaming free->xP,cell->FC
open PySem.Obj renaming mapSeq->t4,putSet->Nc
open PySem.PassesOwn renaming never->Nu
open PySem.SetTable renaming below->AD,grown->Fz,sizeAbove->Td,Probe->XH
open PySem.SetTable.below renaming go->Yg
open PySem.SetTable.probe renaming go->Ti
open PySem.Str renaming ofString->M5
open PySem.Value renaming ref->fq,none->nQ,bool->qx,isStrOf_shape->KW,isInt_shape->K4,type->CT,isStrOf->SS,int->KA,str->Kz,isInt->Sj,float->Si
open PySem.W renaming Frag->aQ,findIn->mw,fnOf->nS,nsIn->nR,mg_none_of->zm,mg_of->rK,kitOne->vJ,mroIn->vI,kia_one->AM,emptyDict->CW,tabIn->zi,keepIn->BG,instObj->DY,specialIn->K3,tabObj->GR,callWith_K->NB,codeIn->KI,methodCall_KW->S6,plainGet->Nm,plainGet_of->SY,lookIn->Nt,methodObj->Tt,hasDictIn->Tq,cellsFrom_some->X2,takerIn->SD,takesIn->SA,OpenLaw->Sz,plainOver->Ym,kitx_list->Yl,kitx_dict->Yk,isFn->Sr,handedIn->XR,codeHdIn->XQ,makesIn->XN,readsIn->XJ,findCls->XI
open String renaming splitOnAux->XT
open Sum renaming inr->Az,inl->Fw
open Sum.inr renaming inj->Na
open True renaming intro->AA
theorem zqn{a b c:Nat}(h:a+c<=b):a<=b:=l9 (SM _ _) h
theorem zqt{a b c:Nat}(h:a<=b):a-c<=b:=l9 (Nat.sub_le _ _) h
namespace L2
open PySem PySem.Spec PyProof.Rows
abbrev Key:=Sum Int Str
def Ha:Key->Value->Bool
 | .inl k,v=>Sj k v
 | .inr x,v=>SS x v
def QY(w:World):Key->Int
 | .inl k=>hashInt k
 | .inr x=>hashStr w x
theorem Dj:∀{k:Key} {v:Value},Ha k v=true->(∃i t,k=Fw i/\v=KA i t)\/(∃x t,k=Az x/\v=Kz x t)
 | .inl i,v,h=>by
  obtain ⟨t,e⟩:=K4 (k:=i) (v:=v) h
  exact .inl ⟨i,t,rfl,e⟩
 | .inr x,v,h=>by
  obtain ⟨t,e⟩:=KW (x:=x) (v:=v) h
  exact .inr ⟨x,t,rfl,e⟩
theorem b2p(i:Int)(t:Tok):Ha (.inl i) (.int i t)=true:=by simp [Ha,Sj]
theorem b2o(x:Str)(t:Tok):Ha (.inr x) (.str x t)=true:=by simp [Ha,SS]
theorem b8K(a b:Int):decide ((Fw a:Key)=Fw b)=(a==b):=by
 by_cases e:a=b
 .subst e;simp
 .have h:¬(Fw a:Key)=Fw b:=λq=>e (Sum.inl.inj q)
  rw [decide_eq_false h]
  exact (beq_eq_false_iff_ne.mpr e).symm
theorem b8H(a b:Str):decide ((Az a:Key)=Az b)=decide (a=b):=by
 by_cases e:a=b
 .subst e;simp
 .have h:¬(Az a:Key)=Az b:=λq=>e (Na q)
  rw [decide_eq_false h,decide_eq_false e]
theorem b8J(a:Int)(b:Str):decide ((Fw a:Key)=Az b)=false:=decide_eq_false (λq=>nomatch q)
theorem b8I(a:Str)(b:Int):decide ((Az a:Key)=Fw b)=false:=decide_eq_false (λq=>nomatch q)
def vZ(prog:Program)(w:World):FD prog w Key where
 is:=Ha
 hash:=QY w
 inj:=λv a b ha hb=>by
  rcases Dj ha with ⟨i,t,rfl,rfl⟩ | ⟨x,t,rfl,rfl⟩
  .rcases Dj hb with ⟨j,u,rfl,e⟩ | ⟨y,u,rfl,e⟩
   .injection e with e1 _;rw [e1]
   .exact nomatch e
  .rcases Dj hb with ⟨j,u,rfl,e⟩ | ⟨y,u,rfl,e⟩
   .exact nomatch e
   .injection e with e1 _;rw [e1]
 byValue:=λk v h=>by
  rcases Dj h with ⟨i,t,rfl,rfl⟩ | ⟨x,t,rfl,rfl⟩<;>rfl
 pyHash:=λhv h=>by
  rcases Dj hv with ⟨i,t,rfl,rfl⟩ | ⟨x,t,rfl,rfl⟩
  .exact wpAny_pyHash_int h
  .exact wpAny_pyHash_str h
 eqBool:=λhu hv h=>by
  rcases Dj hu with ⟨i,t,rfl,rfl⟩ | ⟨x,t,rfl,rfl⟩
  .rcases Dj hv with ⟨j,u,rfl,rfl⟩ | ⟨y,u,rfl,rfl⟩
   .rw [b8K] at h;exact wpAny_eqBool_int h
   .rw [b8J] at h;exact SeqAt.EqAt.int_str i t y u _ _ _ _ h
  .rcases Dj hv with ⟨j,u,rfl,rfl⟩ | ⟨y,u,rfl,rfl⟩
   .rw [b8I] at h;exact SeqAt.EqAt.str_int x t j u _ _ _ _ h
   .rw [b8H] at h;exact wpAny_eqBool_str h
 «strs»:=λk x t v h=>by
  rcases Dj h with ⟨i,u,rfl,e⟩ | ⟨y,u,rfl,e⟩
  .exact nomatch e
  .injection e with e1 _
   subst e1
   cases v<;>rfl
theorem a90(prog:Program)(w:World)(i:Int)(t:Tok):(vZ prog w).is (.inl i) (.int i t)=true:=b2p i t
theorem a9Z(prog:Program)(w:World)(x:Str)(t:Tok):(vZ prog w).is (.inr x) (.str x t)=true:=b2o x t
end L2
namespace L2
open PySem PySem.Spec PyProof.Rows
inductive V where
 | b8 | bl (b:Bool) | int (i:Int) | str (x:Str) | G9 (b:Array UInt8) | Fq (b:UInt64) | ref (a:Addr) | ty (n:String)
 deriving DecidableEq
def RelV:V->Value->Prop
 | .b8,u=>u=nQ
 | .bl b,u=>u=qx b
 | .int i,u=>∃t,u=KA i t
 | .str x,u=>∃t,u=Kz x t
 | .G9 b,u=>∃t,u=Value.bytes b t
 | .Fq b,u=>∃t,u=Si b t
 | .ref a,u=>u=fq a
 | .ty n,u=>u=CT n
abbrev aV:List V->List Value->Prop:=Paired RelV
theorem aV.length(r:aV xs us):xs.length=us.length:=Paired.length r
theorem aV.get:∀{xs:List V} {us:List Value} {i:Nat} {x:V},aV xs us->xs[i]?=some x->∃u,us[i]?=some u/\RelV x u
 | _,_,_,_,.nil,e=>by simp at e
 | _,_,0,_,.cons r _,e=>by simp at e;subst e;exact ⟨_,rfl,r⟩
 | _,_,i+1,x,.cons _ t,e=>by
  obtain ⟨u,h1,h2⟩:=aV.get (i:=i) (x:=x) t (by simpa using e)
  exact ⟨u,by simpa using h1,h2⟩
theorem aV.set(r:RelV x u):∀{xs:List V} {us:List Value} (i:Nat),aV xs us->aV (xs.set i x) (us.set i u)
 | _,_,_,.nil=>.nil
 | _,_,0,.cons _ t=>.cons r t
 | _,_,i+1,.cons q t=>.cons q (aV.set r i t)
theorem aV.append:∀{xs ys:List V} {us ws:List Value},aV xs us->aV ys ws->aV (xs++ys) (us++ws)
 | _,_,_,_,.nil,s=>s
 | _,_,_,_,.cons r t,s=>.cons r (aV.append t s)
theorem aV.take:∀{xs:List V} {us:List Value} (n:Nat),aV xs us->aV (xs.take n) (us.take n)
 | _,_,0,_=>.nil
 | _,_,_+1,.nil=>.nil
 | _,_,n+1,.cons r t=>.cons r (aV.take n t)
theorem aV.drop:∀{xs:List V} {us:List Value} (n:Nat),aV xs us->aV (xs.drop n) (us.drop n)
 | _,_,0,r=>r
 | _,_,_+1,.nil=>.nil
 | _,_,n+1,.cons _ t=>aV.drop n t
def jB:Option V->Option Value->Prop
 | some v,some u=>RelV v u
 | none,none=>True
 | _,_=>False
def KV{κ:Type}:List (κ×V)->List (κ×Value)->Prop:=Paired λ(p:κ×V) (q:κ×Value)=>p.1=q.1/\RelV p.2 q.2
def kV:Key->V
 | .inl i=>.int i
 | .inr x=>.str x
inductive HO where
 /-- a list -/
 | lst (xs:List V)
 /-- a tuple (never changes) -/
 | tup (xs:List V)
 /-- a dict Du keys are ints and texts;one Du keys are tuples of ints and texts (the empty one is both) -/
 | dK (aO:List (Key×V)) | dT (aO:List (List Key×V))
 /-- a set of ints: aD members,aD size -/
 | set (S:Int->Bool) (n:Nat)
 /-- an instance of the class at C,aD dict at dx,aD attributes -/
 | ins (C dx:Addr) (fs:List (Str×V))
 /-- the dict of the instance at x -/
 | own (x:Addr)
 /-- the dict of an exception -/
 | xd (fs:List (Str×V))
 /-- a bound method,f of x -/
 | met (f x:Addr)
 /-- a range object lo,lo+1,.. below hi -/
 | QB (lo hi:Int)
 /-- a Ib that is known to the object (the script;a dict while a loop walks it): read,never written while it is so -/
 | nz (o:Obj) (u:HO)
 /-- a code z8 table -/
 | EB (ps:Array Value)
 /-- a code z8 table Du codes are all called q,and are aD own -/
 | tab (q:Str)
 /-- any other Ib,by what is true of aD one object (a def of WR own: SetO a S n:=HO.ext λh=>..) -/
 | ext (φ:Heap->Prop)
def ownOf:HO->Option Addr
 | .own x=>some x
 | .nz _ (.own x)=>some x
 | _=>none
def b8R(q:Str)(o:Obj):Prop:=∃vs t,o.data=.fields vs/\vs[1]?=some (.str q t)
abbrev Hp:=Addr->Option HO
def upd(H:Hp)(a:Addr)(o:HO):Hp:=λb=>if b=a then some o else H b
theorem og:upd H a o a=some o:=by unfold upd;rw [if_pos rfl]
theorem g9(h:b≠a):upd H a o b=H b:=by unfold upd;rw [if_neg h]
theorem b6k{H:Hp}{a b:Addr}{o u:HO}(h:H a=some o)(h':H b=some u)(d:o≠u):a≠b:=by
 intro e;subst e;rw [h] at h';exact d (gz h')
theorem zD{H:Hp}{a b:Addr}{o:HO}(h:H a=some o)(h':H b=none):a≠b:=by
 intro e;subst e;rw [h] at h';cases h'
section
variable (P:Program)(w:World)
def cD(H:Hp)(h:Heap)(a:Addr):HO->Prop
 | .lst xs=>xs.length<=sizeLine/\∃(aD:List Value) (n:Nat),aV xs aD/\h.get? a=some { cls:=.type "list",data:=.seq aD.toArray n }
 | .tup xs=>xs.length<=sizeLine/\∃aD:List Value,aV xs aD/\IsTup h a aD.toArray
 | .dK aO=>aO.length<=sizeLine/\(a==sysModules)=false/\∃vs,KV aO vs/\h.DictOf (vZ P w) a vs
 | .dT aO=>aO.length<=sizeLine/\(a==sysModules)=false/\∃xs:List (List Key×Addr×Value),
   Paired (λ(p:List Key×V) (q:List Key×Addr×Value)=>p.1=q.1/\H q.2.1=some (.tup (p.1.map kV))/\RelV p.2 q.2.2) aO xs /\
   ∃o es ep,h.get? a=some o/\o.ExactDict/\o.data=.dict es ep/\es.toList=xs.map (entryOfKey (tupleKind (vZ P w)))/\(xs.map (·.1)).Nodup
 | .set S n=>h.SetOf (intKind P w) a S n
 | .ins C dx fs=>H dx=some (.own a)/\fs.length<=1000/\dx≠a/\h.get? a=some (DY C dx) /\
   ∃mA,h.Ns1 dx mA/\(∀f,jB (fs.lookup f) (mA f))/\Su mA (fs.map (·.1))
 | .own _=>∃o,h.get? a=some o
 | .xd fs=>∃mA,h.Ns1 a mA/\∀f,jB (fs.lookup f) (mA f)
 | .QB lo hi=>∃t u v,h.get? a=some { cls:=.type "range",data:=.fields #[.int lo t,.int hi u,.int 1 v] }
 | .nz o u=>h.get? a=some o/\cD H h a u
 | .EB ps=>h.get? a=some { cls:=.none,data:=.fields ps }
 | .tab q=>∃ps,h.get? a=some (GR ps)/\TriplesOk ps.toList/\∀pos cv,codeAmong pos ps.toList=some cv->∃c oc,cv=.ref c/\H c=some (.nz oc (.own a))/\b8R q oc
 | .met f x=>h.get? a=some (Tt (.ref f) (.ref x))
 | .ext φ=>φ h/\(∃o,h.get? a=some o)/\∀h1 h2:Heap,φ h1->(∀o,h1.get? a=some o->h2.get? a=some o)->φ h2
def jX(H:Hp)(h:Heap):Prop:=∀a o,H a=some o->cD P w H h a o
end
section
variable {P:Program}{w:World}{H H':Hp}{h h':Heap}{a:Addr}{o:HO}
theorem cD.lt(x:cD P w H h a o):a<h.objs.size:=by
 cases o with
 | lst xs=>obtain ⟨_,_,_,_,e⟩:=x;exact fI e
 | tup xs=>obtain ⟨_,_,_,p⟩:=x;exact p.lt
 | dK aO=>obtain ⟨_,_,_,_,o,_,_,e,_⟩:=x;exact fI e
 | dT aO=>obtain ⟨_,_,_,_,o,_,_,e,_⟩:=x;exact fI e
 | set S n=>obtain ⟨o,_,_,_,e,_⟩:=x;exact fI e
 | ins C dx fs=>obtain ⟨_,_,_,e,_⟩:=x;exact fI e
 | own y=>obtain ⟨_,e⟩:=x;exact fI e
 | xd fs=>obtain ⟨_,⟨_,_,_,e,_⟩,_⟩:=x;exact fI e
 | QB lo hi=>obtain ⟨_,_,_,e⟩:=x;exact fI e
 | nz ob u=>obtain ⟨e,_⟩:=x;exact fI e
 | EB ps=>exact fI (show h.get? a=some _ from x)
 | tab q=>obtain ⟨_,e,_⟩:=x;exact fI e
 | met f y=>exact fI (show h.get? a=some _ from x)
 | ext φ=>obtain ⟨_,⟨_,e⟩,_⟩:=x;exact fI e
theorem Paired.E2{α β:Type}{F G:α->β->Prop}:∀{Jt:List α} {Js:List β},Paired F Jt Js->(∀a b,F a b->G a b)->Paired G Jt Js
 | _,_,.nil,_=>.nil
 | _,_,.cons r t,f=>.cons (f _ _ r) (Paired.E2 t f)
theorem cD.wa(x:cD P w H h a o)(k:∀b u,(b=a\/H b=some (.own a))->h.get? b=some u->h'.get? b=some u)
  (ho:∀b u,ownOf u=some a->H b=some u->H' b=some u)(ht:∀b xs,H b=some (.tup xs)->H' b=some (.tup xs)):cD P w H' h' a o:=by
 induction o with
 | lst xs=>obtain ⟨z,aD,n,r,e⟩:=x;exact ⟨z,aD,n,r,k _ _ (.inl rfl) e⟩
 | tup xs=>obtain ⟨z,aD,r,ob,e,c⟩:=x;exact ⟨z,aD,r,ob,k _ _ (.inl rfl) e,c⟩
 | dK aO=>obtain ⟨z,y,vs,r,ob,es,ep,e,c⟩:=x;exact ⟨z,y,vs,r,ob,es,ep,k _ _ (.inl rfl) e,c⟩
 | dT aO =>
  obtain ⟨z,y,xs,r,ob,es,ep,e,c⟩:=x
  exact ⟨z,y,xs,Paired.E2 r λp q z=>⟨z.1,ht _ _ z.2.1,z.2.2⟩,ob,es,ep,k _ _ (.inl rfl) e,c⟩
 | set S n=>obtain ⟨ob,es,ep,t,e,c⟩:=x;exact ⟨ob,es,ep,t,k _ _ (.inl rfl) e,c⟩
 | ins C dx fs =>
  obtain ⟨d,z,ne,e,mA,⟨od,es,ep,e2,c⟩,r⟩:=x
  exact ⟨ho _ _ rfl d,z,ne,k _ _ (.inl rfl) e,mA,⟨od,es,ep,k _ _ (.inr d) e2,c⟩,r⟩
 | own y=>obtain ⟨ob,e⟩:=x;exact ⟨ob,k _ _ (.inl rfl) e⟩
 | xd fs=>obtain ⟨mA,⟨od,es,ep,e,c⟩,r⟩:=x;exact ⟨mA,⟨od,es,ep,k _ _ (.inl rfl) e,c⟩,r⟩
 | QB lo hi=>obtain ⟨t,u,v,e⟩:=x;exact ⟨t,u,v,k _ _ (.inl rfl) e⟩
 | nz ob u ih=>obtain ⟨e,q⟩:=x;exact ⟨k _ _ (.inl rfl) e,ih q⟩
 | EB ps =>
  have e:h.get? a=some { cls:=.none,data:=.fields ps }:=x
  show h'.get? a=some { cls:=.none,data:=.fields ps }
  exact k a _ (.inl rfl) e
 | tab q =>
  obtain ⟨ps,e,ht,z⟩:=x
  exact ⟨ps,k _ _ (.inl rfl) e,ht,λpos cv hc=>let ⟨c,oc,e1,e2,e3⟩:=z pos cv hc;⟨c,oc,e1,ho _ _ rfl e2,e3⟩⟩
 | met f y =>
  have e:h.get? a=some (Tt (.ref f) (.ref y)):=x
  show h'.get? a=some (Tt (.ref f) (.ref y))
  exact k a _ (.inl rfl) e
 | ext φ=>obtain ⟨p,⟨o,e⟩,st⟩:=x;exact ⟨st _ _ p λo q=>k _ _ (.inl rfl) q,⟨o,k _ _ (.inl rfl) e⟩,st⟩
theorem jX.lt(x:jX P w H h)(e:H a=some o):a<h.objs.size:=(x a o e).lt
theorem jX.fresh(x:jX P w H h)(e:h.objs.size<=a):H a=none:=by
 cases q:H a with
 | none=>rfl
 | some u=>exact absurd (o3 (x.lt q) e) (AB _)
theorem jX.kept(x:jX P w H h)(k:∀b u,h.get? b=some u->h'.get? b=some u):jX P w H h':=λa o e =>
 (x a o e).wa (λb u _ q=>k b u q) (λ_ _ _ q=>q) λ_ _ q=>q
theorem jX.laid(x:jX P w H h)(k:∀b u,h.get? b=some u->h'.get? b=some u)(hp:h.objs.size<=a)(new:cD P w (upd H a o) h' a o):jX P w (upd H a o) h':=λb u e=>by
 have hn:=x.fresh hp
 by_cases hb:b=a
 .subst hb;rw [og] at e;cases e;exact new
 .rw [g9 hb] at e
  exact (x b u e).wa (λc v _ q=>k c v q) (λc _ _ q=>by rw [g9 (zD q hn)];exact q) λc xs q=>by rw [g9 (zD q hn)];exact q
end
def Rd(H:Hp)(a:Addr)(u:HO):Prop:=H a=some u\/∃o,H a=some (.nz o u)
theorem Rd.ok(r:Rd H a u)(x:jX P w H h):cD P w H h a u:=by
 rcases r with r | ⟨o,r⟩
 .exact x a u r
 .obtain ⟨_,q⟩:=x a _ r
  exact q
def Mo:Option HO->Prop
 | some (.lst _)=>True
 | some (.dK _)=>True
 | some (.dT _)=>True
 | some (.set _ _)=>True
 | some (.ins _ _ _)=>True
 | some (.ext _)=>True
 | some (.tab _)=>True
 | _=>False
section
variable {P:Program}{w:World}{H:Hp}{h h':Heap}{x e:Addr}{o':HO}
theorem jX.write(ok:jX P w H h)(mu:Mo (H x))(he:e=x\/H e=some (.own x))(k:∀b u,b≠e->h.get? b=some u->h'.get? b=some u)(GC:∃u,h'.get? e=some u)
  (new:cD P w (upd H x o') h' x o'):jX P w (upd H x o') h':=λb u q=>by
 have QL:∀c y,H c=some (.own y)->c≠x:=λc y r z=>by subst z;rw [r] at mu;exact mu
 have QK:∀c xs,H c=some (.tup xs)->c≠x:=λc xs r z=>by subst z;rw [r] at mu;exact mu
 have QM:∀c y u,ownOf u=some y->H c=some u->c≠x:=λc y u hu r z=>by
  subst z;rw [r] at mu
  cases u with
  | own y=>exact mu
  | nz o v=>exact mu
  | _=>cases hu
 by_cases hb:b=x
 .subst hb;rw [og] at q;cases q;exact new
 .rw [g9 hb] at q
  by_cases Fc:b=e
  .have q':H b=some (.own x):=by
    rcases he with z | z
    .exact absurd (Fc.trans z) hb
    .rw [Fc];exact z
   rw [q] at q';cases q'
   obtain ⟨v,hv⟩:=GC
   exact ⟨v,by rw [Fc];exact hv⟩
  .refine (ok b u q).wa (λc v hc r=>k c v ?_ r) (λc u hu r=>by rw [g9 (QM c b u hu r)];exact r) λc xs r=>by rw [g9 (QK c xs r)];exact r
   rcases hc with rfl | hc
   .exact Fc
   .rintro rfl
    rcases he with z | z
    .exact QL c b hc z
    .rw [hc] at z;cases z;exact hb rfl
end
structure Un(fs ex:List Addr)(H H':Hp)(h h':Heap):Prop where
 keep:∀b o,h.get? b=some o->H b=none->b∉fs->b∉ex->h'.get? b=some o
 slot:∀b o,h.get? b=some o->H b=none->b∈fs->b∉ex->∃sl,h'.get? b=some { o with slots:=sl }
 free:∀b o,h.get? b=some o->H b=none->b∉ex->H' b=none
 there:∀b o,h.get? b=some o->b∉ex->∃o',h'.get? b=some o'
 oA:∀b xs,H b=some (.tup xs)->H' b=some (.tup xs)
 nN:∀b o u,H b=some (.nz o u)->H' b=some (.nz o u)
 oB:∀b ps,H b=some (.EB ps)->∃more,H' b=some (.EB (ps++more))
section
variable {fs Fo ex ex':List Addr}{H H1 H2:Hp}{h h1 h2 h':Heap}{a x e:Addr}{o:HO}
theorem Un.any(u:Un fs ex H H1 h h1)(q:h.get? b=some ob)(n:H b=none)(hx:b∉ex):∃sl,h1.get? b=some { ob with slots:=sl }:=by
 by_cases hb:b∈fs
 .exact u.slot b ob q n hb hx
 .exact ⟨ob.slots,u.keep b ob q n hb hx⟩
theorem Un.kept(k:∀b u,h.get? b=some u->h'.get? b=some u):Un fs ex H H h h':=
 ⟨λb ob q _ _ _=>k b ob q,λb ob q _ _ _=>⟨ob.slots,k b ob q⟩,λ_ _ _ n _=>n,λb ob q _=>⟨ob,k b ob q⟩,λ_ _ q=>q,λ_ _ _ q=>q,λ_ ps q=>⟨#[],by rw [q];simp⟩⟩
theorem Un.refl:Un fs ex H H h h:=Un.kept λ_ _ q=>q
theorem Un.laid(k:∀b u,h.get? b=some u->h'.get? b=some u)(hp:h.objs.size<=a)(hn:H a=none):Un fs ex H (upd H a o) h h' where
 keep:=λb u q _ _ _=>k b u q
 slot:=λb u q _ _ _=>⟨u.slots,k b u q⟩
 free:=λb u q n _=>by rw [g9 (iE (o3 (fI q) hp))];exact n
 there:=λb u q _=>⟨u,k b u q⟩
 oA:=λb xs q=>by rw [g9 (zD q hn)];exact q
 nN:=λb u xs q=>by rw [g9 (zD q hn)];exact q
 oB:=λb ps q=>⟨#[],by rw [g9 (zD q hn),q];simp⟩
theorem Un.write(mu:Mo (H x))(he:e=x\/H e=some (.own x))(k:∀b u,b≠e->h.get? b=some u->h'.get? b=some u)(GC:∃u,h'.get? e=some u):Un fs ex H (upd H x o) h h':=by
 have hx:∀b,H b=none->b≠x:=λb n z=>by subst z;rw [n] at mu;exact mu
 have hb:∀b,H b=none->b≠e:=λb n z=>by
  subst z
  rcases he with r | r
  .exact hx b n r
  .rw [n] at r;cases r
 have hm:∀b u,H b=some u->¬Mo (some u)->b≠x:=λb u q nm z=>by subst z;rw [q] at mu;exact nm mu
 refine ⟨λb u q n _ _=>k b u (hb b n) q,λb u q n _ _=>⟨u.slots,k b u (hb b n) q⟩,λb u q n _=>by rw [g9 (hx b n)];exact n,λb u q _=>?_,
  λb xs q=>by rw [g9 (hm b _ q λz=>z)];exact q,λb u xs q=>by rw [g9 (hm b _ q λz=>z)];exact q,λb ps q=>⟨#[],by rw [g9 (hm b _ q λz=>z),q];simp⟩⟩
 by_cases Fc:b=e
 .subst Fc;exact GC
 .exact ⟨u,k b u Fc q⟩
end
def Mw(h:Heap)(H:Hp):List Addr:=(pO h.objs.size).filter λa=>(H a).isSome
def oU(h:Heap)(H:Hp):Heap:=PySem.W.hideAll h (Mw h H)
theorem b2G(h:Heap)(H:Hp):(oU h H).objs.size=h.objs.size:=PySem.W.hideAll_size _ _
theorem b4i(e:h.get? b=some o)(n:H b=none):(oU h H).get? b=some o:=
 PySem.W.hideAll_get _ e λhm=>by
  have q:(H b).isSome=true:=(Nj.mp hm).2
  rw [n] at q;simp at q
theorem b6g(e:(oU h H).get? b=some o):h.get? b=some o/\H b=none:=by
 have e':h.get? b=some o:=PySem.W.of_hideAll (Mw h H) e
 refine ⟨e',?_⟩
 cases q:H b with
 | none=>rfl
 | some x =>
  have hm:b∈Mw h H:=Nj.mpr ⟨KJ.mpr (fI e'),by simp [q]⟩
  have z:(oU h H).get? b=none:=PySem.W.hideAll_none (Mw h H) hm
  rw [z] at e;cases e
end L2
namespace L2
open PySem PySem.Spec PyProof.Rows
structure Mod(K:aQ)(mg:Str->Option Value)(base:Heap):Prop where
 Gv:K.In base
 glob:base.Ns mainGlobals mg
 blt:∃mb,base.Ns builtinsNs mb/\∀x:Str,x ≠ "__name__" -> mb x=bootBuiltins x
 nolimit:base.NoLimit
 bmod:∃bm ob,mg "__builtins__" = some (.ref bm)/\bm≠builtinsNs/\base.get? bm=some ob/\ob.cls=.type "module" /\ ob.dict=some builtinsNs/\ob.data=.plain
structure Cx where
 prog:Program
 w:World
 K:aQ
 mg:Str->Option Value
 base:Heap
 A:Around
 N:List Str
 fQ:Shared
 A3:Hp
 env:Env
 outer:List Env
 stack:List Env
 ex:List Addr
 fn:Str->Bool
 calm:Bool
 pn:List (Addr×Obj)
 xe:Value->Shared->Prop
def Ap(l:List Env):List Addr:=l.filterMap (·.frame)
abbrev Cx.fs(X:Cx):List Addr:=Ap X.outer
def jS(sc:Scope)(x:Str):Prop:=sc.names.lookup x=some .local\/sc.names.lookup x=some .cell\/sc.names.lookup x=some .free
def Loc(sc:Scope)(x:Str):Prop:=sc.names.lookup x=some .local\/sc.names.lookup x=some .cell
def Look(env:Env)(h:Heap)(m:Str->Option Value)(x:Str)(u:Value):Prop:=
 (env.kindOf x=some .local/\m x=some u)\/((env.kindOf x=some .cell\/env.kindOf x=some .free)/\∃c,env.cells.lookup x=some c/\h.IsCell c (some u))
structure Cx.Ok(X:Cx):Prop where
 mod:Mod X.K X.mg X.base
 kind:X.env.scope.kind=.function
 glob:X.env.globals=mainGlobals
 blt:X.env.builtins=builtinsNs
 above:X.fQ.heap.objs.size<=X.env.locals
 inj:∀x y c,X.env.cells.lookup x=some c->X.env.cells.lookup y=some c->x=y
 has:∀x,(X.env.kindOf x=some .cell\/X.env.kindOf x=some .free)->∃c,X.env.cells.lookup x=some c
 Ky:∀x c,X.fn x=true->X.env.cells.lookup x=some c->X.fQ.heap.objs.size<=c
 hd:X.calm=true->X.A.handled=none
 frames:X.A.frames=some X.stack
 Mz:X.stack=X.outer\/(X.stack=X.env::X.outer/\X.env.frame=some X.env.locals)
 Xz:∀b∈X.ex,b≠X.env.locals/\∀x c,X.env.cells.lookup x=some c->c≠b
 bs:∀b o,X.base.get? b=some o->X.fQ.heap.get? b=some o/\X.A3 b=none
 C4:X.base.objs.size<=X.fQ.heap.objs.size
 z9:∀b o,X.base.get? b=some o->b∉X.ex
 CF:∀b∈X.ex,b∉X.fs
 l7:X.fQ.heap.FunFrames X.base X.outer
 Fp:∀b∈X.fs,X.A3 b=none
structure Inv(X:Cx)(pins:List (Addr×Obj))(σ:List (Option V))(H:Hp)(s:Shared):Prop where
 ok:X.Ok
 os:s.os=X.fQ.os
 bare:AllBare s.gens
 base:Un X.fs X.ex X.A3 H X.fQ.heap s.heap
 loc:∃m,s.heap.Ns X.env.locals m/\∀(i:Nat) (x:Str) (v:V),X.N[i]?=some x->σ[i]?=some (some v)->jS X.env.scope x->∃u,RelV v u/\Look X.env s.heap m x u
 cell:∀x c,X.env.cells.lookup x=some c->∃v,s.heap.IsCell c v
 free:H X.env.locals=none
 jg:∀x c,X.env.cells.lookup x=some c->H c=none
 pin:∀p∈X.pn++pins,s.heap.get? p.1=some p.2/\H p.1=none/\p.1≠X.env.locals/\p.1∉X.fs/\∀v,p.2.data≠.cell v
 cw:jX X.prog X.w H s.heap
 len:σ.length=X.N.length
section
variable {X:Cx}{pins:List (Addr×Obj)}{σ:List (Option V)}{H H':Hp}{s:Shared}{h':Heap}
theorem Cx.Ok.QO(ok:X.Ok)(e:X.base.get? b=some o):b∉X.fs:=λhb=>by
 have:=(ok.l7.mem hb).1
 rw [e] at this;cases this
theorem Inv.bs(I:Inv X pins σ H s):∀b o,X.base.get? b=some o->s.heap.get? b=some o/\H b=none:=λb o e =>
 ⟨I.base.keep b o (I.ok.bs b o e).1 (I.ok.bs b o e).2 (I.ok.QO e) (I.ok.z9 b o e),I.base.free b o (I.ok.bs b o e).1 (I.ok.bs b o e).2 (I.ok.z9 b o e)⟩
theorem Inv.bk(I:Inv X pins σ H s):∀b o,X.base.get? b=some o->s.heap.get? b=some o:=λb o e=>(I.bs b o e).1
theorem Inv.mod(I:Inv X pins σ H s):Mod X.K X.mg X.base:=I.ok.mod
theorem Inv.kU(I:Inv X pins σ H s):X.K.In s.heap:=I.ok.mod.Gv.keeps I.bk
theorem Inv.lt(I:Inv X pins σ H s):X.env.locals<s.heap.objs.size:=let ⟨_,hn,_⟩:=I.loc;hn.lt
theorem Inv.sz(I:Inv X pins σ H s):X.fQ.heap.objs.size<=s.heap.objs.size:=l9 I.ok.above (DS I.lt)
theorem Inv.QN(I:Inv X pins σ H s){a:Addr}(h:s.heap.objs.size<=a):a∉X.fs:=λhb=>by
 obtain ⟨_,o,ho,_⟩:=I.ok.l7.mem hb
 exact absurd (o3 (fI ho) (l9 I.sz h)) (AB _)
theorem Inv.Fv(I:Inv X pins σ H s):∀x c,X.env.cells.lookup x=some c->c≠X.env.locals:=λx c e z=>by
 obtain ⟨v,o,ho,hd⟩:=I.cell x c e
 obtain ⟨m,⟨o',es,ep,nM,yR,_⟩,_⟩:=I.loc
 rw [z,nM] at ho;cases ho;rw [yR] at hd;cases hd
theorem Inv.l7(I:Inv X pins σ H s):s.heap.FunFrames X.base X.outer:=by
 have all:∀(l:List Env),(∀b∈Ap l,b∈X.fs)->X.fQ.heap.FunFrames X.base l->s.heap.FunFrames X.base l:=by
  intro l
  induction l with
  | nil=>intro _ _;trivial
  | cons env r ih =>
   intro hs hl
   obtain ⟨hk,⟨L,o,hf,hn,ho,hd⟩,hr⟩:=hl
   have hL:L∈X.fs:=hs L (by unfold Ap;rw [ND,hf];exact jL)
   obtain ⟨sl,e⟩:=I.base.slot L o ho (I.ok.Fp L hL) hL λz=>I.ok.CF L z hL
   exact ⟨hk,⟨L,_,hf,hn,e,hd⟩,ih (λb hb=>hs b (by unfold Ap;rw [ND,hf];exact jU _ hb)) hr⟩
 exact all X.outer (λ_ hb=>hb) I.ok.l7
theorem Inv.stack(I:Inv X pins σ H s):s.heap.FunFrames X.base X.stack:=by
 rcases I.ok.Mz with e | ⟨e,hf⟩
 .rw [e];exact I.l7
 .rw [e]
  obtain ⟨m,hn,_⟩:=I.loc
  refine .cons (by rw [I.ok.kind];decide) hf hn ?_ I.l7
  exact Heap.get?_none_of_le (l9 I.ok.C4 I.ok.above)
theorem Inv.oC(I:Inv X pins σ H s):∀b∈Ap X.stack,b∈X.env.locals::X.fs:=λb hb=>by
 rcases I.ok.Mz with e | ⟨e,hf⟩
 .rw [e] at hb;exact jU _ hb
 .rw [e] at hb
  unfold Ap at hb
  rw [ND,hf] at hb
  exact hb
theorem Inv.uy(I:Inv X pins σ H s):∀b∈Ap X.stack,H b=none:=λb hb=>by
 rcases fB.mp (I.oC b hb) with e | hb
 .rw [e];exact I.free
 .obtain ⟨_,o,ho,_⟩:=I.ok.l7.mem hb
  exact I.base.free b o ho (I.ok.Fp b hb) λz=>I.ok.CF b z hb
theorem Inv.step{g':Array GenState}{t':Nat}{d':Drawn}{ch:List Addr}(I:Inv X pins σ H s)
  (Bt:∀b∈ch,(b∈X.ex\/X.fQ.heap.objs.size<=b)/\b≠X.env.locals/\(∀x c,X.env.cells.lookup x=some c->c≠b)/\∀p∈X.pn++pins,p.1≠b)
  (keep:∀b o,b≠X.env.locals->b∉X.fs->b∉ch->s.heap.get? b=some o->H b=none->h'.get? b=some o)
  (slot:∀b o,b≠X.env.locals->b∈X.fs->b∉ch->s.heap.get? b=some o->H b=none->∃sl,h'.get? b=some { o with slots:=sl })(free:∀b o,b∉ch->s.heap.get? b=some o->H b=none->H' b=none)
  (there:∀b o,b∉ch->s.heap.get? b=some o->∃o',h'.get? b=some o')
  (oA:∀b xs,H b=some (.tup xs)->H' b=some (.tup xs))(nN:∀b o u,H b=some (.nz o u)->H' b=some (.nz o u))(oB:∀b ps,H b=some (.EB ps)->∃more,H' b=some (.EB (ps++more)))
  (ns:∀m,s.heap.Ns X.env.locals m->h'.Ns X.env.locals m)(cw:jX X.prog X.w H' h')(hg:AllBare g'):
  Inv X pins σ H' { s with heap:=h',gens:=g',drawn:=d',toks:=t' }:=by
 have WW:∀b o,X.fQ.heap.get? b=some o->b≠X.env.locals:=λb o e=>iE (o3 (fI e) I.ok.above)
 have ME:∀b o,X.fQ.heap.get? b=some o->b∉X.ex->b∉ch:=λb o e hx hb=>by
  rcases (Bt b hb).1 with z | z
  .exact hx z
  .exact absurd (o3 (fI e) z) (AB _)
 have cellK:∀x c,X.env.cells.lookup x=some c->∀v,s.heap.IsCell c v->h'.IsCell c v:=λx c e v ⟨o,ho,hd⟩=>by
  have Jl:c∉ch:=λz=>(Bt c z).2.2.1 x c e rfl
  by_cases hc:c∈X.fs
  .obtain ⟨sl,q⟩:=slot c o (I.Fv x c e) hc Jl ho (I.jg x c e)
   exact ⟨_,q,hd⟩
  .exact ⟨o,keep c o (I.Fv x c e) hc Jl ho (I.jg x c e),hd⟩
 refine ⟨I.ok,I.os,hg,⟨λb o e n hb hx=>?_,λb o e n hb hx=>?_,λb o e n hx=>?_,λb o e hx=>?_,λb xs e=>oA b xs (I.base.oA b xs e),λb o xs e=>nN b o xs (I.base.nN b o xs e),λb ps e=>?_⟩,?_,λx c e=>?_,?_,λx c e=>?_,λp hp=>?_,cw,I.len⟩
 .exact keep b o (WW b o e) hb (ME b o e hx) (I.base.keep b o e n hb hx) (I.base.free b o e n hx)
 .obtain ⟨sl,e1⟩:=I.base.slot b o e n hb hx
  obtain ⟨sl',e2⟩:=slot b _ (WW b o e) hb (ME b o e hx) e1 (I.base.free b o e n hx)
  exact ⟨sl',e2⟩
 .obtain ⟨o',e1⟩:=I.base.there b o e hx
  exact free b o' (ME b o e hx) e1 (I.base.free b o e n hx)
 .obtain ⟨o',e1⟩:=I.base.there b o e hx
  exact there b o' (ME b o e hx) e1
 .obtain ⟨m1,e1⟩:=I.base.oB b ps e
  obtain ⟨m2,e2⟩:=oB b _ e1
  exact ⟨m1++m2,by rw [e2,Array.append_assoc]⟩
 .obtain ⟨m,hn,hl⟩:=I.loc
  refine ⟨m,ns m hn,λi x v e1 e2 e3=>?_⟩
  obtain ⟨u,r,l⟩:=hl i x v e1 e2 e3
  refine ⟨u,r,?_⟩
  rcases l with l | ⟨k,c,e,z⟩
  .exact .inl l
  .exact .inr ⟨k,c,e,cellK x c e _ z⟩
 .obtain ⟨v,z⟩:=I.cell x c e
  exact ⟨v,cellK x c e v z⟩
 .obtain ⟨m,⟨o,_,_,ho,_⟩,_⟩:=I.loc
  exact free _ o (λz=>(Bt _ z).2.1 rfl) ho I.free
 .obtain ⟨v,o,ho,hd⟩:=I.cell x c e
  exact free c o (λz=>(Bt c z).2.2.1 x c e rfl) ho (I.jg x c e)
 .obtain ⟨e,n,ne,nf,d⟩:=I.pin p hp
  have Jl:p.1∉ch:=λz=>(Bt p.1 z).2.2.2 p hp rfl
  exact ⟨keep p.1 p.2 ne nf Jl e n,free p.1 p.2 Jl e n,ne,nf,d⟩
theorem Inv.un(I:Inv X pins σ H s)(u:Un X.fs [] H H' s.heap h')(cw:jX X.prog X.w H' h'):Inv X pins σ H' { s with heap:=h',toks:=t' }:=by
 obtain ⟨m,⟨o,es,ep,ho,r⟩,_⟩:=id I.loc
 obtain ⟨sl,hL⟩:=u.any ho I.free (by simp)
 exact I.step (g':=s.gens) (d':=s.drawn) (ch:=[]) (λ_ z=>nomatch z) (λb o _ hb _ e n=>u.keep b o e n hb (by simp)) (λb o _ hb _ e n=>u.slot b o e n hb (by simp)) (λb o _ e n=>u.free b o e n (by simp)) (λb o _ e=>u.there b o e (by simp)) u.oA u.nN u.oB (λm' hm=>by
  obtain ⟨o',CG,RN,nM,r'⟩:=hm
  rw [ho] at nM;cases nM
  exact ⟨_,CG,RN,hL,r'⟩) cw I.bare
theorem Inv.call(I:Inv X pins σ H s)(u:Un (Ap X.stack) ch H H' s.heap h')(cw:jX X.prog X.w H' h')(hg:AllBare g')
  (Bt:∀b∈ch,(b∈X.ex\/X.fQ.heap.objs.size<=b)/\b≠X.env.locals/\(∀x c,X.env.cells.lookup x=some c->c≠b)/\∀p∈X.pn++pins,p.1≠b):
  Inv X pins σ H' { s with heap:=h',gens:=g',drawn:=d',toks:=t' }:=by
 obtain ⟨m,⟨o,es,ep,ho,r⟩,_⟩:=id I.loc
 obtain ⟨sl,hL⟩:=u.any ho I.free λz=>(Bt _ z).2.1 rfl
 exact I.step (ch:=ch) Bt (λb o hL hb hc e n=>u.keep b o e n (λz=>(fB.mp (I.oC b z)).elim hL hb) hc) (λb o _ _ hc e n=>u.any e n hc) (λb o hc e n=>u.free b o e n hc) (λb o hc e=>u.there b o e hc) u.oA u.nN u.oB (λm' hm=>by
  obtain ⟨o',CG,RN,nM,r'⟩:=hm
  rw [ho] at nM;cases nM
  exact ⟨_,CG,RN,hL,r'⟩) cw hg
theorem Inv.turned(I:Inv X pins σ H s)(k:∀b o,b≠it->s.heap.get? b=some o->h'.get? b=some o)(hn:H it=none)(hL:it≠X.env.locals)
  (h1:it∈X.ex\/X.fQ.heap.objs.size<=it)(h2:∀x c,X.env.cells.lookup x=some c->c≠it)(h3:∀p∈X.pn++pins,p.1≠it):Inv X pins σ H { s with heap:=h',toks:=t' }:=by
 have WU:∀b u,H b=some u->b≠it:=λb u e z=>by rw [z,hn] at e;cases e
 refine I.step (g':=s.gens) (d':=s.drawn) (ch:=[it]) (λb hb=>?_) (λb o _ _ hc e _=>k b o (λz=>hc (by simp [z])) e) (λb o _ _ hc e _=>⟨o.slots,k b o (λz=>hc (by simp [z])) e⟩) (λ_ _ _ _ n=>n)
  (λb o hc e=>⟨o,k b o (λz=>hc (by simp [z])) e⟩) (λ_ _ e=>e) (λ_ _ _ e=>e) (λb ps e=>⟨#[],by rw [e];simp⟩) (λm hm=>?_) (λb u e=>?_) I.bare
 .have e:b=it:=by simpa using hb
  subst e
  exact ⟨h1,hL,h2,h3⟩
 .obtain ⟨o,es,ep,ho,r⟩:=hm
  exact ⟨o,es,ep,k _ o (oX hL) ho,r⟩
 .refine (I.cw b u e).wa (λc v hc q=>k c v ?_ q) (λ_ _ _ q=>q) λ_ _ q=>q
  rcases hc with z | z
  .rw [z];exact WU b u e
  .exact WU c _ z
theorem Inv.tok(I:Inv X pins σ H s)(t:Nat):Inv X pins σ H { s with toks:=t }:=I.un (h':=s.heap) (t':=t) Un.refl I.cw
theorem Inv.kept(I:Inv X pins σ H s)(k:∀b u,s.heap.get? b=some u->h'.get? b=some u):Inv X pins σ H { s with heap:=h',toks:=t' }:=I.un (Un.kept k) (I.cw.kept k)
theorem Inv.laid{a:Addr}{o:HO}{t':Nat}(I:Inv X pins σ H s)(k:∀b u,s.heap.get? b=some u->h'.get? b=some u)(hp:s.heap.objs.size<=a)(new:cD X.prog X.w (upd H a o) h' a o):
  Inv X pins σ (upd H a o) { s with heap:=h',toks:=t' }:=I.un (Un.laid k hp (I.cw.fresh hp)) (I.cw.laid k hp new)
theorem Inv.write(I:Inv X pins σ H s)(mu:Mo (H x))(he:e=x\/H e=some (.own x))(k:∀b u,b≠e->s.heap.get? b=some u->h'.get? b=some u)(GC:∃u,h'.get? e=some u)
  (new:cD X.prog X.w (upd H x o) h' x o):Inv X pins σ (upd H x o) { s with heap:=h',toks:=t' }:=I.un (Un.write mu he k GC) (I.cw.write mu he k GC new)
theorem Inv.j6(I:Inv X pins σ H s)(h:∀p∈IU,s.heap.get? p.1=some p.2/\H p.1=none/\p.1≠X.env.locals/\p.1∉X.fs/\∀v,p.2.data≠.cell v):Inv X IU σ H s:=
 ⟨I.ok,I.os,I.bare,I.base,I.loc,I.cell,I.free,I.jg,λp hp=>(nj.mp hp).elim (λz=>I.pin p (D2 _ z)) (h p),I.cw,I.len⟩
theorem ZT{N:List Str}(hN:N.Nodup){i j:Nat}{x:Str}(a:N[i]?=some x)(b:N[j]?=some x):i=j:=by
 obtain ⟨h1,e1⟩:=xO.mp a
 obtain ⟨h2,e2⟩:=xO.mp b
 exact (List.getElem_inj hN).mp (e1.trans e2.symm)
theorem a8D(I:Inv X pins σ H s)(hN:X.N.Nodup)(hi:X.N[i]?=some x)(hx:Loc X.env.scope x)(r:RelV v u)
  (h:∀s',Inv X pins (σ.set i (some v)) H s'->(∃a,AG a s.heap s'.heap/\(a=X.env.locals\/X.env.cells.lookup x=some a))->Q () s')(hf:X.fn x=true\/X.env.scope.names.lookup x=some .local:=by first | exact .inl rfl | exact .inr rfl | assumption):wpAny M A (storeName X.env x u) Q E s:=by
 obtain ⟨m,hn,hl⟩:=id I.loc
 have Ru:(X.env.scope.kind==.class||(X.env.scope.kind==.module&&X.env.locals != X.env.globals))=false:=by rw [I.ok.kind];rfl
 have JR:i<σ.length:=by rw [I.len];exact (xO.mp hi).1
 have Fv:=I.Fv
 have tracked:∀{a:Addr} {h':Heap},(∃o,s.heap.get? a=some o/\H a=none)->AG a s.heap h'->jX X.prog X.w H h':=λ{a h'} ha hs b ob e=>by
  obtain ⟨_,_,DH⟩:=ha
  refine (I.cw b ob e).wa (λc w' hc q=>(hs.2 c ?_).trans q) (λ_ _ _ q=>q) λ_ _ q=>q
  rintro rfl
  rcases hc with rfl | hc
  .rw [DH] at e;cases e
  .rw [DH] at hc;cases hc
 rcases hx with hk | hk
 .refine wpAny_storeName_local hk hn (λh' hn' hs=>?_) Ru
  obtain ⟨oL,_,_,hoL,_⟩:=id hn
  refine h _ ⟨I.ok,I.os,I.bare,⟨λb o e n hb hx=>?_,λb o e n hb hx=>?_,I.base.free,λb o e hx=>?_,I.base.oA,I.base.nN,I.base.oB⟩,⟨_,hn',λj y v' e1 e2 e3=>?_⟩,λy c e=>?_,I.free,I.jg,λp hp=>?_,tracked ⟨oL,hoL,I.free⟩ hs,by simpa using I.len⟩ ⟨_,hs,.inl rfl⟩
  .exact (hs.2 b (iE (o3 (fI e) I.ok.above))).trans (I.base.keep b o e n hb hx)
  .obtain ⟨sl,e1⟩:=I.base.slot b o e n hb hx
   exact ⟨sl,(hs.2 b (iE (o3 (fI e) I.ok.above))).trans e1⟩
  .obtain ⟨o',e1⟩:=I.base.there b o e hx
   exact ⟨o',(hs.2 b (iE (o3 (fI e) I.ok.above))).trans e1⟩
  .by_cases hj:j=i
   .subst hj
    rw [hi] at e1;cases e1
    rw [my JR] at e2
    cases e2
    exact ⟨u,r,.inl ⟨hk,by simp⟩⟩
   .rw [lD (oX hj)] at e2
    obtain ⟨u',r',q⟩:=hl j y v' e1 e2 e3
    refine ⟨u',r',?_⟩
    rcases q with ⟨k,e⟩ | ⟨k,c,e,z⟩
    .refine .inl ⟨k,?_⟩
     have:y≠x:=λe=>hj (ZT hN e1 (e▸hi))
     simp [this,e]
    .exact .inr ⟨k,c,e,z.sameBut hs (Fv y c e)⟩
  .obtain ⟨w',z⟩:=I.cell y c e
   exact ⟨w',z.sameBut hs (Fv y c e)⟩
  .obtain ⟨e,n,ne,nf,d⟩:=I.pin p hp
   exact ⟨(hs.2 p.1 ne).trans e,n,ne,nf,d⟩
 .have Rq:X.fn x=true:=by
   rcases hf with z | z
   .exact z
   .rw [z] at hk;cases hk
  obtain ⟨c,hc⟩:=I.ok.has x (.inl hk)
  obtain ⟨w',z⟩:=I.cell x c hc
  refine wpAny_storeName_cell I.ok.kind hk hc z (λh' DJ hs=>?_)
  obtain ⟨oc,Xe,Rh⟩:=id z
  refine h { s with heap:=h' } ⟨I.ok,I.os,I.bare,⟨λb o e n hb hx=>?_,λb o e n hb hx=>?_,I.base.free,λb o e hx=>?_,I.base.oA,I.base.nN,I.base.oB⟩,⟨m,hn.sameBut hs (oX (Fv x c hc)),λj y v' e1 e2 e3=>?_⟩,λy c' e=>?_,I.free,I.jg,λp hp=>?_,tracked ⟨oc,Xe,I.jg x c hc⟩ hs,by simpa using I.len⟩ ⟨c,hs,.inr hc⟩
  .exact (hs.2 b (iE (o3 (fI e) (I.ok.Ky x c Rq hc)))).trans (I.base.keep b o e n hb hx)
  .obtain ⟨sl,e1⟩:=I.base.slot b o e n hb hx
   exact ⟨sl,(hs.2 b (iE (o3 (fI e) (I.ok.Ky x c Rq hc)))).trans e1⟩
  .obtain ⟨o',e1⟩:=I.base.there b o e hx
   exact ⟨o',(hs.2 b (iE (o3 (fI e) (I.ok.Ky x c Rq hc)))).trans e1⟩
  .by_cases hj:j=i
   .subst hj
    rw [hi] at e1;cases e1
    rw [my JR] at e2
    cases e2
    exact ⟨u,r,.inr ⟨.inl hk,c,hc,DJ⟩⟩
   .rw [lD (oX hj)] at e2
    obtain ⟨u',r',q⟩:=hl j y v' e1 e2 e3
    refine ⟨u',r',?_⟩
    rcases q with q | ⟨k,c',e,z'⟩
    .exact .inl q
    .refine .inr ⟨k,c',e,z'.sameBut hs ?_⟩
     rintro rfl
     exact hj (ZT hN e1 (I.ok.inj _ _ _ e hc▸hi))
  .by_cases Xn:c'=c
   .subst Xn;exact ⟨_,DJ⟩
   .obtain ⟨w2,z2⟩:=I.cell y c' e
    exact ⟨w2,z2.sameBut hs Xn⟩
  .obtain ⟨e,n,ne,nf,d⟩:=I.pin p hp
   refine ⟨(hs.2 p.1 ?_).trans e,n,ne,nf,d⟩
   intro q
   rw [q,Xe] at e
   have q':oc=p.2:=gz e
   exact d w' (by rw [<-q'];exact Rh)
theorem U9(I:Inv X pins σ H s)(hN:X.N.Nodup)(hi:X.N[i]?=some x)(hx:Loc X.env.scope x)(r:RelV v u)
  (h:∀s',Inv X pins (σ.set i (some v)) H s'->Q () s')(hf:X.fn x=true\/X.env.scope.names.lookup x=some .local:=by first | exact .inl rfl | exact .inr rfl | assumption):wpAny M A (storeName X.env x u) Q E s:=
 a8D I hN hi hx r (λs' I' _=>h s' I') hf
theorem Inv.Kx(I:Inv X pins σ H s)(ho:s'.os=s.os)(u:Un (Ap X.stack) ch H H' s.heap s'.heap)(cw:jX X.prog X.w H' s'.heap)(hg:AllBare s'.gens)
  (Bt:∀b∈ch,(b∈X.ex\/X.fQ.heap.objs.size<=b)/\b≠X.env.locals/\(∀x c,X.env.cells.lookup x=some c->c≠b)/\∀p∈X.pn++pins,p.1≠b):Inv X pins σ H' s':=by
 obtain ⟨h',g',d',t',o'⟩:=s'
 have e:o'=s.os:=ho
 subst e
 exact I.call (g':=g') (t':=t') (d':=d') u cw hg Bt
end
abbrev XK:=Value->Option Addr->Hp->Prop
abbrev St:=List (Option V)
abbrev VK:=V->Hp->Prop
abbrev TE:=St->Hp->VK->Prop
abbrev TT:=St->Hp->(Bool->Hp->Prop)->Prop
abbrev TA:=St->Hp->(List V->Hp->Prop)->Prop
structure Ends where
 nx:St->Hp->Prop
 rt:VK
 bk:St->Hp->Prop:=λ_ _=>False
 ct:St->Hp->Prop:=λ_ _=>False
abbrev TS:=Ends->St->Hp->Prop
def EP(X:Cx)(pins:List (Addr×Obj))(σ:St)(Q:VK)(u:Value)(s':Shared):Prop:=∃v H',Inv X pins σ H' s'/\RelV v u/\Q v H'
def TP(X:Cx)(pins:List (Addr×Obj))(σ:St)(Q:Bool->Hp->Prop)(b:Bool)(s':Shared):Prop:=∃H',Inv X pins σ H' s'/\Q b H'
def AP(X:Cx)(pins:List (Addr×Obj))(σ:St)(Q:List V->Hp->Prop)(us:List Value)(s':Shared):Prop:=∃vs H',Inv X pins σ H' s'/\aV vs us/\Q vs H'
def SP(X:Cx)(pins:List (Addr×Obj))(D:Ends)(f:Flow)(s':Shared):Prop:=
 match f with
 | .next=>∃bz H',Inv X pins bz H' s'/\D.nx bz H'
 | .brk=>∃bz H',Inv X pins bz H' s'/\D.bk bz H'
 | .cont=>∃bz H',Inv X pins bz H' s'/\D.ct bz H'
 | .ret u=>∃v bz H',Inv X pins bz H' s'/\RelV v u/\D.rt v H'
def PE(X:Cx)(e:Expr)(t:TE):Prop:=
 ∀(pins:List (Addr×Obj)) (s:Shared) (σ:St) (H:Hp) (Q:VK),Inv X pins σ H s->t σ H Q->wpAny (model X.prog X.w) X.A (eval e X.env) (EP X pins σ Q) X.xe s
def PT(X:Cx)(e:Expr)(t:TT):Prop:=
 ∀(pins:List (Addr×Obj)) (s:Shared) (σ:St) (H:Hp) (Q:Bool->Hp->Prop),Inv X pins σ H s->t σ H Q->wpAny (model X.prog X.w) X.A (isTrue e X.env (eval e X.env)) (TP X pins σ Q) X.xe s
def PW(X:Cx)(e:Expr)(t:TT):Prop:=
 ∀(whole:Sem Value) (pins:List (Addr×Obj)) (s:Shared) (σ:St) (H:Hp) (Q:Bool->Hp->Prop),Inv X pins σ H s->t σ H Q->wpAny (model X.prog X.w) X.A (isTrue e X.env whole) (TP X pins σ Q) X.xe s
theorem PW.pt(h:PW X e t):PT X e t:=h _
def PA(X:Cx)(es:List Expr)(t:TA):Prop:=
 ∀(pos:Pos) (pins:List (Addr×Obj)) (s:Shared) (σ:St) (H:Hp) (Q:List V->Hp->Prop),Inv X pins σ H s->t σ H Q->wpAny (model X.prog X.w) X.A (spliced (backTo pos (starEach es X.env))) (AP X pins σ Q) X.xe s
def PS(X:Cx)(st:Stmt)(t:TS):Prop:=
 ∀(pins:List (Addr×Obj)) (s:Shared) (σ:St) (H:Hp) (D:Ends),Inv X pins σ H s->t D σ H->wpAny (model X.prog X.w) X.A (exec st X.env) (SP X pins D) X.xe s
def rT(X:Cx)(st:List Stmt)(t:TS):Prop:=
 ∀(pins:List (Addr×Obj)) (s:Shared) (σ:St) (H:Hp) (D:Ends),Inv X pins σ H s->t D σ H->wpAny (model X.prog X.w) X.A (execs st X.env) (SP X pins D) X.xe s
theorem cq{α:Type}{t:Sem α}{Q Q':α->Shared->Prop}{M:Model}{A:Around}{E:Value->Shared->Prop}{s:Shared}(h:wpAny M A t Q E s)(hQ:∀a s,Q a s->Q' a s):wpAny M A t Q' E s:=t5 h hQ λ_ _ x=>x
end L2
namespace L2
open PySem PySem.Spec PyProof.Rows
section
variable {X:Cx}
def Qg(i:Nat):TE:=λσ H Q=>∃v,σ[i]?=some (some v)/\Q v H
def tC(v:V):TE:=λ_ H Q=>Q v H
theorem ya{i:Nat}{x:Str}{pos:Pos}(hN:X.N[i]?=some x)(hv:jS X.env.scope x)(hd:(x==("__debug__":Str))=false:=by decide)(dN:(x==("__classdict__":Str))=false:=by decide):PE X (.Name x pos) (Qg i):=by
 intro pins s σ H Q I h
 obtain ⟨v,e,h⟩:=h
 obtain ⟨m,hn,hl⟩:=I.loc
 obtain ⟨u,r,l⟩:=hl i x v hN e hv
 have fin:EP X pins σ Q u s:=⟨v,H,I,r,h⟩
 rcases l with ⟨hk,hm⟩ | ⟨hk,c,hc,kn⟩
 .exact wpAny_Name (wpAny_loadName_local I.ok.kind hk hn hm fin) hd
 .rcases hk with hk | hk
  .exact wpAny_Name (wpAny_loadName_cell I.ok.kind hk hc kn fin) hd
  .exact wpAny_Name (wpAny_loadName_free I.ok.kind hk hc kn fin dN) hd
theorem b8q{i j pos}:PE X (.Constant (.int i) j pos) (tC (.int i)):=λ_ _ _ H _ I h=>wpAny_Constant_int ⟨.int i,H,I.tok _,⟨_,rfl⟩,h⟩
theorem I9{b j pos}:PE X (.Constant (.bool b) j pos) (tC (.bl b)):=λ_ _ _ H _ I h=>Constant_bool ⟨.bl b,H,I,rfl,h⟩
theorem b8o{j pos}:PE X (.Constant .none j pos) (tC .b8):=λ_ _ _ H _ I h=>Constant_none ⟨.b8,H,I,rfl,h⟩
theorem b8l{x j pos}:PE X (.Constant (.str x) j pos) (tC (.str x)):=λ_ _ _ H _ I h=>Calls.Constant_str ⟨.str x,H,I.tok _,⟨_,rfl⟩,h⟩
def Gl(X:Cx)(x:Str):Prop:=X.env.kindOf x=some .globalImplicit
theorem OC{E:Value->Shared->Prop}{pins:List (Addr×Obj)}{s:Shared}{σ:St}{H:Hp}{x:Str}{u:Value}{pos:Pos}{Q:Value->Shared->Prop}(I:Inv X pins σ H s)(hg:Gl X x)(hm:X.mg x=some u)(h:Q u s)
  (hd:(x==("__debug__":Str))=false:=by decide):wpAny (model X.prog X.w) X.A (eval (.Name x pos) X.env) Q E s:=
 Yq I.ok.kind hg (Calls.loadGlobal_global (by rw [I.ok.glob];exact I.mod.glob.keeps I.bk) hm h) hd
theorem F5{E:Value->Shared->Prop}{pins:List (Addr×Obj)}{s:Shared}{σ:St}{H:Hp}{x:Str}{u:Value}{pos:Pos}{Q:Value->Shared->Prop}(I:Inv X pins σ H s)(hg:Gl X x)(hm:X.mg x=none)(hv:bootBuiltins x=some u)(h:Q u s)
  (hn:x ≠ "__name__":=by decide)(hd:(x==("__debug__":Str))=false:=by decide):wpAny (model X.prog X.w) X.A (eval (.Name x pos) X.env) Q E s:=by
 obtain ⟨mb,h1,h2⟩:=I.mod.blt
 exact Yq I.ok.kind hg (Calls.loadGlobal_builtin (by rw [I.ok.glob];exact I.mod.glob.keeps I.bk) hm (by rw [I.ok.blt];exact h1.keeps I.bk) ((h2 x hn).trans hv) h) hd
theorem b6a{x:Str}{v:V}{u:Value}{pos:Pos}(hg:Gl X x)(hm:X.mg x=none)(hv:bootBuiltins x=some u)(r:RelV v u)(hn:x ≠ "__name__":=by decide)(hd:(x==("__debug__":Str))=false:=by decide):PE X (.Name x pos) (tC v):=
 λ_ _ _ H _ I h=>F5 I hg hm hv ⟨v,H,I,r,h⟩ hn hd
variable {a b:Expr}{ta tb:TE}{pos:Pos}
def PC(X:Cx)(op:CmpOp)(a b:Expr)(t:TE):Prop:=
 ∀(pins:List (Addr×Obj)) (s:Shared) (σ:St) (H:Hp) (Q:VK),Inv X pins σ H s->t σ H Q ->
  wpAny (model X.prog X.w) X.A (eval a X.env) (λv bA=>wpAny (model X.prog X.w) X.A (eval b X.env) (λu dM=>wpAny (model X.prog X.w) X.A (compareOp op v u) (EP X pins σ Q) X.xe dM) X.xe bA) X.xe s
def tB(t:TE):TT:=λσ H Q=>t σ H λx H1=>∃c,x=.bl c/\Q c H1
theorem b8g(h:PC X op a b t)(h1:behindInMarks op b=false:=by first | exact Jj _ (by decide) (by decide) | rfl):PT X (.Compare a [op] [b] pos) (tB t):=by
 intro pins s σ H Q I hw
 refine wpAny_isTrue_Compare1 (cq (h pins s σ H _ I hw) λv s1 h1=>cq h1 λu s2 h2=>cq h2 λc s3 ⟨x,H1,I1,r1,q1⟩=>?_) h1
 obtain ⟨d,rfl,q⟩:=q1
 cases r1
 exact CY ⟨H1,I1,q⟩
variable {tA Mx:TT}{rest:List Expr}
def Qr(t u:TT):TT:=λσ H Q=>t σ H λc H1=>if c=true then u σ H1 Q else Q false H1
def tOr(t u:TT):TT:=λσ H Q=>t σ H λc H1=>if c=true then Q true H1 else u σ H1 Q
def Qk(t:TT):TT:=λσ H Q=>t σ H λc H1=>Q (!c) H1
theorem b5U(ha:PT X a tA):PW X (.BoolOp .And [a] pos) tA:=by
 intro wh pins s σ H Q I h
 refine isTrue_and (cq (ha pins s σ H Q I h) λc s1 e=>?_)
 cases c with
 | true=>exact isTrue_and_nil e
 | false=>exact e
theorem b8c(ha:PT X a tA):PW X (.BoolOp .Or [a] pos) tA:=by
 intro wh pins s σ H Q I h
 refine isTrue_or (cq (ha pins s σ H Q I h) λc s1 e=>?_)
 cases c with
 | false=>exact isTrue_or_nil e
 | true=>exact e
theorem b8d(ha:PT X a tA)(hb:PW X (.BoolOp .And (b::rest) pos) Mx):PW X (.BoolOp .And (a::b::rest) pos) (Qr tA Mx):=by
 intro wh pins s σ H Q I h
 refine isTrue_and (cq (ha pins s σ H _ I h) λc s1 ⟨H1,I1,q1⟩=>?_)
 cases c with
 | true=>exact hb wh pins s1 σ H1 Q I1 q1
 | false=>exact ⟨H1,I1,q1⟩
theorem pw_or(ha:PT X a tA)(hb:PW X (.BoolOp .Or (b::rest) pos) Mx):PW X (.BoolOp .Or (a::b::rest) pos) (tOr tA Mx):=by
 intro wh pins s σ H Q I h
 refine isTrue_or (cq (ha pins s σ H _ I h) λc s1 ⟨H1,I1,q1⟩=>?_)
 cases c with
 | true=>exact ⟨H1,I1,q1⟩
 | false=>exact hb wh pins s1 σ H1 Q I1 q1
theorem b8f(ha:PT X a tA):PT X (.UnaryOp .Not a pos) (Qk tA):=by
 intro pins s σ H Q I h
 exact isTrue_not (ha pins s σ H (λc H1=>Q (!c) H1) I h)
def Ir(ta tb:TE):TE:=λσ H Q=>ta σ H λx H1=>∃c,x=.bl c/\if c=true then tb σ H1 Q else Q (.bl false) H1
def Ii(ta:TE):TE:=λσ H Q=>ta σ H λx H1=>∃c,x=.bl c/\Q (.bl (!c)) H1
theorem b8m{op}(h:PE X a t):PE X (.BoolOp op [a] pos) t:=λpins s σ H Q I hw=>BoolOp_one (h pins s σ H Q I hw)
theorem b8s(ha:PE X a ta)(hb:PE X (.BoolOp .And (b::rest) pos) tb):PE X (.BoolOp .And (a::b::rest) pos) (Ir ta tb):=by
 intro pins s σ H Q I h
 refine BoolOp_and (cq (ha pins s σ H _ I h) λv s1 ⟨x,H1,I1,r1,q1⟩=>?_)
 obtain ⟨c,rfl,q1⟩:=q1
 cases r1
 refine CY ?_
 cases c with
 | true=>exact hb pins s1 σ H1 Q I1 q1
 | false=>exact ⟨.bl false,H1,I1,rfl,q1⟩
theorem b8n(ha:PE X a ta):PE X (.UnaryOp .Not a pos) (Ii ta):=by
 intro pins s σ H Q I h
 refine UnaryOp_ (cq (ha pins s σ H _ I h) λv s1 ⟨x,H1,I1,r1,q1⟩=>?_)
 obtain ⟨c,rfl,q1⟩:=q1
 cases r1
 exact not_of (CY ⟨.bl (!c),H1,I1,rfl,q1⟩)
def tIf(t:TT)(ta tb:TE):TE:=λσ H Q=>t σ H λc H1=>if c=true then ta σ H1 Q else tb σ H1 Q
theorem b3Q(hc:PT X c tA)(ha:PE X a ta)(hb:PE X b tb):PE X (.IfExp c a b pos) (tIf tA ta tb):=by
 intro pins s σ H Q I h
 refine wpAny_IfExp (cq (hc pins s σ H _ I h) λd s1 ⟨H1,I1,q1⟩=>?_)
 cases d with
 | true=>exact ha pins s1 σ H1 Q I1 q1
 | false=>exact hb pins s1 σ H1 Q I1 q1
end
end L2
namespace L2
open PySem PySem.Spec PyProof.Rows
def jm(K:aQ)(H:Hp)(a:Addr)(xs:List V):Prop:=
 Rd H a (.lst xs) \/
  ∃(o:Obj) (aD:Array Value) (n:Nat),K.lookup a=some o/\o.cls=.type "list" /\ o.dict=none/\o.data=.seq aD n/\aD.size<=sizeLine/\aV xs aD.toList
def kK(K:aQ)(H:Hp)(a:Addr)(xs:List V):Prop:=
 Rd H a (.tup xs) \/
  ∃(o:Obj) (aD:Array Value) (n:Nat),K.lookup a=some o/\o.cls=.type "tuple" /\ o.data=.seq aD n/\aD.size<=sizeLine/\aV xs aD.toList
def Uy:Value->Option V
 | .none=>some .b8
 | .bool b=>some (.bl b)
 | .int i _=>some (.int i)
 | .str x _=>some (.str x)
 | .bytes b _=>some (.G9 b)
 | .float b _=>some (.Fq b)
 | .ref a=>some (.ref a)
 | .type n=>some (.ty n)
 | _=>none
theorem RelV.abs(r:RelV x u):Uy u=some x:=by
 cases x with
 | b8=>cases r;rfl
 | bl _=>cases r;rfl
 | int _=>obtain ⟨t,rfl⟩:=r;rfl
 | str _=>obtain ⟨t,rfl⟩:=r;rfl
 | G9 _=>obtain ⟨t,rfl⟩:=r;rfl
 | Fq _=>obtain ⟨t,rfl⟩:=r;rfl
 | ref _=>cases r;rfl
 | ty _=>cases r;rfl
theorem RelV.inj(r:RelV x u)(q:RelV y u):x=y:=gz (r.abs.symm.trans q.abs)
theorem aV.inj:∀{xs ys:List V} {us:List Value},aV xs us->aV ys us->xs=ys
 | _,_,_,.nil,.nil=>rfl
 | _,_,_,.cons r t,.cons r' t'=>by rw [r.inj r',aV.inj t t']
section
variable {X:Cx}{pins:List (Addr×Obj)}{σ:St}{H:Hp}{s:Shared}{a:Addr}{xs ys:List V}
theorem jm.of{K:aQ}(h:H a=some (.lst xs)):jm K H a xs:=.inl (.inl h)
theorem Inv.list(I:Inv X pins σ H s)(h:jm X.K H a xs):∃aD:List Value,aV xs aD/\PlainL s.heap a aD.toArray/\xs.length<=sizeLine:=by
 rcases h with h | ⟨o,aD,n,hk,hc,hd,hs,hz,r⟩
 .obtain ⟨z,aD,n,r,e⟩:=h.ok I.cw
  exact ⟨aD,r,⟨_,n,e,rfl,rfl,rfl⟩,z⟩
 .refine ⟨aD.toList,r,⟨o,n,I.kU a o hk,hc,hd,by simpa using hs⟩,?_⟩
  have e:=r.length
  simp only [kx] at e
  ext hz e
theorem Inv.tuple(I:Inv X pins σ H s)(h:kK X.K H a xs):∃aD:List Value,aV xs aD/\IsTup s.heap a aD.toArray/\xs.length<=sizeLine:=by
 rcases h with h | ⟨o,aD,n,hk,hc,hs,hz,r⟩
 .obtain ⟨z,aD,r,p⟩:=h.ok I.cw
  exact ⟨aD,r,p,z⟩
 .refine ⟨aD.toList,r,⟨o,I.kU a o hk,hc,n,by simpa using hs⟩,?_⟩
  have e:=r.length
  simp only [kx] at e
  ext hz e
theorem Inv.qb(I:Inv X pins σ H s)(h:jm X.K H a xs)(h':jm X.K H a ys):xs=ys:=by
 obtain ⟨aD,r,⟨o,n,e,_,_,d⟩,_⟩:=I.list h
 obtain ⟨its',r',⟨o',n',e',_,_,d'⟩,_⟩:=I.list h'
 rw [e] at e';cases e'
 rw [d] at d'
 injection d' with d1 _
 have:aD=its':=by simpa using congrArg Array.toList d1
 subst this
 exact r.inj r'
theorem Inv.nZ(I:Inv X pins σ H s)(h:kK X.K H a xs)(h':kK X.K H a ys):xs=ys:=by
 obtain ⟨aD,r,⟨o,e,_,n,d⟩,_⟩:=I.tuple h
 obtain ⟨its',r',⟨o',e',_,n',d'⟩,_⟩:=I.tuple h'
 rw [e] at e';cases e'
 rw [d] at d'
 injection d' with d1 _
 have:aD=its':=by simpa using congrArg Array.toList d1
 subst this
 exact r.inj r'
end
abbrev Cx.nF(X:Cx)(E:Value->Shared->Prop):Cx:={ X with xe:=E }
abbrev Cx.EY(X:Cx):Cx:=X.nF λ_ _=>False
theorem Cx.Ok.nF{X:Cx}(ok:X.Ok)(E:Value->Shared->Prop):(X.nF E).Ok:=
 ⟨ok.mod,ok.kind,ok.glob,ok.blt,ok.above,ok.inj,ok.has,ok.Ky,ok.hd,ok.frames,ok.Mz,ok.Xz,ok.bs,ok.C4,ok.z9,ok.CF,ok.l7,ok.Fp⟩
theorem Cx.Ok.iS{X:Cx}(ok:(X.nF E).Ok):X.Ok:=
 ⟨ok.mod,ok.kind,ok.glob,ok.blt,ok.above,ok.inj,ok.has,ok.Ky,ok.hd,ok.frames,ok.Mz,ok.Xz,ok.bs,ok.C4,ok.z9,ok.CF,ok.l7,ok.Fp⟩
section
variable {X:Cx}{pins:List (Addr×Obj)}{σ:St}{H:Hp}{s:Shared}{E:Value->Shared->Prop}
theorem Inv.nF(I:Inv X pins σ H s)(E:Value->Shared->Prop):Inv (X.nF E) pins σ H s:=⟨I.ok.nF E,I.os,I.bare,I.base,I.loc,I.cell,I.free,I.jg,I.pin,I.cw,I.len⟩
theorem Inv.iS(I:Inv (X.nF E) pins σ H s):Inv X pins σ H s:=⟨I.ok.iS,I.os,I.bare,I.base,I.loc,I.cell,I.free,I.jg,I.pin,I.cw,I.len⟩
theorem SP.iS(h:SP (X.nF E) pins D f s'):SP X pins D f s':=by
 cases f with
 | next=>obtain ⟨bz,H',I,q⟩:=h;exact ⟨bz,H',I.iS,q⟩
 | brk=>obtain ⟨bz,H',I,q⟩:=h;exact ⟨bz,H',I.iS,q⟩
 | cont=>obtain ⟨bz,H',I,q⟩:=h;exact ⟨bz,H',I.iS,q⟩
 | ret u=>obtain ⟨v,bz,H',I,r,q⟩:=h;exact ⟨v,bz,H',I.iS,r,q⟩
theorem rT.EY{st:List Stmt}{t:TS}(h:rT X.EY st t):rT X st t:=λpins s σ H D I hw =>
 t5 (h pins s σ H D (I.nF _) hw) (λ_ _ q=>q.iS) λ_ _ z=>qw z
end
section
variable {X:Cx}{st:Stmt}{rest:List Stmt}{t u:TS}{e:Expr}{te:TE}{pos:Pos}
def Ik:TS:=λD σ H=>D.nx σ H
def Qi(t u:TS):TS:=λD σ H=>t { D with nx:=u D } σ H
theorem UA:rT X [] Ik:=λ_ _ σ H _ I h=>Ni ⟨σ,H,I,h⟩
theorem OH(h1:PS X st t)(h2:rT X rest u):rT X (st::rest) (Qi t u):=by
 intro pins s σ H D I h
 refine wpAny_execs_cons (cq (h1 pins s σ H { D with nx:=u D } I h) λf s1 q=>?_)
 cases f with
 | next =>
  obtain ⟨bz,H',I',q⟩:=q
  exact h2 pins s1 bz H' D I' q
 | ret v=>exact q
 | brk=>exact q
 | cont=>exact q
theorem b5Y(h1:PS X st t):rT X [st] t:=by
 intro pins s σ H D I h
 refine wpAny_execs_cons (cq (h1 pins s σ H D I h) λf s1 q=>?_)
 cases f with
 | next=>exact Ni q
 | ret v=>exact q
 | brk=>exact q
 | cont=>exact q
theorem Inv.quiet{pins:List (Addr×Obj)}{σ:St}{H:Hp}{s:Shared}(I:Inv X pins σ H s):interactive X.env=false:=by simp [interactive,I.ok.kind]
def Im(te:TE):TS:=λD σ H=>te σ H λ_ H1=>D.nx σ H1
theorem LM(he:PE X e te)(hs:swapsWith e none pos.line X.env=pure false:=by rfl):PS X (.Expr e pos) (Im te):=by
 intro pins s σ H D I h
 exact wpAny_Expr_any (cq (he pins s σ H _ I h) λv s1 ⟨x,H1,I1,r1,q1⟩=>⟨σ,H1,I1,q1⟩) I.quiet hs
def Qj(te:TE):TS:=λD σ H=>te σ H D.rt
theorem Zc(he:PE X e te):PS X (.Return (some e) pos) (Qj te):=by
 intro pins s σ H D I h
 exact wpAny_Return_some (cq (he pins s σ H _ I h) λv s1 ⟨x,H1,I1,r1,q1⟩=>⟨x,σ,H1,I1,r1,q1⟩)
def Qm(c:TT)(t u:TS):TS:=λD σ H=>c σ H λb H1=>if b=true then t D σ H1 else u D σ H1
theorem IT(hc:PT X c tc)(ha:rT X a t)(hb:rT X b u):PS X (.If c a b pos) (Qm tc t u):=by
 intro pins s σ H D I h
 refine wpAny_If (cq (hc pins s σ H _ I h) λd s1 ⟨H1,I1,q1⟩=>?_)
 cases d with
 | true=>exact ha pins s1 σ H1 D I1 q1
 | false=>exact hb pins s1 σ H1 D I1 q1
end
abbrev TG:=V->St->Hp->(St->Hp->Prop)->Prop
abbrev Eo:=List V->St->Hp->(St->Hp->Prop)->Prop
def PG(X:Cx)(target:Expr)(t:TG):Prop:=
 ∀(pins:List (Addr×Obj)) (s:Shared) (σ:St) (H:Hp) (v:V) (u:Value) (Q:St->Hp->Prop),Inv X pins σ H s->RelV v u->t v σ H Q ->
  wpAny (model X.prog X.w) X.A (assign target X.env u) (λ_ s'=>∃bz H',Inv X pins bz H' s'/\Q bz H') X.xe s
def Mn(X:Cx)(ts:List Expr)(t:Eo):Prop:=
 ∀(pins:List (Addr×Obj)) (s:Shared) (σ:St) (H:Hp) (vs:List V) (us:List Value) (Q:St->Hp->Prop),Inv X pins σ H s->aV vs us->t vs σ H Q ->
  wpAny (model X.prog X.w) X.A (assignInOrder ((assignEach ts X.env).map (·.2)) us) (λ_ s'=>∃bz H',Inv X pins bz H' s'/\Q bz H') X.xe s
abbrev Gg:=V->V->V->Hp->(Hp->Prop)->Prop
def Mm(X:Cx)(t:Gg):Prop:=
 ∀(pins:List (Addr×Obj)) (s:Shared) (σ:St) (H:Hp) (o i v:V) (ov iv u:Value) (Q:Hp->Prop),Inv X pins σ H s->RelV o ov->RelV i iv->RelV v u->t o i v H Q ->
  wpAny (model X.prog X.w) X.A (setItem ov iv u) (λ_ s'=>∃H',Inv X pins σ H' s'/\Q H') X.xe s
abbrev Ww:=V->V->Hp->VK->Prop
def PIp(X:Cx)(op:Operator)(t:Ww):Prop:=
 ∀(pins:List (Addr×Obj)) (s:Shared) (σ:St) (H:Hp) (x y:V) (v u:Value) (Q:VK),Inv X pins σ H s->RelV x v->RelV y u->t x y H Q ->
  wpAny (model X.prog X.w) X.A (inplaceOp op v u) (EP X pins σ Q) X.xe s
section
variable {X:Cx}{pos:Pos}
def YE(i:Nat):TG:=λv σ H Q=>Q (σ.set i (some v)) H
theorem b54(hN:X.N.Nodup)(hi:X.N[i]?=some x)(hx:Loc X.env.scope x)(hf:X.fn x=true\/X.env.scope.names.lookup x=some .local:=by first | exact .inl rfl | exact .inr rfl | assumption):PG X (.Name x pos) (YE i):=by
 intro pins s σ H v u Q I r h
 exact wpAny_assign_Name (U9 I hN hi hx r (λs' I'=>⟨_,H,I',h⟩) hf)
def RG:Eo:=λvs σ H Q=>vs=[]/\Q σ H
def Kg(t:TG)(u:Eo):Eo:=λvs σ H Q=>∃v r,vs=v::r/\t v σ H λbz H'=>u r bz H' Q
theorem b53:Mn X [] RG:=by
 intro pins s σ H vs us Q I r h
 obtain ⟨e,h⟩:=h
 subst e
 cases r
 exact assignInOrder_nil ⟨σ,H,I,h⟩
theorem b3N{e:Expr}{es:List Expr}{t:TG}{u:Eo}(h1:PG X e t)(h2:Mn X es u)
  (hs:(assignEach (e::es) X.env).map (·.2)=assign e X.env::(assignEach es X.env).map (·.2):=by rfl):Mn X (e::es) (Kg t u):=by
 intro pins s σ H vs us Q I r h
 obtain ⟨v,vr,e1,h⟩:=h
 subst e1
 cases r with
 | cons r rr =>
  rw [hs]
  refine assignInOrder_cons (cq (h1 pins s σ H _ _ _ I r h) λ_ s1 ⟨nv,H1,I1,q1⟩=>?_)
  exact h2 pins s1 nv H1 _ _ Q I1 rr q1
def RE(K:aQ)(n:Nat)(t:Eo):TG:=λv σ H Q=>∃a xs,v=.ref a/\kK K H a xs/\xs.length=n/\t xs σ H Q
theorem b8j{es:List Expr}{k:Nat}{t:Eo}{n:Nat}(hc:X.calm=true)(h:Mn X es t)
  (hn:(assignEach es X.env).length=n:=by rfl)(l6:(assignEach es X.env).findIdx? (·.1)=none:=by rfl):PG X (.Tuple es k pos) (RE X.K n t):=by
 intro pins s σ H v u Q I r hw
 obtain ⟨a,xs,e1,hq,hl,hw⟩:=hw
 subst e1
 cases r
 obtain ⟨aD,rv,ht,hz⟩:=I.tuple hq
 refine assign_Tuple_tuple (I.ok.hd hc) ht (by simp [hn,<-hl,rv.length]) l6 λh' hx=>?_
 have I1:Inv X pins σ H { s with heap:=h' }:=I.kept (t':=s.toks) λb o e=>hx b o (iE (fI e)) e
 exact h pins _ σ H xs _ Q I1 (by simpa using rv) hw
def jf(to ti:TE)(t:Gg):TG:=λv σ H Q=>to σ H λo H1=>ti σ H1 λi H2=>t o i v H2 λH3=>Q σ H3
theorem b8k{o i:Expr}{to ti:TE}{t:Gg}(ho:PE X o to)(hi:PE X i ti)(hs:Mm X t)
  (ha:∀v,assign (.Subscript o i pos) X.env v=(do
   let ov <-holding [v] (eval o X.env)
   let iv <-holding [v,ov] (eval i X.env)
   standAt pos
   holding [v,ov,iv] (setItem ov iv v)
   release [v,ov,iv] []):=by intro _;rfl):PG X (.Subscript o i pos) (jf to ti t):=by
 intro pins s σ H v u Q I r h
 rw [ha]
 refine aM (zj (cq (ho pins s σ H _ I h) λov s1 ⟨x,H1,I1,r1,q1⟩=>?_))
 refine aM (zj (cq (hi pins s1 σ H1 _ I1 q1) λiv s2 ⟨y,H2,I2,r2,q2⟩=>?_))
 refine aM (SR (aM (zj (cq (hs pins s2 σ H2 x y v ov iv u _ I2 r1 r2 r q2) λ_ s3 ⟨H3,I3,q3⟩=>?_))))
 exact wpAny_release ⟨σ,H3,I3,q3⟩
def Iq(te:TE)(g:TG):TS:=λD σ H=>te σ H λx H1=>g x σ H1 D.nx
theorem b8i{tg e:Expr}{te:TE}{g:TG}(he:PE X e te)(hg:PG X tg g)(hs:swapsWithSole [tg] e pos.line X.env=pure false:=by rfl)(hw:swappedStores [tg] e X.env=pure none:=by rfl)
  (h1:(assignEach [tg] X.env).map (·.2)=[assign tg X.env]:=by rfl):PS X (.Assign [tg] e pos) (Iq te g):=by
 intro pins s σ H D I h
 refine wpAny_Assign_stores (cq (he pins s σ H _ I h) λv s1 ⟨x,H1,I1,r1,q1⟩=>?_) hs hw
 rw [h1]
 exact cq (hg pins s1 σ H1 x v _ I1 r1 q1) λ_ s2 q=>q
theorem Uq(hN:X.N.Nodup)(hi:X.N[i]?=some x)(hx:Loc X.env.scope x)(he:PE X e te)(hs:swapsWith e (some (.Name x pos')) pos.line X.env=pure false:=by rfl)(hf:X.fn x=true\/X.env.scope.names.lookup x=some .local:=by first | exact .inl rfl | exact .inr rfl | assumption):
  PS X (.Assign [.Name x pos'] e pos) (Iq te (YE i)):=by
 intro pins s σ H D I h
 refine wpAny_Assign_Name (cq (he pins s σ H _ I h) λv s1 ⟨y,H1,I1,r1,q1⟩=>?_) hs
 exact U9 I1 hN hi hx r1 (λs2 I2=>⟨_,H1,I2,q1⟩) hf
def Qq(i:Nat)(te:TE)(ti:Ww):TS:=λD σ H=>∃x,σ[i]?=some (some x)/\te σ H λy H1=>ti x y H1 λz H2=>D.nx (σ.set i (some z)) H2
theorem b8h(hN:X.N.Nodup)(hi:X.N[i]?=some x)(hx:Loc X.env.scope x)(he:PE X e te)(ho:PIp X op ti)(hf:X.fn x=true\/X.env.scope.names.lookup x=some .local:=by first | exact .inl rfl | exact .inr rfl | assumption):
  PS X (.AugAssign (.Name x pos') op e pos) (Qq i te ti):=by
 intro pins s σ H D I h
 obtain ⟨v,e1,h⟩:=h
 obtain ⟨m,hn,hl⟩:=I.loc
 have r0:jS X.env.scope x:=by rcases hx with k | k;exact .inl k;exact .inr (.inl k)
 obtain ⟨u,r,l⟩:=hl i x v hi e1 r0
 refine wpAny_AugAssign_Name ?_
 have go:wpAny (model X.prog X.w) X.A (eval e X.env) (λw dM=>wpAny (model X.prog X.w) X.A (inplaceOp op u w) (λr pV=>wpAny (model X.prog X.w) X.A (storeName X.env x r) (λ_=>SP X pins D .next) X.xe pV) X.xe dM) X.xe s:=by
  refine cq (he pins s σ H _ I h) λw s1 ⟨y,H1,I1,r1,q1⟩=>?_
  refine cq (ho pins s1 σ H1 v y u w _ I1 r r1 q1) λz s2 ⟨zv,H2,I2,r2,q2⟩=>?_
  exact U9 I2 hN hi hx r2 (λs3 I3=>⟨_,H2,I3,q2⟩) hf
 rcases l with ⟨hk,hm⟩ | ⟨hk,c,hc,kn⟩
 .exact wpAny_loadName_local I.ok.kind hk hn hm go
 .rcases hk with hk | hk
  .exact wpAny_loadName_cell I.ok.kind hk hc kn go
  .rcases hx with k | k
   .have:X.env.scope.names.lookup x=some .free:=hk
    rw [k] at this;cases this
   .have:X.env.scope.names.lookup x=some .free:=hk
    rw [k] at this;cases this
def ipI(f:Int->Int->Int):Ww:=λx y H Q=>∃i j,x=.int i/\y=.int j/\Q (.int (f i j)) H
theorem b8S:PIp X .Add (ipI λi j=>i+j):=by
 intro pins s σ H x y v u Q I r1 r2 h
 obtain ⟨i,j,e1,e2,q⟩:=h
 subst e1;subst e2
 obtain ⟨t,rfl⟩:=r1
 obtain ⟨t',rfl⟩:=r2
 exact iadd_int ⟨.int _,H,I.tok _,⟨_,rfl⟩,q⟩
end
section
variable {X:Cx}{pos:Pos}
def b7Y(c:TT)(tb:TS):TS:=λD σ H=>∃W:Nat->St->Hp->Prop,(∃m,W m σ H)/\∀m σ H,W m σ H ->
 c σ H λb H1=>if b=true then ∃N:St->Hp->Prop,(∀bz H',N bz H'->∃m',m'<m/\W m' bz H')/\tb { D with nx:=N,ct:=N,bk:=D.nx } σ H1 else D.nx σ H1
theorem b3L(hp:PassesOwn (model X.prog X.w) X.A X.env X.xe)(hc:PT X c tc)(hb:rT X body tb):PS X (.While c body [] pos) (b7Y tc tb):=by
 intro pins s σ H D I h
 obtain ⟨W,⟨m0,w0⟩,turn⟩:=h
 refine wpAny_While (codeAny_whileLoop (λn s'=>∃bz H',Inv X pins bz H' s'/\W n bz H') ?_ m0 ⟨σ,H,I,w0⟩)
 rintro n s1 ⟨nv,H1,I1,w1⟩
 refine FN hp (cq (hc pins s1 nv H1 _ I1 (turn n nv H1 w1)) λb s2 ⟨H2,I2,q2⟩=>?_)
 cases b with
 | true =>
  obtain ⟨N,hN,q2⟩:=q2
  rw [if_pos rfl]
  refine FN hp (cq (hb pins s2 nv H2 _ I2 q2) λf s3 q3=>?_)
  cases f with
  | next =>
   obtain ⟨nE,H3,I3,n3⟩:=q3
   obtain ⟨m',hm,w3⟩:=hN nE H3 n3
   exact ⟨m',hm,nE,H3,I3,w3⟩
  | cont =>
   obtain ⟨nE,H3,I3,n3⟩:=q3
   obtain ⟨m',hm,w3⟩:=hN nE H3 n3
   exact ⟨m',hm,nE,H3,I3,w3⟩
  | brk=>exact q3
  | ret v=>exact q3
 | false =>
  rw [if_neg vM]
  exact Ni ⟨nv,H2,I2,q2⟩
end
structure It where
 go:Nat->Hp->Prop
 Ey:Nat->Hp->V->Hp->Prop
 stop:Nat->Hp->Prop
def mm(X:Cx)(pins:List (Addr×Obj))(H:Hp)(b:Addr):Prop:=
 H b=none/\b≠X.env.locals/\b∉X.fs/\(b∈X.ex\/X.fQ.heap.objs.size<=b)/\(∀x c,X.env.cells.lookup x=some c->c≠b)/\∀p∈X.pn++pins,p.1≠b
theorem Inv.Aq{X:Cx}{pins:List (Addr×Obj)}{σ:St}{H H':Hp}{s:Shared}{b:Addr}(I:Inv X pins σ H s)(hb:s.heap.objs.size<=b)(hn:H' b=none):mm X pins H' b:=by
 refine ⟨hn,KP (o3 I.lt hb),I.QN hb,.inr (l9 I.sz hb),λx c e z=>?_,λp hp z=>?_⟩
 .obtain ⟨v,q⟩:=I.cell x c e
  exact absurd (o3 q.lt (by rw [z];exact hb)) (AB _)
 .exact absurd (o3 (fI (I.pin p hp).1) (by rw [z];exact hb)) (AB _)
structure Turn(P:Program)(w:World)(K:aQ)(tg:Expr)(J:It)(fp:List Addr)(it:Addr)(tn:Nat->Heap->Prop):Prop where
 mem:it∈fp
 obj:∀i h,tn i h->∀b∈fp,∃o,h.get? b=some o/\∀v,o.data≠.cell v
 keep:∀i h h',tn i h->(∀b∈fp,∀o,h.get? b=some o->h'.get? b=some o)->tn i h'
 item:∀(X:Cx),X.prog=P->X.w=w->X.K=K->X.calm=true->∀(i:Nat) (pins:List (Addr×Obj)) (s:Shared) (σ:St) (H:Hp) (E:Value->Shared->Prop),Inv X pins σ H s->(∀b∈fp,mm X pins H b)->tn i s.heap->J.go i H ->
  wpAny (model P w) X.A (pyNext (.ref it)) (λr s1=>∃u,r=some u /\
   wpAny (model P w) X.A (letOwnedTupleGo tg (.ref it) u) (λ_ s2=>∃x H',Inv X pins σ H' s2/\RelV x u/\J.Ey i H x H'/\tn (i+1) s2.heap/\∀b∈fp,H' b=none) E s1) E s
 done:∀(X:Cx),X.prog=P->X.w=w->X.K=K->X.calm=true->∀(i:Nat) (pins:List (Addr×Obj)) (s:Shared) (σ:St) (H:Hp) (E:Value->Shared->Prop),Inv X pins σ H s->(∀b∈fp,mm X pins H b)->tn i s.heap->J.stop i H ->
  wpAny (model P w) X.A (pyNext (.ref it)) (λr s1=>r=none/\Inv X pins σ H s1) E s
 self:∀(A:Around) (i:Nat) (s:Shared) (Q:Value->Shared->Prop) (E:Value->Shared->Prop),tn i s.heap->Q (.ref it) s->wpAny (model P w) A (pyIter (.ref it)) Q E s
abbrev TI:=St->Hp->(It->Hp->Prop)->Prop
def Wx(X:Cx)(pins:List (Addr×Obj))(σ:St)(tg:Expr)(R:It->Hp->Prop)(Q2:Value)(s2:Shared):Prop:=
 ∃(it:Addr) (fp:List Addr) (tn:Nat->Heap->Prop) (J:It) (H':Hp),Q2=.ref it/\Inv X pins σ H' s2/\Turn X.prog X.w X.K tg J fp it tn/\tn 0 s2.heap/\(∀b∈fp,mm X pins H' b)/\R J H'
def PI(X:Cx)(tg iter:Expr)(wi:TI):Prop:=
 ∀(pins:List (Addr×Obj)) (s:Shared) (σ:St) (H:Hp) (R:It->Hp->Prop),Inv X pins σ H s->wi σ H R ->
  wpAny (model X.prog X.w) X.A (eval iter X.env) (λv s1=>wpAny (model X.prog X.w) X.A (pyIter v) (Wx X pins σ tg R) X.xe s1) X.xe s
theorem NT(ho:s.heap.get? it=some o)(hc:o.cls=.type n)(hd:o.data=.fields vs)
  (hn:["enumerate","zip","dict_itemiterator","dict_reverseitemiterator","odict_iterator","itertools.zip_longest","itertools.pairwise"].contains n=false)(hQ:Q () s):wpAny M A (letOwnedTupleGo tg (.ref it) u) Q E s:=by
 unfold letOwnedTupleGo
 cases tg<;>first
  | exact cp hQ
  | (cases u<;>first
    | exact cp hQ
    | (refine aM (wpAny_load ho ?_)
       rw [hc,hd]
       show wpAny M A (if (["enumerate","zip","dict_itemiterator","dict_reverseitemiterator","odict_iterator","itertools.zip_longest","itertools.pairwise"].contains n&&vs[0]?==some (rawInt _))=true then _ else _) Q E s
       rw [if_neg (by intro h;rw [hn,Bool.false_and] at h;cases h)]
       exact cp hQ))
def Mq(K:aQ)(a:Addr):It:=
 ⟨λi H=>∃xs x,jm K H a xs/\xs[i]?=some x,λi H x H'=>H'=H/\∀xs,jm K H a xs->xs[i]?=some x,λi H=>∃xs,jm K H a xs/\xs.length<=i⟩
def Mp(K:aQ)(a:Addr):It:=
 ⟨λi H=>∃xs x,kK K H a xs/\xs[i]?=some x,λi H x H'=>H'=H/\∀xs,kK K H a xs->xs[i]?=some x,λi H=>∃xs,kK K H a xs/\xs.length<=i⟩
def v9(lo:Int)(n:Nat):It:=⟨λi _=>i<n,λi H x H'=>H'=H/\x=.int (lo+i),λi _=>n<=i⟩
theorem b1D{P:Program}{w:World}{K:aQ}{tg:Expr}(a it:Addr):Turn P w K tg (Mq K a) [it] it (λi h=>h.IsListIter it a i) where
 mem:=by simp
 obj:=λi h st b hb=>by
  have e:b=it:=by simpa using hb
  subst e
  obtain ⟨o,e,c,d⟩:=st
  exact ⟨o,e,λv z=>by rw [d] at z;cases z⟩
 keep:=λi h h' st k=>st.at λo e=>k it (by simp) o e
 item:=by
  intro X hP hw hK hc i pins s σ H E I hf st hg
  subst hP hw hK
  obtain ⟨xs,x,hq,hx⟩:=hg
  obtain ⟨aD,rv,p,hz⟩:=I.list hq
  obtain ⟨u,hu,ru⟩:=rv.get hx
  obtain ⟨f0,f1,f2,f3,f4,f5⟩:=hf it (by simp)
  refine wpAny_pyNext_list_item st p.isList (x:=u) (by simpa using hu) λh' aA sb=>?_
  have I1:Inv X pins σ H { s with heap:=h' }:=I.turned (t':=s.toks) (λb o hb e=>(sb.2 b hb).trans e) f0 f1 f3 f4 f5
  obtain ⟨o,e,c,d⟩:=id aA
  exact ⟨u,rfl,NT (s:={ s with heap:=h' }) e c d (by decide) ⟨x,H,I1,ru,⟨rfl,λys hy=>by rw [I.qb hy hq];exact hx⟩,aA,λb hb=>(hf b hb).1⟩⟩
 done:=by
  intro X hP hw hK hc i pins s σ H E I hf st hg
  subst hP hw hK
  obtain ⟨xs,hq,hx⟩:=hg
  obtain ⟨aD,rv,p,hz⟩:=I.list hq
  obtain ⟨f0,f1,f2,f3,f4,f5⟩:=hf it (by simp)
  have hl:=rv.length
  exact wpAny_pyNext_list_end (I.ok.hd hc) st p.isList (by simp;ext hx hl) λh' eb=>⟨rfl,I.turned (t':=s.toks) (λb o hb e=>eb b o hb e) f0 f1 f3 f4 f5⟩
 self:=λ_ _ _ _ _ st h=>wpAny_pyIter_listiter st h
theorem b0V{P:Program}{w:World}{K:aQ}{tg:Expr}(a it:Addr):Turn P w K tg (Mp K a) [it] it (λi h=>h.IsTupleIter it a i) where
 mem:=by simp
 obj:=λi h st b hb=>by
  have e:b=it:=by simpa using hb
  subst e
  obtain ⟨o,e,c,d⟩:=st
  exact ⟨o,e,λv z=>by rw [d] at z;cases z⟩
 keep:=λi h h' st k=>st.at λo e=>k it (by simp) o e
 item:=by
  intro X hP hw hK hc i pins s σ H E I hf st hg
  subst hP hw hK
  obtain ⟨xs,x,hq,hx⟩:=hg
  obtain ⟨aD,rv,p,hz⟩:=I.tuple hq
  obtain ⟨u,hu,ru⟩:=rv.get hx
  obtain ⟨f0,f1,f2,f3,f4,f5⟩:=hf it (by simp)
  refine wpAny_pyNext_tuple_item st (show s.heap.IsTuple a aD.toArray from p) (x:=u) (by simpa using hu) λh' aA sb=>?_
  have I1:Inv X pins σ H { s with heap:=h' }:=I.turned (t':=s.toks) (λb o hb e=>(sb.2 b hb).trans e) f0 f1 f3 f4 f5
  obtain ⟨o,e,c,d⟩:=id aA
  exact ⟨u,rfl,NT (s:={ s with heap:=h' }) e c d (by decide) ⟨x,H,I1,ru,⟨rfl,λys hy=>by rw [I.nZ hy hq];exact hx⟩,aA,λb hb=>(hf b hb).1⟩⟩
 done:=by
  intro X hP hw hK hc i pins s σ H E I hf st hg
  subst hP hw hK
  obtain ⟨xs,hq,hx⟩:=hg
  obtain ⟨aD,rv,p,hz⟩:=I.tuple hq
  obtain ⟨f0,f1,f2,f3,f4,f5⟩:=hf it (by simp)
  have hl:=rv.length
  exact wpAny_pyNext_tuple_end (I.ok.hd hc) st (show s.heap.IsTuple a aD.toArray from p) (by simp;ext hx hl) λh' eb=>⟨rfl,I.turned (t':=s.toks) (λb o hb e=>eb b o hb e) f0 f1 f3 f4 f5⟩
 self:=λ_ _ _ _ _ st h=>wpAny_pyIter_tupleiter st h
theorem a7t{P:Program}{w:World}{K:aQ}{tg:Expr}(it:Addr)(lo:Int)(n:Nat):Turn P w K tg (v9 lo n) [it] it (λi h=>IsRangeIter h it (lo+(i:Nat)*1) ((n:Int)-(i:Nat)) 1) where
 mem:=by simp
 obj:=λi h st b hb=>by
  have e:b=it:=by simpa using hb
  subst e
  exact ⟨_,st,λv z=>by
   have z':Data.fields _=Data.cell v:=z
   cases z'⟩
 keep:=λi h h' st k=>k it (by simp) _ st
 item:=by
  intro X hP hw hK hc i pins s σ H E I hf st hg
  subst hP hw hK
  obtain ⟨f0,f1,f2,f3,f4,f5⟩:=hf it (by simp)
  have W:=Walks.range (prog:=X.prog) (w:=X.w) (I.ok.hd hc) it lo 1 n
  refine W.item i s _ _ hg st λv h' tk hv aA kk=>?_
  obtain ⟨t,rfl⟩:=hv
  have I1:Inv X pins σ H { s with heap:=h',toks:=tk }:=I.turned (λb o hb e=>kk b o (by simpa using hb) e) f0 f1 f3 f4 f5
  refine ⟨_,rfl,NT (s:={ s with heap:=h',toks:=tk }) (n:="range_iterator") aA rfl rfl (by decide) ⟨.int (lo+i),H,I1,⟨t,?_⟩,⟨rfl,rfl⟩,aA,λb hb=>(hf b hb).1⟩⟩
  rw [Sh]
 done:=by
  intro X hP hw hK hc i pins s σ H E I hf st hg
  subst hP hw hK
  obtain ⟨f0,f1,f2,f3,f4,f5⟩:=hf it (by simp)
  exact wpAny_pyNext_range_end (I.ok.hd hc) st (by have:n<=i:=hg;ext this) λh' eb=>⟨rfl,I.turned (t':=s.toks) (λb o hb e=>eb b o hb e) f0 f1 f3 f4 f5⟩
 self:=λ_ _ _ _ _ st h=>wpAny_pyIter_rangeiter st h
end L2
namespace L2
open PySem PySem.Spec PyProof.Rows
section
variable {X:Cx}{tg:Expr}
theorem b3H{pins:List (Addr×Obj)}{σ:St}{H:Hp}{s:Shared}{R:It->Hp->Prop}{E:Value->Shared->Prop}{lo hi:Int}{t u v:Tok}{tk:Nat}(I:Inv X pins σ H s)(h1:-(2^62)<=lo)(h2:lo<2^62)(h3:-(2^62)<=hi)(h4:hi<2^62)
  (q:R (v9 lo (hi-lo).toNat) H):wpAny (model X.prog X.w) X.A (pyIter (.ref s.heap.objs.size)) (Wx X pins σ tg R) E { s with heap:=s.heap.push { cls:=.type "range",data:=.fields #[.int lo t,.int hi u,.int 1 v] },toks:=tk }:=by
 refine wpAny_pyIter_range (Sg ..) (small_one h1 h2 h3 h4) ?_
 have I1:Inv X pins σ H { s with heap:=s.heap.push { cls:=.type "range",data:=.fields #[.int lo t,.int hi u,.int 1 v] },toks:=tk }:=I.kept λb o e=>gg _ e
 refine ⟨(s.heap.push { cls:=.type "range",data:=.fields #[.int lo t,.int hi u,.int 1 v] }).objs.size,[(s.heap.push { cls:=.type "range",data:=.fields #[.int lo t,.int hi u,.int 1 v] }).objs.size],_,_,H,rfl,
  I1.kept (t':=tk) λb o e=>gg _ e,a7t _ lo (hi-lo).toNat,?_,λb hb=>?_,q⟩
 .have e1:lo+((0:Nat):Int)*1=lo:=by simp
  have e2:(((hi-lo).toNat:Nat):Int)-((0:Nat):Int)=X4 lo hi 1:=by rw [rangeSize_one];split<;>lia
  show IsRangeIter _ _ (lo+((0:Nat):Int)*1) ((((hi-lo).toNat:Nat):Int)-((0:Nat):Int)) 1
  rw [e1,e2]
  exact lO _ rfl
 .have e:b=(s.heap.push { cls:=.type "range",data:=.fields #[.int lo t,.int hi u,.int 1 v] }).objs.size:=by simpa using hb
  subst e
  exact I1.Aq (cT _) (I1.cw.fresh (cT _))
def JG(ta:TA):TI:=λσ H R=>ta σ H λvs H1=>∃j:Int,vs=[.int j] /\ -(2^62)<=j/\j<2^62/\R (v9 0 j.toNat) H1
theorem b11(hg:Gl X "range")(hm:X.mg "range" = none)(ha:PA X [a] ta)(hs:starEach [a] X.env=[(false,eval a X.env)]:=by rfl):PI X tg (.Call (.Name "range" p) [a] [] pos) (JG ta):=by
 intro pins s σ H R I h
 refine Call_ (F5 I hg hm boot_range (NL (cq (ha pos pins s σ H _ I h) λus s1 ⟨vs,H1,I1,r1,q1⟩=>?_) hs rfl))
 obtain ⟨j,e,q1,q2,q⟩:=q1
 subst e
 cases r1 with
 | cons r rr =>
  cases rr
  obtain ⟨t,rfl⟩:=r
  exact call_range_1 (b3H I1 (by decide) (by decide) q1 q2 (by simpa using q))
def Qn(wi:TI)(g:TG)(tb:TS):TS:=λD σ H=>wi σ H λJ H1=>∃W:Nat->Nat->St->Hp->Prop,(∃m,W 0 m σ H1)/\∀i m σ H,W i m σ H ->
 (J.stop i H/\D.nx σ H)\/(J.go i H/\∃N:St->Hp->Prop,(∀bz H',N bz H'->∃m',m'<m/\W (i+1) m' bz H')/\∀x H',J.Ey i H x H'->g x σ H' λfO H2=>tb { D with nx:=N,ct:=N,bk:=D.nx } fO H2)
def Dh(fp:List Addr)(h:Heap):List (Addr×Obj):=fp.filterMap λb=>(h.get? b).map λo=>(b,o)
theorem L6(hb:b∈fp)(e:h.get? b=some o):(b,o)∈Dh fp h:=X8.mpr ⟨b,hb,by rw [e];rfl⟩
theorem Vi(hp:p∈Dh fp h):p.1∈fp/\h.get? p.1=some p.2:=by
 obtain ⟨b,hb,e⟩:=X8.mp hp
 cases q:h.get? b with
 | none=>rw [q] at e;cases e
 | some o =>
  rw [q] at e
  have e':(b,o)=p:=gz e
  subst e'
  exact ⟨hb,q⟩
theorem Inv.pinned{pins:List (Addr×Obj)}{σ:St}{H:Hp}{s:Shared}{fp:List Addr}(I:Inv X pins σ H s)(hf:∀b∈fp,mm X pins H b)(ho:∀b∈fp,∃o,s.heap.get? b=some o/\∀v,o.data≠.cell v):Inv X (pins++Dh fp s.heap) σ H s:=
 I.j6 λp hp=>(nj.mp hp).elim (λz=>I.pin p (zk _ z)) λz=>by
  obtain ⟨hb,e⟩:=Vi z
  obtain ⟨f0,f1,f2,_⟩:=hf p.1 hb
  obtain ⟨o,e',d⟩:=ho p.1 hb
  rw [e] at e';cases e'
  exact ⟨e,f0,f1,f2,d⟩
theorem Inv.mL{pins pl:List (Addr×Obj)}{σ:St}{H:Hp}{s:Shared}(I:Inv X (pins++pl) σ H s):Inv X pins σ H s:=I.j6 λp hp=>I.pin p (zk _ (D2 _ hp))
theorem Uo(hp:PassesOwn (model X.prog X.w) X.A X.env X.xe)(hc:X.calm=true)(hi:PI X tg iter wi)(hg:PG X tg g)(hb:rT X body tb)
  (hs:∀x,foldedSetIterable iter X.env x=pure x:=by intro _;rfl):PS X (.For tg iter body [] pos) (Qn wi g tb):=by
 intro pins s σ H D I h
 refine wpAny_For (cq (hi pins s σ H _ I h) λv s1 h1=>cq h1 λQ2 s2 h2=>?_) hs
 obtain ⟨it,fp,tn,J,H2,e,I2,T,jZ,f2,W,⟨m0,w0⟩,turn⟩:=h2
 subst e
 have EF:∀{H':Hp},(∀b∈fp,H' b=none)->∀b∈fp,mm X pins H' b:=λhn b hb=>⟨hn b hb,(f2 b hb).2⟩
 refine codeAny_forLoop_any (λn s'=>∃i bz H',Inv X pins bz H' s'/\tn i s'.heap/\(∀b∈fp,H' b=none)/\W i n bz H') ?_ m0 ⟨0,σ,H2,I2,jZ,λb hb=>(f2 b hb).1,w0⟩
 rintro n s3 ⟨i,nE,H3,I3,qS,Kh,w3⟩
 rcases turn i n nE H3 w3 with ⟨stop,qn⟩ | ⟨go,N,hN,step⟩
 .refine FN hp (cq (T.done X rfl rfl rfl hc i pins s3 nE H3 X.xe I3 (EF Kh) qS stop) λr s4 ⟨hr,I4⟩=>?_)
  subst hr
  exact Ni ⟨nE,H3,I4,qn⟩
 .refine FN hp (cq (T.item X rfl rfl rfl hc i pins s3 nE H3 X.xe I3 (EF Kh) qS go) λr s4 ⟨u,hr,h4⟩=>?_)
  subst hr
  refine FN hp (cq h4 λ_ s5 ⟨x,H5,I5,r5,y5,EG,RJ⟩=>?_)
  have Wz:=I5.pinned (EF RJ) (T.obj _ _ EG)
  refine FN hp (cq (hg _ s5 nE H5 x u _ Wz r5 (step x H5 y5)) λ_ s6 ⟨qR,H6,I6,q6⟩=>?_)
  refine FN hp (cq (hb _ s6 qR H6 _ I6 q6) λf s7 q7=>?_)
  have again:∀{zE:St} {H7:Hp},Inv X (pins++Dh fp s5.heap) zE H7 s7->N zE H7->∃m,m<n/\∃i bz H',Inv X pins bz H' s7/\tn i s7.heap/\(∀b∈fp,H' b=none)/\W i m bz H':=λ{zE H7} I7 n7=>by
   obtain ⟨m',hm,w7⟩:=hN zE H7 n7
   refine ⟨m',hm,i+1,zE,H7,I7.mL,T.keep _ _ _ EG λb hb o e=>(I7.pin (b,o) (zk _ (zk _ (L6 hb e)))).1,λb hb=>?_,w7⟩
   obtain ⟨o,e,d⟩:=T.obj _ _ EG b hb
   exact (I7.pin (b,o) (zk _ (zk _ (L6 hb e)))).2.1
  cases f with
  | next=>obtain ⟨zE,H7,I7,n7⟩:=q7;exact again I7 n7
  | cont=>obtain ⟨zE,H7,I7,n7⟩:=q7;exact again I7 n7
  | brk=>obtain ⟨zE,H7,I7,q7⟩:=q7;exact ⟨zE,H7,I7.mL,q7⟩
  | ret v=>obtain ⟨x7,zE,H7,I7,r7,q7⟩:=q7;exact ⟨x7,zE,H7,I7.mL,r7,q7⟩
end
theorem b4l{K:aQ}{a:Addr}{xs:List V}{g:TG}{tb:TS}{D:Ends}{σ:St}{H:Hp}(Pv:Nat->St->Hp->Prop)(h0:Pv 0 σ H)(hl:∀i σ H,i<=xs.length->Pv i σ H->jm K H a xs)
  (hs:∀i x σ H,xs[i]?=some x->Pv i σ H->g x σ H λfO H2=>tb { D with nx:=Pv (i+1),ct:=Pv (i+1),bk:=D.nx } fO H2)(hd:∀σ H,Pv xs.length σ H->D.nx σ H):
  ∃W:Nat->Nat->St->Hp->Prop,(∃m,W 0 m σ H)/\∀i m σ H,W i m σ H ->
   ((Mq K a).stop i H/\D.nx σ H)\/((Mq K a).go i H/\∃N:St->Hp->Prop,(∀bz H',N bz H'->∃m',m'<m/\W (i+1) m' bz H')/\∀x H',(Mq K a).Ey i H x H'->g x σ H' λfO H2=>tb { D with nx:=N,ct:=N,bk:=D.nx } fO H2):=by
 refine ⟨λi m σ H=>m=xs.length-i/\i<=xs.length/\Pv i σ H,⟨xs.length,by simp,AE _,h0⟩,?_⟩
 rintro i m σ H ⟨rfl,hi,p⟩
 have q:=hl i σ H hi p
 by_cases cU:i<xs.length
 .refine .inr ⟨⟨xs,xs[i],q,by simp [cU]⟩,Pv (i+1),λbz H' p'=>⟨xs.length-(i+1),by ext cU,rfl,cU,p'⟩,λx H' y=>?_⟩
  obtain ⟨e,y⟩:=y
  subst e
  exact hs i x σ _ (y xs q) p
 .have e:i=xs.length:=by ext hi cU
  subst e
  exact .inl ⟨⟨xs,q,cT _⟩,hd σ H p⟩
theorem b6G{K:aQ}{a:Addr}{xs:List V}{g:TG}{tb:TS}{D:Ends}{σ:St}{H:Hp}(Pv:Nat->St->Hp->Prop)(h0:Pv 0 σ H)(hl:∀i σ H,i<=xs.length->Pv i σ H->kK K H a xs)
  (hs:∀i x σ H,xs[i]?=some x->Pv i σ H->g x σ H λfO H2=>tb { D with nx:=Pv (i+1),ct:=Pv (i+1),bk:=D.nx } fO H2)(hd:∀σ H,Pv xs.length σ H->D.nx σ H):
  ∃W:Nat->Nat->St->Hp->Prop,(∃m,W 0 m σ H)/\∀i m σ H,W i m σ H ->
   ((Mp K a).stop i H/\D.nx σ H)\/((Mp K a).go i H/\∃N:St->Hp->Prop,(∀bz H',N bz H'->∃m',m'<m/\W (i+1) m' bz H')/\∀x H',(Mp K a).Ey i H x H'->g x σ H' λfO H2=>tb { D with nx:=N,ct:=N,bk:=D.nx } fO H2):=by
 refine ⟨λi m σ H=>m=xs.length-i/\i<=xs.length/\Pv i σ H,⟨xs.length,by simp,AE _,h0⟩,?_⟩
 rintro i m σ H ⟨rfl,hi,p⟩
 have q:=hl i σ H hi p
 by_cases cU:i<xs.length
 .refine .inr ⟨⟨xs,xs[i],q,by simp [cU]⟩,Pv (i+1),λbz H' p'=>⟨xs.length-(i+1),by ext cU,rfl,cU,p'⟩,λx H' y=>?_⟩
  obtain ⟨e,y⟩:=y
  subst e
  exact hs i x σ _ (y xs q) p
 .have e:i=xs.length:=by ext hi cU
  subst e
  exact .inl ⟨⟨xs,q,cT _⟩,hd σ H p⟩
theorem b2N{lo:Int}{n:Nat}{g:TG}{tb:TS}{D:Ends}{σ:St}{H:Hp}(Pv:Nat->St->Hp->Prop)(h0:Pv 0 σ H)
  (hs:∀i σ H,i<n->Pv i σ H->g (.int (lo+i)) σ H λfO H2=>tb { D with nx:=Pv (i+1),ct:=Pv (i+1),bk:=D.nx } fO H2)(hd:∀σ H,Pv n σ H->D.nx σ H):
  ∃W:Nat->Nat->St->Hp->Prop,(∃m,W 0 m σ H)/\∀i m σ H,W i m σ H ->
   ((v9 lo n).stop i H/\D.nx σ H)\/((v9 lo n).go i H/\∃N:St->Hp->Prop,(∀bz H',N bz H'->∃m',m'<m/\W (i+1) m' bz H')/\∀x H',(v9 lo n).Ey i H x H'->g x σ H' λfO H2=>tb { D with nx:=N,ct:=N,bk:=D.nx } fO H2):=by
 refine ⟨λi m σ H=>m=n-i/\i<=n/\Pv i σ H,⟨n,by simp,AE _,h0⟩,?_⟩
 rintro i m σ H ⟨rfl,hi,p⟩
 by_cases cU:i<n
 .refine .inr ⟨cU,Pv (i+1),λbz H' p'=>⟨n-(i+1),by ext cU,rfl,cU,p'⟩,λx H' y=>?_⟩
  obtain ⟨e,y⟩:=y
  subst e y
  exact hs i σ _ cU p
 .have e:i=n:=by ext hi cU
  subst e
  exact .inl ⟨cT _,hd σ H p⟩
end L2
namespace L2
open PySem PySem.Spec PyProof.Rows
abbrev R2:=V->V->Hp->VK->Prop
def lJ(X:Cx)(f:Value->Value->Sem Value)(r:R2):Prop:=
 ∀(pins:List (Addr×Obj)) (s:Shared) (σ:St) (H:Hp) (x y:V) (v u:Value) (Q:VK),Inv X pins σ H s->RelV x v->RelV y u->r x y H Q ->
  wpAny (model X.prog X.w) X.A (f v u) (EP X pins σ Q) X.xe s
def Wu(X:Cx)(f:Value->Sem Value)(r:V->Hp->VK->Prop):Prop:=
 ∀(pins:List (Addr×Obj)) (s:Shared) (σ:St) (H:Hp) (x:V) (v:Value) (Q:VK),Inv X pins σ H s->RelV x v->r x H Q ->
  wpAny (model X.prog X.w) X.A (f v) (EP X pins σ Q) X.xe s
def ud(X:Cx)(f:Value)(r:List V->Hp->VK->Prop):Prop:=
 ∀(pins:List (Addr×Obj)) (s:Shared) (σ:St) (H:Hp) (xs:List V) (us:List Value) (Q:VK),Inv X pins σ H s->aV xs us->r xs H Q ->
  wpAny (model X.prog X.w) X.A (call f us) (EP X pins σ Q) X.xe s
def Wv(X:Cx)(r:V->Hp->(Bool->Hp->Prop)->Prop):Prop:=
 ∀(pins:List (Addr×Obj)) (s:Shared) (σ:St) (H:Hp) (x:V) (v:Value) (Q:Bool->Hp->Prop),Inv X pins σ H s->RelV x v->r x H Q ->
  wpAny (model X.prog X.w) X.A (truthy v) (TP X pins σ Q) X.xe s
def Ih(r:R2)(ta tb:TE):TE:=λσ H Q=>ta σ H λx H1=>tb σ H1 λy H2=>r x y H2 Q
def tUn(r:V->Hp->VK->Prop)(ta:TE):TE:=λσ H Q=>ta σ H λx H1=>r x H1 Q
def rI(C:Int->Int->Prop)(g:Int->Int->V):R2:=λx y H Q=>∃i j,x=.int i/\y=.int j/\C i j/\Q (g i j) H
def EO(g:Int->Int->V):R2:=λx y H Q=>∃i j,x=.int i/\y=.int j/\Q (g i j) H
def rU(g:Int->V):V->Hp->VK->Prop:=λx H Q=>∃i,x=.int i/\Q (g i) H
section
variable {X:Cx}{a b c:Expr}{ta tb tc:TE}{pos:Pos}
theorem FT(ha:PE X a ta)(hb:PE X b tb){pins:List (Addr×Obj)}{s:Shared}{σ:St}{H:Hp}{R:V->V->Hp->Prop}(I:Inv X pins σ H s)
  (h:ta σ H λx H1=>tb σ H1 λy H2=>R x y H2){Q:Value->Shared->Prop}{f:Value->Value->Sem Value}
  (hf:∀v u s2 x y H2,Inv X pins σ H2 s2->RelV x v->RelV y u->R x y H2->wpAny (model X.prog X.w) X.A (f v u) Q X.xe s2):
  wpAny (model X.prog X.w) X.A (eval a X.env) (λv bA=>wpAny (model X.prog X.w) X.A (eval b X.env) (λu dM=>wpAny (model X.prog X.w) X.A (f v u) Q X.xe dM) X.xe bA) X.xe s:=by
 refine cq (ha pins s σ H _ I h) λv s1 ⟨x,H1,I1,r1,q1⟩=>?_
 refine cq (hb pins s1 σ H1 _ I1 q1) λu s2 ⟨y,H2,I2,r2,q2⟩=>?_
 exact hf v u s2 x y H2 I2 r1 r2 q2
theorem IZ(ho:lJ X (binaryOp op) r)(ha:PE X a ta)(hb:PE X b tb):PE X (.BinOp a op b pos) (Ih r ta tb):=by
 intro pins s σ H Q I h
 exact wpAny_BinOp (FT ha hb I h λv u s2 x y H2 I2 rx ry q=>ho pins s2 σ H2 x y v u Q I2 rx ry q)
theorem IX(ho:Wu X (unaryOp op) r)(ha:PE X a ta):PE X (.UnaryOp op a pos) (tUn r ta):=by
 intro pins s σ H Q I h
 exact UnaryOp_ (cq (ha pins s σ H _ I h) λv s1 ⟨x,H1,I1,r1,q1⟩=>ho pins s1 σ H1 x v Q I1 r1 q1)
theorem Jf{f:Value->Value->Sem Value}{C:Int->Int->Prop}{g:Int->Int->Int}
  (rule:∀(i j:Int) (t u:Tok) (s:Shared) (Q:Value->Shared->Prop) (E:Value->Shared->Prop),C i j->Q (.int (g i j) s.toks) { s with toks:=s.toks+1 }->wpAny (model X.prog X.w) X.A (f (.int i t) (.int j u)) Q E s):
  lJ X f (rI C λi j=>.int (g i j)):=by
 intro pins s σ H x y v u Q I rx ry h
 obtain ⟨i,j,rfl,rfl,hc,q⟩:=h
 obtain ⟨t,rfl⟩:=rx
 obtain ⟨t',rfl⟩:=ry
 exact rule i j t t' s _ _ hc ⟨.int (g i j),H,I.tok _,⟨_,rfl⟩,q⟩
theorem QJ{f:Value->Value->Sem Value}{g:Int->Int->Int}
  (rule:∀(i j:Int) (t u:Tok) (s:Shared) (Q:Value->Shared->Prop) (E:Value->Shared->Prop),Q (.int (g i j) s.toks) { s with toks:=s.toks+1 }->wpAny (model X.prog X.w) X.A (f (.int i t) (.int j u)) Q E s):
  lJ X f (EO λi j=>.int (g i j)):=by
 intro pins s σ H x y v u Q I rx ry h
 obtain ⟨i,j,rfl,rfl,q⟩:=h
 obtain ⟨t,rfl⟩:=rx
 obtain ⟨t',rfl⟩:=ry
 exact rule i j t t' s _ _ ⟨.int (g i j),H,I.tok _,⟨_,rfl⟩,q⟩
theorem EU{f:Value->Value->Sem Value}{g:Int->Int->Bool}
  (rule:∀(i j:Int) (t u:Tok) (s:Shared) (Q:Value->Shared->Prop) (E:Value->Shared->Prop),Q (.bool (g i j)) s->wpAny (model X.prog X.w) X.A (f (.int i t) (.int j u)) Q E s):
  lJ X f (EO λi j=>.bl (g i j)):=by
 intro pins s σ H x y v u Q I rx ry h
 obtain ⟨i,j,rfl,rfl,q⟩:=h
 obtain ⟨t,rfl⟩:=rx
 obtain ⟨t',rfl⟩:=ry
 exact rule i j t t' s _ _ ⟨.bl (g i j),H,I,rfl,q⟩
theorem ET:lJ X (binaryOp .Add) (EO λi j=>.int (i+j)):=QJ λ_ _ _ _ _ _ _ q=>add_int q
theorem unI{f:Value->Sem Value}{g:Int->Int}
  (rule:∀(i:Int) (t:Tok) (s:Shared) (Q:Value->Shared->Prop) (E:Value->Shared->Prop),Q (.int (g i) s.toks) { s with toks:=s.toks+1 }->wpAny (model X.prog X.w) X.A (f (.int i t)) Q E s):
  Wu X f (rU λi=>.int (g i)):=by
 intro pins s σ H x v Q I rx h
 obtain ⟨i,rfl,q⟩:=h
 obtain ⟨t,rfl⟩:=rx
 exact rule i t s _ _ ⟨.int (g i),H,I.tok _,⟨_,rfl⟩,q⟩
theorem b7T:Wu X (unaryOp .USub) (rU λi=>.int (-i)):=unI λ_ _ _ _ _ q=>neg_int q
end
section
variable {X:Cx}{a b c:Expr}{ta tb tc:TE}{pos:Pos}
theorem YW{pins:List (Addr×Obj)}{σ:St}{H:Hp}{s:Shared}{Q:VK}{k k':Bool}(I:Inv X pins σ H s)(q:Q (.bl k) H)(e:k=k'):EP X pins σ Q (.bool k') s:=by
 subst e
 exact ⟨.bl k,H,I,rfl,q⟩
theorem Jc:lJ X (compareOp .Lt) (EO λi j=>.bl (decide (i<j))):=EU λ_ _ _ _ _ _ _ q=>lt_int q
theorem Jd:lJ X (compareOp .LtE) (EO λi j=>.bl (decide (i<=j))):=EU λ_ _ _ _ _ _ _ q=>le_int q
theorem Je:lJ X (compareOp .Gt) (EO λi j=>.bl (decide (j<i))):=EU λ_ _ _ _ _ _ _ q=>gt_int q
theorem b8t:lJ X (compareOp .Is) (λx y H Q=>y=.b8/\Q (.bl (decide (x=.b8))) H):=by
 intro pins s σ H x y v u Q I rx ry h
 obtain ⟨rfl,q⟩:=h
 cases ry
 refine is_none_gen (YW I q ?_)
 cases x<;>first
  | (cases rx;rfl)
  | (obtain ⟨t,rfl⟩:=rx;rfl)
theorem b6e:lJ X (compareOp .IsNot) (λx y H Q=>y=.b8/\Q (.bl (!decide (x=.b8))) H):=by
 intro pins s σ H x y v u Q I rx ry h
 obtain ⟨rfl,q⟩:=h
 cases ry
 refine isnot_none_gen (YW I q ?_)
 cases x<;>first
  | (cases rx;rfl)
  | (obtain ⟨t,rfl⟩:=rx;rfl)
theorem lJ.or(h:lJ X f r)(h':lJ X f r'):lJ X f (λx y H Q=>r x y H Q\/r' x y H Q):=by
 intro pins s σ H x y v u Q I rx ry q
 rcases q with q | q
 .exact h pins s σ H x y v u Q I rx ry q
 .exact h' pins s σ H x y v u Q I rx ry q
theorem Y6(b:Expr)(h:op≠.In:=by decide)(h2:op≠.NotIn:=by decide):behindInMarks op b=false:=by
 have e1:(op==CmpOp.In)=false:=by cases op<;>first | rfl | exact absurd rfl h
 have e2:(op==CmpOp.NotIn)=false:=by cases op<;>first | rfl | exact absurd rfl h2
 cases b<;>simp [behindInMarks,e1,e2]
theorem b58(ho:lJ X (compareOp op) r)(ha:PE X a ta)(hb:PE X b tb)(hm:behindInMarks op b=false):PE X (.Compare a [op] [b] pos) (Ih r ta tb):=by
 intro pins s σ H Q I h
 exact wpAny_Compare1 (FT ha hb I h λv u s2 x y H2 I2 rx ry q=>ho pins s2 σ H2 x y v u Q I2 rx ry q) hm
def YK(t:TE):TT:=λσ H Q=>t σ H λx H'=>∃k,x=.bl k/\Q k H'
theorem b5X(ho:lJ X (compareOp op) r)(ha:PE X a ta)(hb:PE X b tb)(hm:behindInMarks op b=false):PT X (.Compare a [op] [b] pos) (YK (Ih r ta tb)):=by
 intro pins s σ H Q I h
 refine wpAny_isTrue_Compare1 (cq (ha pins s σ H _ I h) λv s1 ⟨x,H1,I1,r1,q1⟩=>cq (hb pins s1 σ H1 _ I1 q1) λu s2 ⟨y,H2,I2,r2,q2⟩ =>
  cq (ho pins s2 σ H2 x y v u _ I2 r1 r2 q2) λc s3 ⟨z,H3,I3,r3,k,e,q3⟩=>?_) hm
 subst e
 cases r3
 exact CY ⟨H3,I3,q3⟩
def Zi(r r':R2)(ta tb tc:TE):TE:=λσ H Q=>ta σ H λx H1=>tb σ H1 λy H2=>r x y H2 λz H3=>∃k,z=.bl k /\
 (if k=true then tc σ H3 λw' H4=>r' y w' H4 Q else Q (.bl false) H3)
theorem b3S(ho:lJ X (compareOp op) r)(nM:lJ X (compareOp z0) r')(ha:PE X a ta)(hb:PE X b tb)(hc:PE X c tc)
  (hm:lastMarks [op,z0] [b,c]=false:=by with_unfolding_all rfl):PE X (.Compare a [op,z0] [b,c] pos) (Zi r r' ta tb tc):=by
 intro pins s σ H Q I h
 refine Compare_chain (cq (ha pins s σ H _ I h) λv s1 ⟨x,H1,I1,r1,q1⟩=>chain_link (cq (hb pins s1 σ H1 _ I1 q1) λu s2 ⟨y,H2,I2,r2,q2⟩ =>
  cq (ho pins s2 σ H2 x y v u _ I2 r1 r2 q2) λd s3 ⟨z,H3,I3,r3,k,e,q3⟩=>?_)) hm
 subst e
 cases r3
 refine CY ?_
 cases k with
 | false=>exact ite_ff ⟨.bl false,H3,I3,rfl,q3⟩
 | true=>exact ite_tt (chain_last (cq (hc pins s3 σ H3 _ I3 q3) λw' s4 ⟨z',H4,I4,r4,q4⟩=>nM pins s4 σ H4 y z' u w' Q I4 r2 r4 q4))
theorem b3K(ho:lJ X (compareOp op) r)(nM:lJ X (compareOp z0) r')(ha:PE X a ta)(hb:PE X b tb)(hc:PE X c tc)
  (hm:lastMarks [op,z0] [b,c]=false:=by with_unfolding_all rfl):PT X (.Compare a [op,z0] [b,c] pos) (YK (Zi r r' ta tb tc)):=by
 intro pins s σ H Q I h
 refine isTrue_chain (cq (ha pins s σ H _ I h) λv s1 ⟨x,H1,I1,r1,q1⟩=>test_link (cq (hb pins s1 σ H1 _ I1 q1) λu s2 ⟨y,H2,I2,r2,q2⟩ =>
  cq (ho pins s2 σ H2 x y v u _ I2 r1 r2 q2) λd s3 ⟨z,H3,I3,r3,k,e,q3⟩=>?_)) hm
 subst e
 cases r3
 refine CY ?_
 cases k with
 | false =>
  obtain ⟨k',e',q'⟩:=q3
  cases e'
  exact ite_ff ⟨H3,I3,q'⟩
 | true =>
  refine ite_tt (test_last (cq (hc pins s3 σ H3 _ I3 q3) λw' s4 ⟨z',H4,I4,r4,q4⟩=>cq (nM pins s4 σ H4 y z' u w' _ I4 r2 r4 q4) λd' s5 ⟨z2,H5,I5,r5,k2,e2,q5⟩=>?_))
  subst e2
  cases r5
  exact CY ⟨H5,I5,q5⟩
def Gf(K:aQ)(x:V)(H:Hp)(k:Bool):Prop:=
 match x with
 | .b8=>k=false
 | .bl b=>k=b
 | .int i=>k=(i != 0)
 | .str y=>y.length<=sizeLine/\k=((y.length:Int) != 0)
 | .G9 y=>y.size<=sizeLine/\k=((y.size:Int) != 0)
 | .ref p=>(∃xs,jm K H p xs/\k=!xs.isEmpty)\/(∃xs,kK K H p xs/\k=!xs.isEmpty)\/∃aO,H p=some (.dK aO)/\k=!aO.isEmpty
 | _=>False
theorem b1r{κ:Type}{aO:List (κ×V)}{vs:List (κ×Value)}(r:KV aO vs):(!vs.isEmpty)=!aO.isEmpty:=by
 cases r<;>rfl
theorem a7C(r:aV xs aD):(!aD.toArray.isEmpty)=!xs.isEmpty:=by
 cases r<;>simp
theorem Hk:(sizeLine:Nat)<2^63:=by rw [rH];decide
theorem b7W:Wv X (λx H Q=>∃k,Gf X.K x H k/\Q k H):=by
 intro pins s σ H x v Q I rx h
 obtain ⟨k,e,q⟩:=h
 have hl:=Hk
 have hs:sizeLine=16777216:=rH
 cases x with
 | b8 =>
  cases rx
  have e':k=false:=e
  subst e'
  exact truthy_none ⟨H,I,q⟩
 | bl b =>
  cases rx
  have e':k=b:=e
  subst e'
  exact CY ⟨H,I,q⟩
 | int i =>
  obtain ⟨t,rfl⟩:=rx
  have e':k=(i != 0):=e
  subst e'
  exact PySem.P.truthy_int ⟨H,I,q⟩
 | str y =>
  obtain ⟨t,rfl⟩:=rx
  obtain ⟨hy,e'⟩:y.length<=sizeLine/\k=((y.length:Int) != 0):=e
  subst e'
  exact PySem.P.truthy_str (by ext hs hy) ⟨H,I.tok _,q⟩
 | G9 y =>
  obtain ⟨t,rfl⟩:=rx
  obtain ⟨hy,e'⟩:y.size<=sizeLine/\k=((y.size:Int) != 0):=e
  subst e'
  exact PySem.W.truthy_bytes (l9 ‹_› (by decide)) ⟨H,I.tok _,q⟩
 | ref p =>
  cases rx
  have e':(∃xs,jm X.K H p xs/\k=!xs.isEmpty)\/(∃xs,kK X.K H p xs/\k=!xs.isEmpty)\/∃aO,H p=some (.dK aO)/\k=!aO.isEmpty:=e
  rcases e' with ⟨xs,hx,e'⟩ | ⟨xs,hx,e'⟩ | ⟨aO,hx,e'⟩
  .subst e'
   obtain ⟨aD,r,pl,hz⟩:=I.list hx
   have hlen:=r.length
   exact wpAny_truthy_list pl.isList (by simp only [iJ];ext hs hz hlen) ⟨H,I.tok _,by rw [a7C r];exact q⟩
  .subst e'
   obtain ⟨aD,r,pl,hz⟩:=I.tuple hx
   have hlen:=r.length
   exact truthy_tuple pl (by simp only [iJ];ext hs hz hlen) ⟨H,I.tok _,by rw [a7C r];exact q⟩
  .subst e'
   obtain ⟨hz,hS,vs,r,m⟩:aO.length<=sizeLine/\(p==sysModules)=false/\∃vs,KV aO vs/\s.heap.DictOf (vZ X.prog X.w) p vs:=I.cw p _ hx
   have hlen:aO.length=vs.length:=Paired.length r
   exact wpAny_truthy_dict hS m (by ext hs hz hlen) ⟨H,I.tok _,by rw [b1r r];exact q⟩
 | _=>exact (show False from e).elim
theorem b3J(ha:PE X a ta)(he:∀whole,isTrue a X.env whole=(do let v <-whole;standAt a.pos;holding [v] (truthy v))):
  PT X a (λσ H Q=>ta σ H λx H'=>∃k,Gf X.K x H' k/\Q k H'):=by
 intro pins s σ H Q I h
 exact isTrue_plain (cq (ha pins s σ H _ I h) λv s1 ⟨x,H1,I1,r1,q1⟩=>b7W pins s1 σ H1 x v Q I1 r1 q1) (he _)
theorem sI:lJ X (binaryOp .Add) (λx y H Q=>∃i j,x=.str i/\y=.str j/\i.length+j.length<=sizeLine/\Q (.str (i++j)) H):=by
 intro pins s σ H x y v u Q I rx ry h
 obtain ⟨i,j,rfl,rfl,hz,q⟩:=h
 obtain ⟨t,rfl⟩:=rx
 obtain ⟨t',rfl⟩:=ry
 exact add_str (λt' tk=>⟨.str (i++j),H,I.tok _,⟨_,rfl⟩,q⟩) hz
theorem vals1(r:aV [x] us):∃u,us=[u]/\RelV x u:=by
 cases r with
 | cons r1 r2=>cases r2;exact ⟨_,rfl,r1⟩
theorem vals2(r:aV [x,y] us):∃u w',us=[u,w']/\RelV x u/\RelV y w':=by
 cases r with
 | cons r1 r2 =>
  cases r2 with
  | cons r3 r4=>cases r4;exact ⟨_,_,rfl,r1,r3⟩
theorem b3d(hc:X.calm=true):ud X (.builtin "max") (λxs H Q=>∃i j,xs=[.int i,.int j]/\Q (.int (if j>i then j else i)) H):=by
 intro pins s σ H xs us Q I r h
 obtain ⟨i,j,rfl,q⟩:=h
 obtain ⟨u,w',rfl,⟨t,rfl⟩,⟨t',rfl⟩⟩:=vals2 r
 refine max_two_ints (I.ok.hd hc) λh' tk k=>⟨_,H,I.kept k,?_,q⟩
 by_cases hj:j>i
 .rw [if_pos hj,if_pos hj];exact ⟨_,rfl⟩
 .rw [if_neg hj,if_neg hj];exact ⟨_,rfl⟩
theorem b3b(hc:X.calm=true):ud X (.builtin "min") (λxs H Q=>∃i j,xs=[.int i,.int j]/\Q (.int (if j<i then j else i)) H):=by
 intro pins s σ H xs us Q I r h
 obtain ⟨i,j,rfl,q⟩:=h
 obtain ⟨u,w',rfl,⟨t,rfl⟩,⟨t',rfl⟩⟩:=vals2 r
 refine min_two_ints (I.ok.hd hc) λh' tk k=>⟨_,H,I.kept k,?_,q⟩
 by_cases hj:j<i
 .rw [if_pos hj,if_pos hj];exact ⟨_,rfl⟩
 .rw [if_neg hj,if_neg hj];exact ⟨_,rfl⟩
end
end L2
namespace L2
open PySem PySem.Spec PyProof.Rows
structure uu(h:Heap)(x dx C:Addr)(mA:Str->Option Value):Prop where
 obj:h.get? x=some (DY C dx)
 ns:h.Ns1 dx mA
 ne:dx≠x
theorem b2j{h:Heap}(n:h.Ns1 dx mA):∃od,h.get? dx=some od/\∀name,Nt name od=some (mA name):=by
 obtain ⟨o,es,ep,ho,hd,hk,_,hm⟩:=n
 refine ⟨o,ho,λname=>?_⟩
 have e:=hm name
 unfold nsFind findBy at e
 rw [<-Array.find?_toList] at e
 unfold Nt
 rw [hd]
 dsimp only
 split
 .rename_i y q
  rw [q] at e
  exact congrArg some e
 .rename_i q
  rw [q] at e
  have a:es.toList.any (·.refKey)=false:=by
   rw [List.any_eq_false]
   intro y hy
   obtain ⟨z,t,Rm⟩:=hk y (Array.mem_toList_iff.mp hy)
   simp [DictEntry.refKey,Rm]
  have a':¬es.toList.any (·.refKey)=true:=by rw [a];exact vM
  rw [if_neg a']
  exact congrArg some e
theorem uu.look(I:uu h x dx C mA):∃od,PySem.W.InstAt h x (DY C dx) C (some od)/\∀name,Nt name od=some (mA name):=
 let ⟨od,ho,hl⟩:=b2j I.ns
 ⟨od,⟨I.obj,rfl,rfl,ho⟩,hl⟩
section
variable {prog:Program}{w:World}{A:Around}{E:Value->Shared->Prop}{s:Shared}{K:aQ}{x dx C f:Addr}{mA:Str->Option Value}{name:Str}{v:Value}
theorem b6E(X:K.In s.heap)(I:uu s.heap x dx C mA)(hg:Nm K C name=true)(hh:Tq K C=true)
  (ha:mw K (.ref C) name=some none)(hv:mA name=some v)(hv':XR v=true)(h:Q v { s with toks:=s.toks+1 }):
  wpAny (model prog w) A (getAttr (.ref x) name expr) Q E s:=by
 obtain ⟨od,J,hl⟩:=I.look
 exact PySem.W.get_value X J (SY hg).1 (PySem.W.findObj_own hh ha rfl (by rw [hl,hv])) hv' h
theorem b4k(X:K.In s.heap)(I:uu s.heap x dx C mA)(hg:Nm K C name=true)
  (hf:mw K (.ref C) name=some (some (.ref f)))(ht:Sr K (.ref f)=true)(hv:mA name=none)(h:Q (.ref f,[.ref x]) s):
  wpAny (model prog w) A (getMethod (.ref x) name pl) Q E s:=by
 obtain ⟨od,J,hl⟩:=I.look
 exact PySem.W.method_fn X J (SY hg).1 (SY hg).2 hf (beq_iff_eq.mp ht) (by show (Nt name od).map (·.isSome)=some false;rw [hl,hv];rfl) h
theorem b5M(X:K.In s.heap)(I:uu s.heap x dx C mA)
  (hs:mw K (.ref C) "__setattr__" = some (some (.builtin "object.__setattr__")))(hp:Ym K C=true)(ht:SD K C name=some none)(hh:Tq K C=true)
  (hw:Su mA ns)(hsz:ns.length<=sizeLine)
  (h:∀h',uu h' x dx C (λy=>if y=name then some v else mA y)->AG dx s.heap h'->Q () { s with heap:=h',toks:=s.toks+2 }):
  wpAny (model prog w) A (setAttr (.ref x) name v) Q E s:=by
 obtain ⟨od,J,hl⟩:=I.look
 refine PySem.W.set_plain X J hs (PySem.W.osa_open (s:={ s with toks:=s.toks+1 }) (r:=none) X J hp ht λb=>?_)
 obtain ⟨cd,hc,yR⟩:=PySem.W.any_some hh
 have hx:s.heap.get? x=some ⟨.ref C,some dx,.plain,#[]⟩:=I.obj
 refine aM (cp (aM (aM (wpAny_loadPart hx (aM (PySem.W.Looks.here (s:={ s with toks:=s.toks+1 }) (PySem.W.looks_clsIn X hc) ?_))))))
 rw [yR]
 refine cp (a:=some dx) (aM (cp (aM ?_)))
 refine wpAny_nsSet1 (s:={ s with toks:=s.toks+1 }) I.ns λh' MQ n6=>?_
 obtain ⟨oD,esD,epD,hoD,hdD,hcD⟩:=MQ.count (PySem.Within.cons name v hw)
 refine aM (wpAny_lookBehind hoD (by rw [hdD];exact pastItsLine_dict (l9 hcD (by rw [jK];ext hsz))) ?_)
 exact cp (h _ ⟨(n6.2 _ (oX I.ne)).trans I.obj,MQ,I.ne⟩ n6)
theorem b3Z(X:K.In s.heap)(hm:XN K C=true)
  (hi:mw K (.ref C) "__init__" = some (some (.ref f)))(hf:PySem.W.typeIn K (.ref f)=some (.type "function"))
  (h:codeAny (model prog w) (A.under (.builtin "type.__call__" ⟨.ref C::vs,kw⟩)) (.call (.ref f) ⟨.ref (s.heap.objs.size+1)::vs,kw⟩) (PySem.W.InitBack (s.heap.objs.size+1) R)
   { s with heap:=(s.heap.push CW).push (DY C s.heap.objs.size) }):
  codeAny (model prog w) A (.call (.ref C) ⟨vs,kw⟩) R s:=by
 obtain ⟨hh,g,d,t,os⟩:=s
 exact PySem.W.make_core (PySem.W.makes_of X hm) (PySem.W.looks_findIn X hi) (λself=>PySem.W.bind_fn X self hf) (.inl rfl) h
end
def iM(f:Str)(v:V):List (Str×V)->List (Str×V)
 | []=>[(f,v)]
 | (g,x)::r=>if g=f then (g,v)::r else (g,x)::iM f v r
theorem a6Y(f g:Str)(v:V):∀fs:List (Str×V),(iM f v fs).lookup g=if g=f then some v else fs.lookup g
 | []=>by
  show CS g [(f,v)]=_
  by_cases h:g=f
  .have hb:(g==f)=true:=beq_iff_eq.mpr h
   simp only [CS,hb,if_pos h]
  .have hb:(g==f)=false:=beq_eq_false_iff_ne.mpr h
   simp only [CS,hb,if_neg h]
 | (k,x)::r=>by
  have ih:=a6Y f g v r
  rw [show iM f v ((k,x)::r)=(if k=f then (k,v)::r else (k,x)::iM f v r) from rfl]
  by_cases hk:k=f
  .rw [if_pos hk]
   by_cases h:g=k
   .have hb:(g==k)=true:=beq_iff_eq.mpr h
    simp only [CS,hb,if_pos (h.trans hk)]
   .have hb:(g==k)=false:=beq_eq_false_iff_ne.mpr h
    simp only [CS,hb,if_neg (λe:g=f=>h (e.trans hk.symm))]
  .rw [if_neg hk]
   by_cases h:g=k
   .have hb:(g==k)=true:=beq_iff_eq.mpr h
    simp only [CS,hb,if_neg (λe:g=f=>hk (h.symm.trans e))]
   .have hb:(g==k)=false:=beq_eq_false_iff_ne.mpr h
    simp only [CS,hb]
    exact ih
theorem Vp(f:Str)(v:V):∀fs:List (Str×V),f∈(iM f v fs).map (·.1)/\∀g,g∈fs.map (·.1)->g∈(iM f v fs).map (·.1)
 | []=>⟨by simp [iM],λg h=>by simp at h⟩
 | (k,x)::r=>by
  obtain ⟨i1,i2⟩:=Vp f v r
  rw [show iM f v ((k,x)::r)=(if k=f then (k,v)::r else (k,x)::iM f v r) from rfl]
  by_cases hk:k=f
  .rw [if_pos hk]
   subst hk
   exact ⟨by simp,λg h=>by simpa using h⟩
  .rw [if_neg hk]
   refine ⟨?_,λg h=>?_⟩
   .rw [jJ]
    exact jU _ i1
   .rw [jJ] at h ⊢
    rcases fB.mp h with e | e
    .exact fB.mpr (.inl e)
    .exact jU _ (i2 g e)
theorem a61(f:Str)(v:V):∀fs:List (Str×V),(iM f v fs).length<=fs.length+1
 | []=>by simp [iM]
 | (k,x)::r=>by
  have ih:=a61 f v r
  rw [show iM f v ((k,x)::r)=(if k=f then (k,v)::r else (k,x)::iM f v r) from rfl]
  by_cases hk:k=f
  .rw [if_pos hk,jK,jK];ext
  .rw [if_neg hk,jK,jK];ext ih
theorem jB.some_of(r:jB (some v) o):∃u,o=some u/\RelV v u:=by
 cases o with
 | none=>exact (show False from r).elim
 | some u=>exact ⟨u,rfl,r⟩
theorem jB.none_of(r:jB none o):o=none:=by
 cases o with
 | none=>rfl
 | some u=>exact (show False from r).elim
theorem b2L(r:RelV v u):XR u=true:=by
 cases v with
 | b8=>cases (show u=nQ from r);rfl
 | bl b=>cases (show u=qx b from r);rfl
 | int i=>obtain ⟨t,e⟩:=(show ∃t,u=KA i t from r);cases e;rfl
 | str x=>obtain ⟨t,e⟩:=(show ∃t,u=Kz x t from r);cases e;rfl
 | G9 b=>obtain ⟨t,e⟩:=(show ∃t,u=Value.bytes b t from r);cases e;rfl
 | Fq b=>obtain ⟨t,e⟩:=(show ∃t,u=Si b t from r);cases e;rfl
 | ref a=>cases (show u=fq a from r);rfl
 | ty n=>cases (show u=CT n from r);rfl
section
variable {P:Program}{w:World}{H H':Hp}{h h':Heap}{a C dx:Addr}{fs Fo:List (Str×V)}
theorem OA(cw:jX P w H h)(e:H a=some (.ins C dx fs)):∃mA,uu h a dx C mA/\(∀f,jB (fs.lookup f) (mA f))/\Su mA (fs.map (·.1))/\fs.length<=1000/\H dx=some (.own a):=by
 obtain ⟨d,z,ne,ob,mA,n,r,q⟩:=(show cD P w H h a (.ins C dx fs) from cw a _ e)
 exact ⟨mA,⟨ob,n,ne⟩,r,q,z,d⟩
end
structure rV(K:aQ)(C:Addr):Prop where
 pg:Nm K C Str.empty=true
 hd:Tq K C=true
 po:Ym K C=true
 sa:mw K (.ref C) "__setattr__" = some (some (.builtin "object.__setattr__"))
theorem rV.get{K:aQ}{C:Addr}(c:rV K C)(f:Str):Nm K C f=true:=c.pg
def av(K:aQ)(C:Addr)(f:Str):Prop:=mw K (.ref C) f=some none
theorem av.Ic{K:aQ}{C:Addr}{f:Str}(n:av K C f):SD K C f=some none:=by
 unfold SD
 rw [show mw K (.ref C) f=some none from n]
 rfl
structure ar(K:aQ)(C:Addr)(m:Str)(f:Addr):Prop where
 at_:mw K (.ref C) m=some (some (.ref f))
 fn:Sr K (.ref f)=true
 kp:BG K (.ref f)=true
section
variable {X:Cx}{pins:List (Addr×Obj)}{σ:St}{H:Hp}{s:Shared}{a C dx:Addr}{fs:List (Str×V)}{f:Str}{v:V}{A:Around}{E:Value->Shared->Prop}
theorem b1u(I:Inv X pins σ H s)(e:H a=some (.ins C dx fs))(c:rV X.K C)(n:av X.K C f)(l:fs.lookup f=some v)
  (h:∀u s',Inv X pins σ H s'->RelV v u->Q u s'):wpAny (model X.prog X.w) A (getAttr (.ref a) f b) Q E s:=by
 obtain ⟨mA,O,r,_,_,_⟩:=OA I.cw e
 obtain ⟨u,hu,ru⟩:=jB.some_of (v:=v) (o:=mA f) (by rw [<-l];exact r f)
 exact b6E I.kU O (c.get f) c.hd n hu (b2L ru) (h u _ (I.tok _) ru)
theorem a7D(I:Inv X pins σ H s)(e:H a=some (.ins C dx fs))(c:rV X.K C)(k:ar X.K C m g)(l:fs.lookup m=none)
  (h:Q (.ref g,[.ref a]) s):wpAny (model X.prog X.w) A (getMethod (.ref a) m pl) Q E s:=by
 obtain ⟨mA,O,r,_,_,_⟩:=OA I.cw e
 have hn:mA m=none:=jB.none_of (by rw [<-l];exact r m)
 exact b4k I.kU O (c.get m) k.at_ k.fn hn h
theorem b0Y(I:Inv X pins σ H s)(e:H a=some (.ins C dx fs))(c:rV X.K C)(n:av X.K C f)(hl:fs.length<1000)(ry:RelV y u)
  (h:∀s',Inv X pins σ (upd H a (.ins C dx (iM f y fs))) s'->Q () s'):wpAny (model X.prog X.w) A (setAttr (.ref a) f u) Q E s:=by
 obtain ⟨mA,O,r,wi,_,ho⟩:=OA I.cw e
 have hz:(fs.map (·.1)).length<=sizeLine:=by rw [eD,rH];ext hl
 refine b5M I.kU O c.sa c.po n.Ic c.hd wi hz λh' O' sb=>h _ ?_
 have hd:∃o,h'.get? dx=some o:=let ⟨o,_,_,e',_⟩:=O'.ns;⟨o,e'⟩
 refine I.write (x:=a) (e:=dx) (by rw [e];exact AA) (.inr ho) (λb q hb z=>(sb.2 b hb).trans z) hd ?_
 refine ⟨by rw [g9 O.ne];exact ho,?_,O.ne,O'.obj,_,O'.ns,λg=>?_,λg hg=>?_⟩
 .have:=a61 f y fs;ext hl this
 .show jB ((iM f y fs).lookup g) (if g=f then some u else mA g)
  rw [a6Y]
  by_cases q:g=f
  .rw [if_pos q,if_pos q];exact ry
  .rw [if_neg q,if_neg q];exact r g
 .by_cases q:g=f
  .rw [q];exact (Vp f y fs).1
  .refine (Vp f y fs).2 g (wi g λz=>hg ?_)
   show (if g=f then some u else mA g)=none
   rw [if_neg q];exact z
theorem Inv.made(I:Inv X pins σ H s):Inv X pins σ (upd (upd H s.heap.objs.size (.own (s.heap.objs.size+1))) (s.heap.objs.size+1) (.ins C s.heap.objs.size []))
  { s with heap:=(s.heap.push CW).push (DY C s.heap.objs.size) }:=by
 have e1:(s.heap.push CW).get? s.heap.objs.size=some CW:=lO s.heap rfl
 have e2:((s.heap.push CW).push (DY C s.heap.objs.size)).get? (s.heap.objs.size+1)=some (DY C s.heap.objs.size):=by
  have:=lO (s.heap.push CW) (o:=DY C s.heap.objs.size) rfl
  rwa [pP] at this
 have e3:(s.heap.push CW).Ns s.heap.objs.size (λ_=>none):=⟨CW,#[],_,e1,rfl,(λe he=>absurd he (by simp)),λ_=>rfl⟩
 have I1:=I.laid (a:=s.heap.objs.size) (o:=.own (s.heap.objs.size+1)) (h':=s.heap.push CW) (t':=s.toks) (λb u q=>gg _ q) (cT _) ⟨_,e1⟩
 refine I1.laid (a:=s.heap.objs.size+1) (o:=.ins C s.heap.objs.size []) (t':=s.toks) (λb u q=>gg _ q) (Nat.le_of_eq (pP _ _)) ?_
 have ne:s.heap.objs.size≠s.heap.objs.size+1:=iE (qz _)
 refine ⟨by rw [g9 ne,og],AE _,ne,e2,λ_=>none,(Heap.Ns1.of_empty e3).at λo q=>gg _ q,λ_=>AA,λy hy=>absurd rfl hy⟩
theorem b69(hb:attributeBase e f env (eval e env)=eval e env)
  (h:wpAny (model prog w) A (eval e env) (λo bA=>wpAny (model prog w) A (getAttr o f true) Q E bA) E s):wpAny (model prog w) A (eval (.Attribute e f pos) env) Q E s:=
 Attribute_any_ h (by rw [arm_eval_Attribute,hb])
end
def Qo(K:aQ)(ta:TE)(f:Str):TE:=λσ H Q=>ta σ H λx H1=>∃a C dx fs v,x=.ref a/\H1 a=some (.ins C dx fs)/\rV K C/\av K C f/\fs.lookup f=some v/\Q v H1
def Qv(K:aQ)(ta tv:TE)(f:Str):TS:=λD σ H=>tv σ H λy H1=>ta σ H1 λx H2=>∃a C dx fs,x=.ref a/\H2 a=some (.ins C dx fs)/\rV K C/\av K C f/\fs.length<1000 /\
 D.nx σ (upd H2 a (.ins C dx (iM f y fs)))
section
variable {X:Cx}{o e value:Expr}{f:Str}{pos pos' Qc:Pos}{ta tv:TE}
theorem b8r(he:PE X e ta)(hb:attributeBase e f X.env (eval e X.env)=eval e X.env):PE X (.Attribute e f pos) (Qo X.K ta f):=by
 intro pins s σ H Q I h
 refine b69 hb (cq (he pins s σ H _ I h) λu s1 ⟨x,H1,I1,rx,a,C,dx,fs,v,ex,ea,c,n,l,q⟩=>?_)
 subst ex
 obtain rfl:u=fq a:=rx
 exact b1u I1 ea c n l λu' s2 I2 ru=>⟨v,H1,I2,ru,q⟩
theorem Zb(ha:PE X o ta)(hv:PE X value tv)(hs:swapsWith value (some (.Attribute o f pos')) pos.line X.env=pure false):PS X (.Assign [.Attribute o f pos'] value pos) (Qv X.K ta tv f):=by
 intro pins s σ H D I h
 refine plainObj_wpAny_Assign_Attribute (cq (hv pins s σ H _ I h) λu s1 ⟨y,H1,I1,ry,q⟩=>cq (ha pins s1 σ H1 _ I1 q) λov s2 ⟨x,H2,I2,rx,a,C,dx,fs,ex,ea,c,n,l,q2⟩=>?_) hs
 subst ex
 obtain rfl:ov=fq a:=rx
 exact b0Y I2 ea c n l ry λs3 I3=>⟨σ,_,I3,q2⟩
end
section
variable {X:Cx}{pins:List (Addr×Obj)}{σ:St}{H:Hp}{s:Shared}{A:Around}{E:Value->Shared->Prop}{Q:Value->Shared->Prop}{c:Value}{b:Bool}
inductive lI (K:aQ) (H:Hp):V->Value->Prop where
 | b8:lI K H .b8 (.type "NoneType")
 | bl (x:Bool):lI K H (.bl x) (.type "bool")
 | int (i:Int):lI K H (.int i) (.type "int")
 | str (x:Str):lI K H (.str x) (.type "str")
 | Fq (x:UInt64):lI K H (.Fq x) (.type "float")
 | lst {a:Addr} {xs:List V} (e:H a=some (.lst xs)):lI K H (.ref a) (.type "list")
 | nz {a:Addr} {o:Obj} {xs:List V} (e:H a=some (.nz o (.lst xs))):lI K H (.ref a) (.type "list")
 | tup {a:Addr} {xs:List V} (e:H a=some (.tup xs)):lI K H (.ref a) (.type "tuple")
 | dK {a:Addr} {aO:List (Key×V)} (e:H a=some (.dK aO)):lI K H (.ref a) (.type "dict")
 | dT {a:Addr} {aO:List (List Key×V)} (e:H a=some (.dT aO)):lI K H (.ref a) (.type "dict")
 | ins {a C dx:Addr} {fs:List (Str×V)} (e:H a=some (.ins C dx fs)) (cl:rV K C) (ha:mw K (.ref C) "__class__" = some (some (.builtin "object.__class__")))
   (hn:K3 K (.builtin "object.__class__") "__get__" = some (some (.builtin "getset_descriptor.__get__"))) (W':SA K (.builtin "object.__class__")=some true)
   (hm:vI K C (.type "object")=some true):lI K H (.ref a) (.ref C)
theorem b2t(I:Inv X pins σ H s)(rx:RelV x u)(ty:lI X.K H x t)(e:vJ X.K t c=some b)(h:∀tk,Q (.bool b) { s with toks:=tk }):
  wpAny (model X.prog X.w) A (call (.builtin "isinstance") [u,c]) Q E s:=by
 cases ty with
 | b8=>cases (show u=nQ from rx);exact AM PySem.W.kitx_none I.kU AA e (λz=>nomatch z) h
 | bl y=>cases (show u=qx y from rx);exact AM PySem.W.kitx_bool I.kU AA e (λz=>nomatch z) h
 | int i=>obtain ⟨t,q⟩:=(show ∃t,u=KA i t from rx);cases q;exact AM PySem.W.kitx_int I.kU AA e (λz=>nomatch z) h
 | str y=>obtain ⟨t,q⟩:=(show ∃t,u=Kz y t from rx);cases q;exact AM PySem.W.kitx_str I.kU AA e (λz=>nomatch z) h
 | Fq y=>obtain ⟨t,q⟩:=(show ∃t,u=Si y t from rx);cases q;exact AM PySem.W.kitx_float I.kU AA e (λz=>nomatch z) h
 | @lst a xs ea =>
  cases (show u=fq a from rx)
  obtain ⟨_,_,n,_,h1⟩:=(show cD X.prog X.w H s.heap a (.lst xs) from I.cw a _ ea)
  exact AM Yl I.kU ⟨_,h1,rfl⟩ e (λz=>nomatch z) h
 | @nz a ob xs ea =>
  cases (show u=fq a from rx)
  obtain ⟨_,_,_,n,_,h1⟩:=(show cD X.prog X.w H s.heap a (.nz ob (.lst xs)) from I.cw a _ ea)
  exact AM Yl I.kU ⟨_,h1,rfl⟩ e (λz=>nomatch z) h
 | @tup a xs ea =>
  cases (show u=fq a from rx)
  obtain ⟨_,_,_,p⟩:=(show cD X.prog X.w H s.heap a (.tup xs) from I.cw a _ ea)
  obtain ⟨o,h1,h2,_⟩:=p
  exact AM PySem.W.kitx_tuple I.kU ⟨o,h1,h2⟩ e (λz=>nomatch z) h
 | @dK a aO ea =>
  cases (show u=fq a from rx)
  obtain ⟨_,_,vs,_,p⟩:=(show cD X.prog X.w H s.heap a (.dK aO) from I.cw a _ ea)
  obtain ⟨o,es,ep,h1,h2,_⟩:=p
  exact AM Yk I.kU ⟨o,h1,h2.1⟩ e (λz=>nomatch z) h
 | @dT a aO ea =>
  cases (show u=fq a from rx)
  obtain ⟨_,_,xs,_,o,es,ep,h1,h2,_⟩:=(show cD X.prog X.w H s.heap a (.dT aO) from I.cw a _ ea)
  exact AM Yk I.kU ⟨o,h1,h2.1⟩ e (λz=>nomatch z) h
 | @ins a C dx fs ea cl ha hn W' hm =>
  cases (show u=fq a from rx)
  obtain ⟨mA,O,_⟩:=OA I.cw ea
  obtain ⟨od,J,_⟩:=O.look
  exact AM (PySem.W.kitx_own (cl.get _) cl.hd ha hn W' hm) I.kU J e (λz=>nomatch z) h
end
end L2
namespace L2
open PySem PySem.Spec PyProof.Rows
structure c6(k:Nat)(A:Around):Prop where
 hd:A.handled=none
 dp:A.depth+3*k+5<recursionLimit
 un:A.units+16*k+200<cLine
theorem c6.mono(r:c6 k A)(h:j<=k):c6 j A:=⟨r.hd,by have:=r.dp;ext h this,by have:=r.un;ext h this⟩
theorem c6.deeper(r:c6 (k+1) A)(env:Env):c6 k (A.deeper env):=
 ⟨r.hd,by have:=r.dp;show A.depth+1+3*k+5<_;ext this,by have:=r.un;show A.units+3+16*k+200<_;ext this⟩
theorem b1o{A:Around}{kw:List (Str×Value)}:(A.under (.builtin "type.__call__" ⟨.ref C::us,kw⟩)).depth=A.depth+1:=by
 first | rfl | simp [So,Code.weight,Code.isCreation,Code.isGuard,Code.isCaller,Code.frames,Sn,guardIds]
theorem b1n{A:Around}{kw:List (Str×Value)}:(A.under (.builtin "type.__call__" ⟨.ref C::us,kw⟩)).units=A.units+1:=by
 first | rfl | simp [So,Code.cUnits,Code.frames,Sn]
theorem c6.make(r:c6 (k+1) A)(C:Addr)(us:List Value)(kw:List (Str×Value)):c6 k (A.under (.builtin "type.__call__" ⟨.ref C::us,kw⟩)):=
 ⟨r.hd,by have:=r.dp;rw [b1o];ext this,by have:=r.un;rw [b1n];ext this⟩
theorem c6.depth(r:c6 k A):A.depth<recursionLimit:=by have:=r.dp;ext this
theorem c6.units(r:c6 k A):A.units+64<cLine:=by have:=r.un;ext this
def Ij:TA:=λ_ H Q=>Q [] H
def Ip(ta:TE)(tr:TA):TA:=λσ H Q=>ta σ H λx H1=>tr σ H1 λxs H2=>Q (x::xs) H2
section
variable {X:Cx}{e:Expr}{es:List Expr}{te:TE}{t:TA}{pos:Pos}
theorem rR:PA X [] Ij:=λ_ _ _ _ H Q I h=>Yj ⟨[],H,I,.nil,h⟩
theorem nW(ha:PE X e te)(hr:PA X es t)(hs:starEach (e::es) X.env=(false,eval e X.env)::starEach es X.env:=by rfl):PA X (e::es) (Ip te t):=by
 intro pos pins s σ H Q I h
 rw [hs]
 show wpAny _ _ (spliced ((false,eval e X.env)::backTo pos (starEach es X.env))) _ _ s
 refine X7 (cq (ha pins s σ H _ I h) λu s1 ⟨x,H1,I1,r1,q1⟩=>?_)
 exact cq (hr pos pins s1 σ H1 _ I1 q1) λus s2 ⟨xs,H2,I2,r2,q2⟩=>⟨x::xs,H2,I2,.cons r1 r2,q2⟩
def Qh(t:TA):TE:=λσ H Q=>t σ H λxs H1=>xs.length<=sizeLine/\∀p,H1 p=none->Q (.ref p) (upd H1 p (.tup xs))
def Ql(t:TA):TE:=λσ H Q=>t σ H λxs H1=>xs.length<=sizeLine/\∀p,H1 p=none->Q (.ref p) (upd H1 p (.lst xs))
theorem Y'{x1}(h:PA X es t):PE X (.Tuple es x1 pos) (Qh t):=by
 intro pins s σ H Q I hq
 refine wpAny_Tuple_spliced (cq (h pos pins s σ H _ I hq) λus s1 ⟨xs,H1,I1,r,z,q⟩=>⟨by rw [<-r.length];exact z,?_⟩)
 have hf:H1 s1.heap.objs.size=none:=I1.cw.fresh (cT _)
 refine ⟨.ref s1.heap.objs.size,upd H1 s1.heap.objs.size (.tup xs),I1.laid (t':=s1.toks) (λb u e=>gg _ e) (cT _) ?_,rfl,q _ hf⟩
 exact ⟨z,us,r,⟨_,lO _ rfl,rfl,_,rfl⟩⟩
theorem b8p(h:PA X es t):PE X (.List es pos) (Ql t):=by
 intro pins s σ H Q I hq
 refine wpAny_List_spliced (cq (h pos pins s σ H _ I hq) λus s1 ⟨xs,H1,I1,r,z,q⟩=>⟨by rw [<-r.length];exact z,?_⟩)
 have hf:H1 s1.heap.objs.size=none:=I1.cw.fresh (cT _)
 refine ⟨.ref s1.heap.objs.size,upd H1 s1.heap.objs.size (.lst xs),I1.laid (t':=s1.toks) (λb u e=>gg _ e) (cT _) ?_,rfl,q _ hf⟩
 exact ⟨z,us,0,r,lO _ rfl⟩
end
abbrev Sp:=List V->Hp->VK->XK->Prop
abbrev yg:=List Env->Hp->Shared->XK->Value->Shared->Prop
structure ux(P:Program)(w:World)(K:aQ)(mg:Str->Option Value)(base:Heap)(A:Around)(outer:List Env)(s:Shared)(H:Hp):Prop where
 frames:A.frames=some outer
 mod:Mod K mg base
 bs:∀b o,base.get? b=some o->s.heap.get? b=some o/\H b=none
 C4:base.objs.size<=s.heap.objs.size
 l7:s.heap.FunFrames base outer
 Fp:∀b∈Ap outer,H b=none
 cw:jX P w H s.heap
 bare:AllBare s.gens
def CE(outer:List Env)(P:Program)(w:World)(H:Hp)(s:Shared)(Q:VK)(u:Value)(s':Shared):Prop:=
 ∃v H',s'.os=s.os/\AllBare s'.gens/\Un (Ap outer) [] H H' s.heap s'.heap/\jX P w H' s'.heap/\RelV v u/\Q v H'
def CR(CX:yg)(outer:List Env)(P:Program)(w:World)(H:Hp)(s:Shared)(Q:VK)(E:XK)(r:Result)(s':Shared):Prop:=
 match r with
 | .ok (.ret u)=>CE outer P w H s Q u s'
 | .ok _=>False
 | .error e=>CX outer H s E e s'
structure cR(P:Program)(w:World)(K:aQ)(mg:Str->Option Value)(base:Heap)(CX:yg)(k:Nat)(f:Addr)(fd:FuncData)(ps:List Str)(sp:Sp):Prop where
 len:∀vs H Q E,sp vs H Q E->vs.length=ps.length
 run:∀(A:Around) (outer:List Env) (s:Shared) (H:Hp) (args:Args) (us:List Value) (vs:List V) (Q:VK) (E:XK),c6 k A->ux P w K mg base A outer s H->BindsTo s fd args (ps.zip us)->aV vs us->sp vs H Q E ->
  codeAny (model P w) A (.call (.ref f) args) (CR CX outer P w H s Q E) s
theorem cR.mono{P:Program}{w:World}{K:aQ}{mg:Str->Option Value}{base:Heap}{CX:yg}{j k:Nat}{f:Addr}{fd:FuncData}{ps:List Str}{sp:Sp}(F:cR P w K mg base CX j f fd ps sp)(h:j<=k):
  cR P w K mg base CX k f fd ps sp:=⟨F.len,λA outer s H args us vs Q E hr=>F.run A outer s H args us vs Q E (hr.mono h)⟩
theorem cR.imp{P:Program}{w:World}{K:aQ}{mg:Str->Option Value}{base:Heap}{CX:yg}{k:Nat}{f:Addr}{fd:FuncData}{ps:List Str}{sp WH:Sp}(F:cR P w K mg base CX k f fd ps sp)
  (h:∀vs H Q E,WH vs H Q E->sp vs H Q E):cR P w K mg base CX k f fd ps WH:=
 ⟨λvs H Q E q=>F.len vs H Q E (h _ _ _ _ q),λA outer s H args us vs Q E hr he hb hv hs=>F.run A outer s H args us vs Q E hr he hb hv (h _ _ _ _ hs)⟩
theorem ux.make{P:Program}{w:World}{K:aQ}{mg:Str->Option Value}{base:Heap}{A:Around}{outer:List Env}{s:Shared}{H:Hp}(e:ux P w K mg base A outer s H)(C:Addr)(us:List Value)(kw:List (Str×Value)):
  ux P w K mg base (A.under (.builtin "type.__call__" ⟨.ref C::us,kw⟩)) outer s H:=⟨by first | exact e.frames | (simpa [So,Code.envs,Sn,pushEnvs] using e.frames),e.mod,e.bs,e.C4,e.l7,e.Fp,e.cw,e.bare⟩
section
variable {X:Cx}{pins:List (Addr×Obj)}{σ:St}{H:Hp}{s s':Shared}
theorem Inv.l8(I:Inv X pins σ H s):ux X.prog X.w X.K X.mg X.base X.A X.stack s H:=
 ⟨I.ok.frames,I.ok.mod,I.bs,l9 I.ok.C4 I.sz,I.stack,I.uy,I.cw,I.bare⟩
theorem Inv.after(I:Inv X pins σ H s)(h:CE X.stack X.prog X.w H s Q u s'):EP X pins σ Q u s':=by
 obtain ⟨v,H',os,bare,un,cw,r,q⟩:=h
 obtain ⟨hh,g,d,t,QI⟩:=s'
 obtain rfl:QI=s.os:=os
 exact ⟨v,H',I.call (h':=hh) (g':=g) (d':=d) (t':=t) (ch:=[]) un cw bare (λb z=>absurd z (by simp)),r,q⟩
end
def Ua(sp:Sp)(dvs:List V)(E:XK)(t:TA):TE:=λσ H Q=>t σ H λvs H1=>sp (vs++dvs) H1 Q E
def Il(C:Addr)(sp:Sp)(dvs:List V)(E:XK)(t:TA):TE:=λσ H Q=>t σ H λvs H1=>∀x dx,H1 x=none->H1 dx=none->dx≠x ->
 sp (.ref x::(vs++dvs)) (upd (upd H1 dx (.own x)) x (.ins C dx [])) (λv H2=>v=.b8/\Q (.ref x) H2) E
def Binds(K:aQ)(fd:FuncData)(ps:List Str)(ds:List Value):Prop:=
 ∀(s:Shared) (us:List Value),K.In s.heap->(us++ds).length=ps.length->BindsTo s fd ⟨us,[]⟩ (ps.zip (us++ds))
theorem Binds.all{K:aQ}{fd:FuncData}{ps:List Str}(h:∀us:List Value,us.length=ps.length->bindArgs fd ⟨us,[]⟩=pure (ps.zip us)):Binds K fd ps []:=λs us _ hl=>by
 rw [vK] at hl ⊢
 exact .of_eq (h us hl)
def Lq(CX:yg)(X:Cx)(E:XK):Prop:=∀(pins:List (Addr×Obj)) (σ:St) (H:Hp) (s:Shared) (e:Value) (s':Shared),Inv X pins σ H s->CX X.stack H s E e s'->X.xe e s'
section
variable {X:Cx}{CX:yg}{k:Nat}{f C:Addr}{fd:FuncData}{ps:List Str}{sp:Sp}{dvs:List V}{ds:List Value}{E:XK}{x m:Str}{p pos apos:Pos}{e o:Expr}{es:List Expr}{ta:TE}{t:TA}
theorem N2{pins:List (Addr×Obj)}{σ:St}{H:Hp}{s:Shared}{Q:VK}{us:List Value}{vs:List V}(F:cR X.prog X.w X.K X.mg X.base CX k f fd ps sp)(hr:c6 k X.A)(hb:Binds X.K fd ps ds)(hd:aV dvs ds)(hx:Lq CX X E)
  (I:Inv X pins σ H s)(r:aV vs us)(h:sp (vs++dvs) H Q E):wpAny (model X.prog X.w) X.A (call (.ref f) us) (EP X pins σ Q) X.xe s:=by
 have r2:aV (vs++dvs) (us++ds):=r.append hd
 have hl:(us++ds).length=ps.length:=by rw [<-r2.length];exact F.len _ _ _ _ h
 refine Nf (DR (F.run X.A X.stack s H ⟨us,[]⟩ (us++ds) (vs++dvs) Q E hr I.l8 (hb s us I.kU hl) r2 h) λr s' hq=>?_)
 cases r with
 | error e=>exact hx pins σ H s e s' I hq
 | ok fl =>
  cases fl with
  | ret u=>exact I.after hq
  | next=>exact qw hq
  | brk=>exact qw hq
  | cont=>exact qw hq
theorem ZP(F:cR X.prog X.w X.K X.mg X.base CX k f fd ps sp)(hr:c6 k X.A)(hg:Gl X x)(hm:X.mg x=some (.ref f))(hk:BG X.K (.ref f)=true)(hb:Binds X.K fd ps ds)(hd:aV dvs ds)(hx:Lq CX X E)
  (ha:PA X (e::es) t)(lz:(x==("__debug__":Str))=false:=by decide)(he:starEach (e::es) X.env=(false,eval e X.env)::starEach es X.env:=by rfl)(g8:(backTo pos (starEach es X.env)).any (·.1)=false:=by rfl):
  PE X (.Call (.Name x p) (e::es) [] pos) (Ua sp dvs E t):=by
 intro pins s σ H Q I h
 refine KR (OC I hg hm ?_ lz)
 refine NB (h₀:=X.base) I.ok.mod.Gv hk (cq (ha pos pins s σ H _ I h) λus s1 ⟨vs,H1,I1,r,q⟩=>⟨I1.kU,?_⟩) he g8
 exact N2 F hr hb hd hx I1 r q
structure Mk(K:aQ)(C f:Addr):Prop where
 makes:XN K C=true
 init:mw K (.ref C) "__init__" = some (some (.ref f))
 fn:Sr K (.ref f)=true
 kp:BG K (.ref C)=true
theorem b3D{pins:List (Addr×Obj)}{σ:St}{H:Hp}{s:Shared}{Q:VK}{us:List Value}{vs:List V}(M:Mk X.K C f)(F:cR X.prog X.w X.K X.mg X.base CX k f fd ps sp)(hr:c6 (k+1) X.A)(hb:Binds X.K fd ps ds)(hd:aV dvs ds)
  (hx:Lq CX X E)(I:Inv X pins σ H s)(r:aV vs us)
  (h:∀x dx,H x=none->H dx=none->dx≠x->sp (.ref x::(vs++dvs)) (upd (upd H dx (.own x)) x (.ins C dx [])) (λv H2=>v=.b8/\Q (.ref x) H2) E):
  wpAny (model X.prog X.w) X.A (call (.ref C) us) (EP X pins σ Q) X.xe s:=by
 have hq:=h (s.heap.objs.size+1) s.heap.objs.size (I.cw.fresh (DU _)) (I.cw.fresh (cT _)) (iE (qz _))
 have I2:=Inv.made (C:=C) I
 have r2:aV (V.ref (s.heap.objs.size+1)::(vs++dvs)) (fq (s.heap.objs.size+1)::(us++ds)):=.cons rfl (r.append hd)
 have hl:(fq (s.heap.objs.size+1)::us++ds).length=ps.length:=by
  have e:=r2.length
  rw [F.len _ _ _ _ hq] at e
  exact e.symm
 refine Nf (b3Z (f:=f) I.kU M.makes M.init (beq_iff_eq.mp M.fn) (DR (F.run _ X.stack _ _ ⟨fq (s.heap.objs.size+1)::us,[]⟩ (fq (s.heap.objs.size+1)::(us++ds)) _ _ E (hr.make C us [])
  (I2.l8.make C us []) (hb _ (fq (s.heap.objs.size+1)::us) I2.kU hl) r2 hq) λr s' gj=>?_))
 cases r with
 | error e=>exact hx pins σ _ _ e s' I2 gj
 | ok fl =>
  cases fl with
  | ret u =>
   obtain ⟨v,H',I3,rv,ev,q3⟩:=I2.after gj
   subst ev
   exact ⟨rv,⟨V.ref (s.heap.objs.size+1),H',I3,rfl,q3⟩⟩
  | next=>exact qw gj
  | brk=>exact qw gj
  | cont=>exact qw gj
theorem b56(M:Mk X.K C f)(F:cR X.prog X.w X.K X.mg X.base CX k f fd ps sp)(hr:c6 (k+1) X.A)(hg:Gl X x)(hm:X.mg x=some (.ref C))(hb:Binds X.K fd ps ds)(hd:aV dvs ds)(hx:Lq CX X E)
  (ha:PA X (e::es) t)(lz:(x==("__debug__":Str))=false:=by decide)(he:starEach (e::es) X.env=(false,eval e X.env)::starEach es X.env:=by rfl)(g8:(backTo pos (starEach es X.env)).any (·.1)=false:=by rfl):
  PE X (.Call (.Name x p) (e::es) [] pos) (Il C sp dvs E t):=by
 intro pins s σ H Q I h
 refine KR (OC I hg hm ?_ lz)
 refine NB (h₀:=X.base) I.ok.mod.Gv M.kp (cq (ha pos pins s σ H _ I h) λus s1 ⟨vs,H1,I1,r,q⟩=>⟨I1.kU,?_⟩) he g8
 exact b3D M F hr hb hd hx I1 r q
end
section
variable {X:Cx}{CX:yg}{k:Nat}{f C:Addr}{fd:FuncData}{ps ks:List Str}{sp:Sp}{E:XK}{x m:Str}{p pos apos kpos:Pos}{e o:Expr}{es:List Expr}{kws:List Keyword}{te ta:TE}{t tk:TA}{nm:Option Str}
variable {g:List Value->List Value->List Value}{gV:List V->List V->List V}
end
structure de(N P:List Str)(sc:Scope):Prop where
 kind:sc.kind=.function
 co:sc.isCoroutine=false
 gen:sc.isGenerator=false
 nd:N.Nodup
 pre:N.take P.length=P
 par:∀x∈P,sc.names.lookup x=some .local\/sc.names.lookup x=some .cell
 EZ:∀y∈sc.names,y.2≠.free
theorem a9h{kindOf:Str->Option NameKind}{x:Str}:∀{binds:List (Str×Value)} {m:Str->Option Value},(∀v,(x,v)∉binds)->bindL kindOf binds m x=m x
 | [],_,_=>rfl
 | (n,v)::r,m,h=>by
  unfold bindL
  rw [a9h λw hw=>h w (jU _ hw)]
  split
  .have:x≠n:=by rintro rfl;exact h v jL
   simp [this]
  .rfl
theorem a9j{kindOf:Str->Option NameKind}{x:Str}:∀{binds:List (Str×Value)} {m:Str->Option Value},(∀v,(x,v)∉binds)->bindC kindOf binds m x=m x
 | [],_,_=>rfl
 | (n,v)::r,m,h=>by
  unfold bindC
  rw [a9j λw hw=>h w (jU _ hw)]
  split
  .rfl
  .have:x≠n:=by rintro rfl;exact h v jL
   simp [this]
theorem a9i{kindOf:Str->Option NameKind}{x:Str}{v:Value}:∀{P:List Str} {vs:List Value} {i:Nat} {m:Str->Option Value},P.Nodup->P[i]?=some x->vs[i]?=some v->kindOf x=some .local ->
  bindL kindOf (P.zip vs) m x=some v
 | [],_,_,_,_,h,_,_=>by simp at h
 | _::_,[],_,_,_,_,h,_=>by simp at h
 | p::P,w::vs,0,m,nd,h1,h2,hk=>by
  simp at h1 h2;subst h1;subst h2
  show bindL kindOf ((p,w)::P.zip vs) m p=_
  unfold bindL
  rw [a9h λv hv=>(Nh.mp nd).1 (Ng hv).1,if_pos hk]
  simp
 | p::P,w::vs,i+1,m,nd,h1,h2,hk=>by
  show bindL kindOf ((p,w)::P.zip vs) m x=_
  unfold bindL
  exact a9i (i:=i) (Nh.mp nd).2 (by simpa using h1) (by simpa using h2) hk
theorem a9k{kindOf:Str->Option NameKind}{x:Str}{v:Value}:∀{P:List Str} {vs:List Value} {i:Nat} {m:Str->Option Value},P.Nodup->P[i]?=some x->vs[i]?=some v->kindOf x≠some .local ->
  bindC kindOf (P.zip vs) m x=some v
 | [],_,_,_,_,h,_,_=>by simp at h
 | _::_,[],_,_,_,_,h,_=>by simp at h
 | p::P,w::vs,0,m,nd,h1,h2,hk=>by
  simp at h1 h2;subst h1;subst h2
  show bindC kindOf ((p,w)::P.zip vs) m p=_
  unfold bindC
  rw [a9j λv hv=>(Nh.mp nd).1 (Ng hv).1,if_neg hk]
  simp
 | p::P,w::vs,i+1,m,nd,h1,h2,hk=>by
  show bindC kindOf ((p,w)::P.zip vs) m x=_
  unfold bindC
  exact a9k (i:=i) (Nh.mp nd).2 (by simpa using h1) (by simpa using h2) hk
def start(N:List Str)(vs:List V):St:=vs.map some++oa (N.length-vs.length) none
def oW(CX:yg)(P:Program)(w:World)(K:aQ)(mg:Str->Option Value)(base:Heap)(N:List Str)(qual:Str)(scope:Scope)(f:Addr)(cd:Value)(A:Around)(outer:List Env)(s:Shared)(H:Hp)(E:XK):Cx where
 prog:=P
 w:=w
 K:=K
 mg:=mg
 base:=base
 A:=A.deeper (envOfC qual scope s.heap.objs.size f cd)
 N:=N
 fQ:=s
 A3:=H
 env:=envOfC qual scope s.heap.objs.size f cd
 outer:=outer
 stack:=envOfC qual scope s.heap.objs.size f cd::outer
 ex:=[]
 calm:=true
 fn:=λ_=>true
 pn:=[]
 xe:=λe s'=>wpAny (model P w) (A.deeper (envOfC qual scope s.heap.objs.size f cd)) (leaving (envOfC qual scope s.heap.objs.size f cd) e) (λ_ IE=>CX outer H s E e IE) (λe' IE=>CX outer H s E e' IE) s'
theorem b0M{sc:Scope}{n:Nat}{x:Str}(h:sc.names.lookup x=some .cell):∃c,(cellsFrom n sc.names []).lookup x=some c:=by
 have q:=X2 sc.names n [] (.inl h)
 exact Tz.mp q
theorem b2C{CX:yg}{P:Program}{w:World}{K:aQ}{mg:Str->Option Value}{base:Heap}{N ps:List Str}{qual:Str}{scope:Scope}{f:Addr}{cd:Value}{A:Around}{outer:List Env}{s s1:Shared}{H:Hp}{E:XK}{us:List Value}{vs:List V}
  (S:de N ps scope)(hd:A.handled=none)(e0:ux P w K mg base A outer s H)(hl:vs.length=ps.length)(r:aV vs us)
  (x:InCallC s s.heap.objs.size (bindL (envOfC qual scope s.heap.objs.size f cd).kindOf (ps.zip us) λ_=>none) (cellsFrom (s.heap.objs.size+1) scope.names []) (bindC (envOfC qual scope s.heap.objs.size f cd).kindOf (ps.zip us) λ_=>none) s1):
  Inv (oW CX P w K mg base N qual scope f cd A outer s H E) [] (start N vs) H s1:=by
 have g8:ps.length<=N.length:=by have:=congrArg GJ S.pre;rw [oY] at this;ext this
 obtain ⟨h1,tk,rfl,hk⟩:=x.done
 have QP:∀b:Addr,b∉(oW CX P w K mg base N qual scope f cd A outer s H E).ex:=λb z=>absurd (show b∈([]:List Addr) from z) (by simp)
 refine ⟨⟨e0.mod,S.kind,rfl,rfl,cT _,λy z c h1 h2=>?_,λy hy=>?_,λy c _ h=>?_,λ_=>hd,Around.frames_deeper e0.frames,.inr ⟨rfl,rfl⟩,λb z=>absurd z (QP b),e0.bs,e0.C4,λb _ _=>QP b,λb z=>absurd z (QP b),e0.l7,e0.Fp⟩,
  rfl,e0.bare,Un.kept hk,⟨_,x.toInCall.ns,λi y v h1 h2 h3=>?_⟩,λy c h=>⟨_,x.cell y c h⟩,e0.cw.fresh (cT _),λy c h=>?_,λp hp=>absurd (show p∈([]:List (Addr×Obj)) from hp) (by simp),e0.cw.kept hk,?_⟩
 .exact name_of_addr x.apart (G4 h1) (G4 h2)
 .have hy:scope.names.lookup y=some .cell\/scope.names.lookup y=some .free:=hy
  rcases hy with hy | hy
  .exact b0M hy
  .exact absurd rfl (S.EZ _ (G4 hy))
 .exact DS (x.above y c (G4 h))
 .have hi:i<vs.length:=by
   unfold start at h2
   by_cases hi:i<vs.length
   .exact hi
   .rw [C2 (by simpa using hi)] at h2
    rw [GZ] at h2
    split at h2<;>cases h2
  have ha:vs[i]?=some v:=by
   unfold start at h2
   rw [FO (by simpa using hi),vL] at h2
   cases e:vs[i]? with
   | none=>rw [e] at h2;cases h2
   | some a=>rw [e] at h2;cases h2;rfl
  obtain ⟨u,hu,rv⟩:=r.get ha
  have hp:ps[i]?=some y:=by
   rw [<-S.pre,List.getElem?_take_of_lt (by ext hl hi)];exact h1
  have WY:ps.Nodup:=by rw [<-S.pre];exact S.nd.sublist (List.take_sublist _ _)
  refine ⟨u,rv,?_⟩
  rcases S.par y (S4 hp) with k | k
  .exact .inl ⟨k,a9i WY hp hu k⟩
  .obtain ⟨c,e⟩:=b0M (n:=s.heap.objs.size+1) k
   refine .inr ⟨.inl k,c,e,?_⟩
   have q:=x.cell y c e
   rw [a9k WY hp hu (by show scope.names.lookup y≠_;rw [k];decide)] at q
   exact q
 .exact e0.cw.fresh (DS (x.above y c (G4 h)))
 .unfold start
  show _=N.length
  rw [fZ,eD,Nw]
  ext hl g8
theorem Kk{CX:yg}{P:Program}{w:World}{K:aQ}{mg:Str->Option Value}{base:Heap}{k:Nat}{f:Addr}{name qual:Str}{params:Arguments}{body:List Stmt}{scope:Scope}{dV kV doc pm gf ct oc:Value}{an od:Option Addr}
  {Dx:Array (Option Value)}{N ps:List Str}{sp:Sp}(lk:K.lookup f=some ⟨oc,od,.func (nS name qual params body scope dV kV doc pm an gf ct),Dx⟩)(dN:KI K gf qual=true)(S:de N ps scope)
  (len:∀vs H Q E,sp vs H Q E->vs.length=ps.length)
  (cY:∀(A:Around) (outer:List Env) (s:Shared) (H:Hp) (vs:List V) (Q:VK) (E:XK),c6 k (A.deeper (envOfC qual scope s.heap.objs.size f gf))->sp vs H Q E ->
   ∃t,rT (oW CX P w K mg base N qual scope f gf A outer s H E) body t/\t { nx:=λ_ H'=>Q .b8 H',rt:=Q } (start N vs) H):
  cR P w K mg base CX (k+1) f (nS name qual params body scope dV kV doc pm an gf ct) ps sp:=by
 refine ⟨len,λA outer s H args us vs Q E hr e0 hb r DC=>?_⟩
 have hl:=len _ _ _ _ DC
 have KX:K.In s.heap:=e0.mod.Gv.keeps λb o e=>(e0.bs b o e).1
 have lim:s.heap.NoLimit:=e0.mod.nolimit.keeps λb o e=>(e0.bs b o e).1
 have JP:∀y∈ps.zip us,scope.names.lookup y.1=some .local\/(scope.names.lookup y.1=some .cell/\((cellsFrom (s.heap.objs.size+1) scope.names []).lookup y.1).isSome=true):=λ⟨n,v⟩ hy=>by
  rcases S.par n (Ng hy).1 with q | q
  .exact .inl q
  .exact .inr ⟨q,X2 _ _ _ (.inl q)⟩
 refine codeAny_call_function hr.depth (KX _ _ lk) rfl S.co S.gen rfl (PySem.W.codeRec_of KX dN) (hb _ _ _ _ ?_)
 refine wpAny_newFunctionEnv_cells S.kind JP λenv he s1 x=>?_
 subst he
 refine ⟨lim.keeps x.toInCall.keep,codeAny_func ?_⟩
 obtain ⟨t,ht,hq⟩:=cY A outer s H vs Q E (hr.deeper _) DC
 have I:Inv (oW CX P w K mg base N qual scope f gf A outer s H E) [] (start N vs) H s1:=b2C S hr.hd e0 hl r x
 refine t5 (ht [] s1 (start N vs) H _ I hq) (λfl s' hs=>?_) λe s' hs=>hs
 have fin:∀{bz:St} {H':Hp} {v:V} {u:Value},Inv (oW CX P w K mg base N qual scope f gf A outer s H E) [] bz H' s'->RelV v u->Q v H'->CE outer P w H s Q u s':=
  λ{bz H' v u} J rv q=>⟨v,H',J.os,J.bare,J.base,J.cw,rv,q⟩
 cases fl with
 | ret u =>
  obtain ⟨v,bz,H',J,rv,q⟩:=hs
  exact fin J rv q
 | next =>
  obtain ⟨bz,H',J,q⟩:=hs
  exact fin (v:=V.b8) (u:=nQ) J rfl q
 | brk =>
  obtain ⟨_,_,_,q⟩:=hs
  exact qw q
 | cont =>
  obtain ⟨_,_,_,q⟩:=hs
  exact qw q
end L2
namespace L2
open PySem PySem.Spec PyProof.Rows
section
variable {X:Cx}{x:Str}{p pos:Pos}{e:Expr}{es:List Expr}{t:TA}{id T:String}{r:List V->Hp->VK->Prop}
def WD(r:List V->Hp->VK->Prop)(t:TA):TE:=λσ H Q=>t σ H λvs H1=>r vs H1 Q
theorem Ek(hc:ud X (.builtin id) r)(hg:Gl X x)(hm:X.mg x=none)(hv:bootBuiltins x=some (.builtin id))(ha:PA X (e::es) t)(hn:x ≠ "__name__":=by decide)(lz:(x==("__debug__":Str))=false:=by decide)
  (he:starEach (e::es) X.env=(false,eval e X.env)::starEach es X.env:=by rfl)(g8:(backTo pos (starEach es X.env)).any (·.1)=false:=by rfl):PE X (.Call (.Name x p) (e::es) [] pos) (WD r t):=by
 intro pins s σ H Q I h
 refine KR (F5 I hg hm hv ?_ hn lz)
 exact PyProof.Rows.callWith_builtin1 (cq (ha pos pins s σ H _ I h) λus s1 ⟨vs,H1,I1,r1,q1⟩=>hc pins s1 σ H1 vs us Q I1 r1 q1) he g8
theorem L7(hc:ud X (.type T) r)(hg:Gl X x)(hm:X.mg x=none)(hv:bootBuiltins x=some (.type T))(ha:PA X (e::es) t)(hn:x ≠ "__name__":=by decide)(lz:(x==("__debug__":Str))=false:=by decide)
  (he:starEach (e::es) X.env=(false,eval e X.env)::starEach es X.env:=by rfl)(g8:(backTo pos (starEach es X.env)).any (·.1)=false:=by rfl):PE X (.Call (.Name x p) (e::es) [] pos) (WD r t):=by
 intro pins s σ H Q I h
 refine KR (F5 I hg hm hv ?_ hn lz)
 exact NL (cq (ha pos pins s σ H _ I h) λus s1 ⟨vs,H1,I1,r1,q1⟩=>hc pins s1 σ H1 vs us Q I1 r1 q1) he g8
end
end L2
namespace HT
open PySem PyProof.Rows
section
open PySem.SeqAt
open PySem.AutoSeq1 (wpAny_loadPart')
open PySem.MeetsSeq PySem.MeetsSeq2 PySem.MeetsSeq3
end
section
variable {prog:Program}{w:World}{A:Around}{E:Value->Shared->Prop}{s:Shared}
theorem CP(ht:IsTup s.heap t vs.toArray)(hb:IsTup s.heap b ws.toArray)(hv:vs≠[])
  (h1:ws=[]->Q (.ref t) s)(h2:ws≠[]->Q (.ref s.heap.objs.size) { s with heap:=s.heap.push { cls:=.type "tuple",data:=.seq (vs++ws).toArray } })
  (hsz:vs.length+ws.length<=sizeLine):wpAny (model prog w) A (binaryOp .Add (.ref t) (.ref b)) Q E s:=by
 obtain ⟨⟨cls,dd,data,sl⟩,ho,hc,n,hd⟩:=id ht
 obtain ⟨⟨R8,M2,data2,IA⟩,E',JY,n2,hd2⟩:=id hb
 simp only at hc hd JY hd2
 subst hc hd JY hd2
 have e:vs.toArray++ws.toArray=(vs++ws).toArray:=by simp
 by_cases hw:ws=[]
 .exact concat_meets ⟨_,ho,rfl⟩ ⟨_,E',rfl⟩ SK SQ S' Tu (Tw _ _)
   (tuple_addW1 t b vs.toArray ws.toArray n n2 dd M2 sl IA (by simpa using hv) (by simp [hw])) ⟨ho,E',h1 hw⟩
 .refine concat_meets ⟨_,ho,rfl⟩ ⟨_,E',rfl⟩ SK SQ S' Tu (Tw _ _)
   (tuple_addW2 t b vs.toArray ws.toArray n n2 dd M2 sl IA (by simpa using hv) (by simpa using hw) (by rw [iJ,iJ];exact hsz)) ⟨ho,E',?_⟩
  rw [e]
  exact h2 hw
def df(n d:Nat):Option Int->Nat
 | none=>d
 | some v=>if v<0 then (v+(n:Int)).toNat else min v.toNat n
theorem pZ(n d:Nat):df n d none=d:=rfl
theorem B6(n d k:Nat):df n d (some (k:Int))=min k n:=by
 show (if (k:Int)<0 then ((k:Int)+(n:Int)).toNat else min (k:Int).toNat n)=min k n
 rw [if_neg (by ext),G6]
theorem b79(n d:Nat)(hd:d<=n)(o:Option Int):df n d o<=n:=by
 cases o with
 | none=>exact hd
 | some v =>
  show (if v<0 then (v+(n:Int)).toNat else min v.toNat n)<=n
  by_cases hv:v<0
  .rw [if_pos hv];ext hv
  .rw [if_neg hv];exact Nat.min_le_right _ _
theorem ZF(v:Int)(n d:Nat):(if v<0 then max (v+(n:Int)) 0 else min v (n:Int))=((df n d (some v):Nat):Int):=by
 show (if v<0 then max (v+(n:Int)) 0 else min v (n:Int))=(((if v<0 then (v+(n:Int)).toNat else min v.toNat n):Nat):Int)
 by_cases hv:v<0
 .simp only [if_pos hv];ext
 .simp only [if_neg hv];ext hv
theorem b1z(lo hi:Option Int)(n:Nat):TB lo hi 1 (n:Int)=(((df n 0 lo:Nat):Int),((df n n hi:Nat):Int)):=by
 have h1:¬((1:Int)<0):=by decide
 unfold TB
 simp only [h1,if_false]
 refine Prod.ext ?_ ?_
 .cases lo with
  | none=>rfl
  | some v=>exact ZF v n 0
 .cases hi with
  | none=>rfl
  | some v=>exact ZF v n n
theorem b02(i j:Nat):NP (i:Int) (j:Int) 1=j-i:=by
 unfold NP
 have h1:(1:Int)>0:=by decide
 simp only [h1,if_true,Int.ediv_one]
 split<;>lia
theorem a7y(p:IsPart v o)(h:Q o s):wpAny (model prog w) A (Builtin.Slice.slicePartIndex v) Q E s:=by
 cases p with
 | none=>exact slicePart_none h
 | int i t=>exact slicePart_int h
theorem a6f{lo hi:Option Int}{n:Nat}(hs:s.heap.IsSliceOf sl vl vu .none)(pl:IsPart vl lo)(pu:IsPart vu hi)
  (h:Q (((df n 0 lo:Nat):Int),1,df n n hi-df n 0 lo) s):wpAny (model prog w) A (Yp (.ref sl) (pure (n:Int))) Q E s:=by
 obtain ⟨os,E8,Xm,MU⟩:=id hs
 unfold Yp Builtin.Slice.sliceFields
 refine aM (aM (wpAny_field E8 MU (x:=vl) rfl (aM (wpAny_field E8 MU (x:=vu) rfl (aM (wpAny_field E8 MU (x:=.none) rfl (cp ?_)))))))
 refine aM (slicePart_none ?_)
 show wpAny _ _ (if ((1:Int)==0)=true then _ else _) _ _ s
 rw [if_neg (by decide)]
 refine aM (a7y pl (aM (a7y pu (aM (cp ?_)))))
 show wpAny _ _ (match TB lo hi 1 (n:Int) with | (lo,hi)=>pure (lo,(1:Int),NP lo hi 1)) _ _ s
 rw [b1z lo hi n]
 show wpAny _ _ (pure (((df n 0 lo:Nat):Int),(1:Int),NP ((df n 0 lo:Nat):Int) ((df n n hi:Nat):Int) 1)) _ _ s
 rw [b02]
 exact cp h
theorem b3M(xs:Array Value)(i k:Nat):((pO k).filterMap λ(m:Nat)=>xs[((i:Int)+(m:Int)*1).toNat]?).toArray=((xs.toList.drop i).take k).toArray:=by
 have e:(λ(m:Nat)=>xs[((i:Int)+(m:Int)*1).toNat]?)=λm=>xs[i+m]?:=by
  funext m
  have:((i:Int)+(m:Int)*1).toNat=i+m:=by ext
  rw [this]
 rw [e]
 have:=pick_run xs i k
 rw [List.filterMap_map] at this
 have e2:((λx=>xs[x]?)∘λx=>i+x)=λm=>xs[i+m]?:=rfl
 rw [e2] at this
 rw [this]
theorem ko{items:Array Value}{lo hi:Option Int}(ht:IsTup s.heap t items)(hs:s.heap.IsSliceOf sl vl vu .none)(pl:IsPart vl lo)(pu:IsPart vu hi)
  (hw:¬(df items.size 0 lo=0/\df items.size items.size hi=items.size))
  (h:Q (.ref s.heap.objs.size) { s with heap:=s.heap.push { cls:=.type "tuple",data:=.seq ((items.toList.drop (df items.size 0 lo)).take (df items.size items.size hi-df items.size 0 lo)).toArray } })
  (hsz:items.size<=sizeLine):wpAny (model prog w) A (getItem (.ref t) (.ref sl)) Q E s:=by
 have vf:sizeOk (.seq ((items.toList.drop (df items.size 0 lo)).take (df items.size items.size hi-df items.size 0 lo)).toArray):=by
  show ((items.toList.drop (df items.size 0 lo)).take (df items.size items.size hi-df items.size 0 lo)).toArray.size<=sizeLine
  rw [iJ,oY,BL,kx]
  ext hsz
 have hj:df items.size items.size hi<=items.size:=b79 _ _ (cT _) hi
 obtain ⟨os,E8,Xm,MU⟩:=id hs
 have J5:s.TypeIs (.ref sl) "slice":=⟨os,E8,Xm⟩
 unfold getItem
 try with_reducible refine zj ?_
 first | refine aM (cp ?_) | skip
 refine aM (wpAny_sequenceKey ht.typeIs (by decide) ?_)
 refine aM (NA (name:=M5 "__getitem__") ht.typeIs NM
  (FH NM ht.typeIs entry_tuple_getitem ?_ (args_tuple_getitem _ _)))
 show wpAny _ _ (Builtin.Tuple.tupleItemsOf (.ref t) >>= _) _ _ s
 refine aM (tupleItemsOf_ ht ?_)
 refine aM (wpAny_typeOf J5 ?_)
 rw [if_pos (by decide)]
 refine aM (a6f hs pl pu ?_)
 have Ah:¬((((df items.size 0 lo:Nat):Int)==0&&(1:Int)==1&&(df items.size items.size hi-df items.size 0 lo)==items.size)=true):=by
  intro q
  rw [DV,DV] at q
  have q1:((df items.size 0 lo:Nat):Int)=0:=eq_of_beq q.1.1
  have q2:df items.size items.size hi-df items.size 0 lo=items.size:=eq_of_beq q.2
  exact hw ⟨by ext q1,by ext q1 q2⟩
 show wpAny _ _ (if (((df items.size 0 lo:Nat):Int)==0&&(1:Int)==1&&(df items.size items.size hi-df items.size 0 lo)==items.size)=true then _ else _) _ _ s
 rw [if_neg Ah,b3M]
 first
  | exact aM (m:=NN _) (AK (cp ⟨_,rfl,cp h⟩) vf)
  | exact aM (m:=NN _) (AK (aM (cp (cp ⟨_,rfl,cp h⟩))) vf)
  | exact aM (aM (m:=NN _) (AK (cp (cp ⟨_,rfl,cp h⟩)) vf))
  | exact aM (aM (m:=NN _) (AK (cp ⟨_,rfl,cp h⟩) vf))
end
end HT
namespace L2
open PySem PySem.Spec PyProof.Rows
abbrev TO:=St->Hp->(Option Int->Hp->Prop)->Prop
def PO(X:Cx)(e:Option Expr)(t:TO):Prop:=
 ∀(pins:List (Addr×Obj)) (s:Shared) (σ:St) (H:Hp) (Q:Option Int->Hp->Prop),Inv X pins σ H s->t σ H Q ->
  wpAny (model X.prog X.w) X.A (evalPart e X.env) (λu s'=>∃o H',Inv X pins σ H' s'/\IsPart u o/\Q o H') X.xe s
def b5z:TO:=λ_ H Q=>Q none H
def Ig(t:TE):TO:=λσ H Q=>t σ H λx H1=>∃i,x=.int i/\Q (some i) H1
section
variable {X:Cx}{e:Expr}{te:TE}{lo hi:Option Expr}{tl th:TO}{pos p2:Pos}
theorem b52:PO X none b5z:=by
 intro pins s σ H Q I h
 rw [evalPart_none]
 exact cp ⟨none,H,I,.none,h⟩
theorem b51(h:PE X e te):PO X (some e) (Ig te):=by
 intro pins s σ H Q I hw
 rw [evalPart_some]
 refine cq (h pins s σ H _ I hw) λu s1 ⟨x,H1,I1,r1,q1⟩=>?_
 obtain ⟨i,rfl,q⟩:=q1
 obtain ⟨t,rfl⟩:=r1
 exact ⟨some i,H1,I1,.int i t,q⟩
def Gh(X:Cx)(r:V->Option Int->Option Int->Hp->VK->Prop):Prop:=
 ∀(pins:List (Addr×Obj)) (s:Shared) (σ:St) (H:Hp) (x:V) (v vl vu:Value) (lo hi:Option Int) (sl:Addr) (Q:VK),Inv X pins σ H s->RelV x v->s.heap.IsSliceOf sl vl vu .none->IsPart vl lo->IsPart vu hi->r x lo hi H Q ->
  ∃T id,typeLookup (.type T) "__getitem__" = pure (some (.builtin id))/\s.TypeIs v T/\wpAny (model X.prog X.w) X.A (getItem v (.ref sl)) (EP X pins σ Q) X.xe s
theorem Gh.or(h:Gh X r)(h':Gh X r'):Gh X (λx lo hi H Q=>r x lo hi H Q\/r' x lo hi H Q):=by
 intro pins s σ H x v vl vu lo hi sl Q I rx hs pl pu q
 rcases q with q | q
 .exact h pins s σ H x v vl vu lo hi sl Q I rx hs pl pu q
 .exact h' pins s σ H x v vl vu lo hi sl Q I rx hs pl pu q
def tSl(r:V->Option Int->Option Int->Hp->VK->Prop)(te:TE)(tl th:TO):TE:=λσ H Q=>te σ H λx H1=>tl σ H1 λl H2=>th σ H2 λu H3=>r x l u H3 Q
theorem b3O(hr:Gh X r)(he:PE X e te)(hl:PO X lo tl)(hu:PO X hi th):PE X (.Subscript e (.Slice lo hi none p2) pos) (tSl r te tl th):=by
 intro pins s σ H Q I h
 refine Subscript_ (cq (he pins s σ H _ I h) λv s1 ⟨x,H1,I1,r1,q1⟩=>?_)
 refine wpAny_Slice (cq (hl pins s1 σ H1 _ I1 q1) λvl s2 ⟨l,H2,I2,pl,q2⟩=>cq (hu pins s2 σ H2 _ I2 q2) λvu s3 ⟨u,H3,I3,pu,q3⟩=>?_)
 rw [evalPart_none]
 refine cp ?_
 have I4:Inv X pins σ H3 { s3 with heap:=s3.heap.push { cls:=.type "slice",data:=.fields #[vl,vu,.none] } }:=I3.kept (t':=s3.toks) λb ob q=>gg _ q
 obtain ⟨T,id,hT,ht,hg⟩:=hr pins { s3 with heap:=s3.heap.push { cls:=.type "slice",data:=.fields #[vl,vu,.none] } } σ H3 x v vl vu l u s3.heap.objs.size Q I4 r1 (Heap.IsSliceOf.new ..) pl pu q3
 show wpAny (model X.prog X.w) X.A (subscriptTail e (.Slice lo hi none p2) v (.ref s3.heap.objs.size)) (EP X pins σ Q) X.xe { s3 with heap:=s3.heap.push { cls:=.type "slice",data:=.fields #[vl,vu,.none] } }
 exact tail_any (ops:=[.ref s3.heap.objs.size,v]) ht hT hg (by with_unfolding_all rfl)
def qr(xs:List V)(lo hi:Option Int):List V:=(xs.drop (HT.df xs.length 0 lo)).take (HT.df xs.length xs.length hi-HT.df xs.length 0 lo)
theorem a7c(xs:List V)(lo hi:Option Int):(qr xs lo hi).length<=xs.length:=by
 unfold qr
 rw [oY,BL]
 ext
def QC(K:aQ):V->Option Int->Option Int->Hp->VK->Prop:=λx lo hi H Q=>∃a xs,x=.ref a/\kK K H a xs /\
 ¬(HT.df xs.length 0 lo=0/\HT.df xs.length xs.length hi=xs.length)/\∀p,H p=none->Q (.ref p) (upd H p (.tup (qr xs lo hi)))
theorem b76:Gh X (QC X.K):=by
 intro pins s σ H x v vl vu lo hi sl Q I rx hs pl pu h
 obtain ⟨a,xs,rfl,hx,hw,q⟩:=h
 cases rx
 obtain ⟨aD,r,ht,hz⟩:=I.tuple hx
 have hlen:aD.toArray.size=xs.length:=by rw [iJ];exact r.length.symm
 refine ⟨"tuple",_,NM.lookup,ht.typeIs,?_⟩
 refine HT.ko ht hs pl pu (by rw [hlen];exact hw) ?_ (by rw [hlen];exact hz)
 rw [hlen]
 refine ⟨.ref s.heap.objs.size,_,I.laid (t':=s.toks) (o:=.tup (qr xs lo hi)) (λb ob q=>gg _ q) (cT _) ?_,rfl,q _ (I.cw.fresh (cT _))⟩
 exact ⟨l9 (a7c xs lo hi) hz,_,(r.drop (HT.df xs.length 0 lo)).take (HT.df xs.length xs.length hi-HT.df xs.length 0 lo),IsTup.new _ _⟩
def IQ(K:aQ):R2:=λx y H Q=>∃a b xs ys,x=.ref a/\y=.ref b/\kK K H a xs/\kK K H b ys/\xs≠[]/\xs.length+ys.length<=sizeLine /\
 (ys=[]->Q (.ref a) H)/\(ys≠[]->∀p,H p=none->Q (.ref p) (upd H p (.tup (xs++ys))))
theorem aV.jq(r:aV xs us):us=[]↔xs=[]:=by
 cases r with
 | nil=>simp
 | cons _ _=>simp
theorem Ce:lJ X (binaryOp .Add) (IQ X.K):=by
 intro pins s σ H x y v u Q I rx ry h
 obtain ⟨a,b,xs,ys,rfl,rfl,ha,hb,hx,hz,q1,q2⟩:=h
 cases rx
 cases ry
 obtain ⟨aD,r1,p1,_⟩:=I.tuple ha
 obtain ⟨gi,r2,p2,_⟩:=I.tuple hb
 refine HT.CP p1 p2 (λz=>hx (r1.jq.mp z)) (λz=>⟨.ref a,H,I,rfl,q1 (r2.jq.mp z)⟩) (λz=>?_) (by rw [<-r1.length,<-r2.length];exact hz)
 refine ⟨.ref s.heap.objs.size,_,I.laid (t':=s.toks) (o:=.tup (xs++ys)) (λb ob q=>gg _ q) (cT _) ?_,rfl,q2 (λw=>z (r2.jq.mpr w)) _ (I.cw.fresh (cT _))⟩
 exact ⟨by rw [fZ];exact hz,_,r1.append r2,IsTup.new _ _⟩
end
end L2
namespace L2
open PySem PySem.Spec PyProof.Rows
def rh(n:Nat)(i:Int):Option Nat:=if 0<=i then (if i<n then some i.toNat else none) else if -(n:Int)<=i then some (i+n).toNat else none
def iK{α:Type}(xs:List α)(i:Int):Option α:=(rh xs.length i).bind λj=>xs[j]?
theorem Zn(h:rh n i=some j):seqIndex? i n=some j/\j<n /\ -(n:Int)<=i/\i<n:=by
 unfold rh at h
 by_cases h0:0<=i
 .rw [if_pos h0] at h
  by_cases h1:i<n
  .rw [if_pos h1] at h
   have e:i.toNat=j:=gz h
   exact ⟨by rw [seqIndex_of h0 h1,e],by ext h0 h1 e,by ext h0,h1⟩
  .rw [if_neg h1] at h;cases h
 .rw [if_neg h0] at h
  by_cases h1:-(n:Int)<=i
  .rw [if_pos h1] at h
   have e:(i+n).toNat=j:=gz h
   exact ⟨by rw [seqIndex_neg (by ext h0) h1,e],by ext h0 h1 e,h1,by ext h0⟩
  .rw [if_neg h1] at h;cases h
theorem Uv{α:Type}{xs:List α}{i:Int}{v:α}(h:iK xs i=some v):∃j,seqIndex? i xs.length=some j/\xs[j]?=some v/\j<xs.length /\ -(xs.length:Int)<=i/\i<xs.length:=by
 unfold iK at h
 cases e:rh xs.length i with
 | none=>rw [e] at h;cases h
 | some j =>
  rw [e] at h
  obtain ⟨h1,h2,h3,h4⟩:=Zn e
  exact ⟨j,h1,h,h2,h3,h4⟩
def Zj(b:Expr):Prop:=∀o i,subscripted b false o i=operate [o,i] (getItem o i)
def Dt(X:Cx)(r:R2):Prop:=
 ∀(value slice:Expr) (pins:List (Addr×Obj)) (s:Shared) (σ:St) (H:Hp) (x y:V) (v u:Value) (Q:VK),Inv X pins σ H s->RelV x v->RelV y u->r x y H Q ->
  subscripted slice false v u=operate [v,u] (getItem v u)->wpAny (model X.prog X.w) X.A (subscriptTail value slice v u) (EP X pins σ Q) X.xe s
def MtR(X:Cx)(id:String)(r:V->List V->Hp->VK->Prop):Prop:=
 ∀(pins:List (Addr×Obj)) (s:Shared) (σ:St) (H:Hp) (x:V) (xs:List V) (v:Value) (us:List Value) (Q:VK),Inv X pins σ H s->RelV x v->aV xs us->r x xs H Q ->
  wpAny (model X.prog X.w) X.A (call (.builtin id) (v::us)) (EP X pins σ Q) X.xe s
section
variable {X:Cx}{a b:Expr}{ta tb:TE}{pos:Pos}
theorem Dt.or(h:Dt X r)(h':Dt X r'):Dt X (λx y H Q=>r x y H Q\/r' x y H Q):=by
 intro value slice pins s σ H x y v u Q I rx ry q hs
 rcases q with q | q
 .exact h value slice pins s σ H x y v u Q I rx ry q hs
 .exact h' value slice pins s σ H x y v u Q I rx ry q hs
theorem I0(hr:Dt X r)(ha:PE X a ta)(hb:PE X b tb)(hs:Zj b):PE X (.Subscript a b pos) (Ih r ta tb):=by
 intro pins s σ H Q I h
 exact Subscript_ (FT ha hb I h λv u s2 x y H2 I2 rx ry q=>hr a b pins s2 σ H2 x y v u Q I2 rx ry q (hs _ _))
def IP(K:aQ):R2:=λx y H Q=>∃p xs i v,x=.ref p/\y=.int i/\jm K H p xs/\iK xs i=some v/\Q v H
def IK(K:aQ):R2:=λx y H Q=>∃p xs i v,x=.ref p/\y=.int i/\kK K H p xs/\iK xs i=some v/\Q v H
def IM:R2:=λx y H Q=>∃z i c,x=.str z/\y=.int i/\z.length<=sizeLine/\iK z.cps.toList i=some c/\Q (.str ⟨#[c]⟩) H
theorem Co:Dt X (IP X.K):=by
 intro value slice pins s σ H x y v u Q I rx ry h hs
 obtain ⟨p,xs,i,z,rfl,rfl,hq,he,q⟩:=h
 cases rx
 obtain ⟨t,rfl⟩:=ry
 obtain ⟨aD,r,pl,hz⟩:=I.list hq
 obtain ⟨j,h1,h2,h3,h4,h5⟩:=Uv he
 obtain ⟨w,ew,Cc⟩:=r.get h2
 have hl:=r.length
 have hn:=Hk
 have fin:EP X pins σ Q w s:=⟨z,H,I,Cc,q⟩
 by_cases h0:0<=i
 .have hj:i.toNat=j:=by
   rw [seqIndex_of h0 h5] at h1
   exact gz h1
  exact item_listR pl.isList h0 (by ext hz h5 hn) (by rw [hj];simpa using ew) fin hs
 .have hj:(i+(aD.toArray.size:Int)).toNat=j:=by
   rw [seqIndex_neg (Nd.mp ‹_›) h4] at h1
   rw [iJ,<-hl]
   exact gz h1
  exact subscriptTail_builtinR (x:=w) pl.isList.typeIs slot_list_getitem.lookup
   (wpAny_getItem_list_neg (Q:=λr s'=>r=w/\EP X pins σ Q r s') pl.isList (Nd.mp ‹_›) (by rw [iJ]<;>lia) (by lia) (by rw [hj];simpa using ew) ⟨rfl,fin⟩) hs
theorem E5:Dt X (IK X.K):=by
 intro value slice pins s σ H x y v u Q I rx ry h hs
 obtain ⟨p,xs,i,z,rfl,rfl,hq,he,q⟩:=h
 cases rx
 obtain ⟨t,rfl⟩:=ry
 obtain ⟨aD,r,pl,hz⟩:=I.tuple hq
 obtain ⟨j,h1,h2,h3,h4,h5⟩:=Uv he
 obtain ⟨w,ew,Cc⟩:=r.get h2
 have hl:=r.length
 have hn:=Hk
 have fin:EP X pins σ Q w s:=⟨z,H,I,Cc,q⟩
 exact subscriptTail_builtinR (x:=w) pl.typeIs NM.lookup
  (getItem_tuple (j:=j) (Q:=λr s'=>r=w/\EP X pins σ Q r s') pl (by (clear he hs h1 h2 h5 ew;omega)) (by (clear he hs h1 h2 h4 ew;omega)) (by rw [iJ,<-hl];exact h1) (by simpa using ew) ⟨rfl,fin⟩) hs
theorem b8M:Dt X IM:=by
 intro value slice pins s σ H x y v u Q I rx ry h hs
 obtain ⟨z,i,c,rfl,rfl,hz,he,q⟩:=h
 obtain ⟨t,rfl⟩:=rx
 obtain ⟨t',rfl⟩:=ry
 obtain ⟨j,h1,h2,h3,h4,h5⟩:=Uv he
 have hl:z.cps.toList.length=z.length:=by simp [Str.length]
 rw [hl] at h1 h4 h5
 have hn:=Hk
 exact tail_any (typeIs_str s z t) slot_str_getitem.lookup (getItem_str (c:=c) (by
  have e1:decide (i < -(2^63:Int))=false:=decide_eq_false (by lia)
  have e2:decide (i≥2^63)=false:=decide_eq_false (by lia)
  rw [e1,e2,Bool.or_false]) (by rw [h1];simpa using h2) ⟨.str ⟨#[c]⟩,H,I.tok _,⟨_,rfl⟩,q⟩) hs
def rIx(K:aQ):R2:=λx y H Q=>IP K x y H Q\/IK K x y H Q\/IM x y H Q
theorem b8N:Dt X (rIx X.K):=Co.or (E5.or b8M)
theorem b1m(aD:List Value)(n j:Nat)(u:Value):t4 (·.setIfInBounds j u) { cls:=.type "list",data:=.seq aD.toArray n }={ cls:=.type "list",data:=.seq (aD.set j u).toArray n }:=by
 simp [t4]
theorem Inv.lst{pins:List (Addr×Obj)}{σ:St}{H:Hp}{s:Shared}{p:Addr}{xs:List V}(I:Inv X pins σ H s)(h:H p=some (.lst xs)):
  ∃(aD:List Value) (n:Nat),aV xs aD/\s.heap.get? p=some { cls:=.type "list",data:=.seq aD.toArray n }/\xs.length<=sizeLine:=by
 obtain ⟨z,aD,n,r,e⟩:=I.cw p _ h
 exact ⟨aD,n,r,e,z⟩
theorem Inv.E3{pins:List (Addr×Obj)}{σ:St}{H:Hp}{s:Shared}{p:Addr}{xs ys:List V}{aD its':List Value}{n n':Nat}{f:Obj->Obj}(I:Inv X pins σ H s)(h:H p=some (.lst xs))
  (ho:s.heap.get? p=some { cls:=.type "list",data:=.seq aD.toArray n })(hf:f { cls:=.type "list",data:=.seq aD.toArray n }={ cls:=.type "list",data:=.seq its'.toArray n' })(r:aV ys its')(hz:ys.length<=sizeLine)(t:Nat):
  Inv X pins σ (upd H p (.lst ys)) { s with heap:=s.heap.update p f,toks:=t }:=by
 have e:(s.heap.update p f).get? p=some { cls:=.type "list",data:=.seq its'.toArray n' }:=by
  rw [GW f ho (by rw [hf]<;>rfl),hf]
 refine I.write (x:=p) (e:=p) (by rw [h];trivial) (.inl rfl) (λb u hb q=>(BK _ _ (oX hb)).trans q) ⟨_,e⟩ ?_
 exact ⟨hz,its',n',r,e⟩
def IJ:V->V->V->Hp->(Hp->Prop)->Prop:=λo i v H Q=>∃p xs k j,o=.ref p/\i=.int k/\H p=some (.lst xs)/\rh xs.length k=some j/\Q (upd H p (.lst (xs.set j v)))
theorem b3A:Mm X IJ:=by
 intro pins s σ H o i v ov iv u Q I ro ri rv h
 obtain ⟨p,xs,k,j,rfl,rfl,hp,hj,q⟩:=h
 cases ro
 obtain ⟨t,rfl⟩:=ri
 obtain ⟨aD,n,r,ho,hz⟩:=I.lst hp
 obtain ⟨h1,h2,h3,h4⟩:=Zn hj
 have hl:=r.length
 have hn:=Hk
 have I':Inv X pins σ (upd H p (.lst (xs.set j v))) { s with heap:=s.heap.update p (t4 (·.setIfInBounds j u)) }:=
  I.E3 hp ho (b1m aD n j u) (r.set rv j) (by rw [List.length_set];exact hz) s.toks
 by_cases h0:0<=k
 .have hk:k.toNat=j:=by
   rw [seqIndex_of h0 h4] at h1
   exact gz h1
  exact PySem.W.ki_setAt ho h0 (by lia) (by rw [iJ,<-hl];exact h4) (by rw [hk];exact ⟨_,I',q⟩)
 .have hk:(k+(aD.toArray.size:Int)).toNat=j:=by
   rw [seqIndex_neg (Nd.mp ‹_›) h3] at h1
   rw [iJ,<-hl]
   exact gz h1
  exact PySem.W.ki_setBack ho (Nd.mp ‹_›) (by rw [iJ,<-hl];exact h3) (by lia) (by rw [hk];exact ⟨_,I',q⟩)
theorem a8I(lo hi:Option Int)(n:Nat):(sliceBounds lo hi none n).1=((HT.df n 0 lo:Nat):Int)/\(sliceBounds lo hi none n).2.1=((HT.df n n hi:Nat):Int)/\(sliceBounds lo hi none n).2.2=1:=by
 refine ⟨?_,?_,rfl⟩
 .cases lo with
  | none=>simp [sliceBounds,HT.df]
  | some i =>
   simp only [sliceBounds,HT.df,SJ,show (1:Int)>0 by decide,if_true]
   by_cases h:i<0
   .simp only [h,if_true]<;>lia
   .simp only [h,if_false]<;>lia
 .cases hi with
  | none=>simp [sliceBounds,HT.df]
  | some i =>
   simp only [sliceBounds,HT.df,SJ,show (1:Int)>0 by decide,if_true]
   by_cases h:i<0
   .simp only [h,if_true]<;>omega
   .simp only [h,if_false]<;>omega
theorem a7O(aD:List Value)(lo hi:Option Int):slicePick aD.toArray lo hi none=((aD.drop (HT.df aD.length 0 lo)).take (HT.df aD.length aD.length hi-HT.df aD.length 0 lo)).toArray:=by
 obtain ⟨h1,h2,h3⟩:=a8I lo hi aD.toArray.size
 unfold slicePick
 rw [h1,h2,h3]
 simp only [sliceRange_one,pick_run,iJ]<;>rfl
def QD(K:aQ):V->Option Int->Option Int->Hp->VK->Prop:=λx lo hi H Q=>∃a xs,x=.ref a/\jm K H a xs/\∀p,H p=none->Q (.ref p) (upd H p (.lst (qr xs lo hi)))
theorem B4:Gh X (QD X.K):=by
 intro pins s σ H x v vl vu lo hi sl Q I rx hs pl pu h
 obtain ⟨a,xs,rfl,hx,q⟩:=h
 cases rx
 obtain ⟨aD,r,ht,hz⟩:=I.list hx
 have hlen:=r.length
 refine ⟨"list",_,slot_list_getitem.lookup,ht.isList.typeIs,?_⟩
 refine wpAny_getItem_list_slice ht.isList hs pl pu .none (by simp) ?_ (by rw [iJ]<;>lia)
 rw [a7O,<-hlen]
 refine ⟨.ref s.heap.objs.size,_,I.laid (t':=s.toks) (o:=.lst (qr xs lo hi)) (λb ob q=>gg _ q) (cT _) ?_,rfl,q _ (I.cw.fresh (cT _))⟩
 exact ⟨l9 (a7c xs lo hi) hz,_,0,(r.drop (HT.df xs.length 0 lo)).take (HT.df xs.length xs.length hi-HT.df xs.length 0 lo),lO _ rfl⟩
theorem a9g:ud X (.builtin "len") (λxs H Q=>∃p ys,xs=[.ref p]/\(jm X.K H p ys\/kK X.K H p ys)/\Q (.int ys.length) H):=by
 intro pins s σ H xs us Q I r h
 obtain ⟨p,ys,rfl,hq,q⟩:=h
 obtain ⟨u,rfl,rx⟩:=vals1 r
 cases rx
 have hn:=Hk
 rcases hq with hq | hq
 .obtain ⟨aD,r',pl,hz⟩:=I.list hq
  have hlen:=r'.length
  exact Calls.call_len_list pl.isList (by simp only [iJ]<;>lia) ⟨.int ys.length,H,I.tok _,⟨s.toks+1,by rw [iJ,hlen]⟩,q⟩
 .obtain ⟨aD,r',pl,hz⟩:=I.tuple hq
  have hlen:=r'.length
  exact len_tuple pl (by simp only [iJ]<;>omega) ⟨.int ys.length,H,I.tok _,⟨s.toks+1,by rw [iJ,hlen]⟩,q⟩
theorem a9f:ud X (.type "list") (λxs H Q=>∃p ys,xs=[.ref p]/\(jm X.K H p ys\/kK X.K H p ys)/\∀l,H l=none->Q (.ref l) (upd H l (.lst ys))):=by
 intro pins s σ H xs us Q I r h
 obtain ⟨p,ys,rfl,hq,q⟩:=h
 obtain ⟨u,rfl,rx⟩:=vals1 r
 cases rx
 have fin:∀(aD:List Value),aV ys aD->ys.length<=sizeLine->∀(h':Heap) (c':Nat),(∀b o',s.heap.get? b=some o'->h'.get? b=some o') ->
   h'.get? s.heap.objs.size=some { cls:=.type "list",dict:=none,data:=.seq aD.toArray c',slots:=#[] }->EP X pins σ Q (.ref s.heap.objs.size) { s with heap:=h' }:=λaD r' hz h' c' kp e =>
  ⟨.ref s.heap.objs.size,_,I.laid (t':=s.toks) kp (cT _) (show cD X.prog X.w _ h' _ (.lst ys) from ⟨hz,aD,c',r',e⟩),rfl,q _ (I.cw.fresh (cT _))⟩
 rcases hq with hq | hq
 .obtain ⟨aD,r',pl,hz⟩:=I.list hq
  have hlen:=r'.length
  obtain ⟨o,ho,hc,n,hd⟩:=pl.isList
  exact call_list_seq p (.inl rfl) ho hc hd (λh' c' kp e=>fin aD r' hz h' c' kp e) (by simp only [iJ]<;>omega)
 .obtain ⟨aD,r',pl,hz⟩:=I.tuple hq
  have hlen:=r'.length
  obtain ⟨o,ho,hc,n,hd⟩:=pl
  exact call_list_seq p (.inr rfl) ho hc hd (λh' c' kp e=>fin aD r' hz h' c' kp e) (by simp only [iJ]<;>omega)
theorem a8n:ud X (.type "tuple") (λxs H Q=>∃p ys,xs=[.ref p]/\((jm X.K H p ys/\∀l,H l=none->Q (.ref l) (upd H l (.tup ys)))\/(kK X.K H p ys/\Q (.ref p) H))):=by
 intro pins s σ H xs us Q I r h
 obtain ⟨p,ys,rfl,h⟩:=h
 obtain ⟨u,rfl,rx⟩:=vals1 r
 cases rx
 rcases h with ⟨hq,q⟩ | ⟨hq,q⟩
 .obtain ⟨aD,r',pl,hz⟩:=I.list hq
  have hlen:=r'.length
  refine call_tuple_list pl.isList (λh' kp=>?_) (by simp only [iJ]<;>omega)
  have I1:Inv X pins σ H { s with heap:=h' }:=I.kept (t':=s.toks) kp
  have I2:Inv X pins σ (upd H h'.objs.size (.tup ys)) { s with heap:=h'.push { cls:=.type "tuple",data:=.seq aD.toArray } }:=
   I1.laid (t':=s.toks) (λb o e=>gg _ e) (cT _) (show cD X.prog X.w _ _ _ (.tup ys) from ⟨hz,aD,r',IsTup.new _ _⟩)
  exact ⟨.ref h'.objs.size,_,I2,rfl,q _ (I1.cw.fresh (cT _))⟩
 .obtain ⟨aD,r',pl,hz⟩:=I.tuple hq
  exact call_tuple_same pl ⟨.ref p,H,I,rfl,q⟩
def P'(K:aQ)(T:String)(x:V)(H:Hp):Prop:=match x with
 | .str _=>T = "str"
 | .int _=>T = "int"
 | .ref p=>(T = "list" /\ ∃xs,jm K H p xs)\/(T = "tuple" /\ ∃o,K.lookup p=some o/\o.cls=.type "tuple" /\ o.dict=none) \/
   (T = "dict" /\ ((∃aO,H p=some (.dK aO))\/∃aO,H p=some (.dT aO)))\/(T = "set" /\ ∃S n,H p=some (.set S n))
 | _=>False
theorem Y9{pins:List (Addr×Obj)}{σ:St}{H:Hp}{s:Shared}{T:String}{x:V}{v:Value}(I:Inv X pins σ H s)(r:RelV x v)(ty:P' X.K T x H):
  s.TypeIs v T/\∀a,v=.ref a->∃ob,s.heap.get? a=some ob/\ob.dict=none:=by
 cases x with
 | str z =>
  obtain ⟨t,rfl⟩:=r
  cases (show T = "str" from ty)
  exact ⟨typeIs_str s z t,λ_ e=>nomatch e⟩
 | int i =>
  obtain ⟨t,rfl⟩:=r
  cases (show T = "int" from ty)
  exact ⟨typeIs_int s i t,λ_ e=>nomatch e⟩
 | ref p =>
  cases r
  rcases ty with ⟨rfl,xs,hq⟩ | ⟨rfl,o,hk,hc,hd⟩ | ⟨rfl,hk⟩ | ⟨rfl,S,n,hk⟩
  .obtain ⟨aD,_,pl,_⟩:=I.list hq
   refine ⟨pl.isList.typeIs,λa e=>?_⟩
   cases e
   obtain ⟨o,n,e,c,hd,_⟩:=pl
   exact ⟨o,e,hd⟩
  .refine ⟨⟨o,I.kU p o hk,hc⟩,λa e=>?_⟩
   cases e
   exact ⟨o,I.kU _ o hk,hd⟩
  .have z:∃o,s.heap.get? p=some o/\o.ExactDict:=by
    rcases hk with ⟨aO,hk⟩ | ⟨aO,hk⟩
    .obtain ⟨_,_,_,_,o,_,_,e,ex,_⟩:=I.cw p _ hk
     exact ⟨o,e,ex⟩
    .obtain ⟨_,_,_,_,o,_,_,e,ex,_⟩:=I.cw p _ hk
     exact ⟨o,e,ex⟩
   obtain ⟨o,e,ex⟩:=z
   refine ⟨⟨o,e,ex.1⟩,λa e2=>?_⟩
   cases e2
   exact ⟨o,e,ex.2.1⟩
  .obtain ⟨o,_,_,_,e,ex,_⟩:=I.cw p _ hk
   refine ⟨⟨o,e,ex.1⟩,λa e2=>?_⟩
   cases e2
   exact ⟨o,e,ex.2.1⟩
 | _=>exact qw ty
def Qp(K:aQ)(T:String)(r:V->List V->Hp->VK->Prop)(to:TE):TE:=λσ H Q=>to σ H λx H1=>P' K T x H1/\r x [] H1 Q
def tBM(K:aQ)(T:String)(r:V->List V->Hp->VK->Prop)(to:TE)(t:TA):TE:=λσ H Q=>to σ H λx H1=>P' K T x H1/\t σ H1 λxs H2=>r x xs H2 Q
variable {o e:Expr}{es:List Expr}{to:TE}{t:TA}{name:Str}{apos aR:Pos}{T id:String}{r:V->List V->Hp->VK->Prop}
theorem Y8(pa:PlainAttrs T)(slot:Slot T name id)(E6:typeOf (.builtin id)=pure (.type "method_descriptor"))(hm:MtR X id r)(ho:PE X o to)
  (cZ:attributeBase o name X.env (eval o X.env)=eval o X.env:=by rfl)(cX:(apos.endLine==aR.line)=true:=by rfl):PE X (.Call (.Attribute o name apos) [] [] aR) (Qp X.K T r to):=by
 intro pins s σ H Q I h
 refine wpAny_Call_method0_late cZ cX (cq (ho pins s σ H _ I h) λv s1 ⟨x,H1,I1,r1,ty,q1⟩=>?_)
 obtain ⟨h1,h2⟩:=Y9 I1 r1 ty
 exact ⟨T,id,pa,slot,E6,h1,h2,X0 rfl (PySem.evalArgs_none (hm pins s1 σ H1 x [] v [] Q I1 r1 .nil q1))⟩
theorem Ub(pa:PlainAttrs T)(slot:Slot T name id)(E6:typeOf (.builtin id)=pure (.type "method_descriptor"))(hm:MtR X id r)(ho:PE X o to)(ha:PA X (e::es) t)
  (cZ:attributeBase o name X.env (eval o X.env)=eval o X.env:=by rfl)
  (lx:((backTo aR (starEach (e::es) X.env)).all (λx=>!x.1)&&(backToKw aR (keywordEach [] X.env)).all (λx=>x.1.isSome)
   && decide ((e::es).length+([]:List Keyword).length+(if ([]:List Keyword).isEmpty then 0 else 1)<30))=true:=by rfl)
  (cX:(apos.endLine==aR.line)=true:=by rfl)(hs:starEach (e::es) X.env=(false,eval e X.env)::starEach es X.env:=by rfl)(E7:(backTo aR (starEach es X.env)).any (·.1)=false:=by rfl):
  PE X (.Call (.Attribute o name apos) (e::es) [] aR) (tBM X.K T r to t):=by
 intro pins s σ H Q I h
 refine wpAny_Call_method_late cZ lx cX rfl (cq (ho pins s σ H _ I h) λv s1 ⟨x,H1,I1,r1,ty,q1⟩=>?_)
 obtain ⟨h1,h2⟩:=Y9 I1 r1 ty
 refine ⟨T,id,pa,slot,E6,h1,h2,?_⟩
 have hA:=ha aR pins s1 σ H1 _ I1 q1
 rw [hs] at hA ⊢
 refine X0 (by show (false||(backTo aR (starEach es X.env)).any (·.1))=false;rw [E7]<;>rfl) (Calls.evalArgs_plain ?_)
 exact cq hA λus s2 ⟨vs,H2,I2,r2,q2⟩=>hm pins s2 σ H2 x vs v us Q I2 r1 r2 q2
end
end L2
namespace L2
open PySem PySem.Spec PyProof.Rows
def Wy(X:Cx)(id:String)(r:V->List V->Hp->VK->Prop):Prop:=
 ∀(pins:List (Addr×Obj)) (s:Shared) (σ:St) (H:Hp) (x:V) (xs:List V) (v:Value) (us:List Value) (Q:VK),Inv X pins σ H s->RelV x v->aV xs us->r x xs H Q ->
  wpAny (model X.prog X.w) X.A (call (.builtin id) (v::us)) (EP X pins σ Q) X.xe s
theorem aV.one:∀{x:V} {us:List Value},aV [x] us->∃u,us=[u]/\RelV x u
 | _,_,.cons r .nil=>⟨_,rfl,r⟩
theorem aV.two:∀{x y:V} {us:List Value},aV [x,y] us->∃u v,us=[u,v]/\RelV x u/\RelV y v
 | _,_,_,.cons r (.cons q .nil)=>⟨_,_,rfl,r,q⟩
theorem aV.zero:∀{us:List Value},aV [] us->us=[]
 | _,.nil=>rfl
theorem aV.dropLast(h:aV xs us):aV xs.dropLast us.dropLast:=by
 induction h with
 | nil=>exact .nil
 | cons r t ih =>
  cases t with
  | nil=>exact .nil
  | cons q t'=>exact .cons r ih
theorem b1v{α:Type}(l:List α):l.eraseIdx (l.length-1)=l.dropLast:=by
 induction l with
 | nil=>rfl
 | cons a r ih =>
  cases r with
  | nil=>rfl
  | cons b r =>
   have e:(a::b::r).length-1=((b::r).length-1)+1:=by
    have h1:(a::b::r).length=r.length+2:=rfl
    have h2:(b::r).length=r.length+1:=rfl
    assumption
   rw [e,List.eraseIdx_cons_succ,ih]
   all_goals rfl
section
variable {X:Cx}{pins:List (Addr×Obj)}{σ:St}{H:Hp}{s:Shared}{l b:Addr}{xs ys zs:List V}
theorem Inv.E4{aD its':List Value}{n:Nat}{t':Nat}(I:Inv X pins σ H s)(hH:H l=some (.lst xs))
  (e:s.heap.get? l=some { cls:=.type "list",data:=.seq aD.toArray n })(hf:f aD.toArray=its'.toArray)(hv:aV ys its')(hz:ys.length<=sizeLine):
  Inv X pins σ (upd H l (.lst ys)) { s with heap:=s.heap.update l (t4 f),toks:=t' }:=by
 have q:=PySem.IsL.update e f
 rw [hf] at q
 refine I.write (x:=l) (e:=l) (by rw [hH];exact trivial) (.inl rfl) (λb' u hb hu=>(BK s.heap (t4 f) (oX hb)).trans hu) ⟨_,q⟩ ?_
 exact ⟨hz,its',_,hv,q⟩
theorem Inv.QV(I:Inv X pins σ H s)(hv:aV ys aD)(hz:ys.length<=sizeLine):
  Inv X pins σ (upd H s.heap.objs.size (.lst ys)) { s with heap:=s.heap.push { cls:=.type "list",data:=.seq aD.toArray },toks:=t' }:=
 I.laid (λ_ _ q=>gg _ q) (cT _) ⟨hz,aD,0,hv,lO _ rfl⟩
theorem Inv.fresh(I:Inv X pins σ H s):H s.heap.objs.size=none:=I.cw.fresh (cT _)
theorem Inv.wN(I:Inv X pins σ H s)(hH:H l=some (.lst xs)):xs.length<=sizeLine/\∃(aD:List Value) (n:Nat),aV xs aD/\xs.length=aD.length/\s.heap.get? l=some { cls:=.type "list",data:=.seq aD.toArray n }:=by
 obtain ⟨z,aD,n,r,e⟩:=I.cw l _ hH
 exact ⟨z,aD,n,r,r.length,e⟩
theorem b3V(h:n<=sizeLine):Tv n=false:=by
 unfold Tv
 exact decide_eq_false (Nat.not_lt.mpr ‹_›)
end
section
variable {X:Cx}
def b5T:V->List V->Hp->VK->Prop:=λx vs H Q=>∃l xs y,x=.ref l/\vs=[y]/\H l=some (.lst xs)/\xs.length<sizeLine/\Q .b8 (upd H l (.lst (xs++[y])))
theorem a8X:Wy X "list.append" b5T:=by
 intro pins s σ H x vs v us Q I rx rv h
 obtain ⟨l,xs,y,rfl,rfl,hH,hz,q⟩:=h
 cases rx
 obtain ⟨u,rfl,ru⟩:=rv.one
 obtain ⟨z,aD,n,r,hl,e⟩:=I.wN hH
 refine call_meets S9 ⟨_,e,rfl⟩ F.entry_list_append (F.args_list_append_2 _ _) (PySem.list_append l aD.toArray n u (by rw [iJ];lia)) ⟨e,?_⟩
 refine ⟨.b8,_,I.E4 (its':=aD++[u]) hH e (by simp) (r.append (.cons ru .nil)) ?_,rfl,q⟩
 rw [fZ,GU]
 assumption
def b5S:V->List V->Hp->VK->Prop:=λx vs H Q=>∃l b xs zs,x=.ref l/\vs=[.ref b]/\H l=some (.lst xs)/\H b=some (.lst zs)/\xs.length+zs.length<=sizeLine/\Q .b8 (upd H l (.lst (xs++zs)))
theorem b2f:Wy X "list.extend" b5S:=by
 intro pins s σ H x vs v us Q I rx rv h
 obtain ⟨l,b,xs,zs,rfl,rfl,hH,hB,hz,q⟩:=h
 cases rx
 obtain ⟨u,rfl,ru⟩:=rv.one
 cases ru
 obtain ⟨z,aD,n,r,hl,e⟩:=I.wN hH
 obtain ⟨z2,gi,n2,r2,wZ,e2⟩:=I.wN hB
 have hsz:aD.toArray.size+gi.toArray.size<=sizeLine:=by rw [iJ,iJ];lia
 have JN:¬(!aD.toArray.isEmpty&&Tv (aD.toArray.size+gi.toArray.size))=true:=by
  rw [b3V hsz,Bool.and_false]
  exact vM
 refine call_meets XZ ⟨_,e,rfl⟩ F.entry_list_extend (F.args_list_extend_2 _ _)
  (AutoSeq1.list_extend_list_list_0 l aD.toArray n b gi.toArray n2 JN (by rw [iJ];exact zqn ‹_›) (l9 ‹_› (by decide))) ⟨e,e2,?_⟩
 refine ⟨.b8,_,I.E4 (its':=aD++gi) hH e (by simp) (r.append r2) ?_,rfl,q⟩
 rw [fZ]
 assumption
def QE:V->List V->Hp->VK->Prop:=λx vs H Q=>∃l xs y,x=.ref l/\vs=[]/\H l=some (.lst xs)/\xs[xs.length-1]?=some y/\Q y (upd H l (.lst xs.dropLast))
theorem Y4:Wy X "list.pop" QE:=by
 intro pins s σ H x vs v us Q I rx rv h
 obtain ⟨l,xs,y,rfl,rfl,hH,hy,q⟩:=h
 cases rx
 have hus:=rv.zero
 subst hus
 obtain ⟨z,aD,n,r,hl,e⟩:=I.wN hH
 obtain ⟨u,hu,ru⟩:=r.get hy
 have DB:aD.toArray[aD.toArray.size-1]?=some u:=by
  show aD.toArray[aD.length-1]?=some u
  rw [<-BJ,<-hl]
  exact hu
 refine call_meets Th ⟨_,e,rfl⟩ F.entry_list_pop (F.args_list_pop_1 _) (MeetsSeq.list_pop_last l aD.toArray n u DB (by rw [iJ];lia)) ⟨e,?_⟩
 refine ⟨y,_,I.E4 (its':=aD.dropLast) hH e ?_ r.dropLast ?_,ru,q⟩
 .show aD.toArray.eraseIdxIfInBounds (aD.toArray.size-1)=aD.dropLast.toArray
  rw [iJ,List.eraseIdxIfInBounds_toArray,b1v]
 .rw [List.length_dropLast]
  exact zqt ‹_›
def QF:R2:=λx y H Q=>∃l b xs zs,x=.ref l/\y=.ref b/\H l=some (.lst xs)/\H b=some (.lst zs)/\xs.length+zs.length<=sizeLine/\∀p,H p=none->Q (.ref p) (upd H p (.lst (xs++zs)))
theorem ES:lJ X (binaryOp .Add) QF:=by
 intro pins s σ H x y v u Q I rx ry h
 obtain ⟨l,b,xs,zs,rfl,rfl,hH,hB,hz,q⟩:=h
 cases rx
 cases ry
 obtain ⟨z,aD,n,r,hl,e⟩:=I.wN hH
 obtain ⟨z2,gi,n2,r2,wZ,e2⟩:=I.wN hB
 refine PySem.P.add_list e e2 ?_ (by rw [iJ,iJ];omega)
 have ea:aD.toArray++gi.toArray=(aD++gi).toArray:=by simp
 rw [ea]
 exact ⟨.ref _,_,I.QV (t':=s.toks) (r.append r2) (by rw [fZ];assumption),rfl,q _ I.fresh⟩
end
section
variable {prog:Program}{w:World}{A:Around}{E:Value->Shared->Prop}{s:Shared}
end
section
variable {X:Cx}
end
end L2
namespace Att
open PySem PySem.W PySem.Calls PyProof.Rows
theorem a66:∀(ns:List Int) (vs:List Value),WellAll P h vs (ns.map WData.int)->IntsAre vs ns:=by
 intro ns
 induction ns with
 | nil =>
  intro vs w
  rw [KO] at w
  cases w
  exact .nil
 | cons n ns ih =>
  intro vs w
  rw [jJ] at w
  cases w with
  | cons a b =>
   cases a
   exact .cons _ _ (ih _ b)
theorem b1R{l:OpenLaw}{n:Nat}(hn:l.most=some n){h:Heap}
  (wX:l.row.toRowW.claim.pre args=true)(Q6:WellAll P h vals args):
  ∃a vs ns,vals=[fq a]/\args=[WData.list (ns.map WData.int)]/\h.get? a=some { cls:=.type "list",data:=.seq vs.toArray }/\IntsAre vs ns/\ns.length<=n:=by
 have hsh:WShape.hasAll [] args [.list .int]=true:=(pre_splitW wX).1
 have hc:l.pre.holds [] { args:=args }=true:=(pre_splitW wX).2
 obtain ⟨d,r,rfl,h1,h2⟩:=hasAllW_cons hsh
 obtain rfl:=hasAllW_nil h2
 obtain ⟨xs,rfl,h3⟩:=hasW_list h1
 obtain ⟨ns,rfl⟩:=items_int h3
 have hlen:ns.length<=n:=by
  unfold OpenLaw.pre at hc
  have h4:(WTm.not (.lt (.lit (.int (n:Int))) (.len (.arg 0)))).holds [] { args:=[.list (ns.map .int)] }=true:=by
   have h4:=(holds_andW hc).1
   rw [hn] at h4
   exact h4
  have h5:=condW_of h4 (w_not (w_lt w_lit (w_len_list (w_arg rfl))))
  rw [eD] at h5
  refine Nat.le_of_not_lt λq=>?_
  have q':(n:Int)<((ns.length:Nat):Int):=by exact Int.ofNat_lt.mpr ‹_›
  first
   | (rw [decide_eq_true q'] at h5;exact absurd h5 (by decide))
   | (simp at h5;omega)
 cases Q6 with
 | cons w1 w2 =>
  cases w2
  cases w1 with
  | list ho Rw=>exact ⟨_,_,ns,rfl,rfl,ho,a66 ns _ Rw,hlen⟩
theorem b1Y(l:OpenLaw)(args:List WData):l.row.toRowW.claim.post args (.bool true) args=true:=
 postW_of (r:=l.row.toRowW) (X:=(true==true))
  (show WShape.has [] (.bool true) .bool=true by first | rfl | decide | simp [WShape.has,WShape.arms,WShape.armsAll])
  (show (WTm.eq .res (.lit (.bool true))).value [] { args:=args,res:=some (.bool true),after:=args }=some (.bool (true==true)) from w_eq_bool (w_res rfl) w_lit) rfl
theorem qA{l:OpenLaw}{n:Nat}{loose:List Str}{d:DefRec}
  (hn:l.most=some n)(JW:d.params.defaults=[])
  (call:∀(w:World) (fQ bA:Shared) (mg mb:Str->Option Value) (fa:Addr) (o:Obj) (pm cd doc:Value) (a:Addr) (vs:List Value) (ns:List Int),
   Ground q loose [] XP w fQ mg mb bA.heap->YP w bA.heap ->
   bA.heap.get? fa=some o->o.data=.func (docDef d.name d.params d.body d.scope pm cd doc)->bA.heap.CodeRec cd d.name->mg d.name=some (.ref fa) ->
   bA.heap.get? a=some { cls:=.type "list",data:=.seq vs.toArray }->IntsAre vs ns->ns.length<=n->bA.gens=#[] ->
   codeAny (model l.prog w) callerA (.call (.ref fa) ⟨[.ref a],[]⟩) (λr s'=>r=.ok (.ret (.bool true))/\OldK bA.heap s'.heap/\s'.os=bA.os/\AllBare s'.gens) bA):
  WalkO q loose XP YP l.row.toRowW d [] (λf vs=>Sf f vs):=by
 intro w fQ bA mg mb G Y fa o pm cd doc dV kV ho hd dN hD JM hg args vals as wX hlay hrd Q6 hlo
 obtain rfl:dV=.none:=Dflts.none hD JW
 obtain rfl:kV=.none:=Dflts.noKw hD
 obtain ⟨a,vs,ns,rfl,rfl,E9,hints,hlen⟩:=b1R hn wX Q6
 refine enter_call (DR (call w fQ bA mg mb fa o pm cd doc a vs ns G Y ho (fd_plain hd) dN JM E9 hints hlen hg) λr s' hq=>?_)
 obtain ⟨rfl,h2,h3,h4⟩:=hq
 exact ⟨.inl ⟨.bool true,.bool true,[],rfl,λ_=>rfl,.bool true,b1Y l _,λ_=>⟨DW,λ_ hm=>(nomatch hm)⟩⟩,h2,h3,h4⟩
section
variable {prog:Program}{w:World}{A:Around}{E:Value->Shared->Prop}{s:Shared}{K:Frag}
end
end Att
namespace L2
open PySem PySem.Spec PyProof.Rows
theorem a8x:∀{vs:List Value} {ns:List Int},IntsAre vs ns->aV (ns.map V.int) vs
 | _,_,.nil=>.nil
 | _,_,.cons n t h=>.cons ⟨t,rfl⟩ (a8x h)
theorem a85{α:Type}{c:Prop}[Decidable c]{a b:α}(h:(if c then some a else none)=some b):c/\a=b:=by
 by_cases hc:c
 .rw [if_pos hc] at h;exact ⟨hc,gz h⟩
 .rw [if_neg hc] at h;cases h
def Cj:Str:="dealt.<locals>.<lambda>"
def Tb(K:aQ)(H:Hp):Prop:=∀c P,zi K "dealt" = some (c,P)->H P=some (.tab Cj)
def N1(K:aQ)(ts:List Addr):Bool:=match zi K "dealt" with
 | some (c,P)=>XQ K c P&&(K.lookup P).isNone&&ts.contains P
 | none=>true
theorem b33{P:Program}{w:World}{K:aQ}{mg mb:Str->Option Value}{CX:yg}{k:Nat}{fa a:Addr}{fd:FuncData}{x:Str}{sp:Sp}{bA:Shared}{vs:List Value}{ns:List Int}{ts:List Addr}
  (KX:K.In bA.heap)(Gx:bA.heap.Ns mainGlobals mg)(hb:bA.heap.Ns builtinsNs mb)(MW:∀x:Str,x ≠ "__name__" -> mb x=bootBuiltins x)(Rj:bA.heap.NoLimit)(hg:bA.gens=#[])
  (hbm:∃bm ob,mg "__builtins__" = some (.ref bm)/\bm≠builtinsNs/\bA.heap.get? bm=some ob/\ob.cls=.type "module" /\ ob.dict=some builtinsNs/\ob.data=.plain)
  (hL:N1 K ts=true)(J5:∀P∈ts,bA.heap.get? P=some (GR #[]))
  (ha:bA.heap.get? a=some { cls:=.type "list",data:=.seq vs.toArray })(hi:IntsAre vs ns)(hl:ns.length<=sizeLine)(hr:c6 k callerA)
  (F:∀base:Heap,K.In base->base.Ns mainGlobals mg->cR P w K mg base CX k fa fd [x] sp)(JZ:∀(s:Shared) (u:Value),BindsTo s fd ⟨[u],[]⟩ [(x,u)])
  (DC:∀H:Hp,Tb K H->jm K H a (ns.map V.int)->sp [.ref a] H (λv H'=>v=.bl true/\Tb K H') λ_ _ _=>False)
  (RB:∀H e s',CX [] H bA (λ_ _ _=>False) e s'->False):
  codeAny (model P w) callerA (.call (.ref fa) ⟨[.ref a],[]⟩) (λr s'=>r=.ok (.ret (.bool true))/\OldK bA.heap s'.heap/\s'.os=bA.os/\AllBare s'.gens) bA:=by
 have rv:=a8x hi
 have QW:=hi.length
 have tabs:∀c P,zi K "dealt" = some (c,P)->XQ K c P=true/\K.lookup P=none/\bA.heap.get? P=some (GR #[]):=λc P e=>by
  unfold N1 at hL
  rw [e] at hL
  simp only [DV,Option.isNone_iff_eq_none,List.contains_iff_mem] at hL
  exact ⟨hL.1.1,hL.1.2,J5 P hL.2⟩
 have core:∀H:Hp,Tb K H->jm K H a (ns.map V.int)->jX P w H bA.heap->(∀b,H b≠none->(b=a/\∃o xs,H b=some (.nz o (.lst xs)))\/∃c,zi K "dealt" = some (c,b))->(H a≠none->K.lookup a=none) ->
   codeAny (model P w) callerA (.call (.ref fa) ⟨[.ref a],[]⟩) (λr s'=>r=.ok (.ret (.bool true))/\OldK bA.heap s'.heap/\s'.os=bA.os/\AllBare s'.gens) bA:=by
  intro H hO hS cw hA hK
  have o4:∀{b:Addr} {o:Obj},bA.heap.get? b=some o->H b=none->(oU bA.heap H).get? b=some o:=λe n=>b4i e n
  have WT:∀{b:Addr} {o:Obj},bA.heap.get? b=some o->(∀xs n,o.data≠.seq xs n)->(∀xs,o.data=.fields xs->o.cls≠.none)->H b=none:=λ{b o} e d d2=>by
   cases q:H b with
   | none=>rfl
   | some u =>
    rcases hA b (by rw [q];simp) with ⟨e',_⟩ | ⟨c,e'⟩
    .subst e'
     rw [ha] at e;cases e
     exact absurd rfl (d _ _)
    .rw [(tabs c b e').2.2] at e;cases e
     exact absurd rfl (d2 _ rfl)
  have MD:∀{b:Addr} {m:Str->Option Value},bA.heap.Ns b m->(oU bA.heap H).Ns b m:=λ{b m} ⟨o,es,ep,e,d,r⟩=>⟨o,es,ep,o4 e (WT e (λ_ _ z=>by rw [d] at z;cases z) λ_ z=>by rw [d] at z;cases z),d,r⟩
  have Xu:K.In (oU bA.heap H):=λb o e=>o4 (KX b o e) (by
   cases q:H b with
   | none=>rfl
   | some u =>
    rcases hA b (by rw [q];simp) with ⟨e',_⟩ | ⟨c,e'⟩
    .subst e'
     rw [hK (by rw [q];simp)] at e;cases e
    .rw [(tabs c b e').2.1] at e;cases e)
  have hM:Mod K mg (oU bA.heap H):=⟨Xu,MD Gx,⟨mb,MD hb,MW⟩,let ⟨mc,h1,h2⟩:=Rj;⟨mc,MD h1,h2⟩,let ⟨bm,ob,b1,b2,b3,b4,b5,b6⟩:=hbm;⟨bm,ob,b1,b2,o4 b3 (WT b3 (λ_ _ z=>by rw [b6] at z;cases z) λ_ z=>by rw [b6] at z;cases z),b4,b5,b6⟩⟩
  have e0:ux P w K mg (oU bA.heap H) callerA [] bA H:=⟨rfl,hM,λb o e=>b6g e,Nat.le_of_eq (b2G _ _),trivial,λb hb=>absurd (show b∈([]:List Addr) from hb) (by simp),cw,.of_eq hg⟩
  refine DR ((F _ Xu (MD Gx)).run callerA [] bA H ⟨[.ref a],[]⟩ [.ref a] [.ref a] _ _ hr e0 (JZ bA (.ref a)) (.cons rfl .nil) (DC H hO hS)) λr s' h=>?_
  cases r with
  | error e=>exact (RB H e s' h).elim
  | ok fl =>
   cases fl with
   | next=>exact qw h
   | brk=>exact qw h
   | cont=>exact qw h
   | ret u =>
    obtain ⟨v,H',os,bare,un,JL,r',q,qT⟩:=h
    subst q
    obtain rfl:u=qx true:=r'
    have old:∀b o,bA.heap.get? b=some o->s'.heap.get? b=some o\/∃c ps,zi K "dealt" = some (c,b)/\s'.heap.get? b=some (GR ps):=λb o e=>by
     cases q:H b with
     | none=>exact .inl (un.keep b o e q (by intro z;exact absurd (show b∈([]:List Addr) from z) (by simp)) (by simp))
     | some u =>
      rcases hA b (by rw [q];simp) with ⟨_,ob,xs,z⟩ | ⟨c,e'⟩
      .have z2:=un.nN b ob _ z
       obtain ⟨e1,_⟩:=cw b _ z
       obtain ⟨e2,_⟩:=JL b _ z2
       rw [e] at e1;cases e1
       exact .inl e2
      .obtain ⟨ps,e2,_⟩:=JL b _ (qT c b e')
       exact .inr ⟨c,ps,e',e2⟩
    refine ⟨rfl,⟨λb o e=>?_,λb o e=>?_⟩,os,bare⟩
    .rcases old b o e with z | ⟨c,ps,e',z⟩
     .exact .inl z
     .obtain ⟨t1,_,t3⟩:=tabs c b e'
      rw [t3] at e;cases e
      exact .inr (.inl ⟨((PySem.W.codeHd_of_K KX t1).tab t3).isCodeTable,rfl,#[],ps,rfl,by rw [Array.empty_append];exact z⟩)
    .rcases old b o e with z | ⟨c,ps,e',z⟩
     .exact ⟨o,z⟩
     .exact ⟨_,z⟩
 have WS:∀(H:Hp) (b:Addr),(∃c,zi K "dealt" = some (c,b))->cD P w H bA.heap b (.tab Cj):=λH b ⟨c,e⟩=>⟨#[],(tabs c b e).2.2,trivial,λpos cv h=>by simp [codeAmong] at h⟩
 have WX:∀c b,zi K "dealt" = some (c,b)->b≠a:=λc b e z=>by
  have:=(tabs c b e).2.2
  rw [z,ha] at this
  cases this
 cases hk:K.lookup a with
 | some o =>
  have e:=KX a o hk
  rw [ha] at e
  cases e
  refine core (λb=>if (zi K "dealt").map (·.2)=some b then some (.tab Cj) else none) (λc b e=>if_pos (by rw [e];rfl)) (.inr ⟨_,vs.toArray,_,hk,rfl,rfl,rfl,by rw [iJ,QW];exact hl,by simpa using rv⟩) (λb u z=>?_) (λb z=>?_) λz=>?_
  .obtain ⟨hc,rfl⟩:=(a85 z)
   obtain ⟨⟨c,b'⟩,e,rfl⟩:=GY.mp hc
   exact WS _ _ ⟨c,e⟩
  .by_cases hc:(zi K "dealt").map (·.2)=some b
   .obtain ⟨⟨c,b'⟩,e,rfl⟩:=GY.mp hc
    exact .inr ⟨c,e⟩
   .exact absurd (if_neg hc) z
  .by_cases hc:(zi K "dealt").map (·.2)=some a
   .obtain ⟨⟨c,b'⟩,e,e2⟩:=GY.mp hc
    exact absurd e2 (WX c b' e)
   .exact absurd (if_neg hc) z
 | none =>
  refine core (λb=>if b=a then some (.nz { cls:=.type "list",data:=.seq vs.toArray } (.lst (ns.map V.int))) else if (zi K "dealt").map (·.2)=some b then some (.tab Cj) else none) (λc b e=>by show (if b=a then _ else _)=_;rw [if_neg (WX c b e),if_pos (by rw [e];rfl)]) (.inl (.inr ⟨{ cls:=.type "list",data:=.seq vs.toArray },if_pos rfl⟩)) (λb u z=>?_) (λb z=>?_) λ_=>hk
  .by_cases hb:b=a
   .have z':=(if_pos hb).symm.trans z
    cases z'
    subst hb
    exact ⟨ha,by rw [eD];exact hl,vs,_,rv,ha⟩
   .obtain ⟨hc,rfl⟩:=a85 ((if_neg hb).symm.trans z)
    obtain ⟨⟨c,b'⟩,e,rfl⟩:=GY.mp hc
    exact WS _ _ ⟨c,e⟩
  .by_cases hb:b=a
   .exact .inl ⟨hb,_,_,if_pos hb⟩
   .by_cases hc:(zi K "dealt").map (·.2)=some b
    .obtain ⟨⟨c,b'⟩,e,rfl⟩:=GY.mp hc
     exact .inr ⟨c,e⟩
    .exact absurd ((if_neg hb).trans (if_neg hc)) z
end L2
namespace L2
open PySem PySem.Spec PyProof.Rows
theorem B1{l:Sz}{n k:Nat}{q:Program}{loose:List Str}{XP:(Str->Option Value)->Heap->Prop}{YP:World->Heap->Prop}{d:DefRec}{K:Params->aQ}{CX:World->yg}{sp:World->Sp}{x:Str}{ts:List Addr}
  (hn:l.most=some n)(MQ:n<=sizeLine)(JW:d.params.defaults=[])(hr:c6 k callerA)
  (hY:∀(w:World) (h:Heap),YP w h->(K w.params).In h/\∀P∈ts,h.get? P=some (GR #[]))(hL:∀w:World,N1 (K w.params) ts=true)
  (F:∀(w:World) (mg:Str->Option Value) (fa:Addr) (h:Heap),(K w.params).In h->h.Ns mainGlobals mg->mg d.name=some (.ref fa) ->
   ∃fd:FuncData,(∀(s:Shared) (u:Value),BindsTo s fd ⟨[u],[]⟩ [(x,u)]) /\
    ∀base:Heap,(K w.params).In base->base.Ns mainGlobals mg->cR l.prog w (K w.params) mg base (CX w) k fa fd [x] (sp w))
  (DC:∀(w:World) (H:Hp) (a:Addr) (ns:List Int),ns.length<=n->Tb (K w.params) H->jm (K w.params) H a (ns.map V.int)->sp w [.ref a] H (λv H'=>v=.bl true/\Tb (K w.params) H') λ_ _ _=>False)
  (RB:∀(w:World) (H:Hp) (s:Shared) (e:Value) (s':Shared),CX w [] H s (λ_ _ _=>False) e s'->False):
  PySem.W.WalkO q loose XP YP l.row.toRowW d [] (λf vs=>Sf f vs):=by
 refine Att.qA hn JW λw fQ bA mg mb fa o pm cd doc a vs ns G Y ho hd dN JM E9 hints hlen hg=>?_
 obtain ⟨KX,J5⟩:=hY w _ Y
 obtain ⟨fd,hb,hF⟩:=F w mg fa _ KX G.T.g JM
 exact b33 KX G.T.g G.T.b G.T.builtins G.T.nolimit hg G.T.bmain (hL w) J5 E9 hints (l9 hlen MQ) hr hF hb (λH hO hS=>DC w H a ns hlen hO hS) λH e s'=>RB w H bA e s'
end L2
namespace L2
open PySem PySem.Spec PyProof.Rows
def jO(s:Stmt)(j:Nat):Stmt:=match s with
 | .ClassDef _ _ _ body _ _ _ _ _ _ _=>body.getD j (.Pass ⟨0,0,0,0⟩)
 | _=>.Pass ⟨0,0,0,0⟩
def o8(s:Stmt):Arguments:=match s with
 | .FunctionDef _ a _ _ _ _ _ _ _ _=>a
 | _=>{ posonlyargs:=[],args:=[],vararg:=none,kwonlyargs:=[],kw_defaults:=[],kwarg:=none,defaults:=[] }
def jW(s:Stmt):List Stmt:=match s with
 | .FunctionDef _ _ b _ _ _ _ _ _ _=>b
 | _=>[]
def gk(s:Stmt):Scope:=match s with
 | .FunctionDef _ _ _ _ _ _ sc _ _ _=>sc
 | _=>{ kind:=.function,names:=[],isGenerator:=false,isCoroutine:=false }
abbrev jY:yg:=λ_ _ _ _ _ _=>False
abbrev E0:XK:=λ_ _ _=>False
theorem He:Lq jY X E0:=λ_ _ _ _ _ _ _ h=>h.elim
structure A4(K:aQ)(x qual:Str)(st:Stmt)(f:Addr)(fd:FuncData):Prop where
 ex:∃(oc:Value) (od:Option Addr) (kV doc pm:Value) (an:Option Addr) (gf ct:Value) (Dx:Array (Option Value)),
  fd=nS x qual (o8 st) (jW st) (gk st) .none kV doc pm an gf ct/\K.lookup f=some ⟨oc,od,.func fd,Dx⟩/\KI K gf qual=true
 kp:BG K (.ref f)=true
section
variable {P:Program}{w:World}{K:aQ}{mg:Str->Option Value}{base:Heap}
theorem A4.ok{x qual:Str}{st:Stmt}{f:Addr}{fd:FuncData}{N ps:List Str}{k:Nat}{sp:Sp}(F:A4 K x qual st f fd)(S:de N ps (gk st))(len:∀vs H Q E,sp vs H Q E->vs.length=ps.length)
  (cY:∀(gf:Value) (A:Around) (outer:List Env) (s:Shared) (H:Hp) (vs:List V) (Q:VK) (E:XK),c6 k (A.deeper (envOfC qual (gk st) s.heap.objs.size f gf))->sp vs H Q E ->
   ∃t,rT (oW jY P w K mg base N qual (gk st) f gf A outer s H E).EY (jW st) t/\t { nx:=λ_ H'=>Q .b8 H',rt:=Q } (start N vs) H):cR P w K mg base jY (k+1) f fd ps sp:=by
 obtain ⟨oc,od,kV,doc,pm,an,gf,ct,Dx,rfl,lk,dN⟩:=F.ex
 refine Kk lk dN S len λA outer s H vs Q E hr DC=>?_
 obtain ⟨t,h,q⟩:=cY gf A outer s H vs Q E hr DC
 exact ⟨t,h.EY,q⟩
theorem A4.binds{x qual:Str}{st:Stmt}{f:Addr}{fd:FuncData}{ps:List Str}(F:A4 K x qual st f fd)
  (h:∀(kV doc pm:Value) (an:Option Addr) (gf ct:Value) (us:List Value),us.length=ps.length->bindArgs (nS x qual (o8 st) (jW st) (gk st) .none kV doc pm an gf ct) ⟨us,[]⟩=pure (ps.zip us)):Binds K fd ps []:=by
 obtain ⟨oc,od,kV,doc,pm,an,gf,ct,Dx,rfl,lk,dN⟩:=F.ex
 exact .all (h kV doc pm an gf ct)
theorem Oa{x qual:Str}{st:Stmt}{f:Addr}{oc:Value}{od an:Option Addr}{Dx:Array (Option Value)}{kV doc pm gf ct:Value}(l:K.lookup f=some ⟨oc,od,.func (nS x qual (o8 st) (jW st) (gk st) .none kV doc pm an gf ct),Dx⟩)
  (c:KI K gf qual=true)(k:BG K (.ref f)=true):A4 K x qual st f (nS x qual (o8 st) (jW st) (gk st) .none kV doc pm an gf ct):=⟨⟨oc,od,kV,doc,pm,an,gf,ct,Dx,rfl,l,c⟩,k⟩
end
theorem T4(hr:c6 k A):A.units+1<cLine:=Nat.lt_of_le_of_lt (Ye (by decide:1<=64) _) hr.units
section
variable {X:Cx}
end
def aG(H H':Hp):Prop:=∀b o,H b=some o->H' b=some o
theorem aG.refl(H:Hp):aG H H:=λ_ _ h=>h
theorem aG.trans(a:aG H H1)(b:aG H1 H2):aG H H2:=λc o h=>b c o (a c o h)
theorem aG.free(e:aG H H')(h:H' l=Option.none):H l=Option.none:=by
 cases q:H l with
 | none=>rfl
 | some o =>
  rw [e l o q] at h
  cases h
end L2
set_option maxHeartbeats 4000000
namespace L2
open PySem PySem.Spec PyProof.Rows
section
variable {κ:Type}[DecidableEq κ]
noncomputable def lU(aO:List (κ×V))(k:κ):Option V:=(aO.find? λkv=>decide (kv.1=k)).map (·.2)
noncomputable def putK(aO:List (κ×V))(k:κ)(v:V):List (κ×V):=
 if (aO.any λkv=>decide (kv.1=k))=true then aO.map (λkv=>if kv.1=k then (kv.1,v) else kv) else aO++[(k,v)]
theorem Vc{p:κ×V}{r:List (κ×V)}{k:κ}(e:p.1=k):lU (p::r) k=some p.2:=by simp [lU,FK,e]
theorem Vb{p:κ×V}{r:List (κ×V)}{k:κ}(e:¬p.1=k):lU (p::r) k=lU r k:=by simp [lU,FK,e]
theorem Z1(k:κ):∀aO:List (κ×V),(aO.any λkv=>decide (kv.1=k))=(lU aO k).isSome
 | []=>rfl
 | p::r=>by
  rw [M8]
  by_cases e:p.1=k
  .simp only [Vc e,decide_eq_true e,Bool.true_or,Option.isSome_some]
  .rw [Vb e,decide_eq_false e,Bool.false_or];exact Z1 k r
theorem a60(aO:List (κ×V))(k:κ)(v:V):(putK aO k v).length<=aO.length+1:=by
 unfold putK
 split
 .rw [eD];omega
 .rw [fZ,jK,KY];omega
theorem jB.lg{o:Option V}{u:Option Value}(r:jB o u):o.isSome=u.isSome:=by
 cases o with
 | none=>cases u with
  | none=>rfl
  | some _=>exact (show False from r).elim
 | some _=>cases u with
  | none=>exact (show False from r).elim
  | some _=>rfl
theorem KV.val{aO:List (κ×V)}{vs:List (κ×Value)}(r:KV aO vs)(k:κ):jB (lU aO k) (valueAt vs k):=by
 unfold KV at r
 induction r with
 | nil=>exact AA
 | @cons p q ps qs h t ih =>
  obtain ⟨h1,h2⟩:=h
  by_cases e:p.1=k
  .have e':q.1=k:=h1.symm.trans e
   have b:valueAt (q::qs) k=some q.2:=by simp [valueAt,FK,e']
   rw [Vc e,b];exact h2
  .have e':¬q.1=k:=λz=>e (h1.trans z)
   have b:valueAt (q::qs) k=valueAt qs k:=by simp [valueAt,FK,e']
   rw [Vb e,b];exact ih
theorem KV.any{aO:List (κ×V)}{vs:List (κ×Value)}(r:KV aO vs)(k:κ):(aO.any λkv=>decide (kv.1=k))=vs.any λkv=>decide (kv.1=k):=by
 unfold KV at r
 induction r with
 | nil=>rfl
 | cons h t ih=>rw [M8,M8,ih,h.1]
theorem KV.EN{aO:List (κ×V)}{vs:List (κ×Value)}(r:KV aO vs)(k:κ){y:V}{u:Value}(ry:RelV y u):
  KV (aO.map λkv=>if kv.1=k then (kv.1,y) else kv) (vs.map λkv=>if kv.1=k then (kv.1,u) else kv):=by
 unfold KV at r ⊢
 induction r with
 | nil=>exact .nil
 | @cons p q ps qs h t ih =>
  rw [jJ,jJ]
  refine .cons ?_ ih
  obtain ⟨h1,h2⟩:=h
  by_cases e:p.1=k
  .rw [if_pos e,if_pos (h1.symm.trans e)];exact ⟨h1,ry⟩
  .rw [if_neg e,if_neg (λz=>e (h1.trans z))];exact ⟨h1,h2⟩
theorem KV.put{aO:List (κ×V)}{vs:List (κ×Value)}(r:KV aO vs)(k:κ){y:V}{u:Value}(ry:RelV y u):KV (putK aO k y) (stored vs k u):=by
 unfold putK stored
 rw [r.any k]
 by_cases e:(vs.any λkv=>decide (kv.1=k))=true
 .rw [if_pos e,if_pos e];exact r.EN k ry
 .rw [if_neg e,if_neg e];exact Paired.snoc r ⟨rfl,ry⟩
theorem KV.length{aO:List (κ×V)}{vs:List (κ×Value)}(r:KV aO vs):aO.length=vs.length:=Paired.length r
end
theorem N0{P:Program}{w:World}{k:Key}{u:Value}(r:RelV (kV k) u):(vZ P w).is k u=true:=by
 cases k with
 | inl i=>obtain ⟨t,e⟩:=(show ∃t,u=KA i t from r);subst e;exact a90 P w i t
 | inr x=>obtain ⟨t,e⟩:=(show ∃t,u=Kz x t from r);subst e;exact a9Z P w x t
theorem a83{P:Program}{w:World}:∀{ks:List Key} {us:List Value},aV (ks.map kV) us->ItemsAre (vZ P w) ks us
 | [],_,r=>by rw [KO] at r;cases r;exact .nil
 | k::ks,_,r=>by
  rw [jJ] at r
  cases r with
  | cons h t=>exact .cons (N0 h) (a83 t)
abbrev KT(H:Hp):List (List Key×V)->List (List Key×Addr×Value)->Prop:=Paired λp q=>p.1=q.1/\H q.2.1=some (.tup (p.1.map kV))/\RelV p.2 q.2.2
theorem KT.val{H:Hp}{aO:List (List Key×V)}{xs:List (List Key×Addr×Value)}(r:KT H aO xs)(k:List Key):jB (lU aO k) ((atKey xs k).map (·.2)):=by
 induction r with
 | nil=>exact AA
 | @cons p q ps qs h t ih =>
  obtain ⟨h1,_,h2⟩:=h
  by_cases e:p.1=k
  .have e':q.1=k:=h1.symm.trans e
   have b:atKey (q::qs) k=some q.2:=by simp [atKey,FK,e']
   rw [Vc e,b];exact h2
  .have e':¬q.1=k:=λz=>e (h1.trans z)
   have b:atKey (q::qs) k=atKey qs k:=by simp [atKey,FK,e']
   rw [Vb e,b];exact ih
theorem KT.EN{H:Hp}{aO:List (List Key×V)}{xs:List (List Key×Addr×Value)}(r:KT H aO xs)(k:List Key){y:V}{u:Value}(ry:RelV y u):
  KT H (aO.map λkv=>if kv.1=k then (kv.1,y) else kv) (xs.map (putAt k u)):=by
 induction r with
 | nil=>exact .nil
 | @cons p q ps qs h t ih =>
  rw [jJ,jJ]
  refine .cons ?_ ih
  obtain ⟨h1,h2,h3⟩:=h
  unfold putAt
  by_cases e:p.1=k
  .rw [if_pos e,if_pos (h1.symm.trans e)];exact ⟨h1,h2,ry⟩
  .rw [if_neg e,if_neg (λz=>e (h1.trans z))];exact ⟨h1,h2,h3⟩
theorem KT.put{H:Hp}{aO:List (List Key×V)}{xs:List (List Key×Addr×Value)}(r:KT H aO xs)(k:List Key){b:Addr}{y:V}{u:Value}(hb:H b=some (.tup (k.map kV)))(ry:RelV y u):
  KT H (putK aO k y) (storedH xs k b u):=by
 have e:(aO.any λkv=>decide (kv.1=k))=(atKey xs k).isSome:=by
  rw [Z1,(r.val k).lg,Yi]
 unfold putK storedH
 rw [e]
 by_cases q:(atKey xs k).isSome=true
 .rw [if_pos q,if_pos q];exact r.EN k ry
 .rw [if_neg q,if_neg q];exact Paired.snoc r ⟨rfl,hb,ry⟩
theorem KT.keeps{H H':Hp}{aO:List (List Key×V)}{xs:List (List Key×Addr×Value)}(r:KT H aO xs)(ht:∀b ys,H b=some (.tup ys)->H' b=some (.tup ys)):KT H' aO xs:=
 Paired.E2 r λ_ _ z=>⟨z.1,ht _ _ z.2.1,z.2.2⟩
section
variable {P:Program}{w:World}{H:Hp}{h:Heap}{a:Addr}
theorem YA{u:HO}(ok:jX P w H h)(e:Rd H a u):cD P w H h a u:=e.ok ok
theorem NV{aO:List (Key×V)}(ok:jX P w H h)(e:Rd H a (.dK aO)):aO.length<=sizeLine/\(a==sysModules)=false/\∃vs,KV aO vs/\h.DictOf (vZ P w) a vs:=
 show cD P w H h a (.dK aO) from YA ok e
theorem Ku{aO:List (Key×V)}(ok:jX P w H h)(e:H a=some (.dK aO)):aO.length<=sizeLine/\(a==sysModules)=false/\∃vs,KV aO vs/\h.DictOf (vZ P w) a vs:=NV ok (.inl e)
theorem Of{ks:List Key}(ok:jX P w H h)(e:H a=some (.tup (ks.map kV))):(tupleKind (vZ P w)).is h ks a:=by
 obtain ⟨_,aD,r,o,h1,h2,n,h3⟩:=(show cD P w H h a (.tup (ks.map kV)) from ok a _ e)
 exact ⟨o,aD.toArray,n,h1,h2,h3,by simpa using a83 r⟩
theorem NQ{aO:List (List Key×V)}(ok:jX P w H h)(e:Rd H a (.dT aO)):aO.length<=sizeLine/\(a==sysModules)=false /\
  ∃xs,KT H aO xs/\h.DictOfH (tupleKind (vZ P w)) a xs:=by
 obtain ⟨z,y,xs,r,o,es,ep,h1,h2,h3,h4,h5⟩:=(show cD P w H h a (.dT aO) from YA ok e)
 refine ⟨z,y,xs,r,o,es,ep,h1,h2,h3,h4,λx hx=>?_,h5⟩
 have all:∀{l:List (List Key×V)} {m:List (List Key×Addr×Value)},KT H l m->∀x∈m,(tupleKind (vZ P w)).is h x.1 x.2.1:=by
  intro l m q
  induction q with
  | nil=>intro x hx;exact nomatch hx
  | @cons p q ps qs hq t ih =>
   intro x hx
   rcases fB.mp hx with e | hx
   .subst e
    exact Of ok (by rw [<-hq.1];exact hq.2.1)
   .exact ih x hx
 exact all r x hx
theorem Kt{aO:List (List Key×V)}(ok:jX P w H h)(e:H a=some (.dT aO)):aO.length<=sizeLine/\(a==sysModules)=false /\
  ∃xs,KT H aO xs/\h.DictOfH (tupleKind (vZ P w)) a xs:=NQ ok (.inl e)
end
def qP(H:Hp)(a:Addr)(y:V)(r:Option V):Prop:=
 (∃aO k,Rd H a (.dK aO)/\y=kV k/\r=lU aO k)\/∃aO k b,Rd H a (.dT aO)/\y=.ref b/\H b=some (.tup (k.map kV))/\r=lU aO k
def A5(H:Hp)(a:Addr)(y v:V)(H':Hp):Prop:=
 (∃aO k,H a=some (.dK aO)/\y=kV k/\aO.length<sizeLine/\H'=upd H a (.dK (putK aO k v))) \/
 ∃aO k b,H a=some (.dT aO)/\y=.ref b/\H b=some (.tup (k.map kV))/\aO.length<sizeLine/\H'=upd H a (.dT (putK aO k v))
theorem A5.k{H:Hp}{a:Addr}{aO:List (Key×V)}{k:Key}{v:V}(e:H a=some (.dK aO))(hl:aO.length<sizeLine):A5 H a (kV k) v (upd H a (.dK (putK aO k v))):=.inl ⟨aO,k,e,rfl,hl,rfl⟩
section
variable {X:Cx}{pins:List (Addr×Obj)}{σ:St}{H:Hp}{s:Shared}{a:Addr}{y v:V}{u r:Value}{o:Option V}{A:Around}{E:Value->Shared->Prop}
theorem Inv.big(I:Inv X pins σ H s):sysModules<s.heap.objs.size:=by
 have h:mainGlobals<s.heap.objs.size:=(I.mod.glob.keeps I.bk).lt
 exact Sm (by decide) h
theorem b24{Q:Value->Shared->Prop}(hu:A.units+1<cLine)(I:Inv X pins σ H s)(g:qP H a y (some v))(ry:RelV y u)(h:∀w' s',Inv X pins σ H s'->RelV v w'->Q w' s'):
  wpAny (model X.prog X.w) A (getItem (.ref a) u) Q E s:=by
 rcases g with ⟨aO,k,e,ey,l⟩ | ⟨aO,k,b,e,ey,eb,l⟩
 .subst ey
  obtain ⟨z,hd,vs,rel,dd⟩:=NV I.cw e
  obtain ⟨w',hw,Cc⟩:=jB.some_of (v:=v) (o:=valueAt vs k) (by rw [l];exact rel.val k)
  exact wpAny_getItem_of (N0 ry) dd.mapOf hw (h w' _ (I.tok _) Cc)
 .subst ey
  cases (show u=fq b from ry)
  obtain ⟨z,hd,xs,rel,dd⟩:=NQ I.cw e
  obtain ⟨w',hw,Cc⟩:=jB.some_of (v:=v) (o:=(atKey xs k).map (·.2)) (by rw [l];exact rel.val k)
  obtain ⟨p,hp,MP⟩:=GY.mp hw
  refine wpAny_getItem_heap (Tg hu) (Of I.cw eb) dd hp ?_
  rw [MP]
  exact h w' _ (I.tok _) Cc
theorem b68{Q:Value->Shared->Prop}(hu:A.units+1<cLine)(I:Inv X pins σ H s)(g:qP H a y o)(ry:RelV y u)(h:∀s',Inv X pins σ H s'->Q (.bool (!o.isSome)) s'):
  wpAny (model X.prog X.w) A (compareOp .NotIn u (.ref a)) Q E s:=by
 rcases g with ⟨aO,k,e,ey,l⟩ | ⟨aO,k,b,e,ey,eb,l⟩
 .subst ey
  obtain ⟨z,hd,vs,rel,dd⟩:=NV I.cw e
  refine wpAny_notIn_of (N0 ry) hd dd.mapOf ?_
  rw [<-(rel.val k).lg,<-l]
  exact h _ (I.tok _)
 .subst ey
  cases (show u=fq b from ry)
  obtain ⟨z,hd,xs,rel,dd⟩:=NQ I.cw e
  refine wpAny_notIn_heap (Tg hu) (Of I.cw eb) hd dd ?_
  have q:=(rel.val k).lg
  rw [Yi] at q
  rw [<-q,<-l]
  exact h _ (I.tok _)
theorem ZH{h':Heap}{t':Nat}{ob:HO}(I:Inv X pins σ H s)(mu:Mo (H a))(hs:AG a s.heap h')(he:∃q,h'.get? a=some q)(new:cD X.prog X.w (upd H a ob) h' a ob):
  Inv X pins σ (upd H a ob) { s with heap:=h',toks:=t' }:=
 I.write (x:=a) (e:=a) mu (.inl rfl) (λb q hb z=>(hs.2 b hb).trans z) he new
theorem b9h{P:Program}{w:World}{H':Hp}{h':Heap}{aO:List (Key×V)}{vs:List (Key×Value)}(z:aO.length<=sizeLine)(hd:(a==sysModules)=false)(rel:KV aO vs)(dd:h'.DictOf (vZ P w) a vs):
  cD P w H' h' a (.dK aO):=⟨z,hd,vs,rel,dd⟩
theorem b23{H':Hp}{Q:Unit->Shared->Prop}(hu:A.units+1<cLine)(I:Inv X pins σ H s)(g:A5 H a y v H')(ry:RelV y u)(rv:RelV v r)(h:∀s',Inv X pins σ H' s'->Q () s'):
  wpAny (model X.prog X.w) A (setItem (.ref a) u r) Q E s:=by
 rcases g with ⟨aO,k,e,ey,l,eH⟩ | ⟨aO,k,b,e,ey,eb,l,eH⟩
 .subst ey eH
  obtain ⟨z,hd,vs,rel,dd⟩:=Ku I.cw e
  have hz:vs.length<=sizeLine:=by rw [<-rel.length];exact z
  have hl:(putK aO k v).length<=sizeLine:=by have:=a60 aO k v;omega
  refine wpAny_setItem_pairs (hsz:=hz) (N0 ry) dd λh' M3 hs=>h _ ?_
  have he:∃q,h'.get? a=some q:=let ⟨q,_,_,hq,_⟩:=M3;⟨q,hq⟩
  exact ZH I (by rw [e];exact AA) hs he (b9h hl hd (rel.put k rv) M3)
 .subst ey eH
  cases (show u=fq b from ry)
  obtain ⟨z,hd,xs,rel,dd⟩:=Kt I.cw e
  have hz:xs.length<=sizeLine:=by rw [<-Paired.length rel];exact z
  have hl:(putK aO k v).length<=sizeLine:=by have:=a60 aO k v;omega
  refine wpAny_setItem_heap (hsz:=hz) (Tg hu) (Of I.cw eb) dd λh' M3 hs=>h _ ?_
  obtain ⟨q,es,ep,hq,h2,h3,h4,_,h5⟩:=M3
  refine ZH I (by rw [e];exact AA) hs ⟨q,hq⟩ ⟨hl,hd,_,(rel.put k eb rv).keeps λc ys ec=>?_,q,es,ep,hq,h2,h3,h4,h5⟩
  rw [g9 (b6k ec e (λz=>nomatch z))]
  exact ec
end
section
variable {X:Cx}{pins:List (Addr×Obj)}{σ:St}{H:Hp}{s:Shared}{a:Addr}{aO:List (Key×V)}{k:Key}{u:Value}{A:Around}{E:Value->Shared->Prop}
end
def Dr(i:Expr):Prop:=∀ov iv,subscripted i false ov iv=operate [ov,iv] (getItem ov iv)
theorem b5I{prog:Program}{w:World}{A:Around}{E:Value->Shared->Prop}{s:Shared}{env:Env}{value slice:Expr}{pos:Pos}{T id:String}{Q:Value->Shared->Prop}
  (hl:typeLookup (.type T) "__getitem__" = pure (some (.builtin id)))(hs:Dr slice)
  (h:wpAny (model prog w) A (eval value env) (λo bA=>wpAny (model prog w) A (eval slice env) (λi dM=>dM.TypeIs o T/\wpAny (model prog w) A (getItem o i) Q E dM) E bA) E s):
  wpAny (model prog w) A (eval (.Subscript value slice pos) env) Q E s:=by
 refine Subscript_ (t5 h (λo bA h₁=>t5 h₁ (λi dM tD=>?_) λ_ _ x=>x) λ_ _ x=>x)
 obtain ⟨hT,tD⟩:=tD
 unfold subscriptTail
 refine aM ?_
 rw [getitemInPython_of_ne hT.not_modules]
 refine aM (wpAny_specialOf hT hl ?_)
 have fin:wpAny (model prog w) A (subscripted slice false o i) (λr pV=>wpAny (model prog w) A (letTemporaryGo value o r >>= λ_=>pure r) Q E pV) E dM:=by
  rw [hs o i]
  exact wpAny_operating (t5 tD (λr pV Cr=>aM (wpAny_letTemporaryGo (cp Cr))) λ_ _ x=>x)
 first
  | exact cp (aM fin)
  | exact aM (cp (aM fin))
  | exact aM fin
theorem b0a{X:Cx}{pins:List (Addr×Obj)}{σ:St}{H:Hp}{s:Shared}{a:Addr}{y:V}{o:Option V}(I:Inv X pins σ H s)(g:qP H a y o):s.TypeIs (.ref a) "dict":=by
 rcases g with ⟨aO,k,e,_,_⟩ | ⟨aO,k,b,e,_,_,_⟩
 .obtain ⟨_,_,vs,_,dd⟩:=NV I.cw e
  exact dd.typeIs
 .obtain ⟨_,_,xs,_,dd⟩:=NQ I.cw e
  exact dd.typeIs
noncomputable def Io(td ty:TE):TE:=λσ H Q=>td σ H λx H1=>ty σ H1 λy H2=>∃a v,x=.ref a/\qP H2 a y (some v)/\Q v H2
noncomputable def UE(ty td:TE):TE:=λσ H Q=>ty σ H λy H1=>td σ H1 λx H2=>∃a o,x=.ref a/\qP H2 a y o/\Q (.bl (!o.isSome)) H2
noncomputable def ID(td ty tv:TE):TS:=λD σ H=>tv σ H λv H1=>td σ H1 λx H2=>ty σ H2 λy H3=>∃a H4,x=.ref a/\A5 H3 a y v H4/\D.nx σ H4
section
variable {X:Cx}{o i e value:Expr}{pos pos' Qc:Pos}{td ty tv:TE}
theorem b57(hu:X.A.units+1<cLine)(ho:PE X o td)(hi:PE X i ty)(hs:Dr i):PE X (.Subscript o i pos) (Io td ty):=by
 intro pins s σ H Q I h
 refine b5I PySem.F.slot_dict_getitem.lookup hs (cq (ho pins s σ H _ I h) λu s1 ⟨x,H1,I1,rx,q1⟩=>cq (hi pins s1 σ H1 _ I1 q1) λiv s2 ⟨y,H2,I2,ry,a,v,ex,g,q2⟩=>?_)
 subst ex
 obtain rfl:u=fq a:=rx
 exact ⟨b0a I2 g,b24 hu I2 g ry λw' s3 I3 Cc=>⟨v,H2,I3,Cc,q2⟩⟩
theorem b14(hu:X.A.units+1<cLine)(hi:PE X i ty)(ho:PE X o td):PC X .NotIn i o (UE ty td):=by
 intro pins s σ H Q I h
 refine cq (hi pins s σ H _ I h) λiv s1 ⟨y,H1,I1,ry,q1⟩=>cq (ho pins s1 σ H1 _ I1 q1) λu s2 ⟨x,H2,I2,rx,a,ov,ex,g,q2⟩=>?_
 subst ex
 obtain rfl:u=fq a:=rx
 exact b68 hu I2 g ry λs3 I3=>⟨.bl (!ov.isSome),H2,I3,rfl,q2⟩
theorem b5Z(hu:X.A.units+1<cLine)(ho:PE X o td)(hi:PE X i ty)(hv:PE X value tv)(hs:swapsWith value (some (.Subscript o i pos')) pos.line X.env=pure false):
  PS X (.Assign [.Subscript o i pos'] value pos) (ID td ty tv):=by
 intro pins s σ H D I h
 refine wpAny_Assign_Subscript (cq (hv pins s σ H _ I h) λr s1 ⟨v,H1,I1,rv,q1⟩=>cq (ho pins s1 σ H1 _ I1 q1) λu s2 ⟨x,H2,I2,rx,q2⟩=>cq (hi pins s2 σ H2 _ I2 q2) λiv s3 ⟨y,H3,I3,ry,a,H4,ex,g,q3⟩=>?_) hs
 subst ex
 obtain rfl:u=fq a:=rx
 exact b23 hu I3 g ry rv λs4 I4=>⟨σ,H4,I4,q3⟩
end
theorem b4B{P:Program}{w:World}{H:Hp}(h:Heap)(hb:sysModules<h.objs.size):cD P w H (h.push { cls:=.type "dict",data:=.dict #[] }) h.objs.size (.dK []):=
 ⟨AE _,beq_eq_false_iff_ne.mpr (oX (iE hb)),[],.nil,Heap.DictOf.new h⟩
noncomputable def b70:TE:=λ_ H Q=>∀p,H p=none->Q (.ref p) (upd H p (.dK []))
section
variable {X:Cx}{pos:Pos}
theorem b3R:PE X (.Dict [] [] pos) b70:=λpins s σ H Q I h =>
 wpAny_Dict_empty ⟨.ref s.heap.objs.size,_,I.laid (a:=s.heap.objs.size) (o:=.dK []) (t':=s.toks) (λ_ _ q=>gg _ q) (cT _) (b4B s.heap I.big),rfl,h _ (I.cw.fresh (cT _))⟩
end
section
variable {X:Cx}{pins:List (Addr×Obj)}{σ:St}{H:Hp}{s:Shared}{a:Addr}{y d:V}{u r:Value}{o:Option V}{A:Around}{E:Value->Shared->Prop}
end
section
variable {X:Cx}{o e f:Expr}{apos aR:Pos}{td ty tx:TE}
end
section
variable {X:Cx}{pins:List (Addr×Obj)}{σ:St}{H:Hp}{s:Shared}{a:Addr}{aO:List (Key×V)}{A:Around}{E:Value->Shared->Prop}
end
section
variable {X:Cx}{pins:List (Addr×Obj)}{σ:St}{H:Hp}{s:Shared}{a:Addr}{y:V}{u:Value}{A:Around}{E:Value->Shared->Prop}
end
end L2
namespace DL
open PySem PySem.Spec PyProof.Rows L2
section
variable {prog:Program}{w:World}{A:Around}{E:Value->Shared->Prop}{s:Shared}
theorem b4E{ws:List Value}(ht:IsTup s.heap t #[])(hb:IsTup s.heap b ws.toArray)(h1:Q (.ref b) s):wpAny (model prog w) A (binaryOp .Add (.ref t) (.ref b)) Q E s:=by
 obtain ⟨⟨cls,dd,data,sl⟩,ho,hc,n,hd⟩:=id ht
 obtain ⟨⟨R8,M2,data2,IA⟩,E',JY,n2,hd2⟩:=id hb
 simp only at hc hd JY hd2
 subst hc hd JY hd2
 exact concat_meets ⟨_,ho,rfl⟩ ⟨_,E',rfl⟩ SK SQ S' Tu (Tw _ _)
   (tuple_addW0 t b #[] ws.toArray n n2 dd M2 sl IA rfl) ⟨ho,E',h1⟩
end
section
variable {X:Cx}
noncomputable def IS(K:aQ):R2:=λx y H Q=>∃a b ys,x=.ref a/\y=.ref b/\kK K H a []/\kK K H b ys/\Q (.ref b) H
theorem b6f:lJ X (binaryOp .Add) (IS X.K):=by
 intro pins s σ H x y v u Q I rx ry h
 obtain ⟨a,b,ys,rfl,rfl,ha,hb,q1⟩:=h
 cases rx
 cases ry
 obtain ⟨aD,r1,p1,_⟩:=I.tuple ha
 obtain ⟨gi,r2,p2,_⟩:=I.tuple hb
 cases r1
 exact b4E p1 p2 ⟨.ref b,H,I,rfl,q1⟩
end
end DL
namespace DL
open PySem PySem.Spec PyProof.Rows L2
inductive D where
 | b8 | bl (b:Bool) | int (i:Int) | str (x:Str) | tup (ds:List D) | lst (ro:Bool) (ds:List D) | exc (n:Str) | mq (fz:Bool) (aO:List (Int×Int))
 | obj (c:Str) (ns:List Str) (ds:List D) | g0 (ks:List Str) (ds:List D) | kW (ks:List Str) (ds:List D)
 deriving Inhabited
inductive Sl where
 | no | sh (d:D) | ow (ds:List D) | dw (aO:List (Int×Int)) | tw (ks:List Str) (ds:List D)
 deriving Inhabited
noncomputable abbrev En:=List Sl
noncomputable def Sl.d:Sl->D
 | .no=>.b8
 | .sh d=>d
 | .ow ds=>.lst false ds
 | .dw aO=>.mq false aO
 | .tw ks ds=>.g0 ks ds
def RZ(p C:Addr)(h:Heap):Prop:=∃o,h.get? p=some o/\o.cls=.ref C
noncomputable abbrev DO(ks:List Str)(vs:List V):HO:=.dK ((ks.zip vs).map λq=>(.inr q.1,q.2))
mutual
inductive Is (K:aQ) (O:Addr->Prop) (H:Hp):V->D->Prop
 | b8:Is K O H .b8 .b8
 | bl (b:Bool):Is K O H (.bl b) (.bl b)
 | int (i:Int):Is K O H (.int i) (.int i)
 | str (x:Str):Is K O H (.str x) (.str x)
 | tup {p:Addr} {xs:List V} {ds:List D} (ho:¬O p) (hp:Rd H p (.tup xs)) (hs:bx K O H xs ds):Is K O H (.ref p) (.tup ds)
 | wO {p:Addr} {xs:List V} {ds:List D} (hp:kK K (λ_=>none) p xs) (hs:bx K O H xs ds):Is K O H (.ref p) (.tup ds)
 | lst {p:Addr} {xs:List V} {ds:List D} (ho:¬O p) (hp:H p=some (.lst xs)) (hs:bx K O H xs ds):Is K O H (.ref p) (.lst false ds)
 | sx {p:Addr} {xs:List V} {ds:List D} (ho:¬O p) (hp:Rd H p (.lst xs)) (hs:bx K O H xs ds):Is K O H (.ref p) (.lst true ds)
 | sV {p:Addr} {xs:List V} {ds:List D} (hp:jm K (λ_=>none) p xs) (hs:bx K O H xs ds):Is K O H (.ref p) (.lst true ds)
 | exc {p C:Addr} {n:Str} (ho:¬O p) (hn:nR K mainGlobals n=some (some (.ref C))) (hp:H p=some (.ext (RZ p C))):Is K O H (.ref p) (.exc n)
 | mq {p:Addr} {aO:List (Int×Int)} (ho:¬O p) (hp:H p=some (.dK (aO.map λq=>(.inl q.1,.int q.2)))):Is K O H (.ref p) (.mq false aO)
 | CL {p:Addr} {aO:List (Int×Int)} {o:Obj} (ho:¬O p) (hp:H p=some (.nz o (.dK (aO.map λq=>(.inl q.1,.int q.2))))):Is K O H (.ref p) (.mq true aO)
 | obj {p C dx:Addr} {c:Str} {ns:List Str} {vs:List V} {ds:List D} (ho:¬O p) (hn:nR K mainGlobals c=some (some (.ref C))) (hp:H p=some (.ins C dx (ns.zip vs))) (hl:ns.length=vs.length) (hs:bx K O H vs ds):Is K O H (.ref p) (.obj c ns ds)
 | g0 {p:Addr} {ks:List Str} {vs:List V} {ds:List D} (ho:¬O p) (hp:H p=some (DO ks vs)) (hl:ks.length=vs.length) (hs:bx K O H vs ds):Is K O H (.ref p) (.g0 ks ds)
 | kW {p:Addr} {ks:List Str} {vs:List V} {ds:List D} {o:Obj} (ho:¬O p) (hp:H p=some (.nz o (DO ks vs))) (hl:ks.length=vs.length) (hs:bx K O H vs ds):Is K O H (.ref p) (.kW ks ds)
inductive bx (K:aQ) (O:Addr->Prop) (H:Hp):List V->List D->Prop
 | nil:bx K O H [] []
 | cons {x:V} {d:D} {xs:List V} {ds:List D} (h:Is K O H x d) (t:bx K O H xs ds):bx K O H (x::xs) (d::ds)
end
theorem Ze{O:Addr->Prop}{H H':Hp}(hH:∀q u,H q=some u->¬O q->H' q=some u){p:Addr}{u:HO}(ho:¬O p)(h:Rd H p u):Rd H' p u:=by
 rcases h with h | ⟨o,h⟩
 .exact .inl (hH p u h ho)
 .exact .inr ⟨o,hH p _ h ho⟩
theorem ZI(h:Rd H p u):H p≠none:=by
 rcases h with h | ⟨o,h⟩<;>rw [h]<;>exact λz=>nomatch z
theorem LU{K:aQ}{H:Hp}{p:Addr}{xs:List V}(h:jm K (λ_=>none) p xs):jm K H p xs:=by
 rcases h with (h | ⟨o,h⟩) | h
 .cases h
 .cases h
 .exact .inr h
theorem LY{K:aQ}{H:Hp}{p:Addr}{xs:List V}(h:kK K (λ_=>none) p xs):kK K H p xs:=by
 rcases h with (h | ⟨o,h⟩) | h
 .cases h
 .cases h
 .exact .inr h
section
variable {K:aQ}{O O':Addr->Prop}{H H':Hp}
mutual
theorem Is.map(hO:∀q,H q≠none->¬O q->¬O' q)(hH:∀q u,H q=some u->¬O q->H' q=some u):∀{v:V} {d:D},Is K O H v d->Is K O' H' v d
 | _,_,.b8=>.b8
 | _,_,.bl b=>.bl b
 | _,_,.int i=>.int i
 | _,_,.str x=>.str x
 | _,_,.tup ho hp hs=>.tup (hO _ (ZI hp) ho) (Ze hH ho hp) (bx.map hO hH hs)
 | _,_,.wO hp hs=>.wO hp (bx.map hO hH hs)
 | _,_,.lst ho hp hs=>.lst (hO _ (by rw [hp];exact λz=>nomatch z) ho) (hH _ _ hp ho) (bx.map hO hH hs)
 | _,_,.sx ho hp hs=>.sx (hO _ (ZI hp) ho) (Ze hH ho hp) (bx.map hO hH hs)
 | _,_,.sV hp hs=>.sV hp (bx.map hO hH hs)
 | _,_,.exc ho hn hp=>.exc (hO _ (by rw [hp];exact λz=>nomatch z) ho) hn (hH _ _ hp ho)
 | _,_,.mq ho hp=>.mq (hO _ (by rw [hp];exact λz=>nomatch z) ho) (hH _ _ hp ho)
 | _,_,.CL ho hp=>.CL (hO _ (by rw [hp];exact λz=>nomatch z) ho) (hH _ _ hp ho)
 | _,_,.obj ho hn hp hl hs=>.obj (hO _ (by rw [hp];exact λz=>nomatch z) ho) hn (hH _ _ hp ho) hl (bx.map hO hH hs)
 | _,_,.g0 ho hp hl hs=>.g0 (hO _ (by rw [hp];exact λz=>nomatch z) ho) (hH _ _ hp ho) hl (bx.map hO hH hs)
 | _,_,.kW ho hp hl hs=>.kW (hO _ (by rw [hp];exact λz=>nomatch z) ho) (hH _ _ hp ho) hl (bx.map hO hH hs)
theorem bx.map(hO:∀q,H q≠none->¬O q->¬O' q)(hH:∀q u,H q=some u->¬O q->H' q=some u):∀{v:List V} {d:List D},bx K O H v d->bx K O' H' v d
 | _,_,.nil=>.nil
 | _,_,.cons h t=>.cons (Is.map hO hH h) (bx.map hO hH t)
end
theorem Is.grow(s:aG H H')(h:Is K O H v d):Is K O H' v d:=h.map (λ_ _ z=>z) λq u e _=>s q u e
theorem bx.grow(s:aG H H')(h:bx K O H v d):bx K O H' v d:=h.map (λ_ _ z=>z) λq u e _=>s q u e
theorem Is.less(hO:∀q,O' q->O q)(h:Is K O H v d):Is K O' H v d:=h.map (λ_ _ z w=>z (hO _ w)) λ_ _ e _=>e
theorem bx.less(hO:∀q,O' q->O q)(h:bx K O H v d):bx K O' H v d:=h.map (λ_ _ z w=>z (hO _ w)) λ_ _ e _=>e
theorem bx.length:∀{v:List V} {d:List D},bx K O H v d->v.length=d.length
 | _,_,.nil=>rfl
 | _,_,.cons _ t=>by rw [jK,jK,bx.length t]
theorem bx.append:∀{v w:List V} {d e:List D},bx K O H v d->bx K O H w e->bx K O H (v++w) (d++e)
 | _,_,_,_,.nil,s=>s
 | _,_,_,_,.cons h t,s=>.cons h (bx.append t s)
theorem bx.get:∀{v:List V} {ds:List D} {i:Nat} {d:D},bx K O H v ds->ds[i]?=some d->∃x,v[i]?=some x/\Is K O H x d
 | _,_,_,_,.nil,e=>by simp at e
 | _,_,0,_,.cons h _,e=>by simp at e;subst e;exact ⟨_,rfl,h⟩
 | _,_,i+1,d,.cons _ t,e=>by
  obtain ⟨u,h1,h2⟩:=bx.get (i:=i) (d:=d) t (by simpa using e)
  exact ⟨u,by simpa using h1,h2⟩
theorem bx.Fe:∀{v:List V} {ds:List D} {i:Nat} {x:V},bx K O H v ds->v[i]?=some x->∃d,ds[i]?=some d/\Is K O H x d
 | _,_,_,_,.nil,e=>by simp at e
 | _,_,0,_,.cons h _,e=>by simp at e;subst e;exact ⟨_,rfl,h⟩
 | _,_,i+1,d,.cons _ t,e=>by
  obtain ⟨u,h1,h2⟩:=bx.Fe (i:=i) (x:=d) t (by simpa using e)
  exact ⟨u,by simpa using h1,h2⟩
theorem bx.take:∀{v:List V} {d:List D} (n:Nat),bx K O H v d->bx K O H (v.take n) (d.take n)
 | _,_,0,_=>.nil
 | _,_,_+1,.nil=>.nil
 | _,_,n+1,.cons h t=>.cons h (bx.take n t)
theorem bx.drop:∀{v:List V} {d:List D} (n:Nat),bx K O H v d->bx K O H (v.drop n) (d.drop n)
 | _,_,0,h=>h
 | _,_,_+1,.nil=>.nil
 | _,_,n+1,.cons _ t=>bx.drop n t
theorem bx.set(h:Is K O H x d):∀{v:List V} {ds:List D} (n:Nat),bx K O H v ds->bx K O H (v.set n x) (ds.set n d)
 | _,_,_,.nil=>.nil
 | _,_,0,.cons _ t=>.cons h t
 | _,_,n+1,.cons h' t=>.cons h' (bx.set h n t)
theorem bx.iK(h:bx K O H v ds)(e:L2.iK ds i=some d):∃x,L2.iK v i=some x/\Is K O H x d:=by
 unfold L2.iK at e ⊢
 rw [h.length]
 cases q:rh ds.length i with
 | none=>rw [q] at e;cases e
 | some j =>
  rw [q] at e
  exact h.get e
theorem bx.dropLast(h:bx K O H v d):bx K O H v.dropLast d.dropLast:=by
 rw [S8,S8,h.length]
 exact h.take _
theorem bx.ints:∀(ns:List Int),bx K O H (ns.map V.int) (ns.map D.int)
 | []=>.nil
 | n::r=>.cons (.int n) (bx.ints r)
def Sq(K:aQ)(H:Hp)(k:Bool)(p:Addr)(xs:List V):Prop:=if k=true then jm K H p xs else kK K H p xs
noncomputable def j0:D->Option (Bool×List D)
 | .tup ds=>some (false,ds)
 | .lst _ ds=>some (true,ds)
 | _=>none
theorem Is.seq(h:Is K O H v d)(e:j0 d=some (k,ds)):∃p xs,v=.ref p/\Sq K H k p xs/\bx K O H xs ds:=by
 cases h with
 | tup ho hp hs=>cases e;exact ⟨_,_,rfl,.inl hp,hs⟩
 | wO hp hs=>cases e;exact ⟨_,_,rfl,LY hp,hs⟩
 | lst ho hp hs=>cases e;exact ⟨_,_,rfl,.inl (.inl hp),hs⟩
 | sx ho hp hs=>cases e;exact ⟨_,_,rfl,.inl hp,hs⟩
 | sV hp hs=>cases e;exact ⟨_,_,rfl,LU hp,hs⟩
 | _=>cases e
end
theorem Sq.grow{K:aQ}{H H':Hp}{k:Bool}{p:Addr}{xs:List V}(s:aG H H')(h:Sq K H k p xs):Sq K H' k p xs:=by
 cases k with
 | true =>
  rcases h with (h | ⟨o,h⟩) | h
  .exact .inl (.inl (s _ _ h))
  .exact .inl (.inr ⟨o,s _ _ h⟩)
  .exact .inr h
 | false =>
  rcases h with (h | ⟨o,h⟩) | h
  .exact .inl (.inl (s _ _ h))
  .exact .inl (.inr ⟨o,s _ _ h⟩)
  .exact .inr h
noncomputable def Sl.own:Sl->Prop
 | .ow _=>True
 | .dw _=>True
 | .tw _ _=>True
 | _=>False
noncomputable abbrev RV(aO:List (Int×Int)):HO:=.dK (aO.map λq=>(.inl q.1,.int q.2))
def pT(σ:L2.St)(env:En)(p:Addr):Prop:=∃(i:Nat) (s:Sl),env[i]?=some s/\s.own/\σ[i]?=some (some (V.ref p))
abbrev OO(O:Addr->Prop)(σ:L2.St)(env:En)(q:Addr):Prop:=O q\/pT σ env q
theorem _root_.L2.Tb.grow{K:aQ}{H H':Hp}(s:aG H H')(h:Tb K H):Tb K H':=λc P e=>s _ _ (h c P e)
def Et(K:aQ)(O:Addr->Prop)(H:Hp):Prop:=(∀q,O q->H q≠none)/\Tb K H
theorem Et.grow{K:aQ}{O:Addr->Prop}{H H':Hp}(s:aG H H')(h:Et K O H):Et K O H':=⟨λq hq hn=>h.1 q hq (s.free hn),h.2.grow s⟩
structure Rel(K:aQ)(O:Addr->Prop)(B:Hp)(σ:L2.St)(H:Hp)(env:En):Prop where
 same:aG B H
 tK:Et K O B
 len:σ.length=env.length
 sh:∀(i:Nat) (d:D),env[i]?=some (Sl.sh d)->∃v,σ[i]?=some (some v)/\Is K (OO O σ env) H v d
 ow:∀(i:Nat) (ds:List D),env[i]?=some (Sl.ow ds)->∃p xs,σ[i]?=some (some (V.ref p))/\B p=none/\H p=some (.lst xs)/\bx K (OO O σ env) H xs ds
 dw:∀(i:Nat) (aO:List (Int×Int)),env[i]?=some (Sl.dw aO)->∃p,σ[i]?=some (some (V.ref p))/\B p=none/\H p=some (RV aO)
 tw:∀(i:Nat) (ks:List Str) (ds:List D),env[i]?=some (Sl.tw ks ds)->∃p vs,σ[i]?=some (some (V.ref p))/\B p=none/\H p=some (DO ks vs)/\ks.length=vs.length/\bx K (OO O σ env) H vs ds
 sep:∀(i j:Nat) (ds es:Sl) (p:Addr),env[i]?=some ds->env[j]?=some es->σ[i]?=some (some (V.ref p))->σ[j]?=some (some (V.ref p))->ds.own->es.own->i=j
noncomputable def Res(K:aQ)(O:Addr->Prop)(B H:Hp)(v:V):Sl->Prop
 | .no=>False
 | .sh d=>Is K O H v d
 | .ow ds=>∃p xs,v=.ref p/\B p=none/\H p=some (.lst xs)/\bx K (λq=>O q\/q=p) H xs ds
 | .dw aO=>∃p,v=.ref p/\B p=none/\H p=some (RV aO)
 | .tw ks ds=>∃p vs,v=.ref p/\B p=none/\H p=some (DO ks vs)/\ks.length=vs.length/\bx K (λq=>O q\/q=p) H vs ds
section
variable {K:aQ}{O:Addr->Prop}{B H H' H1:Hp}{σ:L2.St}{env:En}{v:V}{r:Sl}
theorem Rel.ad(R:Rel K O B σ H env){i:Nat}{s:Sl}(h:env[i]?=some s)(ho:s.own):∃p u,σ[i]?=some (some (V.ref p))/\B p=none/\H p=some u:=by
 cases s with
 | ow ds=>obtain ⟨p,xs,e1,e2,e3,_⟩:=R.ow i ds h;exact ⟨p,_,e1,e2,e3⟩
 | dw aO=>obtain ⟨p,e1,e2,e3⟩:=R.dw i aO h;exact ⟨p,_,e1,e2,e3⟩
 | tw ks ds=>obtain ⟨p,vs,e1,e2,e3,_⟩:=R.tw i ks ds h;exact ⟨p,_,e1,e2,e3⟩
 | no=>exact ho.elim
 | sh d=>exact ho.elim
theorem Rel.oo(R:Rel K O B σ H env)(h:OO O σ env q):H q≠none:=by
 rcases h with h | ⟨i,s,h1,ho,h2⟩
 .intro z
  exact R.tK.1 q h (R.same.free z)
 .obtain ⟨p,u,e1,_,e3⟩:=R.ad h1 ho
  rw [h2] at e1
  cases e1
  rw [e3];exact λz=>nomatch z
theorem Rel.dm(R:Rel K O B σ H env):Et K (OO O σ env) H:=⟨λ_=>R.oo,R.tK.2.grow R.same⟩
theorem Rel.grow(R:Rel K O B σ H env)(s:aG H H'):Rel K O B σ H' env where
 same:=R.same.trans s
 tK:=R.tK
 len:=R.len
 sh:=λi d e=>let ⟨v,e1,h⟩:=R.sh i d e;⟨v,e1,h.grow s⟩
 ow:=λi ds e=>let ⟨p,xs,e1,e2,e3,h⟩:=R.ow i ds e;⟨p,xs,e1,e2,s _ _ e3,h.grow s⟩
 dw:=λi aO e=>let ⟨p,e1,e2,e3⟩:=R.dw i aO e;⟨p,e1,e2,s _ _ e3⟩
 tw:=λi ks ds e=>let ⟨p,vs,e1,e2,e3,e4,h⟩:=R.tw i ks ds e;⟨p,vs,e1,e2,s _ _ e3,e4,h.grow s⟩
 sep:=R.sep
theorem Res.from(s:aG H1 B)(h:Res K O B H v r):Res K O H1 H v r:=by
 cases r with
 | no=>exact h
 | sh d=>exact h
 | ow ds=>obtain ⟨p,xs,e1,e2,e3,h⟩:=h;exact ⟨p,xs,e1,s.free e2,e3,h⟩
 | dw aO=>obtain ⟨p,e1,e2,e3⟩:=h;exact ⟨p,e1,s.free e2,e3⟩
 | tw ks ds=>obtain ⟨p,vs,e1,e2,e3,e4,h⟩:=h;exact ⟨p,vs,e1,s.free e2,e3,e4,h⟩
theorem Res.less(hO:∀q,O' q->O q)(h:Res K O B H v r):Res K O' B H v r:=by
 cases r with
 | no=>exact h
 | sh d=>exact Is.less hO h
 | ow ds=>obtain ⟨p,xs,e1,e2,e3,h⟩:=h;exact ⟨p,xs,e1,e2,e3,h.less λq z=>z.elim (λw=>.inl (hO _ w)) .inr⟩
 | dw aO=>exact h
 | tw ks ds=>obtain ⟨p,vs,e1,e2,e3,e4,h⟩:=h;exact ⟨p,vs,e1,e2,e3,e4,h.less λq z=>z.elim (λw=>.inl (hO _ w)) .inr⟩
theorem Res.is(hd:∀q,O q->B q≠none)(h:Res K O B H v r):Is K O H v r.d:=by
 cases r with
 | no=>exact h.elim
 | sh d=>exact h
 | ow ds =>
  obtain ⟨p,xs,rfl,e2,e3,h⟩:=h
  exact .lst (λz=>hd p z e2) e3 (h.less λ_=>.inl)
 | dw aO =>
  obtain ⟨p,rfl,e2,e3⟩:=h
  exact .mq (λz=>hd p z e2) e3
 | tw ks ds =>
  obtain ⟨p,vs,rfl,e2,e3,e4,h⟩:=h
  exact .g0 (λz=>hd p z e2) e3 e4 (h.less λ_=>.inl)
end
def EV(X:Cx)(e:Expr)(f:En->Option Sl):Prop:=
 ∃t:TE,PE X e t/\∀(O:Addr->Prop) (B:Hp) (σ:L2.St) (H:Hp) (env:En) (r:Sl) (Q:VK),Rel X.K O B σ H env->f env=some r ->
  (∀v H',aG H H'->Res X.K (OO O σ env) H H' v r->Q v H')->t σ H Q
def BV(X:Cx)(e:Expr)(f:En->Option (Bool×List D)):Prop:=
 ∃t:TE,PE X e t/\∀(O:Addr->Prop) (B:Hp) (σ:L2.St) (H:Hp) (env:En) (k:Bool) (ds:List D) (Q:VK),Rel X.K O B σ H env->f env=some (k,ds) ->
  (∀p xs H',aG H H'->Sq X.K H' k p xs->bx X.K (OO O σ env) H' xs ds->Q (.ref p) H')->t σ H Q
def AV(X:Cx)(es:List Expr)(f:En->Option (List D)):Prop:=
 ∃t:TA,PA X es t/\∀(O:Addr->Prop) (B:Hp) (σ:L2.St) (H:Hp) (env:En) (ds:List D) (Q:List V->Hp->Prop),Rel X.K O B σ H env->f env=some ds ->
  (∀vs H',aG H H'->bx X.K (OO O σ env) H' vs ds->Q vs H')->t σ H Q
def TV(X:Cx)(e:Expr)(f:En->Option Bool):Prop:=
 ∃t:TT,PT X e t/\∀(O:Addr->Prop) (B:Hp) (σ:L2.St) (H:Hp) (env:En) (b:Bool) (Q:Bool->Hp->Prop),Rel X.K O B σ H env->f env=some b ->
  (∀H',aG H H'->Q b H')->t σ H Q
def WV(X:Cx)(e:Expr)(f:En->Option Bool):Prop:=
 ∃t:TT,PW X e t/\∀(O:Addr->Prop) (B:Hp) (σ:L2.St) (H:Hp) (env:En) (b:Bool) (Q:Bool->Hp->Prop),Rel X.K O B σ H env->f env=some b ->
  (∀H',aG H H'->Q b H')->t σ H Q
inductive Fl where
 | nx | bk | ct | rt (r:Sl)
def Gd(σ:L2.St)(env:En)(H:Hp)(bz:L2.St)(ak:En)(H':Hp):Prop:=∀q u,H q=some u->¬pT σ env q->H' q=some u/\¬pT bz ak q
theorem Gd.trans(a:Gd σ env H nv cO H1)(b:Gd nv cO H1 fO cV H2):Gd σ env H fO cV H2:=λq u e n =>
 let ⟨e1,n1⟩:=a q u e n
 b q u e1 n1
theorem Gd.from(s:aG H H1)(b:Gd σ env H1 bz ak H'):Gd σ env H bz ak H':=λq u e n=>b q u (s _ _ e) n
theorem Gd.refl(s:aG H H'):Gd σ env H σ env H':=λq u e n=>⟨s _ _ e,n⟩
noncomputable def g7(K:aQ)(O:Addr->Prop)(B:Hp)(σ:L2.St)(H:Hp)(env:En)(D:Ends):Fl->En->Prop
 | .nx,ak=>∀bz H',Rel K O B bz H' ak->Gd σ env H bz ak H'->D.nx bz H'
 | .bk,ak=>∀bz H',Rel K O B bz H' ak->Gd σ env H bz ak H'->D.bk bz H'
 | .ct,ak=>∀bz H',Rel K O B bz H' ak->Gd σ env H bz ak H'->D.ct bz H'
 | .rt r,_=>∀v H',aG B H'->Res K O B H' v r->D.rt v H'
theorem g7.from{K:aQ}{O:Addr->Prop}{B:Hp}{σ nv:L2.St}{H H1:Hp}{env cO:En}{D:Ends}{fl:Fl}{ak:En}(g:Gd σ env H nv cO H1)(h:g7 K O B σ H env D fl ak):g7 K O B nv H1 cO D fl ak:=by
 cases fl with
 | nx=>exact λbz H' R g'=>h bz H' R (g.trans g')
 | bk=>exact λbz H' R g'=>h bz H' R (g.trans g')
 | ct=>exact λbz H' R g'=>h bz H' R (g.trans g')
 | rt r=>exact h
noncomputable abbrev SF:=En->Option (Fl×En)
def SV(X:Cx)(st:Stmt)(F:SF):Prop:=
 ∃t:TS,PS X st t/\∀(O:Addr->Prop) (B:Hp) (σ:L2.St) (H:Hp) (env:En) (fl:Fl) (ak:En) (D:Ends),Rel X.K O B σ H env->F env=some (fl,ak)->g7 X.K O B σ H env D fl ak->t D σ H
def ur(X:Cx)(st:List Stmt)(F:SF):Prop:=
 ∃t:TS,rT X st t/\∀(O:Addr->Prop) (B:Hp) (σ:L2.St) (H:Hp) (env:En) (fl:Fl) (ak:En) (D:Ends),Rel X.K O B σ H env->F env=some (fl,ak)->g7 X.K O B σ H env D fl ak->t D σ H
section
variable {X:Cx}{a b c:Expr}{pos:Pos}{fa fb fc:En->Option Sl}
noncomputable def eC(d:D):En->Option Sl:=λ_=>some (.sh d)
theorem aB{i j pos}:EV X (.Constant (.int i) j pos) (eC (.int i)):=⟨_,b8q,λ_ _ _ _ _ _ _ _ e k=>by
 obtain rfl:=gz e
 exact k _ _ (aG.refl _) (Is.int i)⟩
theorem YI{i j pos}:EV X (.Constant (.bool i) j pos) (eC (.bl i)):=⟨_,I9,λ_ _ _ _ _ _ _ _ e k=>by
 obtain rfl:=gz e
 exact k _ _ (aG.refl _) (Is.bl i)⟩
theorem kY{j pos}:EV X (.Constant .none j pos) (eC .b8):=⟨_,b8o,λ_ _ _ _ _ _ _ _ e k=>by
 obtain rfl:=gz e
 exact k _ _ (aG.refl _) Is.b8⟩
theorem cM{x j pos}:EV X (.Constant (.str x) j pos) (eC (.str x)):=⟨_,b8l,λ_ _ _ _ _ _ _ _ e k=>by
 obtain rfl:=gz e
 exact k _ _ (aG.refl _) (Is.str x)⟩
noncomputable def MA:Option Sl->Option Sl
 | some (.sh d)=>some (.sh d)
 | _=>none
theorem b3z(h:MA o=some r):∃d,o=some (Sl.sh d)/\r=.sh d:=by
 cases o with
 | none=>cases h
 | some s=>cases s with
  | sh d=>cases h;exact ⟨d,rfl,rfl⟩
  | no=>cases h
  | ow ds=>cases h
  | dw ds=>cases h
  | tw _ _=>cases h
noncomputable def eV(i:Nat):En->Option Sl:=λenv=>MA env[i]?
theorem b83(i:Nat)(hN:X.N[i]?=some x:=by rfl)(hv:jS X.env.scope x:=by first | exact eN rfl | exact cP (eN rfl) | exact cP (cP rfl))(hd:(x==("__debug__":Str))=false:=by decide)
  (dN:(x==("__classdict__":Str))=false:=by decide):EV X (.Name x pos) (eV i):=⟨_,ya hN hv hd dN,λO B σ H env r Q R e k=>by
 obtain ⟨d,e1,rfl⟩:=b3z e
 obtain ⟨v,e2,h⟩:=R.sh i d e1
 exact ⟨v,e2,k v H (aG.refl _) h⟩⟩
noncomputable def EI:Option Sl->Option (Bool×List D)
 | some (.sh d)=>j0 d
 | some (.ow ds)=>some (true,ds)
 | _=>none
noncomputable def bV(i:Nat):En->Option (Bool×List D):=λenv=>EI env[i]?
theorem b9i(i:Nat)(hN:X.N[i]?=some x:=by rfl)(hv:jS X.env.scope x:=by first | exact eN rfl | exact cP (eN rfl) | exact cP (cP rfl))(hd:(x==("__debug__":Str))=false:=by decide)
  (dN:(x==("__classdict__":Str))=false:=by decide):BV X (.Name x pos) (bV i):=⟨_,ya hN hv hd dN,λO B σ H env k ds Q R e q=>by
 unfold bV at e
 cases h:env[i]? with
 | none=>rw [h] at e;cases e
 | some s =>
  rw [h] at e
  cases s with
  | no=>cases e
  | sh d =>
   obtain ⟨v,e2,hv⟩:=R.sh i d h
   obtain ⟨p,xs,rfl,h1,h2⟩:=hv.seq (show j0 d=some (k,ds) from e)
   exact ⟨_,e2,q p xs H (aG.refl _) h1 h2⟩
  | dw es=>cases e
  | tw _ _=>cases e
  | ow es =>
   obtain ⟨rfl,rfl⟩:true=k/\es=ds:=Prod.mk.inj (gz e)
   obtain ⟨p,xs,e2,_,e3,h2⟩:=R.ow i es h
   exact ⟨_,e2,q p xs H (aG.refl _) (.inl (.inl e3)) h2⟩⟩
noncomputable def iP(f:En->Option Sl):En->Option (Bool×List D):=λenv=>(f env).bind λr=>j0 r.d
theorem bind_some{α β:Type}{o:Option α}{f:α->Option β}{b:β}(h:o.bind f=some b):∃a,o=some a/\f a=some b:=by
 cases o with
 | none=>cases h
 | some a=>exact ⟨a,rfl,h⟩
theorem kX(h:EV X a fa):BV X a (iP fa):=by
 obtain ⟨t,ht,p⟩:=h
 refine ⟨t,ht,λO B σ H env k ds Q R e q=>?_⟩
 obtain ⟨r,e1,e2⟩:=bind_some e
 refine p O B σ H env r _ R e1 λv H' s h=>?_
 obtain ⟨p,xs,rfl,h1,h2⟩:=(h.is (λz=>R.oo)).seq e2
 exact q p xs H' s h1 h2
def nu(X:Cx)(f:Value->Value->Sem Value)(g:D->D->Option Sl):Prop:=
 ∃r:R2,lJ X f r/\∀(O:Addr->Prop) (H:Hp) (x y:V) (a b:D) (s:Sl) (Q:VK),(∀q,O q->H q≠none)->Is X.K O H x a->Is X.K O H y b->g a b=some s ->
  (∀v H',aG H H'->Res X.K O H H' v s->Q v H')->r x y H Q
noncomputable def aa(g:D->D->Option Sl)(fa fb:En->Option Sl):En->Option Sl:=λenv=>(fa env).bind λx=>(fb env).bind λy=>g x.d y.d
theorem UQ(hg:∀(O:Addr->Prop) (H:Hp) (x y:V) (a b:D) (s:Sl) (Q:VK),(∀q,O q->H q≠none)->Is X.K O H x a->Is X.K O H y b->g a b=some s->(∀v H',aG H H'->Res X.K O H H' v s->Q v H')->r x y H Q)(pa:∀(O:Addr->Prop) (B:Hp) (σ:L2.St) (H:Hp) (env:En) (r:Sl) (Q:VK),Rel X.K O B σ H env->fa env=some r->(∀v H',aG H H'->Res X.K (OO O σ env) H H' v r->Q v H')->ta σ H Q)
  (pb:∀(O:Addr->Prop) (B:Hp) (σ:L2.St) (H:Hp) (env:En) (r:Sl) (Q:VK),Rel X.K O B σ H env->fb env=some r->(∀v H',aG H H'->Res X.K (OO O σ env) H H' v r->Q v H')->tb σ H Q)
  (O:Addr->Prop)(B:Hp)(σ:L2.St)(H:Hp)(env:En)(s:Sl)(Q:VK)(R:Rel X.K O B σ H env)(e:aa g fa fb env=some s)
  (k:∀v H',aG H H'->Res X.K (OO O σ env) H H' v s->Q v H'):Ih r ta tb σ H Q:=by
 obtain ⟨x,e1,e⟩:=bind_some e
 obtain ⟨y,e2,e⟩:=bind_some e
 refine pa O B σ H env x _ R e1 λv H1 s1 h1=>?_
 refine pb O B σ H1 env y _ (R.grow s1) e2 λu H2 s2 h2=>?_
 have R2:=(R.grow s1).grow s2
 refine hg (OO O σ env) H2 v u x.d y.d s Q (λq=>R2.oo) ((h1.is λq=>R.oo).grow s2) (h2.is λq=>(R.grow s1).oo) e λw H3 s3 h3=>?_
 exact k w H3 ((s1.trans s2).trans s3) (h3.from (s1.trans s2))
theorem bR(ho:nu X (binaryOp op) g)(ha:EV X a fa)(hb:EV X b fb):EV X (.BinOp a op b pos) (aa g fa fb):=by
 obtain ⟨r,hr,hg⟩:=ho
 obtain ⟨ta,pa,ka⟩:=ha
 obtain ⟨tb,pb,kb⟩:=hb
 exact ⟨_,IZ hr pa pb,UQ hg ka kb⟩
theorem Lv(ho:nu X (compareOp op) g)(ha:EV X a fa)(hb:EV X b fb)(hm:behindInMarks op b=false:=by exact Y6 _):EV X (.Compare a [op] [b] pos) (aa g fa fb):=by
 obtain ⟨r,hr,hg⟩:=ho
 obtain ⟨ta,pa,ka⟩:=ha
 obtain ⟨tb,pb,kb⟩:=hb
 exact ⟨_,b58 hr pa pb hm,UQ hg ka kb⟩
noncomputable def qC:Option Sl->Option Bool
 | some (.sh (.bl b))=>some b
 | _=>none
theorem Di{b:Bool}(h:qC o=some b):o=some (Sl.sh (.bl b)):=by
 cases o with
 | none=>cases h
 | some s=>cases s with
  | no=>cases h
  | ow ds=>cases h
  | dw ds=>cases h
  | tw _ _=>cases h
  | sh d=>cases d<;>cases h;rfl
noncomputable def bS(f:En->Option Sl):En->Option Bool:=λenv=>qC (f env)
theorem BQ{K:aQ}{O:Addr->Prop}{H:Hp}{v:V}{b:Bool}(h:Is K O H v (.bl b)):v=.bl b:=by cases h;rfl
theorem qF{K:aQ}{O:Addr->Prop}{H:Hp}{v:V}{b:Int}(h:Is K O H v (.int b)):v=.int b:=by cases h;rfl
theorem Ue{K:aQ}{O:Addr->Prop}{H:Hp}{v:V}(h:Is K O H v .b8):v=.b8:=by cases h;rfl
theorem Hj{K:aQ}{O:Addr->Prop}{H:Hp}{v:V}{b:Str}(h:Is K O H v (.str b)):v=.str b:=by cases h;rfl
theorem cC(ho:nu X (compareOp op) g)(ha:EV X a fa)(hb:EV X b fb)(hm:behindInMarks op b=false:=by exact Y6 _):TV X (.Compare a [op] [b] pos) (bS (aa g fa fb)):=by
 obtain ⟨r,hr,hg⟩:=ho
 obtain ⟨ta,pa,ka⟩:=ha
 obtain ⟨tb,pb,kb⟩:=hb
 refine ⟨_,b5X hr pa pb hm,λO B σ H env k Q R e q=>?_⟩
 exact UQ hg ka kb O B σ H env _ _ R (Di e) λv H' s h=>⟨k,BQ h,q H' s⟩
noncomputable def zI:D->Option Bool
 | .b8=>some false
 | .bl b=>some b
 | .int i=>some (i != 0)
 | .str y=>if y.length<=16777216 then some ((y.length:Int) != 0) else none
 | .tup ds=>some (!ds.isEmpty)
 | .lst _ ds=>some (!ds.isEmpty)
 | .exc _=>none
 | .mq _ _=>none
 | .obj _ _ _=>none
 | .g0 _ _=>none
 | .kW _ _=>none
theorem bx.isEmpty{K:aQ}{O:Addr->Prop}{H:Hp}{xs:List V}{ds:List D}(h:bx K O H xs ds):xs.isEmpty=ds.isEmpty:=by cases h<;>rfl
theorem b5y{K:aQ}{O:Addr->Prop}{H:Hp}{v:V}{d:D}{b:Bool}(h:Is K O H v d)(e:zI d=some b):Gf K v H b:=by
 cases h with
 | b8=>cases e;rfl
 | bl b=>cases e;rfl
 | int i=>cases e;rfl
 | str x =>
  unfold zI at e
  dsimp only at e
  by_cases hl:x.length<=16777216
  .rw [if_pos hl] at e;cases e;exact ⟨by rw [rH];exact hl,rfl⟩
  .rw [if_neg hl] at e;cases e
 | tup ho hp hs=>cases e;exact .inr (.inl ⟨_,.inl hp,by rw [hs.isEmpty]⟩)
 | wO hp hs=>cases e;exact .inr (.inl ⟨_,LY hp,by rw [hs.isEmpty]⟩)
 | lst ho hp hs=>cases e;exact .inl ⟨_,.inl (.inl hp),by rw [hs.isEmpty]⟩
 | sx ho hp hs=>cases e;exact .inl ⟨_,.inl hp,by rw [hs.isEmpty]⟩
 | sV hp hs=>cases e;exact .inl ⟨_,LU hp,by rw [hs.isEmpty]⟩
 | exc ho hn hp=>cases e
 | mq ho hp=>cases e
 | obj=>cases e
 | g0=>cases e
 | kW=>cases e
 | CL ho hp=>cases e
noncomputable def r8(f:En->Option Sl):En->Option Bool:=λenv=>(f env).bind λr=>zI r.d
theorem Lw(ha:EV X a fa)(he:∀whole,isTrue a X.env whole=(do let v <-whole;standAt a.pos;holding [v] (truthy v)):=by intro _;rfl):TV X a (r8 fa):=by
 obtain ⟨ta,pa,ka⟩:=ha
 refine ⟨_,b3J pa he,λO B σ H env k Q R e q=>?_⟩
 obtain ⟨r,e1,e2⟩:=bind_some e
 exact ka O B σ H env r _ R e1 λv H' s h=>⟨k,b5y (h.is λq=>R.oo) e2,q H' s⟩
noncomputable def qE(f g:En->Option Bool):En->Option Bool:=λenv=>match f env with
 | some true=>g env
 | some false=>some false
 | none=>none
noncomputable def fP(f g:En->Option Bool):En->Option Bool:=λenv=>match f env with
 | some false=>g env
 | some true=>some true
 | none=>none
noncomputable def D5(f:En->Option Bool):En->Option Bool:=λenv=>(f env).map (!·)
variable {ga gb:En->Option Bool}{rest:List Expr}
theorem Ox(ha:TV X a ga):WV X (.BoolOp .And [a] pos) ga:=let ⟨t,p,k⟩:=ha;⟨t,b5U p,k⟩
theorem rS(ha:TV X a ga):WV X (.BoolOp .Or [a] pos) ga:=let ⟨t,p,k⟩:=ha;⟨t,b8c p,k⟩
theorem N6(ha:TV X a ga)(hb:WV X (.BoolOp .And (b::rest) pos) gb):WV X (.BoolOp .And (a::b::rest) pos) (qE ga gb):=by
 obtain ⟨t,p,k⟩:=ha
 obtain ⟨u,p',k'⟩:=hb
 refine ⟨_,b8d p p',λO B σ H env d Q R e q=>?_⟩
 unfold qE at e
 cases h:ga env with
 | none=>rw [h] at e;cases e
 | some x =>
  rw [h] at e
  refine k O B σ H env x _ R h λH1 s1=>?_
  cases x with
  | true =>
   rw [if_pos rfl]
   exact k' O B σ H1 env d Q (R.grow s1) e λH2 s2=>q H2 (s1.trans s2)
  | false =>
   cases e
   rw [if_neg vM]
   exact q H1 s1
theorem o6(ha:TV X a ga)(hb:WV X (.BoolOp .Or (b::rest) pos) gb):WV X (.BoolOp .Or (a::b::rest) pos) (fP ga gb):=by
 obtain ⟨t,p,k⟩:=ha
 obtain ⟨u,p',k'⟩:=hb
 refine ⟨_,pw_or p p',λO B σ H env d Q R e q=>?_⟩
 unfold fP at e
 cases h:ga env with
 | none=>rw [h] at e;cases e
 | some x =>
  rw [h] at e
  refine k O B σ H env x _ R h λH1 s1=>?_
  cases x with
  | false =>
   rw [if_neg vM]
   exact k' O B σ H1 env d Q (R.grow s1) e λH2 s2=>q H2 (s1.trans s2)
  | true =>
   cases e
   rw [if_pos rfl]
   exact q H1 s1
theorem gW(h:WV X a ga):TV X a ga:=let ⟨t,p,k⟩:=h;⟨t,p.pt,k⟩
theorem LF(ha:TV X a ga):TV X (.UnaryOp .Not a pos) (D5 ga):=by
 obtain ⟨t,p,k⟩:=ha
 refine ⟨_,b8f p,λO B σ H env d Q R e q=>?_⟩
 unfold D5 at e
 cases h:ga env with
 | none=>rw [h] at e;cases e
 | some x =>
  rw [h] at e
  cases e
  exact k O B σ H env x _ R h λH1 s1=>q H1 s1
noncomputable def w8(f g:En->Option Sl):En->Option Sl:=λenv=>match qC (f env) with
 | some true=>g env
 | some false=>some (.sh (.bl false))
 | none=>none
noncomputable def As(f:En->Option Sl):En->Option Sl:=λenv=>(qC (f env)).map λb=>.sh (.bl !b)
theorem b84(h:EV X a fa):EV X (.BoolOp op [a] pos) fa:=let ⟨t,p,k⟩:=h;⟨t,b8m p,k⟩
theorem YU(ha:EV X a fa)(hb:EV X (.BoolOp .And (b::rest) pos) fb):EV X (.BoolOp .And (a::b::rest) pos) (w8 fa fb):=by
 obtain ⟨t,p,k⟩:=ha
 obtain ⟨u,p',k'⟩:=hb
 refine ⟨_,b8s p p',λO B σ H env r Q R e q=>?_⟩
 unfold w8 at e
 cases h:qC (fa env) with
 | none=>rw [h] at e;cases e
 | some x =>
  rw [h] at e
  refine k O B σ H env _ _ R (Di h) λv H1 s1 r1=>⟨x,BQ r1,?_⟩
  cases x with
  | true =>
   rw [if_pos rfl]
   exact k' O B σ H1 env r Q (R.grow s1) e λv2 H2 s2 r2=>q v2 H2 (s1.trans s2) (r2.from s1)
  | false =>
   obtain rfl:=gz e
   rw [if_neg vM]
   exact q _ H1 s1 (Is.bl false)
theorem b85(ha:EV X a fa):EV X (.UnaryOp .Not a pos) (As fa):=by
 obtain ⟨t,p,k⟩:=ha
 refine ⟨_,b8n p,λO B σ H env r Q R e q=>?_⟩
 unfold As at e
 cases h:qC (fa env) with
 | none=>rw [h] at e;cases e
 | some x =>
  rw [h] at e
  obtain rfl:=gz e
  exact k O B σ H env _ _ R (Di h) λv H1 s1 r1=>⟨x,BQ r1,q _ H1 s1 (Is.bl _)⟩
noncomputable def yU(c:En->Option Bool)(f g:En->Option Sl):En->Option Sl:=λenv=>match c env with
 | some true=>f env
 | some false=>g env
 | none=>none
theorem D7(hc:TV X c ga)(ha:EV X a fa)(hb:EV X b fb):EV X (.IfExp c a b pos) (yU ga fa fb):=by
 obtain ⟨tc,pc,kc⟩:=hc
 obtain ⟨t,p,k⟩:=ha
 obtain ⟨u,p',k'⟩:=hb
 refine ⟨_,b3Q pc p p',λO B σ H env r Q R e q=>?_⟩
 unfold yU at e
 cases h:ga env with
 | none=>rw [h] at e;cases e
 | some x =>
  rw [h] at e
  refine kc O B σ H env x _ R h λH1 s1=>?_
  cases x with
  | true =>
   rw [if_pos rfl]
   exact k O B σ H1 env r Q (R.grow s1) e λv2 H2 s2 r2=>q v2 H2 (s1.trans s2) (r2.from s1)
  | false =>
   rw [if_neg vM]
   exact k' O B σ H1 env r Q (R.grow s1) e λv2 H2 s2 r2=>q v2 H2 (s1.trans s2) (r2.from s1)
noncomputable def Fk:D->Option Sl
 | .int i=>some (.sh (.int (-i)))
 | _=>none
noncomputable def qo(f:En->Option Sl):En->Option Sl:=λenv=>(f env).bind λr=>Fk r.d
theorem Hi(ha:EV X a fa):EV X (.UnaryOp .USub a pos) (qo fa):=by
 obtain ⟨t,p,k⟩:=ha
 refine ⟨_,IX b7T p,λO B σ H env r Q R e q=>?_⟩
 obtain ⟨x,e1,e2⟩:=bind_some e
 refine k O B σ H env x _ R e1 λv H1 s1 r1=>?_
 have hi:=r1.is λq=>R.oo
 cases hd:x.d with
 | int i =>
  rw [hd] at hi e2
  obtain rfl:=qF hi
  obtain rfl:=gz e2
  exact ⟨i,rfl,q _ H1 s1 (Is.int _)⟩
 | _=>rw [hd] at e2;cases e2
variable {e:Expr}{es:List Expr}
noncomputable def af:En->Option (List D):=λ_=>some []
noncomputable def ag(f:En->Option Sl)(g:En->Option (List D)):En->Option (List D):=λenv=>(f env).bind λr=>(g env).bind λds=>some (r.d::ds)
theorem aU:AV X [] af:=⟨_,rR,λO B σ H env ds Q R e q=>by
 obtain rfl:=gz e
 exact q [] H (aG.refl _) .nil⟩
theorem ah(ha:EV X e fe)(hb:AV X es fs)(hs:starEach (e::es) X.env=(false,eval e X.env)::starEach es X.env:=by rfl):AV X (e::es) (ag fe fs):=by
 obtain ⟨t,p,k⟩:=ha
 obtain ⟨u,p',k'⟩:=hb
 refine ⟨_,nW p p' hs,λO B σ H env ds Q R e q=>?_⟩
 obtain ⟨r,e1,e2⟩:=bind_some e
 obtain ⟨ds',e4,e3⟩:=bind_some e2
 obtain rfl:=gz e3
 refine k O B σ H env r _ R e1 λv H1 s1 r1=>?_
 refine k' O B σ H1 env ds' _ (R.grow s1) e4 λvs H2 s2 r2=>?_
 exact q _ H2 (s1.trans s2) (.cons ((r1.is λq=>R.oo).grow s2) r2)
theorem o9(h:H p=none)(o:HO):aG H (upd H p o):=λb u q=>by rw [g9 (zD q h)];exact q
noncomputable def iN(f:En->Option (List D)):En->Option Sl:=λenv=>(f env).bind λds=>if ds.length<=16777216 then some (.sh (.tup ds)) else none
noncomputable def cJ(f:En->Option (List D)):En->Option Sl:=λenv=>(f env).bind λds=>if ds.length<=16777216 then some (.ow ds) else none
theorem lS{α:Type}{c:Prop}[Decidable c]{x y:α}(h:(if c then some x else none)=some y):c/\x=y:=by
 by_cases hc:c
 .rw [if_pos hc] at h;exact ⟨hc,gz h⟩
 .rw [if_neg hc] at h;cases h
theorem LI{K:aQ}{O:Addr->Prop}{H:Hp}{p:Addr}{xs:List V}{ds:List D}(hO:∀q,O q->H q≠none)(hp:H p=none)(h:bx K O H xs ds):Res K O H (upd H p (.tup xs)) (.ref p) (.sh (.tup ds)):=
 Is.tup (λz=>hO p z hp) (.inl og) (h.grow (o9 hp _))
theorem Hm{K:aQ}{O:Addr->Prop}{H:Hp}{p:Addr}{xs:List V}{ds:List D}(hp:H p=none)(h:bx K O H xs ds):Res K O H (upd H p (.lst xs)) (.ref p) (.ow ds):=
 ⟨p,xs,rfl,hp,og,h.map (λq hq hn z=>z.elim hn λw=>hq (by rw [w];exact hp)) λq u e _=>o9 hp _ q u e⟩
theorem vY{x1}(h:AV X es fs):EV X (.Tuple es x1 pos) (iN fs):=by
 obtain ⟨t,p,k⟩:=h
 refine ⟨_,Y' p,λO B σ H env r Q R e q=>?_⟩
 obtain ⟨ds,e1,e2⟩:=bind_some e
 obtain ⟨hl,rfl⟩:=lS e2
 refine k O B σ H env ds _ R e1 λvs H1 s1 r1=>⟨by rw [r1.length,rH];exact hl,λp hp=>?_⟩
 exact q _ _ (s1.trans (o9 hp _)) ((LI (O:=OO O σ env) (H:=H1) (λ_ z=>(R.grow s1).oo z) hp r1).from s1)
theorem jt(h:AV X es fs):EV X (.List es pos) (cJ fs):=by
 obtain ⟨t,p,k⟩:=h
 refine ⟨_,b8p p,λO B σ H env r Q R e q=>?_⟩
 obtain ⟨ds,e1,e2⟩:=bind_some e
 obtain ⟨hl,rfl⟩:=lS e2
 refine k O B σ H env ds _ R e1 λvs H1 s1 r1=>⟨by rw [r1.length,rH];exact hl,λp hp=>?_⟩
 exact q _ _ (s1.trans (o9 hp _)) ((Hm hp r1).from s1)
noncomputable def bg(f:En->Option (Bool×List D))(g:En->Option Sl):En->Option Sl:=λenv=>(f env).bind λx=>(g env).bind λy=>match y.d with
 | .int i=>(iK x.2 i).map .sh
 | _=>none
theorem bI{fa:En->Option (Bool×List D)}(ha:BV X a fa)(hb:EV X b fb)(hs:Zj b:=by exact λ_ _=>rfl):EV X (.Subscript a b pos) (bg fa fb):=by
 obtain ⟨t,p,k⟩:=ha
 obtain ⟨u,p',k'⟩:=hb
 refine ⟨_,I0 b8N p p' hs,λO B σ H env r Q R e q=>?_⟩
 obtain ⟨⟨kk,ds⟩,e1,e2⟩:=bind_some e
 obtain ⟨y,e2,e3⟩:=bind_some e2
 refine k O B σ H env kk ds _ R e1 λl xs H1 s1 hq hx=>?_
 refine k' O B σ H1 env y _ (R.grow s1) e2 λw H2 s2 r2=>?_
 have hi:=r2.is λq=>(R.grow s1).oo
 cases hd:y.d with
 | int i =>
  rw [hd] at hi e3
  obtain rfl:=qF hi
  dsimp only at e3
  cases h:iK ds i with
  | none=>rw [h] at e3;cases e3
  | some d =>
   rw [h] at e3
   obtain rfl:=gz e3
   obtain ⟨v,h1,h2⟩:=(hx.grow s2).iK h
   have gj:=hq.grow s2
   have fin:=q v H2 (s1.trans s2) h2
   cases kk with
   | true=>exact .inl ⟨l,xs,i,v,rfl,rfl,gj,h1,fin⟩
   | false=>exact .inr (.inl ⟨l,xs,i,v,rfl,rfl,gj,h1,fin⟩)
 | _=>rw [hd] at e3;cases e3
end
noncomputable def LIM:Int:=10^250
theorem b6r(h1:-LIM<=j)(h2:j<=LIM):j.natAbs<2^900:=by
 have e:LIM<(2:Int)^900:=by unfold LIM;decide +kernel
 have e2:((2:Int)^900)=((2^900:Nat):Int):=by simp
 generalize (2^900:Nat)=m at *
 generalize LIM=l at *
 omega
theorem Zq(h1:-LIM<=j)(h2:j<=LIM):j.natAbs.log2<900:=by
 rcases Tf j.natAbs with h0 | hp
 .rw [h0];decide
 .exact (Nat.log2_lt (KP hp)).mpr (b6r h1 h2)
theorem b0B(h1:-LIM<=j)(h2:j<=LIM):Yd j<=900:=by
 have:=Zq h1 h2
 unfold Yd
 split<;>lia
def MulC(i j:Int):Prop:=(-(2^64)<i/\i<2^64)\/(-(2^64)<j/\j<2^64)\/((-LIM<=i/\i<=LIM)/\(-LIM<=j/\j<=LIM))
noncomputable instance (i j:Int):Decidable (MulC i j):=by unfold MulC;infer_instance
theorem MulC.ok(h:MulC i j):IntMulOk i j:=by
 rcases h with ⟨h1,h2⟩ | ⟨h1,h2⟩ | ⟨⟨h1,h2⟩,h3,h4⟩
 .exact .of_left (intBits_le_64 h1 h2)
 .exact .of_right (intBits_le_64 h1 h2)
 .exact mulOk_of_bits (b0B h1 h2) (b0B h3 h4) (by decide)
def DivC(_ j:Int):Prop:=0<j/\j<=LIM
noncomputable instance (i j:Int):Decidable (DivC i j):=by unfold DivC;infer_instance
def Ds(_ j:Int):Prop:=0<j
noncomputable instance (i j:Int):Decidable (Ds i j):=by unfold Ds;infer_instance
def PowC(i j:Int):Prop:=0<=j/\j<=1000000/\i.natAbs<2^64
noncomputable instance (i j:Int):Decidable (PowC i j):=by unfold PowC;infer_instance
noncomputable def gI(C:Int->Int->Prop)[∀i j,Decidable (C i j)](h:Int->Int->Int):D->D->Option Sl
 | .int i,.int j=>if C i j then some (.sh (.int (h i j))) else none
 | _,_=>none
noncomputable def gB(h:Int->Int->Bool):D->D->Option Sl
 | .int i,.int j=>some (.sh (.bl (h i j)))
 | _,_=>none
section
variable {X:Cx}
theorem Ln{f:Value->Value->Sem Value}{C:Int->Int->Prop}[∀i j,Decidable (C i j)]{h:Int->Int->Int}(ho:lJ X f (rI C λi j=>.int (h i j))):nu X f (gI C h):=by
 refine ⟨_,ho,λO H x y a b s Q hO hx hy e q=>?_⟩
 cases a with
 | int i=>cases b with
  | int j =>
   obtain ⟨hc,rfl⟩:=lS (show (if C i j then some (Sl.sh (.int (h i j))) else none)=some s from e)
   exact ⟨i,j,qF hx,qF hy,hc,q _ H (aG.refl _) (Is.int _)⟩
  | _=>cases e
 | _=>cases e
theorem TY(ho:lJ X f (EO λi j=>.bl (h i j))):nu X f (gB h):=by
 refine ⟨_,ho,λO H x y a b s Q hO hx hy e q=>?_⟩
 cases a with
 | int i=>cases b with
  | int j =>
   obtain rfl:=gz (show some (Sl.sh (.bl (h i j)))=some s from e)
   exact ⟨i,j,qF hx,qF hy,q _ H (aG.refl _) (Is.bl _)⟩
  | _=>cases e
 | _=>cases e
noncomputable def dy:D->D->Option Sl:=gI MulC λi j=>i*j
noncomputable def tI:D->D->Option Sl:=gI DivC λi j=>i/j
noncomputable def jH:D->D->Option Sl:=gI Ds λi j=>i%j
noncomputable def m6:D->D->Option Sl:=gI PowC λi j=>i^j.toNat
noncomputable def jf:D->D->Option Sl:=gI (λ_ _=>True) λi j=>i-j
noncomputable def rm:D->D->Option Sl:=gB λi j=>decide (i<j)
noncomputable def ql:D->D->Option Sl:=gB λi j=>decide (i<=j)
noncomputable def CD:D->D->Option Sl:=gB λi j=>decide (j<i)
noncomputable def gGe:D->D->Option Sl:=gB λi j=>decide (j<=i)
theorem kZ:nu X (binaryOp .Mult) dy:=Ln (Jf λ_ _ _ _ _ _ _ (hc:MulC _ _) q=>mul_int q hc.ok)
theorem LB:nu X (binaryOp .FloorDiv) tI:=Ln (Jf λi j _ _ _ _ _ (hc:DivC i j) q=>by
 have h1:(0:Int)<j:=hc.1
 have h2:=Zq (j:=j) (by have:(0:Int)<=LIM:=(by decide +kernel);ext h1 this) hc.2
 exact floordiv_int (by ext h1) (by rw [Int.fdiv_eq_ediv_of_nonneg i (by ext h1)];exact q) (.inl (PyProof.noPylong_of_log2 (l9 ‹_› (by decide)))))
theorem xZ:nu X (binaryOp .Mod) jH:=Ln (Jf λi j _ _ _ _ _ (hc:Ds i j) q=>by
 have h1:(0:Int)<j:=hc
 exact mod_int' (by ext h1) (by rw [Int.fmod_eq_emod_of_nonneg i (by ext h1)];exact q))
theorem Dg:nu X (binaryOp .Pow) m6:=Ln (Jf λ_ _ _ _ _ _ _ (hc:PowC _ _) q=>pow_int_small hc.1 hc.2.1 hc.2.2 q)
theorem AU:nu X (binaryOp .Sub) jf:=Ln (Jf λ_ _ _ _ _ _ _ _ q=>sub_int q)
theorem vW:nu X (compareOp .Lt) rm:=TY Jc
theorem vV:nu X (compareOp .LtE) ql:=TY Jd
theorem F0:nu X (compareOp .Gt) CD:=TY Je
noncomputable def cc:D->D->Option Sl
 | .int i,.int j=>some (.sh (.int (i+j)))
 | .lst false a,.lst false b=>if a.length+b.length<=16777216 then some (.ow (a++b)) else none
 | .tup a,.tup b=>if a.length+b.length<=16777216 then some (.sh (.tup (a++b))) else none
 | .str a,.str b=>if a.length+b.length<=16777216 then some (.sh (.str (a++b))) else none
 | _,_=>none
theorem Oe{K:aQ}{O:Addr->Prop}{H:Hp}{v:V}{ds:List D}(h:Is K O H v (.tup ds)):∃p xs,v=.ref p/\kK K H p xs/\bx K O H xs ds:=by
 obtain ⟨p,xs,e,h1,h2⟩:=h.seq (k:=false) rfl
 exact ⟨p,xs,e,h1,h2⟩
theorem Ud{K:aQ}{O:Addr->Prop}{H:Hp}{v:V}{ds:List D}(h:Is K O H v (.lst false ds)):∃p xs,v=.ref p/\¬O p/\H p=some (.lst xs)/\bx K O H xs ds:=by
 cases h with
 | lst ho hp hs=>exact ⟨_,_,rfl,ho,hp,hs⟩
theorem bx.jq{K:aQ}{O:Addr->Prop}{H:Hp}{xs:List V}{ds:List D}(h:bx K O H xs ds):xs=[]↔ds=[]:=by cases h<;>simp
theorem a84{α:Type}{c:Prop}{d:Decidable c}{x y:α}(h:(@ite _ c d (some x) none)=some y):c/\x=y:=lS h
theorem gC:nu X (binaryOp .Add) cc:=by
 refine ⟨_,ET.or (ES.or (Ce.or (sI.or b6f))),λO H x y a b s Q hO hx hy e q=>?_⟩
 cases a with
 | int i=>cases b with
  | int j =>
   obtain rfl:=gz (show some (Sl.sh (.int (i+j)))=some s from e)
   exact .inl ⟨i,j,qF hx,qF hy,q _ H (aG.refl _) (Is.int _)⟩
  | _=>cases e
 | lst r a=>cases r with
  | true=>cases b<;>cases e
  | false=>cases b with
   | lst r b=>cases r with
    | true=>cases e
    | false =>
     obtain ⟨hl,rfl⟩:=lS (show (if a.length+b.length<=16777216 then some (Sl.ow (a++b)) else none)=some s from e)
     obtain ⟨p1,xs,rfl,_,h1,i1⟩:=Ud hx
     obtain ⟨p2,ys,rfl,_,h2,i2⟩:=Ud hy
     exact .inr (.inl ⟨p1,p2,xs,ys,rfl,rfl,h1,h2,by rw [i1.length,i2.length,rH];exact hl,λp hp=>q _ _ (o9 hp _) (Hm hp (i1.append i2))⟩)
   | _=>cases e
 | tup a=>cases b with
  | tup b =>
   obtain ⟨hl,rfl⟩:=a84 (show (if a.length+b.length<=16777216 then some (Sl.sh (.tup (a++b))) else none)=some s from e)
   obtain ⟨p1,xs,rfl,h1,i1⟩:=Oe hx
   obtain ⟨p2,ys,rfl,h2,i2⟩:=Oe hy
   by_cases h0:a=[]
   .subst h0
    cases i1
    exact .inr (.inr (.inr (.inr ⟨p1,p2,ys,rfl,rfl,h1,h2,q _ H (aG.refl _) hy⟩)))
   refine .inr (.inr (.inl ⟨p1,p2,xs,ys,rfl,rfl,h1,h2,λz=>h0 (i1.jq.mp z),by rw [i1.length,i2.length,rH];exact hl,λz=>?_,λz p hp=>q _ _ (o9 hp _) (LI hO hp (i1.append i2))⟩))
   have z':=i2.jq.mp z
   subst z'
   rw [vK] at q
   exact q _ H (aG.refl _) hx
  | _=>cases e
 | str a=>cases b with
  | str b =>
   obtain ⟨hl,rfl⟩:=lS (show (if a.length+b.length<=16777216 then some (Sl.sh (.str (a++b))) else none)=some s from e)
   exact .inr (.inr (.inr (.inl ⟨a,b,Hj hx,Hj hy,by rw [rH];exact hl,q _ H (aG.refl _) (Is.str _)⟩)))
  | _=>cases e
 | _=>cases e
theorem map_some{α β:Type}{o:Option α}{f:α->β}{b:β}(h:o.map f=some b):∃a,o=some a/\f a=b:=by
 cases o with
 | none=>cases h
 | some a=>exact ⟨a,rfl,gz h⟩
noncomputable def D.fS:D->Bool
 | .b8=>true
 | _=>false
theorem ZD{K:aQ}{O:Addr->Prop}{H:Hp}{x:V}{a:D}(hx:Is K O H x a):decide (x=.b8)=a.fS:=by
 cases hx<;>simp [D.fS]
noncomputable def m7:D->D->Option Sl:=λa b=>if b.fS=true then some (.sh (.bl a.fS)) else none
noncomputable def T2:D->D->Option Sl:=λa b=>if b.fS=true then some (.sh (.bl !a.fS)) else none
theorem b0F{b:D}(h:b.fS=true):b=.b8:=by cases b<;>first | rfl | cases h
theorem Df:nu X (compareOp .Is) m7:=by
 refine ⟨_,b8t,λO H x y a b s Q hO hx hy e q=>?_⟩
 obtain ⟨hb,rfl⟩:=lS e
 rw [b0F hb] at hy
 exact ⟨Ue hy,by rw [ZD hx];exact q _ H (aG.refl _) (Is.bl _)⟩
theorem b6h:nu X (compareOp .IsNot) T2:=by
 refine ⟨_,b6e,λO H x y a b s Q hO hx hy e q=>?_⟩
 obtain ⟨hb,rfl⟩:=lS e
 rw [b0F hb] at hy
 exact ⟨Ue hy,by rw [ZD hx];exact q _ H (aG.refl _) (Is.bl _)⟩
end
section
variable {X:Cx}{a b c:Expr}{pos p:Pos}{fa fb:En->Option Sl}{es:List Expr}{e:Expr}
def TM(X:Cx)(f:Value)(g:List D->Option Sl):Prop:=
 ∃r:List V->Hp->VK->Prop,ud X f r/\∀(O:Addr->Prop) (H:Hp) (xs:List V) (ds:List D) (s:Sl) (Q:VK),(∀q,O q->H q≠none)->bx X.K O H xs ds->g ds=some s ->
  (∀v H',aG H H'->Res X.K O H H' v s->Q v H')->r xs H Q
noncomputable def zy(g:List D->Option Sl)(fs:En->Option (List D)):En->Option Sl:=λenv=>(fs env).bind g
theorem Ei{id:String}{x:Str}{g:List D->Option Sl}{fs:En->Option (List D)}(hc:TM X (.builtin id) g)(hg:Gl X x)(hm:X.mg x=none)(hv:bootBuiltins x=some (.builtin id))(ha:AV X (e::es) fs)(hn:x ≠ "__name__":=by decide)(lz:(x==("__debug__":Str))=false:=by decide)
  (he:starEach (e::es) X.env=(false,eval e X.env)::starEach es X.env:=by rfl)(g8:(backTo pos (starEach es X.env)).any (·.1)=false:=by rfl):
  EV X (.Call (.Name x p) (e::es) [] pos) (zy g fs):=by
 obtain ⟨r,hr,JT⟩:=hc
 obtain ⟨t,pt,k⟩:=ha
 refine ⟨_,Ek hr hg hm hv pt hn lz he g8,λO B σ H env s Q R e q=>?_⟩
 obtain ⟨ds,e1,e2⟩:=bind_some e
 refine k O B σ H env ds _ R e1 λvs H1 s1 r1=>?_
 exact JT (OO O σ env) H1 vs ds s Q (λq=>(R.grow s1).oo) r1 e2 λv H2 s2 r2=>q v H2 (s1.trans s2) (r2.from s1)
noncomputable def C8:List D->Option Sl
 | [.int i,.int j]=>some (.sh (.int (if j<i then j else i)))
 | _=>none
noncomputable def FU:List D->Option Sl
 | [.int i,.int j]=>some (.sh (.int (if j>i then j else i)))
 | _=>none
theorem Vo{K:aQ}{O:Addr->Prop}{H:Hp}{xs:List V}{i j:Int}(h:bx K O H xs [.int i,.int j]):xs=[.int i,.int j]:=by
 cases h with
 | cons h t=>cases t with
  | cons h' t=>cases t;rw [qF h,qF h']
theorem N5{g:Int->Int->Option Sl}{ds:List D}{s:Sl}(e:(match ds with | [.int i,.int j]=>g i j | _=>none)=some s):∃i j,ds=[.int i,.int j]/\g i j=some s:=by
 split at e
 .exact ⟨_,_,rfl,e⟩
 .cases e
theorem Oh(hc:X.calm=true):TM X (.builtin "min") C8:=by
 refine ⟨_,b3b hc,λO H xs ds s Q hO h e q=>?_⟩
 obtain ⟨i,j,rfl,e⟩:=N5 (g:=λi j=>some (.sh (.int (if j<i then j else i)))) e
 obtain rfl:=gz e
 exact ⟨i,j,Vo h,q _ H (aG.refl _) (Is.int _)⟩
theorem Og(hc:X.calm=true):TM X (.builtin "max") FU:=by
 refine ⟨_,b3d hc,λO H xs ds s Q hO h e q=>?_⟩
 obtain ⟨i,j,rfl,e⟩:=N5 (g:=λi j=>some (.sh (.int (if j>i then j else i)))) e
 obtain rfl:=gz e
 exact ⟨i,j,Vo h,q _ H (aG.refl _) (Is.int _)⟩
noncomputable def ji(f:En->Option (Bool×List D)):En->Option Sl:=λenv=>(f env).map λx=>.sh (.int x.2.length)
noncomputable def Ll(f:En->Option (Bool×List D)):En->Option Sl:=λenv=>(f env).map λx=>.ow x.2
noncomputable def N9(f:En->Option (Bool×List D)):En->Option Sl:=λenv=>(f env).bind λx=>if x.1=true then some (.sh (.tup x.2)) else none
variable {ba:En->Option (Bool×List D)}
theorem vX(hg:Gl X "len")(hm:X.mg "len" = none)(ha:BV X a ba)(hs:starEach [a] X.env=[(false,eval a X.env)]:=by rfl):EV X (.Call (.Name "len" p) [a] [] pos) (ji ba):=by
 obtain ⟨t,pt,k⟩:=ha
 refine ⟨_,Ek a9g hg hm PySem.boot_len (nW pt rR hs) (by decide) (by decide) hs rfl,λO B σ H env s Q R e q=>?_⟩
 obtain ⟨⟨kk,ds⟩,e1,rfl⟩:=map_some e
 refine k O B σ H env kk ds _ R e1 λl xs H1 s1 hq hx=>⟨l,xs,rfl,?_,?_⟩
 .cases kk with
  | true=>exact .inl hq
  | false=>exact .inr hq
 .rw [hx.length]
  exact q _ H1 s1 (Is.int _)
theorem Zx(hg:Gl X "list")(hm:X.mg "list" = none)(ha:BV X a ba)(hs:starEach [a] X.env=[(false,eval a X.env)]:=by rfl):EV X (.Call (.Name "list" p) [a] [] pos) (Ll ba):=by
 obtain ⟨t,pt,k⟩:=ha
 refine ⟨_,L7 a9f hg hm (by decide +kernel) (nW pt rR hs) (by decide) (by decide) hs rfl,λO B σ H env s Q R e q=>?_⟩
 obtain ⟨⟨kk,ds⟩,e1,rfl⟩:=map_some e
 refine k O B σ H env kk ds _ R e1 λl xs H1 s1 hq hx=>⟨l,xs,rfl,?_,λp hp=>?_⟩
 .cases kk with
  | true=>exact .inl hq
  | false=>exact .inr hq
 .exact q _ _ (s1.trans (o9 hp _)) ((Hm hp hx).from s1)
theorem b4o(hg:Gl X "tuple")(hm:X.mg "tuple" = none)(ha:BV X a ba)(hs:starEach [a] X.env=[(false,eval a X.env)]:=by rfl):EV X (.Call (.Name "tuple" p) [a] [] pos) (N9 ba):=by
 obtain ⟨t,pt,k⟩:=ha
 refine ⟨_,L7 a8n hg hm (by decide +kernel) (nW pt rR hs) (by decide) (by decide) hs rfl,λO B σ H env s Q R e q=>?_⟩
 obtain ⟨⟨kk,ds⟩,e1,e2⟩:=bind_some e
 obtain ⟨h1,rfl⟩:=lS e2
 refine k O B σ H env kk ds _ R e1 λl xs H1 s1 hq hx=>⟨l,xs,rfl,?_⟩
 cases (show kk=true from h1)
 exact .inl ⟨hq,λp hp=>q _ _ (s1.trans (o9 hp _)) ((LI (O:=OO O σ env) (H:=H1) (λ_ z=>(R.grow s1).oo z) hp hx).from s1)⟩
end
section
variable {K:aQ}{O:Addr->Prop}{B H H1:Hp}{σ:L2.St}{env:En}{v:V}{r:Sl}{i:Nat}
theorem b6c(h:pT (σ.set i (some v)) (env.set i r) q):pT σ env q\/(r.own/\v=.ref q):=by
 obtain ⟨j,t,h1,ho,h2⟩:=h
 by_cases hj:i=j
 .subst hj
  rw [List.getElem?_set] at h1 h2
  rw [if_pos rfl] at h1 h2
  split at h1
  .cases h1
   split at h2
   .cases h2;exact .inr ⟨ho,rfl⟩
   .cases h2
  .cases h1
 .rw [lD hj] at h1 h2
  exact .inl ⟨j,t,h1,ho,h2⟩
theorem Res.fresh(h:Res K O B H v r)(ho:r.own):∃p,v=.ref p/\B p=none/\H p≠none:=by
 cases r with
 | no=>exact ho.elim
 | sh d=>exact ho.elim
 | ow ds=>obtain ⟨p,xs,e1,e2,e3,_⟩:=h;exact ⟨p,e1,e2,by rw [e3];exact λz=>nomatch z⟩
 | dw aO=>obtain ⟨p,e1,e2,e3⟩:=h;exact ⟨p,e1,e2,by rw [e3];exact λz=>nomatch z⟩
 | tw ks ds=>obtain ⟨p,vs,e1,e2,e3,_⟩:=h;exact ⟨p,e1,e2,by rw [e3];exact λz=>nomatch z⟩
theorem Rel.set(R:Rel K O B σ H env)(s:aG H H1)(h:Res K (OO O σ env) H H1 v r)(hi:i<env.length):
  Rel K O B (σ.set i (some v)) H1 (env.set i r)/\Gd σ env H (σ.set i (some v)) (env.set i r) H1:=by
 have new:∀q,pT (σ.set i (some v)) (env.set i r) q->pT σ env q\/(H q=none/\r.own/\v=.ref q):=λq z=>by
  rcases b6c z with z | ⟨ho,rfl⟩
  .exact .inl z
  .obtain ⟨p,e1,e2,_⟩:=h.fresh ho
   cases e1
   exact .inr ⟨e2,ho,rfl⟩
 have hO:∀q,H q≠none->¬OO O σ env q->¬OO O (σ.set i (some v)) (env.set i r) q:=λq hq hn z=>by
  rcases z with z | z
  .exact hn (.inl z)
  .rcases new q z with z | ⟨z,_⟩
   .exact hn (.inr z)
   .exact hq z
 have hH:∀q u,H q=some u->¬OO O σ env q->H1 q=some u:=λq u e _=>s q u e
 have Cu:i<σ.length:=by rw [R.len];exact hi
 refine ⟨⟨R.same.trans s,R.tK,by simp [R.len],λj d e=>?_,λj ds e=>?_,λj aO e=>?_,λj ks ds e=>?_,λj k ds es p e1 e2 e3 e4 o1 o2=>?_⟩,λq u e n=>⟨s q u e,λz=>?_⟩⟩
 .by_cases hj:i=j
  .subst hj
   rw [my hi] at e
   cases e
   refine ⟨v,by rw [my Cu],Is.less (O:=OO O σ env) (λq z=>z.elim .inl λz=>?_) h⟩
   rcases new q z with z | ⟨_,z,_⟩
   .exact .inr z
   .exact z.elim
  .rw [lD hj] at e
   obtain ⟨w,e1,h1⟩:=R.sh j d e
   exact ⟨w,by rw [lD hj];exact e1,h1.map hO hH⟩
 .by_cases hj:i=j
  .subst hj
   rw [my hi] at e
   cases e
   obtain ⟨p,xs,rfl,e2,e3,h1⟩:=h
   refine ⟨p,xs,by rw [my Cu],R.same.free e2,e3,h1.less λq z=>?_⟩
   rcases z with z | z
   .exact .inl (.inl z)
   .rcases new q z with z | ⟨_,_,z⟩
    .exact .inl (.inr z)
    .cases z;exact .inr rfl
  .rw [lD hj] at e
   obtain ⟨p,xs,e1,e2,e3,h1⟩:=R.ow j ds e
   exact ⟨p,xs,by rw [lD hj];exact e1,e2,s _ _ e3,h1.map hO hH⟩
 .by_cases hj:i=j
  .subst hj
   rw [my hi] at e
   cases e
   obtain ⟨p,rfl,e2,e3⟩:=h
   exact ⟨p,by rw [my Cu],R.same.free e2,e3⟩
  .rw [lD hj] at e
   obtain ⟨p,e1,e2,e3⟩:=R.dw j aO e
   exact ⟨p,by rw [lD hj];exact e1,e2,s _ _ e3⟩
 .by_cases hj:i=j
  .subst hj
   rw [my hi] at e
   cases e
   obtain ⟨p,vs,rfl,e2,e3,e4,h1⟩:=h
   refine ⟨p,vs,by rw [my Cu],R.same.free e2,e3,e4,h1.less λq z=>?_⟩
   rcases z with z | z
   .exact .inl (.inl z)
   .rcases new q z with z | ⟨_,_,z⟩
    .exact .inl (.inr z)
    .cases z;exact .inr rfl
  .rw [lD hj] at e
   obtain ⟨p,vs,e1,e2,e3,e4,h1⟩:=R.tw j ks ds e
   exact ⟨p,vs,by rw [lD hj];exact e1,e2,s _ _ e3,e4,h1.map hO hH⟩
 .have other:∀j t,j≠i->env[j]?=some t->t.own->σ[j]?=some (some (V.ref p))->r.own->v≠.ref p:=λj t hj e ho e' hr z=>by
   obtain ⟨p',rfl,e2,_⟩:=h.fresh hr
   cases z
   obtain ⟨p2,u,e5,_,e6⟩:=R.ad e ho
   rw [e'] at e5
   cases e5
   rw [e2] at e6
   cases e6
  by_cases hj:i=j
  .by_cases hk:i=k
   .rw [<-hj,<-hk]
   .subst hj
    rw [my hi] at e1
    rw [my Cu] at e3
    rw [lD hk] at e2 e4
    cases e1
    cases e3
    exact absurd rfl (other k es (oX hk) e2 o2 e4 o1)
  .by_cases hk:i=k
   .subst hk
    rw [my hi] at e2
    rw [my Cu] at e4
    rw [lD hj] at e1 e3
    cases e2
    cases e4
    exact absurd rfl (other j ds (oX hj) e1 o1 e3 o2)
   .rw [lD hj] at e1 e3
    rw [lD hk] at e2 e4
    exact R.sep j k ds es p e1 e2 e3 e4 o1 o2
 .rcases new q z with z | ⟨z,_⟩
  .exact n z
  .rw [e] at z;cases z
theorem Rel.WA{p:Addr}{u':HO}{t t':Sl}(R:Rel K O B σ H env)(he:env[i]?=some t)(ho:t.own)(nM:t'.own)(hs:σ[i]?=some (some (V.ref p)))
  (hx:(∀ds',t'=.ow ds'->∃nY,u'=.lst nY/\bx K (OO O σ env) H nY ds')/\(∀Jx,t'=.dw Jx->u'=RV Jx)/\∀ks' ds',t'=.tw ks' ds'->∃vs',u'=DO ks' vs'/\ks'.length=vs'.length/\bx K (OO O σ env) H vs' ds'):
  Rel K O B σ (upd H p u') (env.set i t')/\Gd σ env H σ (env.set i t') (upd H p u'):=by
 have hi:i<env.length:=(xO.mp he).1
 have own:∀q,pT σ (env.set i t') q->pT σ env q:=λq ⟨j,es,e1,e3,e2⟩=>by
  by_cases hj:i=j
  .subst hj;exact ⟨i,t,he,ho,e2⟩
  .rw [lD hj] at e1;exact ⟨j,es,e1,e3,e2⟩
 have Jb:pT σ env p:=⟨i,t,he,ho,hs⟩
 obtain ⟨p0,u0,f1,f2,f3⟩:=R.ad he ho
 rw [hs] at f1
 cases f1
 have hO:∀q,H q≠none->¬OO O σ env q->¬OO O σ (env.set i t') q:=λq _ hn z=>hn (z.elim .inl λz=>.inr (own q z))
 have hH:∀q u,H q=some u->¬OO O σ env q->upd H p u' q=some u:=λq u e n=>by
  rw [g9 (λz=>n (.inr (by rw [z];exact Jb)))]
  exact e
 refine ⟨⟨λq u e=>?_,R.tK,by simp [R.len],λj d e=>?_,λj es e=>?_,λj aO e=>?_,λj ks es e=>?_,λj k es fs q e1 e2 e3 e4 o1 o2=>?_⟩,λq u e n=>⟨?_,λz=>n (own q z)⟩⟩
 .rw [g9 (zD e f2)];exact R.same q u e
 .by_cases hj:i=j
  .subst hj;rw [my hi] at e;cases e;exact nM.elim
  .rw [lD hj] at e
   obtain ⟨w,e1,h1⟩:=R.sh j d e
   exact ⟨w,e1,h1.map hO hH⟩
 .by_cases hj:i=j
  .subst hj
   rw [my hi] at e
   cases e
   obtain ⟨nY,hu,mn⟩:=hx.1 _ rfl
   exact ⟨p,nY,hs,f2,by rw [og,hu],mn.map hO hH⟩
  .rw [lD hj] at e
   obtain ⟨p2,Ez,e1,e2,e3,h1⟩:=R.ow j es e
   refine ⟨p2,Ez,e1,e2,?_,h1.map hO hH⟩
   rw [g9 (λz=>hj (R.sep i j t _ p he e hs (by rw [e1,z]) ho trivial))]
   exact e3
 .by_cases hj:i=j
  .subst hj
   rw [my hi] at e
   cases e
   exact ⟨p,hs,f2,by rw [og,hx.2.1 _ rfl]⟩
  .rw [lD hj] at e
   obtain ⟨p2,e1,e2,e3⟩:=R.dw j aO e
   refine ⟨p2,e1,e2,?_⟩
   rw [g9 (λz=>hj (R.sep i j t _ p he e hs (by rw [e1,z]) ho trivial))]
   exact e3
 .by_cases hj:i=j
  .subst hj
   rw [my hi] at e
   cases e
   obtain ⟨vs',hu,hl,mn⟩:=hx.2.2 _ _ rfl
   exact ⟨p,vs',hs,f2,by rw [og,hu],hl,mn.map hO hH⟩
  .rw [lD hj] at e
   obtain ⟨p2,Ez,e1,e2,e3,e4,h1⟩:=R.tw j ks es e
   refine ⟨p2,Ez,e1,e2,?_,e4,h1.map hO hH⟩
   rw [g9 (λz=>hj (R.sep i j t _ p he e hs (by rw [e1,z]) ho trivial))]
   exact e3
 .have fix:∀(j:Nat) (es:Sl),(env.set i t')[j]?=some es->es.own->∃gs:Sl,env[j]?=some gs/\gs.own:=λj es e o=>by
   by_cases hj:i=j
   .subst hj;exact ⟨t,he,ho⟩
   .rw [lD hj] at e;exact ⟨es,e,o⟩
  obtain ⟨g1,h1,q1⟩:=fix j es e1 o1
  obtain ⟨g2,h2,q2⟩:=fix k fs e2 o2
  exact R.sep j k g1 g2 q h1 h2 e3 e4 q1 q2
 .rw [g9 (λz=>n (by rw [z];exact Jb))];exact e
theorem Rel.wr(R:Rel K O B σ H env)(he:env[i]?=some (Sl.ow ds))(hs:σ[i]?=some (some (V.ref p)))(hx:bx K (OO O σ env) H nY ds'):
  Rel K O B σ (upd H p (.lst nY)) (env.set i (.ow ds'))/\Gd σ env H σ (env.set i (.ow ds')) (upd H p (.lst nY)):=
 R.WA (t':=.ow ds') he trivial trivial hs ⟨λ_ e=>by cases e;exact ⟨nY,rfl,hx⟩,λ_ e=>(nomatch e),λ_ _ e=>(nomatch e)⟩
theorem Rel.wrT{p:Addr}{ks ks':List Str}{ds ds':List D}{vs':List V}(R:Rel K O B σ H env)(he:env[i]?=some (Sl.tw ks ds))(hs:σ[i]?=some (some (V.ref p)))(hl:ks'.length=vs'.length)(hx:bx K (OO O σ env) H vs' ds'):
  Rel K O B σ (upd H p (DO ks' vs')) (env.set i (.tw ks' ds'))/\Gd σ env H σ (env.set i (.tw ks' ds')) (upd H p (DO ks' vs')):=
 R.WA (t':=.tw ks' ds') he trivial trivial hs ⟨λ_ e=>(nomatch e),λ_ e=>(nomatch e),λ_ _ e=>by cases e;exact ⟨vs',rfl,hl,hx⟩⟩
theorem Rel.Ao{t:Sl}(R:Rel K O B σ H env)(he:env[i]?=some t)(ho:t.own):Rel K O B σ H (env.set i (.sh t.d))/\Gd σ env H σ (env.set i (.sh t.d)) H:=by
 have hi:i<env.length:=(xO.mp he).1
 obtain ⟨p,u0,f1,f2,f3⟩:=R.ad he ho
 have own:∀q,pT σ (env.set i (.sh t.d)) q->pT σ env q/\q≠p:=λq ⟨j,es,e1,o,e2⟩=>by
  by_cases hj:i=j
  .subst hj;rw [my hi] at e1;cases e1;exact o.elim
  .rw [lD hj] at e1
   exact ⟨⟨j,es,e1,o,e2⟩,λz=>hj (R.sep i j t es p he e1 f1 (by rw [e2,z]) ho o)⟩
 have less:∀q,OO O σ (env.set i (.sh t.d)) q->OO O σ env q:=λq z=>z.elim .inl λz=>.inr (own q z).1
 have np:¬OO O σ (env.set i (.sh t.d)) p:=λz=>z.elim (λz=>R.tK.1 p z f2) λz=>(own p z).2 rfl
 refine ⟨⟨R.same,R.tK,by simp [R.len],λj d e=>?_,λj es e=>?_,λj aO e=>?_,λj ks es e=>?_,λj k es fs q e1 e2 e3 e4 o1 o2=>?_⟩,λq u e n=>⟨e,λz=>n (own q z).1⟩⟩
 .by_cases hj:i=j
  .subst hj
   rw [my hi] at e
   cases e
   refine ⟨.ref p,f1,?_⟩
   cases t with
   | no=>exact ho.elim
   | sh d=>exact ho.elim
   | ow ds =>
    obtain ⟨p',xs,g1,g2,g3,g4⟩:=R.ow i ds he
    rw [f1] at g1;cases g1
    exact .lst np g3 (g4.less less)
   | dw aO =>
    obtain ⟨p',g1,g2,g3⟩:=R.dw i aO he
    rw [f1] at g1;cases g1
    exact .mq np g3
   | tw ks ds =>
    obtain ⟨p',vs,g1,g2,g3,g4,g5⟩:=R.tw i ks ds he
    rw [f1] at g1;cases g1
    exact .g0 np g3 g4 (g5.less less)
  .rw [lD hj] at e
   obtain ⟨w,e1,h1⟩:=R.sh j d e
   exact ⟨w,e1,h1.less less⟩
 .by_cases hj:i=j
  .subst hj;rw [my hi] at e;cases e
  .rw [lD hj] at e
   obtain ⟨p2,Ez,e1,e2,e3,h1⟩:=R.ow j es e
   exact ⟨p2,Ez,e1,e2,e3,h1.less less⟩
 .by_cases hj:i=j
  .subst hj;rw [my hi] at e;cases e
  .rw [lD hj] at e
   exact R.dw j aO e
 .by_cases hj:i=j
  .subst hj;rw [my hi] at e;cases e
  .rw [lD hj] at e
   obtain ⟨p2,Ez,e1,e2,e3,e4,h1⟩:=R.tw j ks es e
   exact ⟨p2,Ez,e1,e2,e3,e4,h1.less less⟩
 .have fix:∀(j:Nat) (es:Sl),(env.set i (.sh t.d))[j]?=some es->es.own->env[j]?=some es:=λj es e o=>by
   by_cases hj:i=j
   .subst hj;rw [my hi] at e;cases e;exact o.elim
   .rw [lD hj] at e;exact e
  exact R.sep j k es fs q (fix j es e1 o1) (fix k fs e2 o2) e3 e4 o1 o2
theorem Rel.nz{ds:List D}(R:Rel K O B σ H env)(he:env[i]?=some (Sl.ow ds)):Rel K O B σ H (env.set i (.sh (.lst false ds)))/\Gd σ env H σ (env.set i (.sh (.lst false ds))) H:=R.Ao he trivial
end
section
variable {X:Cx}{st:Stmt}{rest:List Stmt}{F G:SF}{a b c e:Expr}{fa:En->Option Sl}{ga:En->Option Bool}{pos:Pos}
noncomputable def dO:SF:=λenv=>some (.nx,env)
noncomputable def au(F G:SF):SF:=λenv=>match F env with
 | some (.nx,cO)=>G cO
 | r=>r
theorem eO:ur X [] dO:=⟨_,UA,λO B σ H env fl ak D R e q=>by
 cases (show some (Fl.nx,env)=some (fl,ak) from e)
 exact q σ H R (Gd.refl (aG.refl _))⟩
theorem bJ(h:SV X st F):ur X [st] F:=let ⟨t,p,k⟩:=h;⟨t,b5Y p,k⟩
theorem bK(h:SV X st F)(h2:ur X rest G):ur X (st::rest) (au F G):=by
 obtain ⟨t,p,k⟩:=h
 obtain ⟨u,p',k'⟩:=h2
 refine ⟨_,OH p p',λO B σ H env fl ak D R e q=>?_⟩
 unfold au at e
 cases hF:F env with
 | none=>rw [hF] at e;cases e
 | some x =>
  obtain ⟨f1,cO⟩:=x
  rw [hF] at e
  refine k O B σ H env f1 cO _ R hF ?_
  cases f1 with
  | nx=>exact λbz H' R' g'=>k' O B bz H' cO fl ak D R' e (q.from g')
  | bk=>cases e;exact q
  | ct=>cases e;exact q
  | rt r=>cases e;exact q
noncomputable def dg(c:En->Option Bool)(F G:SF):SF:=λenv=>match c env with
 | some true=>F env
 | some false=>G env
 | none=>none
theorem ei(hc:TV X c ga)(ha:ur X sa F)(hb:ur X sb G):SV X (.If c sa sb pos) (dg ga F G):=by
 obtain ⟨tc,pc,kc⟩:=hc
 obtain ⟨t,p,k⟩:=ha
 obtain ⟨u,p',k'⟩:=hb
 refine ⟨_,IT pc p p',λO B σ H env fl ak D R e q=>?_⟩
 unfold dg at e
 cases h:ga env with
 | none=>rw [h] at e;cases e
 | some x =>
  rw [h] at e
  refine kc O B σ H env x _ R h λH1 s1=>?_
  cases x with
  | true =>
   rw [if_pos rfl]
   exact k O B σ H1 env fl ak D (R.grow s1) e (q.from (Gd.refl s1))
  | false =>
   rw [if_neg vM]
   exact k' O B σ H1 env fl ak D (R.grow s1) e (q.from (Gd.refl s1))
noncomputable def aH(f:En->Option Sl):SF:=λenv=>(f env).map λr=>(.rt r,env)
theorem cB(h:EV X e fa):SV X (.Return (some e) pos) (aH fa):=by
 obtain ⟨t,p,k⟩:=h
 refine ⟨_,Zc p,λO B σ H env fl ak D R e q=>?_⟩
 obtain ⟨r,e1,e2⟩:=map_some e
 cases e2
 exact k O B σ H env r _ R e1 λv H1 s1 r1=>q v H1 (R.same.trans s1) ((r1.from R.same).less λq z=>.inl z)
noncomputable def zx(i:Nat):SF:=λenv=>match env[i]? with
 | some (.ow ds)=>some (.rt (.ow ds),env)
 | some (.dw ds)=>some (.rt (.dw ds),env)
 | some (.tw ks ds)=>some (.rt (.tw ks ds),env)
 | some (.sh d)=>some (.rt (.sh d),env)
 | _=>none
theorem b5D(i:Nat){x:Str}{p2:Pos}(hN:X.N[i]?=some x:=by rfl)(hv:jS X.env.scope x:=by first | exact eN rfl | exact cP (eN rfl) | exact cP (cP rfl))(hd:(x==("__debug__":Str))=false:=by decide)
  (dN:(x==("__classdict__":Str))=false:=by decide):SV X (.Return (some (.Name x p2)) pos) (zx i):=by
 refine ⟨_,Zc (ya hN hv hd dN),λO B σ H env fl ak D R e q=>?_⟩
 unfold zx at e
 cases h:env[i]? with
 | none=>rw [h] at e;cases e
 | some s =>
  rw [h] at e
  cases s with
  | no=>cases e
  | sh d =>
   cases e
   obtain ⟨v,e2,hv⟩:=R.sh i d h
   exact ⟨v,e2,q v H R.same (Is.less (λq z=>.inl z) hv)⟩
  | ow ds =>
   cases e
   obtain ⟨p,xs,e1,e2,e3,h1⟩:=R.ow i ds h
   exact ⟨_,e1,q _ H R.same ⟨p,xs,rfl,e2,e3,h1.less λq z=>z.elim .inl λz=>.inr ⟨i,.ow ds,h,trivial,by rw [z];exact e1⟩⟩⟩
  | dw aO =>
   cases e
   obtain ⟨p,e1,e2,e3⟩:=R.dw i aO h
   exact ⟨_,e1,q _ H R.same ⟨p,rfl,e2,e3⟩⟩
  | tw ks ds =>
   cases e
   obtain ⟨p,vs,e1,e2,e3,e4,h1⟩:=R.tw i ks ds h
   exact ⟨_,e1,q _ H R.same ⟨p,vs,rfl,e2,e3,e4,h1.less λq z=>z.elim .inl λz=>.inr ⟨i,.tw ks ds,h,trivial,by rw [z];exact e1⟩⟩⟩
noncomputable def hV(i:Nat)(f:En->Option Sl):SF:=λenv=>(f env).bind λr=>if i<env.length then some (.nx,env.set i r) else none
theorem b71(hN:X.N.Nodup)(hi:X.N[i]?=some x)(hx:Loc X.env.scope x)(he:EV X e fa)(hs:swapsWith e (some (.Name x pos')) pos.line X.env=pure false:=by rfl)(hf:X.fn x=true\/X.env.scope.names.lookup x=some .local:=by first | exact .inl rfl | exact .inr rfl | assumption):
  SV X (.Assign [.Name x pos'] e pos) (hV i fa):=by
 obtain ⟨t,p,k⟩:=he
 refine ⟨_,Uq hN hi hx p hs hf,λO B σ H env fl ak D R e q=>?_⟩
 obtain ⟨r,e1,e2⟩:=bind_some e
 obtain ⟨hl,e3⟩:=lS e2
 cases e3
 refine k O B σ H env r _ R e1 λv H1 s1 r1=>?_
 obtain ⟨R',g'⟩:=R.set s1 r1 hl
 exact q _ H1 R' g'
noncomputable def eQ(i:Nat)(f:En->Option Sl):SF:=λenv=>(f env).bind λr=>if i<env.length then some (.nx,env.set i (.sh r.d)) else none
theorem b5C(hN:X.N.Nodup)(hi:X.N[i]?=some x)(hx:Loc X.env.scope x)(he:EV X e fa)(hs:swapsWith e (some (.Name x pos')) pos.line X.env=pure false:=by rfl)(hf:X.fn x=true\/X.env.scope.names.lookup x=some .local:=by first | exact .inl rfl | exact .inr rfl | assumption):
  SV X (.Assign [.Name x pos'] e pos) (eQ i fa):=by
 obtain ⟨t,p,k⟩:=he
 refine ⟨_,Uq hN hi hx p hs hf,λO B σ H env fl ak D R e q=>?_⟩
 obtain ⟨r,e1,e2⟩:=bind_some e
 obtain ⟨hl,e3⟩:=lS e2
 cases e3
 refine k O B σ H env r _ R e1 λv H1 s1 r1=>?_
 obtain ⟨R',g'⟩:=R.set (r:=.sh r.d) s1 (r1.is λq=>R.oo) hl
 exact q _ H1 R' g'
noncomputable def T7(f:En->Option Sl):SF:=λenv=>(f env).map λ_=>(.nx,env)
theorem b5G(he:EV X e fa)(hs:swapsWith e none pos.line X.env=pure false:=by rfl):SV X (.Expr e pos) (T7 fa):=by
 obtain ⟨t,p,k⟩:=he
 refine ⟨_,LM p hs,λO B σ H env fl ak D R e q=>?_⟩
 obtain ⟨r,e1,e2⟩:=map_some e
 cases e2
 exact k O B σ H env r _ R e1 λv H1 s1 r1=>q σ H1 (R.grow s1) (Gd.refl s1)
noncomputable def qm(i:Nat)(env:En):En:=match env[i]? with
 | some (.ow ds)=>env.set i (.sh (.lst false ds))
 | some (.dw ds)=>env.set i (.sh (.mq false ds))
 | some (.tw ks ds)=>env.set i (.sh (.g0 ks ds))
 | _=>env
noncomputable def sr(i:Nat)(F:SF):SF:=λenv=>F (qm i env)
theorem N4(i:Nat)(h:SV X st F):SV X st (sr i F):=by
 obtain ⟨t,p,k⟩:=h
 refine ⟨t,p,λO B σ H env fl ak D R e q=>?_⟩
 unfold sr qm at e
 cases h:env[i]? with
 | none=>rw [h] at e;exact k O B σ H env fl ak D R e q
 | some s =>
  rw [h] at e
  cases s with
  | no=>exact k O B σ H env fl ak D R e q
  | sh d=>exact k O B σ H env fl ak D R e q
  | ow ds =>
   obtain ⟨R',g'⟩:=R.nz h
   exact k O B σ H _ fl ak D R' e (q.from g')
  | dw ds =>
   obtain ⟨R',g'⟩:=R.Ao h trivial
   exact k O B σ H _ fl ak D R' e (q.from g')
  | tw ks ds =>
   obtain ⟨R',g'⟩:=R.Ao h trivial
   exact k O B σ H _ fl ak D R' e (q.from g')
noncomputable def mN(i:Nat)(f:En->Option Sl):SF:=λenv=>match env[i]? with
 | some (.ow ds)=>(f env).bind λr=>if ds.length<16777216 then some (.nx,env.set i (.ow (ds++[r.d]))) else none
 | _=>none
theorem b1J{i:Nat}{x:Str}{p1 p2 aR:Pos}(ha:EV X e fa)(hN:X.N[i]?=some x:=by rfl)(hv:jS X.env.scope x:=by first | exact eN rfl | exact cP (eN rfl) | exact cP (cP rfl))(hd:(x==("__debug__":Str))=false:=by decide)
  (dN:(x==("__classdict__":Str))=false:=by decide)(hs:starEach [e] X.env=[(false,eval e X.env)]:=by rfl)
  (cZ:attributeBase (.Name x p1) "append" X.env (eval (.Name x p1) X.env)=eval (.Name x p1) X.env:=by rfl)
  (lx:((backTo aR (starEach [e] X.env)).all (λx=>!x.1)&&(backToKw aR (keywordEach [] X.env)).all (λx=>x.1.isSome)
   && decide ([e].length+([]:List Keyword).length+(if ([]:List Keyword).isEmpty then 0 else 1)<30))=true:=by rfl)
  (cX:(p2.endLine==aR.line)=true:=by rfl)
  (Ae:swapsWith (.Call (.Attribute (.Name x p1) "append" p2) [e] [] aR) none pos.line X.env=pure false:=by rfl):
  SV X (.Expr (.Call (.Attribute (.Name x p1) "append" p2) [e] [] aR) pos) (mN i fa):=by
 obtain ⟨t,p,k⟩:=ha
 refine ⟨_,LM (Ub Lc S9 Yw a8X (ya hN hv hd dN) (nW p rR hs) cZ lx cX hs rfl) Ae,λO B σ H env fl ak D R e q=>?_⟩
 unfold mN at e
 cases h:env[i]? with
 | none=>rw [h] at e;cases e
 | some s =>
  rw [h] at e
  cases s with
  | no=>cases e
  | sh d=>cases e
  | dw aO=>cases e
  | tw _ _=>cases e
  | ow ds =>
   obtain ⟨r,e1,e2⟩:=bind_some e
   obtain ⟨hl,e3⟩:=lS e2
   cases e3
   obtain ⟨l,xs,f1,f2,f3,f4⟩:=R.ow i ds h
   refine ⟨_,f1,.inl ⟨rfl,_,jm.of f3⟩,?_⟩
   refine k O B σ H env r _ R e1 λv H1 s1 r1=>⟨l,xs,v,rfl,rfl,s1 _ _ f3,by rw [f4.length,rH];exact hl,?_⟩
   obtain ⟨R',g'⟩:=(R.grow s1).wr h f1 ((f4.grow s1).append (.cons (r1.is λq=>R.oo) .nil))
   exact q _ _ R' (g'.from s1)
end
section
variable {X:Cx}{st:Stmt}{F:SF}{a b c e tg it:Expr}{fa:En->Option Sl}{ba:En->Option (Bool×List D)}{ga:En->Option Bool}{pos:Pos}
noncomputable abbrev GF:=D->En->Option En
def GV(X:Cx)(tg:Expr)(g:GF):Prop:=
 ∃t:TG,PG X tg t/\∀(O:Addr->Prop) (B:Hp) (σ:L2.St) (H:Hp) (env ak:En) (v:V) (d:D) (Q:L2.St->Hp->Prop),Rel X.K O B σ H env->Is X.K (OO O σ env) H v d->g d env=some ak ->
  (∀bz H',Rel X.K O B bz H' ak->Gd σ env H bz ak H'->Q bz H')->t v σ H Q
noncomputable def gN(i:Nat):GF:=λd env=>if i<env.length then some (env.set i (.sh d)) else none
theorem b6C(hN:X.N.Nodup)(hi:X.N[i]?=some x)(hx:Loc X.env.scope x)(hf:X.fn x=true\/X.env.scope.names.lookup x=some .local:=by first | exact .inl rfl | exact .inr rfl | assumption):GV X (.Name x pos) (gN i):=by
 refine ⟨_,b54 hN hi hx hf,λO B σ H env ak v d Q R h e q=>?_⟩
 obtain ⟨hl,rfl⟩:=lS e
 obtain ⟨R',g'⟩:=R.set (r:=.sh d) (aG.refl _) h hl
 exact q _ H R' g'
noncomputable abbrev Gj:=List D->En->Option En
def PY(X:Cx)(tg:List Expr)(g:Gj):Prop:=
 ∃t:Eo,Mn X tg t/\∀(O:Addr->Prop) (B:Hp) (σ:L2.St) (H:Hp) (env ak:En) (v:List V) (d:List D) (Q:L2.St->Hp->Prop),Rel X.K O B σ H env->bx X.K (OO O σ env) H v d->g d env=some ak ->
  (∀bz H',Rel X.K O B bz H' ak->Gd σ env H bz ak H'->Q bz H')->t v σ H Q
noncomputable def F1:Gj:=λds env=>match ds with
 | []=>some env
 | _::_=>none
noncomputable def zA(g:GF)(u:Gj):Gj:=λds env=>match ds with
 | d::r=>(g d env).bind (u r)
 | []=>none
theorem Oy:PY X [] F1:=by
 refine ⟨_,b53,λO B σ H env ak v d Q R h e q=>?_⟩
 cases h with
 | nil=>cases e;exact ⟨rfl,q σ H R (Gd.refl (aG.refl _))⟩
 | cons _ _=>cases e
theorem Gd.JB{K:aQ}{O:Addr->Prop}{σ bz:L2.St}{env ak:En}{H H':Hp}(g:Gd σ env H bz ak H'){v:List V}{d:List D}(h:bx K (OO O σ env) H v d):bx K (OO O bz ak) H' v d:=
 h.map (λq hq hn z=>by
  cases e:H q with
  | none=>exact hq e
  | some u =>
   obtain ⟨_,n'⟩:=g q u e λw=>hn (.inr w)
   exact z.elim (λw=>hn (.inl w)) n') λq u e n=>(g q u e λw=>n (.inr w)).1
theorem Ej{es:List Expr}{g:GF}{u:Gj}(h1:GV X e g)(h2:PY X es u)
  (hs:(assignEach (e::es) X.env).map (·.2)=assign e X.env::(assignEach es X.env).map (·.2):=by rfl):PY X (e::es) (zA g u):=by
 obtain ⟨t,p,k⟩:=h1
 obtain ⟨t',p',k'⟩:=h2
 refine ⟨_,b3N p p' hs,λO B σ H env ak v d Q R h e q=>?_⟩
 cases h with
 | nil=>cases e
 | cons h ht =>
  obtain ⟨cO,e1,e2⟩:=bind_some (show (g _ env).bind (u _)=some ak from e)
  refine ⟨_,_,rfl,k O B σ H env cO _ _ _ R h e1 λnv H1 R1 g1=>?_⟩
  exact k' O B nv H1 cO ak _ _ Q R1 (g1.JB ht) e2 λfO H2 R2 g2=>q fO H2 R2 (g1.trans g2)
noncomputable def gT(n:Nat)(u:Gj):GF:=λd env=>match d with
 | .tup ds=>if ds.length=n then u ds env else none
 | _=>none
theorem Ob{es:List Expr}{k n:Nat}{u:Gj}(hc:X.calm=true)(h:PY X es u)(hn:(assignEach es X.env).length=n:=by rfl)(l6:(assignEach es X.env).findIdx? (·.1)=none:=by rfl):GV X (.Tuple es k pos) (gT n u):=by
 obtain ⟨t,p,k'⟩:=h
 refine ⟨_,b8j hc p hn l6,λO B σ H env ak v d Q R h e q=>?_⟩
 cases d with
 | tup ds =>
  have e':(if ds.length=n then u ds env else none)=some ak:=e
  by_cases hl:ds.length=n
  .rw [if_pos hl] at e'
   obtain ⟨a,xs,rfl,h1,h2⟩:=Oe h
   exact ⟨a,xs,rfl,h1,by rw [h2.length];exact hl,k' O B σ H env ak xs ds Q R h2 e' q⟩
  .rw [if_neg hl] at e';cases e'
 | _=>cases e
noncomputable def forL(g:GF)(F:SF):List D->SF
 | [],env=>some (.nx,env)
 | d::ds,env=>match g d env with
  | none=>none
  | some cO=>match F cO with
   | some (.nx,cV)=>forL g F ds cV
   | some (.ct,cV)=>forL g F ds cV
   | some (.bk,cV)=>some (.nx,cV)
   | some (.rt r,cV)=>some (.rt r,cV)
   | none=>none
structure Left(K:aQ)(O:Addr->Prop)(B:Hp)(BY:L2.St)(H0:Hp)(l8:En)(g:GF)(F:SF)(ds:List D)(fl:Fl)(ak:En)(i:Nat)(σ:L2.St)(H:Hp):Prop where
 ex:∃env,Rel K O B σ H env/\Gd BY l8 H0 σ env H/\forL g F (ds.drop i) env=some (fl,ak)
theorem UX{g:GF}{B2:TG}{tb:TS}{O:Addr->Prop}{B:Hp}{BY:L2.St}{H0:Hp}{l8 ak:En}{fl:Fl}{D:Ends}{ds:List DL.D}{xs:List V}{i:Nat}{x:V}{σ:L2.St}{H:Hp}
  (kg:∀(O:Addr->Prop) (B:Hp) (σ:L2.St) (H:Hp) (env ak:En) (v:V) (d:DL.D) (Q:L2.St->Hp->Prop),Rel X.K O B σ H env->Is X.K (OO O σ env) H v d->g d env=some ak ->
   (∀bz H',Rel X.K O B bz H' ak->Gd σ env H bz ak H'->Q bz H')->B2 v σ H Q)
  (kb:∀(O:Addr->Prop) (B:Hp) (σ:L2.St) (H:Hp) (env:En) (fl:Fl) (ak:En) (D:Ends),Rel X.K O B σ H env->F env=some (fl,ak)->g7 X.K O B σ H env D fl ak->tb D σ H)
  (hx:bx X.K (OO O BY l8) H0 xs ds)(hi:xs[i]?=some x)(q:g7 X.K O B BY H0 l8 D fl ak)(h:Left X.K O B BY H0 l8 g F ds fl ak i σ H):
  B2 x σ H λfO H2=>tb { D with nx:=Left X.K O B BY H0 l8 g F ds fl ak (i+1),ct:=Left X.K O B BY H0 l8 g F ds fl ak (i+1),bk:=D.nx } fO H2:=by
 obtain ⟨env,R,gd,e⟩:=h
 obtain ⟨d,hd,_⟩:=hx.Fe hi
 have Rn:i<ds.length:=(xO.mp hd).1
 have tH:ds.drop i=d::ds.drop (i+1):=by
  rw [AH Rn]
  rw [mz Rn] at hd
  rw [gz hd]
 obtain ⟨x',mn,hxd⟩:=(gd.JB hx).get hd
 rw [hi] at mn
 cases mn
 rw [tH,forL] at e
 cases hg:g d env with
 | none=>rw [hg] at e;cases e
 | some cO =>
  rw [hg] at e
  refine kg O B σ H env cO x d _ R hxd hg λnv H1 R1 g1=>?_
  dsimp only at e
  cases hF:F cO with
  | none=>rw [hF] at e;cases e
  | some y =>
   obtain ⟨f2,cV⟩:=y
   rw [hF] at e
   have go:=gd.trans g1
   refine kb O B nv H1 cO f2 cV _ R1 hF ?_
   cases f2 with
   | nx=>exact λfO H2 R2 g2=>⟨cV,R2,go.trans g2,e⟩
   | ct=>exact λfO H2 R2 g2=>⟨cV,R2,go.trans g2,e⟩
   | bk=>cases e;exact λfO H2 R2 g2=>q fO H2 R2 (go.trans g2)
   | rt r=>cases e;exact q
theorem OG{D:Ends}{ds:List DL.D}{n:Nat}(hn:ds.length<=n)
  (q:g7 X.K O B BY H0 l8 D fl ak)(h:Left X.K O B BY H0 l8 g F ds fl ak n σ H):D.nx σ H:=by
 obtain ⟨env,R,gd,e⟩:=h
 rw [GX hn,forL] at e
 cases e
 exact q σ H R gd
noncomputable def mM(f:En->Option Sl)(g:GF)(F:SF):SF:=λenv=>(f env).bind λr=>(j0 r.d).bind λx=>forL g F x.2 env
theorem Gd.sq{K:aQ}{σ bz:L2.St}{env ak:En}{H H':Hp}(gd:Gd σ env H bz ak H'){k:Bool}{p:Addr}{xs:List V}(h:Sq K H k p xs)(hp:¬pT σ env p\/H p=none):Sq K H' k p xs:=by
 have rd:∀u,Rd H p u->Rd H' p u:=λu z=>by
  rcases z with z | ⟨o,z⟩
  .rcases hp with hp | hp
   .exact .inl (gd p _ z hp).1
   .rw [hp] at z;cases z
  .rcases hp with hp | hp
   .exact .inr ⟨o,(gd p _ z hp).1⟩
   .rw [hp] at z;cases z
 cases k with
 | true =>
  rcases h with h | h
  .exact .inl (rd _ h)
  .exact .inr h
 | false =>
  rcases h with h | h
  .exact .inl (rd _ h)
  .exact .inr h
theorem Is.IB{K:aQ}{O:Addr->Prop}{H:Hp}{v:V}{d:D}{k:Bool}{ds:List D}(h:Is K O H v d)(e:j0 d=some (k,ds)):∃p xs,v=.ref p/\Sq K H k p xs/\bx K O H xs ds/\(¬O p\/∀H',Sq K H' k p xs):=by
 cases h with
 | tup ho hp hs=>cases e;exact ⟨_,_,rfl,.inl hp,hs,.inl ho⟩
 | wO hp hs=>cases e;exact ⟨_,_,rfl,LY hp,hs,.inr λ_=>LY hp⟩
 | lst ho hp hs=>cases e;exact ⟨_,_,rfl,.inl (.inl hp),hs,.inl ho⟩
 | sx ho hp hs=>cases e;exact ⟨_,_,rfl,.inl hp,hs,.inl ho⟩
 | sV hp hs=>cases e;exact ⟨_,_,rfl,LU hp,hs,.inr λ_=>LU hp⟩
 | _=>cases e
noncomputable def Q3(K:aQ)(tl:TE):TI:=λσ H R=>tl σ H λx H1=>∃a,x=.ref a/\(((∃xs,jm K H1 a xs)/\R (Mq K a) H1)\/((∃xs,kK K H1 a xs)/\R (Mp K a) H1))
theorem Za(hl:PE X l tl):PI X tg l (Q3 X.K tl):=by
 intro pins s σ H R I h
 refine cq (hl pins s σ H _ I h) λv s1 ⟨x,H1,I1,r1,q1⟩=>?_
 obtain ⟨a,e,q1⟩:=q1
 subst e
 cases r1
 rcases q1 with ⟨⟨xs,hq⟩,q⟩ | ⟨⟨xs,hq⟩,q⟩
 .obtain ⟨aD,rv,p,hz⟩:=I1.list hq
  refine Tp p.isList ?_
  refine ⟨s1.heap.objs.size,[s1.heap.objs.size],_,_,H1,rfl,I1.kept (t':=s1.toks) λb o e=>gg _ e,b1D a _,⟨_,lO _ rfl,rfl,rfl⟩,λb hb=>?_,q⟩
  have e:b=s1.heap.objs.size:=by simpa using hb
  subst e
  exact I1.Aq (cT _) (I1.cw.fresh (cT _))
 .obtain ⟨aD,rv,p,hz⟩:=I1.tuple hq
  refine wpAny_pyIter_tuple (show s1.heap.IsTuple a aD.toArray from p) ?_
  refine ⟨s1.heap.objs.size,[s1.heap.objs.size],_,_,H1,rfl,I1.kept (t':=s1.toks) λb o e=>gg _ e,b0V a _,⟨_,lO _ rfl,rfl,rfl⟩,λb hb=>?_,q⟩
  have e:b=s1.heap.objs.size:=by simpa using hb
  subst e
  exact I1.Aq (cT _) (I1.cw.fresh (cT _))
theorem Eb(hp:PassesOwn (model X.prog X.w) X.A X.env X.xe)(hc:X.calm=true)(hi:EV X it fa)(hg:GV X tg g)(hb:ur X body F)
  (hs:∀x,foldedSetIterable it X.env x=pure x:=by intro _;rfl):SV X (.For tg it body [] pos) (mM fa g F):=by
 obtain ⟨ti,pi,ki⟩:=hi
 obtain ⟨B2,pg,kg⟩:=hg
 obtain ⟨tb,pb,kb⟩:=hb
 refine ⟨_,Uo hp hc (Za pi) pg pb hs,λO B σ H env fl ak D R e q=>?_⟩
 obtain ⟨r,e1,e2⟩:=bind_some e
 obtain ⟨⟨k,ds⟩,e4,e5⟩:=bind_some e2
 refine ki O B σ H env r _ R e1 λv H1 s1 r1=>?_
 obtain ⟨p,xs,rfl,h1,h2,h3⟩:=(r1.is λq=>R.oo).IB e4
 refine ⟨p,rfl,?_⟩
 have q':g7 X.K O B σ H1 env D fl ak:=q.from (Gd.refl s1)
 have keep:∀i fO H2,Left X.K O B σ H1 env g F ds fl ak i fO H2->Sq X.K H2 k p xs:=λi fO H2 L=>by
  rcases h3 with h3 | h3
  .obtain ⟨cV,_,gd,_⟩:=L
   exact gd.sq h1 (.inl λz=>h3 (.inr z))
  .exact h3 H2
 cases k with
 | true =>
  refine .inl ⟨⟨xs,h1⟩,?_⟩
  exact b4l (xs:=xs) (Left X.K O B σ H1 env g F ds fl ak) ⟨env,R.grow s1,Gd.refl (aG.refl _),e5⟩ (λi fO H2 _ L=>keep i fO H2 L) (λi x fO H2 hx L=>UX kg kb h2 hx q' L) (λfO H2 L=>OG (by rw [h2.length];exact cT _) q' L)
 | false =>
  refine .inr ⟨⟨xs,h1⟩,?_⟩
  exact b6G (xs:=xs) (Left X.K O B σ H1 env g F ds fl ak) ⟨env,R.grow s1,Gd.refl (aG.refl _),e5⟩ (λi fO H2 _ L=>keep i fO H2 L) (λi x fO H2 hx L=>UX kg kb h2 hx q' L) (λfO H2 L=>OG (by rw [h2.length];exact cT _) q' L)
noncomputable def iL(lo:Int)(n:Nat):List D:=(pO n).map λ(k:Nat)=>D.int (lo+(k:Int))
def R62(i:Int):Prop:=-(2^62)<=i/\i<2^62
noncomputable instance (i:Int):Decidable (R62 i):=by unfold R62;infer_instance
noncomputable def wy:List D->Option (List D)
 | [.int j]=>if R62 j then some (iL 0 j.toNat) else none
 | _=>none
noncomputable def Hg(h:List D->Option (List D))(f:En->Option (List D))(g:GF)(F:SF):SF:=λenv=>(f env).bind λds=>(h ds).bind λis=>forL g F is env
theorem b5R{K:aQ}{O:Addr->Prop}{H:Hp}(lo:Int)(n:Nat):bx K O H ((pO n).map λ(k:Nat)=>V.int (lo+(k:Int))) (iL lo n):=by
 have h:=bx.ints (K:=K) (O:=O) (H:=H) ((pO n).map λ(k:Nat)=>lo+(k:Int))
 rw [BI,BI] at h
 exact h
theorem b0D{K:aQ}{O:Addr->Prop}{H:Hp}{xs:List V}{i:Int}(h:bx K O H xs [.int i]):xs=[.int i]:=by
 cases h with
 | cons h t=>cases t;rw [qF h]
theorem b6H{tb:TS}{B2:TG}{g:GF}{lo:Int}{n:Nat}{O:Addr->Prop}{B:Hp}{σ:L2.St}{H:Hp}{env ak:En}{fl:Fl}{D:Ends}
  (kg:∀(O:Addr->Prop) (B:Hp) (σ:L2.St) (H:Hp) (env ak:En) (v:V) (d:DL.D) (Q:L2.St->Hp->Prop),Rel X.K O B σ H env->Is X.K (OO O σ env) H v d->g d env=some ak ->
   (∀bz H',Rel X.K O B bz H' ak->Gd σ env H bz ak H'->Q bz H')->B2 v σ H Q)
  (kb:∀(O:Addr->Prop) (B:Hp) (σ:L2.St) (H:Hp) (env:En) (fl:Fl) (ak:En) (D:Ends),Rel X.K O B σ H env->F env=some (fl,ak)->g7 X.K O B σ H env D fl ak->tb D σ H)
  (R:Rel X.K O B σ H env)(e:forL g F (iL lo n) env=some (fl,ak))(q:g7 X.K O B σ H env D fl ak):
  ∃W:Nat->Nat->L2.St->Hp->Prop,(∃m,W 0 m σ H)/\∀i m σ H,W i m σ H ->
   ((v9 lo n).stop i H/\D.nx σ H)\/((v9 lo n).go i H/\∃N:L2.St->Hp->Prop,(∀bz H',N bz H'->∃m',m'<m/\W (i+1) m' bz H')/\∀x H',(v9 lo n).Ey i H x H'->B2 x σ H' λfO H2=>tb { D with nx:=N,ct:=N,bk:=D.nx } fO H2):=by
 refine b2N (Left X.K O B σ H env g F (iL lo n) fl ak) ⟨env,R,Gd.refl (aG.refl _),e⟩ (λi fO H2 hi L=>?_) (λfO H2 L=>OG (by simp [iL]) q L)
 exact UX kg kb (b5R lo n) (by simp [hi]) q L
theorem U'{body:List Stmt}{g:GF}{fs:En->Option (List D)}{p:Pos}(hp:PassesOwn (model X.prog X.w) X.A X.env X.xe)(hc:X.calm=true)(JS:Gl X "range")(hm:X.mg "range" = none)(ha:AV X [a] fs)(hg:GV X tg g)(hb:ur X body F)
  (h1:starEach [a] X.env=[(false,eval a X.env)]:=by rfl)(hs:∀x,foldedSetIterable (.Call (.Name "range" p) [a] [] pos) X.env x=pure x:=by intro _;rfl){sA:Pos}:
  SV X (.For tg (.Call (.Name "range" p) [a] [] pos) body [] sA) (Hg wy fs g F):=by
 obtain ⟨ti,pi,ki⟩:=ha
 obtain ⟨B2,pg,kg⟩:=hg
 obtain ⟨tb,pb,kb⟩:=hb
 refine ⟨_,Uo hp hc (b11 JS hm pi h1) pg pb hs,λO B σ H env fl ak D R e q=>?_⟩
 obtain ⟨ds,e1,e2⟩:=bind_some e
 obtain ⟨is,e2,e3⟩:=bind_some e2
 refine ki O B σ H env ds _ R e1 λvs H1 s1 r1=>?_
 unfold wy at e2
 split at e2
 .obtain ⟨⟨h1,h2⟩,rfl⟩:=lS e2
  exact ⟨_,b0D r1,h1,h2,b6H kg kb (R.grow s1) e3 (q.from (Gd.refl s1))⟩
 .cases e2
noncomputable def B0(c:En->Option Bool)(F:SF):Nat->SF
 | 0,_=>none
 | n+1,env=>match c env with
  | none=>none
  | some false=>some (.nx,env)
  | some true=>match F env with
   | some (.nx,cV)=>B0 c F n cV
   | some (.ct,cV)=>B0 c F n cV
   | some (.bk,cV)=>some (.nx,cV)
   | some (.rt r,cV)=>some (.rt r,cV)
   | none=>none
noncomputable def N3(m:En->Nat)(c:En->Option Bool)(F:SF):SF:=λenv=>B0 c F (m env) env
theorem ZY(m:En->Nat)(hp:PassesOwn (model X.prog X.w) X.A X.env X.xe)(hc:TV X c ga)(hb:ur X body F):SV X (.While c body [] pos) (N3 m ga F):=by
 obtain ⟨tc,pc,kc⟩:=hc
 obtain ⟨tb,pb,kb⟩:=hb
 refine ⟨_,b3L hp pc pb,λO B σ H env fl ak D R e q=>?_⟩
 refine ⟨λn nv H1=>∃cO,Rel X.K O B nv H1 cO/\Gd σ env H nv cO H1/\B0 ga F n cO=some (fl,ak),⟨m env,env,R,Gd.refl (aG.refl _),e⟩,?_⟩
 rintro n nv H1 ⟨cO,R1,g1,e1⟩
 cases n with
 | zero=>cases e1
 | succ n =>
  rw [B0] at e1
  cases h:ga cO with
  | none=>rw [h] at e1;cases e1
  | some x =>
   rw [h] at e1
   refine kc O B nv H1 cO x _ R1 h λH2 s2=>?_
   cases x with
   | false =>
    rw [if_neg vM]
    cases e1
    exact q nv H2 (R1.grow s2) (g1.trans (Gd.refl s2))
   | true =>
    rw [if_pos rfl]
    refine ⟨λbz H'=>∃cV,Rel X.K O B bz H' cV/\Gd σ env H bz cV H'/\B0 ga F n cV=some (fl,ak),λbz H' ⟨cV,a1,a2,a3⟩=>⟨n,qz n,cV,a1,a2,a3⟩,?_⟩
    dsimp only at e1
    cases hF:F cO with
    | none=>rw [hF] at e1;cases e1
    | some y =>
     obtain ⟨f2,cV⟩:=y
     rw [hF] at e1
     have go:=g1.trans (Gd.refl s2)
     refine kb O B nv H2 cO f2 cV _ (R1.grow s2) hF ?_
     cases f2 with
     | nx=>exact λfO H3 R2 g2=>⟨cV,R2,go.trans g2,e1⟩
     | ct=>exact λfO H3 R2 g2=>⟨cV,R2,go.trans g2,e1⟩
     | bk=>cases e1;exact λfO H3 R2 g2=>q fO H3 R2 (go.trans g2)
     | rt r=>cases e1;exact q
end
noncomputable def wb(K:aQ)(n:Nat)(φ:List D->Option Sl):Sp:=λvs H Q _=>∃(O:Addr->Prop) (ds:List D) (r:Sl),Et K O H/\bx K O H vs ds/\vs.length=n/\φ ds=some r /\
 ∀v H',aG H H'->Res K O H H' v r->Q v H'
noncomputable def o7(N:Nat)(ds:List D):En:=ds.map Sl.sh++oa (N-ds.length) Sl.no
noncomputable def bT(F:SF)(N:Nat)(ds:List D):Option Sl:=match F (o7 N ds) with
 | some (.rt r,_)=>some r
 | some (.nx,_)=>some (.sh .b8)
 | _=>none
theorem Vl{K:aQ}{O:Addr->Prop}{H:Hp}{N:List Str}{vs:List V}{ds:List D}(hO:Et K O H)(h:bx K O H vs ds):Rel K O H (start N vs) H (o7 N.length ds):=by
 have hl:=h.length
 have Jh:∀(i:Nat) (s:Sl),(o7 N.length ds)[i]?=some s->s.own->False:=λi s e1 o=>by
  unfold o7 at e1
  rw [NH] at e1
  split at e1
  .rw [vL] at e1
   obtain ⟨d,_,e⟩:=map_some e1
   cases e
   exact o
  .rw [GZ] at e1
   split at e1
   .cases e1;exact o
   .cases e1
 have no:∀p,¬pT (start N vs) (o7 N.length ds) p:=λp ⟨i,es,e1,o,_⟩=>Jh i es e1 o
 refine ⟨aG.refl _,hO,?_,λi d e=>?_,λi es e=>(Jh i _ e trivial).elim,λi es e=>(Jh i _ e trivial).elim,λi ks es e=>(Jh i _ e trivial).elim,λi j es fs p e _ _ _ o _=>(Jh i _ e o).elim⟩
 .simp [L2.start,o7,hl]
 .unfold o7 at e
  rw [NH] at e
  split at e
  .rename_i hi
   rw [eD] at hi
   rw [vL] at e
   obtain ⟨d',e1,e2⟩:=map_some e
   cases e2
   obtain ⟨x,hx,hd⟩:=h.get e1
   refine ⟨x,?_,hd.less λq z=>z.elim id λz=>(no q z).elim⟩
   unfold L2.start
   rw [FO (by rw [eD,hl];exact hi),vL,hx]
   rfl
  .rw [GZ] at e
   split at e
   .cases e
   .cases e
section
variable {P:Program}{w:World}{K:aQ}{mg:Str->Option Value}{base:Heap}
theorem RL{x qual:Str}{st:Stmt}{f:Addr}{fd:FuncData}{N ps:List Str}{k:Nat}{F:SF}(Fn:A4 K x qual st f fd)(S:de N ps (gk st))
  (cY:∀(gf:Value) (A:Around) (outer:List Env) (s:Shared) (H:Hp) (E:XK),c6 k (A.deeper (envOfC qual (gk st) s.heap.objs.size f gf)) ->
   ur (oW jY P w K mg base N qual (gk st) f gf A outer s H E).EY (jW st) F):cR P w K mg base jY (k+1) f fd ps (wb K ps.length (bT F N.length)):=by
 refine Fn.ok S (λvs H Q E h=>?_) (λgf A outer s H vs Q E hr h=>?_)
 .obtain ⟨O,ds,r,_,_,hl,_⟩:=h
  exact hl
 obtain ⟨O,ds,r,hO,hi,hl,e,q⟩:=h
 obtain ⟨t,p,kk⟩:=cY gf A outer s H E hr
 refine ⟨t,p,?_⟩
 unfold bT at e
 cases hF:F (o7 N.length ds) with
 | none=>rw [hF] at e;cases e
 | some y =>
  obtain ⟨fl,ak⟩:=y
  rw [hF] at e
  refine kk O H (start N vs) H (o7 N.length ds) fl ak _ (Vl hO hi) hF ?_
  cases fl with
  | nx=>cases e;exact λbz H' R' _=>q .b8 H' R'.same Is.b8
  | bk=>cases e
  | ct=>cases e
  | rt r=>cases e;exact λv H' s h=>q v H' s h
end
section
variable {X:Cx}{k:Nat}{f:Addr}{fd:FuncData}{ps:List Str}{φ:List D->Option Sl}{x:Str}{p pos:Pos}{e:Expr}{es:List Expr}{fs:En->Option (List D)}
noncomputable def cK(n:Nat)(φ:List D->Option Sl)(fs:En->Option (List D)):En->Option Sl:=λenv=>(fs env).bind λds=>if ds.length=n then φ ds else none
theorem b29(ka:∀(O:Addr->Prop) (B:Hp) (σ:L2.St) (H:Hp) (env:En) (ds:List D) (Q:List V->Hp->Prop),Rel X.K O B σ H env->fs env=some ds->(∀vs H',aG H H'->bx X.K (OO O σ env) H' vs ds->Q vs H')->t σ H Q)
  (O:Addr->Prop)(B:Hp)(σ:L2.St)(H:Hp)(env:En)(r:Sl)(Q:VK)(R:Rel X.K O B σ H env)(e:cK n φ fs env=some r)(q:∀v H',aG H H'->Res X.K (OO O σ env) H H' v r->Q v H'):Ua (wb X.K n φ) [] E t σ H Q:=by
 obtain ⟨ds,e1,e2⟩:=bind_some e
 refine ka O B σ H env ds _ R e1 λvs H1 s1 r1=>?_
 by_cases hn:ds.length=n
 .rw [if_pos hn] at e2
  rw [vK]
  refine ⟨OO O σ env,ds,r,(R.grow s1).dm,r1,by rw [r1.length,hn],e2,λv H2 s2 r2=>q v H2 (s1.trans s2) (r2.from s1)⟩
 .rw [if_neg hn] at e2;cases e2
theorem b6R(F:cR X.prog X.w X.K X.mg X.base jY k f fd ps (wb X.K ps.length φ))(hr:c6 k X.A)(hg:Gl X x)(hm:X.mg x=some (.ref f))(hk:BG X.K (.ref f)=true)(hb:Binds X.K fd ps [])
  (ha:AV X (e::es) fs)(lz:(x==("__debug__":Str))=false:=by decide)(he:starEach (e::es) X.env=(false,eval e X.env)::starEach es X.env:=by rfl)(g8:(backTo pos (starEach es X.env)).any (·.1)=false:=by rfl):
  EV X (.Call (.Name x p) (e::es) [] pos) (cK ps.length φ fs):=by
 obtain ⟨t,pt,ka⟩:=ha
 exact ⟨_,ZP F hr hg hm hk hb .nil He pt lz he g8,λO B σ H env r Q R e q=>b29 ka O B σ H env r Q R e q⟩
end
noncomputable def spT(K:aQ):Sp:=λvs H Q _=>∃(a:Addr) (ns:List Int),vs=[.ref a]/\jm K H a (ns.map V.int)/\ns.length<=63/\Tb K H/\∀H',aG H H'->Q (.bl true) H'
theorem b8F{P:Program}{w:World}{K:aQ}{mg:Str->Option Value}{base:Heap}{k:Nat}{f:Addr}{fd:FuncData}{φ:List D->Option Sl}(F:cR P w K mg base jY k f fd ["script"] (wb K 1 φ))
  (h:∀ns:List Int,ns.length<=63->φ [.lst true (ns.map D.int)]=some (Sl.sh (.bl true))):cR P w K mg base jY k f fd ["script"] (spT K):=by
 refine F.imp λvs H Q E q=>?_
 obtain ⟨a,ns,rfl,hs,hl,tb,q⟩:=q
 refine ⟨λ_=>False,[.lst true (ns.map D.int)],_,⟨λ_ z=>z.elim,tb⟩,.cons ?_ .nil,rfl,h ns hl,λv H' sm r=>?_⟩
 .rcases hs with hs | hs
  .exact .sx id hs (bx.ints ns)
  .exact .sV (.inr hs) (bx.ints ns)
 .have r':Is K (λ_=>False) H' v (.bl true):=r
  rw [BQ r']
  exact q H' sm
theorem zF{l:Sz}{q:Program}{loose:List Str}{XP:(Str->Option Value)->Heap->Prop}{YP:World->Heap->Prop}{d:DefRec}{K:Params->aQ}{k:Nat}(hk:c6 k callerA)(hn:l.most=some 63)(JW:d.params.defaults=[])
  {ts:List Addr}(hY:∀(w:World) (h:Heap),YP w h->(K w.params).In h/\∀P∈ts,h.get? P=some (GR #[]))(hL:∀w:World,N1 (K w.params) ts=true)
  (F:∀(w:World) (mg:Str->Option Value) (fa:Addr) (h:Heap),(K w.params).In h->h.Ns mainGlobals mg->mg d.name=some (.ref fa) ->
   ∃fd:FuncData,(∀(s:Shared) (u:Value),BindsTo s fd ⟨[u],[]⟩ [("script",u)])/\∀base:Heap,(K w.params).In base->base.Ns mainGlobals mg->cR l.prog w (K w.params) mg base jY k fa fd ["script"] (spT (K w.params))):
  PySem.W.WalkO q loose XP YP l.row.toRowW d [] (λf vs=>Sf f vs):=
 L2.B1 (n:=63) (k:=k) (x:="script") (CX:=λ_=>jY) (sp:=λw=>spT (K w.params)) hn (by decide) JW hk hY hL F (λw _ a ns hl tb hS=>⟨a,ns,rfl,hS,hl,tb,λ_ sm=>⟨rfl,tb.grow sm⟩⟩) λ_ _ _ _ _ z=>z
section
variable {X:Cx}{a:Expr}{pos p p2:Pos}{fa:En->Option Sl}
def JC(K:aQ)(T:String)(x:V)(H:Hp)(b:Bool):Prop:=match x with
 | .b8=>b=false
 | .bl _=>b=(T == "bool" || T == "int")
 | .int _=>b=(T == "int")
 | .str _=>b=(T == "str")
 | .ref p=>(b=(T == "list")/\∃xs,jm K H p xs)\/(b=(T == "tuple")/\∃xs,kK K H p xs)
 | _=>False
theorem b4G(hT:T = "int" \/ T = "bool" \/ T = "str" \/ T = "list" \/ T = "tuple"):
  ud X (.builtin "isinstance") (λxs H Q=>∃x b,xs=[x,.ty T]/\JC X.K T x H b/\Q (.bl b) H):=by
 intro pins s σ H xs us Q I r h
 obtain ⟨x,b,rfl,hx,q⟩:=h
 obtain ⟨u,w',rfl,r1,r2⟩:=vals2 r
 obtain rfl:w'=CT T:=r2
 have yes:∀{Tx:String},s.TypeIs u Tx->isSubtype (.type Tx) (.type T)=pure true->typeOf (.type T)=pure (.type "type")->Q (.bl true) H->wpAny (model X.prog X.w) X.A (call (.builtin "isinstance") [u,.type T]) (EP X pins σ Q) X.xe s:=λh1 h2 h3 hq =>
  FA (isinstance_true h3 h2) ⟨h1,⟨.bl true,H,I,rfl,hq⟩⟩
 have fin:Q (.bl false) H->EP X pins σ Q (.bool false) { s with toks:=s.toks+1 }:=λhq=>⟨.bl false,H,I.tok _,rfl,hq⟩
 have ty:typeOf (.type T)=pure (.type "type"):=by rcases hT with rfl | rfl | rfl | rfl | rfl<;>rfl
 cases x with
 | b8 =>
  obtain rfl:u=nQ:=r1
  obtain rfl:b=false:=hx
  refine FA (isinstance_false_none ?_ ty ?_) (fin q)
  .rcases hT with rfl | rfl | rfl | rfl | rfl<;>decide +kernel
  .rcases hT with rfl | rfl | rfl | rfl | rfl<;>rfl
 | bl k =>
  obtain rfl:u=qx k:=r1
  rcases hT with rfl | rfl | rfl | rfl | rfl
  .obtain rfl:b=true:=hx
   exact yes (Tx:="bool") rfl rfl ty q
  .obtain rfl:b=true:=hx
   exact yes (Tx:="bool") rfl rfl ty q
  all_goals
   obtain rfl:b=false:=hx
   exact FA (isinstance_false_bool (by decide +kernel) ty (by rfl)) (fin q)
 | int i =>
  obtain ⟨t,rfl⟩:=r1
  rcases hT with rfl | rfl | rfl | rfl | rfl
  .obtain rfl:b=true:=hx
   exact yes (Tx:="int") (typeIs_int s i t) rfl ty q
  all_goals
   obtain rfl:b=false:=hx
   exact FA (isinstance_false_int (by decide +kernel) ty (by rfl)) (fin q)
 | str z =>
  obtain ⟨t,rfl⟩:=r1
  rcases hT with rfl | rfl | rfl | rfl | rfl
  rotate_left 2
  .obtain rfl:b=true:=hx
   exact yes (Tx:="str") (typeIs_str s z t) rfl ty q
  all_goals
   obtain rfl:b=false:=hx
   exact FA (isinstance_false_str (by decide +kernel) ty (by rfl)) (fin q)
 | ref l =>
  cases r1
  rcases hx with ⟨rfl,xs,hq⟩ | ⟨rfl,xs,hq⟩
  .obtain ⟨aD,_,pl,_⟩:=I.list hq
   have E6:=pl.isList.typeIs
   obtain ⟨o,n,e,c,_,_⟩:=pl
   rcases hT with rfl | rfl | rfl | rfl | rfl
   rotate_left 3
   .exact yes (Tx:="list") E6 rfl ty q
   all_goals exact FA (isinstance_false_list (by decide +kernel) ty (by rfl)) ⟨⟨o,e,c⟩,fin q⟩
  .obtain ⟨aD,_,pl,_⟩:=I.tuple hq
   have E6:=pl.typeIs
   obtain ⟨o,e,c,_⟩:=pl
   rcases hT with rfl | rfl | rfl | rfl | rfl
   rotate_left 4
   .exact yes (Tx:="tuple") E6 rfl ty q
   all_goals exact FA (isinstance_false_tuple (by decide +kernel) ty (by rfl)) ⟨⟨o,e,c⟩,fin q⟩
 | _=>exact qw hx
noncomputable def lX(T:String):D->Bool
 | .b8=>false
 | .bl _=>(T == "bool" || T == "int")
 | .int _=>(T == "int")
 | .str _=>(T == "str")
 | .tup _=>(T == "tuple")
 | .lst _ _=>(T == "list")
 | .exc _=>false
 | .mq _ _=>false
 | .obj _ _ _=>false
 | .g0 _ _=>false
 | .kW _ _=>false
noncomputable def D.isExc:D->Bool
 | .exc _=>true
 | .mq _ _=>true
 | .obj _ _ _=>true
 | .g0 _ _=>true
 | .kW _ _=>true
 | _=>false
noncomputable def oJ(T:String)(d:D):Option Sl:=if d.isExc=true then none else some (.sh (.bl (lX T d)))
theorem b8Q{K:aQ}{O:Addr->Prop}{H:Hp}{T:String}{v:V}{d:D}(h:Is K O H v d)(ne:d.isExc=false):JC K T v H (lX T d):=by
 cases h with
 | b8=>rfl
 | bl b=>rfl
 | int i=>rfl
 | str x=>rfl
 | tup ho hp hs=>exact .inr ⟨rfl,_,.inl hp⟩
 | wO hp hs=>exact .inr ⟨rfl,_,LY hp⟩
 | lst ho hp hs=>exact .inl ⟨rfl,_,.inl (.inl hp)⟩
 | sx ho hp hs=>exact .inl ⟨rfl,_,.inl hp⟩
 | sV hp hs=>exact .inl ⟨rfl,_,LU hp⟩
 | exc ho hn hp=>cases ne
 | mq ho hp=>cases ne
 | obj=>cases ne
 | g0=>cases ne
 | kW=>cases ne
 | CL ho hp=>cases ne
noncomputable def Au(T:String)(f:En->Option Sl):En->Option Sl:=λenv=>(f env).bind λr=>oJ T r.d
theorem Uk(hT:T = "int" \/ T = "bool" \/ T = "str" \/ T = "list" \/ T = "tuple")(hg:Gl X "isinstance")(hm:X.mg "isinstance" = none)(GA:Gl X x)(Gy:X.mg x=none)(hv:bootBuiltins x=some (.type T))(ha:EV X a fa)
  (hn:x ≠ "__name__":=by decide)(hd:(x==("__debug__":Str))=false:=by decide)
  (hs:starEach [a,.Name x p2] X.env=[(false,eval a X.env),(false,eval (.Name x p2) X.env)]:=by rfl)(n6:starEach [.Name x p2] X.env=[(false,eval (.Name x p2) X.env)]:=by rfl):
  EV X (.Call (.Name "isinstance" p) [a,.Name x p2] [] pos) (Au T fa):=by
 obtain ⟨t,pt,k⟩:=ha
 refine ⟨_,Ek (b4G hT) hg hm (by decide +kernel) (nW pt (nW (b6a (v:=.ty T) GA Gy hv rfl hn hd) rR n6) (by rw [hs,n6])) (by decide) (by decide) (by rw [hs,n6]) (by rw [n6];rfl),λO B σ H env s Q R e q=>?_⟩
 obtain ⟨r,e1,e2⟩:=bind_some e
 unfold oJ at e2
 split at e2
 .cases e2
 .rename_i ne
  cases e2
  exact k O B σ H env r _ R e1 λv H1 s1 r1=>⟨v,_,rfl,b8Q (r1.is λq=>R.oo) (by simpa using ne),q _ H1 s1 (Is.bl _)⟩
end
section
variable {X:Cx}{a b c e:Expr}{fa fb:En->Option Sl}{pos:Pos}
noncomputable def p5(i:Nat)(f:En->Option Sl):SF:=λenv=>match env[i]? with
 | some (.ow ds)=>(f env).bind λr=>match r.d with
  | .lst false es=>if ds.length+es.length<=16777216 then some (.nx,env.set i (.ow (ds++es))) else none
  | _=>none
 | _=>none
theorem b1I{i:Nat}{x:Str}{p1 p2 aR:Pos}(ha:EV X e fa)(hN:X.N[i]?=some x:=by rfl)(hv:jS X.env.scope x:=by first | exact eN rfl | exact cP (eN rfl) | exact cP (cP rfl))(hd:(x==("__debug__":Str))=false:=by decide)
  (dN:(x==("__classdict__":Str))=false:=by decide)(hs:starEach [e] X.env=[(false,eval e X.env)]:=by rfl)
  (cZ:attributeBase (.Name x p1) "extend" X.env (eval (.Name x p1) X.env)=eval (.Name x p1) X.env:=by rfl)
  (lx:((backTo aR (starEach [e] X.env)).all (λx=>!x.1)&&(backToKw aR (keywordEach [] X.env)).all (λx=>x.1.isSome)
   && decide ([e].length+([]:List Keyword).length+(if ([]:List Keyword).isEmpty then 0 else 1)<30))=true:=by rfl)
  (cX:(p2.endLine==aR.line)=true:=by rfl)
  (Ae:swapsWith (.Call (.Attribute (.Name x p1) "extend" p2) [e] [] aR) none pos.line X.env=pure false:=by rfl):
  SV X (.Expr (.Call (.Attribute (.Name x p1) "extend" p2) [e] [] aR) pos) (p5 i fa):=by
 obtain ⟨t,p,k⟩:=ha
 refine ⟨_,LM (Ub Lc XZ PySem.F.type_list_extend b2f (ya hN hv hd dN) (nW p rR hs) cZ lx cX hs rfl) Ae,λO B σ H env fl ak D R e q=>?_⟩
 unfold p5 at e
 cases h:env[i]? with
 | none=>rw [h] at e;cases e
 | some s =>
  rw [h] at e
  cases s with
  | no=>cases e
  | sh d=>cases e
  | dw ds=>cases e
  | tw _ _=>cases e
  | ow ds =>
   obtain ⟨r,e1,e2⟩:=bind_some e
   obtain ⟨l,xs,f1,f2,f3,f4⟩:=R.ow i ds h
   refine ⟨_,f1,.inl ⟨rfl,_,jm.of f3⟩,?_⟩
   refine k O B σ H env r _ R e1 λv H1 s1 r1=>?_
   have hi:=r1.is λq=>R.oo
   cases hd:r.d with
   | lst ro es =>
    rw [hd] at hi e2
    cases ro with
    | true=>cases e2
    | false =>
     obtain ⟨hl,e3⟩:=lS (show (if ds.length+es.length<=16777216 then some (Fl.nx,env.set i (.ow (ds++es))) else none)=some (fl,ak) from e2)
     cases e3
     obtain ⟨b,zs,rfl,hb,g1,g2⟩:=Ud hi
     refine ⟨l,b,xs,zs,rfl,rfl,s1 _ _ f3,g1,by rw [f4.length,g2.length,rH];exact hl,?_⟩
     obtain ⟨R',g'⟩:=(R.grow s1).wr h f1 ((f4.grow s1).append g2)
     exact q _ _ R' (g'.from s1)
   | _=>rw [hd] at e2;cases e2
noncomputable def sk(i j:Nat):SF:=λenv=>match env[j]? with
 | some (.ow ds)=>(ds[ds.length-1]?).bind λd=>if i<env.length/\i≠j then some (.nx,(env.set j (.ow ds.dropLast)).set i (.sh d)) else none
 | _=>none
theorem b1H{i j:Nat}{x y:Str}{pos' p1 p2 aR:Pos}(hN:X.N.Nodup)(hi:X.N[i]?=some x)(hx:Loc X.env.scope x)
  (Rx:X.N[j]?=some y:=by rfl)(hv:jS X.env.scope y:=by first | exact eN rfl | exact cP (eN rfl) | exact cP (cP rfl))(hd:(y==("__debug__":Str))=false:=by decide)
  (dN:(y==("__classdict__":Str))=false:=by decide)
  (cZ:attributeBase (.Name y p1) "pop" X.env (eval (.Name y p1) X.env)=eval (.Name y p1) X.env:=by rfl)
  (cX:(p2.endLine==aR.line)=true:=by rfl)
  (hs:swapsWith (.Call (.Attribute (.Name y p1) "pop" p2) [] [] aR) (some (.Name x pos')) pos.line X.env=pure false:=by rfl)(hf:X.fn x=true\/X.env.scope.names.lookup x=some .local:=by first | exact .inl rfl | exact .inr rfl | assumption):
  SV X (.Assign [.Name x pos'] (.Call (.Attribute (.Name y p1) "pop" p2) [] [] aR) pos) (sk i j):=by
 refine ⟨_,Uq hN hi hx (Y8 Lc Th XY Y4 (ya Rx hv hd dN) cZ cX) hs hf,λO B σ H env fl ak D R e q=>?_⟩
 unfold sk at e
 cases h:env[j]? with
 | none=>rw [h] at e;cases e
 | some s =>
  rw [h] at e
  cases s with
  | no=>cases e
  | sh d=>cases e
  | dw ds=>cases e
  | tw _ _=>cases e
  | ow ds =>
   obtain ⟨d,e1,e2⟩:=bind_some e
   obtain ⟨⟨hl,lr⟩,e3⟩:=a84 e2
   cases e3
   obtain ⟨l,xs,f1,f2,f3,f4⟩:=R.ow j ds h
   obtain ⟨v,Q9,Q8⟩:=f4.get e1
   obtain ⟨R',g'⟩:=R.wr h f1 f4.dropLast
   refine ⟨_,f1,.inl ⟨rfl,_,jm.of f3⟩,l,xs,v,rfl,rfl,f3,by rw [f4.length];exact Q9,?_⟩
   have Q7:bx X.K (OO O σ (env.set j (.ow ds.dropLast))) (upd H l (.lst xs.dropLast)) [v] [d]:=g'.JB (.cons Q8 .nil)
   cases Q7 with
   | cons Q7 _ =>
    obtain ⟨R2,g2⟩:=R'.set (r:=.sh d) (i:=i) (aG.refl _) Q7 (by simp;exact hl)
    exact q _ _ R2 (g'.trans g2)
noncomputable def Hc(i:Nat)(f g:En->Option Sl):SF:=λenv=>match env[i]? with
 | some (.ow ds)=>(f env).bind λr=>(g env).bind λk=>match k.d with
  | .int n=>(rh ds.length n).bind λj=>some (.nx,env.set i (.ow (ds.set j r.d)))
  | _=>none
 | _=>none
theorem b5E{i:Nat}{x:Str}{p1 p2:Pos}(ha:EV X e fa)(hb:EV X b fb)(hN:X.N[i]?=some x:=by rfl)(hv:jS X.env.scope x:=by first | exact eN rfl | exact cP (eN rfl) | exact cP (cP rfl))(hd:(x==("__debug__":Str))=false:=by decide)
  (dN:(x==("__classdict__":Str))=false:=by decide)
  (wW:∀v,assign (.Subscript (.Name x p1) b p2) X.env v=(do
   let ov <-holding [v] (eval (.Name x p1) X.env)
   let iv <-holding [v,ov] (eval b X.env)
   standAt p2
   holding [v,ov,iv] (setItem ov iv v)
   release [v,ov,iv] []):=by intro _;rfl)
  (hs:swapsWithSole [.Subscript (.Name x p1) b p2] e pos.line X.env=pure false:=by rfl)(hw:swappedStores [.Subscript (.Name x p1) b p2] e X.env=pure none:=by rfl)
  (h1:(assignEach [.Subscript (.Name x p1) b p2] X.env).map (·.2)=[assign (.Subscript (.Name x p1) b p2) X.env]:=by rfl):
  SV X (.Assign [.Subscript (.Name x p1) b p2] e pos) (Hc i fa fb):=by
 obtain ⟨t,p,k⟩:=ha
 obtain ⟨t',p',k'⟩:=hb
 refine ⟨_,b8i p (b8k (ya hN hv hd dN) p' b3A wW) hs hw h1,λO B σ H env fl ak D R e q=>?_⟩
 unfold Hc at e
 cases h:env[i]? with
 | none=>rw [h] at e;cases e
 | some s =>
  rw [h] at e
  cases s with
  | no=>cases e
  | sh d=>cases e
  | dw ds=>cases e
  | tw _ _=>cases e
  | ow ds =>
   obtain ⟨r,e1,e2⟩:=bind_some e
   obtain ⟨kk,e2,e3⟩:=bind_some e2
   obtain ⟨l,xs,f1,f2,f3,f4⟩:=R.ow i ds h
   refine k O B σ H env r _ R e1 λv H1 s1 r1=>⟨_,f1,?_⟩
   refine k' O B σ H1 env kk _ (R.grow s1) e2 λw H2 s2 r2=>?_
   have hi:=r2.is λq=>(R.grow s1).oo
   cases hd:kk.d with
   | int n =>
    rw [hd] at hi e3
    obtain rfl:=qF hi
    obtain ⟨j,e4,e5⟩:=bind_some (show (rh ds.length n).bind (λj=>some (Fl.nx,env.set i (.ow (ds.set j r.d))))=some (fl,ak) from e3)
    cases e5
    have uG:=s1.trans s2
    refine ⟨l,xs,n,j,rfl,rfl,uG _ _ f3,by rw [f4.length];exact e4,?_⟩
    obtain ⟨R',g'⟩:=(R.grow uG).wr h f1 ((f4.grow uG).set ((r1.is λq=>R.oo).grow s2) j)
    exact q _ _ R' (g'.from uG)
   | _=>rw [hd] at e3;cases e3
def PP(X:Cx)(e:Option Expr)(f:En->Option (Option Int)):Prop:=
 ∃t:TO,PO X e t/\∀(O:Addr->Prop) (B:Hp) (σ:L2.St) (H:Hp) (env:En) (o:Option Int) (Q:Option Int->Hp->Prop),Rel X.K O B σ H env->f env=some o->(∀H',aG H H'->Q o H')->t σ H Q
noncomputable def Ja:En->Option (Option Int):=λ_=>some none
noncomputable def Gr(f:En->Option Sl):En->Option (Option Int):=λenv=>(f env).bind λr=>match r.d with
 | .int i=>some (some i)
 | _=>none
theorem UG:PP X none Ja:=⟨_,b52,λO B σ H env o Q R e q=>by
 obtain rfl:=gz e
 exact q H (aG.refl _)⟩
theorem UH(h:EV X e fa):PP X (some e) (Gr fa):=by
 obtain ⟨t,p,k⟩:=h
 refine ⟨_,b51 p,λO B σ H env o Q R e q=>?_⟩
 obtain ⟨r,e1,e2⟩:=bind_some e
 refine k O B σ H env r _ R e1 λv H1 s1 r1=>?_
 have hi:=r1.is λq=>R.oo
 cases hd:r.d with
 | int i =>
  rw [hd] at hi e2
  obtain rfl:=gz e2
  exact ⟨i,qF hi,q H1 s1⟩
 | _=>rw [hd] at e2;cases e2
noncomputable def cutD(xs:List D)(lo hi:Option Int):List D:=(xs.drop (HT.df xs.length 0 lo)).take (HT.df xs.length xs.length hi-HT.df xs.length 0 lo)
theorem bx.cut{K:aQ}{O:Addr->Prop}{H:Hp}{xs:List V}{ds:List D}(h:bx K O H xs ds)(lo hi:Option Int):bx K O H (qr xs lo hi) (cutD ds lo hi):=by
 unfold qr cutD
 rw [h.length]
 exact (h.drop _).take _
noncomputable def GI(f:En->Option (Bool×List D))(lo hi:En->Option (Option Int)):En->Option Sl:=λenv=>(f env).bind λx=>(lo env).bind λl=>(hi env).bind λh =>
 if x.1=true then some (.ow (cutD x.2 l h)) else if ¬(HT.df x.2.length 0 l=0/\HT.df x.2.length x.2.length h=x.2.length) then some (.sh (.tup (cutD x.2 l h))) else none
theorem UU{ba:En->Option (Bool×List D)}{lo hi:Option Expr}{fl fh:En->Option (Option Int)}{p2:Pos}(ha:BV X a ba)(hl:PP X lo fl)(hh:PP X hi fh):EV X (.Subscript a (.Slice lo hi none p2) pos) (GI ba fl fh):=by
 obtain ⟨t,p,k⟩:=ha
 obtain ⟨tl,pl,kl⟩:=hl
 obtain ⟨th,ph,kh⟩:=hh
 refine ⟨_,b3O (B4.or b76) p pl ph,λO B σ H env r Q R e q=>?_⟩
 obtain ⟨⟨kk,ds⟩,e1,e2⟩:=bind_some e
 obtain ⟨l,e2,e3⟩:=bind_some e2
 obtain ⟨h,e3,e4⟩:=bind_some e3
 refine k O B σ H env kk ds _ R e1 λpp xs H1 s1 hq hx=>?_
 refine kl O B σ H1 env l _ (R.grow s1) e2 λH2 s2=>?_
 refine kh O B σ H2 env h _ ((R.grow s1).grow s2) e3 λH3 s3=>?_
 have uG:=s1.trans (s2.trans s3)
 have gj:=hq.grow (s2.trans s3)
 have mn:=hx.grow (s2.trans s3)
 dsimp only at e4
 cases kk with
 | true =>
  rw [if_pos rfl] at e4
  obtain rfl:=gz e4
  exact .inl ⟨pp,xs,rfl,gj,λp hp=>q _ _ (uG.trans (o9 hp _)) ((Hm hp (mn.cut l h)).from uG)⟩
 | false =>
  rw [if_neg vM] at e4
  obtain ⟨hw,rfl⟩:=lS e4
  exact .inr ⟨pp,xs,rfl,gj,by rw [mn.length];exact hw,λp hp=>q _ _ (uG.trans (o9 hp _)) ((LI (O:=OO O σ env) (H:=H3) (λ_ z=>(R.grow uG).oo z) hp (mn.cut l h)).from uG)⟩
end
structure Def(K:aQ)(mg:Str->Option Value)(x:Str)(st:Stmt)(ps:List Str)(f:Addr)(fd:FuncData):Prop where
 fn:A4 K x x st f fd
 bd:Binds K fd ps []
 m:mg x=some (.ref f)
end DL
namespace DL
open PySem PySem.Spec PyProof.Rows L2
structure Fx(X:Cx)(N:List Str)(sc:Scope)(k:Nat)(full:Bool:=true):Prop where
 n:X.N=N
 sc:X.env.scope=sc
 calm:X.calm=true
 fn:full=true->∀x,X.fn x=true
 own:PassesOwn (model X.prog X.w) X.A X.env X.xe
 room:c6 k X.A
 nd:N.Nodup
 top:full=true->X.stack=X.env::X.outer/\X.env.frame=some X.env.locals/\X.ex=[]
section
variable {X:Cx}{N:List Str}{sc:Scope}{k:Nat}{full:Bool}{pos p p1 p2 pos' aR:Pos}{e a b:Expr}{fa fb:En->Option Sl}
theorem Fx.r0(h:Fx X N sc k full)(hv:jS sc x):jS X.env.scope x:=by rw [h.sc];exact hv
theorem Fx.loc(h:Fx X N sc k full)(hv:Loc sc x):Loc X.env.scope x:=by rw [h.sc];exact hv
theorem Fx.ix(h:Fx X N sc k full){i:Nat}{x:Str}(hN:N[i]?=some x):X.N[i]?=some x:=by rw [h.n];exact hN
theorem Fx.Gm(h:Fx X N sc k full)(hf:full=true\/sc.names.lookup x=some .local):X.fn x=true\/X.env.scope.names.lookup x=some .local:=hf.elim (λe=>.inl (h.fn e x)) λe=>.inr (by rw [h.sc];exact e)
theorem Fx.Gs(h:Fx X N sc k full):X.N.Nodup:=by rw [h.n];exact h.nd
theorem Fx.g(h:Fx X N sc k full)(hg:sc.names.lookup x=some .globalImplicit:=by rfl):Gl X x:=by
 show X.env.kindOf x=some .globalImplicit
 unfold Env.kindOf
 rw [h.sc]
 exact hg
theorem Fx.v(h:Fx X N sc k full)(i:Nat)(hN:N[i]?=some x:=by rfl)(hv:jS sc x:=by first | exact eN rfl | exact cP (eN rfl) | exact cP (cP rfl))(hd:(x==("__debug__":Str))=false:=by rfl)
  (dN:(x==("__classdict__":Str))=false:=by rfl):EV X (.Name x pos) (eV i):=b83 i (h.ix hN) (h.r0 hv) hd dN
theorem Fx.bv(h:Fx X N sc k full)(i:Nat)(hN:N[i]?=some x:=by rfl)(hv:jS sc x:=by first | exact eN rfl | exact cP (eN rfl) | exact cP (cP rfl))(hd:(x==("__debug__":Str))=false:=by rfl)
  (dN:(x==("__classdict__":Str))=false:=by rfl):BV X (.Name x pos) (bV i):=b9i i (h.ix hN) (h.r0 hv) hd dN
theorem Fx.tg(h:Fx X N sc k full)(i:Nat)(hN:N[i]?=some x:=by rfl)(hv:Loc sc x:=by first | exact eN rfl | exact cP rfl)(hf:full=true\/sc.names.lookup x=some .local:=by first | exact eN rfl | exact cP rfl):GV X (.Name x pos) (gN i):=b6C h.Gs (h.ix hN) (h.loc hv) (h.Gm hf)
theorem Fx.set(h:Fx X N sc k full)(i:Nat)(he:EV X e fa)(hN:N[i]?=some x:=by rfl)(hv:Loc sc x:=by first | exact eN rfl | exact cP rfl)
  (hs:swapsWith e (some (.Name x pos')) pos.line X.env=pure false:=by rfl)(hf:full=true\/sc.names.lookup x=some .local:=by first | exact eN rfl | exact cP rfl):SV X (.Assign [.Name x pos'] e pos) (hV i fa):=b71 h.Gs (h.ix hN) (h.loc hv) he hs (h.Gm hf)
theorem Fx.cu(h:Fx X N sc k full)(i:Nat)(he:EV X e fa)(hN:N[i]?=some x:=by rfl)(hv:Loc sc x:=by first | exact eN rfl | exact cP rfl)
  (hs:swapsWith e (some (.Name x pos')) pos.line X.env=pure false:=by rfl)(hf:full=true\/sc.names.lookup x=some .local:=by first | exact eN rfl | exact cP rfl):SV X (.Assign [.Name x pos'] e pos) (eQ i fa):=b5C h.Gs (h.ix hN) (h.loc hv) he hs (h.Gm hf)
theorem Fx.sy(h:Fx X N sc k full)(i:Nat)(hN:N[i]?=some x:=by rfl)(hv:jS sc x:=by first | exact eN rfl | exact cP (eN rfl) | exact cP (cP rfl))(hd:(x==("__debug__":Str))=false:=by rfl)
  (dN:(x==("__classdict__":Str))=false:=by rfl):SV X (.Return (some (.Name x p2)) pos) (zx i):=b5D i (h.ix hN) (h.r0 hv) hd dN
theorem Fx.app(h:Fx X N sc k full)(i:Nat)(ha:EV X e fa)(hN:N[i]?=some x:=by rfl)(hv:jS sc x:=by first | exact eN rfl | exact cP (eN rfl) | exact cP (cP rfl))(hd:(x==("__debug__":Str))=false:=by rfl)
  (dN:(x==("__classdict__":Str))=false:=by rfl)(hs:starEach [e] X.env=[(false,eval e X.env)]:=by rfl)
  (cZ:attributeBase (.Name x p1) "append" X.env (eval (.Name x p1) X.env)=eval (.Name x p1) X.env:=by rfl)
  (lx:((backTo aR (starEach [e] X.env)).all (λx=>!x.1)&&(backToKw aR (keywordEach [] X.env)).all (λx=>x.1.isSome)
   && decide ([e].length+([]:List Keyword).length+(if ([]:List Keyword).isEmpty then 0 else 1)<30))=true:=by rfl)
  (cX:(p2.endLine==aR.line)=true:=by rfl)
  (Ae:swapsWith (.Call (.Attribute (.Name x p1) "append" p2) [e] [] aR) none pos.line X.env=pure false:=by rfl):
  SV X (.Expr (.Call (.Attribute (.Name x p1) "append" p2) [e] [] aR) pos) (mN i fa):=b1J ha (h.ix hN) (h.r0 hv) hd dN hs cZ lx cX Ae
theorem Fx.ext(h:Fx X N sc k full)(i:Nat)(ha:EV X e fa)(hN:N[i]?=some x:=by rfl)(hv:jS sc x:=by first | exact eN rfl | exact cP (eN rfl) | exact cP (cP rfl))(hd:(x==("__debug__":Str))=false:=by rfl)
  (dN:(x==("__classdict__":Str))=false:=by rfl)(hs:starEach [e] X.env=[(false,eval e X.env)]:=by rfl)
  (cZ:attributeBase (.Name x p1) "extend" X.env (eval (.Name x p1) X.env)=eval (.Name x p1) X.env:=by rfl)
  (lx:((backTo aR (starEach [e] X.env)).all (λx=>!x.1)&&(backToKw aR (keywordEach [] X.env)).all (λx=>x.1.isSome)
   && decide ([e].length+([]:List Keyword).length+(if ([]:List Keyword).isEmpty then 0 else 1)<30))=true:=by rfl)
  (cX:(p2.endLine==aR.line)=true:=by rfl)
  (Ae:swapsWith (.Call (.Attribute (.Name x p1) "extend" p2) [e] [] aR) none pos.line X.env=pure false:=by rfl):
  SV X (.Expr (.Call (.Attribute (.Name x p1) "extend" p2) [e] [] aR) pos) (p5 i fa):=b1I ha (h.ix hN) (h.r0 hv) hd dN hs cZ lx cX Ae
theorem Fx.pop(h:Fx X N sc k full)(i j:Nat){x y:Str}(hN:N[i]?=some x:=by rfl)(hx:Loc sc x:=by first | exact eN rfl | exact cP rfl)(Rx:N[j]?=some y:=by rfl)(hv:jS sc y:=by first | exact eN rfl | exact cP (eN rfl) | exact cP (cP rfl))
  (hd:(y==("__debug__":Str))=false:=by rfl)(dN:(y==("__classdict__":Str))=false:=by rfl)
  (cZ:attributeBase (.Name y p1) "pop" X.env (eval (.Name y p1) X.env)=eval (.Name y p1) X.env:=by rfl)
  (cX:(p2.endLine==aR.line)=true:=by rfl)
  (hs:swapsWith (.Call (.Attribute (.Name y p1) "pop" p2) [] [] aR) (some (.Name x pos')) pos.line X.env=pure false:=by rfl)(hf:full=true\/sc.names.lookup x=some .local:=by first | exact eN rfl | exact cP rfl):
  SV X (.Assign [.Name x pos'] (.Call (.Attribute (.Name y p1) "pop" p2) [] [] aR) pos) (sk i j):=b1H h.Gs (h.ix hN) (h.loc hx) (h.ix Rx) (h.r0 hv) hd dN cZ cX hs (h.Gm hf)
theorem Fx.item(h:Fx X N sc k full)(i:Nat){x:Str}(ha:EV X e fa)(hb:EV X b fb)(hN:N[i]?=some x:=by rfl)(hv:jS sc x:=by first | exact eN rfl | exact cP (eN rfl) | exact cP (cP rfl))(hd:(x==("__debug__":Str))=false:=by rfl)
  (dN:(x==("__classdict__":Str))=false:=by rfl)
  (wW:∀v,assign (.Subscript (.Name x p1) b p2) X.env v=(do
   let ov <-holding [v] (eval (.Name x p1) X.env)
   let iv <-holding [v,ov] (eval b X.env)
   standAt p2
   holding [v,ov,iv] (setItem ov iv v)
   release [v,ov,iv] []):=by intro _;rfl)
  (hs:swapsWithSole [.Subscript (.Name x p1) b p2] e pos.line X.env=pure false:=by rfl)(hw:swappedStores [.Subscript (.Name x p1) b p2] e X.env=pure none:=by rfl)
  (h1:(assignEach [.Subscript (.Name x p1) b p2] X.env).map (·.2)=[assign (.Subscript (.Name x p1) b p2) X.env]:=by rfl):
  SV X (.Assign [.Subscript (.Name x p1) b p2] e pos) (Hc i fa fb):=b5E ha hb (h.ix hN) (h.r0 hv) hd dN wW hs hw h1
end
theorem Jv{us:List Value}(h:us.length=0):us=[]:=by
 exact Lb.mp h
theorem b6u{us:List Value}(h:us.length=1):∃a0,us=[a0]:=by
 cases us with
 | nil=>cases h
 | cons a r =>
  have:=Jv (us:=r) (by simpa using h)
  exact ⟨a,by rw [this]⟩
theorem b6t{us:List Value}(h:us.length=2):∃a0 a1,us=[a0,a1]:=by
 cases us with
 | nil=>cases h
 | cons a r =>
  have:=b6u (us:=r) (by simpa using h)
  obtain ⟨b0,e⟩:=this
  exact ⟨a,b0,by rw [e]⟩
theorem b6s{us:List Value}(h:us.length=3):∃a0 a1 a2,us=[a0,a1,a2]:=by
 cases us with
 | nil=>cases h
 | cons a r =>
  have:=b6t (us:=r) (by simpa using h)
  obtain ⟨b0,b1,e⟩:=this
  exact ⟨a,b0,b1,by rw [e]⟩
theorem b8E{us:List Value}(h:us.length=4):∃a0 a1 a2 a3,us=[a0,a1,a2,a3]:=by
 cases us with
 | nil=>cases h
 | cons a r =>
  have:=b6s (us:=r) (by simpa using h)
  obtain ⟨b0,b1,b2,e⟩:=this
  exact ⟨a,b0,b1,b2,by rw [e]⟩
section
variable {P:Program}{w:World}{K:aQ}{mg:Str->Option Value}{base:Heap}
theorem Kj{x qual:Str}{st:Stmt}{f:Addr}{fd:FuncData}{N ps:List Str}{k:Nat}{F:SF}(Fn:A4 K x qual st f fd)(S:de N ps (gk st))
  (cY:∀X:Cx,X.prog=P->X.w=w->X.K=K->X.mg=mg->X.base=base->Fx X N (gk st) k->ur X (jW st) F):cR P w K mg base jY (k+1) f fd ps (wb K ps.length (bT F N.length)):=
 RL Fn S λgf A outer s H E hr=>cY _ rfl rfl rfl rfl rfl ⟨rfl,rfl,rfl,λ_ _=>rfl,Nu,hr,S.nd,λ_=>⟨rfl,rfl,rfl⟩⟩
end
def Oz(P:Program)(w:World)(K:aQ)(mg:Str->Option Value)(base:Heap)(x:Str)(st:Stmt)(ps:List Str)(j:Nat)(φ:List D->Option Sl):Prop:=∃f fd,Def K mg x st ps f fd/\cR P w K mg base jY j f fd ps (wb K ps.length φ)
inductive Sx:Cx->Program->World->aQ->(Str->Option Value)->Heap->Prop
 | mk (X:Cx):Sx X X.prog X.w X.K X.mg X.base
theorem Ki{P:Program}{w:World}{K:aQ}{mg:Str->Option Value}{base:Heap}{x:Str}{st:Stmt}{f:Addr}{fd:FuncData}{N ps:List Str}{k:Nat}{F:SF}(D':Def K mg x st ps f fd)
  (cY:∀X:Cx,Sx X P w K mg base->Fx X N (gk st) k->ur X (jW st) F)(S:de N ps (gk st):=by exact ⟨rfl,rfl,rfl,by decide +kernel,rfl,by decide +kernel,by decide +kernel⟩):cR P w K mg base jY (k+1) f fd ps (wb K ps.length (bT F N.length)):=
 Kj D'.fn S λX e1 e2 e3 e4 e5=>by subst e1 e2 e3 e4 e5;exact cY X (.mk X)
theorem fH{P:Program}{w:World}{K:aQ}{mg:Str->Option Value}{base:Heap}{x:Str}{st:Stmt}{f:Addr}{fd:FuncData}{N ps:List Str}{k:Nat}{F:SF}(D':Def K mg x st ps f fd)
  (cY:∀X:Cx,Sx X P w K mg base->Fx X N (gk st) k->ur X (jW st) F)(S:de N ps (gk st):=by exact ⟨rfl,rfl,rfl,by decide +kernel,rfl,by decide +kernel,by decide +kernel⟩):Oz P w K mg base x st ps (k+1) (bT F N.length):=
 ⟨f,fd,D',Ki D' cY S⟩
theorem Fx.cl{X:Cx}{N:List Str}{sc:Scope}{k j:Nat}{full:Bool}{x:Str}{st:Stmt}{ps:List Str}{φ:List D->Option Sl}{e:Expr}{es:List Expr}{fs:En->Option (List D)}{p pos:Pos}(h:Fx X N sc k full)(O:Oz X.prog X.w X.K X.mg X.base x st ps j φ)(ha:AV X (e::es) fs)(hj:j<=k:=by decide)(hg:sc.names.lookup x=some .globalImplicit:=by rfl)(lz:(x==("__debug__":Str))=false:=by decide)(he:starEach (e::es) X.env=(false,eval e X.env)::starEach es X.env:=by rfl)(g8:(backTo pos (starEach es X.env)).any (·.1)=false:=by rfl):
  EV X (.Call (.Name x p) (e::es) [] pos) (cK ps.length φ fs):=by
 obtain ⟨f,fd,D',F⟩:=O
 exact b6R F (h.room.mono hj) (h.g hg) D'.m D'.fn.kp D'.bd ha lz he g8
structure FI(K:aQ)(n:Str)(t:Stmt)(f:Addr)(od an:Option Addr)(sl:Array (Option Value))(oc kV dc pm cd ct:Value):Prop where
 a:nR K mainGlobals n=some (some (.ref f))
 l:K.lookup f=some ⟨oc,od,.func (nS n n (o8 t) (jW t) (gk t) .none kV dc pm an cd ct),sl⟩
 c:KI K cd n=true
 k:BG K (.ref f)=true
section
variable {K:aQ}{mg:Str->Option Value}{h:Heap}{n:Str}{t:Stmt}{f:Addr}{od an:Option Addr}{sl:Array (Option Value)}{oc kV dc pm cd ct:Value}{ps:List Str}
theorem MF(X:K.In h)(G:h.Ns mainGlobals mg)(i:FI K n t f od an sl oc kV dc pm cd ct)(hb:∀(kV doc pm:Value) (an:Option Addr) (gf ct:Value) (us:List Value),us.length=ps.length->bindArgs (nS n n (o8 t) (jW t) (gk t) .none kV doc pm an gf ct) ⟨us,[]⟩=pure (ps.zip us)):Def K mg n t ps f (nS n n (o8 t) (jW t) (gk t) .none kV dc pm an cd ct):=
 ⟨Oa i.l i.c i.k,(Oa i.l i.c i.k).binds hb,rK X G i.a⟩
theorem Ab(X:K.In h)(G:h.Ns mainGlobals mg)(i:FI K n t f od an sl oc kV dc pm cd ct)(hb:∀(kV doc pm:Value) (an:Option Addr) (gf ct a0:Value),bindArgs (nS n n (o8 t) (jW t) (gk t) .none kV doc pm an gf ct) ⟨[a0],[]⟩=pure (ps.zip [a0]):=by intros;rfl)(hl:ps.length=1:=by rfl):Def K mg n t ps f (nS n n (o8 t) (jW t) (gk t) .none kV dc pm an cd ct):=
 MF X G i λ_ _ _ _ _ _ us hu=>by obtain ⟨_,rfl⟩:=b6u (hu.trans hl);exact hb ..
theorem j7(X:K.In h)(G:h.Ns mainGlobals mg)(i:FI K n t f od an sl oc kV dc pm cd ct)(hb:∀(kV doc pm:Value) (an:Option Addr) (gf ct a0 a1:Value),bindArgs (nS n n (o8 t) (jW t) (gk t) .none kV doc pm an gf ct) ⟨[a0,a1],[]⟩=pure (ps.zip [a0,a1]):=by intros;rfl)(hl:ps.length=2:=by rfl):Def K mg n t ps f (nS n n (o8 t) (jW t) (gk t) .none kV dc pm an cd ct):=
 MF X G i λ_ _ _ _ _ _ us hu=>by obtain ⟨_,_,rfl⟩:=b6t (hu.trans hl);exact hb ..
theorem qa(X:K.In h)(G:h.Ns mainGlobals mg)(i:FI K n t f od an sl oc kV dc pm cd ct)(hb:∀(kV doc pm:Value) (an:Option Addr) (gf ct a0 a1 a2:Value),bindArgs (nS n n (o8 t) (jW t) (gk t) .none kV doc pm an gf ct) ⟨[a0,a1,a2],[]⟩=pure (ps.zip [a0,a1,a2]):=by intros;rfl)(hl:ps.length=3:=by rfl):Def K mg n t ps f (nS n n (o8 t) (jW t) (gk t) .none kV dc pm an cd ct):=
 MF X G i λ_ _ _ _ _ _ us hu=>by obtain ⟨_,_,_,rfl⟩:=b6s (hu.trans hl);exact hb ..
theorem Jm(X:K.In h)(G:h.Ns mainGlobals mg)(i:FI K n t f od an sl oc kV dc pm cd ct)(hb:∀(kV doc pm:Value) (an:Option Addr) (gf ct a0 a1 a2 a3:Value),bindArgs (nS n n (o8 t) (jW t) (gk t) .none kV doc pm an gf ct) ⟨[a0,a1,a2,a3],[]⟩=pure (ps.zip [a0,a1,a2,a3]):=by intros;rfl)(hl:ps.length=4:=by rfl):Def K mg n t ps f (nS n n (o8 t) (jW t) (gk t) .none kV dc pm an cd ct):=
 MF X G i λ_ _ _ _ _ _ us hu=>by obtain ⟨_,_,_,_,rfl⟩:=b8E (hu.trans hl);exact hb ..
end
end DL
namespace DL
open PySem L2
theorem b8W(i j:Int):jf (.int i) (.int j)=some (.sh (.int (i-j))):=rfl
end DL
namespace DL
open PySem PySem.Spec PyProof.Rows L2
def N7(K:aQ)(O:Addr->Prop)(J:It)(H:Hp)(ds:List D):Prop:=
 ∀(O':Addr->Prop) (H2:Hp),(∀q u,H q=some u->¬O q->H2 q=some u/\¬O' q)->(∀q,O' q->H2 q≠none) ->
  ∀i:Nat,(∀d,ds[i]?=some d->J.go i H2/\∀x H3,J.Ey i H2 x H3->aG H2 H3/\Is K O' H3 x d)/\(ds.length<=i->J.stop i H2)
def IV(X:Cx)(tg it:Expr)(f:En->Option (List D)):Prop:=
 ∃wi:TI,PI X tg it wi/\∀(O:Addr->Prop) (B:Hp) (σ:L2.St) (H:Hp) (env:En) (ds:List D) (R:It->Hp->Prop),Rel X.K O B σ H env->f env=some ds ->
  (∀J H',aG H H'->N7 X.K (OO O σ env) J H' ds->R J H')->wi σ H R
theorem b5K{K:aQ}{O:Addr->Prop}{H H2:Hp}{k:Bool}{p:Addr}{xs:List V}(kp:∀q u,H q=some u->¬O q->H2 q=some u)(h:Sq K H k p xs)(hp:¬O p):Sq K H2 k p xs:=by
 cases k with
 | true =>
  rcases h with (h | ⟨o,h⟩) | h
  .exact .inl (.inl (kp _ _ h hp))
  .exact .inl (.inr ⟨o,kp _ _ h hp⟩)
  .exact .inr h
 | false =>
  rcases h with (h | ⟨o,h⟩) | h
  .exact .inl (.inl (kp _ _ h hp))
  .exact .inl (.inr ⟨o,kp _ _ h hp⟩)
  .exact .inr h
noncomputable def jh(f:En->Option Sl):En->Option (List D):=λenv=>(f env).bind λr=>(j0 r.d).map (·.2)
section
variable {X:Cx}{tg it:Expr}{fa:En->Option Sl}
theorem BU(hi:EV X it fa):IV X tg it (jh fa):=by
 obtain ⟨ti,pi,ki⟩:=hi
 refine ⟨_,Za pi,λO B σ H env ds R Rl e q=>?_⟩
 obtain ⟨r,e1,e2⟩:=bind_some e
 obtain ⟨⟨k,ds'⟩,e4,e5⟩:=map_some e2
 cases e5
 refine ki O B σ H env r _ Rl e1 λv H1 s1 r1=>?_
 obtain ⟨p,xs,rfl,h1,h2,h3⟩:=(r1.is λq=>Rl.oo).IB e4
 refine ⟨p,rfl,?_⟩
 have key:∀(O':Addr->Prop) (H2:Hp),(∀q u,H1 q=some u->¬OO O σ env q->H2 q=some u/\¬O' q)->Sq X.K H2 k p xs/\bx X.K O' H2 xs ds':=λO' H2 kp=>by
  refine ⟨?_,h2.map (λq hq hn=>?_) λq u e n=>(kp q u e n).1⟩
  .rcases h3 with h3 | h3
   .exact b5K (λq u e n=>(kp q u e n).1) h1 h3
   .exact h3 H2
  .cases e:H1 q with
   | none=>exact (hq e).elim
   | some u=>exact (kp q u e hn).2
 cases k with
 | true =>
  refine .inl ⟨⟨xs,h1⟩,q _ H1 s1 λO' H2 kp hO i=>⟨λd hd=>?_,λhl=>?_⟩⟩
  .obtain ⟨hq,hs⟩:=key O' H2 kp
   obtain ⟨x,hx,yR⟩:=hs.get hd
   refine ⟨⟨xs,x,hq,hx⟩,λy H3 hy=>?_⟩
   obtain ⟨rfl,hy⟩:=hy
   have:=hy xs hq
   rw [hx] at this
   cases this
   exact ⟨aG.refl _,yR⟩
  .obtain ⟨hq,hs⟩:=key O' H2 kp
   exact ⟨xs,hq,by rw [hs.length];exact hl⟩
 | false =>
  refine .inr ⟨⟨xs,h1⟩,q _ H1 s1 λO' H2 kp hO i=>⟨λd hd=>?_,λhl=>?_⟩⟩
  .obtain ⟨hq,hs⟩:=key O' H2 kp
   obtain ⟨x,hx,yR⟩:=hs.get hd
   refine ⟨⟨xs,x,hq,hx⟩,λy H3 hy=>?_⟩
   obtain ⟨rfl,hy⟩:=hy
   have:=hy xs hq
   rw [hx] at this
   cases this
   exact ⟨aG.refl _,yR⟩
  .obtain ⟨hq,hs⟩:=key O' H2 kp
   exact ⟨xs,hq,by rw [hs.length];exact hl⟩
theorem ZV{K:aQ}{O:Addr->Prop}{H:Hp}(lo:Int)(n:Nat):N7 K O (v9 lo n) H (iL lo n):=λO' H2 _ _ i=>by
 refine ⟨λd hd=>?_,λhl=>show n<=i by simpa [iL] using hl⟩
 unfold iL at hd
 rw [vL] at hd
 obtain ⟨k,hk,rfl⟩:=map_some hd
 obtain ⟨hi,rfl⟩:=xO.mp hk
 rw [List.length_range] at hi
 refine ⟨hi,λx H3 hy=>?_⟩
 obtain ⟨rfl,rfl⟩:=hy
 rw [List.getElem_range]
 exact ⟨aG.refl _,Is.int _⟩
noncomputable def w5(h:List D->Option (List D))(f:En->Option (List D)):En->Option (List D):=λenv=>(f env).bind h
noncomputable def T8(f:En->Option (List D))(g:GF)(F:SF):SF:=λenv=>(f env).bind λds=>forL g F ds env
theorem b5F(hp:PassesOwn (model X.prog X.w) X.A X.env X.xe)(hc:X.calm=true)(hi:IV X tg it fi)(hg:GV X tg g)(hb:ur X body F)
  (hs:∀x,foldedSetIterable it X.env x=pure x:=by intro _;rfl):SV X (.For tg it body [] pos) (T8 fi g F):=by
 obtain ⟨wi,pi,ki⟩:=hi
 obtain ⟨B2,pg,kg⟩:=hg
 obtain ⟨tb,pb,kb⟩:=hb
 refine ⟨_,Uo hp hc pi pg pb hs,λO B σ H env fl ak D R e q=>?_⟩
 obtain ⟨ds,e1,e2⟩:=bind_some e
 refine ki O B σ H env ds _ R e1 λJ H1 s1 wk=>?_
 have q':g7 X.K O B σ H1 env D fl ak:=q.from (Gd.refl s1)
 refine ⟨λi m fO H2=>m=ds.length-i/\i<=ds.length/\Left X.K O B σ H1 env g F ds fl ak i fO H2,⟨ds.length,by simp,AE _,⟨env,R.grow s1,Gd.refl (aG.refl _),e2⟩⟩,?_⟩
 rintro i m fO H2 ⟨rfl,hi,L⟩
 obtain ⟨cV,R2,gd,ee⟩:=id L
 have w:=wk (OO O fO cV) H2 (λa u ea na=>by
  obtain ⟨h1,h2⟩:=gd a u ea λz=>na (.inr z)
  exact ⟨h1,λz=>z.elim (λz=>na (.inl z)) h2⟩) (λa=>R2.oo) i
 by_cases cU:i<ds.length
 .obtain ⟨go,yl⟩:=w.1 ds[i] (by simp [cU])
  refine .inr ⟨go,Left X.K O B σ H1 env g F ds fl ak (i+1),λbz H' p'=>⟨ds.length-(i+1),by ext cU,rfl,cU,p'⟩,λx H3 hy=>?_⟩
  obtain ⟨s3,hx⟩:=yl x H3 hy
  have tH:ds.drop i=ds[i]::ds.drop (i+1):=AH cU
  rw [tH,forL] at ee
  cases Ro:g ds[i] cV with
  | none=>rw [Ro] at ee;cases ee
  | some tJ =>
   rw [Ro] at ee
   refine kg O B fO H3 cV tJ x ds[i] _ (R2.grow s3) hx Ro λσ4 H4 R4 g4=>?_
   dsimp only at ee
   cases hF:F tJ with
   | none=>rw [hF] at ee;cases ee
   | some y =>
    obtain ⟨f2,lA⟩:=y
    rw [hF] at ee
    have RD:=gd.trans ((Gd.refl s3).trans g4)
    refine kb O B σ4 H4 tJ f2 lA _ R4 hF ?_
    cases f2 with
    | nx=>exact λP0 H5 R5 g5=>⟨lA,R5,RD.trans g5,ee⟩
    | ct=>exact λP0 H5 R5 g5=>⟨lA,R5,RD.trans g5,ee⟩
    | bk=>cases ee;exact λP0 H5 R5 g5=>q' P0 H5 R5 (RD.trans g5)
    | rt r=>cases ee;exact q'
 .exact .inl ⟨w.2 (by ext cU),OG (by ext cU) q' L⟩
end
noncomputable def rl(eT sc:Scope):Scope:=
 { eT with names:=eT.names.map λ(n,k)=>if (k==.free&&sc.kind==.function&&sc.names.lookup n==some .cell) then (n,.cell) else (n,k) }
theorem Vh{sc:Scope}:∀{names:List (Str×NameKind)} {x:Str} {k:NameKind},names.lookup x=some k ->
  (names.map λ(n,k)=>if (k==xP&&sc.kind==.function&&sc.names.lookup n==some .cell) then (n,FC) else (n,k)).lookup x=some (if (k==xP&&sc.kind==.function&&sc.names.lookup x==some .cell) then FC else k)
 | [],_,_,h=>by simp at h
 | (n,k')::r,x,k,h=>by
  have ih:=@Vh sc r x k
  show CS x ((if (k'==xP&&sc.kind==.function&&sc.names.lookup n==some .cell)=true then (n,FC) else (n,k'))::_)=_
  cases hx:x==n with
  | true =>
   simp only [qy,hx] at h
   cases h
   have e:x=n:=by simpa using hx
   subst e
   split<;>simp [qy]
  | false =>
   simp only [qy,hx] at h
   split
   .simp only [qy,hx];exact ih h
   .simp only [qy,hx];exact ih h
theorem b1p{sc:Scope}:∀{names:List (Str×NameKind)} {x:Str} {k:NameKind},
  (names.map λ(n,k)=>if (k==xP&&sc.kind==.function&&sc.names.lookup n==some .cell) then (n,FC) else (n,k)).lookup x=some k->∃k',names.lookup x=some k'/\k=if (k'==xP&&sc.kind==.function&&sc.names.lookup x==some .cell) then FC else k'
 | names,x,k,h=>by
  cases e:names.lookup x with
  | some k'=>have:=Vh (sc:=sc) e;rw [h] at this;exact ⟨k',rfl,gz this⟩
  | none =>
   exfalso
   induction names with
   | nil=>simp at h
   | cons y r ih =>
    obtain ⟨n,k'⟩:=y
    have h':CS x ((if (k'==xP&&sc.kind==.function&&sc.names.lookup n==some .cell)=true then (n,FC) else (n,k'))::(r.map λ(n,k)=>if (k==xP&&sc.kind==.function&&sc.names.lookup n==some .cell) then (n,FC) else (n,k)))=some k:=h
    cases hx:x==n with
    | true=>simp [qy,hx] at e
    | false =>
     simp only [qy,hx] at e
     apply ih _ e
     split at h'
     .simpa only [qy,hx] using h'
     .simpa only [qy,hx] using h'
noncomputable def jI(cells:List (Str×Addr)):List (Str×NameKind)->List (Str×Addr)->List (Str×Addr)
 | [],acc=>acc
 | (n,k)::r,acc=>jI cells r (if k==.free then (n,(cells.lookup n).getD 0)::acc else acc)
theorem Vu:∀(names:List (Str×NameKind)) (acc:List (Str×Addr)),(∀y∈names,y.2=.free->∃c,env.cells.lookup y.1=some c) ->
  (forIn names acc λ(x:Str×NameKind) r=>(if (x.2==.free)=true then do let a <-cellOf env x.1;pure (BH ((x.1,a)::r)) else pure (BH r):Sem (ForInStep (List (Str×Addr)))))=pure (jI env.cells names acc)
 | [],acc,_=>rfl
 | (n,k)::r,acc,h=>by
  rw [List.forIn_cons]
  have hr:∀y∈r,y.2=.free->∃c,env.cells.lookup y.1=some c:=λy hy=>h y (jU _ hy)
  cases hk:k==xP with
  | true =>
   have ek:k=.free:=by simpa using hk
   obtain ⟨c,hc⟩:=h (n,k) jL ek
   replace hc:env.cells.lookup n=some c:=hc
   have hce:cellOf env n=pure c:=by unfold cellOf;rw [hc]
   simp only [if_true]
   rw [hce]
   simp only [pure_bind]
   rw [Vu r _ hr]
   conv=>rhs;unfold jI
   rw [hk,hc]
   rfl
  | false =>
   simp only [DX,if_false,pure_bind]
   rw [Vu r _ hr]
   conv=>rhs;unfold jI
   rw [hk]
   rfl
theorem a8k(h:∀y∈sc.names,y.2=.free->∃c,env.cells.lookup y.1=some c):closureFor sc env=pure (jI env.cells sc.names []):=by
 unfold closureFor
 rw [<-Vu sc.names [] h]
 show (forIn sc.names [] _ >>= λcs=>pure cs)=_
 rw [bind_pure]
theorem b0L:∀(names:List (Str×NameKind)) (acc:List (Str×Addr)) {c:Addr},(jI cells names acc).lookup x=some c->acc.lookup x=some c\/((x,xP)∈names/\c=(cells.lookup x).getD 0)
 | [],acc,c,h=>.inl h
 | (n,k)::r,acc,c,h=>by
  unfold jI at h
  rcases b0L r _ h with h1 | ⟨h,e⟩
  .clear h
   have h:=h1
   clear h1
   cases hk:k==xP with
   | false=>rw [hk] at h;exact .inl (by simpa using h)
   | true =>
    rw [hk] at h
    simp only [if_true] at h
    have ek:k=.free:=by simpa using hk
    cases hx:x==n with
    | true =>
     simp only [qy,hx] at h
     have e:x=n:=by simpa using hx
     subst e ek
     exact .inr ⟨jL,(gz h).symm⟩
    | false =>
     simp only [qy,hx] at h
     exact .inl h
  .exact .inr ⟨jU _ h,e⟩
theorem a9e:∀(names:List (Str×NameKind)) (acc:List (Str×Addr)),((∃c,acc.lookup x=some c)\/(x,xP)∈names)->∃c,(jI cells names acc).lookup x=some c
 | [],acc,h=>h.elim id λz=>nomatch z
 | (n,k)::r,acc,h=>by
  unfold jI
  refine a9e r _ ?_
  cases hk:k==xP with
  | false =>
   rcases h with h | h
   .exact .inl (by simpa using h)
   .rcases fB.mp h with e | h
    .cases e;simp at hk
    .exact .inr h
  | true =>
   simp only [if_true]
   cases hx:x==n with
   | true=>exact .inl ⟨_,by simp only [qy,hx];rfl⟩
   | false =>
    rcases h with ⟨c,h⟩ | h
    .exact .inl ⟨c,by simp only [qy,hx];exact h⟩
    .rcases fB.mp h with e | h
     .cases e;simp at hx
     .exact .inr h
structure fN(N:List Str)(sc:Scope)(N':List Str)(caps:List Nat)(nt:Nat)(eT:Scope):Prop where
 kind:eT.kind=.function
 loc:∀y∈eT.names,y.2=.local->eT.names.lookup y.1=some .local
 Aa:∀y∈eT.names,y.2≠.cell
 free:∀y∈eT.names,y.2=.free->sc.names.lookup y.1=some .cell\/sc.names.lookup y.1=some .free
 nd:N'.Nodup
 len:N'.length=nt+caps.length
 cap:caps.map (λi=>N[i]?)=(N'.drop nt).map some
 fr:∀x∈N'.drop nt,eT.names.lookup x=some .free
theorem VS{names:List (Str×NameKind)}{x:Str}(h:names.lookup x=some k):(x,k)∈names:=G4 h
noncomputable def nP:List Nat->En->Option En
 | [],_=>some []
 | i::is,env=>match env[i]? with
  | some (.sh d)=>(nP is env).map (Sl.sh d::·)
  | _=>none
noncomputable def rO(g:GF)(fc:En->Option Bool)(fe:En->Option Sl):List D->En->Option (List D)
 | [],_=>some []
 | d::ds,e=>(g d e).bind λe1=>(fc e1).bind λb=>if b=true then (fe e1).bind λr=>(rO g fc fe ds e1).bind λrs=>some (r.d::rs) else rO g fc fe ds e1
noncomputable def lQ(fi:En->Option (List D))(caps:List Nat)(nt:Nat)(g:GF)(fc:En->Option Bool)(fe:En->Option Sl):En->Option Sl:=λenv =>
 (fi env).bind λds=>(nP caps env).bind λcs=>if ds.length<=16777216 then (rO g fc fe ds (oa nt Sl.no++cs)).map Sl.ow else none
noncomputable def iO:List Nat->L2.St->L2.St
 | [],_=>[]
 | i::is,σ=>(σ[i]?).getD none::iO is σ
theorem ZE{K:aQ}{O:Addr->Prop}{B:Hp}{σ:L2.St}{H:Hp}{env:En}(R:Rel K O B σ H env):∀{caps:List Nat} {cs:En},nP caps env=some cs->cs.length=caps.length/\(iO caps σ).length=caps.length /\
  ∀(j:Nat) (s:Sl),cs[j]?=some s->∃(d:D) (v:V) (i:Nat),s=Sl.sh d/\(iO caps σ)[j]?=some (some v)/\Is K (OO O σ env) H v d/\caps[j]?=some i/\σ[i]?=some (some v)
 | [],cs,e=>by cases e;exact ⟨rfl,rfl,λj s h=>by simp at h⟩
 | i::is,cs,e=>by
  unfold nP at e
  cases h:env[i]? with
  | none=>rw [h] at e;cases e
  | some s =>
   rw [h] at e
   cases s with
   | no=>cases e
   | ow ds=>cases e
   | dw ds=>cases e
   | tw _ _=>cases e
   | sh d =>
    obtain ⟨cs',e1,rfl⟩:=map_some (show (nP is env).map (Sl.sh d::·)=some cs from e)
    obtain ⟨l1,l2,ih⟩:=ZE R e1
    obtain ⟨v,hv,hi⟩:=R.sh i d h
    refine ⟨by simp [l1],by simp [iO,l2],λj s hj=>?_⟩
    cases j with
    | zero=>simp at hj;subst hj;exact ⟨d,v,i,rfl,by simp [iO,hv],hi,rfl,hv⟩
    | succ j =>
     obtain ⟨d',v',i',a1,a2,a3,a4,a5⟩:=ih j s (by simpa using hj)
     exact ⟨d',v',i',a1,by simpa [iO] using a2,a3,by simpa using a4,a5⟩
def Ms(X:Cx)(ifs:List Expr)(f:En->Option Bool):Prop:=
 ∃t:TT,(∀(pins:List (Addr×Obj)) (s:Shared) (σ:L2.St) (H:Hp) (Q:Bool->Hp->Prop),Inv X pins σ H s->t σ H Q ->
   wpAny (model X.prog X.w) X.A (forIn ifs true λc r=>if r=true then do let ok <-isTrue c X.env (eval c X.env);pure (BH ok) else pure (BH r)) (TP X pins σ Q) X.xe s) /\
  ∀(O:Addr->Prop) (B:Hp) (σ:L2.St) (H:Hp) (env:En) (b:Bool) (Q:Bool->Hp->Prop),Rel X.K O B σ H env->f env=some b->(∀H',aG H H'->Q b H')->t σ H Q
noncomputable def xY:En->Option Bool:=λ_=>some true
theorem F4:Ms X [] xY:=⟨λ_ H Q=>Q true H,λpins s σ H Q I h=>wpAny_tests_nil ⟨H,I,h⟩,λO B σ H env b Q R e q=>by cases e;exact q H (aG.refl _)⟩
theorem Oc(h:TV X c f):Ms X [c] f:=by
 obtain ⟨t,p,k⟩:=h
 exact ⟨t,λpins s σ H Q I h=>wpAny_tests_one (p pins s σ H Q I h),k⟩
section
variable {prog:Program}{w:World}{A:Around}{R:Result->Shared->Prop}{s:Shared}
theorem b0b{elt target iter:Expr}{ifs:List Expr}{scope:Scope}{pos:Pos}{it acc:Value}{env:Env}(I:Nat->Shared->Prop){N:Value->Shared->Prop}(hN:∀x s',N x s'->False)
  (turn:∀n s,I n s->wpAny (model prog w) A (pyNext it) (λr bA=>match r with
   | none=>R (.ok .next) bA
   | some v=>wpAny (model prog w) A (letOwnedTupleGo target it v) (λ_ Dv=>wpAny (model prog w) A (assign target env v) (λ_ dM =>
     wpAny (model prog w) A (forIn ifs true λc r=>if r=true then do let ok <-isTrue c env (eval c env);pure (BH ok) else pure (BH r)) (λok pV =>
      if ok=true then wpAny (model prog w) A (eval elt env) (λx Iv =>
       wpAny (model prog w) A (call (.builtin "list.append") [acc,x]) (λ_ Iu=>∃m,m<n/\I m Iu) N Iv) N pV
      else ∃m,m<n/\I m pV) N dM) N Dv) N bA) N s)
  (n:Nat)(h:I n s):
  codeAny (model prog w) A (.compLoop (.ListComp elt [⟨target,iter,ifs,0⟩] scope pos) 0 it acc env) R s:=by
 refine codeAny_loop rfl I (λn s hI=>?_) n h
 show wpAny _ A ((compTurn (.ListComp elt [⟨target,iter,ifs,0⟩] scope pos) 0 it acc env).onRaise (λx=>do noteFrame x env;theTreesLotGoes x)) _ _ s
 refine wpAny_noted ?_
 rw [compTurn_list]
 have no:∀{P:Value->Shared->Prop} (x:Value) (s':Shared),N x s'->P x s':=λx s' z=>(hN x s' z).elim
 refine aM (SR (aM (t5 (turn n s hI) (λr bA h₁=>?_) no)))
 cases r with
 | none=>exact cp h₁
 | some v =>
  refine aM (t5 h₁ (λ_ Dv JH=>?_) no)
  refine aM (t5 JH (λ_ dM tD=>aM (t5 tD (λok pV Cr=>?_) no)) no)
  cases ok with
  | false=>exact cp ⟨rfl,Cr⟩
  | true =>
   exact aM (aM (t5 Cr (λx Iv Q5=>aM (t5 Q5 (λ_ Iu Q4=>cp (cp ⟨rfl,Q4⟩)) no)) no))
end
section
variable {X:Cx}{N N':List Str}{sc eT:Scope}{k:Nat}{full:Bool}{elt iter tg:Expr}{ifs:List Expr}{pos:Pos}{fi:En->Option (List D)}{caps:List Nat}{nt:Nat}{g:GF}{fc:En->Option Bool}{fe:En->Option Sl}
noncomputable def DP(X:Cx)(N':List Str)(eT:Scope)(ex:List Addr)(s:Shared)(H:Hp):Cx where
 prog:=X.prog
 w:=X.w
 K:=X.K
 mg:=X.mg
 base:=X.base
 A:=X.A
 N:=N'
 fQ:=s
 A3:=H
 env:=compEnvC eT (jI X.env.cells eT.names []) s.heap.objs.size X.env
 outer:=X.stack
 stack:=X.stack
 ex:=ex
 fn:=λ_=>false
 calm:=true
 pn:=[]
 xe:=λ_ _=>False
theorem D8(C:fN N sc N' caps nt eT)(yQ:X.env.scope=sc){pins:List (Addr×Obj)}{σ:L2.St}{H:Hp}{s:Shared}(I:Inv X pins σ H s){x:Str}{c:Addr}(h:(jI X.env.cells eT.names []).lookup x=some c):X.env.cells.lookup x=some c:=by
 rcases b0L _ _ h with h | ⟨h,e⟩
 .simp at h
 .obtain ⟨c',DJ⟩:=I.ok.has x (by
   show X.env.scope.names.lookup x=_\/X.env.scope.names.lookup x=_
   rw [yQ]
   exact C.free _ h rfl)
  rw [DJ] at e
  rw [e];exact DJ
theorem YR(h:eT.names.lookup x=some .free):∃c,(jI X.env.cells eT.names []).lookup x=some c:=a9e _ _ (.inr (VS h))
theorem b4I(C:fN N sc N' caps nt eT)(yQ:X.env.scope=sc)(hc:X.calm=true){pins:List (Addr×Obj)}{σ:L2.St}{H:Hp}{s s3:Shared}{fp:List Addr}(I:Inv X pins σ H s)(I3:Inv X pins σ H s3)
  (hf:∀b∈fp,mm X pins H b)(JV:∀b∈fp,∃o,s3.heap.get? b=some o)(hs:s3.heap.objs.size=s.heap.objs.size+1):(DP X N' eT (s.heap.objs.size::fp) s3 H).Ok:=by
 have small:∀x c,X.env.cells.lookup x=some c->c<s.heap.objs.size:=λx c e=>by
  obtain ⟨v,z⟩:=I.cell x c e
  exact z.lt
 have kd:∀x,((DP X N' eT (s.heap.objs.size::fp) s3 H).env.kindOf x=some .cell\/(DP X N' eT (s.heap.objs.size::fp) s3 H).env.kindOf x=some .free)->eT.names.lookup x=some .free:=λx h=>by
  have h':∃k,(rl eT X.env.scope).names.lookup x=some k/\(k=.cell\/k=.free):=h.elim (λz=>⟨_,z,.inl rfl⟩) λz=>⟨_,z,.inr rfl⟩
  obtain ⟨k,e,hk⟩:=h'
  obtain ⟨k',e1,e2⟩:=b1p e
  have nc:k'≠.cell:=C.Aa _ (VS e1)
  by_cases DI:(k'==xP&&X.env.scope.kind==.function&&X.env.scope.names.lookup x==some .cell)=true
  .have:k'=.free:=by
    have:=(DV _ _▸(DV _ _▸DI).1).1
    simpa using this
   rw [e1,this]
  .rw [if_neg DI] at e2
   subst e2
   rcases hk with rfl | rfl
   .exact (nc rfl).elim
   .exact e1
 refine ⟨I.ok.mod,C.kind,I.ok.glob,I.ok.blt,cT _,λx y c h1 h2=>I.ok.inj x y c (D8 C yQ I h1) (D8 C yQ I h2),λx h=>YR (kd x h),λ_ _ (z:false=true) _=>(nomatch z),λ_=>I.ok.hd hc,I.ok.frames,.inl rfl,λb hb=>⟨?_,λx c e=>?_⟩,λb o e=>?_,?_,λb o e hb=>?_,λb hb DG=>?_,I3.stack,λb hb=>I.uy b hb⟩
 .show b≠s3.heap.objs.size
  rcases fB.mp hb with rfl | hb
  .rw [hs];exact iE (qz _)
  .obtain ⟨o,e⟩:=JV b hb
   exact iE (fI e)
 .have e':=D8 C yQ I e
  rcases fB.mp hb with rfl | hb
  .exact iE (small x c e')
  .exact (hf b hb).2.2.2.2.1 x c e'
 .exact I3.bs b o e
 .exact l9 I.ok.C4 I3.sz
 .have lt:b<X.base.objs.size:=fI e
  have h0:=I.ok.C4
  have h1:=I.sz
  rcases fB.mp hb with rfl | hb
  .exact absurd (o3 lt (l9 h0 h1)) (AB _)
  .rcases (hf b hb).2.2.2.1 with z | z
   .exact I.ok.z9 b o e z
   .exact absurd (o3 lt (l9 h0 z)) (AB _)
 .rcases fB.mp hb with rfl | hb
  .obtain ⟨_,o,ho,_⟩:=I.stack.mem DG
   exact absurd (fI ho) (AB _)
  .rcases fB.mp (I.oC b DG) with z | z
   .exact (hf b hb).2.1 z
   .exact (hf b hb).2.2.1 z
theorem Ou{α:Type}{n j:Nat}{x y:α}{l:List α}(h:(oa n x++l)[j]?=some y):y=x\/(n<=j/\l[j-n]?=some y):=by
 by_cases hj:j<n
 .rw [FO (by simpa using hj),GZ,if_pos hj] at h
  exact .inl (gz h).symm
 .rw [C2 (by simpa using hj),Nw] at h
  exact .inr ⟨by ext hj,h⟩
theorem b3g(C:fN N sc N' caps nt eT)(yQ:X.env.scope=sc)(hN:X.N=N)(hc:X.calm=true){pins:List (Addr×Obj)}{σ:L2.St}{H:Hp}{s s3 s4:Shared}{fp:List Addr}(I:Inv X pins σ H s)(I3:Inv X pins σ H s3)
  (hf:∀b∈fp,mm X pins H b)(JV:∀b∈fp,∃o,s3.heap.get? b=some o)(hs:s3.heap.objs.size=s.heap.objs.size+1)
  (E8:s4.os=s3.os)(hg:s4.gens=s3.gens)(hk:∀b o,s3.heap.get? b=some o->s4.heap.get? b=some o)(Gx:s4.heap.Ns s3.heap.objs.size λ_=>none):
  Inv (DP X N' eT (s.heap.objs.size::fp) s3 H) [] (oa nt none++iO caps σ) H s4:=by
 have sl:∀(caps:List Nat) (σ:L2.St),(iO caps σ).length=caps.length:=λcaps σ=>by
  induction caps with
  | nil=>rfl
  | cons i r ih=>simp [iO,ih]
 have sg:∀(caps:List Nat) (σ:L2.St) (j:Nat) (v:V),(iO caps σ)[j]?=some (some v)->∃i,caps[j]?=some i/\σ[i]?=some (some v):=λcaps σ=>by
  induction caps with
  | nil=>intro j v h;simp [iO] at h
  | cons i r ih =>
   intro j v h
   cases j with
   | zero =>
    have h':(σ[i]?).getD none=some v:=by simpa [iO] using h
    refine ⟨i,rfl,?_⟩
    cases e:σ[i]? with
    | none=>rw [e] at h';cases h'
    | some o=>rw [e] at h';exact congrArg some h'
   | succ j =>
    obtain ⟨i',e1,e2⟩:=ih j v (by simpa [iO] using h)
    exact ⟨i',by simpa using e1,e2⟩
 refine ⟨b4I C yQ hc I I3 hf JV hs,E8,by rw [hg];exact I3.bare,Un.kept hk,⟨_,Gx,λi x v h1 h2 h3=>?_⟩,λx c e=>?_,I3.cw.fresh (cT _),λx c e=>I3.jg x c (D8 C yQ I e),λp hp=>absurd (show p∈([]:List (Addr×Obj)) from hp) (by simp),I3.cw.kept hk,?_⟩
 .have h1:N'[i]?=some x:=h1
  rcases Ou h2 with z | ⟨hi,h2⟩
  .cases z
  .obtain ⟨i',e1,e2⟩:=sg caps σ _ v h2
   have hd:(N'.drop nt)[i-nt]?=some x:=by rw [List.getElem?_drop,Nat.add_sub_cancel' hi];exact h1
   have hm:=congrArg (λl=>l[i-nt]?) C.cap
   simp only [vL,e1,hd,Sy] at hm
   have hN':X.N[i']?=some x:=by rw [hN];exact gz hm
   have Rp:=C.fr x (S4 hd)
   have kn:=C.free _ (VS Rp) rfl
   obtain ⟨m,hn,hl⟩:=I3.loc
   obtain ⟨u,r,l⟩:=hl i' x v hN' e2 (by rw [yQ];exact .inr kn)
   refine ⟨u,r,.inr ⟨?_,?_⟩⟩
   .have e:=Vh (sc:=X.env.scope) Rp
    show (rl eT X.env.scope).names.lookup x=_\/(rl eT X.env.scope).names.lookup x=_
    have e':(rl eT X.env.scope).names.lookup x=_:=e
    rw [e']
    split
    .exact .inl rfl
    .exact .inr rfl
   .rcases l with ⟨k,_⟩ | ⟨k,c,e,z⟩
    .exfalso
     have k:X.env.scope.names.lookup x=some .local:=k
     rw [yQ] at k
     dsimp only at kn
     rw [k] at kn
     rcases kn with z | z<;>cases z
    .obtain ⟨c',DJ⟩:=YR (X:=X) Rp
     have:=D8 C yQ I DJ
     rw [e] at this
     cases this
     exact ⟨c,DJ,z.keeps hk⟩
 .obtain ⟨v,z⟩:=I3.cell x c (D8 C yQ I e)
  exact ⟨v,z.keeps hk⟩
 .show (oa nt none++iO caps σ).length=N'.length
  rw [fZ,Nw,sl,C.len]
theorem b3t(r:aV xs us):xs.length=us.length:=r.length
theorem b3f{pins pl:List (Addr×Obj)}{σ bz:L2.St}{H2 H':Hp}{s2 s3 s1:Shared}{fp:List Addr}{h':Heap}{xs:List V}{ys:List Value}(I2:Inv X pins σ H2 s2)(MN:s3.os=s2.os)(J':∀b o,s2.heap.get? b=some o->s3.heap.get? b=some o)
  (hsz:s3.heap.objs.size=s2.heap.objs.size+1)(f2:∀b∈fp,mm X pins H2 b)(I':Inv (DP X N' eT (s2.heap.objs.size::fp) s3 H2) pl bz H' s1)(sb:AG s3.heap.objs.size s1.heap h')
  (hn:H' s2.heap.objs.size=none)(hl:∃n,s1.heap.get? s2.heap.objs.size=some { cls:=.type "list",data:=.seq ys.toArray n })(hv:aV xs ys)(hz:xs.length<=sizeLine):
  Inv X pins σ (upd H' s2.heap.objs.size (.lst xs)) { s1 with heap:=h' }:=by
 have ltC:∀b,b<s3.heap.objs.size->b≠s3.heap.objs.size:=λb h=>iE h
 have WZ:∀b,b<s2.heap.objs.size->b≠s2.heap.objs.size:=λb h=>iE h
 have out:∀b o,s2.heap.get? b=some o->b∉fp->b∉s2.heap.objs.size::fp:=λb o e n z=>(fB.mp z).elim (WZ b (fI e)) n
 have hC:H' s3.heap.objs.size=none:=I'.free
 have up:∀b o,s2.heap.get? b=some o->∀o',s1.heap.get? b=some o'->h'.get? b=some o':=λb o e o' e'=>(sb.2 b (ltC b (fI (J' b o e)))).trans e'
 have Dy:∀b u,H' b=some u->b≠s2.heap.objs.size:=λb u e z=>by rw [z,hn] at e;cases e
 have u:=I'.base
 refine I2.Kx (s':={ s1 with heap:=h' }) (ch:=fp) (I'.os.trans MN) ⟨λb o e n hb hx=>?_,λb o e n hb hx=>?_,λb o e n hx=>?_,λb o e hx=>?_,λb zs e=>?_,λb o v e=>?_,λb ps e=>?_⟩ (λb v e=>?_) I'.bare (λb hb=>?_)
 .exact up b o e o (u.keep b o (J' b o e) n hb (out b o e hx))
 .obtain ⟨sl,e1⟩:=u.slot b o (J' b o e) n hb (out b o e hx)
  exact ⟨sl,up b o e _ e1⟩
 .rw [g9 (WZ b (fI e))]
  exact u.free b o (J' b o e) n (out b o e hx)
 .obtain ⟨o',e1⟩:=u.there b o (J' b o e) (out b o e hx)
  exact ⟨o',up b o e _ e1⟩
 .have:=u.oA b zs e
  rw [g9 (Dy b _ this)];exact this
 .have:=u.nN b o v e
  rw [g9 (Dy b _ this)];exact this
 .obtain ⟨more,this⟩:=u.oB b ps e
  exact ⟨more,by rw [g9 (Dy b _ this)];exact this⟩
 .by_cases hb:b=s2.heap.objs.size
  .subst hb
   rw [og] at e
   cases e
   obtain ⟨n,e1⟩:=hl
   exact ⟨hz,ys,n,hv,(sb.2 _ (by rw [hsz];exact iE (qz _))).trans e1⟩
  .rw [g9 hb] at e
   refine (I'.cw b v e).wa (λc w hc q=>(sb.2 c ?_).trans q) (λc _ _ q=>by rw [g9 (Dy c _ q)];exact q) λc zs q=>by rw [g9 (Dy c _ q)];exact q
   rintro rfl
   rcases hc with z | z
   .rw [<-z,hC] at e;cases e
   .rw [hC] at z;cases z
 .obtain ⟨_,g1,_,g3,g4,g5⟩:=f2 b hb
  exact ⟨g3,g1,g4,g5⟩
theorem a9d(h:Fx X N sc k full)(C:fN N sc N' caps nt eT){wi:TI}(pi:PI X tg iter wi)(ki:∀(O:Addr->Prop) (B:Hp) (σ:L2.St) (H:Hp) (env:En) (ds:List D) (R:It->Hp->Prop),Rel X.K O B σ H env->fi env=some ds->(∀J H',aG H H'->N7 X.K (OO O σ env) J H' ds->R J H')->wi σ H R)
  (hb:∀X':Cx,X'.prog=X.prog->X'.w=X.w->X'.K=X.K->X'.mg=X.mg->X'.base=X.base->Fx X' N' (rl eT sc) k false->GV X' tg g/\Ms X' ifs fc/\EV X' elt fe)
  (DG:∀x,foldedSetIterable iter X.env x=pure x){pins:List (Addr×Obj)}{s:Shared}{σ:L2.St}{H:Hp}(I:Inv X pins σ H s){O:Addr->Prop}{B:Hp}{env:En}{r:Sl}(R:Rel X.K O B σ H env)(e:lQ fi caps nt g fc fe env=some r)
  {use:Option (Value->Sem Unit)}{QQ:Value->Shared->Prop}
  (fin:∀(C0 p:Addr) (H':Hp) (s':Shared),(∃m,s'.heap.Ns C0 m)->mm X pins H' C0->(∀h',AG C0 s'.heap h'->Inv X pins σ H' { s' with heap:=h' })->aG H H'->Res X.K (OO O σ env) H H' (.ref p) r ->
   compPost (model X.prog X.w) X.A X.xe use QQ (.ref p) C0 (.ok .next) s'):
  wpAny (model X.prog X.w) X.A (comprehension (.ListComp elt [⟨tg,iter,ifs,0⟩] eT pos) eT X.env (firstIterPos [⟨tg,iter,ifs,0⟩] pos) (newList []) (firstAsync [⟨tg,iter,ifs,0⟩]) (firstIter [⟨tg,iter,ifs,0⟩] X.env) use) QQ X.xe s:=by
 obtain ⟨ds,e1,e2⟩:=bind_some e
 obtain ⟨cs,e3,e4⟩:=bind_some e2
 by_cases hlen:ds.length<=16777216
 case neg=>rw [if_neg hlen] at e4;cases e4
 rw [if_pos hlen] at e4
 obtain ⟨rs,e5,rfl⟩:=map_some e4
 have JX:closureFor eT X.env=pure (jI X.env.cells eT.names []):=a8k λy hy hf=>I.ok.has y.1 (by
  show X.env.scope.names.lookup y.1=_\/X.env.scope.names.lookup y.1=_
  rw [h.sc]
  exact C.free y hy hf)
 have hpi:=pi pins s σ H (λJ H'=>aG H H'/\N7 X.K (OO O σ env) J H' ds) I (ki O B σ H env ds _ R e1 λJ H' s' wk=>⟨s',wk⟩)
 refine wpAny_comprehension_free (use:=use) rfl DG JX C.kind C.loc (cq hpi λxv s1 h1=>cq h1 λQ2 s2 h2=>?_)
 obtain ⟨it,fp,tn,J,H2,rfl,I2,T,jZ,f2,uG,wk⟩:=h2
 refine AK (wpAny_newFunctionEnv C.Aa (by intro y hy;simp at hy) (λh₁ tF tE=>?_) C.kind)
 dsimp only at tF tE ⊢
 generalize RA:s2.heap.push { cls:=.type "list",dict:=none,data:=.seq ([]:List Value).toArray }=H3 at tF tE ⊢
 have hsz:H3.objs.size=s2.heap.objs.size+1:=by rw [<-RA,pP]
 have Jy:∀b o,s2.heap.get? b=some o->H3.get? b=some o:=λb o e=>by rw [<-RA];exact gg _ e
 have MI:∀b o,H3.get? b=some o->h₁.get? b=some o:=λb o e=>tE.extBut b o (iE (fI e)) (gg _ e)
 have I3:Inv X pins σ H2 { s2 with heap:=H3 }:=I2.kept (t':=s2.toks) Jy
 have Ji:∀b∈fp,b<s2.heap.objs.size:=λb hb=>by obtain ⟨o,eo,_⟩:=T.obj 0 _ jZ b hb;exact fI eo
 have Dy:∀b∈fp,b≠s2.heap.objs.size:=λb hb=>iE (Ji b hb)
 have JV:∀b∈fp,∃o,H3.get? b=some o:=λb hb=>by obtain ⟨o,eo,_⟩:=T.obj 0 _ jZ b hb;exact ⟨o,Jy b o eo⟩
 have R2:=R.grow uG
 obtain ⟨lc,ls,cg⟩:=ZE R2 e3
 generalize rj:DP X N' eT (s2.heap.objs.size::fp) { s2 with heap:=H3 } H2=X'
 have I4:∀t,Inv X' [] (oa nt none++iO caps σ) H2 { s2 with heap:=h₁,toks:=t }:=λt=>by
  rw [<-rj]
  exact b3g (s3:={ s2 with heap:=H3 }) (s4:={ s2 with heap:=h₁,toks:=t }) C h.sc h.n h.calm I2 I3 f2 JV hsz rfl rfl MI (by simpa using tF)
 have hP:X'.prog=X.prog:=by rw [<-rj];rfl
 have hW:X'.w=X.w:=by rw [<-rj];rfl
 have hK:X'.K=X.K:=by rw [<-rj];rfl
 have hE:X'.env=compEnvC eT (jI X.env.cells eT.names []) H3.objs.size X.env:=by rw [<-rj];rfl
 have hA:X'.A=X.A:=by rw [<-rj];rfl
 have hx:X'.xe=λ_ _=>False:=by rw [<-rj];rfl
 have Rt:X'.calm=true:=by rw [<-rj];rfl
 have hbd:=hb X' hP hW hK (by rw [<-rj];rfl) (by rw [<-rj];rfl) ⟨by rw [<-rj];rfl,by rw [hE];show rl eT X.env.scope=_;rw [h.sc],Rt,λz=>(nomatch z),by rw [hx];exact Nu,by rw [hA];exact h.room,C.nd,λz=>(nomatch z)⟩
 obtain ⟨⟨B2,pg,kg⟩,⟨tc,pc,kc⟩,te,pe,ke⟩:=hbd
 have RK:∀{H':Hp} {pl:List (Addr×Obj)},(∀b∈fp,H' b=none)->(∀p∈pl,∀b∈fp,p.1≠b)->∀b∈fp,mm X' pl H' b:=λ{H' pl} hn g8 b hb=>by
  obtain ⟨_,g1,g2,g3,g4,g5⟩:=f2 b hb
  rw [<-rj]
  refine ⟨hn b hb,iE (o3 (Ji b hb) (by show s2.heap.objs.size<=H3.objs.size;rw [hsz];exact DU _)),λz=>?_,.inl (jU _ hb),λx c e=>g4 x c (D8 C h.sc I2 e),λp hp=>g8 p (by simpa [DP] using hp) b hb⟩
  rcases fB.mp (I2.oC b z) with z | z
  .exact g1 z
  .exact g2 z
 have R0:Rel X'.K (OO O σ env) H2 (oa nt none++iO caps σ) H2 (oa nt Sl.no++cs):=by
  have sU:∀(i:Nat) (es:Sl),(oa nt Sl.no++cs)[i]?=some es->es.own->False:=λi es e o=>by
   rcases Ou e with z | ⟨_,z⟩
   .cases z;exact o
   .obtain ⟨d,_,_,z,_⟩:=cg _ _ z
    cases z;exact o
  have noOwn:∀p,¬pT (oa nt none++iO caps σ) (oa nt Sl.no++cs) p:=λp ⟨i,es,e,o,_⟩=>sU i es e o
  rw [hK]
  refine ⟨aG.refl _,R2.dm,by simp [lc,ls],λi d e=>?_,λi es e=>(sU i _ e trivial).elim,λi es e=>(sU i _ e trivial).elim,λi ks es e=>(sU i _ e trivial).elim,λi j es fs p e _ _ _ o=>(sU i es e o).elim⟩
  rcases Ou e with z | ⟨hi,z⟩
  .cases z
  .obtain ⟨d',v,i',z1,z2,z3,_⟩:=cg _ _ z
   cases z1
   refine ⟨v,?_,z3.less λp hp=>hp.elim id λz=>(noOwn p z).elim⟩
   rw [C2 (by simpa using hi),Nw]
   exact z2
 have loop:∀t,codeAny (model X.prog X.w) X.A (.compLoop (.ListComp elt [⟨tg,iter,ifs,0⟩] eT pos) 0 (.ref it) (.ref s2.heap.objs.size) (compEnvC eT (jI X.env.cells eT.names []) H3.objs.size X.env))
   (compPost (model X.prog X.w) X.A X.xe use QQ (.ref s2.heap.objs.size) H3.objs.size) { s2 with heap:=h₁,toks:=t }:=λt=>by
  refine b0b (N:=λ_ _=>False) (λn s'=>∃(i:Nat) (bz:L2.St) (H':Hp) (ak:En) (ys:List Value) (xs:List V) (Dw MB:List D),n=ds.length-i/\i<=ds.length/\Inv X' [] bz H' s'/\tn i s'.heap/\(∀b∈fp,H' b=none)/\H' s2.heap.objs.size=none /\
    s'.heap.PlainList s2.heap.objs.size ys.toArray/\aV xs ys/\Rel X'.K (OO O σ env) H2 bz H' ak/\Gd (oa nt none++iO caps σ) (oa nt Sl.no++cs) H2 bz ak H' /\
    bx X'.K (OO (OO O σ env) bz ak) H' xs Dw/\rO g fc fe (ds.drop i) ak=some MB/\Dw++MB=rs/\Dw.length<=i) (λ_ _ z=>z) ?_ ds.length
   ⟨0,_,H2,_,[],[],[],rs,by simp,AE _,I4 t,T.keep _ _ _ jZ (λb _ o e=>MI b o (Jy b o e)),λb hb=>(f2 b hb).1,I2.cw.fresh (cT _),⟨_,MI _ _ (by rw [<-RA];exact lO _ rfl)⟩,.nil,R0,Gd.refl (aG.refl _),.nil,by simpa using e5,rfl,cT _⟩
  rintro n s3 ⟨i,nE,HU,tJ,ys,xs,Dw,MB,rfl,hi,J3,qS,Kh,ha3,WL,vx,R3,Xx,JD,Kw,MO,Rc⟩
  have IW:Inv X' (Dh [s2.heap.objs.size] s3.heap) nE HU s3:=by
   refine J3.j6 λp hp=>?_
   obtain ⟨hb,e⟩:=Vi hp
   have hb:p.1=s2.heap.objs.size:=by simpa using hb
   obtain ⟨n,en⟩:=WL
   rw [hb,en] at e
   refine ⟨by rw [hb,en];exact e,by rw [hb];exact ha3,?_,λz=>?_,λv z=>?_⟩
   .rw [hb,hE]
    show s2.heap.objs.size≠H3.objs.size
    rw [hsz]
    exact iE (qz _)
   .rw [hb,<-rj] at z
    obtain ⟨_,o,ho,_⟩:=I2.stack.mem z
    exact absurd (fI ho) (AB _)
   .rw [<-gz e] at z;cases z
  have apart:∀p∈Dh [s2.heap.objs.size] s3.heap,∀b∈fp,p.1≠b:=λp hp b hb z=>by
   have e:p.1=s2.heap.objs.size:=by simpa using (Vi hp).1
   exact Dy b hb (z.symm.trans e)
  have AO:∀{pl:List (Addr×Obj)} {bz:L2.St} {H':Hp} {s':Shared},Inv X' pl bz H' s'->(∀p∈Dh [s2.heap.objs.size] s3.heap,p∈pl)->s'.heap.PlainList s2.heap.objs.size ys.toArray/\H' s2.heap.objs.size=none:=λ{pl bz H' s'} J wW=>by
   obtain ⟨n,en⟩:=WL
   obtain ⟨q1,q2,_⟩:=J.pin _ (zk _ (wW _ (L6 (fp:=[s2.heap.objs.size]) (by simp) en)))
   exact ⟨⟨n,q1⟩,q2⟩
  have w:=wk (OO (OO O σ env) nE tJ) HU (λa u ea na=>by
   obtain ⟨h1,h2⟩:=Xx a u ea λ⟨i,es,e,o,_⟩=>by
    rcases Ou e with z | ⟨_,z⟩
    .cases z;exact o
    .obtain ⟨d,_,_,z,_⟩:=cg _ _ z
     cases z;exact o
   exact ⟨h1,λz=>z.elim na h2⟩) (λa=>R3.oo) i
  by_cases cU:i<ds.length
  .obtain ⟨go,yl⟩:=w.1 ds[i] (by simp [cU])
   have tH:ds.drop i=ds[i]::ds.drop (i+1):=AH cU
   rw [tH,rO] at Kw
   obtain ⟨lA,c1,c2⟩:=bind_some Kw
   obtain ⟨b,c2,c3⟩:=bind_some c2
   have ti:=T.item X' hP hW hK Rt i _ s3 nE HU (λ_ _=>False) IW (RK Kh apart) qS go
   rw [hA] at ti
   refine cq ti λr s4 ⟨u,hr,h4⟩=>?_
   subst hr
   refine cq h4 λ_ s5 ⟨x,H5,I5,r5,y5,EG,RJ⟩=>?_
   obtain ⟨Qy,hx5⟩:=yl x H5 y5
   have Wz:=I5.pinned (RK RJ apart) (T.obj _ _ EG)
   have DA:∀{bz:L2.St} {H':Hp} {s':Shared},Inv X' (Dh [s2.heap.objs.size] s3.heap++Dh fp s5.heap) bz H' s'->tn (i+1) s'.heap/\∀b∈fp,H' b=none:=λ{bz H' s'} J=>by
    refine ⟨T.keep _ _ _ EG λb hb o e=>(J.pin (b,o) (zk _ (zk _ (L6 hb e)))).1,λb hb=>?_⟩
    obtain ⟨o,e,_⟩:=T.obj _ _ EG b hb
    exact (J.pin (b,o) (zk _ (zk _ (L6 hb e)))).2.1
   have WM:=pg _ s5 nE H5 x u _ Wz r5 (kg (OO O σ env) H2 nE H5 tJ lA x ds[i] (λqR H6=>Rel X'.K (OO O σ env) H2 qR H6 lA/\Gd nE tJ H5 qR lA H6) (R3.grow Qy) (hK▸hx5) c1 λqR H6 R6 g6=>⟨R6,g6⟩)
   rw [hP,hW,hA,hE,hx] at WM
   refine cq WM λ_ s6 ⟨qR,H6,I6,R6,g6⟩=>?_
   have WO:=pc _ s6 qR H6 (λb' H'=>b'=b/\aG H6 H') I6 (kc (OO O σ env) H2 qR H6 lA b _ R6 c2 λH' s'=>⟨rfl,s'⟩)
   rw [hP,hW,hA,hE,hx] at WO
   refine cq WO λok s7 ⟨H7,I7,cw,Qx⟩=>?_
   subst cw
   have R7:=R6.grow Qx
   have Xw:=Xx.trans ((Gd.refl Qy).trans (g6.trans (Gd.refl Qx)))
   have W3:bx X'.K (OO (OO O σ env) qR lA) H7 xs Dw:=((Gd.refl Qy).trans (g6.trans (Gd.refl Qx))).JB JD
   cases ok with
   | false =>
    rw [if_neg vM] at c3 ⊢
    obtain ⟨st7,fr7⟩:=DA I7
    obtain ⟨pl7,ha7⟩:=AO I7 λp hp=>D2 _ hp
    exact ⟨ds.length-(i+1),by ext cU,i+1,qR,H7,lA,ys,xs,Dw,MB,rfl,cU,I7.j6 (λ_ z=>nomatch z),st7,fr7,ha7,pl7,vx,R7,Xw,W3,c3,MO,by ext Rc⟩
   | true =>
    rw [if_pos rfl] at c3 ⊢
    obtain ⟨r,d3,d4⟩:=bind_some c3
    obtain ⟨rs3,d5,d6⟩:=bind_some d4
    clear c3 d4 Kw
    obtain rfl:=gz d6
    have WN:=pe _ s7 qR H7 (λv H'=>aG H7 H'/\Is X'.K (OO (OO O σ env) qR lA) H' v r.d) I7 (ke (OO O σ env) H2 qR H7 lA r _ R7 d3 λv H' s' rr=>⟨s',rr.is λp=>R7.oo⟩)
    rw [hP,hW,hA,hE,hx] at WN
    refine cq WN λy s8 ⟨v,H8,I8,ry,Qw,hv⟩=>?_
    obtain ⟨st8,fr8⟩:=DA I8
    obtain ⟨pl8,Xq⟩:=AO I8 λp hp=>D2 _ hp
    have hyl:ys.length=Dw.length:=by rw [<-b3t vx,JD.length]
    refine wpAny_list_append_plain (hsz:=by rw [iJ,hyl,rH];ext hlen Rc cU) pl8 λh' pl9 WJ=>?_
    have J8:Inv X' [] qR H8 s8:=I8.j6 λ_ z=>nomatch z
    have J9:Inv X' [] qR H8 { s8 with heap:=h' }:=J8.turned (t':=s8.toks) (it:=s2.heap.objs.size) (λb o hb e=>(WJ.2 b hb).trans e) Xq
     (by rw [hE];show s2.heap.objs.size≠H3.objs.size;rw [hsz];exact iE (qz _)) (.inl (by rw [<-rj];exact jL))
     (λx c e=>by
      rw [hE] at e
      obtain ⟨_,z⟩:=I2.cell x c (D8 C h.sc I2 e)
      exact iE z.lt) (λp hp=>by rw [<-rj] at hp;exact absurd hp (by simp [DP]))
    refine ⟨ds.length-(i+1),by ext cU,i+1,qR,H8,lA,ys++[y],xs++[v],Dw++[r.d],rs3,rfl,cU,J9,T.keep _ _ _ st8 λb hb o e=>(WJ.2 b (Dy b hb)).trans e,fr8,Xq,by simpa using pl9,vx.append (.cons ry .nil),R7.grow Qw,Xw.trans (Gd.refl Qw),(W3.grow Qw).append (.cons hv .nil),d5,by rw [<-MO];simp,by simp;assumption⟩
  .have Rn:i=ds.length:=by ext hi cU
   have td:=T.done X' hP hW hK Rt i _ s3 nE HU (λ_ _=>False) IW (RK Kh apart) qS (w.2 (by ext cU))
   rw [hA] at td
   refine cq td λr s4 ⟨hr,Mt⟩=>?_
   subst hr
   obtain ⟨pl4,GH⟩:=AO Mt λp hp=>hp
   rw [GX (by ext cU),rO] at Kw
   obtain rfl:=gz Kw
   rw [vK] at MO
   subst MO
   obtain ⟨m4,Xf,_⟩:=Mt.loc
   rw [hE] at Xf
   obtain ⟨n4,en4⟩:=pl4
   rw [<-rj] at Mt
   have Xo:H2 s2.heap.objs.size=none:=I2.cw.fresh (cT _)
   have Br:s2.heap.objs.size<=H3.objs.size:=by rw [hsz];exact DU _
   have hC0:HU H3.objs.size=none:=Mt.free
   have iV:H3.objs.size≠s2.heap.objs.size:=by rw [hsz];exact Nat.succ_ne_self _
   refine fin H3.objs.size s2.heap.objs.size (upd HU s2.heap.objs.size (.lst xs)) s4 ⟨m4,Xf⟩ (I2.Aq Br (by rw [g9 iV];exact hC0)) (λh' sb=>b3f (s3:={ s2 with heap:=H3 }) (ys:=ys) I2 rfl Jy hsz f2 Mt sb GH ⟨n4,en4⟩ vx (by rw [JD.length,rH];ext hlen hi Rc)) ?_ ⟨_,xs,rfl,uG.free Xo,og,?_⟩
   .intro b o e
    have e2:=uG b o e
    rw [g9 (zD e2 Xo)]
    exact R3.same b o e2
   .rw [hK] at JD
    refine JD.map (λp hp hn z=>hn (.inl (z.elim id λz=>?_))) λp u e _=>by rw [g9 (zD e GH)];exact e
    rw [z,GH] at hp
    exact (hp rfl).elim
 exact codeAny_compStart_list (loop _) (T.self _ 0 _ _ _ (T.keep _ _ _ jZ (λb _ o e=>MI b o (Jy b o e))) (loop _))
theorem Ee(h:Fx X N sc k full)(C:fN N sc N' caps nt eT)(hi:IV X tg iter fi)
  (hb:∀X':Cx,X'.prog=X.prog->X'.w=X.w->X'.K=X.K->X'.mg=X.mg->X'.base=X.base->Fx X' N' (rl eT sc) k false->GV X' tg g/\Ms X' ifs fc/\EV X' elt fe)
  (DG:∀x,foldedSetIterable iter X.env x=pure x:=by intro _;rfl):EV X (.ListComp elt [⟨tg,iter,ifs,0⟩] eT pos) (lQ fi caps nt g fc fe):=by
 obtain ⟨wi,pi,ki⟩:=hi
 refine ⟨λσ H Q=>∃O B env r,Rel X.K O B σ H env/\lQ fi caps nt g fc fe env=some r/\∀v H',aG H H'->Res X.K (OO O σ env) H H' v r->Q v H',?_,λO B σ H env r Q R e q=>⟨O,B,env,r,R,e,q⟩⟩
 rintro pins s σ H Q I ⟨O,B,env,r,R,e,q⟩
 rw [eval_ListComp]
 exact a9d h C pi ki hb DG I R e (use:=none) λC0 p H' s' ⟨m,hn⟩ _ hI sm rr=>⟨m,hn,λh' sb=>⟨.ref p,H',hI h' sb,rfl,q _ H' sm rr⟩⟩
theorem UD{i:Nat}{x:Str}{pos' Iy:Pos}(b:Bool)(h:Fx X N sc k full)(C:fN N sc N' caps nt eT)(hi:IV X tg iter fi)
  (hb:∀X':Cx,X'.prog=X.prog->X'.w=X.w->X'.K=X.K->X'.mg=X.mg->X'.base=X.base->Fx X' N' (rl eT sc) k false->GV X' tg g/\Ms X' ifs fc/\EV X' elt fe)
  (hN:N[i]?=some x:=by rfl)(hv:Loc sc x:=by first | exact eN rfl | exact cP rfl)(hf:full=true\/sc.names.lookup x=some .local:=by first | exact eN rfl | exact cP rfl)(h1:(sc.names.lookup x==some .local)=true:=by rfl)(h2:(pos'.line==pos.line)=true:=by rfl)(h3:(eT.names.any λ(n,k)=>n==x&&(k==.local||k==.cell))=false:=by rfl)
  (DG:∀x,foldedSetIterable iter X.env x=pure x:=by intro _;rfl):SV X (.Assign [.Name x pos'] (.ListComp elt [⟨tg,iter,ifs,0⟩] eT pos) Iy) (bif b then hV i (lQ fi caps nt g fc fe) else eQ i (lQ fi caps nt g fc fe)):=by
 obtain ⟨wi,pi,ki⟩:=hi
 refine ⟨λD σ H=>∃O B env fl ak,Rel X.K O B σ H env/\(bif b then hV i (lQ fi caps nt g fc fe) else eQ i (lQ fi caps nt g fc fe)) env=some (fl,ak)/\g7 X.K O B σ H env D fl ak,?_,λO B σ H env fl ak D R e q=>⟨O,B,env,fl,ak,R,e,q⟩⟩
 rintro pins s σ H D I ⟨O,B,env,fl,ak,R,e,q⟩
 obtain ⟨r,e1,hl,JU,t,rfl,ht⟩:∃r,lQ fi caps nt g fc fe env=some r/\i<env.length/\fl=.nx/\∃t,ak=env.set i t/\(t=r\/t=.sh r.d):=by
  cases b with
  | true =>
   dsimp only [cond] at e
   obtain ⟨r,e1,e2⟩:=bind_some e
   obtain ⟨hl,e3⟩:=lS e2
   cases e3
   exact ⟨r,e1,hl,rfl,_,rfl,.inl rfl⟩
  | false =>
   dsimp only [cond] at e
   obtain ⟨r,e1,e2⟩:=bind_some e
   obtain ⟨hl,e3⟩:=lS e2
   cases e3
   exact ⟨r,e1,hl,rfl,_,rfl,.inr rfl⟩
 subst JU
 have hs:swapsWith (.ListComp elt [⟨tg,iter,ifs,0⟩] eT pos) (some (.Name x pos')) Iy.line X.env=pure true:=by
  have hk:X.env.blockKind=.function:=by unfold Env.blockKind;rw [I.ok.kind];rfl
  have hk2:X.env.kindOf x=sc.names.lookup x:=by unfold Env.kindOf;rw [h.sc]
  unfold swapsWith
  dsimp only
  rw [hk,hk2,h1,show (pos'.line==(Expr.ListComp elt [⟨tg,iter,ifs,0⟩] eT pos).pos.line)=true from h2,h3]
  rfl
 rw [exec_Assign_Name_used _ _ _ _ hs]
 refine aM (SR (aM ?_))
 show wpAny _ _ (comprehension _ eT X.env _ (newList []) _ _ (some (assign (.Name x pos') X.env)) >>= λ_=>pure ()) _ _ _
 refine aM (a9d h C pi ki hb DG I R e1 (use:=some (assign (.Name x pos') X.env)) λC0 p H' s' ⟨m,hn⟩ tG hI sm rr=>?_)
 have I':Inv X pins σ H' s':=hI s'.heap (Yh _ _)
 refine wpAny_assign_Name (a8D (v:=.ref p) I' h.Gs (h.ix hN) (h.loc hv) rfl (λs2 I2 ⟨a,sb,ha⟩=>?_) (h.Gm hf))
 have hac:C0≠a:=λz=>by
  rcases ha with ha | ha
  .exact tG.2.1 (z.trans ha)
  .exact tG.2.2.2.2.1 x a ha z.symm
 obtain ⟨o,es,ep,ho,rest⟩:=hn
 refine ⟨m,⟨o,es,ep,(sb.2 C0 hac).trans ho,rest⟩,λh' sb'=>?_⟩
 refine cp (cp ?_)
 have I3:Inv X pins (σ.set i (some (.ref p))) H' { s2 with heap:=h' }:=I2.turned (t':=s2.toks) (it:=C0) (λb o hb e=>(sb'.2 b hb).trans e) tG.1 tG.2.1 tG.2.2.2.1 tG.2.2.2.2.1 tG.2.2.2.2.2
 have hr:Res X.K (OO O σ env) H H' (.ref p) t:=by
  rcases ht with rfl | rfl
  .exact rr
  .exact rr.is λq=>R.oo
 obtain ⟨R',g'⟩:=R.set sm hr hl
 exact ⟨_,H',I3,q _ H' R' g'⟩
end
end DL
namespace DL
open PySem PySem.Spec PyProof.Rows L2
section
variable {X:Cx}{pins:List (Addr×Obj)}{σ:L2.St}{H:Hp}{s:Shared}
theorem U7(I:Inv X pins σ H s)(hA:A'.handled=none)(hq:Sq X.K H k p xs)
  (h:∀(aD:List Value) (h2:Heap) (St:Nat->Heap->Prop),aV xs aD->Walks X.prog X.w A' s.heap.objs.size [s.heap.objs.size,p] [s.heap.objs.size] aD.length (λi v=>aD[i]?=some v) St->St 0 h2 ->
   (∀b o,s.heap.get? b=some o->h2.get? b=some o)->(∀b∈[s.heap.objs.size,p],b<h2.objs.size)->Q (.ref s.heap.objs.size) { s with heap:=h2 }):wpAny (model X.prog X.w) A' (pyIter (.ref p)) Q E s:=by
 cases k with
 | true =>
  obtain ⟨aD,rv,pl,hz⟩:=I.list (show jm X.K H p xs from hq)
  have cU:p<s.heap.objs.size:=by obtain ⟨o,n,e,_⟩:=pl;exact fI e
  refine Tp pl.isList ?_
  have W:=Walks.list (prog:=X.prog) (w:=X.w) hA s.heap.objs.size p (iE cU) aD.toArray
  refine h aD _ (λi h=>h.IsListIter s.heap.objs.size p i/\h.IsList p aD.toArray) rv (by simpa using W) ⟨⟨_,lO _ rfl,rfl,rfl⟩,pl.isList.push _⟩ (λb o e=>gg _ e) λb hb=>?_
  rw [pP]
  rcases fB.mp hb with rfl | hb
  .exact qz _
  .rw [oZ.mp hb];exact zl cU
 | false =>
  obtain ⟨aD,rv,pl,hz⟩:=I.tuple (show kK X.K H p xs from hq)
  have cW:s.heap.IsTuple p aD.toArray:=pl
  have cU:p<s.heap.objs.size:=by obtain ⟨o,e,_⟩:=pl;exact fI e
  refine wpAny_pyIter_tuple cW ?_
  have W:=Walks.tuple (prog:=X.prog) (w:=X.w) hA s.heap.objs.size p (iE cU) aD.toArray
  refine h aD _ (λi h=>h.IsTupleIter s.heap.objs.size p i/\h.IsTuple p aD.toArray) rv (by simpa using W) ⟨⟨_,lO _ rfl,rfl,rfl⟩,?_⟩ (λb o e=>gg _ e) λb hb=>?_
  .obtain ⟨o,e,r⟩:=cW
   exact ⟨o,gg _ e,r⟩
  .rw [pP]
   rcases fB.mp hb with rfl | hb
   .exact qz _
   .rw [oZ.mp hb];exact zl cU
theorem OZ(I:Inv X pins σ H s){h2 h':Heap}{tk:Nat}(k1:∀b o,s.heap.get? b=some o->h2.get? b=some o)(k2:∀b o,b∉[s.heap.objs.size]->h2.get? b=some o->h'.get? b=some o):Inv X pins σ H { s with heap:=h',toks:=tk }:=
 I.kept λb o e=>k2 b o (λz=>absurd (fI e) (by rw [oZ.mp z];exact AB _)) (k1 b o e)
end
noncomputable def vU:List D->Option (List Int)
 | []=>some []
 | .int i::ds=>(vU ds).map (i::·)
 | _::_=>none
theorem Vn:∀(ns:List Int),vU (ns.map D.int)=some ns
 | []=>rfl
 | n::r=>by rw [jJ,vU,Vn r];rfl
theorem L4:∀{ds:List D} {ns:List Int},vU ds=some ns->ds=ns.map D.int
 | [],ns,e=>by cases e;rfl
 | .int i::ds,ns,e=>by
  obtain ⟨r,e1,rfl⟩:=map_some (show (vU ds).map (i::·)=some ns from e)
  rw [L4 e1];rfl
 | .b8::_,_,e=>by cases e
 | .bl _::_,_,e=>by cases e
 | .str _::_,_,e=>by cases e
 | .tup _::_,_,e=>by cases e
 | .lst _ _::_,_,e=>by cases e
theorem LV{K:aQ}{O:Addr->Prop}{H:Hp}:∀{xs:List V} {ns:List Int},bx K O H xs (ns.map D.int)->xs=ns.map V.int
 | _,[],.nil=>rfl
 | _,n::r,.cons h t=>by rw [qF h,LV t];rfl
theorem LZ{ns:List Int}(r:aV (ns.map V.int) aD){i:Nat}(h:aD[i]?=some v):∃t,v=.int (ns.getD i 0) t:=by
 have hl:=r.length
 have hi:=(xO.mp h).1
 have vg:i<ns.length:=by rw [eD] at hl;ext hl hi
 obtain ⟨u,hu,ru⟩:=r.get (show (ns.map V.int)[i]?=some (.int ns[i]) by simp [vg])
 rw [h] at hu
 cases hu
 obtain ⟨t,e⟩:=ru
 exact ⟨t,by rw [e];simp [vg]⟩
section
variable {X:Cx}{a:Expr}{p pos:Pos}{ba:En->Option (Bool×List D)}
theorem preSum_eq(ns:List Int):∀j,j<=ns.length->preSum (λi=>ns.getD i 0) j=(ns.take j).sum
 | 0,_=>rfl
 | j+1,h=>by
  have hj:j<ns.length:=h
  rw [preSum,preSum_eq ns j (DS hj),<-List.take_append_getElem hj,List.sum_append]
  simp [hj]
theorem b1V(ns:List Bool):(pO ns.length).all (λi=>ns.getD i false)=ns.all id:=by
 rw [Sw,SI,SI]
 constructor
 .intro h x hx
  obtain ⟨i,hi,rfl⟩:=xM.mp hx
  have:=h i (KJ.mpr hi)
  simpa [hi] using this
 .intro h i hi
  have hi:=KJ.mp hi
  have:=h ns[i] (AJ hi)
  simpa [hi] using this
theorem b28(hc:X.calm=true):ud X (.builtin "sum") (λxs H Q=>∃p k ns,xs=[.ref p]/\Sq X.K H k p (CQ V.int ns)/\Q (.int ns.sum) H):=by
 intro pins s σ H xs us Q I r h
 obtain ⟨p,k,ns,rfl,hq,q⟩:=h
 obtain ⟨u,rfl,ru⟩:=r.one
 cases ru
 refine call_sum_walkAnyS (U7 (A':=X.A.in1) I (I.ok.hd hc) hq λaD h2 St rv W EH k1 tG=>?_)
 refine ⟨_,_,_,_,_,_,_,λi=>ns.getD i 0,rfl,W.toS,EH,tG,λi v hv=>LZ rv hv,λs' t' M=>?_⟩
 have hl:aD.length=ns.length:=by rw [<-rv.length];simp
 have e:preSum (λi=>ns.getD i 0) aD.length=ns.sum:=by rw [hl,preSum_eq ns _ (cT _)];simp
 rw [e]
 obtain ⟨h',g',d',t2,o'⟩:=s'
 obtain ⟨m1,m2,m3,m4,m5⟩:=M
 have m2:g'=s.gens:=m2
 have m3:d'=s.drawn:=m3
 have m4:o'=s.os:=m4
 subst m2 m3 m4
 exact ⟨.int ns.sum,H,OZ I k1 m1,⟨t',rfl⟩,q⟩
noncomputable def jx:List Int->Int
 | []=>0
 | n::r=>r.foldl (λa b=>if b<a then b else a) n
noncomputable def k9:List Int->Int
 | []=>0
 | n::r=>r.foldl (λa b=>if b>a then b else a) n
theorem Z9(ns:List Int):∀j,j<ns.length->argBest (λi j=>decide (ns.getD i 0<ns.getD j 0)) j<ns.length/\ns.getD (argBest (λi j=>decide (ns.getD i 0<ns.getD j 0)) j) 0=jx (ns.take (j+1))
 | 0,h=>by
  refine ⟨h,?_⟩
  cases ns with
  | nil=>cases h
  | cons n r=>rfl
 | j+1,h=>by
  obtain ⟨h1,h2⟩:=Z9 ns j (by ext h)
  have e:ns.take (j+1+1)=ns.take (j+1)++[ns.getD (j+1) 0]:=by rw [List.take_add_one];simp [h]
  have e2:jx (ns.take (j+1+1))=if ns.getD (j+1) 0<jx (ns.take (j+1)) then ns.getD (j+1) 0 else jx (ns.take (j+1)):=by
   rw [e]
   cases ns with
   | nil=>cases h
   | cons n r=>simp only [Yc,K0,jx,List.foldl_append,Sv,SW];rfl
  rw [e2,<-h2]
  simp only [argBest,decide_eq_true_eq]
  split
  .exact ⟨h,rfl⟩
  .exact ⟨h1,rfl⟩
theorem Z8(ns:List Int):∀j,j<ns.length->argBest (λi j=>decide (ns.getD i 0>ns.getD j 0)) j<ns.length/\ns.getD (argBest (λi j=>decide (ns.getD i 0>ns.getD j 0)) j) 0=k9 (ns.take (j+1))
 | 0,h=>by
  refine ⟨h,?_⟩
  cases ns with
  | nil=>cases h
  | cons n r=>rfl
 | j+1,h=>by
  obtain ⟨h1,h2⟩:=Z8 ns j (by ext h)
  have e:ns.take (j+1+1)=ns.take (j+1)++[ns.getD (j+1) 0]:=by rw [List.take_add_one];simp [h]
  have e2:k9 (ns.take (j+1+1))=if ns.getD (j+1) 0>k9 (ns.take (j+1)) then ns.getD (j+1) 0 else k9 (ns.take (j+1)):=by
   rw [e]
   cases ns with
   | nil=>cases h
   | cons n r=>simp only [Yc,K0,k9,List.foldl_append,Sv,SW];rfl
  rw [e2,<-h2]
  simp only [argBest,decide_eq_true_eq]
  split
  .exact ⟨h,rfl⟩
  .exact ⟨h1,rfl⟩
theorem b3c(hc:X.calm=true):ud X (.builtin "max") (λxs H Q=>∃p k ns,xs=[.ref p]/\Sq X.K H k p (CQ V.int ns)/\ns≠[]/\Q (.int (k9 ns)) H):=by
 intro pins s σ H xs us Q I r h
 obtain ⟨p,k,ns,rfl,hq,iV,q⟩:=h
 obtain ⟨u,rfl,ru⟩:=r.one
 cases ru
 refine call_max_walk (U7 (A':=X.A.in1) I (I.ok.hd hc) hq λaD h2 St rv W EH k1 tG=>?_)
 have hl:aD.length=ns.length:=by rw [<-rv.length];simp
 have hp:0<ns.length:=G3.mpr iV
 refine ⟨_,_,_,_,_,_,_,rfl,W,EH,tG,by ext hl hp,CmpOf.ints_gt (λi=>ns.getD i 0) (λi v hv=>LZ rv hv),λv h' tk hv hk=>?_⟩
 obtain ⟨t,e⟩:=LZ rv hv
 obtain ⟨b1,b2⟩:=Z8 ns (aD.length-1) (by ext hl hp)
 have e2:ns.take (aD.length-1+1)=ns:=by rw [FR];ext hl
 rw [e2] at b2
 refine ⟨.int (k9 ns),H,OZ I k1 hk,⟨t,?_⟩,q⟩
 rw [e,<-b2]
noncomputable def w6(f:En->Option (Bool×List D)):En->Option Sl:=λenv=>(f env).bind λx=>(vU x.2).map λns=>.sh (.int ns.sum)
noncomputable def CJ(f:En->Option (Bool×List D)):En->Option Sl:=λenv=>(f env).bind λx=>(vU x.2).bind λns=>if ns≠[] then some (.sh (.int (k9 ns))) else none
theorem YV(hg:Gl X "sum")(hm:X.mg "sum" = none)(hc:X.calm=true)(ha:BV X a ba)(hs:starEach [a] X.env=[(false,eval a X.env)]:=by rfl):EV X (.Call (.Name "sum" p) [a] [] pos) (w6 ba):=by
 obtain ⟨t,pt,k⟩:=ha
 refine ⟨_,Ek (b28 hc) hg hm (by decide +kernel) (nW pt rR hs) (by decide) (by decide) hs rfl,λO B σ H env s Q R e q=>?_⟩
 obtain ⟨⟨kk,ds⟩,e1,e2⟩:=bind_some e
 obtain ⟨ns,e3,rfl⟩:=map_some e2
 have DN:=L4 e3
 dsimp only at DN
 subst DN
 refine k O B σ H env kk _ _ R e1 λl xs H1 s1 hq hx=>⟨l,kk,ns,rfl,?_,q _ H1 s1 (Is.int _)⟩
 rw [<-LV hx];exact hq
theorem b86(hg:Gl X "max")(hm:X.mg "max" = none)(hc:X.calm=true)(ha:BV X a ba)(hs:starEach [a] X.env=[(false,eval a X.env)]:=by rfl):EV X (.Call (.Name "max" p) [a] [] pos) (CJ ba):=by
 obtain ⟨t,pt,k⟩:=ha
 refine ⟨_,Ek (b3c hc) hg hm (by decide +kernel) (nW pt rR hs) (by decide) (by decide) hs rfl,λO B σ H env s Q R e q=>?_⟩
 obtain ⟨⟨kk,ds⟩,e1,e2⟩:=bind_some e
 obtain ⟨ns,e3,e4⟩:=bind_some e2
 obtain ⟨iV,rfl⟩:=lS e4
 have DN:=L4 e3
 dsimp only at DN
 subst DN
 refine k O B σ H env kk _ _ R e1 λl xs H1 s1 hq hx=>⟨l,kk,ns,rfl,?_,iV,q _ H1 s1 (Is.int _)⟩
 rw [<-LV hx];exact hq
end
end DL
namespace DL
open PySem PySem.Spec PyProof.Rows L2
noncomputable def jM:List (Option Bool)->Option (List Bool)
 | []=>some []
 | some b::r=>(jM r).map (b::·)
 | none::_=>none
@[simp] noncomputable def cE:D->Option Bool
 | .exc _=>none
 | .mq _ _=>none
 | .obj _ _ _=>none
 | .g0 _ _=>none
 | .kW _ _=>none
 | _=>some false
@[simp] noncomputable def cN(f:Option (D->D->Option Bool))(d d':D):Option Bool:=match d with
 | .int i=>match d' with
  | .int j=>some (decide (i=j))
  | .bl j=>some (decide (i=(if j then 1 else 0)))
  | x=>cE x
 | .bl i=>match d' with
  | .bl j=>some (decide (i=j))
  | .int j=>some (decide ((if i then 1 else 0)=j))
  | x=>cE x
 | .str i=>match d' with
  | .str j=>some (decide (i=j))
  | x=>cE x
 | .b8=>match d' with
  | .b8=>some true
  | x=>cE x
 | .tup a=>match d' with
  | .tup b=>f.bind λg=>(jM (AF g a b)).map λbs=>bs.all id&&decide (a.length=b.length)
  | x=>cE x
 | .lst _ a=>match d' with
  | .lst _ b=>f.bind λg=>if a.length=b.length then (jM (AF g a b)).map λbs=>bs.all id else some false
  | x=>cE x
 | _=>none
@[simp] noncomputable def CH:Nat->Option (D->D->Option Bool)
 | 0=>none
 | n+1=>some (cN (CH n))
noncomputable def cf(n:Nat):D->D->Option Bool:=cN (CH n)
theorem Ho:∀{os:List (Option Bool)} {bs:List Bool},jM os=some bs->os.length=bs.length/\∀(i:Nat) (b:Bool),bs[i]?=some b->os[i]?=some (some b)
 | [],bs,e=>by cases e;exact ⟨rfl,λi b h=>by simp at h⟩
 | some b::r,bs,e=>by
  obtain ⟨bs',e1,rfl⟩:=map_some (show (jM r).map (b::·)=some bs from e)
  obtain ⟨l,ih⟩:=Ho e1
  refine ⟨by simp [l],λi c h=>?_⟩
  cases i with
  | zero=>simpa using h
  | succ i=>simpa using ih i c (by simpa using h)
 | none::_,bs,e=>by cases e
theorem all_range{bs:List Bool}{n:Nat}(h:bs.length=n):(pO n).all (λi=>bs.getD i false)=bs.all id:=by rw [<-h];exact b1V bs
section
variable {X:Cx}{pins:List (Addr×Obj)}{σ:L2.St}{H:Hp}{s:Shared}{O O':Addr->Prop}
noncomputable def Mr(K:aQ)(O:Addr->Prop)(H:Hp)(v:V):D->Prop
 | .b8=>v=.b8
 | .bl b=>v=.bl b
 | .int i=>v=.int i
 | .str x=>v=.str x
 | .tup ds=>∃p xs,v=.ref p/\kK K H p xs/\bx K O H xs ds
 | .lst _ ds=>∃p xs,v=.ref p/\jm K H p xs/\bx K O H xs ds
 | .exc _=>True
 | .mq _ _=>True
 | .obj _ _ _=>True
 | .g0 _ _=>True
 | .kW _ _=>True
theorem Is.yP{K:aQ}{v:V}{d:D}(h:Is K O H v d):Mr K O H v d:=by
 cases d with
 | b8=>exact Ue h
 | bl b=>exact BQ h
 | int i=>exact qF h
 | str x=>exact Hj h
 | tup ds=>exact Oe h
 | lst r ds =>
  obtain ⟨p,xs,e,h1,h2⟩:=h.seq (k:=true) (ds:=ds) rfl
  exact ⟨p,xs,e,h1,h2⟩
 | exc n=>trivial
 | mq n m=>trivial
 | obj n1 m1 o1=>trivial
 | g0 n1 m1=>trivial
 | kW n1 m1=>trivial
theorem OI(I:Inv X pins σ H s)(h:kK X.K H p xs)(h':jm X.K H p ys):False:=by
 obtain ⟨_,_,⟨o,e1,c1,_⟩,_⟩:=I.tuple h
 obtain ⟨_,_,⟨o',_,e2,c2,_⟩,_⟩:=I.list h'
 rw [e1] at e2
 cases e2
 rw [c1] at c2
 injection c2 with c3
 exact absurd c3 (by decide)
theorem zip_get{n:Nat}{i:Nat}{o:Option Bool}(h:(AF (cf n) a b)[i]?=some o):∃x y,a[i]?=some x/\b[i]?=some y/\cf n x y=o:=by
 rw [XX] at h
 cases ha:a[i]? with
 | none=>rw [ha] at h;simp at h
 | some x =>
  cases hb:b[i]? with
  | none=>rw [ha,hb] at h;simp at h
  | some y=>rw [ha,hb] at h;exact ⟨x,y,rfl,rfl,by simpa using h⟩
theorem b0J(I:Inv X pins σ H s):∀(n:Nat) {v:V} {d d':D} {b:Bool},Is X.K O H v d->Is X.K O' H v d'->cf n d d'=some b->b=true:=by
 intro n
 induction n with
 | zero =>
  intro v d d' b h h' e
  have h:=h.yP
  have h':=h'.yP
  cases d<;>cases d'<;>simp only [Mr] at h h'<;>simp only [cf,cN,cE,CH,XO,AI,iF,reduceCtorEq] at e<;>first
   | (subst h;cases h';exact e.symm)
   | (subst h;cases h';rw [<-e];simp;done)
   | (subst h;cases h';done)
   | (subst h;obtain ⟨_,_,h',_⟩:=h';cases h';done)
   | (subst h';obtain ⟨_,_,h,_⟩:=h;cases h;done)
   | (obtain ⟨_,_,rfl,h,_⟩:=h;obtain ⟨_,_,hr,h',_⟩:=h';cases hr;first | exact (OI I h h').elim | exact (OI I h' h).elim)
 | succ n ih =>
  intro v d d' b h h' e
  have key:∀{xs:List V} {ds ds':List D} {bs:List Bool},bx X.K O H xs ds->bx X.K O' H xs ds'->jM (AF (cf n) ds ds')=some bs->bs.all id=true:=λ{xs ds ds' bs} a1 a2 ea=>by
   obtain ⟨_,g⟩:=Ho ea
   rw [SI]
   intro c hc
   obtain ⟨i,hi,rfl⟩:=xM.mp hc
   obtain ⟨x,y,ex,ey,exy⟩:=zip_get (g i _ (mz hi))
   obtain ⟨z,ez,iz⟩:=a1.get ex
   obtain ⟨z',Xy,iz'⟩:=a2.get ey
   rw [ez] at Xy
   cases Xy
   exact ih iz iz' exy
  have h:=h.yP
  have h':=h'.yP
  cases d<;>cases d'<;>simp only [Mr] at h h'<;>simp only [cf,cN,cE,CH,XO,AI,iF,reduceCtorEq] at e<;>first
   | (subst h;cases h';exact e.symm)
   | (subst h;cases h';rw [<-e];simp;done)
   | (subst h;cases h';done)
   | (subst h;obtain ⟨_,_,h',_⟩:=h';cases h';done)
   | (subst h';obtain ⟨_,_,h,_⟩:=h;cases h;done)
   | (obtain ⟨_,_,rfl,h,_⟩:=h;obtain ⟨_,_,hr,h',_⟩:=h';cases hr;first | exact (OI I h h').elim | exact (OI I h' h).elim)
   | skip
  .obtain ⟨_,xs,rfl,h,a1⟩:=h
   obtain ⟨_,ys,hr,h',a2⟩:=h'
   cases hr
   cases I.nZ h h'
   obtain ⟨bs,e1,rfl⟩:=map_some e
   rw [key a1 a2 e1,<-a1.length,<-a2.length]
   simp
  .obtain ⟨_,xs,rfl,h,a1⟩:=h
   obtain ⟨_,ys,hr,h',a2⟩:=h'
   cases hr
   cases I.qb h h'
   rw [if_pos (by rw [<-a1.length,<-a2.length])] at e
   obtain ⟨bs,e1,rfl⟩:=map_some e
   exact key a1 a2 e1
theorem ZN{xs:List V}{aD:List Value}{O:Addr->Prop}{K:aQ}{ds:List D}(r:aV xs aD)(a:bx K O H xs ds){j:Nat}(h:j<aD.toArray.size):∃d v,ds[j]?=some d/\Is K O H v d/\RelV v aD.toArray[j]:=by
 have hj:j<aD.length:=by simpa using h
 have hl:=r.length
 obtain ⟨d,hd,hv⟩:=a.Fe (i:=j) (x:=xs[j]'(by ext hj hl)) (mz (by ext hj hl))
 obtain ⟨u,hu,ru⟩:=r.get (i:=j) (x:=xs[j]'(by ext hj hl)) (mz (by ext hj hl))
 rw [mz hj] at hu
 refine ⟨d,_,hd,hv,?_⟩
 rw [List.getElem_toArray,gz hu]
 exact ru
open PySem.SeqAt in
theorem YX(I:Inv X pins σ H s)(hu:A.units<cLine)(h:Mr X.K O H v d)(h':Mr X.K O' H v' d')(r:RelV v u)(r':RelV v' u')(e:cf n d d'=some b)
  (hn:(∀a c,d=.tup a->d'=.tup c->False)/\∀a c r r',d=.lst r a->d'=.lst r' c->False):EqAt A s u u' b/\RcAt A s u u' b/\RcNeAt A s u u' (!b):=by
 cases d with
 | b8 =>
  cases d' with
  | b8 =>
   subst h;obtain rfl:u=nQ:=r
   subst h';obtain rfl:u'=nQ:=r'
   simp only [cf,cN,cE,iF] at e
   subst e
   exact ⟨EqAt.same _,RcAt.none_none,RcNeAt.none_none⟩
  | bl k' =>
   subst h;obtain rfl:u=nQ:=r
   subst h';obtain rfl:u'=qx k':=r'
   simp only [cf,cN,cE,iF] at e
   subst e
   exact ⟨EqAt.none_bool k',RcAt.none_bool k',RcNeAt.none_bool k'⟩
  | int k' =>
   subst h;obtain rfl:u=nQ:=r
   subst h';obtain ⟨t',rfl⟩:=r'
   simp only [cf,cN,cE,iF] at e
   subst e
   exact ⟨EqAt.none_int k' t',RcAt.none_int k' t',RcNeAt.none_int k' t'⟩
  | str k' =>
   subst h;obtain rfl:u=nQ:=r
   subst h';obtain ⟨t',rfl⟩:=r'
   simp only [cf,cN,cE,iF] at e
   subst e
   exact ⟨EqAt.none_str k' t',RcAt.none_str k' t',RcNeAt.none_str k' t'⟩
  | tup ds' =>
   subst h;obtain rfl:u=nQ:=r
   obtain ⟨p',nY,rfl,gj,_⟩:=h';obtain ⟨its',_,cW,_⟩:=I.tuple gj;obtain rfl:u'=fq p':=r';replace cW:s.heap.IsTuple p' its'.toArray:=cW
   simp only [cf,cN,cE,iF] at e
   subst e
   exact ⟨EqAt.none_tuple cW hu,RcAt.none_tuple cW hu,RcNeAt.none_tuple cW hu⟩
  | lst zU ds' =>
   subst h;obtain rfl:u=nQ:=r
   obtain ⟨p',nY,rfl,gj,_⟩:=h';obtain ⟨its',_,cW,_⟩:=I.list gj;obtain rfl:u'=fq p':=r';replace cW:=cW.isList
   simp only [cf,cN,cE,iF] at e
   subst e
   exact ⟨EqAt.none_list cW hu,RcAt.none_list cW hu,RcNeAt.none_list cW hu⟩
  | exc n'=>simp [cf] at e
  | mq n' m'=>simp [cf] at e
  | obj n1 m1 o1=>simp [cf] at e
  | g0 n1 m1=>simp [cf] at e
  | kW n1 m1=>simp [cf] at e
 | bl k =>
  cases d' with
  | b8 =>
   subst h;obtain rfl:u=qx k:=r
   subst h';obtain rfl:u'=nQ:=r'
   simp only [cf,cN,cE,iF] at e
   subst e
   exact ⟨EqAt.bool_none k,RcAt.bool_none k,RcNeAt.bool_none k⟩
  | bl k' =>
   subst h;obtain rfl:u=qx k:=r
   subst h';obtain rfl:u'=qx k':=r'
   simp only [cf,cN,cE,iF] at e
   subst e
   exact ⟨EqAt.bool_bool k k',RcAt.bool_bool k k',RcNeAt.bool_bool k k'⟩
  | int k' =>
   subst h;obtain rfl:u=qx k:=r
   subst h';obtain ⟨t',rfl⟩:=r'
   simp only [cf,cN,cE,iF] at e
   subst e
   exact ⟨EqAt.bool_int k k' t',RcAt.bool_int k k' t',RcNeAt.bool_int k k' t'⟩
  | str k' =>
   subst h;obtain rfl:u=qx k:=r
   subst h';obtain ⟨t',rfl⟩:=r'
   simp only [cf,cN,cE,iF] at e
   subst e
   exact ⟨EqAt.bool_str k k' t',RcAt.bool_str k k' t',RcNeAt.bool_str k k' t'⟩
  | tup ds' =>
   subst h;obtain rfl:u=qx k:=r
   obtain ⟨p',nY,rfl,gj,_⟩:=h';obtain ⟨its',_,cW,_⟩:=I.tuple gj;obtain rfl:u'=fq p':=r';replace cW:s.heap.IsTuple p' its'.toArray:=cW
   simp only [cf,cN,cE,iF] at e
   subst e
   exact ⟨EqAt.bool_tuple k cW hu,RcAt.bool_tuple k cW hu,RcNeAt.bool_tuple k cW hu⟩
  | lst zU ds' =>
   subst h;obtain rfl:u=qx k:=r
   obtain ⟨p',nY,rfl,gj,_⟩:=h';obtain ⟨its',_,cW,_⟩:=I.list gj;obtain rfl:u'=fq p':=r';replace cW:=cW.isList
   simp only [cf,cN,cE,iF] at e
   subst e
   exact ⟨EqAt.bool_list k cW hu,RcAt.bool_list k cW hu,RcNeAt.bool_list k cW hu⟩
  | exc n'=>simp [cf] at e
  | mq n' m'=>simp [cf] at e
  | obj n1 m1 o1=>simp [cf] at e
  | g0 n1 m1=>simp [cf] at e
  | kW n1 m1=>simp [cf] at e
 | int k =>
  cases d' with
  | b8 =>
   subst h;obtain ⟨t,rfl⟩:=r
   subst h';obtain rfl:u'=nQ:=r'
   simp only [cf,cN,cE,iF] at e
   subst e
   exact ⟨EqAt.int_none k t,RcAt.int_none k t,RcNeAt.int_none k t⟩
  | bl k' =>
   subst h;obtain ⟨t,rfl⟩:=r
   subst h';obtain rfl:u'=qx k':=r'
   simp only [cf,cN,cE,iF] at e
   subst e
   exact ⟨EqAt.int_bool k t k',RcAt.int_bool k t k',RcNeAt.int_bool k t k'⟩
  | int k' =>
   subst h;obtain ⟨t,rfl⟩:=r
   subst h';obtain ⟨t',rfl⟩:=r'
   simp only [cf,cN,cE,iF] at e
   subst e
   exact ⟨EqAt.int_int k t k' t',RcAt.int_int k t k' t',RcNeAt.int_int k t k' t'⟩
  | str k' =>
   subst h;obtain ⟨t,rfl⟩:=r
   subst h';obtain ⟨t',rfl⟩:=r'
   simp only [cf,cN,cE,iF] at e
   subst e
   exact ⟨EqAt.int_str k t k' t',RcAt.int_str k t k' t',RcNeAt.int_str k t k' t'⟩
  | tup ds' =>
   subst h;obtain ⟨t,rfl⟩:=r
   obtain ⟨p',nY,rfl,gj,_⟩:=h';obtain ⟨its',_,cW,_⟩:=I.tuple gj;obtain rfl:u'=fq p':=r';replace cW:s.heap.IsTuple p' its'.toArray:=cW
   simp only [cf,cN,cE,iF] at e
   subst e
   exact ⟨EqAt.int_tuple k t cW hu,RcAt.int_tuple k t cW hu,RcNeAt.int_tuple k t cW hu⟩
  | lst zU ds' =>
   subst h;obtain ⟨t,rfl⟩:=r
   obtain ⟨p',nY,rfl,gj,_⟩:=h';obtain ⟨its',_,cW,_⟩:=I.list gj;obtain rfl:u'=fq p':=r';replace cW:=cW.isList
   simp only [cf,cN,cE,iF] at e
   subst e
   exact ⟨EqAt.int_list k t cW hu,RcAt.int_list k t cW hu,RcNeAt.int_list k t cW hu⟩
  | exc n'=>simp [cf] at e
  | mq n' m'=>simp [cf] at e
  | obj n1 m1 o1=>simp [cf] at e
  | g0 n1 m1=>simp [cf] at e
  | kW n1 m1=>simp [cf] at e
 | str k =>
  cases d' with
  | b8 =>
   subst h;obtain ⟨t,rfl⟩:=r
   subst h';obtain rfl:u'=nQ:=r'
   simp only [cf,cN,cE,iF] at e
   subst e
   exact ⟨EqAt.str_none k t,RcAt.str_none k t,RcNeAt.str_none k t⟩
  | bl k' =>
   subst h;obtain ⟨t,rfl⟩:=r
   subst h';obtain rfl:u'=qx k':=r'
   simp only [cf,cN,cE,iF] at e
   subst e
   exact ⟨EqAt.str_bool k t k',RcAt.str_bool k t k',RcNeAt.str_bool k t k'⟩
  | int k' =>
   subst h;obtain ⟨t,rfl⟩:=r
   subst h';obtain ⟨t',rfl⟩:=r'
   simp only [cf,cN,cE,iF] at e
   subst e
   exact ⟨EqAt.str_int k t k' t',RcAt.str_int k t k' t',RcNeAt.str_int k t k' t'⟩
  | str k' =>
   subst h;obtain ⟨t,rfl⟩:=r
   subst h';obtain ⟨t',rfl⟩:=r'
   simp only [cf,cN,cE,iF] at e
   subst e
   exact ⟨EqAt.str_str k t k' t',RcAt.str_str k t k' t',RcNeAt.str_str k t k' t'⟩
  | tup ds' =>
   subst h;obtain ⟨t,rfl⟩:=r
   obtain ⟨p',nY,rfl,gj,_⟩:=h';obtain ⟨its',_,cW,_⟩:=I.tuple gj;obtain rfl:u'=fq p':=r';replace cW:s.heap.IsTuple p' its'.toArray:=cW
   simp only [cf,cN,cE,iF] at e
   subst e
   exact ⟨EqAt.str_tuple k t cW hu,RcAt.str_tuple k t cW hu,RcNeAt.str_tuple k t cW hu⟩
  | lst zU ds' =>
   subst h;obtain ⟨t,rfl⟩:=r
   obtain ⟨p',nY,rfl,gj,_⟩:=h';obtain ⟨its',_,cW,_⟩:=I.list gj;obtain rfl:u'=fq p':=r';replace cW:=cW.isList
   simp only [cf,cN,cE,iF] at e
   subst e
   exact ⟨EqAt.str_list k t cW hu,RcAt.str_list k t cW hu,RcNeAt.str_list k t cW hu⟩
  | exc n'=>simp [cf] at e
  | mq n' m'=>simp [cf] at e
  | obj n1 m1 o1=>simp [cf] at e
  | g0 n1 m1=>simp [cf] at e
  | kW n1 m1=>simp [cf] at e
 | tup ds =>
  cases d' with
  | b8 =>
   obtain ⟨p,xs,rfl,hq,_⟩:=h;obtain ⟨aD,_,pl,_⟩:=I.tuple hq;obtain rfl:u=fq p:=r;replace pl:s.heap.IsTuple p aD.toArray:=pl
   subst h';obtain rfl:u'=nQ:=r'
   simp only [cf,cN,cE,iF] at e
   subst e
   exact ⟨EqAt.tuple_none pl hu,RcAt.tuple_none pl hu,RcNeAt.tuple_none pl hu⟩
  | bl k' =>
   obtain ⟨p,xs,rfl,hq,_⟩:=h;obtain ⟨aD,_,pl,_⟩:=I.tuple hq;obtain rfl:u=fq p:=r;replace pl:s.heap.IsTuple p aD.toArray:=pl
   subst h';obtain rfl:u'=qx k':=r'
   simp only [cf,cN,cE,iF] at e
   subst e
   exact ⟨EqAt.tuple_bool k' pl hu,RcAt.tuple_bool k' pl hu,RcNeAt.tuple_bool k' pl hu⟩
  | int k' =>
   obtain ⟨p,xs,rfl,hq,_⟩:=h;obtain ⟨aD,_,pl,_⟩:=I.tuple hq;obtain rfl:u=fq p:=r;replace pl:s.heap.IsTuple p aD.toArray:=pl
   subst h';obtain ⟨t',rfl⟩:=r'
   simp only [cf,cN,cE,iF] at e
   subst e
   exact ⟨EqAt.tuple_int k' t' pl hu,RcAt.tuple_int k' t' pl hu,RcNeAt.tuple_int k' t' pl hu⟩
  | str k' =>
   obtain ⟨p,xs,rfl,hq,_⟩:=h;obtain ⟨aD,_,pl,_⟩:=I.tuple hq;obtain rfl:u=fq p:=r;replace pl:s.heap.IsTuple p aD.toArray:=pl
   subst h';obtain ⟨t',rfl⟩:=r'
   simp only [cf,cN,cE,iF] at e
   subst e
   exact ⟨EqAt.tuple_str k' t' pl hu,RcAt.tuple_str k' t' pl hu,RcNeAt.tuple_str k' t' pl hu⟩
  | tup ds'=>exact (hn.1 _ _ rfl rfl).elim
  | lst zU ds' =>
   obtain ⟨p,xs,rfl,hq,_⟩:=h;obtain ⟨aD,_,pl,_⟩:=I.tuple hq;obtain rfl:u=fq p:=r;replace pl:s.heap.IsTuple p aD.toArray:=pl
   obtain ⟨p',nY,rfl,gj,_⟩:=h';obtain ⟨its',_,cW,_⟩:=I.list gj;obtain rfl:u'=fq p':=r';replace cW:=cW.isList
   simp only [cf,cN,cE,iF] at e
   subst e
   exact ⟨EqAt.tuple_list pl cW hu,RcAt.tuple_list pl cW hu,RcNeAt.tuple_list pl cW hu⟩
  | exc n'=>simp [cf] at e
  | mq n' m'=>simp [cf] at e
  | obj n1 m1 o1=>simp [cf] at e
  | g0 n1 m1=>simp [cf] at e
  | kW n1 m1=>simp [cf] at e
 | lst ro ds =>
  cases d' with
  | b8 =>
   obtain ⟨p,xs,rfl,hq,_⟩:=h;obtain ⟨aD,_,pl,_⟩:=I.list hq;obtain rfl:u=fq p:=r;replace pl:=pl.isList
   subst h';obtain rfl:u'=nQ:=r'
   simp only [cf,cN,cE,iF] at e
   subst e
   exact ⟨EqAt.list_none pl hu,RcAt.list_none pl hu,RcNeAt.list_none pl hu⟩
  | bl k' =>
   obtain ⟨p,xs,rfl,hq,_⟩:=h;obtain ⟨aD,_,pl,_⟩:=I.list hq;obtain rfl:u=fq p:=r;replace pl:=pl.isList
   subst h';obtain rfl:u'=qx k':=r'
   simp only [cf,cN,cE,iF] at e
   subst e
   exact ⟨EqAt.list_bool k' pl hu,RcAt.list_bool k' pl hu,RcNeAt.list_bool k' pl hu⟩
  | int k' =>
   obtain ⟨p,xs,rfl,hq,_⟩:=h;obtain ⟨aD,_,pl,_⟩:=I.list hq;obtain rfl:u=fq p:=r;replace pl:=pl.isList
   subst h';obtain ⟨t',rfl⟩:=r'
   simp only [cf,cN,cE,iF] at e
   subst e
   exact ⟨EqAt.list_int k' t' pl hu,RcAt.list_int k' t' pl hu,RcNeAt.list_int k' t' pl hu⟩
  | str k' =>
   obtain ⟨p,xs,rfl,hq,_⟩:=h;obtain ⟨aD,_,pl,_⟩:=I.list hq;obtain rfl:u=fq p:=r;replace pl:=pl.isList
   subst h';obtain ⟨t',rfl⟩:=r'
   simp only [cf,cN,cE,iF] at e
   subst e
   exact ⟨EqAt.list_str k' t' pl hu,RcAt.list_str k' t' pl hu,RcNeAt.list_str k' t' pl hu⟩
  | tup ds' =>
   obtain ⟨p,xs,rfl,hq,_⟩:=h;obtain ⟨aD,_,pl,_⟩:=I.list hq;obtain rfl:u=fq p:=r;replace pl:=pl.isList
   obtain ⟨p',nY,rfl,gj,_⟩:=h';obtain ⟨its',_,cW,_⟩:=I.tuple gj;obtain rfl:u'=fq p':=r';replace cW:s.heap.IsTuple p' its'.toArray:=cW
   simp only [cf,cN,cE,iF] at e
   subst e
   exact ⟨EqAt.list_tuple pl cW hu,RcAt.list_tuple pl cW hu,RcNeAt.list_tuple pl cW hu⟩
  | lst zU ds'=>exact (hn.2 _ _ _ _ rfl rfl).elim
  | exc n'=>simp [cf] at e
  | mq n' m'=>simp [cf] at e
  | obj n1 m1 o1=>simp [cf] at e
  | g0 n1 m1=>simp [cf] at e
  | kW n1 m1=>simp [cf] at e
 | exc n=>cases d'<;>simp [cf] at e
 | mq n m=>cases d'<;>simp [cf] at e
 | obj n1 m1 o1=>cases d'<;>simp [cf] at e
 | g0 n1 m1=>cases d'<;>simp [cf] at e
 | kW n1 m1=>cases d'<;>simp [cf] at e
open PySem.SeqAt in
theorem Uj(I:Inv X pins σ H s):∀(n:Nat) {A:Around} {u u':Value} {v v':V} {d d':D} {b:Bool},A.units+n<cLine->Is X.K O H v d->Is X.K O' H v' d'->RelV v u->RelV v' u'->cf n d d'=some b ->
  EqAt A s u u' b/\RcAt A s u u' b/\RcNeAt A s u u' (!b):=by
 intro n
 induction n with
 | zero =>
  intro A u u' v v' d d' b hu h h' r r' e
  refine YX I ‹_› h.yP h'.yP r r' e ⟨?_,?_⟩
  .rintro a c rfl rfl;simp [cf] at e
  .rintro a c ro zU rfl rfl;simp [cf] at e
 | succ n ih =>
  intro A u u' v v' d d' b hu h h' r r' e
  have elems:∀{xs ys:List V} {aD gi:List Value} {ds es:List D} {bs:List Bool},aV xs aD->aV ys gi->bx X.K O H xs ds->bx X.K O' H ys es->jM (AF (cf n) ds es)=some bs ->
    ∀j (h1:j<aD.toArray.size) (h2:j<gi.toArray.size),EqAt A.in1 s aD.toArray[j] gi.toArray[j] (bs.getD j false):=λ{xs ys aD gi ds es bs} rx ry ax ay ea j h1 h2=>by
   obtain ⟨d1,v1,e1,i1,r1⟩:=ZN rx ax h1
   obtain ⟨d2,v2,e2,i2,r2⟩:=ZN ry ay h2
   obtain ⟨hl,g⟩:=Ho ea
   have hz:(AF (cf n) ds es)[j]?=some (cf n d1 d2):=by rw [XX,e1,e2]
   have hj:j<bs.length:=by rw [<-hl];exact (xO.mp hz).1
   have:=g j bs[j] (mz hj)
   rw [hz] at this
   have e3:bs.getD j false=bs[j]:=by simp [hj]
   rw [e3]
   exact (ih (A:=A.in1) (by show A.units+1+n<_;ext hu) i1 i2 r1 r2 (gz this)).1
  by_cases ht:∃a c,d=.tup a/\d'=.tup c
  .obtain ⟨ds,es,rfl,rfl⟩:=ht
   obtain ⟨bs,e1,rfl⟩:=map_some (show (jM (AF (cf n) ds es)).map (λbs=>bs.all id&&decide (ds.length=es.length))=some b from e)
   obtain ⟨p,xs,rfl,hq,ax⟩:=h.yP
   obtain ⟨p',ys,rfl,gj,ay⟩:=h'.yP
   obtain ⟨aD,rx,pl,_⟩:=I.tuple hq
   obtain ⟨gi,ry,cW,_⟩:=I.tuple gj
   obtain rfl:u=fq p:=r
   obtain rfl:u'=fq p':=r'
   have pl:s.heap.IsTuple p aD.toArray:=pl
   have cW:s.heap.IsTuple p' gi.toArray:=cW
   have hlen:bs.length=min ds.length es.length:=by rw [<-(Ho e1).1,Yb]
   have l1:aD.toArray.size=ds.length:=by rw [iJ,<-rx.length,ax.length]
   have l2:gi.toArray.size=es.length:=by rw [iJ,<-ry.length,ay.length]
   have val:((pO (min aD.toArray.size gi.toArray.size)).all (λj=>bs.getD j false)&&aD.toArray.size==gi.toArray.size)=(bs.all id&&decide (ds.length=es.length)):=by
    rw [l1,l2,all_range hlen]
    rfl
   have rc:=RcAt.tuples pl cW (by ext hu) (elems rx ry ax ay e1)
   have rn:=RcNeAt.tuples pl cW (by ext hu) (elems rx ry ax ay e1)
   rw [val] at rc rn
   refine ⟨?_,rc,rn⟩
   by_cases hp:p=p'
   .subst hp
    have:=b0J I (n+1) h h' (show cf (n+1) (.tup ds) (.tup es)=some (bs.all id&&decide (ds.length=es.length)) by show (jM (AF (cf n) ds es)).map (λbs=>bs.all id&&decide (ds.length=es.length))=_;rw [e1];rfl)
    rw [this]
    exact EqAt.same _
   .exact .of_refs hp rc
  by_cases hl:∃a c ro zU,d=.lst ro a/\d'=.lst zU c
  .obtain ⟨ds,es,ro,zU,rfl,rfl⟩:=hl
   have e0:=e
   replace e:(if ds.length=es.length then (jM (AF (cf n) ds es)).map λbs=>bs.all id else some false)=some b:=e
   obtain ⟨p,xs,rfl,hq,ax⟩:=h.yP
   obtain ⟨p',ys,rfl,gj,ay⟩:=h'.yP
   obtain ⟨aD,rx,pl,_⟩:=I.list hq
   obtain ⟨gi,ry,cW,_⟩:=I.list gj
   obtain rfl:u=fq p:=r
   obtain rfl:u'=fq p':=r'
   have l1:aD.toArray.size=ds.length:=by rw [iJ,<-rx.length,ax.length]
   have l2:gi.toArray.size=es.length:=by rw [iJ,<-ry.length,ay.length]
   have fin:RcAt A s (.ref p) (.ref p') b->RcNeAt A s (.ref p) (.ref p') (!b)->EqAt A s (.ref p) (.ref p') b/\RcAt A s (.ref p) (.ref p') b/\RcNeAt A s (.ref p) (.ref p') (!b):=λrc rn=>by
    refine ⟨?_,rc,rn⟩
    by_cases hp:p=p'
    .subst hp
     rw [b0J I (n+1) h h' e0]
     exact EqAt.same _
    .exact .of_refs hp rc
   by_cases hlen:ds.length=es.length
   .rw [if_pos hlen] at e
    obtain ⟨bs,e1,rfl⟩:=map_some e
    have hbs:bs.length=ds.length:=by rw [<-(Ho e1).1,Yb];ext hlen
    have rc:=RcAt.lists pl.isList cW.isList (by ext l1 l2 hlen) (by ext hu) (elems rx ry ax ay e1)
    have rn:=RcNeAt.lists pl.isList cW.isList (by ext l1 l2 hlen) (by ext hu) (elems rx ry ax ay e1)
    rw [l1,all_range hbs] at rc rn
    exact fin rc rn
   .rw [if_neg hlen] at e
    cases e
    have iV:(aD.toArray.size != gi.toArray.size)=true:=by rw [l1,l2];simpa using hlen
    exact fin (RcAt.lists_lengths pl.isList cW.isList iV (by ext hu)) (RcNeAt.lists_lengths pl.isList cW.isList iV (by ext hu))
  refine YX I (by ext hu) h.yP h'.yP r r' e ⟨λa c e1 e2=>ht ⟨a,c,e1,e2⟩,λa c ro zU e1 e2=>hl ⟨a,c,ro,zU,e1,e2⟩⟩
noncomputable def bH:D->D->Option Sl:=λa b=>(cf 8 a b).map λk=>.sh (.bl k)
noncomputable def CC:D->D->Option Sl:=λa b=>(cf 8 a b).map λk=>.sh (.bl !k)
theorem ff(hu:X.A.units+8<cLine):nu X (compareOp .Eq) bH:=by
 refine ⟨λx y H Q=>∃O O' a b k,Is X.K O H x a/\Is X.K O' H y b/\cf 8 a b=some k/\Q (.bl k) H,?_,λO H x y a b s Q hO hx hy e q=>?_⟩
 .intro pins s σ H x y v u Q I rx ry h
  obtain ⟨O,O',a,b,k,hx,hy,e,q⟩:=h
  exact (Uj I 8 hu hx hy rx ry e).2.1 _ _ _ _ ⟨.bl k,H,I,rfl,q⟩
 .obtain ⟨k,e1,rfl⟩:=map_some e
  exact ⟨O,O,a,b,k,hx,hy,e1,q _ H (aG.refl _) (Is.bl _)⟩
theorem b8v(hu:X.A.units+8<cLine):nu X (compareOp .NotEq) CC:=by
 refine ⟨λx y H Q=>∃O O' a b k,Is X.K O H x a/\Is X.K O' H y b/\cf 8 a b=some k/\Q (.bl !k) H,?_,λO H x y a b s Q hO hx hy e q=>?_⟩
 .intro pins s σ H x y v u Q I rx ry h
  obtain ⟨O,O',a,b,k,hx,hy,e,q⟩:=h
  exact (Uj I 8 hu hx hy rx ry e).2.2 _ _ _ _ ⟨.bl _,H,I,rfl,q⟩
 .obtain ⟨k,e1,rfl⟩:=map_some e
  exact ⟨O,O,a,b,k,hx,hy,e1,q _ H (aG.refl _) (Is.bl _)⟩
end
theorem Fx.u8{X:Cx}{N:List Str}{sc:Scope}{k:Nat}{full:Bool}(h:Fx X N sc k full):X.A.units+8<cLine:=by have:=h.room.un;ext this
theorem HW{X X':Cx}{x:Str}(e4:X'.mg=X.mg)(h:X.mg x=none):X'.mg x=none:=by rw [e4];exact h
end DL
namespace DL
open PySem PySem.Spec PyProof.Rows L2
theorem b1C{P:Program}{w:World}{K:aQ}{tg:Expr}(it:Addr)(lo:Int)(n:Nat):Turn P w K tg (v9 lo n) [it] it (λi h=>IsLongIter h it (lo+(i:Nat)*1) ((n:Int)-(i:Nat)) 1) where
 mem:=by simp
 obj:=λi h st b hb=>by
  have e:b=it:=by simpa using hb
  subst e
  exact ⟨_,st,λv z=>by
   have z':Data.fields _=Data.cell v:=z
   cases z'⟩
 keep:=λi h h' st k=>k it (by simp) _ st
 item:=by
  intro X hP hw hK hc i pins s σ H E I hf st hg
  subst hP hw hK
  obtain ⟨f0,f1,f2,f3,f4,f5⟩:=hf it (by simp)
  have W:=Walks.longrange (prog:=X.prog) (w:=X.w) (I.ok.hd hc) it lo 1 n
  refine W.item i s _ _ hg st λv h' tk hv aA kk=>?_
  obtain ⟨t,rfl⟩:=hv
  have I1:Inv X pins σ H { s with heap:=h',toks:=tk }:=I.turned (λb o hb e=>kk b o (by simpa using hb) e) f0 f1 f3 f4 f5
  refine ⟨_,rfl,NT (s:={ s with heap:=h',toks:=tk }) (n:="longrange_iterator") aA rfl rfl (by decide) ⟨.int (lo+i),H,I1,⟨t,?_⟩,⟨rfl,rfl⟩,aA,λb hb=>(hf b hb).1⟩⟩
  rw [Sh]
 done:=by
  intro X hP hw hK hc i pins s σ H E I hf st hg
  subst hP hw hK
  obtain ⟨f0,f1,f2,f3,f4,f5⟩:=hf it (by simp)
  exact wpAny_pyNext_long_end (I.ok.hd hc) st (by have:n<=i:=hg;ext this) λh' eb=>⟨rfl,I.turned (t':=s.toks) (λb o hb e=>eb b o hb e) f0 f1 f3 f4 f5⟩
 self:=λ_ _ _ _ _ st h=>wpAny_pyIter_longiter st h
section
variable {X:Cx}{tg:Expr}
theorem a8L{pins:List (Addr×Obj)}{σ:L2.St}{H:Hp}{s:Shared}{R:It->Hp->Prop}{E:Value->Shared->Prop}{lo hi:Int}{t u v:Tok}{tk:Nat}(I:Inv X pins σ H s)
  (q:R (v9 lo (hi-lo).toNat) H):wpAny (model X.prog X.w) X.A (pyIter (.ref s.heap.objs.size)) (Wx X pins σ tg R) E { s with heap:=s.heap.push { cls:=.type "range",data:=.fields #[.int lo t,.int hi u,.int 1 v] },toks:=tk }:=by
 have I1:Inv X pins σ H { s with heap:=s.heap.push { cls:=.type "range",data:=.fields #[.int lo t,.int hi u,.int 1 v] },toks:=tk }:=I.kept λb o e=>gg _ e
 have e1:lo+((0:Nat):Int)*1=lo:=by simp
 have e2:(((hi-lo).toNat:Nat):Int)-((0:Nat):Int)=X4 lo hi 1:=by rw [rangeSize_one];split<;>lia
 have fin:∀b∈[(s.heap.push { cls:=.type "range",data:=.fields #[.int lo t,.int hi u,.int 1 v] }).objs.size],mm X pins H b:=λb hb=>by
  have e:b=(s.heap.push { cls:=.type "range",data:=.fields #[.int lo t,.int hi u,.int 1 v] }).objs.size:=by simpa using hb
  subst e
  exact I1.Aq (cT _) (I1.cw.fresh (cT _))
 by_cases Xa:Builtin.Range.small lo hi 1=true
 .refine wpAny_pyIter_range (Sg ..) Xa ?_
  refine ⟨_,[(s.heap.push { cls:=.type "range",data:=.fields #[.int lo t,.int hi u,.int 1 v] }).objs.size],_,_,H,rfl,I1.kept (t':=tk) λb o e=>gg _ e,a7t _ lo (hi-lo).toNat,?_,fin,q⟩
  show IsRangeIter _ _ (lo+((0:Nat):Int)*1) ((((hi-lo).toNat:Nat):Int)-((0:Nat):Int)) 1
  rw [e1,e2]
  exact lO _ rfl
 .refine wpAny_pyIter_longrange (Sg ..) (by simpa using Xa) ?_
  refine ⟨_,[(s.heap.push { cls:=.type "range",data:=.fields #[.int lo t,.int hi u,.int 1 v] }).objs.size],_,_,H,rfl,I1.kept (t':=tk) λb o e=>gg _ e,b1C _ lo (hi-lo).toNat,?_,fin,q⟩
  show IsLongIter _ _ (lo+((0:Nat):Int)*1) ((((hi-lo).toNat:Nat):Int)-((0:Nat):Int)) 1
  rw [e1,e2]
  exact lO _ rfl
noncomputable def b8V(ta:TA):TI:=λσ H R=>ta σ H λvs H1=>∃j:Int,vs=[.int j]/\R (v9 0 j.toNat) H1
noncomputable def b8U(ta:TA):TI:=λσ H R=>ta σ H λvs H1=>∃i j:Int,vs=[.int i,.int j]/\R (v9 i (j-i).toNat) H1
theorem b04(hg:Gl X "range")(hm:X.mg "range" = none)(ha:PA X [a] ta)(hs:starEach [a] X.env=[(false,eval a X.env)]:=by rfl):PI X tg (.Call (.Name "range" p) [a] [] pos) (b8V ta):=by
 intro pins s σ H R I h
 refine Call_ (F5 I hg hm boot_range (NL (cq (ha pos pins s σ H _ I h) λus s1 ⟨vs,H1,I1,r1,q1⟩=>?_) hs rfl))
 obtain ⟨j,e,q⟩:=q1
 subst e
 cases r1 with
 | cons r rr =>
  cases rr
  obtain ⟨t,rfl⟩:=r
  exact call_range_1 (a8L I1 (by simpa using q))
theorem b03{a b:Expr}{ta:TA}{p pos:Pos}(hg:Gl X "range")(hm:X.mg "range" = none)(ha:PA X [a,b] ta)(hs:starEach [a,b] X.env=[(false,eval a X.env),(false,eval b X.env)]:=by rfl)(n6:starEach [b] X.env=[(false,eval b X.env)]:=by rfl):
  PI X tg (.Call (.Name "range" p) [a,b] [] pos) (b8U ta):=by
 intro pins s σ H R I h
 refine Call_ (F5 I hg hm boot_range (NL (cq (ha pos pins s σ H _ I h) λus s1 ⟨vs,H1,I1,r1,q1⟩=>?_) (by rw [hs,n6]) (by rw [n6];rfl)))
 obtain ⟨i,j,e,q⟩:=q1
 subst e
 cases r1 with
 | cons r rr =>
  cases rr with
  | cons r' rr =>
   cases rr
   obtain ⟨t,rfl⟩:=r
   obtain ⟨t',rfl⟩:=r'
   exact call_range_2 (a8L I1 q)
noncomputable def Lm:List D->Option (List D)
 | [.int j]=>some (iL 0 j.toNat)
 | _=>none
noncomputable def NX:List D->Option (List D)
 | [.int i,.int j]=>some (iL i (j-i).toNat)
 | _=>none
theorem b38(JS:Gl X "range")(hm:X.mg "range" = none)(ha:AV X [a] fs)(h1:starEach [a] X.env=[(false,eval a X.env)]:=by rfl):IV X tg (.Call (.Name "range" p) [a] [] pos) (w5 Lm fs):=by
 obtain ⟨ti,pi,ki⟩:=ha
 refine ⟨_,b04 JS hm pi h1,λO B σ H env ds R Rl e q=>?_⟩
 obtain ⟨as,e1,e2⟩:=bind_some e
 refine ki O B σ H env as _ Rl e1 λvs H1 s1 r1=>?_
 unfold Lm at e2
 split at e2
 .cases e2
  exact ⟨_,b0D r1,q _ H1 s1 (ZV _ _)⟩
 .cases e2
theorem b37{a b:Expr}{fs:En->Option (List D)}{p pos:Pos}(JS:Gl X "range")(hm:X.mg "range" = none)(ha:AV X [a,b] fs)(h1:starEach [a,b] X.env=[(false,eval a X.env),(false,eval b X.env)]:=by rfl)
  (h2:starEach [b] X.env=[(false,eval b X.env)]:=by rfl):IV X tg (.Call (.Name "range" p) [a,b] [] pos) (w5 NX fs):=by
 obtain ⟨ti,pi,ki⟩:=ha
 refine ⟨_,b03 JS hm pi h1 h2,λO B σ H env ds R Rl e q=>?_⟩
 obtain ⟨as,e1,e2⟩:=bind_some e
 refine ki O B σ H env as _ Rl e1 λvs H1 s1 r1=>?_
 unfold NX at e2
 split at e2
 .cases e2
  exact ⟨_,_,Vo r1,q _ H1 s1 (ZV _ _)⟩
 .cases e2
end
end DL
namespace DL
open PySem PySem.Spec PyProof.Rows L2
def WK(b:Bool)(h:Heap)(l:Addr)(items:Array Value):Prop:=match b with
 | true=>h.IsList l items
 | false=>h.IsTuple l items
section
variable {prog:Program}{w:World}{A:Around}{E:Value->Shared->Prop}{s:Shared}
end
end DL
namespace DL
open PySem PySem.Spec PyProof.Rows L2
section
variable {X:Cx}{pins:List (Addr×Obj)}{σ:L2.St}{H:Hp}{s:Shared}
theorem YN(I:Inv X pins σ H s)(h:Sq X.K H b l xs):∃aD:List Value,aV xs aD/\WK b s.heap l aD.toArray:=by
 cases b with
 | true=>obtain ⟨aD,r,p,_⟩:=I.list h;exact ⟨aD,r,p.isList⟩
 | false=>obtain ⟨aD,r,p,_⟩:=I.tuple h;exact ⟨aD,r,p⟩
end
section
variable {prog:Program}{w:World}{A:Around}{E:Value->Shared->Prop}{s:Shared}
end
section
variable {X:Cx}{elts:List Expr}{kk:Nat}{tp:Pos}
end
end DL
namespace DL
open PySem PySem.Spec PyProof.Rows L2
section
variable {prog:Program}{w:World}{A:Around}{R:Result->Shared->Prop}{I:Addr}{fp wr:List Addr}{n:Nat}{P:Nat->Value->Prop}{St:Nat->Heap->Prop}{kw:List (Str×Value)}
theorem b2g(W:Walks prog w A.in1 I fp wr n P St)(bt:Nat->Nat->Bool)(Ak:CmpOf prog w A.in1 .Lt P bt)(S:Addr)(pJ:S∉fp):
  ∀(k j:Nat) (s:Shared) (vb:Value) (c:Nat),n-(j+1)=k->j+1<=n->St (j+1) s.heap->P (argBest bt j) vb->s.heap.get? S=some { cls:=.type "list",dict:=none,data:=.seq #[vb,vb] c,slots:=#[] } ->
  (∀v h' tk,P (argBest bt (n-1)) v->(∀b o,b∉wr->b≠S->s.heap.get? b=some o->h'.get? b=some o)->R (.ok (.ret v)) { s with heap:=h',toks:=tk })->codeAny (model prog w) A (.builtin "min.loop" ⟨[.ref I,.none,.ref S],kw⟩) R s:=by
 have MX:S∉wr:=λh=>pJ (W.sub _ h)
 have n8:(toString "min" ++ toString ".loop":String) = "min.loop":=by decide
 intro k
 induction k with
 | zero =>
  intro j s vb c hk hj l6 MY hS hR
  have Xh:j+1=n:=by ext hk hj
  refine CU SH ?_
  rw [D1 FG _]
  show wpAny _ A.in1 (seqItems? (.ref S) >>= _) _ _ s
  refine aM (KH hS rfl ?_)
  show wpAny _ A.in1 (tryCatch (pyNext (.ref I)) _ >>= _) _ _ s
  refine aM (KG (W.done s _ _ (Xh▸l6) λh' tk n9=>?_))
  have DM:=n9 S _ MX hS
  show wpAny _ A.in1 (updateSeq S (λ_=>#[]) >>= _) _ _ _
  refine aM (K8 DM rfl (aM (M' (cp ?_))))
  exact hR vb _ tk (by rw [<-Xh];exact MY) λb o vh Cw e=>(BK _ _ (oX Cw)).trans (n9 b o vh e)
 | succ k ih =>
  intro j s vb c hk hj l6 MY hS hR
  have cU:j+1<n:=by ext hk
  refine CU SH ?_
  rw [D1 FG _]
  show wpAny _ A.in1 (seqItems? (.ref S) >>= _) _ _ s
  refine aM (KH hS rfl ?_)
  show wpAny _ A.in1 (tryCatch (pyNext (.ref I)) _ >>= _) _ _ s
  refine aM (KG (W.item (j+1) s _ _ cU l6 λv h' tk hP Ct n9=>?_))
  have DM:=n9 S _ MX hS
  show wpAny _ A.in1 (tryCatch (holding [v,v] (richCompare .Lt v vb >>= _)) _ >>= _) _ _ _
  refine aM (KG (zj (aM (Ak (j+1) (argBest bt j) v vb _ _ _ hP MY ?_))))
  refine aM (zj (CY (aM (M' (cp ?_)))))
  cases hb:bt (j+1) (argBest bt j) with
  | true =>
   simp only [if_true]
   refine aM (K8 DM rfl (aM (M' ?_)))
   rw [n8]
   refine cp ⟨CZ FG _,ih (j+1) _ v _ (by ext hk) cU (W.frame _ _ _ Ct λb J0 o e=>?_) (by simp only [argBest,hb,if_true];exact hP) (GW _ DM rfl) λv' Ka zJ J7 Aj=>?_⟩
   .exact (BK _ _ (λh:S=b=>pJ (by rw [h];exact J0))).trans e
   .exact hR v' Ka zJ J7 λb o vh Cw e=>Aj b o vh Cw ((BK _ _ (oX Cw)).trans (n9 b o vh e))
  | false =>
   simp only [DX,if_false]
   refine aM (M' ?_)
   rw [n8]
   refine cp ⟨CZ FG _,ih (j+1) _ vb c (by ext hk) cU Ct (by simp only [argBest,hb,DX,if_false];exact MY) DM λv' Ka zJ J7 Aj=>?_⟩
   exact hR v' Ka zJ J7 λb o vh Cw e=>Aj b o vh Cw (n9 b o vh e)
theorem b1l(W:Walks prog w A.in1 I fp wr n P St)(bt:Nat->Nat->Bool)(Ak:CmpOf prog w A.in1 .Lt P bt)(S:Addr)(pJ:S∉fp)(l6:St 0 s.heap)
  (hS:s.heap.get? S=some { cls:=.type "list",dict:=none,data:=.seq #[] c,slots:=#[] })
  (hR:∀v h' tk,(0<n/\P (argBest bt (n-1)) v\/n=0/\v=dv)->(∀b o,b∉wr->b≠S->s.heap.get? b=some o->h'.get? b=some o)->R (.ok (.ret v)) { s with heap:=h',toks:=tk }):
  codeAny (model prog w) A (.builtin "min.loop" ⟨[.ref I,.none,.ref S],[(nm,dv)]⟩) R s:=by
 have MX:S∉wr:=λh=>pJ (W.sub _ h)
 have n8:(toString "min" ++ toString ".loop":String) = "min.loop":=by decide
 refine CU SH ?_
 rw [D1 FG _]
 show wpAny _ A.in1 (seqItems? (.ref S) >>= _) _ _ s
 refine aM (KH hS rfl ?_)
 show wpAny _ A.in1 (tryCatch (pyNext (.ref I)) _ >>= _) _ _ s
 by_cases hn:0<n
 .refine aM (KG (W.item 0 s _ _ hn l6 λv h' tk hP Ct n9=>?_))
  have DM:=n9 S _ MX hS
  show wpAny _ A.in1 (updateSeq S (λ_=>#[v,v]) >>= _) _ _ _
  refine aM (K8 DM rfl ?_)
  rw [n8]
  refine cp ⟨CZ FG _,b2g W bt Ak S pJ _ 0 _ v _ rfl hn (W.frame _ _ _ Ct λb J0 o e=>?_) hP (GW _ DM rfl) λv' Ka zJ J7 Aj=>?_⟩
  .exact (BK _ _ (λh:S=b=>pJ (by rw [h];exact J0))).trans e
  .exact hR v' Ka zJ (.inl ⟨hn,J7⟩) λb o vh Cw e=>Aj b o vh Cw ((BK _ _ (oX Cw)).trans (n9 b o vh e))
 .have h0:n=0:=by ext hn
  subst h0
  refine aM (KG (W.done s _ _ l6 λh' tk n9=>?_))
  show wpAny _ A.in1 (rule _ >>= _) _ _ _
  exact aM (KD (cp (hR dv h' tk (.inr ⟨rfl,rfl⟩) λb o vh _ e=>n9 b o vh e)))
end
section
variable {prog:Program}{w:World}{A:Around}{E:Value->Shared->Prop}{s:Shared}
theorem b3i(a d:Value):argsOk "min" ⟨[a],[("default",d)]⟩:=by unfold argsOk;kernel_rfl
theorem b4H{id:String}{b:Builtin}{args:List Value}{kw:List (Str×Value)}{Q:Value->Shared->Prop}(hk:builtinKind id=none)(hp:plainId id=true)(hb:entryFor table id=some b)(ha:argsOk id ⟨args,kw⟩)
  (hc:wpAny (model prog w) A.in1 (b ⟨args,kw⟩) (λfin s'=>match fin with
   | .done f=>(match (Except.ok f:Result) with | .ok (.ret v)=>Q v s' | .ok _=>False | .error e=>E e s')
   | .again c'=>c'.quiet=true/\codeAny (model prog w) A c' (λr s'=>match r with | .ok (.ret v)=>Q v s' | .ok _=>False | .error e=>E e s') s') E s):
  wpAny (model prog w) A (call (.builtin id) args kw) Q E s:=by
 refine Nf (codeAny_call_builtin hp hb ?_)
 simp only [checkBuiltinCall,hk]
 cases Rb:Manifest.signature? id with
 | none=>exact cp hc
 | some sig =>
  simp only [argsOk,Rb] at ha
  have h2:Bind.checkArgs id sig ⟨args,kw⟩=pure ():=ha
  show wpAny _ A.in1 (Bind.checkArgs id sig ⟨args,kw⟩) _ _ s
  rw [h2];exact cp hc
theorem b3a
  (h:wpAny (model prog w) A.in1 (pyIter x) (λit dM=>∃I fp wr n P St bt,it=.ref I/\Walks prog w A.in1 I fp wr n P St/\St 0 dM.heap/\(∀b∈fp,b<dM.heap.objs.size)/\CmpOf prog w A.in1 .Lt P bt /\
   ∀v h' tk,(0<n/\P (argBest bt (n-1)) v\/n=0/\v=dv)->(∀b o,b∉wr->dM.heap.get? b=some o->h'.get? b=some o)->Q v { dM with heap:=h',toks:=tk }) E s):
  wpAny (model prog w) A (call (.builtin "min") [x] [("default",dv)]) Q E s:=by
 have n8:(toString "min" ++ toString ".loop":String) = "min.loop":=by decide
 refine b4H F.kind_min F.plain_min F.entry_min (b3i x dv) ?_
 show wpAny _ A.in1 (Yu "min" ["key","default"] 0 ⟨[],[("default",dv)]⟩ >>= _) _ _ s
 refine aM (DT (show Yu "min" ["key","default"] 0 ⟨[],[("default",dv)]⟩=pure [none,some dv] from rfl) ?_)
 refine aM (cp ?_)
 refine aM (t5 h (λit dM tD=>?_) λ_ _ e=>e)
 obtain ⟨I,fp,wr,n,P,St,bt,rfl,W,l6,tG,Ak,hQ⟩:=tD
 refine aM (AK ?_)
 have pJ:dM.heap.objs.size∉fp:=λhm=>AB _ (tG _ hm)
 rw [n8]
 refine cp ⟨CZ FG _,b1l (nm:="default") (dv:=dv) W bt Ak dM.heap.objs.size pJ (W.frame _ _ _ l6 λb _ o e=>gg _ e) (lO _ rfl) λv h' tk hP hk=>?_⟩
 exact hQ v h' tk hP λb o vh e=>hk b o vh (iE (fI e)) (gg _ e)
end
section
variable {X:Cx}
theorem b3C(hc:X.calm=true){pins:List (Addr×Obj)}{s:Shared}{σ:L2.St}{H:Hp}{Q:VK}{p:Addr}{k:Bool}{ns:List Int}{dv:Value}{v:V}(I:Inv X pins σ H s)(rd:RelV v dv)(hq:Sq X.K H k p (ns.map V.int))(q1:ns≠[]->Q (.int (jx ns)) H)(q2:ns=[]->Q v H):
  wpAny (model X.prog X.w) X.A (call (.builtin "min") [.ref p] [("default",dv)]) (EP X pins σ Q) X.xe s:=by
 refine b3a (U7 (A':=X.A.in1) I (I.ok.hd hc) hq λaD h2 St rv W EH k1 tG=>?_)
 have hl:aD.length=ns.length:=by rw [<-rv.length];simp
 refine ⟨_,_,_,_,_,_,_,rfl,W,EH,tG,CmpOf.ints_lt (λi=>ns.getD i 0) (λi v hv=>LZ rv hv),λu h' tk hv hk=>?_⟩
 rcases hv with ⟨hp,hv⟩ | ⟨h0,rfl⟩
 .obtain ⟨t,e⟩:=LZ rv hv
  obtain ⟨b1,b2⟩:=Z9 ns (aD.length-1) (by ext hl hp)
  have e2:ns.take (aD.length-1+1)=ns:=by rw [FR];ext hl
  rw [e2] at b2
  refine ⟨.int (jx ns),H,OZ I k1 hk,⟨t,?_⟩,q1 (G3.mp (by ext hl hp))⟩
  rw [e,<-b2]
 .exact ⟨v,H,OZ I k1 hk,rd,q2 (Lb.mp (by ext hl h0))⟩
theorem b55(hc:X.calm=true)(hg:Gl X "min")(hm:X.mg "min" = none)(he:PE X e te)(hd:PE X d td)(hs:starEach [e] X.env=[(false,eval e X.env)]:=by rfl):
  PE X (.Call (.Name "min" p) [e] [⟨some "default",d,kp⟩] pos) (λσ H Q=>te σ H λx H1=>td σ H1 λv H2=>∃a k ns,x=.ref a/\Sq X.K H2 k a (CQ V.int ns)/\(ns≠[]->Q (.int (jx ns)) H2)/\(ns=[]->Q v H2)):=by
 intro pins s σ H Q I h
 refine KR (F5 I hg hm boot_min ?_)
 refine callWith_builtin_kwB (first:=[]) (by rw [hs];rfl) rfl ?_
 rw [hs]
 refine evalArgs_kwB rfl ?_
 refine X7 (cq (he pins s σ H _ I h) λu s1 ⟨x,H1,I1,r1,q1⟩=>Yj ?_)
 refine kws_cons (cq (hd pins s1 σ H1 _ I1 q1) λw s2 ⟨v,H2,I2,r2,a,k,ns,ex,hq,q2,q3⟩=>kws_nil ?_)
 subst ex
 cases r1
 exact b3C hc I2 r2 hq q2 q3
noncomputable def NR(f:En->Option (Bool×List D))(g:En->Option Sl):En->Option Sl:=λenv=>(f env).bind λx=>(g env).bind λr=>(vU x.2).bind λns=>match r with
 | .sh d=>some (.sh (if ns=[] then d else .int (jx ns)))
 | _=>none
theorem b6P(hg:Gl X "min")(hm:X.mg "min" = none)(hc:X.calm=true)(ha:BV X a ba)(hd:EV X d fd)(hs:starEach [a] X.env=[(false,eval a X.env)]:=by rfl):
  EV X (.Call (.Name "min" p) [a] [⟨some "default",d,kp⟩] pos) (NR ba fd):=by
 obtain ⟨t,pt,k⟩:=ha
 obtain ⟨t',pt',k'⟩:=hd
 refine ⟨_,b55 hc hg hm pt pt' hs,λO B σ H env s Q R e q=>?_⟩
 obtain ⟨⟨kk,ds⟩,e1,e2⟩:=bind_some e
 obtain ⟨r,ed,e3⟩:=bind_some e2
 obtain ⟨ns,e3,e4⟩:=bind_some e3
 have DN:=L4 e3
 dsimp only at DN
 subst DN
 refine k O B σ H env kk _ _ R e1 λl xs H1 s1 hq hx=>?_
 refine k' O B σ H1 env r _ (R.grow s1) ed λv H2 s2 r2=>?_
 have hx2:=hx.grow s2
 have ex:=LV hx2
 subst ex
 cases r with
 | sh dd =>
  obtain rfl:=gz (show some (Sl.sh (if ns=[] then dd else .int (jx ns)))=some s from e4)
  refine ⟨l,kk,ns,rfl,hq.grow s2,λhn=>?_,λhn=>?_⟩
  .rw [if_neg hn] at q
   exact q _ H2 (s1.trans s2) (Is.int _)
  .rw [if_pos hn] at q
   exact q _ H2 (s1.trans s2) (r2.is λq=>(R.grow s1).oo)
 | _=>cases e4
end
end DL
namespace SO
local macro_rules
| `(tactic| obtain $p:rcasesPatMed:=$e:term)=>do
 let n:=(p.raw.find? (·.isToken "|")).isNone
 if n && (p.raw.find? (·.isToken ",")).isSome then `(tactic| first | (refine Classical.byContradiction fun hn=>?_; rcases $e:term with $p:rcasesPatMed; refine hn ?_; clear hn) | rcases $e:term with $p:rcasesPatMed)
 else Lean.Macro.throwUnsupported
section pure
variable {α:Type}
def ju(κ:α->Int)(l:List α):Prop:=l.Pairwise λx y=>κ x<κ y
structure Inv(κ:α->Int)(la lb out:List α)(ia ib:Nat):Prop where
 perm:out.Perm (la.take ia++lb.take ib)
 pC:ju κ out
 lo:∀x∈out,(∀y∈la.drop ia,κ x<κ y)/\∀y∈lb.drop ib,κ x<κ y
variable {κ:α->Int}{la lb out:List α}{ia ib:Nat}
theorem Inv.sym(h:Inv κ la lb out ia ib):Inv κ lb la out ib ia:=⟨h.perm.trans K',h.pC,λx hx=>⟨(h.lo x hx).2,(h.lo x hx).1⟩⟩
theorem Hq(h:ju κ l)(i:Nat):ju κ (l.drop i):=h.sublist (List.drop_sublist ..)
theorem U8(h:ju κ l)(i:Nat):ju κ (l.take i):=h.sublist (List.take_sublist ..)
theorem Vm(h:ju κ l)(i:Nat):∀x∈l.take i,∀y∈l.drop i,κ x<κ y:=by
 have:ju κ (l.take i++l.drop i):=by rw [xN];exact h
 exact (zo.mp this).2.2
theorem Inv.a(h:Inv κ la lb out ia ib)(sa:ju κ la)(k:Nat)(hk:∀x∈(la.drop ia).take k,∀y∈lb.drop ib,κ x<κ y):Inv κ la lb (out++(la.drop ia).take k) (ia+k) ib:=by
 refine ⟨?_,zo.mpr ⟨h.pC,U8 (Hq sa ia) k,λx hx y hy=>(h.lo x hx).1 y (FE hy)⟩,λx hx=>?_⟩
 .rw [List.take_add,mx]
  refine (h.perm.append_right _).trans ?_
  rw [mx]
  exact K'.append_left _
 .rw [<-List.drop_drop]
  rcases nj.mp hx with hx | hx
  .exact ⟨λy hy=>(h.lo x hx).1 y (G5 hy),(h.lo x hx).2⟩
  .exact ⟨λy hy=>Vm (Hq sa ia) k x hx y hy,hk x hx⟩
theorem Inv.last(h:Inv κ la lb out ia ib)(sa:ju κ la)(sb:ju κ lb)(hm:∀x∈lb.drop ib,∀y∈la.drop ia,κ x<κ y):ju κ (out++lb.drop ib++la.drop ia)/\(out++lb.drop ib++la.drop ia).Perm (la++lb):=by
 refine ⟨zo.mpr ⟨zo.mpr ⟨h.pC,Hq sb ib,λx hx=>(h.lo x hx).2⟩,Hq sa ia,λx hx y hy=>?_⟩,?_⟩
 .rcases nj.mp hx with hx | hx
  .exact (h.lo x hx).1 y hy
  .exact hm x hx y hy
 .have e:la++lb=(la.take ia++la.drop ia)++(lb.take ib++lb.drop ib):=by rw [xN,xN]
  rw [e,mx]
  refine (h.perm.append_right _).trans ?_
  simp only [mx]
  refine Nv _ ?_
  refine K'.trans ?_
  simp only [mx]
  refine (K').trans ?_
  simp only [mx]
  refine Nv _ ?_
  exact C1 _
theorem Inv.done(h:Inv κ la lb out ia ib)(sa:ju κ la)(sb:ju κ lb)(hm:∀x∈la.drop ia,∀y∈lb.drop ib,κ x<κ y):ju κ (out++la.drop ia++lb.drop ib)/\(out++la.drop ia++lb.drop ib).Perm (la++lb):=
 have q:=h.sym.last sb sa hm
 ⟨q.1,q.2.trans K'⟩
theorem JE:Inv κ la lb [] 0 0:=⟨by simp,DW,λx hx=>nomatch hx⟩
theorem b8L(sa:ju κ A)(sb:ju κ B)(h1:∀x∈A.take k,∀y∈B,κ x<κ y)(h2:∀x∈B.drop m,∀y∈A,κ y<κ x)(sm:ju κ M)(pm:M.Perm (A.drop k++B.take m)):
  ju κ (A.take k++M++B.drop m)/\(A.take k++M++B.drop m).Perm (A++B):=by
 constructor
 .refine zo.mpr ⟨zo.mpr ⟨U8 sa k,sm,λx hx y hy=>?_⟩,Hq sb m,λx hx y hy=>?_⟩
  .rcases nj.mp (pm.mem_iff.mp hy) with hy | hy
   .exact Vm sa k x hx y hy
   .exact h1 x hx y (FE hy)
  .rcases nj.mp hx with hx | hx
   .exact h1 x hx y (G5 hy)
   .rcases nj.mp (pm.mem_iff.mp hx) with hx | hx
    .exact h2 y hy x (G5 hx)
    .exact Vm sb m x hx y hy
 .have e:A++B=(A.take k++A.drop k)++(B.take m++B.drop m):=by rw [xN,xN]
  rw [e,mx]
  simp only [mx]
  refine Nv _ ?_
  rw [<-mx]
  exact pm.append_right _
theorem oV(m:List α):∀(xs:Array α) (o n:Nat) (k:Nat),o+n+m.length<=xs.size->((m.zipIdx n).foldl (λa p=>a.setIfInBounds (o+p.2) p.1) xs)[k]?=if o+n<=k/\k<o+n+m.length then m[k-(o+n)]? else xs[k]?:=by
 induction m with
 | nil=>intro xs o n k h;simp only [List.zipIdx_nil,SW,KY];rw [if_neg (by ext)]
 | cons x m ih =>
  intro xs o n k h
  simp only [jK] at h
  rw [List.zipIdx_cons,Sv,ih _ o (n+1) k (by simp only [Array.size_setIfInBounds];ext h)]
  simp only [jK]
  by_cases c:o+(n+1)<=k/\k<o+(n+1)+m.length
  .rw [if_pos c,if_pos (by ext c),show k-(o+n)=(k-(o+(n+1)))+1 by ext c,Nz]
  .rw [if_neg c,Array.getElem?_setIfInBounds]
   by_cases c2:o+n=k
   .subst c2
    rw [if_pos rfl,if_pos (by ext h),if_pos (by ext)]
    simp
   .rw [if_neg c2,if_neg (by ext c c2)]
theorem b0W{P A S m:List α}{xs:Array α}(e:xs.toList=P++A++S)(hl:m.length=A.length):(m.zipIdx.foldl (λa p=>a.setIfInBounds (P.length+p.2) p.1) xs).toList=P++m++S:=by
 have hs:xs.size=P.length+A.length+S.length:=by rw [<-kx,e];simp;ext
 refine To λk=>?_
 rw [BJ,oV m xs P.length 0 k (by ext hl hs),Nat.add_zero,<-BJ,e]
 by_cases h1:k<P.length
 .rw [if_neg (by ext h1),mx,mx,FO h1,FO h1]
 .by_cases h2:k<P.length+m.length
  .rw [if_pos ⟨by ext h1,h2⟩,mx,C2 (by ext h1),FO (by ext h1 h2)]
  .rw [if_neg (by ext h2),C2 (by simp;ext hl h2),C2 (by simp;ext h2)]
   simp [hl]
noncomputable def qN:Nat->List (List α)->List (Nat×Nat×Nat)->Prop
 | _,[],[]=>True
 | o,R::Rs,p::ps=>p.1=o/\p.2.1=R.length/\qN (o+R.length) Rs ps
 | _,_,_=>False
theorem qN.len:∀{o:Nat} {Rs:List (List α)} {ps:List (Nat×Nat×Nat)},qN o Rs ps->ps.length=Rs.length
 | _,[],[],_=>rfl
 | _,R::Rs,p::ps,h=>by simp [h.2.2.len]
theorem qN.app:∀{o:Nat} {Rs Ss:List (List α)} {ps qs:List (Nat×Nat×Nat)},qN o Rs ps->qN (o+Rs.flatten.length) Ss qs->qN o (Rs++Ss) (ps++qs)
 | o,[],Ss,[],qs,_,h=>by simpa using h
 | o,R::Rs,Ss,p::ps,qs,h,k=>⟨h.1,h.2.1,h.2.2.app (by rw [Nn,fZ,<-SN] at k;exact k)⟩
theorem qN.split:∀{o:Nat} {Rs Ss:List (List α)} {ps:List (Nat×Nat×Nat)},qN o (Rs++Ss) ps->qN o Rs (ps.take Rs.length)/\qN (o+Rs.flatten.length) Ss (ps.drop Rs.length)
 | o,[],Ss,ps,h=>⟨trivial,by simpa using h⟩
 | o,R::Rs,Ss,p::ps,h=>by
  obtain ⟨k1,k2⟩:=qN.split (Rs:=Rs) h.2.2
  refine ⟨⟨h.1,h.2.1,k1⟩,?_⟩
  rw [Nn,fZ,<-SN]
  exact k2
end pure
open PySem PyProof.Rows
noncomputable def a97:Bool → Keyed → Array Keyed → Nat → Nat → Nat → StateT SortSt Sem (Option Nat):=sortPriv% PySem.Builtin.gallop
noncomputable def b3X:Array Keyed → Array Keyed → StateT SortSt Sem (Array Keyed):=sortPriv% PySem.Builtin.mergeLo
noncomputable def b3Y:Array Keyed → Array Keyed → StateT SortSt Sem (Array Keyed):=sortPriv% PySem.Builtin.mergeHi
noncomputable def setG':Nat → StateT SortSt Sem Unit:=sortPriv% PySem.Builtin.setMinGallop
section
variable {prog:Program}{w:World}{A:Around}{E:Value->Shared->Prop}{s:Shared}
theorem Hh{σ α:Type}{M:Model}{m:StateT σ Sem α}{Q:α->σ->Prop}{st:σ}(h:wpS M A E s m Q st):wpAny M A (m st) (λr s'=>s'=s/\Q r.1 r.2) E s:=h
structure Ask(prog:Program)(w:World)(s:Shared)(kd:SortKind)(κ:Keyed->Int)(C:Keyed->Prop):Prop where
 lt:∀{x y:Keyed},C x->C y->κ x≠κ y->∀{A:Around} {E:Value->Shared->Prop} {Q:Bool->Shared->Prop},Q (decide (κ x<κ y)) s->wpAny (model prog w) A (keyLt' kd x.1 y.1) Q E s
variable {kd:SortKind}{κ:Keyed->Int}{C:Keyed->Prop}
theorem Ju(hk:Ask prog w s kd κ C){st:SortSt}{Q:Option Bool->SortSt->Prop}(hd:kindOf st=kd)(hx:C x)(hy:C y)(iV:κ x≠κ y)(h:Q (some (decide (κ x<κ y))) st):wpS (model prog w) A E s (lt' x y) Q st:=by
 rw [lt'_eq]
 refine cn (Ay ?_)
 rw [hd]
 exact cn (wpS_lift (M7 (hk.lt hx hy iV ⟨rfl,cL h⟩)))
theorem nr{Q:Keyed->SortSt->Prop}{st:SortSt}(hi:i<arr.size)(h:Q arr[i] st):wpS (model prog w) A E s (elem' arr i) Q st:=by
 rw [elem'_eq,getElem?_pos arr i hi]
 exact cL h
noncomputable def kv(κ:Keyed->Int)(arr:Array Keyed)(i:Nat):Int:=match arr[i]? with
 | some p=>κ p
 | none=>0
theorem nB(h:i<arr.size):kv κ arr i=κ arr[i]:=by unfold kv;rw [getElem?_pos arr i h]
theorem Lg(h:xs[i]?=ys[j]?):kv κ xs i=kv κ ys j:=by unfold kv;rw [h]
theorem bey(hk:Ask prog w s kd κ C){st:SortSt}(hd:kindOf st=kd){Q:Option Bool->SortSt->Prop}(hC:C key)(hj:j<arr.size)(hx:C arr[j])(iV:κ arr[j]≠κ key)(h:Q (some (decide (kv κ arr j<κ key))) st):
  wpS (model prog w) A E s (elem' arr j >>= λx=>if left=true then lt' x key else lt' key x >>= λr=>pure (Se (λx=>!x) r)) Q st:=by
 refine cn (nr hj ?_)
 rw [nB hj] at h
 cases left with
 | true =>
  rw [if_pos rfl]
  exact Ju hk hd hx hC iV h
 | false =>
  rw [if_neg (by decide)]
  refine cn (Ju hk hd hC hx (oX iV) (cL ?_))
  have e:(!decide (κ key<κ arr[j]))=decide (κ arr[j]<κ key):=by
   by_cases c:κ key<κ arr[j]
   .rw [decide_eq_true c,decide_eq_false (by ext hj c)];rfl
   .rw [decide_eq_false c,decide_eq_true (by ext hj iV c)];rfl
  rw [Sy,e]
  exact h
theorem M1(hk:Ask prog w s kd κ C){st:SortSt}(hd:kindOf st=kd){Q:Option Nat->SortSt->Prop}(hC:C key)(hn:base+n<=arr.size)(hh:hint<n)
  (hA:∀j (h:j<arr.size),base<=j->j<base+n->C arr[j]/\κ arr[j]≠κ key)(hs:∀i j,i<j->j<n->kv κ arr (base+i)<kv κ arr (base+j))
  (h:∀k,k<=n->(∀i,i<k->kv κ arr (base+i)<κ key)->(∀i,k<=i->i<n->κ key<kv κ arr (base+i))->Q (some k) st):wpS (model prog w) A E s (a97 left key arr base n hint) Q st:=by
 have ask:∀i,i<n->∀{Q:Option Bool->SortSt->Prop},Q (some (decide (kv κ arr (base+i)<κ key))) st->wpS (model prog w) A E s (elem' arr (base+i) >>= λx=>if left=true then lt' x key else lt' key x >>= λr=>pure (Se (λx=>!x) r)) Q st:=λi hi Q hQ =>
  have hj:base+i<arr.size:=by ext hn hi
  bey hk hd hC hj (hA _ hj (by ext) (by ext hi)).1 (hA _ hj (by ext) (by ext hi)).2 hQ
 have ne:∀i,i<n->kv κ arr (base+i)≠κ key:=λi hi=>by
  have hj:base+i<arr.size:=by ext hn hi
  rw [nB hj]
  exact (hA _ hj (by ext) (by ext hi)).2
 have dn:∀i j,i<=j->j<n->kv κ arr (base+j)<κ key->kv κ arr (base+i)<κ key:=λi j h1 h2 h3=>by
  by_cases c:i=j
  .subst c;exact h3
  .have:=hs i j (by ext h1 c) h2;ext h3 this
 have up:∀i j,i<=j->j<n->κ key<kv κ arr (base+i)->κ key<kv κ arr (base+j):=λi j h1 h2 h3=>by
  by_cases c:i=j
  .subst c;exact h3
  .have:=hs i j (by ext h1 c) h2;ext h3 this
 unfold wpS
 wp_delta
 wp_delta
 wp_delta
 refine Hh (Q:=Q) (cn (ask hint hh ?_))
 dsimp only
 have tail:∀lo hi:Nat,lo<=hi->hi<=n->(∀i,i<lo->kv κ arr (base+i)<κ key)->(∀i,hi<=i->i<n->κ key<kv κ arr (base+i)) ->
   wpS (model prog w) A E s (forIn [0:n] ((none,lo,hi):Option (Option Nat)×Nat×Nat) (λx q=>if q.2.1≥q.2.2 then pure (Nr (none,q.2.1,q.2.2)) else
    (elem' arr (base+(q.2.1+(q.2.2-q.2.1)/2)) >>= λx=>if left=true then lt' x key else lt' key x >>= λr=>pure (Se (λx=>!x) r)) >>= λr=>match r with
     | some more=>if more=true then pure (BH (none,q.2.1+(q.2.2-q.2.1)/2+1,q.2.2)) else pure (BH (none,q.2.1,q.2.1+(q.2.2-q.2.1)/2))
     | x=>pure (Nr (some none,q.2.1,q.2.2)))) (λq aA=>aA=st/\∃k,q.1=none/\q.2.2=k/\k<=n/\(∀i,i<k->kv κ arr (base+i)<κ key)/\∀i,k<=i->i<n->κ key<kv κ arr (base+i)) st:=λlo hi h1 h2 h3 h4=>by
  refine rJ (λx q aA=>aA=st/\∃l r,q=(none,l,r)/\l<=r/\r<=n/\r-l<=n-x/\(∀i,i<l->kv κ arr (base+i)<κ key)/\∀i,r<=i->i<n->κ key<kv κ arr (base+i)) (λx q aA _ hx hI=>?_) (λq aA hI=>?_) ⟨rfl,lo,hi,rfl,h1,h2,by ext h2,h3,h4⟩
  .obtain ⟨rfl,l,r,rfl,j1,j2,j3,j4,j5⟩:=hI
   dsimp only
   by_cases c:l≥r
   .rw [if_pos c]
    obtain rfl:l=r:=by ext j1 c
    exact cL ⟨rfl,l,rfl,rfl,j2,j4,j5⟩
   .rw [if_neg c]
    refine cn (ask _ (by lia) ?_)
    dsimp only
    by_cases c2:kv κ arr (base+(l+(r-l)/2))<κ key
    .rw [if_pos (decide_eq_true c2)]
     exact cL ⟨rfl,_,_,rfl,by lia,‹_›,by ext j3,λi hi=>dn i _ (by ext hi) (by lia) c2,j5⟩
    .rw [if_neg (by simpa using c2)]
     have:=ne (l+(r-l)/2) (by lia)
     exact cL ⟨rfl,_,_,rfl,by ext,by lia,by lia,j4,λi hi h'=>up _ i hi h' (by ext c2 this)⟩
  .obtain ⟨rfl,l,r,rfl,j1,j2,j3,j4,j5⟩:=hI
   obtain rfl:l=r:=by ext j1 j3
   exact ⟨rfl,l,rfl,rfl,j2,j4,j5⟩
 by_cases c:kv κ arr (base+hint)<κ key
 .rw [if_pos (decide_eq_true c)]
  refine cn (rG (rJ (λx q aA=>aA=st/\∃l o,q=(none,l,o)/\l<o/\x+1<=o/\hint+l<n/\kv κ arr (base+(hint+l))<κ key) (Q:=λq aA=>aA=st/\∃l o,q=(none,l,o)/\l<o/\hint+l<n/\kv κ arr (base+(hint+l))<κ key/\(o<n-hint->κ key<kv κ arr (base+(hint+o)))) (λx q aA _ hx hI=>?_) (λq aA hI=>?_) ⟨rfl,0,1,rfl,by decide,by decide,‹_›,c⟩) λq aA hI=>?_)
  .obtain ⟨rfl,l,o,rfl,j1,j2,j3,j4⟩:=hI
   dsimp only
   by_cases c1:o≥n-hint
   .rw [if_pos c1]
    exact cL ⟨rfl,l,o,rfl,j1,j3,j4,λz=>absurd z (by ext c1)⟩
   .rw [if_neg c1]
    refine cn (ask (hint+o) (by ext c1) ?_)
    dsimp only
    by_cases c2:kv κ arr (base+(hint+o))<κ key
    .rw [if_neg (by simpa using c2)]
     exact cL ⟨rfl,o,2*o+1,rfl,by ext,by ext j2,by ext c1,c2⟩
    .rw [if_pos (by simpa using c2)]
     have:=ne (hint+o) (by ext c1)
     exact cL ⟨rfl,l,o,rfl,j1,j3,j4,λ_=>by ext c2 this⟩
  .obtain ⟨rfl,l,o,rfl,j1,j2,j3,j4⟩:=hI
   exact ⟨rfl,l,o,rfl,j1,j3,j4,λz=>absurd z (by ext j2)⟩
  .obtain ⟨rfl,l,o,rfl,j1,j3,j4,j5⟩:=hI
   dsimp only
   refine cn (rG (tail (hint+l+1) (hint+min o (n-hint)) (by ext j1 j3) (by ext hh) (λi hi=>dn i _ (by ext hi) j3 j4) λi hi h'=>?_) λq aA hI=>?_)
   .by_cases c1:o<n-hint
    .exact up (hint+o) i (by ext hi c1) h' (j5 c1)
    .ext hi h' c1
   .obtain ⟨rfl,k,e1,rfl,k1,k2,k3⟩:=hI
    rw [e1]
    exact cL (h _ k1 k2 k3)
 .rw [if_neg (by simpa using c)]
  have c0:=ne hint hh
  refine cn (rG (rJ (λx q aA=>aA=st/\∃l o,q=(none,l,o)/\l<o/\x+1<=o/\l<=hint/\κ key<kv κ arr (base+(hint-l))) (Q:=λq aA=>aA=st/\∃l o,q=(none,l,o)/\l<o/\l<=hint/\κ key<kv κ arr (base+(hint-l))/\(o<hint+1->kv κ arr (base+(hint-o))<κ key)) (λx q aA _ hx hI=>?_) (λq aA hI=>?_) ⟨rfl,0,1,rfl,by decide,by decide,by ext,by rw [Sk];ext c c0⟩) λq aA hI=>?_)
  .obtain ⟨rfl,l,o,rfl,j1,j2,j3,j4⟩:=hI
   dsimp only
   by_cases c1:o≥hint+1
   .rw [if_pos c1]
    exact cL ⟨rfl,l,o,rfl,j1,j3,j4,λz=>absurd z (by ext c1)⟩
   .rw [if_neg c1]
    refine cn (ask (hint-o) (by ext hh) ?_)
    dsimp only
    by_cases c2:kv κ arr (base+(hint-o))<κ key
    .rw [if_pos (decide_eq_true c2)]
     exact cL ⟨rfl,l,o,rfl,j1,j3,j4,λ_=>c2⟩
    .rw [if_neg (by simpa using c2)]
     have:=ne (hint-o) (by ext hh)
     exact cL ⟨rfl,o,2*o+1,rfl,by ext,by ext j2,by ext c1,by ext c2 this⟩
  .obtain ⟨rfl,l,o,rfl,j1,j2,j3,j4⟩:=hI
   exact ⟨rfl,l,o,rfl,j1,j3,j4,λz=>absurd z (by ext hh j2)⟩
  .obtain ⟨rfl,l,o,rfl,j1,j3,j4,j5⟩:=hI
   dsimp only
   refine cn (rG (tail (hint+1-min o (hint+1)) (hint-l) (by ext j1) (by ext hh) (λi hi=>?_) λi hi h'=>up _ i hi h' j4) λq aA hI=>?_)
   .by_cases c1:o<hint+1
    .exact dn i (hint-o) (by ext hi) (by ext hh) (j5 c1)
    .ext hi c1
   .obtain ⟨rfl,k,e1,rfl,k1,k2,k3⟩:=hI
    rw [e1]
    exact cL (h _ k1 k2 k3)
end
section
variable {κ:Keyed->Int}
theorem UM{a:Array Keyed}{i k:Nat}(h:x∈(a.toList.drop i).take k):∃j,∃hj:j<a.size,i<=j/\j<i+k/\x=a[j]:=by
 obtain ⟨n,hn,e⟩:=xM.mp h
 simp only [oY,BL,kx] at hn
 refine ⟨i+n,by ext hn:1,by ext:1,by ext hn:1,?_⟩
 rw [<-e]
 simp
theorem LO{a:Array Keyed}{i:Nat}(h:x∈a.toList.drop i):∃j,∃hj:j<a.size,i<=j/\x=a[j]:=by
 obtain ⟨n,hn,e⟩:=xM.mp h
 simp only [BL,kx] at hn
 refine ⟨i+n,by ext hn:1,by ext:1,?_⟩
 rw [<-e]
 simp
theorem k6(h:ju κ a.toList)(h1:i<j)(h2:j<a.size):kv κ a i<kv κ a j:=by
 rw [nB (by ext h1 h2:1),nB h2]
 have:=G8.mp h i j (by simp;ext h1 h2:1) (by simpa using h2) h1
 simpa using this
theorem ZW(a:Array Keyed)(i k:Nat):(a.extract i (i+k)).toList=(a.toList.drop i).take k:=by
 rw [NG,NO,TK]
theorem ON(a:Array Keyed)(i:Nat):(a.extract i a.size).toList=a.toList.drop i:=by
 rw [NG,NO]
 exact FR (by simp)
theorem U3{a:Array Keyed}{i:Nat}(h:i<a.size):(a.toList.drop i).take 1=[a[i]]:=by
 rw [AH (by simpa using h)]
 simp
end
noncomputable abbrev sg(st:SortSt)(g:Nat):SortSt:=KC (kindOf st) (arrOf st) (pendingOf st) g (failedOf st)
section
variable {prog:Program}{w:World}{A:Around}{E:Value->Shared->Prop}{s:Shared}{kd:SortKind}{κ:Keyed->Int}{C:Keyed->Prop}
theorem NY{st:SortSt}{Q:Unit->SortSt->Prop}(h:Q () (sg st g)):wpS (model prog w) A E s (setG' g) Q st:=by
 show wpS _ _ _ _ (modify _) _ _
 exact Fy h
theorem Hf{st:SortSt}{Q:Unit->SortSt->Prop}(h:Q () st):wpS (model prog w) A E s (liftM (rule t):StateT SortSt Sem Unit) Q st:=wpS_lift (KD ⟨rfl,h⟩)
structure lT(κ:Keyed->Int)(C:Keyed->Prop)(a b:Array Keyed):Prop where
 sa:ju κ a.toList
 sb:ju κ b.toList
 ca:∀x∈a.toList,C x
 cb:∀x∈b.toList,C x
 ne:∀x∈a.toList,∀y∈b.toList,κ x≠κ y
variable {a b:Array Keyed}
theorem lT.ML(T:lT κ C a b)(h:i<a.size):C a[i]:=T.ca _ (by simp)
theorem lT.MK(T:lT κ C a b)(h:i<b.size):C b[i]:=T.cb _ (by simp)
theorem lT.Gu(T:lT κ C a b)(hi:i<a.size)(hj:j<b.size):κ a[i]≠κ b[j]:=T.ne _ (by simp) _ (by simp)
theorem Kc(hk:Ask prog w s kd κ C)(T:lT κ C a b){st:SortSt}(hd:kindOf st=kd){Q:Option Nat->SortSt->Prop}(hi:i<a.size)(hj:j<b.size)
  (h:∀k,i+k<=a.size->(∀x∈(a.toList.drop i).take k,∀y∈b.toList.drop j,κ x<κ y)->(∀y∈a.toList.drop (i+k),κ b[j]<κ y)->Q (some k) st):wpS (model prog w) A E s (a97 l b[j] a i (a.size-i) 0) Q st:=by
 refine M1 hk hd (T.MK hj) (by ext hi) (by ext hi) (λn hn _ _=>⟨T.ML hn,T.Gu hn hj⟩) (λx y h1 h2=>k6 T.sa (by ext h1) (by ext h2)) λk k1 k2 k3=>h k (by ext hi k1) (λx hx y hy=>?_) λy hy=>?_
 .obtain ⟨n,hn,n1,n2,rfl⟩:=UM hx
  obtain ⟨m,hm,m1,rfl⟩:=LO hy
  have e:=k2 (n-i) (by ext n1 n2)
  rw [show i+(n-i)=n by ext n1,nB hn] at e
  by_cases c:j=m
  .subst c;exact e
  .have:=k6 T.sb (show j<m by ext m1 c) hm
   rw [nB hj,nB hm] at this
   ext hn hm hj e this
 .obtain ⟨n,hn,n1,rfl⟩:=LO hy
  have e:=k3 (n-i) (by ext n1) (by ext hn n1)
  rw [show i+(n-i)=n by ext n1,nB hn] at e
  exact e
theorem lT.sym(T:lT κ C a b):lT κ C b a:=⟨T.sb,T.sa,T.cb,T.ca,λx hx y hy z=>T.ne y hy x hx z.symm⟩
theorem Inv.zW{out:Array Keyed}{ia ib:Nat}(h:Inv κ a.toList b.toList out.toList ia ib)(T:lT κ C a b)(hi:ia<a.size)(hk:∀y∈b.toList.drop ib,κ a[ia]<κ y):Inv κ a.toList b.toList (out.push a[ia]).toList (ia+1) ib:=by
 rw [GP,<-U3 hi]
 refine h.a T.sa 1 λx hx y hy=>?_
 rw [U3 hi,oZ] at hx
 rw [hx]
 exact hk y hy
theorem Inv.zV{out:Array Keyed}{ia ib:Nat}(h:Inv κ a.toList b.toList out.toList ia ib)(T:lT κ C a b)(hi:ib<b.size)(hk:∀y∈a.toList.drop ia,κ b[ib]<κ y):Inv κ a.toList b.toList (out.push b[ib]).toList ia (ib+1):=(h.sym.zW T.sym hi hk).sym
theorem Inv.IC(h:Inv κ a.toList b.toList out.toList ia ib)(T:lT κ C a b)(k:Nat)(hk:∀x∈(a.toList.drop ia).take k,∀y∈b.toList.drop ib,κ x<κ y):Inv κ a.toList b.toList (out++a.extract ia (ia+k)).toList (ia+k) ib:=by
 rw [AL,ZW]
 exact h.a T.sa k hk
theorem Inv.Qt(h:Inv κ a.toList b.toList out.toList ia ib)(T:lT κ C a b)(k:Nat)(hk:∀x∈(b.toList.drop ib).take k,∀y∈a.toList.drop ia,κ x<κ y):Inv κ a.toList b.toList (out++b.extract ib (ib+k)).toList ia (ib+k):=(h.sym.IC T.sym k hk).sym
theorem Oo(T:lT κ C a b)(hi:i<a.size)(hj:j<b.size)(h:κ b[j]<κ a[i]):∀y∈a.toList.drop i,κ b[j]<κ y:=λy hy=>by
 obtain ⟨n,hn,n1,rfl⟩:=LO hy
 by_cases c:i=n
 .subst c;exact h
 .have:=k6 T.sa (show i<n by ext n1 c) hn
  rw [nB hi,nB hn] at this
  ext hj hn hi h this
def Mg(κ:Keyed->Int)(a b r:Array Keyed):Prop:=ju κ r.toList/\r.toList.Perm (a.toList++b.toList)
theorem Inv.mP(h:Inv κ a.toList b.toList out.toList ia ib)(T:lT κ C a b)(hm:ia=a.size\/ib=b.size):Mg κ a b (out++a.extract ia a.size++b.extract ib b.size):=by
 unfold Mg
 rw [AL,AL,ON,ON]
 refine h.done T.sa T.sb λx hx y hy=>?_
 obtain ⟨n,hn,n1,rfl⟩:=LO hx
 obtain ⟨m,hm,m1,rfl⟩:=LO hy
 lia
theorem Inv.oE(h:Inv κ a.toList b.toList out.toList ia ib)(T:lT κ C a b)(hm:∀x∈b.toList,∀y∈a.toList.drop (a.size-1),κ x<κ y)(hi:ia+1=a.size):Mg κ a b (out++b.extract ib b.size++a.extract ia a.size):=by
 unfold Mg
 rw [AL,AL,ON,ON]
 exact h.last T.sa T.sb λx hx y hy=>hm x (G5 hx) y (by rw [<-hi];exact hy)
theorem N5{n:Nat}(h:2<=n)(h':¬n-1=1):2<=n-1:=by ext h h'
theorem b7U(h:¬m=1)(h':¬m=0):2<=m:=by ext h h'
theorem JA{β γ:Type}{M:Model}{c:γ->Prop}[∀v,Decidable (c v)]{x y:γ->StateT SortSt Sem β}{Q:β->SortSt->Prop}{st:SortSt}(u:γ->γ)(hx:∀v,x v=y (u v))(h:∀u,wpS M A E s (y u) Q st):∀v,wpS M A E s (if c v then x v else y v) Q st:=λv=>by
 rw [hx]
 split<;>exact h _
theorem NZ{β γ δ:Type}{M:Model}{c:Prop}[Decidable c]{R:γ->δ->Prop}{x y:γ->δ->StateT SortSt Sem β}{Q:β->SortSt->Prop}{st:SortSt}(P:γ->δ->Prop)(hF:∀u v,P u v->wpS M A E s (y u v) Q st)
  (h1:∀u v,R u v->(∀u v,P u v->wpS M A E s (y u v) Q st)->c->wpS M A E s (x u v) Q st)(h2:∀u v,R u v->¬c->P u v):∀u v,R u v->wpS M A E s (if c then x u v else y u v) Q st:=λu v hR=>by
 by_cases hc:c
 .rw [if_pos hc];exact h1 u v hR hF hc
 .rw [if_neg hc];exact hF u v (h2 u v hR hc)
theorem Cq{β:Type}{M:Model}{c:Prop}[Decidable c]{x y:StateT SortSt Sem β}{Q:β->SortSt->Prop}{st:SortSt}(h1:c->wpS M A E s x Q st)(h2:¬c->wpS M A E s y Q st):wpS M A E s (if c then x else y) Q st:=by
 split
 .exact h1 ‹_›
 .exact h2 ‹_›
theorem pI{β:Type}{M:Model}{m n:Nat}{x y:StateT SortSt Sem β}{Q:β->SortSt->Prop}{st:SortSt}(h1:m=n->wpS M A E s x Q st)(h2:¬m=n->wpS M A E s y Q st):wpS M A E s (if (m==n)=true then x else y) Q st:=Cq (λc=>h1 (eq_of_beq c)) λc=>h2 λz=>c (beq_of_eq z)
theorem W6{β:Type}{M:Model}{p:Prop}[Decidable p]{x y:StateT SortSt Sem β}{Q:β->SortSt->Prop}{st:SortSt}(h1:p->wpS M A E s x Q st)(h2:¬p->wpS M A E s y Q st):wpS M A E s (if decide p=true then x else y) Q st:=Cq (λc=>h1 (of_decide_eq_true c)) λc=>h2 λz=>c (decide_eq_true z)
theorem XE{oq om oj oi ρ:Type}{st:SortSt}{P R:oq->om->oj->oi->Prop}{G:Option ρ×oq×om×oj×oi->SortSt->Prop}(k:∀g v0 v1 v2 v3,P v0 v1 v2 v3->R v0 v1 v2 v3->G (none,v0,v1,v2,v3) (sg st g)):∀(q:Option ρ×oq×om×oj×oi) (aA:SortSt),(∃g,aA=sg st g)/\(∃v0 v1 v2 v3,q=(none,v0,v1,v2,v3)/\P v0 v1 v2 v3/\R v0 v1 v2 v3)->G q aA:=by
 rintro q aA ⟨⟨g,rfl⟩,v0,v1,v2,v3,rfl,p,r⟩
 exact k g v0 v1 v2 v3 p r
theorem XD{oq om oj oi rW ρ:Type}{st:SortSt}{P R:oq->om->oj->oi->rW->Prop}{G:Option ρ×oq×om×oj×oi×rW->SortSt->Prop}(k:∀g v0 v1 v2 v3 v4,P v0 v1 v2 v3 v4->R v0 v1 v2 v3 v4->G (none,v0,v1,v2,v3,v4) (sg st g)):∀(q:Option ρ×oq×om×oj×oi×rW) (aA:SortSt),(∃g,aA=sg st g)/\(∃v0 v1 v2 v3 v4,q=(none,v0,v1,v2,v3,v4)/\P v0 v1 v2 v3 v4/\R v0 v1 v2 v3 v4)->G q aA:=by
 rintro q aA ⟨⟨g,rfl⟩,v0,v1,v2,v3,v4,rfl,p,r⟩
 exact k g v0 v1 v2 v3 v4 p r
theorem XB{oq om oj oi rW ρ:Type}{st:SortSt}{P R:oq->om->oj->oi->rW->Prop}{M:ρ->Prop}{G:Option ρ×oq×om×oj×oi×rW->SortSt->Prop}(h:∀g r t,M r->G (some r,t) (sg st g))(k:∀g v0 v1 v2 v3 v4,P v0 v1 v2 v3 v4->R v0 v1 v2 v3 v4->G (none,v0,v1,v2,v3,v4) (sg st g)):∀(q:Option ρ×oq×om×oj×oi×rW) (aA:SortSt),(∃g,aA=sg st g)/\((∃r,q.1=some r/\M r)\/∃v0 v1 v2 v3 v4,q=(none,v0,v1,v2,v3,v4)/\P v0 v1 v2 v3 v4/\R v0 v1 v2 v3 v4)->G q aA:=by
 rintro ⟨q,t⟩ aA ⟨⟨g,rfl⟩,⟨r,e,m⟩ | ⟨v0,v1,v2,v3,v4,e,p,r⟩⟩
 .cases e
  exact h g r t m
 .cases e
  exact k g v0 v1 v2 v3 v4 p r
theorem XC{oq om oj oi rW Eu ρ:Type}{st:SortSt}{P R:oq->om->oj->oi->rW->Eu->Prop}{G:Option ρ×oq×om×oj×oi×rW×Eu->SortSt->Prop}(k:∀g v0 v1 v2 v3 v4 v5,P v0 v1 v2 v3 v4 v5->R v0 v1 v2 v3 v4 v5->G (none,v0,v1,v2,v3,v4,v5) (sg st g)):∀(q:Option ρ×oq×om×oj×oi×rW×Eu) (aA:SortSt),(∃g,aA=sg st g)/\(∃v0 v1 v2 v3 v4 v5,q=(none,v0,v1,v2,v3,v4,v5)/\P v0 v1 v2 v3 v4 v5/\R v0 v1 v2 v3 v4 v5)->G q aA:=by
 rintro q aA ⟨⟨g,rfl⟩,v0,v1,v2,v3,v4,v5,rfl,p,r⟩
 exact k g v0 v1 v2 v3 v4 v5 p r
theorem XA{oq om oj oi rW Eu ρ:Type}{st:SortSt}{P R:oq->om->oj->oi->rW->Eu->Prop}{M:ρ->Prop}{G:Option ρ×oq×om×oj×oi×rW×Eu->SortSt->Prop}(h:∀g r t,M r->G (some r,t) (sg st g))(k:∀g v0 v1 v2 v3 v4 v5,P v0 v1 v2 v3 v4 v5->R v0 v1 v2 v3 v4 v5->G (none,v0,v1,v2,v3,v4,v5) (sg st g)):∀(q:Option ρ×oq×om×oj×oi×rW×Eu) (aA:SortSt),(∃g,aA=sg st g)/\((∃r,q.1=some r/\M r)\/∃v0 v1 v2 v3 v4 v5,q=(none,v0,v1,v2,v3,v4,v5)/\P v0 v1 v2 v3 v4 v5/\R v0 v1 v2 v3 v4 v5)->G q aA:=by
 rintro ⟨q,t⟩ aA ⟨⟨g,rfl⟩,⟨r,e,m⟩ | ⟨v0,v1,v2,v3,v4,v5,e,p,r⟩⟩
 .cases e
  exact h g r t m
 .cases e
  exact k g v0 v1 v2 v3 v4 v5 p r
structure J(κ:Keyed->Int)(a b out:Array Keyed)(ia ib:Nat):Prop where
 inv:Inv κ a.toList b.toList out.toList ia ib
 la:ia+1<a.size
 lb:ib<b.size
theorem mlo(hk:Ask prog w s kd κ C)(T:lT κ C a b){st:SortSt}(hd:kindOf st=kd){Q:Array Keyed->SortSt->Prop}(ha:0<a.size)(hb:0<b.size)(h0:κ b[0]<κ a[0])(hm:∀x∈b.toList,∀y∈a.toList.drop (a.size-1),κ x<κ y)
  (h:∀r g,Mg κ a b r->Q r (sg st g)):wpS (model prog w) A E s (b3X a b) Q st:=by
 unfold wpS
 wp_delta
 wp_delta
 wp_delta
 refine Hh (Q:=Q) (cn (Hf (cn (nr hb ?_))))
 dsimp only
 have i0:Inv κ a.toList b.toList (#[b[0]]:Array Keyed).toList 0 1:=(JE (κ:=κ) (la:=a.toList) (lb:=b.toList)).zV (out:=#[]) T hb (Oo T ha hb h0)
 refine pI (λc1=>?_) λc1=>?_
 .exact cL (h _ (gallopOf st) (i0.mP T (.inr c1)))
 refine pI (λc2=>?_) λc2=>?_
 .exact cL (h _ (gallopOf st) (i0.oE T hm c2))
 refine cn (Ay ?_)
 refine cn (rG (rJ (λx q aA=>(∃g,aA=sg st g)/\∃out ia ib mg,q=(none,out,ia,ib,mg)/\J κ a b out ia ib/\x+1<=ia+ib) (Q:=λq aA=>(∃g,aA=sg st g)/\∃r,q.1=some r/\Mg κ a b r) (λx q aA _ hx hI=>?_) (λq aA hI=>?_) ⟨⟨gallopOf st,rfl⟩,_,_,_,_,rfl,⟨i0,by ext ha c2,by ext hb c1⟩,by decide⟩) λq aA hI=>?_)
 .revert q aA
  refine XE λg out ia ib mg hJ hp=>?_
  dsimp only
  refine cn (rG (rJ (λx q aA=>(∃g,aA=sg st g)/\∃k7 tq tm ac bc,q=(none,k7,tq,tm,ac,bc)/\J κ a b k7 tq tm/\ia+ib+x<=tq+tm) (Q:=λq aA=>(∃g,aA=sg st g)/\((∃r,q.1=some r/\Mg κ a b r)\/∃k7 tq tm ac bc,q=(none,k7,tq,tm,ac,bc)/\J κ a b k7 tq tm/\ia+ib+1<=tq+tm)) (λx q aA _ hx hI=>?_) (λq aA hI=>?_) ⟨⟨_,rfl⟩,_,_,_,_,_,rfl,hJ,by ext⟩) λq aA hI=>?_)
  .revert q aA
   refine XD λg out ia ib ac bc hJ hp=>?_
   dsimp only
   refine cn (nr hJ.lb (cn (nr (FJ hJ.la) (cn (Ju hk hd (T.MK hJ.lb) (T.ML _) (oX (T.Gu _ hJ.lb)) ?_)))))
   dsimp only
   have la:=hJ.la
   have lb:=hJ.lb
   refine W6 (λc=>?_) λc=>?_
   .refine cn (nr hJ.lb ?_)
    have i2:=hJ.inv.zV T hJ.lb (Oo T (by ext la) lb c)
    refine pI (λd1=>?_) λd1=>?_
    .exact cL ⟨⟨_,rfl⟩,.inl ⟨_,rfl,i2.mP T (.inr d1)⟩⟩
    refine Cq (λd2=>?_) λd2=>?_
    .exact cL ⟨⟨_,rfl⟩,.inr ⟨_,_,_,_,_,rfl,⟨i2,la,by ext lb d1⟩,by ext hp⟩⟩
    .exact cL ⟨⟨_,rfl⟩,_,_,_,_,_,rfl,⟨i2,la,by ext lb d1⟩,by ext hp⟩
   .refine cn (nr (FJ hJ.la) ?_)
    have iV:=T.Gu (FJ hJ.la) hJ.lb
    have i2:=hJ.inv.zW T (FJ hJ.la) (Oo T.sym lb (by ext la) (by ext la lb c iV))
    refine pI (λd1=>?_) λd1=>?_
    .exact cL ⟨⟨_,rfl⟩,.inl ⟨_,rfl,i2.oE T hm d1⟩⟩
    refine Cq (λd2=>?_) λd2=>?_
    .exact cL ⟨⟨_,rfl⟩,.inr ⟨_,_,_,_,_,rfl,⟨i2,by ext la d1,lb⟩,by ext hp⟩⟩
    .exact cL ⟨⟨_,rfl⟩,_,_,_,_,_,rfl,⟨i2,by ext la d1,lb⟩,by ext hp⟩
  .obtain ⟨hg,out,ia,ib,ac,bc,rfl,hJ,hp⟩:=hI
   exact ⟨hg,.inr ⟨_,_,_,_,_,rfl,hJ,by ext hb hp⟩⟩
  .revert q aA
   refine XB (λg r _ hr=>cL ⟨⟨_,rfl⟩,_,rfl,hr⟩) λg k7 tq tm ac bc Ry wY=>?_
   dsimp only
   refine cn (Hf ?_)
   refine cn (rG (rJ (λx q aA=>(∃g,aA=sg st g)/\∃out ja jb mg ac bc,q=(none,out,ja,jb,mg,ac,bc)/\J κ a b out ja jb/\tq+tm<=ja+jb) (Q:=λq aA=>(∃g,aA=sg st g)/\((∃r,q.1=some r/\Mg κ a b r)\/∃out ja jb mg ac bc,q=(none,out,ja,jb,mg,ac,bc)/\J κ a b out ja jb/\tq+tm<=ja+jb)) (λx q aA _ hx hI=>?_) (λq aA hI=>?_) ⟨⟨_,rfl⟩,_,_,_,_,_,_,rfl,Ry,by ext⟩) λq aA hI=>?_)
   .revert q aA
    refine XC λg out ja jb mg ac bc hJ hp=>?_
    dsimp only
    have la:=hJ.la
    have lb:=hJ.lb
    revert mg
    refine JA (λmg=>mg-1) (λ_=>rfl) λmg=>?_
    refine cn (NY (cn (nr lb (cn ?_))))
    refine Kc hk T ?_ (FJ la) lb λk k1 k2 k3=>?_
    .exact hd
    dsimp only
    have hR:Inv κ a.toList b.toList out.toList ja jb/\(k=0->∀y∈a.toList.drop ja,κ b[jb]<κ y)/\(k=0->ja+1<a.size)/\tq+tm<=ja+jb/\ja+k<=a.size/\(∀x∈(a.toList.drop ja).take k,∀y∈b.toList.drop jb,κ x<κ y)/\∀y∈a.toList.drop (ja+k),κ b[jb]<κ y:=⟨hJ.inv,λz=>by rw [z] at k3;exact k3,λ_=>la,hp,k1,k2,k3⟩
    clear hJ la hp k1 k2 k3
    revert out ja
    refine NZ (λo j=>Inv κ a.toList b.toList o.toList j jb/\j+1<a.size/\(∀y∈a.toList.drop j,κ b[jb]<κ y)/\tq+tm<=j+jb) ?_ (λout ja hR hF d0=>?_) λout ja hR d0=>⟨hR.1,hR.2.2.1 (FQ d0),hR.2.1 (FQ d0),hR.2.2.2.1⟩
    .rintro o j ⟨i1,hj,k3,hp⟩
     have MR:=FJ hj
     refine cn (nr lb ?_)
     have i2:=i1.zV T lb k3
     refine pI (λd3=>?_) λd3=>?_
     .exact cL ⟨⟨_,rfl⟩,.inl ⟨_,rfl,i2.mP T (.inr d3)⟩⟩
     have l2:jb+1<b.size:=KQ lb d3
     refine cn (nr MR (cn ?_))
     refine Kc hk T.sym ?_ l2 MR λm m1 m2 m3=>?_
     .exact hd
     dsimp only
     have hR:Inv κ a.toList b.toList (o.push b[jb]).toList j (jb+1)/\(m=0->∀y∈b.toList.drop (jb+1),κ a[j]<κ y)/\jb+1<b.size/\tq+tm<=j+(jb+1)/\jb+1+m<=b.size/\(∀x∈(b.toList.drop (jb+1)).take m,∀y∈a.toList.drop j,κ x<κ y)/\∀y∈b.toList.drop (jb+1+m),κ a[j]<κ y:=⟨i2,λz=>by rw [z] at m3;exact m3,l2,Nat.le_succ_of_le hp,m1,m2,m3⟩
     clear i2 l2 m1 m2 m3
     generalize o.push b[jb]=o2 at hR ⊢
     generalize jb+1=j2 at hR ⊢
     revert o2 j2
     refine NZ (λp q=>Inv κ a.toList b.toList p.toList j q/\q<b.size/\(∀y∈b.toList.drop q,κ a[j]<κ y)/\tq+tm<=j+q) ?_ (λo2 j2 hR hF d4=>?_) λout ja hR d0=>⟨hR.1,hR.2.2.1,hR.2.1 (FQ d0),hR.2.2.2.1⟩
     .rintro p q ⟨i3,hq,m3,hp⟩
      refine cn (nr MR ?_)
      have i4:=i3.zW T MR m3
      refine pI (λd6=>?_) λd6=>?_
      .exact cL ⟨⟨_,rfl⟩,.inl ⟨_,rfl,i4.oE T hm d6⟩⟩
      have hJ:J κ a b (p.push a[j]) (j+1) q:=⟨i4,KQ hj d6,hq⟩
      have Xd:tq+tm<=j+1+q:=l9 hp (S1 (DU j) q)
      refine Cq (λd7=>?_) λd7=>?_
      .exact cL ⟨⟨_,rfl⟩,.inr ⟨_,_,_,_,_,_,rfl,hJ,Xd⟩⟩
      .exact cL ⟨⟨_,rfl⟩,_,_,_,_,_,_,rfl,hJ,Xd⟩
     .obtain ⟨i2,_,l2,hp,m1,m2,m3⟩:=hR
      have i3:=i2.Qt T m m2
      refine pI (λd5=>?_) λd5=>?_
      .exact cL ⟨⟨_,rfl⟩,.inl ⟨_,rfl,i3.mP T (.inr d5)⟩⟩
      exact hF _ _ ⟨i3,KQ m1 d5,m3,l9 hp (Ye (SM j2 m) j)⟩
    .obtain ⟨i0,_,la,hp,k1,k2,k3⟩:=hR
     have i1:=i0.IC T k k2
     refine pI (λd1=>?_) λd1=>?_
     .exact cL ⟨⟨_,rfl⟩,.inl ⟨_,rfl,i1.oE T hm d1⟩⟩
     refine pI (λd2=>?_) λd2=>?_
     .exact cL ⟨⟨_,rfl⟩,.inl ⟨_,rfl,i1.mP T (.inl d2)⟩⟩
     exact hF _ _ ⟨i1,KQ (KQ k1 d2) d1,k3,l9 hp (S1 (SM ja k) jb)⟩
   .obtain ⟨hg,out,ja,jb,mg,ac,bc,rfl,hJ,hp⟩:=hI
    exact ⟨hg,.inr ⟨_,_,_,_,_,_,rfl,hJ,‹_›⟩⟩
   .revert q aA
    refine XA (λg r _ hr=>cL ⟨⟨_,rfl⟩,_,rfl,hr⟩) λg out ja jb mg ac bc hJ hp=>?_
    .dsimp only
     exact cn (NY (cL ⟨⟨_,rfl⟩,_,_,_,_,rfl,hJ,by lia⟩))
 .obtain ⟨_,out,ia,ib,mg,rfl,hJ,hp⟩:=hI
  have la:=hJ.la
  have lb:=hJ.lb
  ext _ hb hp la lb
 .obtain ⟨⟨g,rfl⟩,r,e,hr⟩:=hI
  rw [e]
  exact cL (h _ _ hr)
end
section
variable {prog:Program}{w:World}{A:Around}{E:Value->Shared->Prop}{s:Shared}{kd:SortKind}{κ:Keyed->Int}{C:Keyed->Prop}{a b:Array Keyed}
noncomputable def ng(κ:Keyed->Int)(x:Keyed):Int:=-κ x
theorem hU:ju (ng κ) l.reverse↔ju κ l:=by
 unfold ju
 rw [List.pairwise_reverse]
 constructor<;>exact λh=>h.imp λz=>by unfold ng at *;ext z
theorem BR(l:List Keyed)(h:n<=l.length):l.reverse.drop (l.length-n)=(l.take n).reverse:=by
 rw [List.reverse_take]
theorem YB(l:List Keyed)(h:n<=l.length)(hk:k<=n):(l.reverse.drop (l.length-n)).take (n-k)=((l.take n).drop k).reverse:=by
 rw [BR l h,List.reverse_drop,oY,Nat.min_eq_left h]
theorem OM(a:Array Keyed)(n:Nat):(a.extract 0 n).toList=a.toList.take n:=by
 rw [NG,NO]
 rfl
theorem UW(a:Array Keyed)(i n:Nat):(a.extract i n).toList=(a.toList.take n).drop i:=by
 rw [NG,NO,SU]
structure H(κ:Keyed->Int)(a b out:Array Keyed)(na nb:Nat):Prop where
 inv:Inv (ng κ) a.toList.reverse b.toList.reverse out.toList (a.toList.length-na) (b.toList.length-nb)
 la:na<=a.toList.length
 lb:nb<=b.toList.length
variable {out:Array Keyed}{na nb:Nat}
theorem H.sym(h:H κ a b out na nb):H κ b a out nb na:=⟨h.inv.sym,h.lb,h.la⟩
theorem H.seg(h:H κ a b out na nb)(T:lT κ C a b)(hk:k<=na)(hx:∀x∈(a.toList.take na).drop k,∀y∈b.toList.take nb,κ y<κ x):H κ a b (out++(a.extract k na).reverse) k nb:=by
 have la:=h.la
 refine ⟨?_,by ext hk la,h.lb⟩
 have i:=h.inv.a (hU.mpr T.sa) (na-k) λx mn y hy=>?_
 .rw [YB _ h.la hk,show a.toList.length-na+(na-k)=a.toList.length-k by ext hk la] at i
  rw [AL,NF,UW]
  exact i
 .rw [YB _ h.la hk] at mn
  rw [BR _ h.lb] at hy
  have:=hx x (GL.mp mn) y (GL.mp hy)
  unfold ng
  ext this
theorem H.push(h:H κ a b out na nb)(T:lT κ C a b)(h0:0<na)(hn:na-1<a.size)(hx:∀y∈b.toList.take nb,κ y<κ a[na-1]):H κ a b (out.push a[na-1]) (na-1) nb:=by
 have la:=h.la
 rw [kx] at la
 have e:(a.toList.take na).drop (na-1)=[a[na-1]]:=by
  rw [SU,show na-(na-1)=1 by ext h0,U3 hn]
 have:=h.seg T (k:=na-1) (by ext) λx mn y hy=>by
  rw [e,oZ] at mn
  rw [mn]
  exact hx y hy
 have e2:out++(a.extract (na-1) na).reverse=out.push a[na-1]:=by
  apply SG.mp
  rw [AL,NF,UW,e,GP]
  rfl
 rw [e2] at this
 exact this
theorem H.Jn(h:H κ a b out na nb)(T:lT κ C a b)(hm:na=0\/nb=0):Mg κ a b (a.extract 0 na++b.extract 0 nb++out.reverse):=by
 have q:=h.inv.last (hU.mpr T.sa) (hU.mpr T.sb) λx hx y hy=>by
  rw [BR _ h.lb,GL] at hx
  rw [BR _ h.la,GL] at hy
  rcases hm with rfl | rfl
  .rw [List.take_zero] at hy;cases hy
  .rw [List.take_zero] at hx;cases hx
 have e:(a.extract 0 na++b.extract 0 nb++out.reverse).toList=(out.toList++b.toList.reverse.drop (b.toList.length-nb)++a.toList.reverse.drop (a.toList.length-na)).reverse:=by
  rw [BR _ h.lb,BR _ h.la,AL,AL,NF,OM,OM]
  simp
 unfold Mg
 rw [e]
 refine ⟨?_,?_⟩
 .have:=q.1
  rw [<-Yf (as:=out.toList++_++_)] at this
  exact hU.mp this
 .refine (GO _).trans (q.2.trans ?_)
  exact (GO _).append (GO _)
theorem H.MG(h:H κ a b out na nb)(T:lT κ C a b)(hm:∀x∈b.toList.take nb,∀y∈a.toList,κ x<κ y):Mg κ a b (b.extract 0 nb++a.extract 0 na++out.reverse):=by
 have q:=h.inv.done (hU.mpr T.sa) (hU.mpr T.sb) λx hx y hy=>by
  rw [BR _ h.la,GL] at hx
  rw [BR _ h.lb,GL] at hy
  have:=hm y hy x (FE hx)
  unfold ng
  ext this
 have e:(b.extract 0 nb++a.extract 0 na++out.reverse).toList=(out.toList++a.toList.reverse.drop (a.toList.length-na)++b.toList.reverse.drop (b.toList.length-nb)).reverse:=by
  rw [BR _ h.lb,BR _ h.la,AL,AL,NF,OM,OM]
  simp
 unfold Mg
 rw [e]
 refine ⟨?_,?_⟩
 .have:=q.1
  rw [<-Yf (as:=out.toList++_++_)] at this
  exact hU.mp this
 .refine (GO _).trans (q.2.trans ?_)
  exact (GO _).append (GO _)
theorem Uh(h:x∈a.toList.take n):∃j,∃hj:j<a.size,j<n/\x=a[j]:=by
 obtain ⟨j,hj,_,j2,e⟩:=UM (i:=0) (k:=n) (by rw [KE];exact h)
 exact ⟨j,hj,by ext j2,e⟩
theorem TX(T:lT κ C a b)(hi:i<a.size)(hj:j<b.size)(h:κ b[j]<κ a[i]):∀y∈b.toList.take (j+1),κ y<κ a[i]:=λy hy=>by
 obtain ⟨m,hm,m1,rfl⟩:=Uh hy
 by_cases c:m=j
 .subst c;exact h
 .have:=k6 T.sb (show m<j by ext m1 c) hj
  rw [nB hm,nB hj] at this
  ext hm hi hj h this
theorem Kb(hk:Ask prog w s kd κ C)(T:lT κ C a b){st:SortSt}(hd:kindOf st=kd){Q:Option Nat->SortSt->Prop}(hn:n<=a.size)(h0:0<n)(hj:j<b.size)
  (h:∀k,k<=n->(∀x∈(a.toList.take n).drop k,∀y∈b.toList.take (j+1),κ y<κ x)->(∀y∈a.toList.take k,κ y<κ b[j])->Q (some k) st):wpS (model prog w) A E s (a97 l b[j] a 0 n (n-1)) Q st:=by
 refine M1 hk hd (T.MK hj) (by ext hn) (by ext h0) (λn hn _ _=>⟨T.ML hn,T.Gu hn hj⟩) (λx y h1 h2=>k6 T.sa (by ext h1) (by ext hn h2)) λk k1 k2 k3=>h k ‹_› (λx hx=>?_) λy hy=>?_
 .rw [SU] at hx
  obtain ⟨m,hm,m1,m2,rfl⟩:=UM hx
  have e:=k3 m ‹_› (by ext k1 m2)
  rw [KN,nB hm] at e
  exact TX T hm hj e
 .obtain ⟨m,hm,m1,rfl⟩:=Uh hy
  have e:=k2 m ‹_›
  rw [KN,nB hm] at e
  exact e
theorem mhi(hk:Ask prog w s kd κ C)(T:lT κ C a b){st:SortSt}(hd:kindOf st=kd){Q:Array Keyed->SortSt->Prop}(ha:0<a.size)(hb:0<b.size)(h0:κ b[0]<κ a[0])(hm:∀x∈b.toList,κ x<κ a[a.size-1])
  (h:∀r g,Mg κ a b r->Q r (sg st g)):wpS (model prog w) A E s (b3Y a b) Q st:=by
 unfold wpS
 wp_delta
 wp_delta
 wp_delta
 refine Hh (Q:=Q) (cn (Hf (cn (nr (show a.size-1<a.size by ext ha) ?_))))
 dsimp only
 have hz:H κ a b #[] a.size b.size:=⟨by rw [kx,kx,KL,KL];exact JE,by simp,by simp⟩
 have i0:H κ a b #[a[a.size-1]] (a.size-1) b.size:=hz.push T ha (by ext ha) λy hy=>hm y (FE hy)
 have hf:∀x∈b.toList.take 1,∀y∈a.toList,κ x<κ y:=λx hx y hy=>by
  obtain ⟨m,hm,m1,rfl⟩:=Uh hx
  obtain rfl:m=0:=by ext m1
  exact Oo T ha hb h0 y (by rw [KE];exact hy)
 refine pI (λc1=>?_) λc1=>?_
 .exact cL (h _ (gallopOf st) (i0.Jn T (.inl c1)))
 refine pI (λc2=>?_) λc2=>?_
 .exact cL (h _ (gallopOf st) (i0.MG T (by rw [c2];exact hf)))
 refine cn (Ay ?_)
 refine cn (rG (rJ (λx q aA=>(∃g,aA=sg st g)/\∃na nb out mg,q=(none,na,nb,out,mg)/\H κ a b out na nb/\1<=na/\2<=nb/\na+nb+x+1<=a.size+b.size) (Q:=λq aA=>(∃g,aA=sg st g)/\∃r,q.1=some r/\Mg κ a b r) (λx q aA _ hx hI=>?_) (λq aA hI=>?_) ⟨⟨gallopOf st,rfl⟩,_,_,_,_,rfl,i0,by ext ha c1,by ext hb c2,by ext ha⟩) λq aA hI=>?_)
 .revert q aA
  refine XE λg na nb out mg hJ hS=>?_
  have ga:=hS.1
  have gb:=hS.2.1
  have hp:=hS.2.2
  clear hS
  dsimp only
  refine cn (rG (rJ (λx q aA=>(∃g,aA=sg st g)/\∃u4 uZ k7 ac bc,q=(none,u4,uZ,k7,ac,bc)/\H κ a b k7 u4 uZ/\1<=u4/\2<=uZ/\u4+uZ+x<=na+nb) (Q:=λq aA=>(∃g,aA=sg st g)/\((∃r,q.1=some r/\Mg κ a b r)\/∃u4 uZ k7 ac bc,q=(none,u4,uZ,k7,ac,bc)/\H κ a b k7 u4 uZ/\1<=u4/\2<=uZ/\u4+uZ+1<=na+nb)) (λx q aA _ hx hI=>?_) (λq aA hI=>?_) ⟨⟨_,rfl⟩,_,_,_,_,_,rfl,hJ,ga,gb,by ext⟩) λq aA hI=>?_)
  .revert q aA
   refine XD λg na nb out ac bc hJ hS=>?_
   have ga:=hS.1
   have gb:=hS.2.1
   have hp:=hS.2.2
   clear hS
   dsimp only
   have la:=hJ.la
   have lb:=hJ.lb
   rw [kx] at la lb
   have xa:na-1<a.size:=by ext ga la
   have xb:nb-1<b.size:=by ext gb lb
   refine cn (nr xb (cn (nr xa (cn (Ju hk hd (T.MK xb) (T.ML xa) (oX (T.Gu xa xb)) ?_)))))
   dsimp only
   refine W6 (λc=>?_) λc=>?_
   .refine cn (nr xa ?_)
    have i2:=hJ.push T ‹_› xa (by have:=TX T xa xb c;rw [show nb-1+1=nb by ext gb] at this;exact this)
    refine pI (λd1=>?_) λd1=>?_
    .exact cL ⟨⟨_,rfl⟩,.inl ⟨_,rfl,i2.Jn T (.inl d1)⟩⟩
    refine Cq (λd2=>?_) λd2=>?_
    .exact cL ⟨⟨_,rfl⟩,.inr ⟨_,_,_,_,_,rfl,i2,by ext d1,‹_›,by ext hp d1⟩⟩
    .exact cL ⟨⟨_,rfl⟩,_,_,_,_,_,rfl,i2,by ext d1,‹_›,by ext hp d1⟩
   .refine cn (nr xb ?_)
    have iV:=T.Gu xa xb
    have i2:=(hJ.sym.push T.sym (by ext gb) xb (by have:=TX T.sym xb xa (by ext xa xb c iV);rw [show na-1+1=na by ext ga] at this;exact this)).sym
    refine pI (λd1=>?_) λd1=>?_
    .exact cL ⟨⟨_,rfl⟩,.inl ⟨_,rfl,i2.MG T (by rw [d1];exact hf)⟩⟩
    refine Cq (λd2=>?_) λd2=>?_
    .exact cL ⟨⟨_,rfl⟩,.inr ⟨_,_,_,_,_,rfl,i2,‹_›,by ext gb d1,by ext gb hp⟩⟩
    .exact cL ⟨⟨_,rfl⟩,_,_,_,_,_,rfl,i2,‹_›,by ext gb d1,by ext gb hp⟩
  .obtain ⟨hg,na,nb,out,ac,bc,rfl,hJ,ga,gb,hp⟩:=hI
   exact ⟨hg,.inr ⟨_,_,_,_,_,rfl,hJ,ga,gb,by ext ha hb hp⟩⟩
  .revert q aA
   refine XB (λg r _ hr=>cL ⟨⟨_,rfl⟩,_,rfl,hr⟩) λg u4 uZ k7 ac bc Ry hS=>?_
   have ga':=hS.1
   have gb':=hS.2.1
   have wY:=hS.2.2
   clear hS
   dsimp only
   refine cn (Hf ?_)
   refine cn (rG (rJ (λx q aA=>(∃g,aA=sg st g)/\∃ja jb out mg ac bc,q=(none,ja,jb,out,mg,ac,bc)/\H κ a b out ja jb/\1<=ja/\2<=jb/\ja+jb<=u4+uZ) (Q:=λq aA=>(∃g,aA=sg st g)/\((∃r,q.1=some r/\Mg κ a b r)\/∃ja jb out mg ac bc,q=(none,ja,jb,out,mg,ac,bc)/\H κ a b out ja jb/\1<=ja/\2<=jb/\ja+jb<=u4+uZ)) (λx q aA _ hx hI=>?_) (λq aA hI=>?_) ⟨⟨_,rfl⟩,_,_,_,_,_,_,rfl,Ry,ga',gb',by ext⟩) λq aA hI=>?_)
   .revert q aA
    refine XC λg ja jb out mg ac bc hJ hS=>?_
    have ga:=hS.1
    have gb:=hS.2.1
    have hp:=hS.2.2
    clear hS
    dsimp only
    have la:=hJ.la
    have lb:=hJ.lb
    rw [kx] at la lb
    have xb:jb-1<b.size:=by ext gb lb
    revert mg
    refine JA (λmg=>mg-1) (λ_=>rfl) λmg=>?_
    refine cn (NY (cn (nr xb (cn ?_))))
    refine Kb hk T ?_ la ga xb λk k1 k2 k3=>?_
    .exact hd
    dsimp only
    have jj:jb-1+1=jb:=Nat.sub_add_cancel (CV gb)
    rw [jj] at k2
    have hR:H κ a b out ja jb/\(ja-k=0->1<=ja/\ja<=k)/\k<=ja/\(∀x∈(a.toList.take ja).drop k,∀y∈b.toList.take jb,κ y<κ x):=⟨hJ,λz=>⟨ga,XW z⟩,k1,k2⟩
    have hka:k<=a.size:=l9 k1 la
    have hpk:k+jb<=u4+uZ:=l9 (S1 k1 jb) hp
    clear hJ k2 la ga hp k1
    generalize ja-k=cnt at hR ⊢
    revert out ja
    refine NZ (λn o=>H κ a b o n jb/\n=k/\1<=n) ?_ (λja out hR hF d0=>?_) λja out hR d0=>⟨hR.1,Nat.le_antisymm (hR.2.1 (FQ d0)).2 hR.2.2.1,(hR.2.1 (FQ d0)).1⟩
    .rintro n o ⟨i1,rfl,hn⟩
     have xa:n-1<a.size:=o3 (Nat.sub_lt hn Nat.one_pos) hka
     refine cn (nr xb ?_)
     have i2:=(i1.sym.push T.sym (Nat.lt_of_succ_le (CV gb)) xb k3).sym
     refine pI (λd3=>?_) λd3=>?_
     .exact cL ⟨⟨_,rfl⟩,.inl ⟨_,rfl,i2.MG T (by rw [d3];exact hf)⟩⟩
     have g2:2<=jb-1:=N5 gb d3
     have g3:jb-1<=b.size:=DS xb
     refine cn (nr xa (cn ?_))
     refine Kb hk T.sym ?_ g3 (FJ g2) xa λm m1 m2 m3=>?_
     .exact hd
     dsimp only
     rw [Nat.sub_add_cancel hn] at m2
     have hR:H κ a b (o.push b[jb-1]) n (jb-1)/\(jb-1-m=0->2<=jb-1/\jb-1<=m)/\m<=jb-1/\(∀x∈(b.toList.take (jb-1)).drop m,∀y∈a.toList.take n,κ y<κ x):=⟨i2,λz=>⟨g2,XW z⟩,m1,m2⟩
     have Xc:n-1+m<=u4+uZ:=l9 (Nat.add_le_add (Nat.sub_le n 1) (l9 m1 (Nat.sub_le jb 1))) hpk
     clear i2 g2 g3 m1 m2
     generalize jb-1-m=cnt2 at hR ⊢
     generalize o.push b[jb-1]=o2 at hR ⊢
     generalize jb-1=j2 at hR ⊢
     revert o2 j2
     refine NZ (λp q=>H κ a b p n q/\q=m/\2<=q) ?_ (λo2 j2 hR hF d4=>?_) λout ja hR d0=>⟨hR.1,Nat.le_antisymm (hR.2.1 (FQ d0)).2 hR.2.2.1,(hR.2.1 (FQ d0)).1⟩
     .rintro p q ⟨i3,rfl,hq⟩
      refine cn (nr xa ?_)
      have i4:=i3.push T hn xa m3
      refine pI (λd6=>?_) λd6=>?_
      .exact cL ⟨⟨_,rfl⟩,.inl ⟨_,rfl,i4.Jn T (.inl d6)⟩⟩
      have h6:1<=n-1:=Te d6
      refine Cq (λd7=>?_) λd7=>?_
      .exact cL ⟨⟨_,rfl⟩,.inr ⟨_,_,_,_,_,_,rfl,i4,h6,hq,Xc⟩⟩
      .exact cL ⟨⟨_,rfl⟩,_,_,_,_,_,_,rfl,i4,h6,hq,Xc⟩
     .obtain ⟨i2,_,m1,m2⟩:=hR
      have i3:=(i2.sym.seg T.sym m1 m2).sym
      refine pI (λd5=>?_) λd5=>?_
      .exact cL ⟨⟨_,rfl⟩,.inl ⟨_,rfl,i3.MG T (by rw [d5];exact hf)⟩⟩
      refine pI (λd8=>?_) λd8=>?_
      .exact cL ⟨⟨_,rfl⟩,.inl ⟨_,rfl,i3.Jn T (.inr d8)⟩⟩
      exact hF _ _ ⟨i3,rfl,b7U d5 d8⟩
    .obtain ⟨hJ,_,k1,k2⟩:=hR
     have i1:=hJ.seg T k1 k2
     refine pI (λd1=>?_) λd1=>?_
     .exact cL ⟨⟨_,rfl⟩,.inl ⟨_,rfl,i1.Jn T (.inl d1)⟩⟩
     exact hF _ _ ⟨i1,rfl,Te d1⟩
   .obtain ⟨hg,ja,jb,out,mg,ac,bc,rfl,hJ,ga,gb,hp⟩:=hI
    exact ⟨hg,.inr ⟨_,_,_,_,_,_,rfl,hJ,ga,gb,‹_›⟩⟩
   .revert q aA
    refine XA (λg r _ hr=>cL ⟨⟨_,rfl⟩,_,rfl,hr⟩) λg ja jb out mg ac bc hJ hS=>?_
    have ga:=hS.1
    have gb:=hS.2.1
    have hp:=hS.2.2
    clear hS
    .dsimp only
     exact cn (NY (cL ⟨⟨_,rfl⟩,_,_,_,_,rfl,hJ,ga,gb,by lia⟩))
 .obtain ⟨_,na,nb,out,mg,rfl,hJ,ga,gb,hp⟩:=hI
  ext _ hp
 .obtain ⟨⟨g,rfl⟩,r,e,hr⟩:=hI
  rw [e]
  exact cL (h _ _ hr)
end
section
variable {prog:Program}{w:World}{A:Around}{E:Value->Shared->Prop}{s:Shared}{kd:SortKind}{κ:Keyed->Int}{C:Keyed->Prop}
theorem b5v{σ:Type}{M:Model}{Q:PUnit->σ->Prop}{st aA:σ}(h:Q ⟨⟩ aA):wpS M A E s (set aA:StateT σ Sem PUnit) Q st:=by
 unfold wpS
 rw [StateT.run_set]
 exact cp ⟨rfl,h⟩
theorem Zo(e:arr.toList=P++R++S)(h:i<R.length):kv κ arr (P.length+i)=κ R[i]:=by
 unfold kv
 have:arr[P.length+i]?=some R[i]:=by
  rw [<-BJ,e,mx,C2 (by ext),FO (by ext h)]
  simp [h]
 rw [this]
def Es(κ:Keyed->Int)(l:List Keyed):Prop:=(l.map κ).Nodup
theorem Es.ne{arr:Array Keyed}(h:Es κ arr.toList){i j:Nat}(hi:i<arr.size)(hj:j<arr.size)(lr:i≠j):κ arr[i]≠κ arr[j]:=λz=>by
 refine lr ((List.getElem_inj (h₀:=by simpa using hi) (h₁:=by simpa using hj) h).mp ?_)
 simpa using z
theorem Es.app(h:Es κ (l++m)):∀x∈l,∀y∈m,κ x≠κ y:=λx hx y hy z=>by
 unfold Es at h
 rw [nA,List.nodup_append] at h
 exact h.2.2 _ (t6.mpr ⟨x,hx,rfl⟩) _ (t6.mpr ⟨y,hy,rfl⟩) z
theorem Ow{R:List Keyed}(h:ju κ R){i j:Nat}(lr:i<j)(hj:j<R.length):κ (R[i]'(by ext lr hj))<κ R[j]:=G8.mp h i j (by ext lr hj) hj lr
theorem mat(hk:Ask prog w s kd κ C){st:SortSt}(hd:kindOf st=kd)(hf:failedOf st=none){Q:Bool->SortSt->Prop}(e:(arrOf st).toList=P++R1++R2++S)(hC:∀x∈(arrOf st).toList,C x)(hD:Es κ (arrOf st).toList)
  (s1:ju κ R1)(s2:ju κ R2)(n1:R1≠[])(n2:R2≠[])(e1:(pendingOf st)[i]?=some (P.length,R1.length,pw))(e2:(pendingOf st)[i+1]?=some (P.length+R1.length,R2.length,p2))
  (h:∀aA R,kindOf aA=kd->failedOf aA=none->(arrOf aA).toList=P++R++S->ju κ R->R.Perm (R1++R2)->pendingOf aA=((pendingOf st).setIfInBounds i (P.length,R1.length+R2.length,pw)).eraseIdxIfInBounds (i+1)->Q true aA):wpS (model prog w) A E s (mergeAt' i) Q st:=by
 have l1:=G3.mpr n1
 have l2:=G3.mpr n2
 have hz:(arrOf st).size=P.length+R1.length+R2.length+S.length:=by rw [<-kx,e];simp only [fZ]
 have eA:(arrOf st).toList=P++R1++(R2++S):=by rw [e,mx]
 have eB:(arrOf st).toList=(P++R1)++R2++S:=e
 have lB:(P++R1).length=P.length+R1.length:=fZ ..
 have kA:∀j (hj:j<R1.length),kv κ (arrOf st) (P.length+j)=κ R1[j]:=λj hj=>Zo eA hj
 have kB:∀j (hj:j<R2.length),kv κ (arrOf st) (P.length+R1.length+j)=κ R2[j]:=λj hj=>by rw [<-lB];exact Zo eB hj
 have b0:P.length+R1.length<(arrOf st).size:=by ext l2 hz:1
 have W1:κ (arrOf st)[P.length+R1.length]=κ R2[0]:=by rw [<-nB (κ:=κ) b0,<-kB 0 l2];rfl
 have aL:P.length+R1.length-1<(arrOf st).size:=by ext b0:1
 have W2:κ (arrOf st)[P.length+R1.length-1]=κ R1[R1.length-1]:=by rw [<-nB (κ:=κ) aL,<-kA _ (by ext l1:1)];congr 1;ext l1:1
 have M0:∀j (hj:j<(arrOf st).size),C (arrOf st)[j]:=λj hj=>hC _ (by simp)
 have z1:P.length+R1.length<=(arrOf st).size:=by ext b0:1
 have z2:P.length+R1.length+R2.length<=(arrOf st).size:=by ext hz:1
 have plain:(∀x∈R1,∀y∈R2,κ x<κ y)->ju κ (R1++R2):=λz=>zo.mpr ⟨s1,s2,z⟩
 unfold wpS
 wp_delta
 wp_delta
 wp_delta
 refine Hh (Q:=Q) (cn (Ay ?_))
 rw [e1,e2]
 dsimp only
 refine cn (b5v (cn (nr b0 (cn ?_))))
 refine M1 hk ?_ (M0 _ b0) z1 l1 (λj hj h1 h2=>⟨M0 j hj,hD.ne hj b0 (by ext h2:1)⟩) (λx y hx hy=>by rw [kA _ (by ext hx hy:1),kA _ hy];exact Ow s1 hx hy) λk k1 k2 k3=>?_
 .exact hd
 dsimp only
 have c2:∀x∈R1.take k,∀y∈R2,κ x<κ y:=λx hx y hy=>by
  obtain ⟨j,hj,rfl⟩:=xM.mp hx
  obtain ⟨m,hm,rfl⟩:=xM.mp hy
  rw [oY] at hj
  have:=k2 j (by ext hj:1)
  rw [kA j (by ext hj:1),W1] at this
  rw [K2]
  by_cases c:m=0
  .subst c;exact this
  .have:=Ow s2 (show 0<m by ext c:1) hm
   lia
 by_cases d1:R1.length-k=0
 .rw [if_pos (by simpa using d1)]
  refine cL (h _ (R1++R2) hd hf (by show (arrOf st).toList=_;rw [e];simp) (plain ?_) (C1 _) rfl)
  rw [FR (by ext d1:1)] at c2
  exact c2
 rw [if_neg (by simpa using d1)]
 have ek:P.length+k+(R1.length-k)-1=P.length+R1.length-1:=by ext k1:1
 rw [ek]
 refine cn (nr aL (cn ?_))
 refine M1 hk ?_ (M0 _ aL) z2 (by ext l2:1) (λj hj h1 h2=>⟨M0 j hj,hD.ne hj aL (by ext l1 h1:1)⟩) (λx y hx hy=>by rw [kB _ (by ext hx hy:1),kB _ hy];exact Ow s2 hx hy) λm m1 m2 m3=>?_
 .exact hd
 dsimp only
 have c3:∀x∈R2.drop m,∀y∈R1,κ y<κ x:=λx hx y hy=>by
  obtain ⟨j,hj,rfl⟩:=xM.mp hx
  obtain ⟨n,hn,rfl⟩:=xM.mp hy
  rw [BL] at hj
  have:=m3 (m+j) (by ext:1) (by ext hj:1)
  rw [kB _ (by ext hj:1),W2] at this
  rw [Tn]
  by_cases c:n=R1.length-1
  .subst c;exact this
  .have:=Ow s1 (show n<R1.length-1 by ext hn c:1) (by ext l1:1)
   lia
 by_cases d2:m=0
 .rw [if_pos (by simpa using d2)]
  refine cL (h _ (R1++R2) hd hf (by show (arrOf st).toList=_;rw [e];simp) (plain λx hx y hy=>c3 y (by rw [d2];exact hy) x hx) (C1 _) rfl)
 rw [if_neg (by simpa using d2)]
 have eX:((arrOf st).extract (P.length+k) (P.length+R1.length)).toList=R1.drop k:=by
  rw [UW,eA,Yn (by simp),<-lB,List.take_length,List.drop_append,GX (by ext:1),K7]
  congr 1
  ext:1
 have eY:((arrOf st).extract (P.length+R1.length) (P.length+R1.length+m)).toList=R2.take m:=by
  rw [ZW,eB,mx,<-lB,List.drop_append,List.drop_length,K7,KL,KE,Yn m1]
 have zX:((arrOf st).extract (P.length+k) (P.length+R1.length)).size=R1.length-k:=by rw [<-kx,eX,BL]
 have zY:((arrOf st).extract (P.length+R1.length) (P.length+R1.length+m)).size=m:=by rw [<-kx,eY,oY];ext m1:1
 have hCl:∀x∈R1,C x:=λx hx=>hC x (by rw [e];simp [hx])
 have hCr:∀x∈R2,C x:=λx hx=>hC x (by rw [e];simp [hx])
 have iV:∀x∈R1,∀y∈R2,κ x≠κ y:=λx hx y hy=>by
  rw [eA] at hD
  exact hD.app x (by simp [hx]) y (by simp [hy])
 have T:lT κ C ((arrOf st).extract (P.length+k) (P.length+R1.length)) ((arrOf st).extract (P.length+R1.length) (P.length+R1.length+m)):=by
  refine ⟨?_,?_,?_,?_,?_⟩
  .rw [eX];exact Hq s1 k
  .rw [eY];exact U8 s2 m
  .rw [eX];exact λx hx=>hCl x (G5 hx)
  .rw [eY];exact λx hx=>hCr x (FE hx)
  .rw [eX,eY];exact λx hx y hy=>iV x (G5 hx) y (FE hy)
 have gX:∀j (hj:j<((arrOf st).extract (P.length+k) (P.length+R1.length)).size),κ ((arrOf st).extract (P.length+k) (P.length+R1.length))[j]=κ (R1[k+j]'(by ext zX hj:1)):=λj hj=>by
  rw [<-Le]
  simp only [eX,Tn]
 have gY:∀j (hj:j<((arrOf st).extract (P.length+R1.length) (P.length+R1.length+m)).size),κ ((arrOf st).extract (P.length+R1.length) (P.length+R1.length+m))[j]=κ (R2[j]'(by ext m1 zY hj:1)):=λj hj=>by
  rw [<-Le]
  simp only [eY,K2]
 have pX:0<((arrOf st).extract (P.length+k) (P.length+R1.length)).size:=by ext d1 zX:1
 have pY:0<((arrOf st).extract (P.length+R1.length) (P.length+R1.length+m)).size:=by ext d2 zY:1
 have h0:κ ((arrOf st).extract (P.length+R1.length) (P.length+R1.length+m))[0]<κ ((arrOf st).extract (P.length+k) (P.length+R1.length))[0]:=by
  rw [gX 0 pX,gY 0 pY]
  have:=k3 k (cT _) (by ext zX pX:1)
  rw [kA k (by ext zX pX:1),W1] at this
  exact this
 have DE:∀x∈((arrOf st).extract (P.length+R1.length) (P.length+R1.length+m)).toList,κ x<κ R1[R1.length-1]:=λx hx=>by
  rw [eY] at hx
  obtain ⟨j,hj,rfl⟩:=xM.mp hx
  rw [oY] at hj
  have:=m2 j (by ext m1 zY hj:1)
  rw [kB j (by ext m1 zY hj:1),W2] at this
  rw [K2]
  exact this
 have rest:∀(r:Array Keyed) (g:Nat),Mg κ ((arrOf st).extract (P.length+k) (P.length+R1.length)) ((arrOf st).extract (P.length+R1.length) (P.length+R1.length+m)) r->Q true (KC (kindOf st) (r.toList.zipIdx.foldl (λa x=>match x with | (p,j)=>a.setIfInBounds (P.length+k+j) p) (arrOf st)) (((pendingOf st).setIfInBounds i (P.length,R1.length+R2.length,pw)).eraseIdxIfInBounds (i+1)) g (failedOf st)):=λr g hM=>by
  unfold Mg at hM
  rw [eX,eY] at hM
  obtain ⟨q1,q2⟩:=b8L s1 s2 c2 c3 hM.1 hM.2
  refine h _ (R1.take k++r.toList++R2.drop m) hd hf ?_ q1 q2 rfl
  have hl:r.toList.length=(R1.drop k++R2.take m).length:=hM.2.length_eq
  have eP:(arrOf st).toList=(P++R1.take k)++(R1.drop k++R2.take m)++(R2.drop m++S):=by
   rw [e]
   have x1:R1=R1.take k++R1.drop k:=(xN ..).symm
   have x2:R2=R2.take m++R2.drop m:=(xN ..).symm
   generalize R1.take k=u at *
   generalize R1.drop k=u2 at *
   generalize R2.take m=v at *
   generalize R2.drop m=v2 at *
   rw [x1,x2]
   simp only [mx]
  have lP:(P++R1.take k).length=P.length+k:=by rw [fZ,oY];ext hz lB k1:1
  have:=b0W eP hl
  rw [lP] at this
  show (r.toList.zipIdx.foldl (λa x=>a.setIfInBounds (P.length+k+x.2) x.1) (arrOf st)).toList=_
  rw [this]
  simp only [mx]
 by_cases d3:R1.length-k<=m
 .rw [if_pos d3]
  refine cn ?_
  refine mlo hk T ?_ pX pY h0 (λx hx y hy=>?_) λr g hM=>?_
  .exact hd
  .rw [eX,zX,List.drop_drop,show k+(R1.length-k-1)=R1.length-1 by ext l1 hz lB zX pX:1,AH (by ext l1 hz lB:1),show R1.length-1+1=R1.length by ext l1 hz lB:1,List.drop_length,oZ] at hy
   rw [hy]
   exact DE x hx
  .refine cn (Fy (cn (Ay (cL ?_))))
   have:=rest r g hM
   show Q (failedOf st).isNone _
   rw [hf]
   exact this
 .rw [if_neg d3]
  refine cn ?_
  refine mhi hk T ?_ pX pY h0 (λx hx=>?_) λr g hM=>?_
  .exact hd
  .rw [gX _ (by ext zX pX:1)]
   have:=DE x hx
   simp only [zX,show k+(R1.length-k-1)=R1.length-1 by ext l1 hz lB zX pX:1]
   exact this
  .refine cn (Fy (cn (Ay (cL ?_))))
   have:=rest r g hM
   show Q (failedOf st).isNone _
   rw [hf]
   exact this
end
section
variable {prog:Program}{w:World}{A:Around}{E:Value->Shared->Prop}{s:Shared}{kd:SortKind}{κ:Keyed->Int}{C:Keyed->Prop}
structure Bs(κ:Keyed->Int)(C:Keyed->Prop)(kd:SortKind)(st:SortSt)(lo:Nat)(aA:SortSt):Prop where
 perm:(arrOf aA).Perm (arrOf st)
 ahead:∀k,k<lo->(arrOf aA)[k]?=(arrOf st)[k]?
 rest:aA=setArr st (arrOf aA)
theorem Bs.refl{st:SortSt}{lo:Nat}:Bs κ C kd st lo st:=⟨XM _,λ_ _=>rfl,rfl⟩
theorem Bs.put{st aA:SortSt}{lo:Nat}(h:Bs κ C kd st lo aA){xs:Array Keyed}(hp:xs.Perm (arrOf aA))(ha:∀k,k<lo->xs[k]?=(arrOf aA)[k]?):Bs κ C kd st lo (setArr aA xs):=
 ⟨hp.trans h.perm,λk hk=>(ha k hk).trans (h.ahead k hk),by rw [h.rest]⟩
structure Al(κ:Keyed->Int)(C:Keyed->Prop)(kd:SortKind)(st:SortSt):Prop where
 kind:kindOf st=kd
 all:∀x∈(arrOf st).toList,C x
 dst:Es κ (arrOf st).toList
theorem Al.of{st aA:SortSt}(h:Al κ C kd st)(hp:(arrOf aA).Perm (arrOf st))(hk:kindOf aA=kd):Al κ C kd aA:=
 have p:=NK.mp hp
 ⟨hk,λx hx=>h.all x (p.mem_iff.mp hx),(p.map κ).nodup_iff.mpr h.dst⟩
theorem Al.bs{st aA:SortSt}{lo:Nat}(h:Al κ C kd st)(b:Bs κ C kd st lo aA):Al κ C kd aA:=h.of b.perm (by rw [b.rest];exact h.kind)
theorem Al.ne{st:SortSt}(h:Al κ C kd st)(hi:i<(arrOf st).size)(hj:j<(arrOf st).size)(lr:i≠j):kv κ (arrOf st) i≠kv κ (arrOf st) j:=by
 rw [nB hi,nB hj]
 exact h.dst.ne hi hj lr
theorem b2i(hk:Ask prog w s kd κ C){st:SortSt}(hA:Al κ C kd st){Q:Option Bool->SortSt->Prop}(hi:i<(arrOf st).size)(hj:j<(arrOf st).size)(lr:i≠j)(h:Q (some (decide (kv κ (arrOf st) i<kv κ (arrOf st) j))) st):wpS (model prog w) A E s (ltAt' i j) Q st:=by
 rw [ltAt'_eq]
 refine cn (Ay ?_)
 show wpS _ _ _ _ (do let p <-elem' (arrOf st) i;let q <-elem' (arrOf st) j;lt' p q) Q st
 refine cn (nr hi (cn (nr hj ?_)))
 rw [nB hi,nB hj] at h
 exact Ju hk hA.kind (hA.all _ (by simp)) (hA.all _ (by simp)) (hA.dst.ne hi hj lr) h
def Up(κ:Keyed->Int)(xs:Array Keyed)(lo k:Nat):Prop:=∀i j,i<j->j<k->kv κ xs (lo+i)<kv κ xs (lo+j)
def Dn(κ:Keyed->Int)(xs:Array Keyed)(lo k:Nat):Prop:=∀i j,i<j->j<k->kv κ xs (lo+j)<kv κ xs (lo+i)
theorem Up.next{lo x:Nat}(h:Up κ xs lo x)(hx:1<=x)(hl:kv κ xs (lo+(x-1))<kv κ xs (lo+x)):Up κ xs lo (x+1):=λi j lr hj=>by
 by_cases c:j<x
 .exact h i j lr c
 .obtain rfl:j=x:=by ext hj c
  by_cases d:i=j-1
  .subst d;exact hl
  .have:=h i (j-1) (by ext lr d) (by ext hx);ext hl this
theorem Dn.next{lo x:Nat}(h:Dn κ xs lo x)(hx:1<=x)(hl:kv κ xs (lo+x)<kv κ xs (lo+(x-1))):Dn κ xs lo (x+1):=λi j lr hj=>by
 by_cases c:j<x
 .exact h i j lr c
 .obtain rfl:j=x:=by ext hj c
  by_cases d:i=j-1
  .subst d;exact hl
  .have:=h i (j-1) (by ext lr d) (by ext hx);ext hl this
theorem Lp(hk:Ask prog w s kd κ C){st:SortSt}(hA:Al κ C kd st){lo a gZ:Nat}{Q:Option (Option Nat)×Nat->SortSt->Prop}(hn:lo+gZ<=(arrOf st).size)(ha:1<=a)(Xp:a<=gZ)(hu:Up κ (arrOf st) lo a)
  (h:∀n,a<=n->n<=gZ->Up κ (arrOf st) lo n->(n=gZ\/n<gZ/\kv κ (arrOf st) (lo+n)<kv κ (arrOf st) (lo+(n-1)))->Q (none,n) st):
  wpS (model prog w) A E s (forIn [a:gZ] ((none,a):Option (Option Nat)×Nat) λ_ q=>ltAt' (lo+q.2) (lo+q.2-1) >>= λr=>match r with
   | some b=>if b=true then pure (Nr (none,q.2)) else pure (BH (none,q.2+1))
   | x=>pure (Nr (some none,q.2))) Q st:=by
 refine rJ (λx c aA=>aA=st/\c=(none,x)/\Up κ (arrOf st) lo x) (λx c aA h1 h2 hI=>?_) (λc aA hI=>?_) ⟨rfl,rfl,hu⟩
 .obtain ⟨rfl,rfl,JK⟩:=hI
  dsimp only
  rw [show lo+x-1=lo+(x-1) by ext ha h1]
  refine cn (b2i hk hA (by ext h2 hn) (by ext h2 hn) (by ext ha h1) ?_)
  dsimp only
  by_cases c:kv κ (arrOf aA) (lo+x)<kv κ (arrOf aA) (lo+(x-1))
  .rw [if_pos (decide_eq_true c)]
   exact cL (h x h1 (by ext h2) JK (.inr ⟨h2,c⟩))
  .rw [if_neg (by simpa using c)]
   have:=hA.ne (i:=lo+x) (j:=lo+(x-1)) (by ext h2 hn) (by ext h2 hn) (by ext ha h1)
   exact cL ⟨rfl,rfl,JK.next (by ext ha h1) (by ext c this)⟩
 .obtain ⟨rfl,rfl,JK⟩:=hI
  rw [show max a gZ=gZ by ext Xp] at JK ⊢
  exact h gZ Xp (cT _) JK (.inl rfl)
theorem Y2{xs:Array Keyed}{lo n:Nat}(hn:lo+n<=xs.size)(k:Nat):kv κ (mirror xs lo (lo+n) ((lo+n-lo)/2)) (lo+k)=if k<n then kv κ xs (lo+(n-1-k)) else kv κ xs (lo+k):=by
 have e:=getElem?_mirror_all (i:=lo) hn (lo+k)
 by_cases h:k<n
 .rw [if_pos (by ext h),show lo+(lo+n)-1-(lo+k)=lo+(n-1-k) by ext h] at e
  rw [if_pos h];exact Lg e
 .rw [if_neg (by ext h)] at e
  rw [if_neg h];exact Lg e
theorem RY(hk:Ask prog w s kd κ C){st:SortSt}(hA:Al κ C kd st){lo gZ:Nat}{Q:Option Nat->SortSt->Prop}(hn:lo+gZ<=(arrOf st).size)(h1:1<=gZ)
  (h:∀m aA,Bs κ C kd st lo aA->1<=m->m<=gZ->Up κ (arrOf aA) lo m->Q (some m) aA):wpS (model prog w) A E s (countRun' lo gZ) Q st:=by
 unfold wpS
 wp_delta
 wp_delta
 wp_delta
 refine Hh (Q:=Q) (cn ?_)
 refine Lp hk hA hn (cT 1) h1 (λi j _ _=>by lia) λn n1 n2 hu Rg=>?_
 dsimp only
 by_cases c1:n=gZ
 .rw [if_pos (by simpa using c1)]
  exact cL (h n st Bs.refl n1 n2 hu)
 rw [if_neg (by simpa using c1)]
 have cU:kv κ (arrOf st) (lo+n)<kv κ (arrOf st) (lo+(n-1)):=by ext Rg c1
 by_cases c2:n>1
 .rw [if_pos c2,show lo+n-1=lo+(n-1) by ext c2]
  refine cn (b2i hk hA (by ext hn h1) (by ext hn n2 c2) (by ext c2) ?_)
  dsimp only
  have h0:=hu 0 (n-1) (by ext c2) (by ext c2)
  rw [Nat.add_zero] at h0
  rw [if_pos (decide_eq_true h0)]
  exact cL (h n st Bs.refl n1 n2 hu)
 rw [if_neg c2]
 obtain rfl:n=1:=by ext n1 c2
 refine cn (Hf ?_)
 refine cn (rG (rJ (λx c aA=>aA=st/\c=(none,x,0)/\Dn κ (arrOf st) lo x) (Q:=λc aA=>aA=st/\∃x,c=(none,x,0)/\2<=x/\x<=gZ/\Dn κ (arrOf st) lo x) (λx c aA g1 g2 hI=>?_) (λc aA hI=>?_) ⟨rfl,rfl,λi j lr hj=>?_⟩) λc aA hI=>?_)
 .obtain ⟨rfl,rfl,hs⟩:=hI
  dsimp only
  rw [show lo+x-1=lo+(x-1) by ext g1]
  have iV:=hA.ne (i:=lo+x) (j:=lo+(x-1)) (by ext g2 hn) (by ext g2 hn) (by ext g1)
  refine cn (b2i hk hA (by ext g2 hn) (by ext g2 hn) (by ext g1) ?_)
  dsimp only
  by_cases c:kv κ (arrOf aA) (lo+x)<kv κ (arrOf aA) (lo+(x-1))
  .rw [if_pos (decide_eq_true c),if_neg (by decide)]
   exact cL ⟨rfl,rfl,hs.next (by ext g1) c⟩
  .rw [if_neg (by simpa using c)]
   refine cn (b2i hk hA (by ext g2 hn) (by ext g2 hn) (by ext g1) ?_)
   dsimp only
   rw [if_pos (decide_eq_true (by ext iV c))]
   exact cL ⟨rfl,x,rfl,‹_›,by ext g2,hs⟩
 .obtain ⟨rfl,rfl,hs⟩:=hI
  rw [show max (1+1) gZ=gZ by ext c1 Rg] at hs ⊢
  exact ⟨rfl,gZ,rfl,by ext c1 Rg,by ext,hs⟩
 .obtain ⟨rfl,rfl⟩:i=0/\j=1:=by ext lr hj
  exact cU
 .obtain ⟨rfl,x,rfl,x1,x2,hs⟩:=hI
  dsimp only
  rw [if_neg (by decide)]
  refine cn (wpS_reverse ?_)
  have hb:Bs κ C kd aA lo (setArr aA (mirror (arrOf aA) lo (lo+x) ((lo+x-lo)/2))):=Bs.refl.put (mirror_perm _ _ _ _) λk hk=>by
   have e:=getElem?_mirror_all (xs:=arrOf aA) (i:=lo) (j:=lo+x) (by ext hn x2) k
   rw [if_neg (by ext hk)] at e
   exact e
  refine cn ?_
  refine Lp hk (hA.bs hb) ?_ (by ext x1) x2 (λi j lr hj=>?_) λm m1 m2 hm _=>cL (h m _ hb (by ext x1 m1) m2 hm)
  .show lo+gZ<=(mirror (arrOf aA) lo (lo+x) ((lo+x-lo)/2)).size
   rw [mirror_size]
   exact hn
  .show kv κ (mirror (arrOf aA) lo (lo+x) ((lo+x-lo)/2)) (lo+i)<kv κ (mirror (arrOf aA) lo (lo+x) ((lo+x-lo)/2)) (lo+j)
   rw [Y2 (by ext hn x2),Y2 (by ext hn x2),if_pos (by ext lr hj),if_pos hj]
   exact hs _ _ (by ext lr hj) (by ext hj)
theorem TL(hk:Ask prog w s kd κ C){st:SortSt}(hA:Al κ C kd st){lo n ok:Nat}{Q:Bool->SortSt->Prop}(hn:lo+n<=(arrOf st).size)(cw:1<=ok)(hon:ok<=n)(hs:Up κ (arrOf st) lo ok)
  (h:∀aA,Bs κ C kd st lo aA->Up κ (arrOf aA) lo n->Q true aA):wpS (model prog w) A E s (binarySort' lo n ok) Q st:=by
 rw [binarySort'_eq]
 refine cn (rG (rJ (λk c aA=>c=(none,())/\Bs κ C kd st lo aA/\Up κ (arrOf aA) lo k) (Q:=λc aA=>c=(none,())/\Bs κ C kd st lo aA/\Up κ (arrOf aA) lo n) (λk c aA g1 g2 hI=>?_) (λc aA hI=>?_) ⟨rfl,Bs.refl,?_⟩) λc aA hI=>?_)
 .obtain ⟨rfl,Fd,DD⟩:=hI
  have Xv:=hA.bs Fd
  have hsz:(arrOf aA).size=(arrOf st).size:=Fd.perm.size_eq
  refine cn (rG (rJ (λx c jZ=>jZ=aA/\∃l r,c=(none,l,r)/\l<=r/\r<=k/\r-l<=k-x/\(∀i,i<l->kv κ (arrOf aA) (lo+i)<kv κ (arrOf aA) (lo+k))/\∀i,r<=i->i<k->kv κ (arrOf aA) (lo+k)<kv κ (arrOf aA) (lo+i))
   (Q:=λc jZ=>jZ=aA/\∃l r,c=(none,l,r)/\l<=k/\(∀i,i<l->kv κ (arrOf aA) (lo+i)<kv κ (arrOf aA) (lo+k))/\∀i,l<=i->i<k->kv κ (arrOf aA) (lo+k)<kv κ (arrOf aA) (lo+i)) (λx c jZ f1 f2 hJ=>?_) (λc jZ hJ=>?_) ⟨rfl,0,k,rfl,by ext,by ext,by ext,λi z=>by contradiction,λi z1 z2=>by ext z1 z2⟩) λc jZ hJ=>?_)
  .obtain ⟨rfl,l,r,rfl,j1,j2,j3,j4,j5⟩:=hJ
   dsimp only
   by_cases Br:l≥r
   .rw [if_pos Br]
    obtain rfl:l=r:=by ext j1 Br
    exact cL ⟨rfl,l,l,rfl,j2,j4,j5⟩
   .rw [if_neg Br]
    refine cn (b2i hk Xv (by ext hn g2 hsz) (by lia) (by lia) ?_)
    dsimp only
    have iV:=Xv.ne (i:=lo+k) (j:=lo+(l+r)/2) (by ext hn g2 hsz) (by lia) (by lia)
    by_cases hl:kv κ (arrOf jZ) (lo+k)<kv κ (arrOf jZ) (lo+(l+r)/2)
    .rw [if_pos (decide_eq_true hl)]
     refine cL ⟨rfl,l,(l+r)/2,rfl,by lia,by lia,by lia,j4,λi z1 z2=>?_⟩
     by_cases hi:i=(l+r)/2
     .subst hi;exact hl
     .have:=DD ((l+r)/2) i (by ext z1 hi) z2;ext hl this
    .rw [if_neg (by simpa using hl)]
     refine cL ⟨rfl,(l+r)/2+1,r,rfl,by lia,‹_›,by lia,λi z1=>?_,j5⟩
     by_cases hi:i=(l+r)/2
     .subst hi;ext iV hl
     .have:=DD i ((l+r)/2) (by ext z1 hi) (by lia);ext hl this
  .obtain ⟨rfl,l,r,rfl,j1,j2,j3,j4,j5⟩:=hJ
   obtain rfl:l=r:=by ext j1 j3
   exact ⟨rfl,l,l,rfl,j2,j4,j5⟩
  .obtain ⟨rfl,l,r,rfl,j2,j4,j5⟩:=hJ
   show wpS _ _ _ _ (do moveDown' (lo+k) (lo+l);pure (BH (none,()))) _ _
   rw [moveDown'_eq]
   have Rk:lo+k<(arrOf jZ).size:=by ext hn g2 hsz
   have MW:=getElem?_bubble Rk (lo+k-(lo+l)) (by ext)
   refine cn (Fy (cL ⟨rfl,Fd.put (bubble_perm _ _ _) λq hq=>?_,λi j lr hj=>?_⟩))
   .have e:=MW q
    rw [if_neg (by ext hq),if_neg (by ext hq)] at e
    exact e
   have kb:∀m,kv κ (bubble (arrOf jZ) (lo+k) (lo+k-(lo+l))) (lo+m)=if m=l then kv κ (arrOf jZ) (lo+k) else if l<m/\m<=k then kv κ (arrOf jZ) (lo+(m-1)) else kv κ (arrOf jZ) (lo+m):=λm=>by
    have e:=MW (lo+m)
    by_cases c1:m=l
    .rw [if_pos (by ext j2 c1)] at e;rw [if_pos c1];exact Lg e
    .rw [if_neg (by ext j2 c1)] at e;rw [if_neg c1]
     by_cases c2:l<m/\m<=k
     .rw [if_pos (by ext c2),show lo+m-1=lo+(m-1) by ext c2] at e;rw [if_pos c2];exact Lg e
     .rw [if_neg (by ext c2)] at e;rw [if_neg c2];exact Lg e
   show kv κ (bubble (arrOf jZ) (lo+k) (lo+k-(lo+l))) (lo+i)<kv κ (bubble (arrOf jZ) (lo+k) (lo+k-(lo+l))) (lo+j)
   rw [kb,kb]
   repeat' split
   all_goals first
    | (exfalso;lia)
    | exact j4 _ (by lia)
    | exact j5 _ (by lia) (by ext lr hj)
    | exact DD _ _ (by lia) (by lia)
 .obtain ⟨hc,Fd,DD⟩:=hI
  rw [show max (max ok 1) n=n by ext cw hon] at DD
  exact ⟨hc,Fd,DD⟩
 .rw [show max ok 1=ok by ext cw];exact hs
 .obtain ⟨rfl,Fd,DD⟩:=hI
  exact cL (h aA Fd DD)
end
section
variable {prog:Program}{w:World}{A:Around}{E:Value->Shared->Prop}{s:Shared}{kd:SortKind}{κ:Keyed->Int}{C:Keyed->Prop}
structure St(κ:Keyed->Int)(C:Keyed->Prop)(kd:SortKind)(a₀:Array Keyed)(st:SortSt)(Rs:List (List Keyed)):Prop where
 perm:(arrOf st).Perm a₀
 kind:kindOf st=kd
 failed:failedOf st=none
 pre:(arrOf st).toList.take Rs.flatten.length=Rs.flatten
 le:Rs.flatten.length<=a₀.size
 Gq:qN 0 Rs (pendingOf st).toList
 run:∀R∈Rs,R≠[]/\ju κ R
variable {a₀:Array Keyed}
structure Kn(κ:Keyed->Int)(C:Keyed->Prop)(a₀:Array Keyed):Prop where
 all:∀x∈a₀.toList,C x
 dst:Es κ a₀.toList
theorem St.al{st:SortSt}(h:St κ C kd a₀ st Rs)(k:Kn κ C a₀):Al κ C kd st:=
 have p:=NK.mp h.perm
 ⟨h.kind,λx hx=>k.all x (p.mem_iff.mp hx),(p.map κ).nodup_iff.mpr k.dst⟩
theorem St.cnt{st:SortSt}(h:St κ C kd a₀ st Rs):(pendingOf st).size=Rs.length:=by rw [<-kx];exact h.Gq.len
theorem T'(hk:Ask prog w s kd κ C)(k:Kn κ C a₀){st:SortSt}(h:St κ C kd a₀ st (Xs++R1::R2::Ys))(hi:i=Xs.length){Q:Bool->SortSt->Prop}
  (hQ:∀aA R,St κ C kd a₀ aA (Xs++R::Ys)->(Xs++R::Ys).flatten.length=(Xs++R1::R2::Ys).flatten.length->(arrOf aA).toList.drop (Xs++R1::R2::Ys).flatten.length=(arrOf st).toList.drop (Xs++R1::R2::Ys).flatten.length->Q true aA):wpS (model prog w) A E s (mergeAt' i) Q st:=by
 have hz:(arrOf st).size=a₀.size:=h.perm.size_eq
 have eF:(Xs++R1::R2::Ys).flatten=Xs.flatten++R1++R2++Ys.flatten:=by simp
 have al:=h.al k
 have r1:=h.run R1 (by simp)
 have r2:=h.run R2 (by simp)
 obtain ⟨q1,q2⟩:=h.Gq.split
 rw [KN] at q2
 have Ag:=h.Gq.len
 generalize hp:(pendingOf st).toList=ps at *
 obtain ⟨u,v,pv,e3⟩:∃u v pv,ps.drop Xs.length=u::v::pv:=by
  match hd:ps.drop Xs.length,q2 with
  | u::v::pv,_=>exact ⟨u,v,pv,rfl⟩
 rw [e3] at q2
 obtain ⟨u1,u2,v1,v2,q3⟩:=q2
 have RR:ps=ps.take Xs.length++u::v::pv:=by rw [<-e3,xN]
 have lt:(ps.take Xs.length).length=Xs.length:=by rw [oY,Ag,fZ];ext
 have g1:(pendingOf st)[i]?=some (Xs.flatten.length,R1.length,u.2.2):=by
  rw [<-BJ,hp,RR,C2 (by ext hi lt),lt,hi,KL]
  show some u=_
  rw [<-u1,<-u2]
 have g2:(pendingOf st)[i+1]?=some (Xs.flatten.length+R1.length,R2.length,v.2.2):=by
  rw [<-BJ,hp,RR,C2 (by ext hi lt),lt,hi,TK]
  show some v=_
  rw [<-v1,<-v2]
 have eA:(arrOf st).toList=Xs.flatten++R1++R2++(Ys.flatten++(arrOf st).toList.drop (Xs++R1::R2::Ys).flatten.length):=by
  have:=xN (Xs++R1::R2::Ys).flatten.length (arrOf st).toList
  rw [h.pre] at this
  rw [<-mx,<-eF]
  exact this.symm
 refine mat hk h.kind h.failed eA al.all al.dst r1.2 r2.2 r1.1 r2.1 g1 g2 λaA R a1 a2 a3 a4 a5 a6=>?_
 have lR:R.length=R1.length+R2.length:=by rw [a5.length_eq,fZ]
 have RS:(Xs++R::Ys).flatten=Xs.flatten++R++Ys.flatten:=by simp
 have lF:(Xs++R::Ys).flatten.length=(Xs++R1::R2::Ys).flatten.length:=by rw [eF,RS];simp only [fZ];ext lR
 refine hQ aA R ⟨?_,a1,a2,?_,by rw [lF];exact h.le,?_,λS hS=>?_⟩ lF ?_
 .refine Array.Perm.trans (NK.mpr ?_) h.perm
  generalize (arrOf st).toList.drop (Xs++R1::R2::Ys).flatten.length=D at *
  rw [a3,eA]
  refine List.Perm.append_right _ ?_
  rw [mx Xs.flatten]
  exact a5.append_left _
 .rw [a3,RS,<-mx,List.take_left]
 .have e6:(pendingOf aA).toList=ps.take Xs.length++(Xs.flatten.length,R1.length+R2.length,u.2.2)::pv:=by
   rw [a6,Array.toList_eraseIdxIfInBounds,Array.toList_setIfInBounds,hp,hi]
   conv=>lhs;rw [RR]
   rw [List.set_append_right _ _ (by ext lt),lt,KL,NI,List.eraseIdx_append_of_length_le (by ext lt),lt,TK]
   rfl
  rw [e6]
  refine q1.app ?_
  rw [KN]
  refine ⟨rfl,lR.symm,?_⟩
  rw [lR,<-SN]
  exact q3
 .rcases nj.mp hS with hS | hS
  .exact h.run S (D2 _ hS)
  .rcases fB.mp hS with rfl | hS
   .refine ⟨λz=>?_,a4⟩
    rw [z] at lR
    have:=G3.mpr r1.1
    simp at lR
    ext lR this
   .exact h.run S (zk _ (by simp [hS]))
 .generalize (arrOf st).toList.drop (Xs++R1::R2::Ys).flatten.length=D at *
  rw [<-lF,a3,RS,<-mx,List.drop_left]
theorem Zg{Rs:List (List Keyed)}(h:2<=Rs.length):∃Xs R1 R2,Rs=Xs++R1::R2::[]/\Xs.length=Rs.length-2:=by
 refine ⟨Rs.take (Rs.length-2),Rs[Rs.length-2],Rs[Rs.length-1],?_,by rw [oY];ext:1⟩
 conv=>lhs;rw [<-xN (Rs.length-2) Rs]
 congr 1
 rw [AH (by ext h:1),AH (by ext h:1),GX (by ext:1)]
 simp only [show Rs.length-2+1=Rs.length-1 by ext h:1]
theorem b75{Rs:List (List Keyed)}(h:3<=Rs.length):∃Xs R1 R2 R3,Rs=Xs++R1::R2::[R3]/\Xs.length=Rs.length-3:=by
 refine ⟨Rs.take (Rs.length-3),Rs[Rs.length-3],Rs[Rs.length-2],Rs[Rs.length-1],?_,by rw [oY];ext:1⟩
 conv=>lhs;rw [<-xN (Rs.length-3) Rs]
 congr 1
 rw [AH (by ext h:1),AH (by ext h:1),AH (by ext h:1),GX (by ext:1)]
 simp only [show Rs.length-3+1=Rs.length-2 by ext h:1,show Rs.length-2+1=Rs.length-1 by ext h:1]
theorem b5w{xs:Array Keyed}{lo n:Nat}(h:Up κ xs lo n)(hn:lo+n<=xs.size):ju κ ((xs.toList.drop lo).take n):=by
 refine G8.mpr λi j hi hj lr=>?_
 simp only [oY,BL,kx] at hi hj
 have:=h i j lr (by ext hj:1)
 rw [nB (by ext hi:1),nB (by ext hj:1)] at this
 simpa using this
theorem b1y{xs ys:Array Keyed}{n:Nat}(h:∀k,k<n->xs[k]?=ys[k]?):xs.toList.take n=ys.toList.take n:=by
 refine To λk=>?_
 rw [X6,X6,BJ,BJ]
 split
 .exact h k ‹_›
 .rfl
theorem b4n{Rs:List (List Keyed)}(h:∀R∈Rs,R≠[]):Rs.length<=Rs.flatten.length:=by
 induction Rs with
 | nil=>exact cT _
 | cons R Rs ih =>
  have:=ih λS hS=>h S (by simp [hS])
  have:=G3.mpr (h R (by simp))
  rw [Nn,fZ,jK]
  lia
theorem St.push{st:SortSt}(h:St κ C kd a₀ st Rs){aA:SortSt}(e1:arrOf aA=arrOf st)(e2:kindOf aA=kindOf st)(e3:failedOf aA=failedOf st)(hq:qN 0 Rs q)(e4:(pendingOf aA).toList=q++[(Rs.flatten.length,n,0)])
  (hn:1<=n)(hl:Rs.flatten.length+n<=a₀.size)(hs:ju κ (((arrOf st).toList.drop Rs.flatten.length).take n)):St κ C kd a₀ aA (Rs++[((arrOf st).toList.drop Rs.flatten.length).take n]):=by
 have hz:(arrOf st).toList.length=a₀.size:=by rw [kx];exact h.perm.size_eq
 have ln:(((arrOf st).toList.drop Rs.flatten.length).take n).length=n:=by rw [oY,BL];ext hl hz
 have eF:(Rs++[((arrOf st).toList.drop Rs.flatten.length).take n]).flatten=Rs.flatten++((arrOf st).toList.drop Rs.flatten.length).take n:=by simp
 have lF:(Rs++[((arrOf st).toList.drop Rs.flatten.length).take n]).flatten.length=Rs.flatten.length+n:=by rw [eF,fZ,ln]
 refine ⟨by rw [e1];exact h.perm,by rw [e2];exact h.kind,by rw [e3];exact h.failed,?_,by rw [lF];exact hl,?_,λR hR=>?_⟩
 .rw [lF,e1,List.take_add,h.pre,eF]
 .rw [e4]
  refine hq.app ⟨?_,ln.symm,trivial⟩
  exact (KN _).symm
 .rcases nj.mp hR with hR | hR
  .exact h.run R hR
  .rw [oZ.mp hR]
   refine ⟨λz=>?_,hs⟩
   rw [z] at ln
   simp at ln
   ext hn ln
theorem qN.mod{α:Type}(f:Nat×Nat×Nat->Nat×Nat×Nat)(hf:∀x,(f x).1=x.1/\(f x).2.1=x.2.1):∀{o:Nat} {Rs:List (List α)} {ps:List (Nat×Nat×Nat)} (i:Nat),qN o Rs ps->qN o Rs (ps.modify i f)
 | _,[],[],i,_=>by cases i<;>exact trivial
 | o,R::Rs,p::ps,0,h=>⟨by rw [(hf p).1];exact h.1,by rw [(hf p).2];exact h.2.1,h.2.2⟩
 | o,R::Rs,p::ps,i+1,h=>⟨h.1,h.2.1,h.2.2.mod f hf i⟩
theorem St.weigh{st:SortSt}(h:St κ C kd a₀ st Rs){aA:SortSt}(hb:Bs κ C kd st Rs.flatten.length aA):St κ C kd a₀ aA Rs:=
 ⟨hb.perm.trans h.perm,by rw [hb.rest];exact h.kind,by rw [hb.rest];exact h.failed,by rw [b1y hb.ahead];exact h.pre,h.le,by rw [hb.rest];exact h.Gq,h.run⟩
theorem Jz{β γ:Type}{M:Model}{c:γ->Prop}[∀v,Decidable (c v)]{R:γ->SortSt->Prop}{x y:γ->StateT SortSt Sem β}{Q:β->SortSt->Prop}(P:γ->SortSt->Prop)(hF:∀u st,P u st->wpS M A E s (y u) Q st)
  (h1:∀u st,R u st->(∀u st,P u st->wpS M A E s (y u) Q st)->c u->wpS M A E s (x u) Q st)(h2:∀u st,R u st->¬c u->P u st):∀u st,R u st->wpS M A E s (if c u then x u else y u) Q st:=λu st hR=>Cq (h1 u st hR hF) λz=>hF u st (h2 u st hR z)
theorem IG(hk:Ask prog w s kd κ C)(k:Kn κ C a₀){st:SortSt}{Q:Unit->SortSt->Prop}(h:St κ C kd a₀ st [])(h2:2<=a₀.size)
  (hQ:∀aA,(arrOf aA).Perm a₀->failedOf aA=none->ju κ (arrOf aA).toList->Q () aA):wpS (model prog w) A E s sortRuns' Q st:=by
 unfold wpS
 wp_delta
 wp_delta
 wp_delta
 refine Hh (Q:=Q) (cn (Ay ?_))
 dsimp only
 have hz:(arrOf st).size=a₀.size:=h.perm.size_eq
 simp only [hz]
 refine cn (rG (rJ (λx c aA=>∃Rs:List (List Keyed),c=(none,Rs.flatten.length)/\St κ C kd a₀ aA Rs/\x<=Rs.flatten.length) (Q:=λc aA=>∃Rs:List (List Keyed),c=(none,Rs.flatten.length)/\St κ C kd a₀ aA Rs/\Rs.flatten.length=a₀.size) (λx c aA _ hx hI=>?_) (λc aA hI=>?_) ⟨[],rfl,h,cT _⟩) λc aA hI=>?_)
 .obtain ⟨Rs,rfl,hS,hp⟩:=hI
  dsimp only
  have hle:=hS.le
  by_cases c1:Rs.flatten.length≥a₀.size
  .rw [if_pos c1]
   exact cL ⟨Rs,rfl,hS,by ext hle c1⟩
  rw [if_neg c1]
  have JJ:(arrOf aA).size=a₀.size:=hS.perm.size_eq
  refine cn ?_
  refine RY hk (hS.al k) (by ext c1 JJ) (by ext c1) λm jZ hb m1 m2 hu=>?_
  dsimp only
  have S2:=hS.weigh hb
  have JI:(arrOf jZ).size=a₀.size:=S2.perm.size_eq
  generalize (sortPriv% PySem.Builtin.minRun) a₀.size a₀.size 0 = mr
  have hR:St κ C kd a₀ jZ Rs/\Rs.flatten.length+m<=a₀.size/\1<=m/\Up κ (arrOf jZ) Rs.flatten.length m:=⟨S2,by ext c1 m2,m1,hu⟩
  clear hb m1 m2 hu S2 JI
  revert m jZ
  refine Jz (λn qS=>St κ C kd a₀ qS Rs/\Rs.flatten.length+n<=a₀.size/\1<=n/\Up κ (arrOf qS) Rs.flatten.length n) ?_ (λm jZ hR hF c2=>?_) λ_ _ hR _=>hR
  .rintro n qS ⟨S3,n2,n1,Ra⟩
   have W9:(arrOf qS).size=a₀.size:=S3.perm.size_eq
   have MN:=b5w Ra (by ext n2 W9)
   have l3:(((arrOf qS).toList.drop Rs.flatten.length).take n).length=n:=by rw [oY,BL,kx];ext n2 W9
   refine cn (Ay ?_)
   cases hbk:(pendingOf qS).back? with
   | none =>
    dsimp only
    refine cn (Fy (cL ⟨Rs++[((arrOf qS).toList.drop Rs.flatten.length).take n],?_,S3.push rfl rfl rfl S3.Gq (GP ..) n1 n2 MN,?_⟩))
    .rw [NC,fZ,Nx,l3]
    .rw [NC,fZ,Nx,l3]
     ext hp n1
   | some p =>
    obtain ⟨s1,QR,p3⟩:=p
    dsimp only
    refine cn (rG (rJ (λx c aA=>c=(none,())/\∃Ts:List (List Keyed),St κ C kd a₀ aA Ts/\Ts.flatten.length=Rs.flatten.length/\(arrOf aA).toList.drop Rs.flatten.length=(arrOf qS).toList.drop Rs.flatten.length) (Q:=λc aA=>c=(none,())/\∃Ts:List (List Keyed),St κ C kd a₀ aA Ts/\Ts.flatten.length=Rs.flatten.length/\(arrOf aA).toList.drop Rs.flatten.length=(arrOf qS).toList.drop Rs.flatten.length) (λx c aA _ hx hI=>?_) (λc aA hI=>hI) ⟨rfl,Rs,S3,rfl,rfl⟩) λc aA hI=>?_)
    .obtain ⟨rfl,Ts,hT,hl,ha⟩:=hI
     refine cn (Ay ?_)
     have hc:=hT.cnt
     simp only [hc]
     by_cases c3:Ts.length>1
     .rw [if_pos c3]
      cases hg:(pendingOf aA)[Ts.length-2]? with
      | none=>exact cL ⟨rfl,Ts,hT,hl,ha⟩
      | some p =>
       obtain ⟨p1,p2,p3⟩:=p
       dsimp only
       split
       .exact cL ⟨rfl,Ts,hT,hl,ha⟩
       .obtain ⟨Xs,R1,R2,rfl,hX⟩:=Zg (Rs:=Ts) (by ext c3)
        refine cn ?_
        refine T' hk k hT hX.symm λIw R J6 JO GH=>?_
        rw [if_neg (by decide)]
        exact cL ⟨rfl,_,J6,JO.trans hl,by rw [hl] at GH;exact GH.trans ha⟩
     .rw [if_neg c3]
      exact cL ⟨rfl,Ts,hT,hl,ha⟩
    .obtain ⟨rfl,Ts,hT,hl,ha⟩:=hI
     dsimp only
     refine cn (Fy (cn (Fy (cL ⟨Ts++[((arrOf aA).toList.drop Ts.flatten.length).take n],?_,hT.push rfl rfl rfl (hT.Gq.mod (λx=>(x.1,x.2.1,power' a₀.size (2*s1+QR) (2*s1+QR+QR+n) a₀.size)) (λ_=>⟨rfl,rfl⟩) ((pendingOf aA).size-1)) (by rw [hl];exact (GP ..).trans (by rw [Array.toList_modify];rfl)) n1 (by ext n2 hl) (by rw [hl,ha];exact MN),?_⟩))))
     .rw [NC,fZ,Nx,hl,ha,l3]
     .rw [NC,fZ,Nx,hl,ha,l3]
      ext hp n1
  .obtain ⟨S2,m2,m1,hu⟩:=hR
   have JI:(arrOf jZ).size=a₀.size:=S2.perm.size_eq
   refine cn (Hf (cn ?_))
   generalize MZ:min (a₀.size-Rs.flatten.length) mr=n
   refine TL hk (S2.al k) (by ext c1 JI MZ) m1 (by ext c2 m2 MZ) hu λqS Rv Ra=>?_
   rw [if_neg (by decide)]
   exact hF _ _ ⟨S2.weigh Rv,by ext c1 MZ,by ext c1 c2 MZ,Ra⟩
 .obtain ⟨Rs,rfl,hS,hp⟩:=hI
  have hle:=hS.le
  exact ⟨Rs,rfl,hS,by ext hp hle⟩
 .obtain ⟨Rs,rfl,hS,hp⟩:=hI
  dsimp only
  have hr:Rs.length<=a₀.size:=by rw [<-hp];exact b4n λR hR=>(hS.run R hR).1
  refine cn (rG (rJ (λx c aA=>c=(none,())/\∃Rs:List (List Keyed),St κ C kd a₀ aA Rs/\Rs.flatten.length=a₀.size/\Rs.length<=max 1 (a₀.size-x)) (Q:=λc aA=>c=(none,())/\∃Rs:List (List Keyed),St κ C kd a₀ aA Rs/\Rs.flatten.length=a₀.size/\Rs.length<=1) (λx c aA _ hx hI=>?_) (λc aA hI=>?_) ⟨rfl,Rs,hS,hp,by ext hr⟩) λc aA hI=>?_)
  .obtain ⟨rfl,Rs,hS,hp,hl⟩:=hI
   refine cn (Ay ?_)
   have hc:=hS.cnt
   simp only [hc]
   by_cases c1:Rs.length<=1
   .rw [if_pos c1]
    exact cL ⟨rfl,Rs,hS,hp,c1⟩
   rw [if_neg c1]
   refine cn ?_
   have key:∀j,(j=Rs.length-2\/(3<=Rs.length/\j=Rs.length-3))->∀{Q:Bool->SortSt->Prop},(∀aA Ts,St κ C kd a₀ aA Ts->Ts.flatten.length=Rs.flatten.length->Ts.length+1=Rs.length->Q true aA)->wpS (model prog w) A E s (mergeAt' j) Q aA:=λj hj Q hq=>by
    rcases hj with rfl | ⟨h3,rfl⟩
    .obtain ⟨Xs,R1,R2,rfl,hX⟩:=Zg (Rs:=Rs) (by ext c1)
     exact T' hk k hS hX.symm λIw R J6 JO _=>hq Iw _ J6 JO (by simp)
    .obtain ⟨Xs,R1,R2,R3,rfl,hX⟩:=b75 (Rs:=Rs) (by ext h3)
     exact T' hk k hS hX.symm λIw R J6 JO _=>hq Iw _ J6 JO (by simp)
   refine key _ ?_ λIw Ts hT h1 h2=>?_
   .by_cases c2:Rs.length-2>0
    .rw [if_pos c2]
     split
     .exact .inr ⟨by ext c2,by ext⟩
     .exact .inl rfl
    .rw [if_neg c2]
     exact .inl rfl
   .rw [if_neg (by decide)]
    exact cL ⟨rfl,Ts,hT,by ext hp h1,by ext hl h2⟩
  .obtain ⟨rfl,Rs,hS,hp,hl⟩:=hI
   exact ⟨rfl,Rs,hS,hp,by ext hl⟩
  .obtain ⟨rfl,Rs,hS,hp,hl⟩:=hI
   refine cL (hQ _ hS.perm hS.failed ?_)
   have e:(arrOf aA).toList=Rs.flatten:=by
    have:=hS.pre
    rw [FR (by rw [kx,hS.perm.size_eq];ext hp)] at this
    exact this
   rw [e]
   match Rs,hl,hS.run,hp with
   | [],_,_,hp=>exact DW
   | [R],_,hr,_ =>
    rw [Nn,List.flatten_nil,vK]
    exact (hr R (by simp)).2
end
end SO
namespace TS
open PySem PyProof.Rows
section
variable {prog:Program}{w:World}{A:Around}{E:Value->Shared->Prop}{s:Shared}
noncomputable def kI(ky:Value->Int)(xs:Array Keyed)(i:Nat):Int:=match xs[i]? with
 | some p=>ky p.1
 | none=>0
variable {ky:Value->Int}{a₀:Array Keyed}
def Inc(ky:Value->Int)(xs:Array Keyed)(k:Nat):Prop:=∀i j,i<j->j<k->kI ky xs i<kI ky xs j
theorem ER{vs:List Value}{xs:Array Keyed}(hp:xs.Perm (pairsOf vs))(hi:Inc ky xs (pairsOf vs).size):(xs.map (·.2)).toList.Perm vs/\(xs.map (·.2)).toList.Pairwise λx y=>ky x<ky y:=by
 have g8:=NK.mp hp
 have hz:(vs.zip vs).map (·.2)=vs:=by rw [List.map_snd_zip];exact cT _
 have qk:∀p∈xs.toList,p.1=p.2:=λp wY=>by
  have:=g8.mem_iff.mp wY
  rw [GQ] at this
  have key:∀(us:List Value) (p:Value×Value),p∈us.zip us->p.1=p.2:=λus=>by
   induction us with
   | nil=>intro p z;cases z
   | cons u us ih =>
    intro p z
    rcases fB.mp z with rfl | z
    .rfl
    .exact ih p z
  exact key vs p this
 rw [Array.toList_map]
 refine ⟨by have:=g8.map (·.2);rw [GQ,hz] at this;exact this,?_⟩
 rw [Tj,G8]
 intro i j h1 h2 lr
 have hsz:xs.size=(pairsOf vs).size:=hp.size_eq
 have g:∀k (hk:k<xs.toList.length),kI ky xs k=ky (xs.toList[k]).2:=λk hk=>by
  have n9:k<xs.size:=by simpa using hk
  unfold kI
  rw [getElem?_pos _ k n9]
  have:=qk xs.toList[k] (AJ hk)
  show ky (xs[k]).1=_
  rw [<-this]
  simp
 rw [<-g i h1,<-g j h2]
 exact hi i j lr (by rw [<-hsz];simpa using h2)
end
end TS
namespace DL
open PySem PySem.Spec PyProof.Rows L2
section
variable {X:Cx}
theorem b3e:ud X (.type "int") (λxs H Q=>∃b:Bool,xs=[.bl b]/\Q (.int (if b then 1 else 0)) H):=by
 intro pins s σ H xs vs Q I r h
 obtain ⟨b,rfl,q⟩:=h
 obtain ⟨u,rfl,ru⟩:=r.one
 cases ru
 exact call_int_bool ⟨.int _,H,I.tok _,⟨_,rfl⟩,q⟩
noncomputable def Lk(f:En->Option Sl):En->Option Sl:=λenv=>(qC (f env)).map λb=>.sh (.int (if b then 1 else 0))
theorem Zw(hg:Gl X "int")(hm:X.mg "int" = none)(he:EV X e fa)(hs:starEach [e] X.env=[(false,eval e X.env)]:=by rfl):EV X (.Call (.Name "int" p) [e] [] pos) (Lk fa):=by
 obtain ⟨t,pt,k⟩:=he
 refine ⟨_,L7 b3e hg hm (by decide +kernel) (nW pt rR hs) (by decide) (by decide) hs rfl,λO B σ H env s Q R e q=>?_⟩
 obtain ⟨b,e1,rfl⟩:=map_some e
 refine k O B σ H env _ _ R (Di e1) λv H1 s1 r1=>?_
 obtain rfl:=BQ r1
 exact ⟨b,rfl,q _ H1 s1 (Is.int _)⟩
end
end DL
namespace DL
open PySem PySem.Spec PyProof.Rows L2 PySem.SeqAt
section
variable {X:Cx}{pins:List (Addr×Obj)}{s:Shared}{σ:L2.St}{H:Hp}
theorem JF(e:Value->Bool)(hl:WK b s.heap l items)(he:∀y,y∈items->EqAt A.in1 s y x (e y))
  (h:Q (.bool (items.any e)) s):wpAny (model prog w) A (compareOp .In x (.ref l)) Q E s:=by
 cases b with
 | true=>exact in_listAt e hl he h
 | false=>exact in_tupleAt e hl he h
noncomputable def inD(a:D)(ds:List D):Option Bool:=(jM (ds.map λd=>cf 7 d a)).map λbs=>bs.any id
noncomputable def RH:D->D->Option Sl:=λa d=>(j0 d).bind λx=>(inD a x.2).map λk=>.sh (.bl k)
theorem Yz(hu:X.A.units+8<cLine):nu X (compareOp .In) RH:=by
 refine ⟨λx y H Q=>∃O p k xs a ds bs,y=.ref p/\Sq X.K H k p xs/\bx X.K O H xs ds/\Is X.K O H x a/\jM (ds.map λd=>cf 7 d a)=some bs/\Q (.bl (bs.any id)) H,?_,λO H x y a b s Q hO hx hy e q=>?_⟩
 .intro pins s σ H x y v u Q I rx ry h
  obtain ⟨O,p,k,xs,a,ds,bs,rfl,hq,hs,ha,hb,q⟩:=h
  cases ry
  obtain ⟨aD,rv,hl⟩:=YN I hq
  obtain ⟨l1,g1⟩:=Ho hb
  have hlen:aD.length=bs.length:=by rw [<-rv.length,hs.length,<-l1,eD]
  have at_:∀(j:Nat) (y:Value) (b:Bool),aD[j]?=some y->bs[j]?=some b->EqAt X.A.in1 s y v b:=λj y b h1 h2=>by
   have h3:=g1 j b h2
   rw [vL] at h3
   cases hd:ds[j]? with
   | none=>rw [hd] at h3;cases h3
   | some d =>
    rw [hd] at h3
    have h4:cf 7 d a=some b:=gz h3
    obtain ⟨z,hz,iz⟩:=hs.get hd
    obtain ⟨y',DB,rz⟩:=rv.get hz
    rw [h1] at DB;cases DB
    exact (Uj I 7 (A:=X.A.in1) (by show X.A.units+1+7<cLine;assumption) iz ha rz rx h4).1
  classical
  have e1:aD.toArray.any (λy=>decide (∃j:Nat,aD[j]?=some y/\bs[j]?=some true))=bs.any id:=by
   rw [Sw]
   simp only [List.any_toArray,List.any_eq_true,decide_eq_true_eq,id]
   constructor
   .rintro ⟨y,hy,j,h1,h2⟩
    exact ⟨true,S4 h2,rfl⟩
   .rintro ⟨b,hb,rfl⟩
    obtain ⟨j,hj⟩:=XU.mp hb
    have JQ:j<aD.length:=by rw [hlen];exact (xO.mp hj).1
    exact ⟨aD[j],AJ JQ,j,mz JQ,hj⟩
  refine JF (λy=>decide (∃j:Nat,aD[j]?=some y/\bs[j]?=some true)) hl (λy hy=>?_) ?_
  .by_cases ht:∃j:Nat,aD[j]?=some y/\bs[j]?=some true
   .rw [decide_eq_true ht]
    obtain ⟨j,h1,h2⟩:=ht
    exact at_ j y true h1 h2
   .rw [decide_eq_false ht]
    obtain ⟨j,hj⟩:=XU.mp (List.mem_toArray.mp hy)
    have JQ:j<bs.length:=by rw [<-hlen];exact (xO.mp hj).1
    refine at_ j y false hj ?_
    rw [mz JQ]
    cases J1:bs[j] with
    | false=>rfl
    | true=>exact absurd ⟨j,hj,by rw [mz JQ,J1]⟩ ht
  .rw [e1]
   exact ⟨.bl (bs.any id),H,I,rfl,q⟩
 .obtain ⟨⟨k,ds⟩,e1,e2⟩:=bind_some e
  obtain ⟨b1,e3,rfl⟩:=map_some e2
  obtain ⟨bs,e4,rfl⟩:=map_some e3
  obtain ⟨p,xs,rfl,hq,hs⟩:=hy.seq e1
  exact ⟨O,p,k,xs,a,ds,bs,rfl,hq,hs,hx,e4,q _ H (aG.refl _) (Is.bl _)⟩
end
end DL
namespace DL
open PySem PySem.Spec PyProof.Rows L2
section
variable {X:Cx}{N:List Str}{sc:Scope}{k:Nat}{full:Bool}{pos pos' p1 p2 p3 p4:Pos}{e c:Expr}{fa:En->Option Sl}{ga:En->Option Bool}
noncomputable def wo(i:Nat)(f:En->Option Sl):SF:=λenv=>match env[i]? with
 | some (.sh (.int m))=>match f env with
  | some (.sh (.int n))=>some (.nx,env.set i (.sh (.int (m+n))))
  | _=>none
 | _=>none
theorem a8J(h:wo i f env=some y):∃m n,env[i]?=some (.sh (.int m))/\f env=some (.sh (.int n))/\y=(.nx,env.set i (.sh (.int (m+n)))):=by
 unfold wo at h
 split at h
 .rename_i m e1
  split at h
  .rename_i n e2
   cases h
   exact ⟨m,n,e1,e2,rfl⟩
  .cases h
 .cases h
theorem Fx.aug(h:Fx X N sc k full)(i:Nat)(he:EV X e fa)(hN:N[i]?=some x:=by rfl)(hv:Loc sc x:=by first | exact eN rfl | exact cP rfl)
  (hf:full=true\/sc.names.lookup x=some .local:=by first | exact eN rfl | exact cP rfl):SV X (.AugAssign (.Name x pos') .Add e pos) (wo i fa):=by
 obtain ⟨t,p,kk⟩:=he
 refine ⟨_,b8h h.Gs (h.ix hN) (h.loc hv) p b8S (h.Gm hf),λO B σ H env fl ak D R e q=>?_⟩
 obtain ⟨m,n,hi,e1,e2⟩:=a8J e
 cases e2
 obtain ⟨v,e3,hv⟩:=R.sh i _ hi
 obtain rfl:=qF hv
 refine ⟨_,e3,kk O B σ H env _ _ R e1 λv H1 s1 r1=>?_⟩
 obtain rfl:=qF r1
 refine ⟨m,n,rfl,rfl,?_⟩
 obtain ⟨R',g'⟩:=R.set (v:=.int (m+n)) (r:=.sh (.int (m+n))) s1 (Is.int (m+n)) (xO.mp hi).1
 exact q _ H1 R' g'
noncomputable def B3(i:Nat)(g:En->Option Bool):En->Option Bool:=λenv=>g (qm i env)
theorem b7V(i:Nat)(h:TV X c ga):TV X c (B3 i ga):=by
 obtain ⟨t,p,k⟩:=h
 refine ⟨t,p,λO B σ H env b Q R e q=>?_⟩
 unfold B3 qm at e
 cases h:env[i]? with
 | none=>rw [h] at e;exact k O B σ H env b Q R e q
 | some s =>
  rw [h] at e
  cases s with
  | no=>exact k O B σ H env b Q R e q
  | sh d=>exact k O B σ H env b Q R e q
  | ow ds =>
   obtain ⟨R',_⟩:=R.nz h
   exact k O B σ H _ b Q R' e q
  | dw ds =>
   obtain ⟨R',_⟩:=R.Ao h trivial
   exact k O B σ H _ b Q R' e q
  | tw ks ds =>
   obtain ⟨R',_⟩:=R.Ao h trivial
   exact k O B σ H _ b Q R' e q
end
end DL
namespace DL
open PySem L2
def Wo{α:Type}(o:Option α)(Q:α->Prop):Prop:=∃a,o=some a/\Q a
section
variable {α β:Type}
theorem a0g{a:α}{Q:α->Prop}:Wo (some a) Q↔Q a:=⟨λ⟨_,e,h⟩=>by cases e;exact h,λh=>⟨a,rfl,h⟩⟩
theorem Wo_none:Wo (none:Option α) Q↔False:=⟨λ⟨_,e,_⟩=>(nomatch e),qw⟩
theorem a0n{o:Option α}{f:α->Option β}{Q:β->Prop}:Wo (o.bind f) Q↔Wo o λa=>Wo (f a) Q:=by
 cases o with
 | none=>simp [Wo]
 | some a=>simp [Wo]
theorem a16{o:Option α}{f:α->β}{Q:β->Prop}:Wo (o.map f) Q↔Wo o λa=>Q (f a):=by
 cases o with
 | none=>simp [Wo]
 | some a=>simp [Wo]
theorem qH{c:Prop}[Decidable c]{a:α}{Q:α->Prop}:Wo (if c then some a else none) Q↔c/\Q a:=by
 by_cases h:c
 .rw [if_pos h,a0g];exact ⟨λz=>⟨h,z⟩,λz=>z.2⟩
 .rw [if_neg h,Wo_none];exact ⟨qw,λz=>h z.1⟩
theorem Wo.mono{o:Option α}{P Q:α->Prop}(h:Wo o P)(k:∀a,P a->Q a):Wo o Q:=let ⟨a,e,p⟩:=h;⟨a,e,k a p⟩
theorem Wo.eq{o:Option α}{a:α}(h:Wo o λx=>x=a):o=some a:=let ⟨_,e,p⟩:=h;by rw [e,p]
theorem kD{o:Option α}{P Q:α->Prop}(k:∀a,P a↔Q a):Wo o P↔Wo o Q:=⟨λh=>h.mono λa=>(k a).mp,λh=>h.mono λa=>(k a).mpr⟩
end
noncomputable def wm(G:SF)(Q:Fl×En->Prop):Fl×En->Prop
 | (.nx,e)=>Wo (G e) Q
 | p=>Q p
theorem a6I:wm G Q (.nx,e)↔Wo (G e) Q:=jT
theorem b1Q:wm G Q (.bk,e)↔Q (.bk,e):=jT
theorem b1P:wm G Q (.ct,e)↔Q (.ct,e):=jT
theorem b1O:wm G Q (.rt r,e)↔Q (.rt r,e):=jT
theorem a2f:Wo (au F G env) Q↔Wo (F env) (wm G Q):=by
 unfold au
 cases h:F env with
 | none=>simp [Wo]
 | some p =>
  obtain ⟨fl,e⟩:=p
  rw [a0g]
  cases fl with
  | nx=>exact jT
  | bk=>rw [b1Q];exact a0g
  | ct=>rw [b1P];exact a0g
  | rt r=>rw [b1O];exact a0g
theorem a1u:Wo (dg c F G env) Q↔Wo (c env) λb=>(b=true->Wo (F env) Q)/\(b=false->Wo (G env) Q):=by
 unfold dg
 cases h:c env with
 | none=>simp [Wo]
 | some b=>cases b<;>simp [a0g]
theorem b9x:Wo (dO env) Q↔Q (.nx,env):=a0g
theorem Wo_ret:Wo (aH f env) Q↔Wo (f env) λr=>Q (.rt r,env):=a16
theorem b9s:Wo (hV i f env) Q↔Wo (f env) λr=>i<env.length/\Q (.nx,env.set i r):=by
 unfold hV;rw [a0n];simp only [qH]
theorem a5V:Wo (eQ i f env) Q↔Wo (f env) λr=>i<env.length/\Q (.nx,env.set i (.sh r.d)):=by
 unfold eQ;rw [a0n];simp only [qH]
theorem b7M{f:En->Option Sl}{env:En}{Q:Fl×En->Prop}:Wo (T7 f env) Q↔Wo (f env) λ_=>Q (.nx,env):=a16
noncomputable def qB:Option Sl->(Sl->Prop)->Prop
 | some (.sh d),Q=>Q (.sh d)
 | _,_=>False
theorem b7a:qB (some (.sh d)) Q↔Q (.sh d):=jT
theorem Wo_eV:Wo (eV i env) Q↔qB env[i]? Q:=by
 unfold eV
 cases env[i]? with
 | none=>simp [MA,qB,Wo]
 | some s=>cases s<;>simp [MA,qB,Wo]
theorem Wo_eC:Wo (eC d env) Q↔Q (.sh d):=a0g
theorem b3r:Wo (aa g fa fb env) Q↔Wo (fa env) λx=>Wo (fb env) λy=>Wo (g x.d y.d) Q:=by
 unfold aa;rw [a0n];simp only [a0n]
theorem b9y:Wo (qo f env) Q↔Wo (f env) λx=>Wo (Fk x.d) Q:=a0n
theorem b7r:Wo (Fk (.int i)) Q↔Q (.sh (.int (-i))):=a0g
theorem b7v:Wo (cc (.int i) (.int j)) Q↔Q (.sh (.int (i+j))):=a0g
theorem b7p:Wo (jf (.int i) (.int j)) Q↔Q (.sh (.int (i-j))):=by rw [b8W,a0g]
theorem b7s:Wo (dy (.int i) (.int j)) Q↔MulC i j/\Q (.sh (.int (i*j))):=qH
theorem b7u:Wo (tI (.int i) (.int j)) Q↔DivC i j/\Q (.sh (.int (i/j))):=qH
theorem b7t:Wo (jH (.int i) (.int j)) Q↔0<j/\Q (.sh (.int (i%j))):=qH
theorem b7q:Wo (m6 (.int i) (.int j)) Q↔PowC i j/\Q (.sh (.int (i^j.toNat))):=qH
theorem b9B:Wo (rm (.int i) (.int j)) Q↔Q (.sh (.bl (decide (i<j)))):=a0g
theorem b9C:Wo (ql (.int i) (.int j)) Q↔Q (.sh (.bl (decide (i<=j)))):=a0g
theorem b9D:Wo (CD (.int i) (.int j)) Q↔Q (.sh (.bl (decide (j<i)))):=a0g
theorem b9E:Wo (gGe (.int i) (.int j)) Q↔Q (.sh (.bl (decide (j<=i)))):=a0g
theorem b9F:Wo (bH (.int i) (.int j)) Q↔Q (.sh (.bl (decide (i=j)))):=a0g
theorem b4P:Wo (bH .b8 .b8) Q↔Q (.sh (.bl true)):=a0g
theorem b9z:Wo (m7 a .b8) Q↔Q (.sh (.bl a.fS)):=a0g
theorem b7m:Wo (T2 a .b8) Q↔Q (.sh (.bl (!a.fS))):=a0g
theorem b5s:Wo (bS f env) Q↔Wo (f env) λr=>Wo (qC (some r)) Q:=by
 unfold bS
 cases f env with
 | none=>simp [qC,Wo]
 | some r=>rw [a0g]
theorem b9Q:Wo (qC (some (.sh (.bl b)))) Q↔Q b:=a0g
theorem b7f:Wo (r8 f env) Q↔Wo (f env) λr=>Wo (zI r.d) Q:=a0n
theorem b7e:Wo (zI (.bl b)) Q↔Q b:=a0g
theorem b7i:Wo (qE f g env) Q↔Wo (f env) λb=>(b=true->Wo (g env) Q)/\(b=false->Q false):=by
 unfold qE
 cases f env with
 | none=>simp [Wo]
 | some b=>cases b<;>simp [a0g]
theorem b9p:Wo (fP f g env) Q↔Wo (f env) λb=>(b=true->Q true)/\(b=false->Wo (g env) Q):=by
 unfold fP
 cases f env with
 | none=>simp [Wo]
 | some b=>cases b<;>simp [a0g]
theorem b7g:Wo (D5 f env) Q↔Wo (f env) λb=>Q (!b):=a16
theorem b7L:Wo (w8 f g env) Q↔Wo (f env) λr=>Wo (qC (some r)) λb=>(b=true->Wo (g env) Q)/\(b=false->Q (.sh (.bl false))):=by
 unfold w8
 cases f env with
 | none=>simp [Wo,qC]
 | some r =>
  rw [a0g]
  cases qC (some r) with
  | none=>simp [Wo]
  | some b=>cases b<;>simp [a0g]
theorem b7D:Wo (As f env) Q↔Wo (f env) λr=>Wo (qC (some r)) λb=>Q (.sh (.bl !b)):=by
 unfold As
 cases f env with
 | none=>simp [Wo,qC]
 | some r=>rw [a0g,a16]
theorem b9M:Wo (yU c f g env) Q↔Wo (c env) λb=>(b=true->Wo (f env) Q)/\(b=false->Wo (g env) Q):=by
 unfold yU
 cases c env with
 | none=>simp [Wo]
 | some b=>cases b<;>simp [a0g]
theorem b7Q:Wo (af env) Q↔Q []:=a0g
theorem b4Y:Wo (ag f g env) Q↔Wo (f env) λr=>Wo (g env) λds=>Q (r.d::ds):=by
 unfold ag;rw [a0n];simp only [a0n,a0g]
theorem b7A:Wo (iN f env) Q↔Wo (f env) λds=>ds.length<=16777216/\Q (.sh (.tup ds)):=by
 unfold iN;rw [a0n];simp only [qH]
theorem b7F:Wo (cJ f env) Q↔Wo (f env) λds=>ds.length<=16777216/\Q (.ow ds):=by
 unfold cJ;rw [a0n];simp only [qH]
noncomputable def nT:Option Sl->(Bool×List D->Prop)->Prop
 | some (.sh (.tup ds)),Q=>Q (false,ds)
 | some (.sh (.lst _ ds)),Q=>Q (true,ds)
 | some (.ow ds),Q=>Q (true,ds)
 | _,_=>False
theorem b9k:nT (some (.sh (.tup ds))) Q↔Q (false,ds):=jT
theorem b9m:nT (some (.sh (.lst r ds))) Q↔Q (true,ds):=jT
theorem b9l:nT (some (.ow ds)) Q↔Q (true,ds):=jT
theorem Wo_bV:Wo (bV i env) Q↔nT env[i]? Q:=by
 unfold bV
 cases env[i]? with
 | none=>simp [EI,nT,Wo]
 | some s=>cases s with
  | no=>simp [EI,nT,Wo]
  | dw ds=>simp [EI,nT,Wo]
  | tw _ _=>simp [EI,nT,Wo]
  | ow ds=>simp [EI,nT,Wo]
  | sh d=>cases d<;>simp [EI,nT,Wo,j0]
theorem b9N:Wo (iP f env) Q↔Wo (f env) λr=>Wo (j0 r.d) Q:=a0n
theorem b9q:Wo (j0 (.tup ds)) Q↔Q (false,ds):=a0g
theorem b9r:Wo (j0 (.lst r ds)) Q↔Q (true,ds):=a0g
theorem b7G:Wo (ji f env) Q↔Wo (f env) λx=>Q (.sh (.int x.2.length)):=a16
theorem b3o:Wo (N9 f env) Q↔Wo (f env) λx=>x.1=true/\Q (.sh (.tup x.2)):=by
 unfold N9;rw [a0n];simp only [qH]
def Q0(xs:List D)(d:D)(Q:Sl->Prop):Prop:=match d with
 | .int i=>Wo (iK xs i) λd=>Q (.sh d)
 | _=>False
theorem ixQ_i:Q0 xs (.int i) Q↔Wo (iK xs i) λd=>Q (.sh d):=jT
theorem b5t:Wo (bg f g env) Q↔Wo (f env) λx=>Wo (g env) λy=>Q0 x.2 y.d Q:=by
 unfold bg
 rw [a0n]
 refine kD λx=>?_
 rw [a0n]
 refine kD λy=>?_
 unfold Q0
 cases y.d<;>simp [a16,Wo_none]
theorem kz{α:Type}{xs:List α}{n:Nat}:iK xs (n:Int)=xs[n]?:=by
 unfold iK rh
 rw [if_pos (by ext)]
 by_cases h:n<xs.length
 .rw [if_pos (by ext h)];simp
 .rw [if_neg (by ext h),K9 (by ext h)];rfl
theorem atI_0{α:Type}{x:α}{xs:List α}:iK (x::xs) 0=some x:=kz (n:=0)
theorem atI_1{α:Type}{x y:α}{xs:List α}:iK (x::y::xs) 1=some y:=kz (n:=1)
theorem atI_2{α:Type}{x y z:α}{xs:List α}:iK (x::y::z::xs) 2=some z:=kz (n:=2)
theorem atI_3{α:Type}{x y z u:α}{xs:List α}:iK (x::y::z::u::xs) 3=some u:=kz (n:=3)
theorem b4T:Wo (cK n φ fs env) Q↔Wo (fs env) λds=>ds.length=n/\Wo (φ ds) Q:=by
 unfold cK
 rw [a0n]
 have h:∀ds:List D,Wo (if ds.length=n then φ ds else none) Q↔ds.length=n/\Wo (φ ds) Q:=λds=>by
  by_cases h:ds.length=n<;>simp [h,Wo_none]
 simp only [h]
theorem b3q:Wo (zy g fs env) Q↔Wo (fs env) λds=>Wo (g ds) Q:=a0n
theorem b4W:Wo (C8 [.int i,.int j]) Q↔Q (.sh (.int (min i j))):=by
 have:(if j<i then j else i)=min i j:=by simp only [Int.min_def];split<;>split<;>lia
 unfold C8;rw [a0g,this]
theorem b4X:Wo (FU [.int i,.int j]) Q↔Q (.sh (.int (max i j))):=by
 have:(if j>i then j else i)=max i j:=by simp only [Int.max_def];split<;>split<;>lia
 unfold FU;rw [a0g,this]
theorem b7H:Wo (Au T f env) Q↔Wo (f env) λr=>Wo (oJ T r.d) Q:=a0n
theorem b4d:Wo (oJ T (.b8)) Q↔Q (.sh (.bl (lX T (.b8)))):=a0g
theorem b6A:Wo (oJ T (.bl b)) Q↔Q (.sh (.bl (lX T (.bl b)))):=a0g
theorem b4f:Wo (oJ T (.int i)) Q↔Q (.sh (.bl (lX T (.int i)))):=a0g
theorem b4c:Wo (oJ T (.str x)) Q↔Q (.sh (.bl (lX T (.str x)))):=a0g
theorem b4b:Wo (oJ T (.tup ds)) Q↔Q (.sh (.bl (lX T (.tup ds)))):=a0g
theorem b4e:Wo (oJ T (.lst r ds)) Q↔Q (.sh (.bl (lX T (.lst r ds)))):=a0g
noncomputable def b7(Q:Sl->Prop):Fl×En->Prop
 | (.rt r,_)=>Q r
 | (.nx,_)=>Q (.sh .b8)
 | _=>False
theorem b6T:b7 Q (.rt r,e)↔Q r:=jT
theorem b6U:b7 Q (.nx,e)↔Q (.sh .b8):=jT
theorem gA:Wo (bT F N ds) Q↔Wo (F (o7 N ds)) (b7 Q):=by
 unfold bT
 cases F (o7 N ds) with
 | none=>simp [Wo]
 | some p =>
  obtain ⟨fl,e⟩:=p
  rw [a0g]
  cases fl<;>simp [a0g,Wo_none,b7]
theorem b9G:Wo (mM f g F env) Q↔Wo (f env) λr=>Wo (j0 r.d) λx=>Wo (forL g F x.2 env) Q:=by
 unfold mM;rw [a0n];simp only [a0n]
theorem b7w:Wo (Hg h f g F env) Q↔Wo (f env) λds=>Wo (h ds) λis=>Wo (forL g F is env) Q:=by
 unfold Hg;rw [a0n];simp only [a0n]
theorem b7j:Wo (wy [.int j]) Q↔R62 j/\Q (iL 0 j.toNat):=qH
noncomputable def FZ(I:En->Prop)(Q:Fl×En->Prop):Fl×En->Prop
 | (.nx,e)=>I e
 | (.ct,e)=>I e
 | (.bk,e)=>Q (.nx,e)
 | (.rt r,e)=>Q (.rt r,e)
theorem b3v:FZ I Q (.nx,e)↔I e:=jT
theorem b3u:FZ I Q (.rt r,e)↔Q (.rt r,e):=jT
theorem Ef{α:Type}(enc:α->D)(I:List α->En->Prop)(xs:List α)(turn:∀pre a post env,xs=pre++a::post->I pre env->Wo (g (enc a) env) λe=>Wo (F e) (FZ (I (pre++[a])) Q))
  (done:∀env,I xs env->Q (.nx,env)):∀{env:En},I [] env->Wo (forL g F (xs.map enc) env) Q:=by
 have key:∀(post pre:List α) (env:En),xs=pre++post->I pre env->Wo (forL g F (post.map enc) env) Q:=by
  intro post
  induction post with
  | nil =>
   intro pre env e h
   rw [vK] at e
   subst e
   exact ⟨_,rfl,done env h⟩
  | cons a post ih =>
   intro pre env e h
   obtain ⟨e1,h1,p,h2,h3⟩:=turn pre a post env e h
   rw [jJ]
   unfold forL
   rw [h1]
   dsimp only
   rw [h2]
   obtain ⟨fl,e2⟩:=p
   cases fl with
   | nx=>exact ih (pre++[a]) e2 (by rw [e,mx];rfl) h3
   | ct=>exact ih (pre++[a]) e2 (by rw [e,mx];rfl) h3
   | bk=>exact ⟨_,rfl,h3⟩
   | rt r=>exact ⟨_,rfl,h3⟩
 exact λ{env} h=>key xs [] env rfl h
theorem Ov(lo:Int)(n:Nat)(I:Nat->En->Prop)(turn:∀(k:Nat) env,k<n->I k env->Wo (g (.int (lo+k)) env) λe=>Wo (F e) (FZ (I (k+1)) Q))
  (done:∀env,I n env->Q (.nx,env))(h:I 0 env):Wo (forL g F (iL lo n) env) Q:=by
 unfold iL
 refine Ef (λ(k:Nat)=>D.int (lo+(k:Int))) (λpre env=>I pre.length env) (pO n) (λpre a post env e h=>?_) (λenv h=>done env (by simpa using h)) h
 have hl:=congrArg GJ e
 have ha:(pO n)[pre.length]?=some a:=by rw [e];simp
 simp at hl
 rw [List.getElem?_range (by ext hl)] at ha
 cases ha
 simpa using turn pre.length env (by ext hl) h
theorem b9A:Wo (gN i d env) Q↔i<env.length/\Q (env.set i (.sh d)):=qH
theorem Wo_gT:Wo (gT n u (.tup ds) env) Q↔ds.length=n/\Wo (u ds env) Q:=by
 unfold gT
 by_cases h:ds.length=n<;>simp [h,Wo_none]
theorem b4O:Wo (F1 [] env) Q↔Q env:=a0g
theorem b3m:Wo (zA g u (d::ds) env) Q↔Wo (g d env) λe=>Wo (u ds e) Q:=a0n
noncomputable def cQ:Option Sl->(List D->Prop)->Prop
 | some (.ow ds),Q=>Q ds
 | _,_=>False
theorem a9m:cQ (some (.ow ds)) Q↔Q ds:=jT
theorem b9R:Wo (mN i f env) Q↔cQ env[i]? λds=>Wo (f env) λr=>ds.length<16777216/\Q (.nx,env.set i (.ow (ds++[r.d]))):=by
 unfold mN
 cases env[i]? with
 | none=>simp [Wo_none,cQ]
 | some s=>cases s with
  | no=>simp [Wo_none,cQ]
  | dw d=>simp [Wo_none,cQ]
  | tw _ _=>simp [Wo_none,cQ]
  | sh d=>simp [Wo_none,cQ]
  | ow ds=>dsimp only [cQ];rw [a0n];simp only [qH]
def Fs(env:En)(i:Nat)(ds:List D)(d:D)(Q:Fl×En->Prop):Prop:=match d with
 | .lst false es=>ds.length+es.length<=16777216/\Q (.nx,env.set i (.ow (ds++es)))
 | _=>False
theorem b82:Fs env i ds (.lst false es) Q↔ds.length+es.length<=16777216/\Q (.nx,env.set i (.ow (ds++es))):=jT
theorem b9H:Wo (p5 i f env) Q↔cQ env[i]? λds=>Wo (f env) λr=>Fs env i ds r.d Q:=by
 unfold p5
 cases env[i]? with
 | none=>simp [Wo_none,cQ]
 | some s=>cases s with
  | no=>simp [Wo_none,cQ]
  | dw d=>simp [Wo_none,cQ]
  | tw _ _=>simp [Wo_none,cQ]
  | sh d=>simp [Wo_none,cQ]
  | ow ds =>
   dsimp only [cQ];rw [a0n]
   refine kD λr=>?_
   unfold Fs
   cases r.d with
   | lst ro es=>cases ro<;>simp [qH,Wo_none]
   | _=>simp [Wo_none]
theorem b9u:Wo (sk i j env) Q↔cQ env[j]? λds=>Wo ds[ds.length-1]? λd=>(i<env.length/\i≠j)/\Q (.nx,(env.set j (.ow ds.dropLast)).set i (.sh d)):=by
 unfold sk
 cases env[j]? with
 | none=>simp [Wo_none,cQ]
 | some s=>cases s with
  | no=>simp [Wo_none,cQ]
  | dw d=>simp [Wo_none,cQ]
  | tw _ _=>simp [Wo_none,cQ]
  | sh d=>simp [Wo_none,cQ]
  | ow ds=>dsimp only [cQ];rw [a0n];simp only [qH]
def TQ(env:En)(i:Nat)(ds:List D)(d:D)(k:D)(Q:Fl×En->Prop):Prop:=match k with
 | .int n=>Wo (rh ds.length n) λj=>Q (.nx,env.set i (.ow (ds.set j d)))
 | _=>False
theorem b6y:TQ env i ds d (.int n) Q↔Wo (rh ds.length n) λj=>Q (.nx,env.set i (.ow (ds.set j d))):=jT
theorem b7n:Wo (Hc i f g env) Q↔cQ env[i]? λds=>Wo (f env) λr=>Wo (g env) λk=>TQ env i ds r.d k.d Q:=by
 unfold Hc
 cases env[i]? with
 | none=>simp [Wo_none,cQ]
 | some s=>cases s with
  | no=>simp [Wo_none,cQ]
  | dw d=>simp [Wo_none,cQ]
  | tw _ _=>simp [Wo_none,cQ]
  | sh d=>simp [Wo_none,cQ]
  | ow ds =>
   dsimp only [cQ];rw [a0n]
   refine kD λr=>?_
   rw [a0n]
   refine kD λk=>?_
   unfold TQ
   cases k.d<;>simp [a0n,a0g,Wo_none]
theorem N8:Wo (sr i F env) Q↔Wo (F (qm i env)) Q:=jT
theorem Li(h:env[i]?=some (.ow ds)):qm i env=env.set i (.sh (.lst false ds)):=by unfold qm;rw [h]
noncomputable def NU(env:En):Option Sl->(Fl×En->Prop)->Prop
 | some (.ow ds),Q=>Q (.rt (.ow ds),env)
 | some (.dw ds),Q=>Q (.rt (.dw ds),env)
 | some (.tw ks ds),Q=>Q (.rt (.tw ks ds),env)
 | some (.sh d),Q=>Q (.rt (.sh d),env)
 | _,_=>False
theorem b7b:NU env (some (.ow ds)) Q↔Q (.rt (.ow ds),env):=jT
theorem b7k:Wo (zx i env) Q↔NU env env[i]? Q:=by
 unfold zx
 cases env[i]? with
 | none=>simp [Wo_none,NU]
 | some s=>cases s<;>simp [Wo_none,a0g,NU]
theorem b9w:Wo (Ja env) Q↔Q none:=a0g
def pQ(d:D)(Q:Option Int->Prop):Prop:=match d with
 | .int i=>Q (some i)
 | _=>False
theorem pQ_i:pQ (.int i) Q↔Q (some i):=jT
theorem b9v:Wo (Gr f env) Q↔Wo (f env) λr=>pQ r.d Q:=by
 unfold Gr
 rw [a0n]
 refine kD λr=>?_
 unfold pQ
 cases r.d<;>simp [a0g,Wo_none]
theorem b9K:Wo (GI f lo hi env) Q↔Wo (f env) λx=>Wo (lo env) λl=>Wo (hi env) λh =>
  (x.1=true->Q (.ow (cutD x.2 l h)))/\(x.1=false->¬(HT.df x.2.length 0 l=0/\HT.df x.2.length x.2.length h=x.2.length)/\Q (.sh (.tup (cutD x.2 l h)))):=by
 unfold GI
 rw [a0n]
 simp only [a0n]
 have h:∀(x:Bool×List D) (l h:Option Int),Wo (if x.1=true then some (Sl.ow (cutD x.2 l h)) else if ¬(HT.df x.2.length 0 l=0/\HT.df x.2.length x.2.length h=x.2.length) then some (.sh (.tup (cutD x.2 l h))) else none) Q ↔
   (x.1=true->Q (.ow (cutD x.2 l h)))/\(x.1=false->¬(HT.df x.2.length 0 l=0/\HT.df x.2.length x.2.length h=x.2.length)/\Q (.sh (.tup (cutD x.2 l h)))):=λx l h=>by
  obtain ⟨k,ds⟩:=x
  cases k
  .simp only [DX,if_false,qH];simp
  .simp [a0g]
 simp only [h]
theorem Sl_sh:Sl.d (.sh d)=d:=rfl
theorem Sl_ow:Sl.d (.ow ds)=.lst false ds:=rfl
theorem a8r:Wo (cc (.lst false a) (.lst false b)) Q↔a.length+b.length<=16777216/\Q (.ow (a++b)):=qH
theorem a92 :lX "int" .b8=false:=rfl
theorem a93:lX "int" (.int i)=true:=rfl
theorem a87 :lX "bool" .b8=false:=rfl
theorem a88:lX "bool" (.int i)=false:=rfl
theorem Eg{α β:Type}{f:α->β}{xs:List α}{i:Int}(z:α)(h0:0<=i)(h:i<xs.length):iK (xs.map f) i=some (f (xs.getD i.toNat z)):=by
 unfold iK rh
 rw [eD,if_pos h0,if_pos h]
 have:i.toNat<xs.length:=by ext h0 h
 simp [this]
theorem b0g:Wo (forL g F [] env) Q↔Q (.nx,env):=a0g
theorem a9o:Wo (forL g F (d::ds) env) Q↔Wo (g d env) λe=>Wo (F e) (FZ (λe=>Wo (forL g F ds e) Q) Q):=by
 rw [forL]
 cases g d env with
 | none=>simp [Wo_none]
 | some e =>
  rw [a0g]
  dsimp only
  cases F e with
  | none=>simp [Wo_none]
  | some p =>
   obtain ⟨fl,e2⟩:=p
   rw [a0g]
   cases fl<;>simp [FZ,a0g]
theorem b2y:D.fS .b8=true:=rfl
theorem b4g:D.fS (.bl b)=false:=rfl
theorem b2A:D.fS (.int i)=false:=rfl
theorem b2x:D.fS (.str x)=false:=rfl
theorem b2w:D.fS (.tup ds)=false:=rfl
theorem b2z:D.fS (.lst r ds)=false:=rfl
theorem Zk(xs:List Int){i:Int}(h0:0<=i)(h1:i<xs.length)(h:∀v∈xs,Q (.int v))(e:ds=xs.map D.int:=by rfl):Wo (iK ds i) Q:=by
 have hi:i.toNat<xs.length:=by ext h0 h1
 rw [e,Eg 0 h0 h1,a0g,show xs.getD i.toNat 0=xs[i.toNat] by simp [hi]]
 exact h _ (AJ hi)
theorem b7N:Wo (lQ fi caps nt g fc fe env) Q↔Wo (fi env) λds=>Wo (nP caps env) λcs=>ds.length<=16777216/\Wo (rO g fc fe ds (oa nt Sl.no++cs)) λrs=>Q (.ow rs):=by
 unfold lQ
 rw [a0n]
 refine kD λds=>?_
 rw [a0n]
 refine kD λcs=>?_
 by_cases h:ds.length<=16777216
 .rw [if_pos h,a16];exact ⟨λz=>⟨h,z⟩,λz=>z.2⟩
 .rw [if_neg h,Wo_none];exact ⟨qw,λz=>h z.1⟩
theorem b7P:Wo (nP [] env) Q↔Q []:=a0g
theorem b7O:Wo (nP (i::is) env) Q↔qB env[i]? λs=>Wo (nP is env) λcs=>Q (s::cs):=by
 rw [nP]
 cases h:env[i]? with
 | none=>simp [Wo_none,qB]
 | some s=>cases s<;>simp [Wo_none,qB,a16]
theorem rep0{l:En}:oa 0 Sl.no++l=l:=rfl
theorem rep1{l:En}:oa 1 Sl.no++l=Sl.no::l:=rfl
theorem rep2{l:En}:oa 2 Sl.no++l=Sl.no::Sl.no::l:=rfl
theorem rep3{l:En}:oa 3 Sl.no++l=Sl.no::Sl.no::Sl.no::l:=rfl
theorem rep4{l:En}:oa 4 Sl.no++l=Sl.no::Sl.no::Sl.no::Sl.no::l:=rfl
theorem b4L:Wo (xY env) Q↔Q true:=a0g
theorem b4U:Wo (rO g fc fe [] e) Q↔Q []:=a0g
theorem b4V:Wo (rO g fc fe (d::ds) e) Q↔Wo (g d e) λe1=>Wo (fc e1) λb =>
  (b=true->Wo (fe e1) λr=>Wo (rO g fc fe ds e1) λrs=>Q (r.d::rs))/\(b=false->Wo (rO g fc fe ds e1) Q):=by
 rw [rO,a0n]
 refine kD λe1=>?_
 rw [a0n]
 refine kD λb=>?_
 cases b
 .rw [if_neg vM];simp
 .rw [if_pos rfl,a0n];simp only [a0n,a0g];simp
theorem b7y:Wo (jh f env) Q↔Wo (f env) λr=>Wo (j0 r.d) λx=>Q x.2:=by
 unfold jh;rw [a0n];simp only [a16]
theorem b7z:Wo (w5 h f env) Q↔Wo (f env) λds=>Wo (h ds) Q:=a0n
theorem b7x:Wo (T8 f g F env) Q↔Wo (f env) λds=>Wo (forL g F ds env) Q:=a0n
theorem comp_map{α:Type}(enc:α->D)(f:α->D)(P:En->Prop)(xs:List α)
  (h:∀a∈xs,∀e,P e->Wo (g (enc a) e) λe1=>P e1/\Wo (fc e1) λb=>b=true/\Wo (fe e1) λr=>r.d=f a):∀{e:En},P e->rO g fc fe (xs.map enc) e=some (xs.map f):=by
 induction xs with
 | nil=>intro e _;rfl
 | cons a xs ih =>
  intro e he
  obtain ⟨e1,g1,p1,b,c1,rfl,r,f1,f2⟩:=h a jL e he
  rw [jJ,rO,g1,AI,c1,AI,if_pos rfl,f1,AI,ih (λb hb=>h b (jU _ hb)) p1,f2]
  rfl
theorem jk{α:Type}(enc:α->D)(p:α->Bool)(f:α->D)(P:En->Prop)(xs:List α)
  (h:∀a∈xs,∀e,P e->Wo (g (enc a) e) λe1=>P e1/\Wo (fc e1) λb=>b=p a/\(p a=true->Wo (fe e1) λr=>r.d=f a)):∀{e:En},P e->rO g fc fe (xs.map enc) e=some ((xs.filter p).map f):=by
 induction xs with
 | nil=>intro e _;rfl
 | cons a xs ih =>
  intro e he
  obtain ⟨e1,g1,p1,b,c1,rfl,k⟩:=h a jL e he
  have W5:=ih (λb hb=>h b (jU _ hb)) p1
  rw [jJ,rO,g1,AI,c1,AI]
  cases hp:p a with
  | true =>
   obtain ⟨r,f1,f2⟩:=k hp
   rw [if_pos rfl,f1,AI,W5,f2,TJ hp]
   rfl
  | false=>rw [if_neg vM,W5,TH (by simp [hp])]
theorem b7C:Wo (w6 f env) Q↔Wo (f env) λx=>Wo (vU x.2) λns=>Q (.sh (.int ns.sum)):=by
 unfold w6;rw [a0n];simp only [a16]
theorem b7E:Wo (CJ f env) Q↔Wo (f env) λx=>Wo (vU x.2) λns=>ns≠[]/\Q (.sh (.int (k9 ns))):=by
 unfold CJ;rw [a0n];simp only [a0n,qH]
theorem b7o:Wo (vU (ns.map D.int)) Q↔Q ns:=by rw [Vn,a0g]
theorem Z6{α:Type}[DecidableEq α]{n:Nat}{enc:α->D}(h:∀x y,cf n (enc x) (enc y)=some (decide (x=y))):∀(xs ys:List α),∃bs,jM (AF (cf n) (xs.map enc) (ys.map enc))=some bs/\(bs.all id&&decide (xs.length=ys.length))=decide (xs=ys)
 | [],[]=>⟨[],rfl,rfl⟩
 | [],y::ys=>⟨[],rfl,by simp⟩
 | x::xs,[]=>⟨[],rfl,by simp⟩
 | x::xs,y::ys=>by
  obtain ⟨bs,e,k⟩:=Z6 h xs ys
  refine ⟨decide (x=y)::bs,?_,?_⟩
  .simp only [jJ,List.zipWith_cons_cons,h,jM,e,Sy]
  .rw [List.all_cons,Bool.and_assoc]
   have:decide ((x::xs).length=(y::ys).length)=decide (xs.length=ys.length):=by simp
   rw [this,k]
   simp only [id,List.cons.injEq,Bool.decide_and]
theorem Zu{α:Type}[DecidableEq α]{n:Nat}{enc:α->D}(h:∀x y,cf n (enc x) (enc y)=some (decide (x=y)))(xs ys:List α){r r':Bool}:cf (n+1) (.lst r (xs.map enc)) (.lst r' (ys.map enc))=some (decide (xs=ys)):=by
 obtain ⟨bs,e,k⟩:=Z6 h xs ys
 show (if (xs.map enc).length=(ys.map enc).length then (jM (AF (cf n) (xs.map enc) (ys.map enc))).map λbs=>bs.all id else some false)=_
 simp only [eD]
 by_cases hl:xs.length=ys.length
 .rw [if_pos hl,e,<-k];simp [hl]
 .rw [if_neg hl]
  have:xs≠ys:=λz=>hl (by rw [z])
  simp [this]
theorem b4K{α:Type}{xs:List α}{x:α}:iK (xs++[x]) (-1)=some x:=by
 unfold iK rh
 rw [if_neg (by decide),if_pos (by rw [fZ,GU];ext),fZ,GU]
 have:(-1+((xs.length+1:Nat):Int)).toNat=xs.length:=by ext
 rw [this]
 simp
theorem O8(I:Nat->En->Prop)(turn:∀n env,I n env->Wo (c env) λb=>(b=true->Wo (F env) (FZ (λe=>∃m,m<n/\I m e) Q))/\(b=false->Q (.nx,env))):
  ∀(fuel n:Nat) {env:En},n<fuel->I n env->Wo (B0 c F fuel env) Q
 | 0,n,env,h,_=>absurd h (K6 _)
 | fuel+1,n,env,h,hI=>by
  obtain ⟨b,e1,h1,h2⟩:=turn n env hI
  rw [B0,e1]
  cases b with
  | false=>exact ⟨_,rfl,h2 rfl⟩
  | true =>
   obtain ⟨⟨fl,e2⟩,e3,h3⟩:=h1 rfl
   dsimp only
   rw [e3]
   cases fl with
   | nx=>obtain ⟨m,hm,Rz⟩:=h3;exact O8 I turn fuel m (by ext h hm) Rz
   | ct=>obtain ⟨m,hm,Rz⟩:=h3;exact O8 I turn fuel m (by ext h hm) Rz
   | bk=>exact ⟨_,rfl,h3⟩
   | rt r=>exact ⟨_,rfl,h3⟩
theorem Z5:Wo (N3 m c F env) Q↔Wo (B0 c F (m env) env) Q:=jT
noncomputable def qt{α:Type}(xs:List α)(lo hi:Option Int):List α:=(xs.drop (HT.df xs.length 0 lo)).take (HT.df xs.length xs.length hi-HT.df xs.length 0 lo)
theorem US{α:Type}{f:α->D}(xs:List α)(lo hi:Option Int):cutD (xs.map f) lo hi=(qt xs lo hi).map f:=by
 unfold cutD qt
 rw [eD,<-List.map_drop,<-List.map_take]
theorem ZG{α:Type}(xs:List α){n:Nat}:qt xs none (some (n:Int))=xs.take n:=by
 unfold qt
 rw [HT.B6,HT.pZ]
 simp only [Sk,KE]
 by_cases h:n<=xs.length
 .rw [Nat.min_eq_left h]
 .rw [Nat.min_eq_right (by ext h),FR (cT _),FR (by ext h)]
theorem b4N:Wo (Lm [.int j]) Q↔Q (iL 0 j.toNat):=a0g
theorem b4M:Wo (NX [.int i,.int j]) Q↔Q (iL i (j-i).toNat):=a0g
def QT(r:Sl)(ns:List Int)(Q:Sl->Prop):Prop:=match r with
 | .sh d=>Q (.sh (if ns=[] then d else .int (jx ns)))
 | _=>False
theorem mkQ_s:QT (.sh d) ns Q↔Q (.sh (if ns=[] then d else .int (jx ns))):=jT
theorem b4Q:Wo (NR f g env) Q↔Wo (f env) λx=>Wo (g env) λr=>Wo (vU x.2) λns=>QT r ns Q:=by
 unfold NR
 simp only [a0n]
 refine kD λx=>kD λr=>kD λns=>?_
 unfold QT
 cases r<;>simp [a0g,Wo_none]
def Lo(i:Nat)(env:En)(a b:Sl)(Q:Fl×En->Prop):Prop:=match a,b with
 | .sh (.int m),.sh (.int n)=>Q (.nx,env.set i (.sh (.int (m+n))))
 | _,_=>False
theorem b9j:Lo i env (.sh (.int m)) (.sh (.int n)) Q↔Q (.nx,env.set i (.sh (.int (m+n)))):=jT
theorem b9O:Wo (wo i f env) Q↔qB env[i]? λa=>Wo (f env) λr=>Lo i env a r Q:=by
 constructor
 .rintro ⟨y,e,h⟩
  obtain ⟨m,n,e1,e2,rfl⟩:=a8J e
  rw [e1];exact ⟨_,e2,h⟩
 .intro h
  cases hi:env[i]? with
  | none=>rw [hi] at h;exact h.elim
  | some s =>
   rw [hi] at h
   cases s with
   | no=>exact h.elim
   | ow ds=>exact h.elim
   | dw ds=>exact h.elim
   | tw _ _=>exact h.elim
   | sh d =>
    obtain ⟨r,e1,h⟩:=h
    cases d with
    | int m =>
     cases r with
     | sh d2 =>
      cases d2 with
      | int n=>exact ⟨_,by unfold wo;rw [hi,e1],h⟩
      | _=>exact h.elim
     | _=>exact h.elim
    | _=>exact h.elim
theorem b7h:Wo (B3 i g env) Q↔Wo (g (qm i env)) Q:=jT
theorem b4S:Wo (Lk f env) Q↔Wo (f env) λr=>Wo (qC (some r)) λb=>Q (.sh (.int (if b=true then 1 else 0))):=by
 unfold Lk
 cases f env with
 | none=>simp [Wo,qC]
 | some r=>rw [a0g,a16]
end DL
namespace DL
theorem AX(h:-(10^250)<=i)(h2:i<=10^250)(h3:-(10^250)<=j)(h4:j<=10^250):MulC i j:=.inr (.inr ⟨⟨h,h2⟩,h3,h4⟩)
theorem UJ(h:0<j)(h2:j<=10^250):DivC i j:=⟨h,h2⟩
end DL
namespace DL
open PySem PySem.Spec PyProof.Rows L2
section
variable {P:Program}{w:World}{K:aQ}{mg:Str->Option Value}{base:Heap}{N:List Str}{qual:Str}{scope:Scope}{f:Addr}{cd:Value}{A:Around}{outer:List Env}{s:Shared}{H:Hp}{E:XK}
end
end DL
namespace DL
open PySem PySem.Spec PyProof.Rows L2
section
variable {X:Cx}{W:L2.St->Hp->Value->Prop}{e a b c:Expr}{es:List Expr}{st:Stmt}{rest sa sb:List Stmt}{F G:SF}{r r':RF}{re:En->Option Str}{fa:En->Option Sl}{ga:En->Option Bool}{fs:En->Option (List D)}{pos p aR np:Pos}
noncomputable def Ur:SF:=λ_=>none
theorem b3y:SV X st Ur:=⟨λ_ _ _=>False,λ_ _ _ _ _ _ h=>h.elim,λ_ _ _ _ _ _ _ _ _ e _=>by cases e⟩
end
section
variable {X:Cx}{W:L2.St->Hp->Value->Prop}{e:Expr}{es:List Expr}{fs:En->Option (List D)}{pos p aR np:Pos}{x:Str}{C:Addr}
end
section
variable {P:Program}{w:World}{K:aQ}{mg:Str->Option Value}{base:Heap}
end
end DL
namespace DL
open PySem PySem.Spec PyProof.Rows L2
section
variable {X:Cx}{pins:List (Addr×Obj)}{σ:L2.St}{H:Hp}{s:Shared}{h':Heap}
end
end DL
namespace DL
open PySem PySem.Spec PyProof.Rows L2
section
variable {X:Cx}{N:List Str}{sc:Scope}{k i:Nat}{n Cn:Str}{hc:Value}{body WG:List Stmt}{b0:Stmt}{Fb Fh:SF}{rb:RF}{hit:Str->Bool}{np hpos pos:Pos}
end
end DL
namespace DL
open PySem PySem.W PySem.Spec PySem.Calls PyProof.Rows L2 PySem.Builtin.ObjectAttr PySem.Builtin PySem.Builtin.Getset_descriptor
section
variable {prog:Program}{w:World}{A:Around}{E:Value->Shared->Prop}{s:Shared}{K:Frag}{x C:Addr}
end
section
variable {X:Cx}{a:Expr}{pos p p2:Pos}{fa:En->Option Sl}
end
section
variable {X:Cx}{N:List Str}{sc:Scope}{pos p p1 p2 pos' aR:Pos}{e a b:Expr}{fa fb:En->Option Sl}
end
theorem b3k:Wo (Ur env) Q↔False:=Wo_none
end DL
namespace DL
open PySem PySem.Spec PyProof.Rows L2
theorem b6I{P:Program}{w:World}{K:aQ}{mg:Str->Option Value}{base:Heap}{k n:Nat}{f:Addr}{fd:FuncData}{ps:List Str}{φ:List D->Option Sl}(h:∀ds r,φ ds=some r->False):cR P w K mg base jY k f fd ps (wb K n φ):=
 ⟨λvs H Q E q=>by obtain ⟨O,ds,r,_,_,_,e,_⟩:=q;exact (h ds r e).elim,λA outer s H args us vs Q E _ _ _ _ q=>by obtain ⟨O,ds,r,_,_,_,e,_⟩:=q;exact (h ds r e).elim⟩
section
variable {X:Cx}{W:L2.St->Hp->Value->Prop}{it tg:Expr}{re:En->Option Str}{pos:Pos}
end
theorem Oq{P:Program}{w:World}{K:aQ}{mg:Str->Option Value}{base:Heap}{x:Str}{st:Stmt}{ps:List Str}{j:Nat}{f:Addr}{fd:FuncData}(D':Def K mg x st ps f fd):Oz P w K mg base x st ps j λ_=>none:=⟨f,fd,D',b6I λ_ _ z=>nomatch z⟩
end DL
namespace DL
open PySem PySem.Spec PyProof.Rows L2
section
variable {X:Cx}{a b c:Expr}{pos:Pos}{fa fb fc:En->Option Sl}
theorem OJ(ho:nu X (compareOp op) g)(nM:nu X (compareOp z0) g')(ha:EV X a fa)(hb:EV X b fb)(hc:EV X c fc)(hm:lastMarks [op,z0] [b,c]=false:=by with_unfolding_all rfl):
  TV X (.Compare a [op,z0] [b,c] pos) (qE (bS (aa g fa fb)) (bS (aa g' fb fc))):=by
 obtain ⟨r,hr,hg⟩:=ho
 obtain ⟨r',Rf,JT⟩:=nM
 obtain ⟨ta,pa,ka⟩:=ha
 obtain ⟨tb,pb,kb⟩:=hb
 obtain ⟨tc,pc,kc⟩:=hc
 refine ⟨_,b3K hr Rf pa pb pc hm,λO B σ H env k Q R e q=>?_⟩
 unfold qE at e
 cases e1:bS (aa g fa fb) env with
 | none=>rw [e1] at e;cases e
 | some b1 =>
  rw [e1] at e
  obtain ⟨x,ex,e3⟩:=bind_some (Di e1)
  obtain ⟨y,ey,e4⟩:=bind_some e3
  refine ka O B σ H env x _ R ex λv H1 s1 h1=>?_
  refine kb O B σ H1 env y _ (R.grow s1) ey λu H2 s2 h2=>?_
  have R2:=(R.grow s1).grow s2
  refine hg (OO O σ env) H2 v u x.d y.d _ _ (λq=>R2.oo) ((h1.is λq=>R.oo).grow s2) (h2.is λq=>(R.grow s1).oo) e4 λw H3 s3 h3=>?_
  refine ⟨b1,BQ h3,?_⟩
  cases b1 with
  | false =>
   cases e
   rw [if_neg (by decide)]
   exact ⟨false,rfl,q H3 ((s1.trans s2).trans s3)⟩
  | true =>
   rw [if_pos rfl]
   obtain ⟨y',Ko,e5⟩:=bind_some (Di e)
   rw [ey] at Ko
   cases Ko
   obtain ⟨z,ez,e6⟩:=bind_some e5
   have R3:=R2.grow s3
   refine kc O B σ H3 env z _ R3 ez λw' H4 s4 h4=>?_
   have R4:=R3.grow s4
   refine JT (OO O σ env) H4 u w' y.d z.d _ _ (λq=>R4.oo) (((h2.is λq=>(R.grow s1).oo).grow s3).grow s4) (h4.is λq=>R3.oo) e6 λw2 H5 s5 h5=>?_
   exact ⟨k,BQ h5,q H5 ((((s1.trans s2).trans s3).trans s4).trans s5)⟩
end
end DL
namespace DL
open PySem PySem.Spec PyProof.Rows L2
section
variable {X:Cx}{a b c:Expr}{pos:Pos}{fa fb fc:En->Option Sl}
noncomputable def CK(f:En->Option Bool):En->Option Sl:=λenv=>(f env).map λb=>.sh (.bl b)
theorem b4q(ho:nu X (compareOp op) g)(nM:nu X (compareOp z0) g')(ha:EV X a fa)(hb:EV X b fb)(hc:EV X c fc)(hm:lastMarks [op,z0] [b,c]=false:=by with_unfolding_all rfl):
  EV X (.Compare a [op,z0] [b,c] pos) (CK (qE (bS (aa g fa fb)) (bS (aa g' fb fc)))):=by
 obtain ⟨r,hr,hg⟩:=ho
 obtain ⟨r',Rf,JT⟩:=nM
 obtain ⟨ta,pa,ka⟩:=ha
 obtain ⟨tb,pb,kb⟩:=hb
 obtain ⟨tc,pc,kc⟩:=hc
 refine ⟨_,b3S hr Rf pa pb pc hm,λO B σ H env k Q R e q=>?_⟩
 obtain ⟨bb,e',rfl⟩:=map_some e
 clear e
 have e:=e'
 clear e'
 unfold qE at e
 cases e1:bS (aa g fa fb) env with
 | none=>rw [e1] at e;cases e
 | some b1 =>
  rw [e1] at e
  obtain ⟨x,ex,e3⟩:=bind_some (Di e1)
  obtain ⟨y,ey,e4⟩:=bind_some e3
  refine ka O B σ H env x _ R ex λv H1 s1 h1=>?_
  refine kb O B σ H1 env y _ (R.grow s1) ey λu H2 s2 h2=>?_
  have R2:=(R.grow s1).grow s2
  refine hg (OO O σ env) H2 v u x.d y.d _ _ (λq=>R2.oo) ((h1.is λq=>R.oo).grow s2) (h2.is λq=>(R.grow s1).oo) e4 λw H3 s3 h3=>?_
  refine ⟨b1,BQ h3,?_⟩
  cases b1 with
  | false =>
   cases e
   rw [if_neg (by decide)]
   exact q _ H3 ((s1.trans s2).trans s3) (Is.bl _)
  | true =>
   rw [if_pos rfl]
   obtain ⟨y',Ko,e5⟩:=bind_some (Di e)
   rw [ey] at Ko
   cases Ko
   obtain ⟨z,ez,e6⟩:=bind_some e5
   have R3:=R2.grow s3
   refine kc O B σ H3 env z _ R3 ez λw' H4 s4 h4=>?_
   have R4:=R3.grow s4
   refine JT (OO O σ env) H4 u w' y.d z.d _ _ (λq=>R4.oo) (((h2.is λq=>(R.grow s1).oo).grow s3).grow s4) (h4.is λq=>R3.oo) e6 λw2 H5 s5 h5=>?_
   exact q _ H5 ((((s1.trans s2).trans s3).trans s4).trans s5) (by rw [BQ h5];exact Is.bl _)
theorem b7K:Wo (CK f env) Q↔Wo (f env) λb=>Q (.sh (.bl b)):=by
 unfold CK
 cases f env with
 | none=>simp [Wo_none]
 | some b=>simp [a0g]
end
end DL
namespace TS
open PySem PyProof.Rows
section
variable {prog:Program}{w:World}{A:Around}{E:Value->Shared->Prop}{s:Shared}
theorem Iz{l0:Addr}{vs:List Value}{n:Nat}{P:PySem.Fin->Shared->Prop}{κ:SortKind}{R:Array Value->Prop}(Gz:s.heap.get? l0=some (seqObj "list" vs.toArray n))(hZ:vs.length<=sizeLine)(hR:vs.length<2->R vs.toArray)(hz:∀out,R out->out.size=vs.length)
  (run:∀S:Shared,(∀b o,b≠l0->s.heap.get? b=some o->S.heap.get? b=some o)->2<=vs.length->(∀{A:Around} {E:Value->Shared->Prop} {Q:SortKind->Shared->Prop},Q κ S->wpAny (model prog w) A (keyKind' vs.toArray) Q E S)/\∀{A:Around} {E:Value->Shared->Prop},wpS (model prog w) A E S sortRuns' (λ_ aA=>R ((arrOf aA).map (·.2))/\failedOf aA=none) (KC κ (pairsOf vs) #[] 7 none))
  (h:∀out:Array Value,R out->P (.done (.ret .none)) { s with heap:=sortedHeap s.heap l0 vs out }):wpAny (model prog w) A (Builtin.«list.sort» ⟨[.ref l0],[]⟩) P E s:=by
 have cU:l0<s.heap.objs.size:=fI Gz
 obtain ⟨k1,Xg⟩:∃k1,(s.heap.update l0 (t4 λ_=>#[])).get? l0=some (seqObj "list" #[] k1):=⟨_,get?_update_seq Gz λ_=>#[]⟩
 rw [list_sort_plain]
 have Xr:vs.toArray.size<=sizeLine:=by rw [iJ];exact hZ
 have hZ2:vs.toArray.toList.length<=sizeLine:=Xr
 refine aM (listItems_at Gz rfl (aM (listUpdate_at (hsz:=Xr) Gz rfl (aM (seqEpoch_at Xg rfl (aM (wpAny_newTuple (hsz:=hZ2) (aM (wpAny_newList (zj ?_))))))))))
 have DF:(((s.heap.update l0 (t4 λ_=>#[])).push (seqObj "tuple" vs.toArray 0)).push (seqObj "list" #[] 0)).get? l0=some (seqObj "list" #[] k1):=gg _ (gg _ Xg)
 have up:∀b o,b≠l0->s.heap.get? b=some o->(((s.heap.update l0 (t4 λ_=>#[])).push (seqObj "tuple" vs.toArray 0)).push (seqObj "list" #[] 0)).get? b=some o:=λb o hb e =>
  gg _ (gg _ ((BK _ _ (oX hb)).trans e))
 dsimp only
 show wpAny _ _ _ _ _ { s with heap:=((s.heap.update l0 (t4 λ_=>#[])).push (seqObj "tuple" vs.toArray 0)).push (seqObj "list" #[] 0) }
 generalize hS:({ s with heap:=((s.heap.update l0 (t4 λ_=>#[])).push (seqObj "tuple" vs.toArray 0)).push (seqObj "list" #[] 0) }:Shared)=S
 have Xt:S.heap=((s.heap.update l0 (t4 λ_=>#[])).push (seqObj "tuple" vs.toArray 0)).push (seqObj "list" #[] 0):=by rw [<-hS]
 have wZ:S.heap.get? l0=some (seqObj "list" #[] k1):=by rw [Xt];exact DF
 have ends:∀st:SortSt,R ((arrOf st).map (·.2))->failedOf st=none ->
   wpAny (model prog w) A (do
    let touched:=(<-seqEpoch l0) != k1
    Builtin.List.listUpdate (.ref l0) λ_=>(arrOf st).map (·.2)
    if let some e:=failedOf st then rule "list.sort.comparison-raised";throw e
    if touched then rule "list.sort.modified";raiseError "ValueError" "list modified during sort"
    ret .none) P E S:=λst hr hf=>by
  refine aM (seqEpoch_at wZ rfl (aM (listUpdate_at wZ rfl ?_ (hsz2:=?_))))
  .rw [hf]
   simp only [bne_self_eq_false,DX,if_false]
   refine cp ?_
   have:=h _ hr
   rw [<-hS]
   exact this
  .rw [hz _ hr];ext hZ
 have hsz:vs.toArray.size=vs.length:=by simp
 by_cases h2:vs.toArray.size<2
 .rw [if_pos h2]
  refine aM (cp ?_)
  rw [if_pos h2,StateT.run_pure]
  refine aM (cp ?_)
  refine ends (KC general' (pairsOf vs) #[] 7 none) ?_ rfl
  have e:(pairsOf vs).map (·.2)=vs.toArray:=by
   apply SG.mp
   rw [Array.toList_map,GQ,List.map_snd_zip (cT _)]
  show R ((pairsOf vs).map (·.2))
  rw [e]
  exact hR (by ext h2)
 .rw [if_neg h2]
  obtain ⟨r1,r2⟩:=run S (λb o hb e=>by rw [Xt];exact up b o hb e) (by ext hsz h2)
  refine aM (r1 ?_)
  rw [if_neg h2]
  refine aM (t5 r2 (λr s' hr=>?_) λ_ _ z=>z)
  obtain ⟨rfl,p1,p2⟩:=hr
  exact ends r.2 p1 p2
end
end TS
namespace KS
open PySem PySem.W PyProof.Rows
section
variable (K:Nat->Int)
variable {K}
end
end KS
namespace KS
open PySem PySem.W PyProof.Rows
section
variable {n:Nat}
end
end KS
namespace SE
open PySem PyProof.Rows
def ml(l:List Nat):Prop:=l.Pairwise (·<·)
theorem ml.lt{xs:Array Nat}(h:ml xs.toList){a b d:Nat}(DK:a<b)(hb:b<xs.size):xs.getD a d<xs.getD b d:=by
 have ha:a<xs.size:=Sm DK hb
 have:=(G8.mp h) a b (by simpa using ha) (by simpa using hb) DK
 simp only [Le] at this
 simpa [GK,ha,hb] using this
structure Bl(xs:Array Nat)(j r:Nat):Prop where
 le:r<=xs.size
 lo:∀k,k<r->xs.getD k j<j
 hi:∀k,r<=k->k<xs.size->j<=xs.getD k j
theorem T3{xs:Array Nat}{j:Nat}(hr:ml xs.toList):∀(n lo hi:Nat),hi-lo<=n->lo<=hi->hi<=xs.size->(∀k,k<lo->xs.getD k j<j)->(∀k,hi<=k->k<xs.size->j<=xs.getD k j)->Bl xs j (Yg xs j n lo hi)
 | 0,lo,hi,a,b,c,d,e=>by
  have:lo=hi:=by omega
  subst this
  exact ⟨c,d,e⟩
 | n+1,lo,hi,a,b,c,d,e=>by
  unfold Yg
  split
  .rename_i cU
   dsimp only
   split
   .rename_i hm
    refine T3 hr n _ _ (by omega) (by omega) c (λk hk=>?_) e
    rcases Nb k ((lo+hi)/2) with q | q
    .exact Sm (hr.lt q (by omega)) hm
    .rw [show k=(lo+hi)/2 by omega];exact hm
   .rename_i hm
    refine T3 hr n _ _ (by omega) (by omega) (by omega) d (λk hk hs=>?_)
    rcases Nb ((lo+hi)/2) k with q | q
    .exact DS (Nat.lt_of_le_of_lt (Nat.not_lt.mp hm) (hr.lt q hs))
    .rw [show k=(lo+hi)/2 by omega];exact Nat.not_lt.mp hm
  .have:lo=hi:=by omega
   subst this
   exact ⟨c,d,e⟩
theorem Z7{xs:Array Nat}(hr:ml xs.toList)(j:Nat):Bl xs j (AD xs j):=
 T3 hr _ _ _ (cT _) (AE _) (cT _) (λ_ h=>absurd h (K6 _)) λk h h'=>absurd h' (by omega)
theorem b3G{xs:Array Nat}(hr:ml xs.toList){j:Nat}(hj:(xs[AD xs j]?==some j)=false):ml (SetTable.insertAt xs (AD xs j) j).toList:=by
 have B:=Z7 hr j
 generalize AD xs j=r at B hj
 rw [SetTable.toList_insertAt]
 have e1:xs.toList=xs.toList.take r++xs.toList.drop r:=(xN r _).symm
 have p:=hr
 unfold ml at p
 rw [e1,zo] at p
 have lo:∀a∈xs.toList.take r,a<j:=λa ha=>by
  obtain ⟨k,hk,e⟩:=xM.mp ha
  rw [oY] at hk
  rw [K2] at e
  have n9:k<xs.size:=by simp at hk;omega
  have:=B.lo k (by omega)
  simp only [Le] at e
  simp only [GK,n9,dif_pos] at this
  rw [<-e];exact this
 have hi:∀a∈xs.toList.drop r,j<a:=λa ha=>by
  obtain ⟨k,hk,e⟩:=xM.mp ha
  rw [BL] at hk
  rw [Tn] at e
  have n9:r+k<xs.size:=by simp at hk;omega
  have h1:=B.hi (r+k) (by omega) n9
  simp only [Le] at e
  simp only [GK,n9,dif_pos] at h1
  have h1:j<=a:=by rw [<-e];exact h1
  rcases Nat.lt_or_eq_of_le h1 with q | q
  .exact q
  .exfalso
   rcases Tf k with z | z
   .subst z
    rw [G7 (by omega:r<xs.size)] at hj
    have e':xs[r]'(by omega)=j:=by rw [q];exact e
    rw [e'] at hj
    simp at hj
   .have:=hr.lt (d:=j) (show r<r+k by omega) n9
    have h2:=B.hi r (cT _) (by omega)
    have h3:xs.getD (r+k) j=a:=by simp only [GK,n9,dif_pos];exact e
    omega
 show List.Pairwise _ _
 first
 | (refine zo.mpr ⟨p.1,C3.mpr ⟨hi,p.2.1⟩,λa ha b hb=>?_⟩
    rcases fB.mp hb with q | q
    .rw [q];exact lo a ha
    .exact p.2.2 a ha b q)
structure Tb(bt:Bool)(t:SetTable):Prop where
 led:t.led=true\/bt=true
 RU:t.dummies=#[]
 rise:t.plain=true->ml t.place.toList
theorem b3x(bt:Bool):Tb bt (.fresh 0 0 (!bt)):=⟨by cases bt<;>simp [SetTable.fresh],rfl,λ_=>DW⟩
theorem Tb.uz{bt:Bool}{t:SetTable}(h:Tb bt t)(n:Nat):Tb bt (t.standIn n):=⟨h.led,rfl,λz=>absurd z (by simp [SetTable.standIn])⟩
theorem Tb.off{bt:Bool}{t:SetTable}(h:Tb bt t):Tb bt { t with plain:=false }:=⟨h.led,h.RU,λz=>absurd z (by simp)⟩
theorem Zz(j:Nat):SetTable.has #[] j=false:=by simp [SetTable.has]
theorem a7z{t:SetTable}(hd:t.dummies=#[])(f:Nat->Int)(h:Int):∀(n:Nat) (p:XH) (j:Nat) (q:Option Nat),p.dummy=none->Ti t f h n p=some (.empty j q)->q=none/\(t.place[AD t.place j]?==some j)=false
 | 0,p,j,q,_,e=>by simp [Ti] at e
 | n+1,p,j,q,hp,e=>by
  have ad:∀p:XH,(t.advance p).dummy=p.dummy:=λp=>by unfold SetTable.advance;split<;>rfl
  unfold Ti at e
  unfold SetTable.slot at e
  rw [hd,Zz] at e
  dsimp only at e
  by_cases hl:(t.place[AD t.place p.j]?==some p.j)=true
  .rw [if_pos hl] at e
   dsimp only at e
   split at e
   .simp at e
   .exact a7z hd f h n _ j q (by rw [ad];exact hp) e
  .rw [if_neg hl] at e
   simp only [DX,if_false,iF,SetTable.Met.empty.injEq] at e
   obtain ⟨rfl,rfl⟩:=e
   exact ⟨hp,Bool.eq_false_iff.mpr hl⟩
theorem Tb.lay{bt:Bool}{t:SetTable}(T:Tb bt t)(es:Array (Int×Value))(h:Int)(x:Value):Tb bt (layNew t es h x).2.1:=by
 unfold layNew
 cases hf:t.freeSlot h with
 | none=>exact T.uz _
 | some z =>
  obtain ⟨slot,wd⟩:=z
  dsimp only
  have key:wd=false/\(t.place[AD t.place slot]?==some slot)=false:=by
   unfold SetTable.freeSlot SetTable.probe at hf
   split at hf
   .rename_i j q e
    obtain ⟨rfl,b⟩:=a7z T.RU _ _ _ _ j q rfl e
    simp only [SJ,Option.isSome_none,iF,Prod.mk.injEq] at hf
    obtain ⟨rfl,rfl⟩:=hf
    exact ⟨rfl,b⟩
   .cases hf
  show Tb bt ((t.put slot).1.orStandIn _)
  have hp:Tb bt (t.put slot).1:=by
   unfold SetTable.put
   refine ⟨T.led,?_,λz=>?_⟩
   .dsimp only;rw [T.RU,Zz];rfl
   .exact b3G (T.rise z) key.2
  unfold SetTable.orStandIn
  split
  .exact hp
  .exact hp.uz _
theorem Tb.II{bt:Bool}{t:SetTable}(T:Tb bt t)(es:Array (Int×Value))(n:Nat):Tb bt (relayAll t es n).2.1:=by
 unfold relayAll
 cases hf:t.relaid (es.map (·.1)) n with
 | none=>exact T.uz _
 | some z =>
  obtain ⟨t',order⟩:=z
  dsimp only
  split
  .show Tb bt t'
   unfold SetTable.relaid SetTable.laid at hf
   simp only [Option.bind_eq_bind,Option.bind_eq_some_iff] at hf
   obtain ⟨ow,_,e⟩:=hf
   simp only [Option.pure_def,iF,Prod.mk.injEq] at e
   obtain ⟨rfl,_⟩:=e
   refine ⟨T.led,rfl,λ_=>?_⟩
   show ml _
   unfold ml
   dsimp only
   have sub:List.Sublist (((pO (Td n-1+1)).filterMap λj=>(ow.getD j none).map (j,·)).map (·.1)) (pO (Td n-1+1)):=by
    generalize pO (Td n-1+1)=l
    induction l with
    | nil=>exact List.Sublist.slnil
    | cons a l ih =>
     rw [ND]
     cases ow.getD a none with
     | none=>exact ih.cons _
     | some k=>exact ih.cons₂ _
   exact List.Pairwise.sublist sub List.pairwise_lt_range
  .exact T.uz _
end SE
namespace SE
open PySem PyProof.Rows PySem.Calls
theorem OP{α β:Type}{f:α->β}{l m:List β}(h:l.Perm m):∀ts:List α,m=ts.map f->∃us:List α,us.Perm ts/\l=us.map f:=by
 induction h with
 | nil=>intro ts e;exact ⟨[],by rw [List.map_eq_nil_iff.mp e.symm],rfl⟩
 | cons a _ ih =>
  intro ts e
  obtain ⟨b,WC,rfl,rfl,rfl⟩:=S0.mp e.symm
  obtain ⟨us,p,rfl⟩:=ih WC rfl
  exact ⟨b::us,p.cons _,rfl⟩
 | swap a b l =>
  intro ts e
  obtain ⟨x,WC,rfl,rfl,e'⟩:=S0.mp e.symm
  obtain ⟨y,Qa,rfl,rfl,rfl⟩:=S0.mp e'
  exact ⟨y::x::Qa,XG ..,rfl⟩
 | trans _ _ i1 i2 =>
  intro ts e
  obtain ⟨us,p,e1⟩:=i2 ts e
  obtain ⟨vs,q,e2⟩:=i1 us e1
  exact ⟨vs,q.trans p,e2⟩
section
variable {prog:Program}{w:World}{K:Type}[DecidableEq K]{knd:KeyKind prog w K}{A:Around}{E:Value->Shared->Prop}{s:Shared}
noncomputable def vN(w:World):Bool:=w.params.followText "set-order"
def El(knd:KeyKind prog w K)(q:K×Int×Value):Prop:=knd.is q.1 q.2.2=true/\q.2.1=knd.hash q.1/\q.2.2.scannable=true
structure Sd(knd:KeyKind prog w K)(es:Array (Int×Value))(t:SetTable)(fm:List (K×Int×Value)):Prop where
 CI:es.toList=fm.map (·.2)
 el:∀q∈fm,El knd q
 fits:t.fits es.size=true
 tb:Tb (vN w) t
 lt:es.size<scanBound
theorem Sd.of{es:Array (Int×Value)}{t:SetTable}{fm:List (K×Int×Value)}(S:Sd knd es t fm):ElemsOf knd es.toList:=by
 rw [S.CI]
 intro e he
 obtain ⟨q,hq,rfl⟩:=t6.mp he
 obtain ⟨a,b,c⟩:=S.el q hq
 exact ⟨⟨q.1,a,b⟩,c⟩
theorem Sd.len{es:Array (Int×Value)}{t:SetTable}{fm:List (K×Int×Value)}(S:Sd knd es t fm):es.size=fm.length:=by
 rw [<-kx,S.CI,eD]
def Sa(knd:KeyKind prog w K)(o:Obj)(ks:List K):Prop:=o.ExactSet/\∃es ep t fm,o.data=.set es ep t/\Sd knd es t fm/\ks=fm.map (·.1)
theorem Zd{a:Addr}{o:Obj}{es:Array (Int×Value)}{ep:Nat}{t:SetTable}(ho:s.heap.get? a=some o)(hd:o.data=.set es ep t)(CG:Array (Int×Value))(t':SetTable):
  (s.heap.update a (Nc CG t')).get? a=some { o with data:=.set CG (ep+1) t' }:=by
 have:=GW (Nc CG t') ho (by rw [putSet_of CG t' hd];rfl)
 rwa [putSet_of CG t' hd] at this
theorem ZM{g:Bool->Sem Unit}(hg:∀(b:Bool) (bA:Shared) (Q':Unit->Shared->Prop),Q' () bA->wpAny (model prog w) A (g b) Q' E bA)
  {a:Addr}{o:Obj}{es:Array (Int×Value)}{ep:Nat}{t:SetTable}(ho:s.heap.get? a=some o)(hex:o.ExactSet)(hd:o.data=.set es ep t)
  {mo:Array (Int×Value)}{t2:SetTable}{fm:List (K×Int×Value)}(S:Sd knd mo t2 fm){wd:Bool}{R:Option Bool->Shared->Prop}
  (h:∀h' o' ks',AG a s.heap h'->h'.get? a=some o'->Sa knd o' ks'->ks'.Perm (fm.map (·.1))->R (some true) { s with heap:=h' }):
  wpAny (model prog w) A (storeSet a mo t2 >>= λ_=>if (!wd&&t2.tooFull)=true then (g (relayAll t2 mo (Fz mo.size)).2.2 >>= λ_=>storeSet a (relayAll t2 mo (Fz mo.size)).1 (relayAll t2 mo (Fz mo.size)).2.1 >>= λ_=>pure (some true)) else pure (some true)) R E s:=by
 refine aM (wpAny_storeSet_of ho hd ?_ (GN S.lt))
 have o1:=Zd ho hd mo t2
 have sb:=Ya s.heap a (Nc mo t2)
 split
 .have p:=relayAll_perm t2 mo (Fz mo.size)
  have f:=relayAll_fits t2 mo (Fz mo.size)
  have T:=S.tb.II mo (Fz mo.size)
  generalize relayAll t2 mo (Fz mo.size)=rl at p f T ⊢
  obtain ⟨RM,t3,gv⟩:=rl
  dsimp only at p f T ⊢
  obtain ⟨us,pu,eu⟩:=OP p fm S.CI
  have z:RM.size=mo.size:=by rw [<-kx,p.length_eq,kx]
  have S2:Sd knd RM t3 us:=⟨eu,λq hq=>S.el q (pu.mem_iff.mp hq),f,T,by rw [z];exact S.lt⟩
  refine aM (hg _ _ _ ?_)
  refine aM (wpAny_storeSet_of o1 rfl ?_ (GN S2.lt))
  exact cp (h _ _ _ (sb.trans (Ya _ a _)) (Zd (s:={ s with heap:=s.heap.update a (Nc mo t2) }) o1 rfl RM t3) ⟨hex,_,_,_,us,rfl,S2,rfl⟩ (pu.map _))
 .exact cp (h _ _ _ sb o1 ⟨hex,_,_,_,fm,rfl,S,rfl⟩ (C1 _))
theorem b9o{a:Addr}{o:Obj}{ks:List K}{k:K}{x:Value}{Q:Bool->Shared->Prop}(ho:s.heap.get? a=some o)(S:Sa knd o ks)(hk:knd.is k x=true)(hx:x.scannable=true)(room:ks.length+1<scanBound)
  (h:∀b h' o' ks',AG a s.heap h'->h'.get? a=some o'->Sa knd o' ks'->ks'.Perm (if k∈ks then ks else ks++[k])->Q b { s with heap:=h' }):
  wpAny (model prog w) A (setAddHashed a x (knd.hash k)) Q E s:=by
 obtain ⟨hex,es,ep,t,fm,hd,D,rfl⟩:=S
 rw [eD] at room
 have Xk:=D.of
 unfold setAddHashed setAddHashedIn
 refine zj (aM (K1 ho hd D.fits ?_))
 dsimp only
 rw [byScan_of hx D.lt Xk,if_pos rfl]
 unfold setAddByScan
 refine aM (aM (KD (aM (wpAny_setScan_of hk ho hd D.fits Xk ?_))))
 have mem:∀e∈es.toList,knd.is k e.2=true->k∈fm.map (·.1):=λe he hp=>by
  rw [D.CI] at he
  obtain ⟨q,hq,rfl⟩:=t6.mp he
  exact t6.mpr ⟨q,hq,knd.inj _ _ _ (D.el q hq).1 hp⟩
 cases hr:List.findIdx? (λe=>knd.is k e.2) es.toList with
 | some j =>
  obtain ⟨hj,hp,_⟩:=List.findIdx?_eq_some_iff_getElem.mp hr
  have hm:=mem _ (AJ hj) hp
  refine cp (cp ?_)
  have:=h false s.heap o (fm.map (·.1)) (Yh a s.heap) ho ⟨hex,es,ep,t,fm,hd,D,rfl⟩ (by rw [if_pos hm])
  exact this
 | none =>
  have hm:k∉fm.map (·.1):=λz=>by
   obtain ⟨q,hq,e⟩:=t6.mp z
   have:=List.findIdx?_eq_none_iff.mp hr q.2 (by rw [D.CI];exact t6.mpr ⟨q,hq,rfl⟩)
   rw [<-e,(D.el q hq).1] at this
   exact FF this
  rw [if_neg hm] at h
  have p:=layNew_perm t es (knd.hash k) x
  have f:=layNew_fits t es (knd.hash k) x
  have T:=D.tb.lay es (knd.hash k) x
  dsimp only
  generalize layNew t es (knd.hash k) x=ly at p f T ⊢
  obtain ⟨mo,t1,wd,gv⟩:=ly
  dsimp only at p f T ⊢
  rw [GP] at p
  obtain ⟨us,pu,eu⟩:=OP p (fm++[(k,knd.hash k,x)]) (by rw [D.CI,nA];rfl)
  have z:mo.size=fm.length+1:=by rw [<-kx,p.length_eq,fZ,kx,D.len];rfl
  have el1:∀q∈us,El knd q:=λq hq=>by
   rcases nj.mp (pu.mem_iff.mp hq) with m | m
   .exact D.el q m
   .rw [oZ.mp m];exact ⟨hk,rfl,hx⟩
  have mk:∀t2:SetTable,t2.fits mo.size=true->Tb (vN w) t2->Sd knd mo t2 us:=λt2 a b=>⟨eu,el1,a,b,by rw [z];exact room⟩
  have fin:∀h' o' ks',AG a s.heap h'->h'.get? a=some o'->Sa knd o' ks'->ks'.Perm (us.map (·.1))->Q true { s with heap:=h' }:=λh' o' ks' c1 c2 c3 c4 =>
   h true h' o' ks' c1 c2 c3 (c4.trans (by simpa using pu.map (·.1)))
  have hg:∀(b:Bool) (bA:Shared) (Q':Unit->Shared->Prop),Q' () bA->wpAny (model prog w) A (match b with | true=>rule "set.scan.the-table-gave-way" | false=>pure ()) Q' E bA:=λb bA Q' hq=>by
   cases b
   .exact cp hq
   .exact KD hq
  refine aM (hg _ _ _ ?_)
  split
  .refine aM ?_
   rw [hashByValue_scannable 8 hx]
   refine cp (ZM hg ho hex hd (mk _ ?_ ?_) λh' o' ks' c1 c2 c3 c4=>cp (fin h' o' ks' c1 c2 c3 c4))
   .split
    .exact f
    .exact SetTable.fits_plain_off f
   .split
    .exact T
    .exact T.off
  .refine aM (cp ?_)
   rw [if_pos rfl]
   exact ZM hg ho hex hd (mk _ f T) λh' o' ks' c1 c2 c3 c4=>cp (fin h' o' ks' c1 c2 c3 c4)
end
end SE
namespace SE
open PySem PyProof.Rows PySem.Calls
section
variable {prog:Program}{w:World}{K:Type}[DecidableEq K]{knd:KeyKind prog w K}{A:Around}{E:Value->Shared->Prop}{s:Shared}{R:Result->Shared->Prop}{I:Addr}{fp wr:List Addr}{G:Array GenState->Array GenState->Prop}{n:Nat}{P:Nat->Value->Prop}{St:Nat->Shared->Prop}
structure Kd(val:Nat->K)(i:Nat)(ks:List K):Prop where
 nd:ks.Nodup
 mem:∀x,x∈ks↔∃j,j<i/\val j=x
 len:ks.length<=i
theorem Kd.nil(val:Nat->K):Kd val 0 []:=⟨List.nodup_nil,λx=>⟨λz=>(nomatch z),λ⟨j,hj,_⟩=>absurd hj (K6 _)⟩,cT _⟩
theorem Kd.succ{val:Nat->K}{i:Nat}{ks ks':List K}(D:Kd val i ks)(p:ks'.Perm (if val i∈ks then ks else ks++[val i])):Kd val (i+1) ks':=by
 have m:∀x,(∃j,j<i+1/\val j=x)↔x∈ks\/x=val i:=λx=>by
  rw [D.mem]
  constructor
  .rintro ⟨j,hj,e⟩
   rcases Nat.lt_succ_iff_lt_or_eq.mp hj with q | q
   .exact .inl ⟨j,q,e⟩
   .exact .inr (by rw [<-e,q])
  .rintro (⟨j,hj,e⟩ | e)
   .exact ⟨j,zl hj,e⟩
   .exact ⟨i,qz _,e.symm⟩
 by_cases h:val i∈ks
 .rw [if_pos h] at p
  exact ⟨p.nodup_iff.mpr D.nd,λx=>by rw [m,p.mem_iff];exact ⟨.inl,λz=>z.elim id λe=>e▸h⟩,by rw [p.length_eq];exact Nat.le_succ_of_le D.len⟩
 .rw [if_neg h] at p
  refine ⟨p.nodup_iff.mpr (List.nodup_append.mpr ⟨D.nd,by simp,?_⟩),λx=>by rw [m,p.mem_iff,nj,oZ],by rw [p.length_eq,fZ];exact Nat.succ_le_succ D.len⟩
  intro a ha b hb
  rw [oZ.mp hb]
  exact λe=>h (e▸ha)
theorem Z0(W:WalksS prog w A.in1 I fp wr G n P St)(S:Addr)(pJ:S∉fp)(val:Nat->K)(Cs:∀i v,P i v->knd.is (val i) v=true/\v.scannable=true)(hb:n+1<scanBound):
  ∀(m i:Nat) (s:Shared) (o:Obj) (ks:List K),n-i=m->i<=n->St i s->s.heap.get? S=some o->Sa knd o ks->Kd val i ks ->
   (∀s' o' ks',Moved (S::wr) G s s'->s'.heap.get? S=some o'->Sa knd o' ks'->Kd val n ks'->R (.ok (.ret .none)) s') ->
   codeAny (model prog w) A (.builtin "set.update.loop" ⟨[.ref S,.ref I],[]⟩) R s
 | 0,i,s,o,ks,hm,hi,st,ho,Z,D,hR=>by
  have e:i=n:=by omega
  subst e
  refine CU X3 ?_
  rw [D1 TF _]
  show wpAny _ A.in1 (pyNext (.ref I) >>= _) _ _ s
  exact aM (W.done s _ _ st λs' mv=>cp (hR s' o ks (mv.mono λb hb=>jU _ hb) (mv.heap S _ (λh=>pJ (W.sub _ h)) ho) Z D))
 | m+1,i,s,o,ks,hm,hi,st,ho,Z,D,hR=>by
  have cU:i<n:=by omega
  refine CU X3 ?_
  rw [D1 TF _]
  show wpAny _ A.in1 (pyNext (.ref I) >>= _) _ _ s
  refine aM (W.item i s _ _ cU st λv s' hP aA mv=>?_)
  obtain ⟨hv,hs⟩:=Cs i v hP
  have nM:=mv.heap S _ (λh=>pJ (W.sub _ h)) ho
  show wpAny _ A.in1 (holding [v] (setAdd S v) >>= _) _ _ s'
  refine aM (zj ?_)
  unfold setAdd
  refine zj (aM (knd.pyHash (k:=val i) hv ?_))
  have len:=D.len
  refine b9o (s:={ s' with toks:=s'.toks+1 }) nM Z hv hs (by omega) λb h' o' ks' sb o2 Z' pm=>?_
  refine cp ⟨CZ TF _,Z0 W S pJ val Cs hb m (i+1) _ o' ks' (by omega) cU (W.frame _ s' _ _ aA (DU _) λb hb o e=>?_) o2 Z' (D.succ pm) λIE o'' QX mv'=>?_⟩
  .rw [sb.2 b (λh:b=S=>pJ (by rw [<-h];exact hb))];exact e
  .refine hR IE o'' QX (Moved.trans W.gtrans ((mv.mono λb hb=>jU _ hb).then_heap (DU _) λb o hb e=>?_) mv')
   rw [sb.2 b (λh:b=S=>hb (by rw [h];exact jL))];exact e
noncomputable def mO(w:World):Obj:={ cls:=.type "set",dict:=none,data:=.set #[] 0 (.fresh 0 0 (!vN w)) }
theorem b6j:Sa knd (mO w) []:=⟨⟨rfl,rfl,rfl⟩,#[],0,_,[],rfl,⟨rfl,λ_ z=>(nomatch z),by rfl,b3x _,by decide⟩,rfl⟩
theorem b4D(a:Value){Q₁:Value->Shared->Prop}(h:Q₁ (.ref s.heap.objs.size) { s with heap:=s.heap.push (mO w) }):
  codeAny (model prog w) A (.call (.builtin "set.__new__") ⟨[.type "set",a],[]⟩) (wants Q₁ E) s:=by
 refine codeAny_of_tree ?_
 show wpAny _ A.in1 (checkBuiltinCall "set.__new__" ⟨[.type "set",a],[]⟩ >>= λ_=>again (.builtin "set.__new__" ⟨[.type "set",a],[]⟩)) _ _ s
 refine aM (DT (F.newCall_set_1 a) (cp ⟨CZ F.plain_set_new _,CU F.entry_set_new ?_⟩))
 rw [D1 F.plain_set_new _]
 unfold Builtin.«set.__new__» Builtin.Frozenset.newClass
 have wW:=sub_set_self
 obtain ⟨hp,g,d,tk,os⟩:=s
 dsimp only
 wp_walk
 refine KZ (cp ?_)
 dsimp only
 simp only [newObj]
 exact aM (wpAny_alloc (cp (cp h)))
theorem kr{l:Addr}{items:Array Value}{Q:Value->Shared->Prop}(hh:A.handled=none)(hl:s.heap.IsList l items)(val:Nat->K)(Cs:∀(i:Nat) (v:Value),items[i]?=some v->knd.is (val i) v=true/\v.scannable=true)(hb:items.size+1<scanBound)
  (h:∀(h':Heap) (tk:Nat) o ks,(∀b o,b<s.heap.objs.size->s.heap.get? b=some o->h'.get? b=some o)->h'.get? s.heap.objs.size=some o->Sa knd o ks->Kd val items.size ks->Q (.ref s.heap.objs.size) { s with heap:=h',toks:=tk }):
  wpAny (model prog w) A (call (.type "set") [.ref l]) Q E s:=by
 obtain ⟨c,tl,hmro⟩:=DQ.mro
 have a1:=DQ.made
 have a2:=DQ.sub
 have a3:=DQ.notType
 have a4:=DQ.canCreate
 have a5:=F.typeCall_set_1 (.ref l)
 have hS:(s.heap.push (mO w)).get? s.heap.objs.size=some (mO w):=lO _ rfl
 have hT:({ s with heap:=s.heap.push (mO w) }:Shared).TypeIs (.ref s.heap.objs.size) "set":=⟨_,hS,rfl⟩
 refine Nf (codeAny_of_tree (show wpAny _ _ (callAny (.type "set") _) _ _ _ from cp ⟨Code.quiet_builtin _ (by decide +kernel),CU F.entry_type_call ?_⟩))
 rw [Around.under_plain (weight_type_call_type "set" [.ref l] []) rfl]
 repeat (any_goals (first | assumption | wp_step))
 refine DR (b4D (.ref l) (E:=E) (Q₁:=λobj bA=>obj=.ref s.heap.objs.size/\bA={ s with heap:=s.heap.push (mO w) }) ⟨rfl,rfl⟩) λr bA hr=>?_
 cases r with
 | error e=>exact hr
 | ok fl =>
  cases fl with
  | ret obj =>
   obtain ⟨rfl,rfl⟩:=hr
   have a6:=DQ.init.lookup
   have a7:=DQ.init.bind (.ref s.heap.objs.size)
   repeat (any_goals (first | assumption | wp_step))
   refine DR (codeAny_call_builtin (R:=wants (λr dM=>r=.none/\Q (.ref s.heap.objs.size) dM) E) DQ.init.plain F.entry_set_init (check_set_init_1 hT ?_)) λQz dM Af=>?_
   .obtain ⟨ol,hol,MV,nl,hdl⟩:=id hl
    have DF:(s.heap.push (mO w)).IsList l items:=hl.push _
    have hTl:({ s with heap:=s.heap.push (mO w) }:Shared).TypeIs (.ref l) "list":=DF.typeIs
    have Cu:l<s.heap.objs.size:=fI hol
    have n1:=F.sub_list_set
    have n2:=F.sub_list_frozenset
    have n3:(CT "list" == CT "dict")=false:=by decide
    unfold Builtin.«set.__init__» noKeywords Builtin.Frozenset.updateFrom
    generalize hPI:pyIter=PI
    wp_walk
    subst hPI
    refine Tp DF (aM (wpAny_runValue ?_))
    have iV:l≠(s.heap.push (mO w)).objs.size:=by rw [pP];exact iE (zl Cu)
    have pJ:s.heap.objs.size∉[(s.heap.push (mO w)).objs.size,l]:=by
     rw [pP];simp only [fB,rL,or_false,not_or]
     exact ⟨iE (qz _),KP Cu⟩
    refine Z0 (knd:=knd) ((Walks.list (by simp [hh]) _ l iV items).toS) s.heap.objs.size pJ val Cs hb (items.size-0) 0 _ (mO w) [] (by omega) (AE _) ⟨⟨_,lO _ rfl,rfl,rfl⟩,(DF.push _)⟩ (gg _ hS) b6j (Kd.nil val) λs' o' ks' hm nM Z D=>?_
    obtain ⟨h',g',d',zK,QI⟩:=s'
    have e1:g'=s.gens:=hm.gens
    have e2:d'=s.drawn:=hm.drawn
    have e3:QI=s.os:=hm.os
    subst e1;subst e2;subst e3
    show wpAny _ _ (pure _ >>= _) _ _ _
    refine cp (show wpAny _ _ (ret nQ) _ _ _ from cp ⟨rfl,h h' zK o' ks' (λb o hb e=>hm.heap b o ?_ (gg _ (gg _ e))) nM Z D⟩)
    simp only [fB,rL,or_false,not_or]
    exact ⟨iE hb,iE (by rw [pP];exact zl hb)⟩
   .cases Qz with
    | error e=>exact Af
    | ok Kl =>
     cases Kl with
     | ret r =>
      obtain ⟨rfl,hq⟩:=Af
      repeat (any_goals (first | assumption | wp_step))
     | _=>exact Af.elim
  | _=>exact hr.elim
end
end SE
namespace SE
open PySem PyProof.Rows PySem.Calls
section
variable {prog:Program}{w:World}{K:Type}[DecidableEq K]{knd:KeyKind prog w K}{A:Around}{E:Value->Shared->Prop}{s:Shared}
noncomputable def nx(w:World)(a:Addr)(es:Array (Int×Value))(ep:Nat)(t:SetTable)(slot given:Nat):Option (Value×Nat):=
 if vN w=true then ((pickOrder (w.params.setOrder a ep) es)[given]?).map λe=>(e.2,slot)
 else match es[AD t.place slot]?,t.place[AD t.place slot]? with
  | some (_,x),some j=>some (x,j+1)
  | _,_=>none
theorem Zr{a:Addr}{o:Obj}{es:Array (Int×Value)}{ep:Nat}{t:SetTable}{fm:List (K×Int×Value)}(ho:s.heap.get? a=some o)(hd:o.data=.set es ep t)(S:Sd knd es t fm)(tH:vN w=false->t.plain=true\/es.size<=1){slot given:Nat}
  {Q:Option (Value×Nat)->Shared->Prop}(h:Q (nx w a es ep t slot given) s):wpAny (model prog w) A (setNext a slot given ep) Q E s:=by
 unfold setNext
 refine aM (K1 ho hd S.fits ?_)
 dsimp only
 unfold setsByText
 refine aM (aM (KZ (cp ?_)))
 unfold nx at h
 by_cases hb:vN w=true
 .rw [if_pos hb] at h
  have GG:(model prog w).w.params.followText "set-order" = true:=hb
  dsimp only
  rw [if_pos GG]
  rw [if_neg (by simp)]
  refine aM ?_
  unfold setWalk setsByText
  refine aM (K1 ho hd S.fits ?_)
  dsimp only
  refine aM (aM (KZ (cp ?_)))
  dsimp only
  rw [if_pos GG]
  refine aM (KZ (cp (cp h)))
 .rw [if_neg hb] at h
  have GG:¬((model prog w).w.params.followText "set-order" = true):=hb
  dsimp only
  rw [if_neg GG]
  have hl:t.led=true:=S.tb.led.resolve_right hb
  refine K5 (λhz=>?_) (λ_=>?_)
  .exfalso
   have hz:(!t.plain&&decide (es.size>1))=true:=hz
   simp only [DV,Bool.not_eq_true',decide_eq_true_eq] at hz
   rcases tH (by simpa using hb) with q | q
   .rw [q] at hz;exact FF hz.1
   .omega
  .show wpAny _ _ ((if (!t.led&&!es.isEmpty)=true then unsupported "set:maker-not-led" else pure ()) >>= _) _ _ _
   rw [hl]
   simp only [Bool.not_true,Bool.false_and,DX,if_false]
   exact aM (cp (cp h))
noncomputable def AR(first:Value)(i:Nat)(a:Addr)(n ep:Nat):Obj:={ cls:=.type "set_iterator",data:=.fields #[first,rawInt i,.ref a,rawInt n,rawInt ep] }
theorem slot_next:Slot "set_iterator" "__next__" "set_iterator.__next__":=
 .of (owner:="set_iterator") (n:="__next__") (by rw [typeLookup_type,builtinLookup_eq_fast];kernel_rfl) (by decide +kernel) (by decide +kernel) (by decide +kernel)
  (by first | exact .inl (by decide +kernel) | exact .inr (by decide +kernel)) (by rw [isSubtype_type];kernel_rfl)
theorem Vw:entryFor table "set_iterator.__next__" = some Builtin.«set_iterator.__next__»:=entryFor_of_tree (by kernel_rfl)
theorem Y7:Manifest.owners.lookup (String.ofList ['r','o','t','a','r','e','t','i','_','t','e','s'].reverse)=some Manifest.sig_set_iterator:=by kernel_rfl
theorem U2(a:Value):argsOk "set_iterator.__next__" ⟨[a],[]⟩:=by
 unfold argsOk;rw [signature?_of (id:="set_iterator.__next__") (n:=['_','_','t','x','e','n','_','_']) (o:=['r','o','t','a','r','e','t','i','_','t','e','s']) (by kernel_rfl) Y7];kernel_rfl
theorem Yy{I a:Addr}{i slot:Nat}{o:Obj}{es:Array (Int×Value)}{ep:Nat}{t:SetTable}{fm:List (K×Int×Value)}{Q:Option Value->Shared->Prop}(hI:s.heap.get? I=some (AR (rawInt slot) i a es.size ep))(ho:s.heap.get? a=some o)(hd:o.data=.set es ep t)(S:Sd knd es t fm)(tH:vN w=false->t.plain=true\/es.size<=1)
  {x:Value}{j:Nat}(hx:nx w a es ep t slot i=some (x,j))(hQ:∀h',h'.get? I=some (AR (rawInt j) (i+1) a es.size ep)->AG I s.heap h'->Q (some x) { s with heap:=h' }):wpAny (model prog w) A (pyNext (.ref I)) Q E s:=by
 have hT:s.TypeIs (.ref I) "set_iterator":=⟨_,hI,rfl⟩
 unfold pyNext
 refine aM (M7 (NA (name:=M5 "__next__") hT slot_next (FH slot_next hT Vw ?_ (U2 _))))
 unfold Builtin.«set_iterator.__next__»
 refine aM (DT (a:=(fq I,[])) rfl ?_)
 dsimp only
 refine aM (Nq hI rfl ?_)
 show wpAny _ _ (setEntries a >>= _) _ _ _
 refine aM (KU ho hd S.fits ?_)
 rw [if_neg (by simp)]
 show wpAny _ _ (setNext a (slot:Int).toNat (i:Int).toNat (ep:Int).toNat >>= _) _ _ _
 simp only [G6]
 refine aM (Zr ho hd S tH ?_)
 rw [hx]
 dsimp only
 refine aM (G2 hI (by simp) λh1 e1 b1=>?_)
 refine aM (G2 e1 (by simp) λh2 e2 b2=>?_)
 exact cp ⟨x,rfl,cp (hQ _ (by rw [e2];rfl) (b1.trans b2))⟩
end
end SE
namespace SE
open PySem PyProof.Rows PySem.Calls
section
variable {prog:Program}{w:World}{K:Type}[DecidableEq K]{knd:KeyKind prog w K}{A:Around}{E:Value->Shared->Prop}{s:Shared}
theorem a8E{I:Addr}{Q:Option Value->Shared->Prop}(hT:s.TypeIs (.ref I) "set_iterator")(hm:wpAny (model prog w) A.in1 (Builtin.«set_iterator.__next__» ⟨[.ref I],[]⟩) (λ_ _=>False) (λe s'=>∃h',s'={ s with heap:=h' }/\M9 I s.heap h'/\s'.TypeIs e "StopIteration") s)
  (hQ:∀h',M9 I s.heap h'->Q none { s with heap:=h' }):wpAny (model prog w) A (pyNext (.ref I)) Q E s:=by
 unfold pyNext
 refine aM (M7 (NA (name:=M5 "__next__") hT slot_next (FH slot_next hT Vw (t5 hm (λ_ _ z=>z.elim) λe s' z=>?_) (U2 _))))
 obtain ⟨h',rfl,k,t⟩:=z
 exact aM (wpAny_isInstance (T:="StopIteration") (b:=true) t isSubtype_stop (cp (hQ _ k)))
theorem YQ{Q:PySem.Fin->Shared->Prop}(hh:A.handled=none)(h:∀e h',(∀b o,s.heap.get? b=some o->h'.get? b=some o)->({ s with heap:=h' }:Shared).TypeIs e "StopIteration" -> E e { s with heap:=h' }):
  wpAny (model prog w) A (newExc (.type "StopIteration") [] >>= λe=>raiseNew e) Q E s:=by
 refine aM ?_
 simp only [newExc,newTuple]
 refine aM (AK ?_ (by size_fits))
 refine aM (m:=firstArgMember _ _) (DT (a:=nQ) (by first | rfl | (simp only [firstArgMember];rfl)) (AK ?_ (by size_fits)))
 simp only [raiseNew]
 refine aM (wpAny_handled ?_)
 rw [hh]
 refine aM (cp (wpAny_throw ?_))
 refine h _ _ (λb o e=>gg _ (gg _ e)) ?_
 exact ⟨_,lO _ rfl,rfl⟩
theorem Y5{I a:Addr}{i slot:Nat}{o:Obj}{es:Array (Int×Value)}{ep:Nat}{t:SetTable}{fm:List (K×Int×Value)}{Q:Option Value->Shared->Prop}(hh:A.handled=none)(hI:s.heap.get? I=some (AR (rawInt slot) i a es.size ep))(ho:s.heap.get? a=some o)(hd:o.data=.set es ep t)(S:Sd knd es t fm)(tH:vN w=false->t.plain=true\/es.size<=1)
  (hx:nx w a es ep t slot i=none)(hQ:∀h',M9 I s.heap h'->Q none { s with heap:=h' }):wpAny (model prog w) A (pyNext (.ref I)) Q E s:=by
 refine a8E ⟨_,hI,rfl⟩ ?_ hQ
 unfold Builtin.«set_iterator.__next__»
 refine aM (DT (a:=(fq I,[])) rfl ?_)
 dsimp only
 refine aM (Nq hI rfl ?_)
 show wpAny _ _ (setEntries a >>= _) _ _ _
 refine aM (KU ho hd S.fits ?_)
 rw [if_neg (by simp)]
 show wpAny _ _ (setNext a (slot:Int).toNat (i:Int).toNat (ep:Int).toNat >>= _) _ _ _
 simp only [G6]
 refine aM (Zr ho hd S tH ?_)
 rw [hx]
 dsimp only
 refine aM (G2 hI (by simp) λh1 e1 b1=>?_)
 exact YQ (by simp [hh]) λe h' k t=>⟨h',rfl,λb o hb eo=>k b o (b1.extBut b o hb eo),t⟩
theorem Jk{I a tp:Addr}{i:Nat}{o ot:Obj}{es:Array (Int×Value)}{ep nt:Nat}{t:SetTable}{fm:List (K×Int×Value)}{ps:List Nat}{Q:Option Value->Shared->Prop}(hI:s.heap.get? I=some (AR (.ref tp) i a es.size ep))(ho:s.heap.get? a=some o)(hd:o.data=.set es ep t)(S:Sd knd es t fm)
  (ht:s.heap.get? tp=some ot)(GD:ot.data=.seq (ps.map λ(p:Nat)=>rawInt p).toArray nt){x:Value}{p:Nat}{hv:Int}(hp:ps[i]?=some p)(hx:es[p]?=some (hv,x))(hQ:∀h',h'.get? I=some (AR (.ref tp) (i+1) a es.size ep)->AG I s.heap h'->Q (some x) { s with heap:=h' }):wpAny (model prog w) A (pyNext (.ref I)) Q E s:=by
 have hT:s.TypeIs (.ref I) "set_iterator":=⟨_,hI,rfl⟩
 unfold pyNext
 refine aM (M7 (NA (name:=M5 "__next__") hT slot_next (FH slot_next hT Vw ?_ (U2 _))))
 unfold Builtin.«set_iterator.__next__»
 refine aM (DT (a:=(fq I,[])) rfl ?_)
 dsimp only
 refine aM (Nq hI rfl ?_)
 show wpAny _ _ (setEntries a >>= _) _ _ _
 refine aM (KU ho hd S.fits ?_)
 rw [if_neg (by simp)]
 show wpAny _ _ (seqItems? (.ref tp) >>= _) _ _ _
 refine aM (KH ht GD ?_)
 dsimp only
 have e1:((ps.map λ(p:Nat)=>rawInt p).toArray)[((i:Int)).toNat]?=some (rawInt p):=by rw [G6,S7,vL,hp];rfl
 rw [e1]
 show wpAny _ _ (setNextDrawn a (p:Int).toNat (ep:Int).toNat >>= _) _ _ _
 simp only [G6]
 unfold setNextDrawn
 refine aM (aM (K1 ho hd S.fits ?_))
 dsimp only
 rw [if_neg (by simp),hx]
 refine cp (aM (G2 hI (by simp) λh2 e2 b2=>?_))
 exact cp ⟨x,rfl,cp (hQ _ (by rw [e2];rfl) b2)⟩
theorem b8y{I a tp:Addr}{i:Nat}{o ot:Obj}{es:Array (Int×Value)}{ep nt:Nat}{t:SetTable}{fm:List (K×Int×Value)}{ps:List Nat}{Q:Option Value->Shared->Prop}(hh:A.handled=none)(hI:s.heap.get? I=some (AR (.ref tp) i a es.size ep))(ho:s.heap.get? a=some o)(hd:o.data=.set es ep t)(S:Sd knd es t fm)
  (ht:s.heap.get? tp=some ot)(GD:ot.data=.seq (ps.map λ(p:Nat)=>rawInt p).toArray nt)(hp:ps[i]?=none)(hQ:∀h',M9 I s.heap h'->Q none { s with heap:=h' }):wpAny (model prog w) A (pyNext (.ref I)) Q E s:=by
 refine a8E ⟨_,hI,rfl⟩ ?_ hQ
 unfold Builtin.«set_iterator.__next__»
 refine aM (DT (a:=(fq I,[])) rfl ?_)
 dsimp only
 refine aM (Nq hI rfl ?_)
 show wpAny _ _ (setEntries a >>= _) _ _ _
 refine aM (KU ho hd S.fits ?_)
 rw [if_neg (by simp)]
 show wpAny _ _ (seqItems? (.ref tp) >>= _) _ _ _
 refine aM (KH ht GD ?_)
 dsimp only
 have e1:((ps.map λ(p:Nat)=>rawInt p).toArray)[((i:Int)).toNat]?=none:=by rw [G6,S7,vL,hp];rfl
 rw [e1]
 refine aM (G2 hI (by simp) λh1 e1 b1=>?_)
 refine aM (G2 e1 (by simp) λh2 e2 b2=>?_)
 exact YQ (by simp [hh]) λe h' k t=>⟨h',rfl,λb o hb eo=>k b o ((b1.trans b2).extBut b o hb eo),t⟩
theorem ZJ:Slot "set_iterator" "__iter__" "set_iterator.__iter__":=
 .of (owner:="set_iterator") (n:="__iter__") (by rw [typeLookup_type,builtinLookup_eq_fast];kernel_rfl) (by decide +kernel) (by decide +kernel) (by decide +kernel)
  (by first | exact .inl (by decide +kernel) | exact .inr (by decide +kernel)) (by rw [isSubtype_type];kernel_rfl)
theorem b7c(a:Value):argsOk "set_iterator.__iter__" ⟨[a],[]⟩:=by
 unfold argsOk;rw [signature?_of (id:="set_iterator.__iter__") (n:=['_','_','r','e','t','i','_','_']) (o:=['r','o','t','a','r','e','t','i','_','t','e','s']) (by kernel_rfl) Y7];kernel_rfl
theorem b4t:entryFor table "set_iterator.__iter__" = some Builtin.«dict_keyiterator.__iter__»:=
 entryFor_alias (id':="dict_keyiterator.__iter__") (by kernel_rfl) (by first | rfl | decide +kernel | (unfold String.splitOn;simp +decide [XT])) (by decide +kernel) (by kernel_rfl)
theorem b4s:entryFor table "set.__iter__" = some Builtin.«frozenset.__iter__»:=
 entryFor_alias (id':="frozenset.__iter__") (by kernel_rfl) (by first | rfl | decide +kernel | (unfold String.splitOn;simp +decide [XT])) (by decide +kernel) (by kernel_rfl)
theorem UC{I:Addr}{Q:Value->Shared->Prop}(hT:s.TypeIs (.ref I) "set_iterator")(h:Q (.ref I) s):wpAny (model prog w) A (pyIter (.ref I)) Q E s:=by
 refine wpAny_pyIter_slot hT ZJ (FH ZJ hT b4t ?_ (b7c _))
 show wpAny _ _ (ret (.ref I)) _ _ s
 exact cp ⟨_,rfl,"set_iterator",_,hT,slot_next.lookup,h⟩
end
end SE
namespace SE
open PySem PyProof.Rows PySem.Calls
theorem Vv{α:Type}:∀{l:List α} {i:Nat} (h:i<l.length),(l[i]::l.eraseIdx i).Perm l
 | _::_,0,_=>C1 _
 | x::l,i+1,h=>by
  have h':i<l.length:=Nat.lt_of_succ_lt_succ h
  show (l[i]::x::l.eraseIdx i).Perm (x::l)
  exact (XG x _ _).trans ((Vv h').cons x)
theorem a8M{α:Type}(next:Nat->Nat):∀(n k:Nat) (left:List α) (out:Array α),n=left.length->(pickOrder.go next n k left out).toList.Perm (out.toList++left)
 | 0,k,left,out,e=>by
  rw [Lb.mp e.symm,vK]
  exact C1 _
 | n+1,k,left,out,e=>by
  unfold pickOrder.go
  have hp:0<left.length:=by omega
  have hi:next k%left.length<left.length:=Nat.mod_lt _ hp
  rw [mz hi]
  dsimp only
  refine (a8M next n (k+1) _ _ (by rw [Yo hi];omega)).trans ?_
  rw [GP,mx]
  refine Nv _ ?_
  exact Vv hi
section
variable {prog:Program}{w:World}{K:Type}[DecidableEq K]{knd:KeyKind prog w K}{A:Around}{E:Value->Shared->Prop}{s:Shared}
theorem b5u{src:Source}{n:Nat}{Q:Nat->Shared->Prop}(hn:n≠0)(h:∀i d',i<n->Q i { s with drawn:=d' }):wpAny (model prog w) A (choose src n) Q E s:=λΓ p hΓ=>by
 unfold choose
 rw [Sem.wp_choose]
 exact ⟨hn,h _ _ (Nat.mod_lt _ (Te hn))⟩
theorem ZO{α:Type}:∀(n:Nat) (xs:List α) (s:Shared) (Q:List α->Shared->Prop),n=xs.length->(∀ys d',ys.Perm xs->Q ys { s with drawn:=d' })->wpAny (model prog w) A (drawOrder n xs) Q E s
 | 0,xs,s,Q,e,h=>by
  unfold drawOrder
  rw [Lb.mp e.symm] at h
  exact cp (h [] s.drawn (C1 _))
 | n+1,[],s,Q,e,h=>by simp at e
 | n+1,x::xs,s,Q,e,h=>by
  unfold drawOrder
  refine aM (b5u (by simp) λi d' hi=>?_)
  rw [mz hi]
  dsimp only
  refine aM (ZO n _ _ _ (by rw [Yo hi,<-e];rfl) λys d'' p=>cp ?_)
  exact h _ d'' ((p.cons _).trans (Vv hi))
def Pv(us:List (K×Int×Value))(i:Nat)(v:Value):Prop:=(us[i]?).map (·.2.2)=some v
theorem NS{es:Array (Int×Value)}{us:List (K×Int×Value)}(e:es.toList=us.map (·.2))(i:Nat):es[i]?=(us[i]?).map (·.2):=by
 rw [<-BJ,e,vL]
theorem HZ{I a:Addr}{o:Obj}{es:Array (Int×Value)}{ep:Nat}{t:SetTable}{fm:List (K×Int×Value)}(hh:A.handled=none)(iV:a≠I)(hd:o.data=.set es ep t)(S:Sd knd es t fm)(hb:vN w=false)(tH:t.plain=true\/es.size<=1):
  Walks prog w A I [I,a] [I] fm.length (Pv fm) (λi h=>h.get? I=some (AR (rawInt ((if i=0 then 0 else t.place.getD (i-1) 0+1:Nat))) i a es.size ep)/\h.get? a=some o):=by
 have hz:t.place.size=es.size:=by
  have:=S.fits
  simp only [SetTable.fits,DV,beq_iff_eq] at this
  exact this.1
 have hr:ml t.place.toList:=by
  rcases tH with q | q
  .exact S.tb.rise q
  .unfold ml
   have:t.place.toList.length<=1:=by rw [kx,hz];exact q
   generalize t.place.toList=l at this
   cases l with
   | nil=>exact DW
   | cons x l=>cases l with
    | nil=>exact La _ _
    | cons y l=>simp at this
 have key:∀i,i<=es.size->AD t.place (if i=0 then 0 else t.place.getD (i-1) 0+1)=i:=λi hi=>by
  have B:=Z7 hr (if i=0 then 0 else t.place.getD (i-1) 0+1)
  generalize AD t.place (if i=0 then 0 else t.place.getD (i-1) 0+1)=r at B
  have le:=B.le
  by_cases Xj:i=0
  .subst Xj
   rw [if_pos rfl] at B
   rcases Tf r with q | q
   .exact q
   .exact absurd (B.lo 0 q) (K6 _)
  .rw [if_neg Xj] at B
   have gd:∀k d d',k<es.size->t.place.getD k d=t.place.getD k d':=λk d d' hk=>by simp [GK,hz,hk]
   rcases Nat.lt_trichotomy r i with q | q | q
   .have:=B.hi r (cT _) (by omega)
    exfalso
    rw [gd r _ 0 (by omega)] at this
    rcases Nb r (i-1) with z | z
    .have:=hr.lt (d:=0) z (by omega);omega
    .rw [show r=i-1 by omega] at this;omega
   .exact q
   .have:=B.lo i q
    rw [gd i _ 0 (by omega)] at this
    have:=hr.lt (d:=0) (show i-1<i by omega) (by omega)
    omega
 have len:=S.len
 have nxt:∀i,i<es.size->nx w a es ep t (if i=0 then 0 else t.place.getD (i-1) 0+1) i=(fm[i]?).map λq=>(q.2.2,t.place.getD i 0+1):=λi hi=>by
  unfold nx
  rw [if_neg (by simp [hb]),key i (DS hi),NS S.CI,mz (by omega),G7 (by omega)]
  simp [GK,hz,hi]
 exact {
  sub:=λb hb=>by simp at hb;simp [hb]
  frame:=λi h h' st k=>⟨k I (by simp) _ st.1,k a (by simp) _ st.2⟩
  item:=λi s Q E hi st hQ=>by
   have vg:i<es.size:=by omega
   have e:=nxt i vg
   rw [mz hi] at e
   refine Yy st.1 st.2 hd S (λ_=>tH) e λh' g sb=>hQ _ h' s.toks (by unfold Pv;rw [mz hi];rfl) ⟨?_,(sb.2 a iV).trans st.2⟩ λb o hb eo=>sb.extBut b o (λh=>hb (by simp [h])) eo
   rw [g,if_neg (Nat.succ_ne_zero i)];rfl
  done:=λs Q E st hQ=>by
   refine Y5 hh st.1 st.2 hd S (λ_=>tH) ?_ λh' g=>hQ h' s.toks λb o hb eo=>g b o (λh=>hb (by simp [h])) eo
   unfold nx
   rw [if_neg (by simp [hb]),<-len,key es.size (cT _),Array.getElem?_eq_none (cT _)]
  self:=λi s Q E st hQ=>UC ⟨_,st.1,rfl⟩ hQ }
theorem HY{I a:Addr}{o:Obj}{es:Array (Int×Value)}{ep:Nat}{t:SetTable}{fm us:List (K×Int×Value)}(hh:A.handled=none)(iV:a≠I)(hd:o.data=.set es ep t)(S:Sd knd es t fm)(hb:vN w=true)(hu:(pickOrder (w.params.setOrder a ep) es).toList=us.map (·.2)):
  Walks prog w A I [I,a] [I] us.length (Pv us) (λi h=>h.get? I=some (AR (rawInt (0:Nat)) i a es.size ep)/\h.get? a=some o) where
 sub:=λb hb=>by simp at hb;simp [hb]
 frame:=λi h h' st k=>⟨k I (by simp) _ st.1,k a (by simp) _ st.2⟩
 item:=λi s Q E hi st hQ=>by
  refine Yy st.1 st.2 hd S (λz=>by rw [hb] at z;exact FF z) (x:=(us[i]).2.2) (j:=0) ?_ λh' g sb=>hQ _ h' s.toks (by unfold Pv;rw [mz hi];rfl) ⟨g,(sb.2 a iV).trans st.2⟩ λb o hb eo=>sb.extBut b o (λh=>hb (by simp [h])) eo
  unfold nx
  rw [if_pos hb,NS hu,mz hi];rfl
 done:=λs Q E st hQ=>by
  refine Y5 hh st.1 st.2 hd S (λz=>by rw [hb] at z;exact FF z) ?_ λh' g=>hQ h' s.toks λb o hb eo=>g b o (λh=>hb (by simp [h])) eo
  unfold nx
  rw [if_pos hb,NS hu,K9 (cT _)];rfl
 self:=λi s Q E st hQ=>UC ⟨_,st.1,rfl⟩ hQ
theorem zF{I a tp:Addr}{o ot:Obj}{es:Array (Int×Value)}{ep nt:Nat}{t:SetTable}{fm:List (K×Int×Value)}{ps:List Nat}(hh:A.handled=none)(iV:a≠I)(hnt:tp≠I)(hd:o.data=.set es ep t)(S:Sd knd es t fm)(GD:ot.data=.seq (ps.map λ(p:Nat)=>rawInt p).toArray nt)(hp:∀p∈ps,p<es.size):
  Walks prog w A I [I,a,tp] [I] ps.length (λi v=>((ps[i]?).bind λp=>es[p]?).map (·.2)=some v) (λi h=>h.get? I=some (AR (.ref tp) i a es.size ep)/\h.get? a=some o/\h.get? tp=some ot) where
 sub:=λb hb=>by simp at hb;simp [hb]
 frame:=λi h h' st k=>⟨k I (by simp) _ st.1,k a (by simp) _ st.2.1,k tp (by simp) _ st.2.2⟩
 item:=λi s Q E hi st hQ=>by
  have h1:=hp _ (AJ hi)
  refine Jk st.1 st.2.1 hd S st.2.2 GD (mz hi) (G7 h1) λh' g sb=>hQ _ h' s.toks ?_ ⟨g,(sb.2 a iV).trans st.2.1,(sb.2 tp hnt).trans st.2.2⟩ λb o hb eo=>sb.extBut b o (λh=>hb (by simp [h])) eo
  rw [mz hi,AI,G7 h1];rfl
 done:=λs Q E st hQ=>b8y hh st.1 st.2.1 hd S st.2.2 GD (K9 (cT _)) λh' g=>hQ h' s.toks λb o hb eo=>g b o (λh=>hb (by simp [h])) eo
 self:=λi s Q E st hQ=>UC ⟨_,st.1,rfl⟩ hQ
end
end SE
namespace SE
open PySem PyProof.Rows PySem.Calls
theorem YD{α β:Type}{f:α->Option β}:∀(l:List α),(∀x∈l,(f x).isSome=true)->∀i:Nat,(l.filterMap f)[i]?=(l[i]?).bind f
 | [],_,i=>rfl
 | x::l,h,i=>by
  obtain ⟨y,e⟩:=Tz.mp (h x jL)
  rw [Yv e]
  cases i with
  | zero=>simp [e]
  | succ i=>simpa using YD l (λx hx=>h x (jU _ hx)) i
theorem YY{α β:Type}{f:α->Option β}:∀(l:List α),(∀x∈l,(f x).isSome=true)->(l.filterMap f).length=l.length
 | [],_=>rfl
 | x::l,h=>by
  obtain ⟨y,e⟩:=Tz.mp (h x jL)
  rw [Yv e,jK,jK,YY l λx hx=>h x (jU _ hx)]
section
variable {prog:Program}{w:World}{K:Type}[DecidableEq K]{knd:KeyKind prog w K}{A A2:Around}{E:Value->Shared->Prop}{s:Shared}
theorem b39{a:Addr}{o:Obj}{es:Array (Int×Value)}{ep:Nat}{t:SetTable}{fm:List (K×Int×Value)}{Q:Value->Shared->Prop}(hh:A2.handled=none)(ho:s.heap.get? a=some o)(hex:o.ExactSet)(hd:o.data=.set es ep t)(S:Sd knd es t fm)
  (h:∀(h':Heap) d' (I:Addr) (fp:List Addr) St us,s.heap.objs.size<=I->(∀b o,s.heap.get? b=some o->h'.get? b=some o)->us.Perm fm->Walks prog w A2 I fp [I] us.length (Pv us) St->St 0 h'->(∀b∈fp,b=a\/s.heap.objs.size<=b)->(∀b,b=I\/b∈fp->b<h'.objs.size)->Q (.ref I) { s with heap:=h',drawn:=d' }):
  wpAny (model prog w) A (pyIter (.ref a)) Q E s:=by
 have hT:s.TypeIs (.ref a) "set":=⟨o,ho,hex.1⟩
 have ha:a<s.heap.objs.size:=fI ho
 refine wpAny_pyIter_slot hT F.slot_set_iter (FH F.slot_set_iter hT b4s ?_ (F.args_set_iter_1 _))
 unfold Builtin.«frozenset.__iter__»
 refine aM (m:=Builtin.Frozenset.slot0 "__iter__" _) (DT (a:=a) rfl ?_)
 refine aM ?_
 unfold Builtin.Frozenset.sizeOf
 refine aM (KU ho hd S.fits (cp ?_))
 refine aM ?_
 unfold setDrawn setsByText
 refine aM (K1 ho hd S.fits ?_)
 dsimp only
 refine aM (aM (KZ (cp (cp ?_))))
 have n5:∀(c:Bool),c=false->(∀us St,us.Perm fm->Walks prog w A2 s.heap.objs.size [s.heap.objs.size,a] [s.heap.objs.size] us.length (Pv us) St->St 0 (s.heap.push (AR (rawInt (0:Nat)) 0 a es.size ep))->Q (.ref s.heap.objs.size) { s with heap:=s.heap.push (AR (rawInt (0:Nat)) 0 a es.size ep) }):=λc _ us St pu W st =>
  h _ s.drawn _ _ St us (cT _) (λb o e=>gg _ e) pu W st (λb hb=>by
   simp only [fB,rL,or_false] at hb
   rcases hb with q | q
   .exact .inr (by rw [q];exact cT _)
   .exact .inl q) λb hb=>by
    rw [pP]
    simp only [fB,rL,or_false] at hb
    rcases hb with q | q | q
    .rw [q];exact qz _
    .rw [q];exact qz _
    .rw [q];exact zl ha
 refine K5 (λhz=>?_) (λhz=>?_)
 .have hz:(!(vN w)&&(!t.plain&&decide (es.size>1)))=true:=hz
  simp only [DV,Bool.not_eq_true',decide_eq_true_eq] at hz
  refine aM (ZO _ _ _ _ (by simp) λps d' pp=>?_)
  have cU:∀p∈ps,p<es.size:=λp hp=>KJ.mp (pp.mem_iff.mp hp)
  have hsz:(ps.map λ(p:Nat)=>rawInt p).length<=sizeLine:=by
   rw [eD,pp.length_eq,List.length_range]
   exact GN S.lt
  refine aM (wpAny_newTuple ?_ hsz)
  have len:=S.len
  refine aM (m:=setEpoch a) (wpAny_setEpoch_of (gg _ ho) hd S.fits ?_)
  refine aM (AK (cp ⟨_,rfl,"set_iterator",_,⟨_,lO _ rfl,rfl⟩,slot_next.lookup,?_⟩) (by size_fits))
  have WI:∀p∈ps,(fm[p]?).isSome=true:=λp hp=>by
   rw [mz (by have:=cU p hp;omega)];rfl
  have W:=zF (prog:=prog) (w:=w) (A:=A2) (I:=(s.heap.push { cls:=.type "tuple",data:=.seq (ps.map λ(p:Nat)=>rawInt p).toArray }).objs.size) (tp:=s.heap.objs.size) (ot:={ cls:=.type "tuple",data:=.seq (ps.map λ(p:Nat)=>rawInt p).toArray }) (nt:=0) (ps:=ps) hh (by rw [pP];exact iE (zl ha)) (by rw [pP];exact iE (qz _)) hd S rfl cU
  have eP:(λ(i:Nat) (v:Value)=>((ps[i]?).bind λp=>es[p]?).map (·.2)=some v)=Pv (ps.filterMap λp=>fm[p]?):=by
   funext i v
   unfold Pv
   rw [YD ps WI i]
   cases ps[i]? with
   | none=>rfl
   | some p=>rw [AI,AI,NS S.CI,Option.map_map];rfl
  rw [eP,<-YY ps WI] at W
  refine h _ d' _ _ _ (ps.filterMap λp=>fm[p]?) (by rw [pP];exact DU _) (λb o e=>gg _ (gg _ e)) ?_ W ⟨lO _ rfl,gg _ (gg _ ho),gg _ (lO _ rfl)⟩ (λb hb=>?_) λb hb=>?_
  .have:=pp.filterMap λp=>fm[p]?
   rw [len,List.filterMap_getElem?_range_length] at this
   exact this
  .simp only [fB,rL,or_false,pP] at hb
   rcases hb with q | q | q
   .exact .inr (by rw [q];exact DU _)
   .exact .inl q
   .exact .inr (by rw [q];exact cT _)
  .rw [pP,pP]
   simp only [fB,rL,or_false,pP] at hb
   rcases hb with q | q | q | q
   .rw [q];exact qz _
   .rw [q];exact qz _
   .rw [q];exact zl (zl ha)
   .rw [q];exact zl (qz _)
 .have hz:¬((!(vN w)&&(!t.plain&&decide (es.size>1)))=true):=hz
  rw [Nl] at hz
  refine aM (cp ?_)
  refine aM (m:=setEpoch a) (wpAny_setEpoch_of ho hd S.fits ?_)
  refine aM (AK (cp ⟨_,rfl,"set_iterator",_,⟨_,lO _ rfl,rfl⟩,slot_next.lookup,?_⟩) (by size_fits))
  by_cases hb:vN w=true
  .obtain ⟨us,pu,eu⟩:=OP (f:=λq:K×Int×Value=>q.2) (a8M (w.params.setOrder a ep) es.size 0 es.toList #[] (kx).symm) fm (by simpa using S.CI)
   exact n5 _ hz us _ pu (HY hh (iE ha) hd S hb eu) ⟨lO _ rfl,gg _ ho⟩
  .refine n5 _ hz fm _ (C1 _) (HZ hh (iE ha) hd S (by simpa using hb) ?_) ⟨lO _ rfl,gg _ ho⟩
   have GG:vN w=false:=by simpa using hb
   rw [GG] at hz
   simp only [Bool.not_false,Bool.true_and,Bool.and_eq_false_iff,Bool.not_eq_false',decide_eq_false_iff_not] at hz
   exact hz.imp id λq=>by omega
end
end SE
namespace SE
open PySem PyProof.Rows PySem.Calls PySem.W
section
variable {prog:Program}{w:World}{K:Type}[DecidableEq K]{knd:KeyKind prog w K}{A:Around}{E:Value->Shared->Prop}{s:Shared}
theorem b4h{r:Addr}{Q:Bool->Shared->Prop}(hT:s.TypeIs (.ref r) "set")(h:Q false s):wpAny (model prog w) A (Yt (.ref r)) Q E s:=by
 unfold Yt
 refine aM (wpAny_specialOf hT F.slot_set_len.lookup ?_)
 generalize Xi:("set.__len__":String)=id0
 wp_delta
 rw [show splitId id0=some ("set","__len__") from by subst Xi;decide +kernel]
 subst Xi
 refine aM (wpAny_isInstance (T:="set") (b:=true) hT sub_set_self ?_)
 refine K5 (λz=>absurd z (by decide)) (λ_=>K5 (λ_=>?_) (λz=>absurd (by decide +kernel) z))
 exact aM (wpAny_typeOf hT (cp h))
theorem b4a{us:List (K×Int×Value)}{acc:Array Value}(h:ItemsOf (Pv us) acc us.length):acc.toList=us.map (·.2.2):=by
 refine To λi=>?_
 rw [vL]
 rcases Nb i us.length with q | q
 .have hs:i<acc.size:=by rw [h.1];exact q
  have:=h.2 i acc[i] (G7 hs)
  unfold Pv at this
  rw [this,BJ,G7 hs]
 .rw [K9 q,K9 (by rw [kx,h.1];exact q)];rfl
theorem b0c{a:Addr}{o:Obj}{ks:List K}{R:List Value->Shared->Prop}(hh:A.handled=none)(ho:s.heap.get? a=some o)(Z:Sa knd o ks)
  (h:∀(h':Heap) d' tk (us:List (K×Int×Value)),(∀b o,s.heap.get? b=some o->h'.get? b=some o)->s.heap.objs.size<=h'.objs.size->(us.map (·.1)).Perm ks->(∀q∈us,knd.is q.1 q.2.2=true)->us.length<scanBound->R (us.map (·.2.2)) { s with heap:=h',drawn:=d',toks:=tk }):
  wpAny (model prog w) A (collect (.ref a)) R E s:=by
 obtain ⟨hex,es,ep,t,fm,hd,S,rfl⟩:=Z
 have ha:a<s.heap.objs.size:=fI ho
 unfold collect
 refine aM (wpAny_runValue (CU entry_proto_collect' ?_))
 rw [D1 F.plain_proto_collect _]
 show wpAny _ A.in1 (newList [] >>= λl=>again (.builtin "list.__iadd__" ⟨[l,.ref a],[]⟩)) _ _ s
 refine aM (AK (cp ⟨CZ F.plain_list_iadd _,CU entry_list_iadd' ?_⟩))
 rw [D1 F.plain_list_iadd _]
 show wpAny _ A.in1 (Yr (.ref s.heap.objs.size) (.ref a) (.ref s.heap.objs.size)) _ _ _
 generalize hg:s.heap.push { cls:=.type "list",data:=.seq ([]:List Value).toArray }=g
 have gs:g.objs.size=s.heap.objs.size+1:=by rw [<-hg];exact pP ..
 have gl:g.get? s.heap.objs.size=some { cls:=.type "list",data:=.seq #[] }:=by rw [<-hg];exact lO _ rfl
 have up:∀b o,s.heap.get? b=some o->g.get? b=some o:=λb o e=>by rw [<-hg];exact gg _ e
 have ga:=up a o ho
 have hT:({ s with heap:=g }:Shared).TypeIs (.ref a) "set":=⟨o,ga,hex.1⟩
 unfold Yr
 refine aM (wpAny_typeOf hT ?_)
 have h1:X5 (.ref s.heap.objs.size) (.ref a)=false:=by simp [X5,KP ha]
 have h2:(CT "set" == CT "list")=false:=by decide
 have h3:(CT "set" == CT "tuple")=false:=by decide
 simp only [h1,h2,h3,Bool.or_false,DX,if_false]
 refine aM (b39 (A2:=A.in1) (s:={ s with heap:=g }) (by simp [hh]) ga hex hd S λh' d' I fp St us hI k pu W st hf JU=>?_)
 have pJ:s.heap.objs.size∉fp:=λz=>by
  rcases hf _ z with q | q
  .exact absurd q (KP ha)
  .simp only [gs] at q;omega
 have hSI:s.heap.objs.size≠I:=by simp only [gs] at hI;omega
 have end_:∀(h1:Heap) (c1 tk:Nat),St 0 h1->(∀b o,b≠s.heap.objs.size->s.heap.get? b=some o->h1.get? b=some o)->h1.get? s.heap.objs.size=some { cls:=.type "list",data:=.seq #[] c1 } ->
   codeAny (model prog w) A (.builtin "list.extend.loop" ⟨[.ref s.heap.objs.size,.ref I,.ref s.heap.objs.size],[]⟩) (λr s'=>∃(h':Heap) (zK:Nat) (acc:Array Value) (c':Nat),r=.ok (.ret (.ref s.heap.objs.size))/\s'={ s with heap:=h',drawn:=d',toks:=zK }/\(∀b o,s.heap.get? b=some o->h'.get? b=some o)/\h'.get? s.heap.objs.size=some { cls:=.type "list",dict:=none,data:=.seq acc c',slots:=#[] }/\acc.toList=us.map (·.2.2)) { s with heap:=h1,drawn:=d',toks:=tk }:=λh1 c1 tk Qs k1 g1=>by
  refine codeAny_extend_loopS W.toS ?_ _ pJ _ us.length 0 _ #[] c1 rfl (AE _) Qs g1 (ItemsOf.nil _) λs' acc c' mv g' it=>?_
  .rw [pu.length_eq,<-S.len];exact GN S.lt
  .have e:=Moved.eq_with mv
   refine ⟨s'.heap,s'.toks,acc,c',rfl,e,λb o eo=>mv.heap b o (λz=>?_) (k1 b o (iE (fI eo)) eo),g',b4a it⟩
   have hb:=fI eo
   simp only [fB,rL,or_false] at z
   simp only [gs] at hI
   rcases z with z | z
   .exact iE hb z
   .exact iE (o3 hb (CV hI)) z
 refine aM (zj (b4h ⟨o,k a o ga,hex.1⟩ ?_))
 have g1:=k _ _ gl
 have fin:∀(dM:Shared) (h':Heap) (zK:Nat) (acc:Array Value) (c':Nat) (f:Array Value->Sem (List Value)),(∀xs,f xs=pure xs.toList)->dM={ s with heap:=h',drawn:=d',toks:=zK }->(∀b o,s.heap.get? b=some o->h'.get? b=some o)->s.heap.objs.size<h'.objs.size->acc.toList=us.map (·.2.2)->wpAny (model prog w) A (f acc) R E dM:=λdM h' zK acc c' f hf e2 e3 e6 e5=>by
  subst e2
  rw [hf,e5]
  exact cp (h h' d' zK us e3 (DS e6) (pu.map _) (λq hq=>(S.el q (pu.mem_iff.mp hq)).1) (by rw [pu.length_eq,<-S.len];exact S.lt))
 refine K5 (λ_=>?_) (λ_=>?_)
 rotate_left
 .refine cp ⟨CZ F.plain_extend_loop _,DR (end_ _ 0 s.toks st (λb o hb e=>k b o (up b o e)) g1) λq dM ⟨h',zK,acc,c',e1,e2,e3,e4,e5⟩=>?_⟩
  subst e1;subst e2
  show wpAny _ A (load s.heap.objs.size >>= _) _ _ _
  exact aM (wpAny_load e4 (fin _ h' zK acc c' (λxs=>pure xs.toList) (λ_=>rfl) rfl e3 (fI e4) e5))
 refine aM (KD (aM ?_))
 show wpAny _ _ (updateSeq s.heap.objs.size (·.push .none) >>= λ_=>updateSeq s.heap.objs.size (·.pop)) _ _ _
 refine aM (K8 g1 rfl ?_)
 have g2:=GW (t4 (·.push nQ)) g1 rfl
 refine K8 (hz:=by seq_fits) g2 rfl ?_
 have g3:=GW (t4 (·.pop)) g2 rfl
 have WQ:∀b o,b≠s.heap.objs.size->h'.get? b=some o->((h'.update s.heap.objs.size (t4 (·.push nQ))).update s.heap.objs.size (t4 (·.pop))).get? b=some o:=λb o hb e =>
  (BK _ _ (oX hb)).trans ((BK _ _ (oX hb)).trans e)
 refine cp ⟨CZ F.plain_extend_loop _,DR (end_ _ _ s.toks (W.frame 0 _ _ st λb hb o e=>WQ b o (λz=>pJ (z▸hb)) e) (λb o hb e=>WQ b o hb (k b o (up b o e))) g3) λq dM ⟨h',zK,acc,c',e1,e2,e3,e4,e5⟩=>?_⟩
 subst e1;subst e2
 show wpAny _ A (load s.heap.objs.size >>= _) _ _ _
 exact aM (wpAny_load e4 (fin _ h' zK acc c' (λxs=>pure xs.toList) (λ_=>rfl) rfl e3 (fI e4) e5))
end
end SE
namespace SE
open PySem PyProof.Rows PySem.Calls
theorem YS{α:Type}{p q:α->Bool}:∀(l:List α),(∀x∈l,p x=true->q x=true)->(∃x∈l,q x=true/\p x=false)->l.countP p<l.countP q
 | [],_,⟨_,z,_⟩=>nomatch z
 | a::l,h,⟨x,hx,h1,h2⟩=>by
  have mono:l.countP p<=l.countP q:=List.countP_mono_left λy hy=>h y (jU _ hy)
  rcases fB.mp hx with e | hx
  .subst e
   rw [Ny h1,TC (by rw [h2];exact vM)]
   exact Nat.lt_succ_of_le mono
  .have ih:=YS l (λy hy=>h y (jU _ hy)) ⟨x,hx,h1,h2⟩
   by_cases ha:p a=true
   .rw [Ny ha,Ny (h a jL ha)]
    exact Nat.succ_lt_succ ih
   .rw [TC ha]
    by_cases hb:q a=true
    .rw [Ny hb];exact zl ih
    .rw [TC hb];exact ih
structure Ol{K:Type}(lt:K->K->Bool):Prop where
 Gw:∀a,lt a a=false
 tr:∀{a b c},lt a b=true->lt b c=true->lt a c=true
 Ia:∀{a b},a≠b->lt a b=true\/lt b a=true
section
variable {prog:Program}{w:World}{K:Type}[DecidableEq K]{knd:FD prog w K}{lt:K->K->Bool}{A:Around}{E:Value->Shared->Prop}{s:Shared}
structure Od(knd:FD prog w K)(lt:K->K->Bool):Prop where
 ol:Ol lt
 one:∀{a b:K} {u v:Value} {A:Around} {E:Value->Shared->Prop} {s:Shared} {Q:Bool->Shared->Prop},knd.is a u=true->knd.is b v=true->Q (lt a b) s->wpAny (model prog w) A (oneLt' true u v) Q E s
 kind:∀{us:List (K×Value)},(∀q∈us,knd.is q.1 q.2=true)->2<=us.length->keyKind' (us.map (·.2)).toArray=pure oneType'
noncomputable def rk(lt:K->K->Bool)(ks:List K)(k:K):Int:=(ks.countP λx=>lt x k:Nat)
theorem NW(O:Od knd lt){ks:List K}{a b:K}(ha:a∈ks)(h:lt a b=true):rk lt ks a<rk lt ks b:=by
 unfold rk
 have:=YS (p:=λx=>lt x a) (q:=λx=>lt x b) ks (λx _ z=>O.ol.tr z h) ⟨a,ha,h,O.ol.Gw a⟩
 omega
theorem Zf(O:Od knd lt){ks:List K}{a b:K}(ha:a∈ks)(hb:b∈ks):rk lt ks a<rk lt ks b↔lt a b=true:=by
 refine ⟨λz=>?_,NW O ha⟩
 by_cases e:a=b
 .subst e;omega
 .rcases O.ol.Ia e with q | q
  .exact q
  .have:=NW O hb q;omega
noncomputable def ky(knd:FD prog w K)(lt:K->K->Bool)(ks:List K)(v:Value):Int:=match ks.find? λk=>knd.is k v with
 | some k=>rk lt ks k
 | none=>0
theorem TR{ks:List K}{k:K}{v:Value}(hk:k∈ks)(h:knd.is k v=true):ky knd lt ks v=rk lt ks k:=by
 unfold ky
 cases hf:ks.find? λk=>knd.is k v with
 | none=>exact absurd h (by simpa using List.find?_eq_none.mp hf k hk)
 | some k'=>rw [knd.inj v k' k (List.find?_some (p:=λk=>knd.is k v) hf) h]
theorem b5L(O:Od knd lt){ks:List K}{us:List (K×Value)}(Rk:ks.Nodup)(hu:(us.map (·.1)).Perm ks)(hi:∀q∈us,knd.is q.1 q.2=true)(S:Shared)(h2:2<=us.length):
  (∀{A:Around} {E:Value->Shared->Prop} {Q:SortKind->Shared->Prop},Q oneType' S->wpAny (model prog w) A (keyKind' (us.map (·.2)).toArray) Q E S) /\
  ∀{A:Around} {E:Value->Shared->Prop},wpS (model prog w) A E S sortRuns' (λ_ aA=>((((arrOf aA).map (·.2)).toList.Perm (us.map (·.2)))/\((arrOf aA).map (·.2)).toList.Pairwise λx y=>ky knd lt ks x<ky knd lt ks y)/\failedOf aA=none) (KC oneType' (pairsOf (us.map (·.2))) #[] 7 none):=by
 have mem:∀q∈us,q.1∈ks:=λq hq=>hu.mem_iff.mp (t6.mpr ⟨q,hq,rfl⟩)
 have kq:∀q∈us,ky knd lt ks q.2=rk lt ks q.1:=λq hq=>TR (mem q hq) (hi q hq)
 have pz:∀p∈(pairsOf (us.map (·.2))).toList,∃q∈us,p.1=q.2:=λp hp=>by
  rw [GQ] at hp
  obtain ⟨q,hq,e⟩:=t6.mp (Ng hp).1
  exact ⟨q,hq,e.symm⟩
 refine ⟨λ{A E Q} hQ=>by rw [O.kind hi h2];exact cp hQ,λ{A E}=>?_⟩
 have hz:(pairsOf (us.map (·.2))).size=us.length:=by rw [<-kx,GQ];simp
 refine SO.IG (kd:=oneType') (κ:=λp=>ky knd lt ks p.1) (C:=λp=>∃q∈us,p.1=q.2) (a₀:=pairsOf (us.map (·.2))) ⟨λ{x y} cx cy iV=>?_⟩ ⟨pz,?_⟩ ⟨XM _,rfl,rfl,rfl,AE _,trivial,λR hR=>nomatch hR⟩ (by rw [hz];exact h2) λaA p f i=>⟨TS.ER p λa b DK hb=>SO.k6 i DK (by rw [p.size_eq];exact hb),f⟩
 .intro A E Q hQ
  obtain ⟨q,hq,e⟩:=cx
  obtain ⟨r,hr,e'⟩:=cy
  rw [keyLt'_oneType]
  rw [e,e',kq q hq,kq r hr] at hQ
  rw [e,e']
  refine O.one (hi q hq) (hi r hr) ?_
  have:decide (rk lt ks q.1<rk lt ks r.1)=lt q.1 r.1:=by
   rw [Sw,decide_eq_true_eq];exact Zf O (mem q hq) (mem r hr)
  rwa [this] at hQ
 .have e:((pairsOf (us.map (·.2))).toList.map λp=>ky knd lt ks p.1)=us.map λq=>rk lt ks q.1:=by
   rw [GQ]
   have:((us.map (·.2)).zip (us.map (·.2))).map (λp=>ky knd lt ks p.1)=(us.map (·.2)).map (ky knd lt ks):=by
    show ((us.map (·.2)).zip (us.map (·.2))).map (ky knd lt ks∘λp:Value×Value=>p.1)=_
    rw [<-BI,List.map_fst_zip (cT _)]
   rw [this,BI]
   exact List.map_congr_left λq hq=>kq q hq
  show (((pairsOf (us.map (·.2))).toList.map λp=>ky knd lt ks p.1)).Nodup
  rw [e]
  have nd:(us.map (·.1)).Nodup:=hu.nodup_iff.mpr Rk
  have:us.map (λq=>rk lt ks q.1)=(us.map (·.1)).map (rk lt ks):=by rw [BI];rfl
  rw [this]
  refine List.Pairwise.map _ (λa b DK=>?_) (nd.imp_of_mem (S:=λa b=>a∈ks/\b∈ks/\a≠b) λ{a b} ha hb iV=>⟨hu.mem_iff.mp ha,hu.mem_iff.mp hb,iV⟩)
  intro e
  rcases O.ol.Ia DK.2.2 with q | q
  .have:=NW O DK.1 q;omega
  .have:=NW O DK.2.1 q;omega
theorem r9(O:Od knd lt){a:Addr}{o:Obj}{ks:List K}{Q:Value->Shared->Prop}(hh:A.handled=none)(ho:s.heap.get? a=some o)(Z:Sa knd o ks)(Ri:ks.Nodup)
  (h:∀(h':Heap) d' tk D e (us:List (K×Value)),(∀b o,s.heap.get? b=some o->h'.get? b=some o)->s.heap.objs.size<=D->h'.get? D=some (seqObj "list" (us.map (·.2)).toArray e)->(us.map (·.1)).Perm ks->(us.map (·.1)).Pairwise (λx y=>lt x y=true)->(∀q∈us,knd.is q.1 q.2=true)->us.length<scanBound->Q (.ref D) { s with heap:=h',drawn:=d',toks:=tk }):
  wpAny (model prog w) A (call (.builtin "sorted") [.ref a]) Q E s:=by
 refine Calls.call_function_entry kind_sorted plain_sorted entry_sorted (args_sorted1 _) ?_
 unfold Builtin.«sorted»
 refine aM (m:=checkCount "sorted" 1 1 _) (cp (aM (b0c (by simp [hh]) ho Z λh1 d' tk us k1 sz pu iu lu=>?_)))
 generalize hv:us.map (λq=>(q.1,q.2.2))=vs
 have e1:us.map (·.2.2)=vs.map (·.2):=by rw [<-hv,BI];rfl
 have e2:us.map (·.1)=vs.map (·.1):=by rw [<-hv,BI];rfl
 have iv:∀q∈vs,knd.is q.1 q.2=true:=λq hq=>by
  rw [<-hv] at hq
  obtain ⟨r,hr,rfl⟩:=t6.mp hq
  exact iu r hr
 have lv:vs.length<scanBound:=by rw [<-hv,eD];exact lu
 rw [e2] at pu
 rw [e1]
 have hZ:(vs.map (·.2)).length<=sizeLine:=by rw [eD];exact GN lv
 refine aM (wpAny_newList (hsz:=hZ) ?_)
 have z2:(h1.push (seqObj "list" (vs.map (·.2)).toArray 0)).get? h1.objs.size=some (seqObj "list" (vs.map (·.2)).toArray 0):=lO _ rfl
 have mem:∀q∈vs,q.1∈ks:=λq hq=>pu.mem_iff.mp (t6.mpr ⟨q,hq,rfl⟩)
 refine aM (zj (FH slot_list_sort ⟨_,z2,rfl⟩ entry_list_sort (TS.Iz (κ:=oneType') (R:=λout=>out.toList.Perm (vs.map (·.2))/\out.toList.Pairwise λx y=>ky knd lt ks x<ky knd lt ks y) z2 hZ (λhl=>?_) (λout ho=>?_) (λS _ h2=>b5L O Ri pu iv S (by rwa [eD] at h2)) λout o1=>⟨_,rfl,?_⟩) (args_list_sort _)))
 .refine ⟨C1 _,?_⟩
  rw [eD] at hl
  show List.Pairwise _ (vs.map (·.2))
  cases vs with
  | nil=>exact DW
  | cons x l=>cases l with
   | nil=>exact La _ _
   | cons y l=>simp at hl;omega
 .rw [<-kx,ho.1.length_eq]
 .refine cp ⟨_,rfl,?_⟩
  obtain ⟨ws,pw,ew⟩:=OP o1.1 vs rfl
  obtain ⟨e,he⟩:=sortedHeap_at (out:=out) z2
  have k2:∀b o,s.heap.get? b=some o->(sortedHeap (h1.push (seqObj "list" (vs.map (·.2)).toArray 0)) h1.objs.size (vs.map (·.2)) out).get? b=some o:=λb o eb=>by
   have hb:b<h1.objs.size:=fI (k1 b o eb)
   rw [sortedHeap_old (iE hb) (by rw [pP];exact zl hb)]
   exact gg _ (k1 b o eb)
  refine h _ d' tk _ e ws k2 sz (by rw [he];congr 1;congr 1;rw [<-ew]) ((pw.map _).trans pu) ?_ (λq hq=>iv q (pw.mem_iff.mp hq)) (by rw [pw.length_eq];exact lv)
  have p:=o1.2
  rw [ew,Tj] at p
  rw [Tj]
  refine p.imp_of_mem λ{x y} hx hy z=>?_
  have mn:=pw.mem_iff.mp hx
  have DB:=pw.mem_iff.mp hy
  rw [TR (mem x mn) (iv x mn),TR (mem y DB) (iv y DB)] at z
  exact (Zf O (mem x mn) (mem y DB)).mp z
end
end SE
namespace SE
open PySem PyProof.Rows
noncomputable def ltI:Int->Int->Bool:=λa b=>decide (a<b)
noncomputable def yI:Str->Str->Bool:=λa b=>decide (a.cps.toList<b.cps.toList)
theorem k8:Ol ltI where
 Gw:=λa=>by simp [ltI]
 tr:=λh1 h2=>by simp [ltI] at *;omega
 Ia:=λh=>by simp [ltI];omega
theorem EX{prog:Program}{w:World}:Od (intKind prog w) ltI where
 ol:=k8
 one:=λ{a b u v A E s Q} ha hb hQ=>by
  obtain ⟨t,rfl⟩:=K4 ha
  obtain ⟨t',rfl⟩:=K4 hb
  exact oneLt_int hQ
 kind:=λ{us} h h2=>by
  have key:∀us:List (Int×Value),(∀q∈us,(intKind prog w).is q.1 q.2=true)->IntsAre (us.map (·.2)) (us.map (·.1)):=λus=>by
   induction us with
   | nil=>intro _;exact .nil
   | cons q us ih =>
    intro h
    obtain ⟨t,e⟩:=K4 (h q jL)
    rw [jJ,jJ,e]
    exact .cons _ t (ih λq hq=>h q (jU _ hq))
  have k:=key us h
  match us,h2,k with
  | a::b::us,_,k=>exact keyKind_ints k
theorem a6Z:∀{a b:List Nat},a≠b->a<b\/b<a
 | [],[],h=>absurd rfl h
 | [],_::_,_=>.inl List.Lex.nil
 | _::_,[],_=>.inr List.Lex.nil
 | x::a,y::b,h=>by
  rcases Nat.lt_trichotomy x y with q | q | q
  .exact .inl (List.Lex.rel q)
  .subst q
   rcases a6Z (a:=a) (b:=b) (λe=>h (by rw [e])) with z | z
   .exact .inl (List.Lex.cons z)
   .exact .inr (List.Lex.cons z)
  .exact .inr (List.Lex.rel q)
theorem h7:Ol yI where
 Gw:=λa=>by simp [yI,List.lt_irrefl]
 tr:=λh1 h2=>by
  unfold yI at *
  rw [decide_eq_true_eq] at *
  exact List.lt_trans h1 h2
 Ia:=λ{a b} h=>by
  unfold yI
  rw [decide_eq_true_eq,decide_eq_true_eq]
  refine a6Z λe=>h ?_
  obtain ⟨x⟩:=a
  obtain ⟨y⟩:=b
  have e':x=y:=SG.mp e
  rw [e']
theorem EW{prog:Program}{w:World}:Od (M6 prog w) yI where
 ol:=h7
 one:=λ{a b u v A E s Q} ha hb hQ=>by
  obtain ⟨t,rfl⟩:=KW ha
  obtain ⟨t',rfl⟩:=KW hb
  exact oneLt_str hQ
 kind:=λ{us} h h2=>by
  have key:∀us:List (Str×Value),(∀q∈us,(M6 prog w).is q.1 q.2=true)->StrsAre (us.map (·.2)) (us.map (·.1)):=λus=>by
   induction us with
   | nil=>intro _;exact .nil
   | cons q us ih =>
    intro h
    obtain ⟨t,e⟩:=KW (h q jL)
    rw [jJ,jJ,e]
    exact .cons _ t (ih λq hq=>h q (jU _ hq))
  have k:=key us h
  match us,h2,k with
  | a::b::us,_,k=>exact keyKind_strs k
noncomputable def ins{K:Type}(lt:K->K->Bool)(x:K):List K->List K
 | []=>[x]
 | y::l=>if lt x y=true then x::y::l else if lt y x=true then y::ins lt x l else y::l
noncomputable def pC{K:Type}(lt:K->K->Bool):List K->List K
 | []=>[]
 | x::l=>ins lt x (pC lt l)
section
variable {K:Type}[DecidableEq K]{lt:K->K->Bool}
theorem UL(O:Ol lt)(x z:K):∀l:List K,z∈ins lt x l↔z=x\/z∈l
 | []=>by simp [ins]
 | y::l=>by
  unfold ins
  split
  .simp
  .split
   .rw [fB,UL O x z l,fB]
    constructor
    .rintro (q | q | q)
     .exact .inr (.inl q)
     .exact .inl q
     .exact .inr (.inr q)
    .rintro (q | q | q)
     .exact .inr (.inl q)
     .exact .inl q
     .exact .inr (.inr q)
   .rename_i h1 h2
    have e:x=y:=c3V λz=>(O.Ia z).elim h1 h2
    subst e
    simp
theorem ZA(O:Ol lt)(x:K):∀l:List K,l.Pairwise (λa b=>lt a b=true)->(ins lt x l).Pairwise (λa b=>lt a b=true)
 | [],_=>La _ _
 | y::l,h=>by
  obtain ⟨h1,h2⟩:=C3.mp h
  unfold ins
  split
  .rename_i q
   refine C3.mpr ⟨λz hz=>?_,h⟩
   rcases fB.mp hz with e | e
   .rw [e];exact q
   .exact O.tr q (h1 z e)
  .split
   .rename_i q
    refine C3.mpr ⟨λz hz=>?_,ZA O x l h2⟩
    rcases (UL O x z l).mp hz with e | e
    .rw [e];exact q
    .exact h1 z e
   .exact h
theorem jn(O:Ol lt)(z:K):∀l:List K,z∈pC lt l↔z∈l
 | []=>jT
 | x::l=>by unfold pC;rw [UL O,jn O z l,fB]
theorem jo(O:Ol lt):∀l:List K,(pC lt l).Pairwise (λa b=>lt a b=true)
 | []=>DW
 | x::l=>ZA O x _ (jo O l)
theorem o5(O:Ol lt):∀{l m:List K},l.Pairwise (λa b=>lt a b=true)->m.Pairwise (λa b=>lt a b=true)->(∀z,z∈l↔z∈m)->l=m
 | [],[],_,_,_=>rfl
 | [],b::m,_,_,h=>absurd ((h b).mpr jL) (λz=>nomatch z)
 | a::l,[],_,_,h=>absurd ((h a).mp jL) (λz=>nomatch z)
 | a::l,b::m,hl,hm,h=>by
  obtain ⟨l1,l2⟩:=C3.mp hl
  obtain ⟨m1,m2⟩:=C3.mp hm
  have no:∀{x y:K},lt x y=true->lt y x=true->False:=λ{x y} p q=>by
   have:=O.tr p q
   rw [O.Gw] at this
   exact FF this
  have e:a=b:=by
   rcases fB.mp ((h a).mp jL) with q | q
   .exact q
   .rcases fB.mp ((h b).mpr jL) with r | r
    .exact r.symm
    .exact (no (m1 a q) (l1 b r)).elim
  subst e
  rw [o5 O l2 m2 λz=>?_]
  constructor
  .intro hz
   rcases fB.mp ((h z).mp (jU _ hz)) with q | q
   .subst q
    have:=l1 z hz
    rw [O.Gw] at this
    exact FF this
   .exact q
  .intro hz
   rcases fB.mp ((h z).mpr (jU _ hz)) with q | q
   .subst q
    have:=m1 z hz
    rw [O.Gw] at this
    exact FF this
   .exact q
end
end SE
namespace DL
open PySem PySem.Spec PyProof.Rows L2
theorem _root_.L2.Inv.drawn{X:Cx}{pins:List (Addr×Obj)}{σ:List (Option V)}{H:Hp}{s:Shared}(I:Inv X pins σ H s)(d':Drawn):Inv X pins σ H { s with drawn:=d' }:=
 ⟨I.ok,I.os,I.bare,I.base,I.loc,I.cell,I.free,I.jg,I.pin,I.cw,I.len⟩
section
variable {X:Cx}{K:Type}[DecidableEq K]{knd:FD X.prog X.w K}{lt:K->K->Bool}{mk:K->V}
structure Kv(knd:FD X.prog X.w K)(mk:K->V):Prop where
 to:∀{k:K} {u:Value},RelV (mk k) u->knd.is k u=true/\u.scannable=true
 of:∀{k:K} {u:Value},knd.is k u=true->RelV (mk k) u
noncomputable def sE(knd:FD X.prog X.w K)(a:Addr)(ks:List K):HO:=.ext λh=>∃o,h.get? a=some o/\SE.Sa knd o ks
theorem kr(T:Kv knd mk)(dk:K)(hc:X.calm=true):ud X (.type "set") (λxs H Q=>∃(p:Addr) (ns:List K),xs=[.ref p]/\Sq X.K H true p (ns.map mk)/\ns.length+1<scanBound /\
  ∀(a:Addr) (ks:List K),ks.Nodup->(∀x,x∈ks↔x∈ns)->H a=none->Q (.ref a) (upd H a (sE knd a ks))):=by
 intro pins s σ H xs us Q I r h
 obtain ⟨p,ns,rfl,hq,hb,q⟩:=h
 obtain ⟨u,rfl,ru⟩:=r.one
 cases ru
 obtain ⟨aD,rv,pl⟩:=YN (b:=true) I hq
 have hl:aD.length=ns.length:=by rw [<-rv.length,eD]
 refine SE.kr (knd:=knd) (items:=aD.toArray) (I.ok.hd hc) pl (λi=>ns.getD i dk) (λi v hv=>?_) (by rw [iJ,hl];exact hb) λh' tk o ks k ho Z D=>?_
 .rw [S7] at hv
  have hi:i<ns.length:=by
   have:=(xO.mp hv).1
   omega
  obtain ⟨u,e1,e2⟩:=aV.get (x:=mk ns[i]) rv (i:=i) (by rw [vL,mz hi];rfl)
  rw [hv] at e1
  cases e1
  rw [NJ,mz hi]
  exact T.to e2
 .have fr:H s.heap.objs.size=none:=I.cw.fresh (cT _)
  refine ⟨.ref s.heap.objs.size,_,I.laid (o:=sE knd s.heap.objs.size ks) (t':=tk) (λb o e=>k b o (fI e) e) (cT _) ⟨⟨o,ho,Z⟩,⟨o,ho⟩,λh1 h2 ⟨o,e,z⟩ kk=>⟨o,kk _ e,z⟩⟩,rfl,q _ ks D.nd (λx=>?_) fr⟩
  rw [D.mem,iJ,hl]
  constructor
  .rintro ⟨j,hj,e⟩
   rw [<-e,NJ,mz hj]
   exact AJ hj
  .intro hx
   obtain ⟨j,hj,e⟩:=xM.mp hx
   exact ⟨j,hj,by rw [NJ,mz hj];exact e⟩
theorem a6d(T:Kv knd mk)(O:SE.Od knd lt)(hc:X.calm=true):ud X (.builtin "sorted") (λxs H Q=>∃(p:Addr) (ks:List K),xs=[.ref p]/\H p=some (sE knd p ks)/\ks.Nodup /\
  ∀(ms:List K) (a:Addr),ms.Perm ks->ms.Pairwise (λx y=>lt x y=true)->H a=none->Q (.ref a) (upd H a (.lst (ms.map mk)))):=by
 intro pins s σ H xs vs Q I r h
 obtain ⟨p,ks,rfl,hp,Ri,q⟩:=h
 obtain ⟨u,rfl,ru⟩:=r.one
 cases ru
 obtain ⟨⟨o,ho,Z⟩,_⟩:=I.cw p _ hp
 refine SE.r9 O (I.ok.hd hc) ho Z Ri λh' d' tk D e us k sz hD pu C5 iu lu=>?_
 have fr:H D=none:=I.cw.fresh sz
 refine ⟨.ref D,_,(I.laid (o:=.lst ((us.map (·.1)).map mk)) (t':=tk) k sz ⟨?_,us.map (·.2),e,?_,hD⟩).drawn d',rfl,q _ D pu C5 fr⟩
 .rw [eD,eD];exact GN lu
 .clear hD pu C5 lu
  induction us with
  | nil=>exact .nil
  | cons x us ih=>exact .cons (T.of (iu x jL)) (ih λq hq=>iu q (jU _ hq))
theorem Y1:Kv (intKind X.prog X.w) V.int:=⟨λ{k u} ⟨t,e⟩=>by subst e;exact ⟨by simp [intKind,Sj],rfl⟩,λh=>K4 h⟩
theorem Y3:Kv (M6 X.prog X.w) V.str:=⟨λ{k u} ⟨t,e⟩=>by subst e;exact ⟨by simp [M6,SS],rfl⟩,λh=>KW h⟩
theorem IY(h1:PE X e t1)(h2:PE X e t2):PE X e (λσ H Q=>t1 σ H Q\/t2 σ H Q):=λpins s σ H Q I h=>h.elim (h1 pins s σ H Q I) (h2 pins s σ H Q I)
theorem YZ{K:aQ}{O:Addr->Prop}{H:Hp}:∀ws:List Int,bx K O H (ws.map V.int) (ws.map D.int)
 | []=>.nil
 | _::ws=>.cons (Is.int _) (YZ ws)
theorem Y0{K:aQ}{O:Addr->Prop}{H:Hp}:∀ws:List Str,bx K O H (ws.map V.str) (ws.map D.str)
 | []=>.nil
 | _::ws=>.cons (Is.str _) (Y0 ws)
noncomputable def Hd:List D->Option (List Str)
 | []=>some []
 | .str x::ds=>(Hd ds).map (x::·)
 | _::_=>none
theorem a7u:∀{ds:List D} {ss:List Str},Hd ds=some ss->ds=ss.map D.str
 | [],ss,h=>by cases h;rfl
 | .str x::ds,ss,h=>by
  obtain ⟨s',h1,rfl⟩:=map_some (show (Hd ds).map (x::·)=some ss from h)
  rw [a7u h1];rfl
theorem a86{K:aQ}{O:Addr->Prop}{H:Hp}:∀{xs:List V} {ns:List Str},bx K O H xs (ns.map D.str)->xs=ns.map V.str
 | _,[],h=>by cases h;rfl
 | _,n::ns,h=>by
  cases h with
  | cons a t =>
   cases a
   rw [a86 t];rfl
noncomputable def sset(ds:List D):Option (List D):=match vU ds with
 | some ns=>if ns.length+1<4096 then some ((SE.pC SE.ltI ns).map D.int) else none
 | none=>(Hd ds).bind λss=>if ss.length+1<4096 then some ((SE.pC SE.yI ss).map D.str) else none
noncomputable def G'(f:En->Option Sl):En->Option Sl:=λenv=>(f env).bind λr=>match r.d with
 | .lst _ ds=>(sset ds).map Sl.ow
 | _=>none
theorem UK{e:Expr}{fa:En->Option Sl}{p pos p2 sA:Pos}(hc:X.calm=true)(hg:Gl X "sorted")(hm:X.mg "sorted" = none)(GA:Gl X "set")(Gy:X.mg "set" = none)(he:EV X e fa)(hs:starEach [e] X.env=[(false,eval e X.env)]:=by rfl)
  (n6:starEach [.Call (.Name "set" p2) [e] [] sA] X.env=[(false,eval (.Call (.Name "set" p2) [e] [] sA) X.env)]:=by rfl):EV X (.Call (.Name "sorted" p) [.Call (.Name "set" p2) [e] [] sA] [] pos) (G' fa):=by
 obtain ⟨t,pt,k⟩:=he
 have P1:=Ek (p:=p) (pos:=pos) (a6d Y1 SE.EX hc) hg hm (by decide +kernel) (nW (L7 (p:=p2) (pos:=sA) (kr Y1 (0:Int) hc) GA Gy (by decide +kernel) (nW pt rR hs) (by decide) (by decide) hs rfl) rR n6) (by decide) (by decide) n6 rfl
 have P2:=Ek (p:=p) (pos:=pos) (a6d Y3 SE.EW hc) hg hm (by decide +kernel) (nW (L7 (p:=p2) (pos:=sA) (kr Y3 ("":Str) hc) GA Gy (by decide +kernel) (nW pt rR hs) (by decide) (by decide) hs rfl) rR n6) (by decide) (by decide) n6 rfl
 refine ⟨_,IY P1 P2,λO B σ H env s Q R e q=>?_⟩
 obtain ⟨r,e1,e2⟩:=bind_some e
 cases hd:r.d with
 | lst b ds =>
  rw [hd] at e2
  obtain ⟨rs,e3,rfl⟩:=map_some (show (sset ds).map Sl.ow=some s from e2)
  unfold sset at e3
  split at e3
  .rename_i ns e4
   obtain ⟨RC,rfl⟩:=lS e3
   refine .inl (k O B σ H env r _ R e1 λv H1 s1 r1=>?_)
   have hi:=r1.is λq=>R.oo
   rw [hd] at hi
   have RT:=L4 e4
   subst RT
   obtain ⟨a,xs,rfl,h2,h3⟩:=hi.seq (k:=true) rfl
   have ex:=LV h3
   subst ex
   refine ⟨a,ns,rfl,h2,RC,λc ks nd mem hc=>⟨c,ks,rfl,og,nd,λms d pm C5 hd=>?_⟩⟩
   have qk:ms=SE.pC SE.ltI ns:=SE.o5 SE.k8 C5 (SE.jo SE.k8 ns) λz=>by rw [pm.mem_iff,mem,SE.jn SE.k8]
   have yR:H1 d=none:=by
    by_cases z:d=c
    .rw [z,og] at hd;cases hd
    .rwa [g9 z] at hd
   rw [<-qk] at q
   refine q _ _ ((s1.trans (o9 hc _)).trans (o9 hd _)) ((Hm hd ?_).from (s1.trans (o9 hc _)))
   exact YZ _
  .rename_i e4
   obtain ⟨ss,e5,e6⟩:=bind_some e3
   obtain ⟨RC,rfl⟩:=lS e6
   refine .inr (k O B σ H env r _ R e1 λv H1 s1 r1=>?_)
   have hi:=r1.is λq=>R.oo
   rw [hd] at hi
   have RT:=a7u e5
   subst RT
   obtain ⟨a,xs,rfl,h2,h3⟩:=hi.seq (k:=true) rfl
   have ex:=a86 h3
   subst ex
   refine ⟨a,ss,rfl,h2,RC,λc ks nd mem hc=>⟨c,ks,rfl,og,nd,λms d pm C5 hd=>?_⟩⟩
   have qk:ms=SE.pC SE.yI ss:=SE.o5 SE.h7 C5 (SE.jo SE.h7 ss) λz=>by rw [pm.mem_iff,mem,SE.jn SE.h7]
   rw [<-qk] at q
   refine q _ _ ((s1.trans (o9 hc _)).trans (o9 hd _)) ((Hm hd ?_).from (s1.trans (o9 hc _)))
   exact Y0 _
 | _=>rw [hd] at e2;cases e2
end
end DL
namespace DL
open PySem L2
def Qu(d:D)(Q:Sl->Prop):Prop:=match d with
 | .lst _ ds=>Wo (sset ds) λrs=>Q (.ow rs)
 | _=>False
theorem T9{r:Bool}{ds:List D}{Q:Sl->Prop}:Qu (.lst r ds) Q↔Wo (sset ds) λrs=>Q (.ow rs):=jT
theorem UO{f:En->Option Sl}{env:En}{Q:Sl->Prop}:Wo (G' f env) Q↔Wo (f env) λr=>Qu r.d Q:=by
 unfold G'
 rw [a0n]
 refine kD λr=>?_
 cases r.d<;>simp [Qu,Wo_none,a16]
theorem b1L(ns:List Int)(h:ns.length+1<4096):∃ms:List Int,sset (ns.map D.int)=some (ms.map D.int)/\ms.Pairwise (·<·)/\(∀x,x∈ms↔x∈ns):=by
 refine ⟨SE.pC SE.ltI ns,?_,(SE.jo SE.k8 ns).imp λ{a b} z=>by simpa [SE.ltI] using z,λx=>SE.jn SE.k8 x ns⟩
 unfold sset
 rw [Vn]
 dsimp only
 rw [if_pos h]
end DL
namespace DL
open PySem PySem.Spec PyProof.Rows L2
section
variable {K:aQ}{O O':Addr->Prop}{H:Hp}{p:Addr}{ys:List V}
end
end DL
namespace DL
open PySem PySem.Spec PyProof.Rows L2
theorem Z2{K:aQ}{O:Addr->Prop}{H:Hp}{f:Str}{d:D}:∀{ns:List Str} {vs:List V} {ds:List D},bx K O H vs ds->(ns.zip ds).lookup f=some d->∃v,(ns.zip vs).lookup f=some v/\Is K O H v d
 | [],_,_,_,e=>by cases e
 | n::ns,_,_,.nil,e=>by cases e
 | n::ns,_,_,.cons h t,e=>by
  rw [G1,qy] at e ⊢
  by_cases z:(f==n)=true
  .rw [z] at e ⊢
   cases e
   exact ⟨_,rfl,h⟩
  .rw [Nl] at z
   rw [z] at e ⊢
   exact Z2 t e
theorem Z3{m:Str}:∀{ns:List Str} {vs:List V},m∉ns->(ns.zip vs).lookup m=none
 | [],_,_=>rfl
 | n::ns,[],_=>rfl
 | n::ns,v::vs,h=>by
  rw [G1,qy]
  have:(m==n)=false:=by
   rw [beq_eq_false_iff_ne]
   exact λe=>h (by rw [e];exact jL)
  rw [this]
  exact Z3 λz=>h (jU _ z)
theorem UB{f:Str}{y:V}:∀{ns:List Str} {us:List V},f∉ns->ns.length=us.length->iM f y (ns.zip us)=(ns++[f]).zip (us++[y])
 | [],[],_,_=>rfl
 | [],_::_,_,h=>by cases h
 | _::_,[],_,h=>by cases h
 | n::ns,u::us,h,hl=>by
  show (if n=f then _ else (n,u)::iM f y (ns.zip us))=(n,u)::(ns++[f]).zip (us++[y])
  rw [if_neg (λe=>h (by rw [e];exact jL)),UB (λz=>h (jU _ z)) (by simpa using hl)]
theorem Lf{α:Type}{c:Prop}[Decidable c]{x:Option α}{y:α}(h:(if c then x else none)=some y):c/\x=some y:=by
 by_cases hc:c
 .rw [if_pos hc] at h;exact ⟨hc,h⟩
 .rw [if_neg hc] at h;cases h
theorem b3T{σ:L2.St}{env:En}{x:Option V}{q:Addr}(h:pT (x::σ) (.no::env) q):pT σ env q:=by
 obtain ⟨i,s,e1,o,e2⟩:=h
 cases i with
 | zero=>cases e1;exact o.elim
 | succ i=>exact ⟨i,s,by simpa using e1,o,by simpa using e2⟩
theorem ZU{K:aQ}{O:Addr->Prop}{B H:Hp}{σ:L2.St}{env:En}(x:Option V)(R:Rel K O B σ H env):Rel K O B (x::σ) H (.no::env):=by
 have oo:∀q,OO O (x::σ) (.no::env) q->OO O σ env q:=λq z=>z.elim .inl λz=>.inr (b3T z)
 refine ⟨R.same,R.tK,by simp [R.len],λi d e=>?_,λi ds e=>?_,λi ks e=>?_,λi ks ds e=>?_,λi j ds es p e1 e2 e3 e4 o1 o2=>?_⟩
 .cases i with
  | zero=>cases e
  | succ i=>obtain ⟨v,f1,f2⟩:=R.sh i d (by simpa using e);exact ⟨v,by simpa using f1,f2.less oo⟩
 .cases i with
  | zero=>cases e
  | succ i=>obtain ⟨p,xs,f1,f2,f3,f4⟩:=R.ow i ds (by simpa using e);exact ⟨p,xs,by simpa using f1,f2,f3,f4.less oo⟩
 .cases i with
  | zero=>cases e
  | succ i=>obtain ⟨p,f1,f2,f3⟩:=R.dw i ks (by simpa using e);exact ⟨p,by simpa using f1,f2,f3⟩
 .cases i with
  | zero=>cases e
  | succ i=>obtain ⟨p,xs,f1,f2,f3,f4,f5⟩:=R.tw i ks ds (by simpa using e);exact ⟨p,xs,by simpa using f1,f2,f3,f4,f5.less oo⟩
 .cases i with
  | zero=>cases e1;exact o1.elim
  | succ i =>
   cases j with
   | zero=>cases e2;exact o2.elim
   | succ j=>rw [R.sep i j ds es p (by simpa using e1) (by simpa using e2) (by simpa using e3) (by simpa using e4) o1 o2]
def yf(K:aQ)(c:Str)(P:Addr->Prop):Prop:=∀C,nR K mainGlobals c=some (some (.ref C))->rV K C/\P C
noncomputable def gS(cs:List Str)(f:Str):D->Option D
 | .obj c ns ds=>if c∈cs then (ns.zip ds).lookup f else none
 | _=>none
noncomputable def eE(cs:List Str)(f:Str)(fo:En->Option Sl):En->Option Sl:=λenv=>(fo env).bind λr=>(gS cs f r.d).map Sl.sh
section
variable {X:Cx}{e o:Expr}{es:List Expr}{f m:Str}{pos apos p:Pos}{fo:En->Option Sl}{fs:En->Option (List D)}{cs:List Str}
theorem md(ho:EV X o fo)(hc:∀c∈cs,yf X.K c λC=>av X.K C f)(hb:attributeBase o f X.env (eval o X.env)=eval o X.env:=by rfl):EV X (.Attribute o f pos) (eE cs f fo):=by
 obtain ⟨t,pt,k⟩:=ho
 refine ⟨_,b8r pt hb,λO B σ H env s Q R e q=>?_⟩
 obtain ⟨r,e1,e2⟩:=bind_some e
 obtain ⟨d,e3,rfl⟩:=map_some e2
 refine k O B σ H env r _ R e1 λv H1 s1 r1=>?_
 have hi:=r1.is λq=>R.oo
 cases hd:r.d with
 | obj c ns ds =>
  rw [hd] at hi e3
  obtain ⟨hm,e4⟩:=Lf (show (if c∈cs then (ns.zip ds).lookup f else none)=some d from e3)
  cases hi with
  | obj ho hn hp hl hs =>
   obtain ⟨u,hu,iu⟩:=Z2 hs e4
   obtain ⟨c1,c2⟩:=hc c hm _ hn
   exact ⟨_,_,_,_,u,rfl,hp,c1,c2,hu,q u H1 s1 iu⟩
 | _=>rw [hd] at e3;cases e3
noncomputable def Us(X:Cx)(m:Str)(j:Nat)(ta:TE)(t:TA):TE:=λσ H Q=>ta σ H λx H1=>∃a C dx fs f fd ps sp,x=.ref a/\H1 a=some (.ins C dx fs)/\rV X.K C/\ar X.K C m f/\fs.lookup m=none/\Binds X.K fd ps []/\cR X.prog X.w X.K X.mg X.base jY j f fd ps sp /\
 t σ H1 λvs H2=>sp (x::vs) H2 Q E0
theorem b3P{pl:Sem Bool}{j:Nat}{ta:TE}{t:TA}(he:PE X o ta)(hr:c6 j X.A)(ha:PA X (e::es) t)
  (l6:starEach (e::es) X.env=(false,eval e X.env)::starEach es X.env:=by rfl)(g8:(backTo pos (starEach es X.env)).any (·.1)=false:=by rfl)
  (ht:eval (.Call (.Attribute o m apos) (e::es) [] pos) X.env=(eval o X.env >>= λov=>standAt apos.atName >>= λ_=>holding [ov] (getMethod ov m pl) >>= λz=>callWith pos z.1 z.2 (backTo pos (starEach (e::es) X.env)) (backToKw pos (keywordEach [] X.env))):=by rfl):
  PE X (.Call (.Attribute o m apos) (e::es) [] pos) (Us X m j ta t):=by
 intro pins s σ H Q I h
 refine S6 (pl:=pl) (cq (he pins s σ H _ I h) λu s1 ⟨x,H1,I1,rx,a,C,dx,fs,f,fd,ps,sp,ex,ea,c,hm,l,hb,F,q⟩=>?_) ht
 subst ex
 obtain rfl:u=fq a:=rx
 refine a7D I1 ea c hm l (NB (first:=[.ref a]) (h₀:=X.base) I.ok.mod.Gv hm.kp (cq (ha pos pins s1 σ H1 _ I1 q) λus s2 ⟨vs,H2,I2,r,q2⟩=>⟨I2.kU,?_⟩) l6 g8)
 exact N2 (us:=.ref a::us) (vs:=.ref a::vs) (dvs:=[]) (E:=E0) F hr hb .nil He I2 (.cons rfl r) (by rw [vK];exact q2)
theorem b12{pl:Sem Bool}{j:Nat}{ta:TE}(he:PE X o ta)(hr:c6 j X.A)
  (ht:eval (.Call (.Attribute o m apos) [] [] pos) X.env=(eval o X.env >>= λov=>standAt apos.atName >>= λ_=>holding [ov] (getMethod ov m pl) >>= λz=>callWith pos z.1 z.2 (backTo pos (starEach [] X.env)) (backToKw pos (keywordEach [] X.env))):=by rfl):
  PE X (.Call (.Attribute o m apos) [] [] pos) (Us X m j ta Ij):=by
 intro pins s σ H Q I h
 refine S6 (pl:=pl) (cq (he pins s σ H _ I h) λu s1 ⟨x,H1,I1,rx,a,C,dx,fs,f,fd,ps,sp,ex,ea,c,hm,l,hb,F,q⟩=>?_) ht
 subst ex
 obtain rfl:u=fq a:=rx
 exact a7D I1 ea c hm l (PySem.W.callWith_K0 (first:=[.ref a]) I1.kU hm.kp (N2 (us:=[.ref a]) (vs:=[.ref a]) (dvs:=[]) (E:=E0) F hr hb .nil He I1 (.cons rfl .nil) q))
noncomputable abbrev aP:=List (Str×(List D->Option Sl))
def MT(X:Cx)(m:Str)(n j:Nat)(tab:aP):Prop:=∀c φ,tab.lookup c=some φ->yf X.K c λC=>∃f fd ps,ar X.K C m f/\ps.length=n/\Binds X.K fd ps []/\cR X.prog X.w X.K X.mg X.base jY j f fd ps (wb X.K n φ)
noncomputable def jV(m:Str)(n:Nat)(tab:aP)(d:D)(as:List D):Option Sl:=match d with
 | .obj c ns ds=>if m∈ns\/as.length+1≠n then none else (tab.lookup c).bind λφ=>φ (.obj c ns ds::as)
 | _=>none
noncomputable def ma(m:Str)(n:Nat)(tab:aP)(fo:En->Option Sl)(fa:En->Option (List D)):En->Option Sl:=λenv=>(fo env).bind λr=>(fa env).bind λas=>jV m n tab r.d as
theorem a8Y{t:TE}{u:TA}{n j:Nat}{tab:aP}(T:MT X m n j tab)
  (k:∀(O:Addr->Prop) (B:Hp) (σ:L2.St) (H:Hp) (env:En) (r:Sl) (Q:VK),Rel X.K O B σ H env->fo env=some r->(∀v H',aG H H'->Res X.K (OO O σ env) H H' v r->Q v H')->t σ H Q)
  (ka:∀(O:Addr->Prop) (B:Hp) (σ:L2.St) (H:Hp) (env:En) (ds:List D) (Q:List V->Hp->Prop),Rel X.K O B σ H env->fs env=some ds->(∀vs H',aG H H'->bx X.K (OO O σ env) H' vs ds->Q vs H')->u σ H Q)
  (O:Addr->Prop)(B:Hp)(σ:L2.St)(H:Hp)(env:En)(s:Sl)(Q:VK)(R:Rel X.K O B σ H env)(e:ma m n tab fo fs env=some s)(q:∀v H',aG H H'->Res X.K (OO O σ env) H H' v s->Q v H'):Us X m j t u σ H Q:=by
 obtain ⟨r,e1,e2⟩:=bind_some e
 obtain ⟨as,e3,e4⟩:=bind_some e2
 refine k O B σ H env r _ R e1 λv H1 s1 r1=>?_
 have hi:=r1.is λq=>R.oo
 cases hd:r.d with
 | obj c ns ds =>
  rw [hd] at hi e4
  unfold jV at e4
  dsimp only at e4
  split at e4
  .cases e4
  .rename_i Ah
   rw [not_or] at Ah
   obtain ⟨φ,e5,e6⟩:=bind_some e4
   have vg:=hi
   cases hi with
   | obj ho hn hp hl hs =>
    obtain ⟨c1,f,fd,ps,c2,c3,c4,c5⟩:=T c φ e5 _ hn
    refine ⟨_,_,_,_,f,fd,ps,_,rfl,hp,c1,c2,Z3 Ah.1,c4,c5,?_⟩
    refine ka O B σ H1 env as _ (R.grow s1) e3 λvs H2 s2 r2=>?_
    have nl:as.length+1=n:=XS.mp Ah.2
    exact ⟨OO O σ env,_,s,((R.grow s1).grow s2).dm,.cons (vg.grow s2) r2,by rw [jK,r2.length];exact nl,e6,λv H3 s3 r3=>q v H3 ((s1.trans s2).trans s3) (r3.from (s1.trans s2))⟩
 | _=>rw [hd] at e4;cases e4
theorem b6Q{n j:Nat}{tab:aP}{pl:Sem Bool}(ho:EV X o fo)(ha:AV X (e::es) fs)(hr:c6 j X.A)(T:MT X m n j tab)
  (l6:starEach (e::es) X.env=(false,eval e X.env)::starEach es X.env:=by rfl)(g8:(backTo pos (starEach es X.env)).any (·.1)=false:=by rfl)
  (ht:eval (.Call (.Attribute o m apos) (e::es) [] pos) X.env=(eval o X.env >>= λov=>standAt apos.atName >>= λ_=>holding [ov] (getMethod ov m pl) >>= λz=>callWith pos z.1 z.2 (backTo pos (starEach (e::es) X.env)) (backToKw pos (keywordEach [] X.env))):=by rfl):
  EV X (.Call (.Attribute o m apos) (e::es) [] pos) (ma m n tab fo fs):=by
 obtain ⟨t,pt,k⟩:=ho
 obtain ⟨u,pu,ka⟩:=ha
 exact ⟨_,b3P pt hr pu l6 g8 ht,λO B σ H env s Q R e q=>a8Y T k ka O B σ H env s Q R e q⟩
theorem b4p{n j:Nat}{tab:aP}{pl:Sem Bool}(ho:EV X o fo)(hr:c6 j X.A)(T:MT X m n j tab)
  (ht:eval (.Call (.Attribute o m apos) [] [] pos) X.env=(eval o X.env >>= λov=>standAt apos.atName >>= λ_=>holding [ov] (getMethod ov m pl) >>= λz=>callWith pos z.1 z.2 (backTo pos (starEach [] X.env)) (backToKw pos (keywordEach [] X.env))):=by rfl):
  EV X (.Call (.Attribute o m apos) [] [] pos) (ma m n tab fo af):=by
 obtain ⟨t,pt,k⟩:=ho
 refine ⟨_,b12 pt hr ht,λO B σ H env s Q R e q=>a8Y T k (λO B σ H env ds Q R e q=>?_) O B σ H env s Q R e q⟩
 obtain rfl:=gz (show some []=some ds from e)
 exact q [] H (aG.refl _) .nil
noncomputable def Gn(K:aQ)(C:Addr)(n:Nat)(ns:List Str)(ψ:List D->Option (List D)):Sp:=λvs H Q _=>∃(O:Addr->Prop) (p dx:Addr) (ws:List V) (ds fs:List D),vs=.ref p::ws/\ws.length=n/\H p=some (.ins C dx [])/\Et K O H/\O p/\bx K O H ws ds/\ψ ds=some fs /\
 ∀(us:List V) (H':Hp),ns.length=us.length->(∀q u,H q=some u->q≠p->H' q=some u)->H' p=some (.ins C dx (ns.zip us))->bx K O H' us fs->Q .b8 H'
noncomputable def pK(c:Str)(n:Nat)(ns:List Str)(ψ:List D->Option (List D))(fa:En->Option (List D)):En->Option Sl:=λenv=>(fa env).bind λas=>if as.length=n then (ψ as).map λds=>Sl.sh (.obj c ns ds) else none
theorem Kp{c:Str}{C f:Addr}{fd:FuncData}{ps:List Str}{n j:Nat}{ns:List Str}{ψ:List D->Option (List D)}(M:Mk X.K C f)(F:cR X.prog X.w X.K X.mg X.base jY j f fd ps (Gn X.K C n ns ψ))(hr:c6 (j+1) X.A)(hg:Gl X c)(hm:X.mg c=some (.ref C))(hn:nR X.K mainGlobals c=some (some (.ref C)))(hb:Binds X.K fd ps [])
  (ha:AV X (e::es) fs)(lz:(c==("__debug__":Str))=false:=by decide)(he:starEach (e::es) X.env=(false,eval e X.env)::starEach es X.env:=by rfl)(g8:(backTo pos (starEach es X.env)).any (·.1)=false:=by rfl):
  EV X (.Call (.Name c p) (e::es) [] pos) (pK c n ns ψ fs):=by
 obtain ⟨t,pt,ka⟩:=ha
 refine ⟨_,b56 M F hr hg hm hb .nil (He (X:=X)) pt lz he g8,λO B σ H env r Q R e q=>?_⟩
 obtain ⟨as,e1,e2⟩:=bind_some e
 obtain ⟨hl,e3⟩:=Lf e2
 obtain ⟨gs,e4,rfl⟩:=map_some e3
 refine ka O B σ H env as _ R e1 λvs H1 s1 r1=>?_
 intro x dx nx ndx ne
 have nO:¬OO O σ env x:=λz=>(R.grow s1).oo z nx
 have up1:∀q u,H1 q=some u->upd (upd H1 dx (.own x)) x (.ins C dx []) q=some u:=λq u e=>by rw [g9 (zD e nx),g9 (zD e ndx)];exact e
 refine ⟨λq=>OO O σ env q\/q=x,x,dx,vs,as,gs,by rw [vK],by rw [r1.length];exact hl,og,⟨λq hq=>?_,(R.grow s1).dm.2.grow λq u e=>up1 q u e⟩,.inr rfl,r1.map (λq hq hn z=>z.elim hn λe=>hq (by rw [e];exact nx)) λq u e _=>up1 q u e,e4,λus H' Cv kp hp hs=>⟨rfl,?_⟩⟩
 .rcases hq with hq | rfl
  .cases hz:H1 q with
   | none=>exact absurd hz ((R.grow s1).oo hq)
   | some u=>rw [up1 q u hz];exact λz=>nomatch z
  .rw [og];exact λz=>nomatch z
 .have sm:aG H1 H':=λq u e=>kp q u (up1 q u e) (zD e nx)
  exact q _ H' (s1.trans sm) (Is.obj nO hn hp Cv (hs.less λq z=>.inl z))
def Er(X:Cx)(ny:List Stmt)(C:Addr)(F:En->List Str->List D->Option (List Str×List D)):Prop:=
 ∃t:TS,rT X ny t/\∀(O:Addr->Prop) (σ:L2.St) (H:Hp) (env:En) (p dx:Addr) (ns:List Str) (us:List V) (ds:List D) (lW:List Str) (ds':List D) (Dn:Ends),Rel X.K O H σ H env->(∀(i:Nat) s,env[i]?=some s->¬s.own)->O p->σ[0]?=some (some (V.ref p))->H p=some (.ins C dx (ns.zip us))->ns.length=us.length->bx X.K O H us ds->F env ns ds=some (lW,ds') ->
  (∀(H':Hp) (r6:List V),(∀q u,H q=some u->q≠p->H' q=some u)->H' p=some (.ins C dx (lW.zip r6))->lW.length=r6.length->bx X.K O H' r6 ds'->Dn.nx σ H')->t Dn σ H
noncomputable def jz:En->List Str->List D->Option (List Str×List D):=λ_ ns ds=>some (ns,ds)
noncomputable def dR(f:Str)(fe:En->Option Sl)(F:En->List Str->List D->Option (List Str×List D)):En->List Str->List D->Option (List Str×List D):=λenv ns ds=>(fe env).bind λr=>if f∈ns\/900<ns.length then none else F env (ns++[f]) (ds++[r.d])
theorem zB{C:Addr}:Er X [] C jz:=⟨_,UA,λO σ H env p dx ns us ds lW ds' Dn R no op hs hp hl hi e q=>by
 cases (show some (ns,ds)=some (lW,ds') from e)
 exact q H us (λ_ _ e _=>e) hp hl hi⟩
theorem b8P{C:Addr}{fe:En->Option Sl}{F:En->List Str->List D->Option (List Str×List D)}{ny:List Stmt}{x:Str}{p1 pos':Pos}(hv:EV X e fe)(hr:Er X ny C F)(c:rV X.K C)(n:av X.K C f)
  (hN:X.N[0]?=some x)(mY:jS X.env.scope x)(hd:(x==("__debug__":Str))=false:=by rfl)(dN:(x==("__classdict__":Str))=false:=by rfl)
  (hs:swapsWith e (some (.Attribute (.Name x p1) f pos')) pos.line X.env=pure false:=by rfl):Er X (.Assign [.Attribute (.Name x p1) f pos'] e pos::ny) C (dR f fe F):=by
 obtain ⟨t,pt,k⟩:=hv
 obtain ⟨u,pu,ku⟩:=hr
 refine ⟨_,OH (Zb (ya hN mY hd dN) pt hs) pu,λO σ H env p dx ns us ds lW ds' Dn R no op hs hp hl hi e q=>?_⟩
 obtain ⟨r,e1,e2⟩:=bind_some e
 split at e2
 .cases e2
 rename_i Ah
 rw [not_or] at Ah
 have sU:∀q,pT σ env q->False:=λq ⟨i,s,h1,h2,_⟩=>no i s h1 h2
 refine k O H σ H env r _ R e1 λv H1 s1 r1=>?_
 have iv:=(r1.is λq=>R.oo).less (O':=O) λq z=>.inl z
 refine ⟨.ref p,hs,p,C,dx,ns.zip us,rfl,s1 _ _ hp,c,n,by rw [SX];omega,?_⟩
 rw [UB Ah.1 hl]
 have kp:∀q u,H1 q=some u->q≠p->upd H1 p (.ins C dx ((ns++[f]).zip (us++[v]))) q=some u:=λq u e ne=>by rw [g9 ne];exact e
 have mp:∀{w:V} {d:D},Is X.K O H1 w d->Is X.K O (upd H1 p (.ins C dx ((ns++[f]).zip (us++[v])))) w d:=λh=>h.map (λ_ _ z=>z) λq u e nq=>kp q u e λz=>nq (by rw [z];exact op)
 have QS:∀{w:List V} {d:List D},bx X.K O H1 w d->bx X.K O (upd H1 p (.ins C dx ((ns++[f]).zip (us++[v])))) w d:=λh=>h.map (λ_ _ z=>z) λq u e nq=>kp q u e λz=>nq (by rw [z];exact op)
 refine ku O σ _ env p dx (ns++[f]) (us++[v]) (ds++[r.d]) lW ds' Dn ⟨aG.refl _,⟨λq hq=>?_,λc' P e'=>?_⟩,R.len,λi d e=>?_,λi es e=>(no i _ e trivial).elim,λi es e=>(no i _ e trivial).elim,λi ks es e=>(no i _ e trivial).elim,λi j es fs q e1 _ _ _ o _=>(no i _ e1 o).elim⟩ no op hs og (by rw [fZ,fZ,hl];rfl) ((QS (hi.grow s1)).append (.cons (mp iv) .nil)) e2 λH' r6 kq wY Cv vg=>q H' r6 (λq u e ne=>kq q u (kp q u (s1 _ _ e) ne) ne) wY Cv vg
 .by_cases z:q=p
  .rw [z,og];exact λz=>nomatch z
  .rw [g9 z]
   cases hz:H q with
   | none=>exact absurd hz (R.tK.1 q hq)
   | some u=>rw [s1 _ _ hz];exact λz=>nomatch z
 .have e3:=R.tK.2 c' P e'
  exact kp _ _ (s1 _ _ e3) λz=>by rw [z,hp] at e3;cases e3
 .obtain ⟨w,f1,f2⟩:=R.sh i d e
  refine ⟨w,f1,(mp ((f2.grow s1).less λq z=>.inl z)).less λq z=>z.elim id λz=>(sU q z).elim⟩
end
section
variable {P:Program}{w:World}{K:aQ}{mg:Str->Option Value}{base:Heap}
noncomputable def gh(F:En->List Str->List D->Option (List Str×List D))(N:Nat)(ns:List Str)(ds:List D):Option (List D):=match F (.no::o7 (N-1) ds) [] [] with
 | some (lW,fs)=>if lW=ns then some fs else none
 | none=>none
theorem Zy{qual:Str}{st:Stmt}{f C:Addr}{fd:FuncData}{N ps:List Str}{k n:Nat}{ns:List Str}{F:En->List Str->List D->Option (List Str×List D)}(Fn:A4 K "__init__" qual st f fd)(S:de N ps (gk st))(Ag:ps.length=n+1)(hN:1<=N.length)
  (cY:∀X:Cx,X.prog=P->X.w=w->X.K=K->X.mg=mg->X.base=base->Fx X N (gk st) k->Er X (jW st) C F):cR P w K mg base jY (k+1) f fd ps (Gn K C n ns (gh F N.length ns)):=by
 refine Fn.ok S (λvs H Q E h=>?_) (λgf A outer s H vs Q E hr h=>?_)
 .obtain ⟨O,p,dx,ws,ds,fs,rfl,hl,_⟩:=h
  rw [jK,hl,Ag]
 obtain ⟨O,p,dx,ws,ds,fs,rfl,hl,hp,dm,op,hi,e,q⟩:=h
 obtain ⟨t,pt,kk⟩:=cY (oW jY P w K mg base N qual (gk st) f gf A outer s H E).EY rfl rfl rfl rfl rfl ⟨rfl,rfl,rfl,λ_ _=>rfl,Nu,hr,S.nd,λ_=>⟨rfl,rfl,rfl⟩⟩
 refine ⟨t,pt,?_⟩
 have R0:=Vl (N:=N.tail) dm hi
 have R1:=ZU (some (V.ref p)) R0
 have es:some (V.ref p)::start N.tail ws=start N (V.ref p::ws):=by
  unfold L2.start
  rw [jJ,K0,Nk,jK,Nat.sub_sub,Nat.add_comm 1]
 rw [es,Nk] at R1
 unfold gh at e
 cases hF:F (.no::o7 (N.length-1) ds) [] [] with
 | none=>rw [hF] at e;cases e
 | some y =>
  obtain ⟨lW,Fo⟩:=y
  rw [hF] at e
  obtain ⟨rfl,rfl⟩:=lS (show (if lW=ns then some Fo else none)=some fs from e)
  refine kk O _ H _ p dx [] [] [] lW Fo _ R1 (λi s h1 h2=>?_) op rfl hp rfl .nil hF λH' r6 kp wY Cv vg=>q r6 H' Cv kp wY vg
  cases i with
  | zero=>cases h1;exact h2
  | succ i =>
   have h1:(o7 (N.length-1) ds)[i]?=some s:=by simpa using h1
   unfold o7 at h1
   rw [NH] at h1
   split at h1
   .rw [vL] at h1
    obtain ⟨d,_,e⟩:=map_some h1
    cases e
    exact h2
   .rw [GZ] at h1
    split at h1
    .cases h1;exact h2
    .cases h1
end
end DL
namespace DL
open PySem PySem.Spec PyProof.Rows L2
structure dI(K:aQ)(c:Str)(C:Addr):Prop where
 a:nR K mainGlobals c=some (some (.ref C))
 c:rV K C
theorem dI.n{K:aQ}{c:Str}{C:Addr}{P:Addr->Prop}(h:dI K c C)(p:P C):yf K c P:=λC' e=>by
 rw [h.a] at e
 cases e
 exact ⟨h.c,p⟩
def FL(K:aQ)(f:Str)(cs:List Str):Prop:=∀c∈cs,yf K c λC=>av K C f
theorem AS{K:aQ}{f:Str}:FL K f []:=λ_ h=>nomatch h
theorem me{K:aQ}{f c:Str}{C:Addr}{cs:List Str}(h:dI K c C)(n:av K C f)(T:FL K f cs):FL K f (c::cs):=λc' hc=>by
 rcases fB.mp hc with rfl | hc
 .exact h.n n
 .exact T c' hc
structure cF(K:aQ)(f:Addr)(x qual:Str)(st:Stmt)(ps:List Str)(fd:FuncData):Prop where
 fn:A4 K x qual st f fd
 bd:Binds K fd ps []
def Om(P:Program)(w:World)(K:aQ)(mg:Str->Option Value)(base:Heap)(f:Addr)(x qual:Str)(st:Stmt)(ps:List Str)(j:Nat)(φ:List D->Option Sl):Prop:=∃fd,cF K f x qual st ps fd/\cR P w K mg base jY j f fd ps (wb K ps.length φ)
theorem nU{P:Program}{w:World}{K:aQ}{mg:Str->Option Value}{base:Heap}{x qual:Str}{st:Stmt}{f:Addr}{fd:FuncData}{N ps:List Str}{k:Nat}{F:SF}(D':cF K f x qual st ps fd)
  (cY:∀X:Cx,Sx X P w K mg base->Fx X N (gk st) k->ur X (jW st) F)(S:de N ps (gk st):=by exact ⟨rfl,rfl,rfl,by decide +kernel,rfl,by decide +kernel,by decide +kernel⟩):Om P w K mg base f x qual st ps (k+1) (bT F N.length):=
 ⟨fd,D',Kj D'.fn S λX e1 e2 e3 e4 e5=>by subst e1 e2 e3 e4 e5;exact cY X (.mk X)⟩
def k4(P:Program)(w:World)(K:aQ)(mg:Str->Option Value)(base:Heap)(m:Str)(n j:Nat)(tab:aP):Prop:=∀c φ,tab.lookup c=some φ->yf K c λC=>∃f fd ps,ar K C m f/\ps.length=n/\Binds K fd ps []/\cR P w K mg base jY j f fd ps (wb K n φ)
section
variable {P:Program}{w:World}{K:aQ}{mg:Str->Option Value}{base:Heap}{m c:Str}{n j:Nat}{tab:aP}
theorem De:k4 P w K mg base m n j []:=λc φ e=>nomatch e
theorem dA{C f:Addr}{x qual:Str}{st:Stmt}{ps:List Str}{i:Nat}{φ:List D->Option Sl}(h:dI K c C)(hm:ar K C m f)(O:Om P w K mg base f x qual st ps i φ)(T:k4 P w K mg base m n j tab)(hj:i<=j:=by decide)(hl:ps.length=n:=by rfl):k4 P w K mg base m n j ((c,φ)::tab):=λc' φ' e=>by
 rw [qy] at e
 by_cases z:(c'==c)=true
 .rw [z] at e
  cases e
  obtain rfl:c'=c:=by simpa using z
  obtain ⟨fd,D',F⟩:=O
  exact h.n ⟨f,fd,ps,hm,hl,D'.bd,by rw [<-hl];exact F.mono hj⟩
 .rw [Nl] at z
  rw [z] at e
  exact T c' φ' e
theorem QU{X X':Cx}(e1:X'.prog=X.prog)(e2:X'.w=X.w)(e3:X'.K=X.K)(e4:X'.mg=X.mg)(e5:X'.base=X.base)(T:k4 X.prog X.w X.K X.mg X.base m n j tab):k4 X'.prog X'.w X'.K X'.mg X'.base m n j tab:=by
 rw [e1,e2,e3,e4,e5];exact T
end
structure FM(K:aQ)(n q:Str)(t:Stmt)(f:Addr)(od an:Option Addr)(sl:Array (Option Value))(oc kV dc pm cd ct:Value):Prop where
 l:K.lookup f=some ⟨oc,od,.func (nS n q (o8 t) (jW t) (gk t) .none kV dc pm an cd ct),sl⟩
 c:KI K cd q=true
 k:BG K (.ref f)=true
theorem iR{K:aQ}{n q:Str}{t:Stmt}{f:Addr}{od an:Option Addr}{sl:Array (Option Value)}{oc kV dc pm cd ct:Value}{ps:List Str}(i:FM K n q t f od an sl oc kV dc pm cd ct)(hb:∀(kV doc pm:Value) (an:Option Addr) (gf ct:Value) (us:List Value),us.length=ps.length->bindArgs (nS n q (o8 t) (jW t) (gk t) .none kV doc pm an gf ct) ⟨us,[]⟩=pure (ps.zip us)):
  cF K f n q t ps (nS n q (o8 t) (jW t) (gk t) .none kV dc pm an cd ct):=⟨Oa i.l i.c i.k,(Oa i.l i.c i.k).binds hb⟩
def lK(P:Program)(w:World)(K:aQ)(mg:Str->Option Value)(base:Heap)(c:Str)(n:Nat)(ns:List Str)(j:Nat)(ψ:List D->Option (List D)):Prop:=∃C f fd ps,Mk K C f/\cR P w K mg base jY j f fd ps (Gn K C n ns ψ)/\mg c=some (.ref C)/\nR K mainGlobals c=some (some (.ref C))/\Binds K fd ps []
theorem C9{P:Program}{w:World}{K:aQ}{mg:Str->Option Value}{base:Heap}{c qual:Str}{st:Stmt}{f C:Addr}{fd:FuncData}{N ps:List Str}{k n:Nat}{ns:List Str}{F:En->List Str->List D->Option (List Str×List D)}(h:dI K c C)(hm:mg c=some (.ref C))(M:Mk K C f)(D':cF K f "__init__" qual st ps fd)
  (cY:∀X:Cx,Sx X P w K mg base->Fx X N (gk st) k->Er X (jW st) C F)(Ag:ps.length=n+1:=by rfl)(hN:1<=N.length:=by decide)(S:de N ps (gk st):=by exact ⟨rfl,rfl,rfl,by decide +kernel,rfl,by decide +kernel,by decide +kernel⟩):lK P w K mg base c n ns (k+1) (gh F N.length ns):=
 ⟨C,f,fd,ps,M,Zy D'.fn S Ag hN λX e1 e2 e3 e4 e5=>by subst e1 e2 e3 e4 e5;exact cY X (.mk X),hm,h.a,D'.bd⟩
section
variable {X:Cx}{N:List Str}{sc:Scope}{k j n:Nat}{full:Bool}{e o:Expr}{es:List Expr}{m c f:Str}{pos p apos pos' p1:Pos}{fo fe:En->Option Sl}{fs:En->Option (List D)}{tab:aP}
theorem Fx.mt(h:Fx X N sc k full)(T:k4 X.prog X.w X.K X.mg X.base m n j tab)(ho:EV X o fo)(ha:AV X (e::es) fs)(hj:j<=k:=by decide){pl:Sem Bool}
  (l6:starEach (e::es) X.env=(false,eval e X.env)::starEach es X.env:=by rfl)(g8:(backTo pos (starEach es X.env)).any (·.1)=false:=by rfl)
  (ht:eval (.Call (.Attribute o m apos) (e::es) [] pos) X.env=(eval o X.env >>= λov=>standAt apos.atName >>= λ_=>holding [ov] (getMethod ov m pl) >>= λz=>callWith pos z.1 z.2 (backTo pos (starEach (e::es) X.env)) (backToKw pos (keywordEach [] X.env))):=by rfl):
  EV X (.Call (.Attribute o m apos) (e::es) [] pos) (ma m n tab fo fs):=b6Q (pl:=pl) ho ha (h.room.mono hj) T l6 g8 ht
theorem Fx.E1(h:Fx X N sc k full)(T:k4 X.prog X.w X.K X.mg X.base m n j tab)(ho:EV X o fo)(hj:j<=k:=by decide){pl:Sem Bool}
  (ht:eval (.Call (.Attribute o m apos) [] [] pos) X.env=(eval o X.env >>= λov=>standAt apos.atName >>= λ_=>holding [ov] (getMethod ov m pl) >>= λz=>callWith pos z.1 z.2 (backTo pos (starEach [] X.env)) (backToKw pos (keywordEach [] X.env))):=by rfl):
  EV X (.Call (.Attribute o m apos) [] [] pos) (ma m n tab fo af):=b4p (pl:=pl) ho (h.room.mono hj) T ht
theorem Fx.yH{ns:List Str}{ψ:List D->Option (List D)}(h:Fx X N sc k full)(T:lK X.prog X.w X.K X.mg X.base c n ns j ψ)(ha:AV X (e::es) fs)(hj:j+1<=k:=by decide)(hg:sc.names.lookup c=some .globalImplicit:=by rfl)(lz:(c==("__debug__":Str))=false:=by rfl)
  (he:starEach (e::es) X.env=(false,eval e X.env)::starEach es X.env:=by rfl)(g8:(backTo pos (starEach es X.env)).any (·.1)=false:=by rfl):EV X (.Call (.Name c p) (e::es) [] pos) (pK c n ns ψ fs):=by
 obtain ⟨C,f,fd,ps,M,F,hm,hn,hb⟩:=T
 exact Kp M F (h.room.mono hj) (h.g hg) hm hn hb ha lz he g8
theorem Fx.gD{C:Addr}{ny:List Stmt}{F:En->List Str->List D->Option (List Str×List D)}{x:Str}(h:Fx X N sc k full)(c:rV X.K C)(n:av X.K C f)(hv:EV X e fe)(hr:Er X ny C F)(hN:N[0]?=some x:=by rfl)(mY:jS sc x:=by first | exact eN rfl | exact cP (eN rfl) | exact cP (cP rfl))(hd:(x==("__debug__":Str))=false:=by rfl)(dN:(x==("__classdict__":Str))=false:=by rfl)
  (hs:swapsWith e (some (.Attribute (.Name x p1) f pos')) pos.line X.env=pure false:=by rfl):Er X (.Assign [.Attribute (.Name x p1) f pos'] e pos::ny) C (dR f fe F):=b8P hv hr c n (h.ix hN) (h.r0 mY) hd dN hs
end
structure uw(K:aQ)(C R:Addr)(b:Bool):Prop where
 ha:mw K (.ref C) "__class__" = some (some (.builtin "object.__class__"))
 hn:K3 K (.builtin "object.__class__") "__get__" = some (some (.builtin "getset_descriptor.__get__"))
 ht:SA K (.builtin "object.__class__")=some true
 hm:vI K C (.type "object")=some true
 k:vJ K (.ref C) (.ref R)=some b
def IL(K:aQ)(R:Addr)(tab:List (Str×Bool)):Prop:=∀c b,tab.lookup c=some b->yf K c λC=>uw K C R b
theorem b8T{K:aQ}{R:Addr}:IL K R []:=λ_ _ e=>nomatch e
theorem zC{K:aQ}{c:Str}{C R:Addr}{b:Bool}{tab:List (Str×Bool)}(h:dI K c C)(i:uw K C R b)(T:IL K R tab):IL K R ((c,b)::tab):=λc' b' e=>by
 rw [qy] at e
 by_cases z:(c'==c)=true
 .rw [z] at e
  cases e
  obtain rfl:c'=c:=by simpa using z
  exact h.n i
 .rw [Nl] at z
  rw [z] at e
  exact T c' b' e
noncomputable def Cp(tab:List (Str×Bool)):D->Option Sl
 | .obj c _ _=>(tab.lookup c).map λb=>.sh (.bl b)
 | _=>none
noncomputable def Fu(tab:List (Str×Bool))(fo:En->Option Sl):En->Option Sl:=λenv=>(fo env).bind λr=>Cp tab r.d
section
variable {X:Cx}{a:Expr}{p p2 pos:Pos}{fa:En->Option Sl}
theorem b4F{R:Addr}:ud X (.builtin "isinstance") (λxs H Q=>∃a C dx fs b,xs=[.ref a,.ref R]/\H a=some (.ins C dx fs)/\rV X.K C/\uw X.K C R b/\Q (.bl b) H):=by
 intro pins s σ H xs us Q I r h
 obtain ⟨a,C,dx,fs,b,rfl,ha,hc,hi,q⟩:=h
 obtain ⟨u,v,rfl,ru,rv⟩:=r.two
 cases ru;cases rv
 exact b2t (x:=.ref a) I rfl (lI.ins ha hc hi.ha hi.hn hi.ht hi.hm) hi.k λtk=>⟨.bl b,H,I.tok _,rfl,q⟩
theorem b87{x:Str}{R:Addr}{tab:List (Str×Bool)}(hg:Gl X "isinstance")(hm:X.mg "isinstance" = none)(GA:Gl X x)(Gy:X.mg x=some (.ref R))(T:IL X.K R tab)(ha:EV X a fa)
  (hd:(x==("__debug__":Str))=false:=by decide)
  (hs:starEach [a,.Name x p2] X.env=[(false,eval a X.env),(false,eval (.Name x p2) X.env)]:=by rfl)(n6:starEach [.Name x p2] X.env=[(false,eval (.Name x p2) X.env)]:=by rfl):
  EV X (.Call (.Name "isinstance" p) [a,.Name x p2] [] pos) (Fu tab fa):=by
 obtain ⟨t,pt,k⟩:=ha
 have pn:PE X (.Name x p2) (λ_ H Q=>Q (.ref R) H):=λpins s σ H Q I h=>OC I GA Gy ⟨.ref R,H,I,rfl,h⟩ hd
 refine ⟨_,Ek (b4F (R:=R)) hg hm (by decide +kernel) (nW pt (nW pn rR n6) (by rw [hs,n6])) (by decide) (by decide) (by rw [hs,n6]) (by rw [n6];rfl),λO B σ H env s Q R e q=>?_⟩
 obtain ⟨r,e1,e2⟩:=bind_some e
 refine k O B σ H env r _ R e1 λv H1 s1 r1=>?_
 have hi:=r1.is λq=>R.oo
 cases hd:r.d with
 | obj c ns ds =>
  rw [hd] at e2 hi
  obtain ⟨b,e3,e4⟩:=map_some (show (tab.lookup c).map (λb=>Sl.sh (.bl b))=some s from e2)
  subst e4
  cases hi with
  | obj ho hn hp hl hs =>
   obtain ⟨c1,c2⟩:=T c b e3 _ hn
   exact ⟨_,_,_,_,b,rfl,hp,c1,c2,q _ H1 s1 (Is.bl _)⟩
 | _=>rw [hd] at e2;cases e2
end
end DL
namespace DL
open PySem PySem.Spec PyProof.Rows L2
noncomputable def nC{α:Type}:List Str->List α->Str->Option α
 | k::ks,x::xs,y=>if k=y then some x else nC ks xs y
 | _,_,_=>none
noncomputable def lV{α:Type}:List Str->List α->Str->α->List α
 | k::ks,x::xs,y,z=>(if k=y then z else x)::lV ks xs y z
 | _,xs,_,_=>xs
noncomputable def Dc(ks:List Str)(y:Str):List Str:=if y∈ks then ks else ks++[y]
noncomputable def xX{α:Type}(ks:List Str)(xs:List α)(y:Str)(z:α):List α:=if y∈ks then lV ks xs y z else xs++[z]
theorem Lx:∀(ks:List Str) (vs:List V) (k:Str),lU ((ks.zip vs).map λq=>((.inr q.1:Key),q.2)) (.inr k)=nC ks vs k
 | [],_,_=>rfl
 | _::_,[],_=>rfl
 | n::ks,v::vs,k=>by
  unfold lU
  rw [G1,jJ,FK,nC]
  by_cases h:n=k
  .simp [h]
  .have:¬((Az n:Key)=.inr k):=λz=>h (Na z)
   simp only [this,decide_false,if_neg h]
   exact Lx ks vs k
theorem Yx:∀(ks:List Str) (vs:List V) (k:Str),ks.length=vs.length->(((ks.zip vs).map λq=>((.inr q.1:Key),q.2)).any λkv=>decide (kv.1=(.inr k:Key)))=decide (k∈ks)
 | [],_,_,_=>by simp
 | _::_,[],_,h=>by cases h
 | n::ks,v::vs,k,h=>by
  rw [G1,jJ,M8,Yx ks vs k (by simpa using h)]
  by_cases e:n=k
  .simp [e]
  .have:¬((Az n:Key)=.inr k):=λz=>e (Na z)
   have e':¬(k=n):=λz=>e z.symm
   simp [this,e']
theorem YG:∀(ks:List Str) (vs:List V) (k:Str) (v:V),((ks.zip vs).map λq=>((.inr q.1:Key),q.2)).map (λkv=>if kv.1=(.inr k:Key) then (kv.1,v) else kv)=(ks.zip (lV ks vs k v)).map λq=>((.inr q.1:Key),q.2)
 | [],_,_,_=>rfl
 | _::_,[],_,_=>rfl
 | n::ks,x::vs,k,v=>by
  rw [lV,G1,G1,jJ,jJ,jJ,YG ks vs k v]
  by_cases e:n=k
  .have:(Az n:Key)=.inr k:=by rw [e]
   simp [this,e]
  .have:¬((Az n:Key)=.inr k):=λz=>e (Na z)
   simp [this,e]
theorem ZX{α:Type}:∀(ks:List Str) (xs:List α) (y:Str) (z:α),(lV ks xs y z).length=xs.length
 | [],xs,_,_=>by cases xs<;>rfl
 | _::_,[],_,_=>rfl
 | k::ks,x::xs,y,z=>by rw [lV,jK,jK,ZX ks xs y z]
theorem b3I{α:Type}{ks:List Str}{xs:List α}(h:ks.length=xs.length)(y:Str)(z:α):(Dc ks y).length=(xX ks xs y z).length:=by
 unfold Dc xX
 split
 .rw [ZX];exact h
 .rw [fZ,fZ,h];rfl
theorem b8e{ks:List Str}{vs:List V}(h:ks.length=vs.length)(k:Str)(v:V):HO.dK (putK ((ks.zip vs).map λq=>((.inr q.1:Key),q.2)) (.inr k) v)=DO (Dc ks k) (xX ks vs k v):=by
 unfold putK Dc xX
 rw [Yx ks vs k h]
 by_cases e:k∈ks
 .simp only [e,decide_true,if_true]
  congr 1
  exact YG ks vs k v
 .simp only [e,decide_false,if_false]
  congr 1
  rw [List.zip_append h,nA]
  rfl
theorem bx.lV{K:aQ}{O:Addr->Prop}{H:Hp}{y:Str}{v:V}{d:D}(h:Is K O H v d):∀{ks:List Str} {vs:List V} {ds:List D},bx K O H vs ds->bx K O H (DL.lV ks vs y v) (DL.lV ks ds y d)
 | [],_,_,.nil=>.nil
 | [],_,_,.cons a t=>.cons a t
 | _::_,_,_,.nil=>.nil
 | k::ks,_,_,.cons a t=>by
  unfold DL.lV
  refine .cons ?_ (bx.lV h t)
  split
  .exact h
  .exact a
theorem bx.QG{K:aQ}{O:Addr->Prop}{H:Hp}{y:Str}{v:V}{d:D}(h:Is K O H v d){ks:List Str}{vs:List V}{ds:List D}(t:bx K O H vs ds):bx K O H (xX ks vs y v) (xX ks ds y d):=by
 unfold xX
 split
 .exact bx.lV h t
 .exact t.append (.cons h .nil)
theorem Ly{K:aQ}{O:Addr->Prop}{H:Hp}{y:Str}:∀{ks:List Str} {vs:List V} {ds:List D},bx K O H vs ds->(nC ks ds y=none/\nC ks vs y=none)\/∃v d,nC ks ds y=some d/\nC ks vs y=some v/\Is K O H v d
 | [],_,_,_=>.inl ⟨by cases ‹List D›<;>rfl,by cases ‹List V›<;>rfl⟩
 | _::_,_,_,.nil=>.inl ⟨rfl,rfl⟩
 | k::ks,_,_,.cons a t=>by
  unfold nC
  split
  .exact .inr ⟨_,_,rfl,rfl,a⟩
  .exact Ly t
noncomputable def FV:Option Sl->Option Str
 | some (.sh (.str n))=>some n
 | _=>none
theorem OE{o:Option Sl}{n:Str}(h:FV o=some n):o=some (.sh (.str n)):=by
 unfold FV at h
 split at h
 .cases h;rfl
 .cases h
section
variable {X:Cx}{e a b k v:Expr}{fa fb fk fv:En->Option Sl}{pos p1 p2 aR:Pos}{i:Nat}{x:Str}
noncomputable def RQ:En->Option Sl:=λ_=>some (.tw [] [])
theorem b6N:EV X (.Dict [] [] pos) RQ:=⟨_,b3R,λO B σ H env r Q R e q=>by
 cases e
 exact λp hp=>q _ _ (o9 hp _) ⟨p,[],rfl,hp,og,rfl,.nil⟩⟩
noncomputable def Gp(i:Nat)(f g:En->Option Sl):SF:=λenv=>match env[i]? with
 | some (.tw ks ds)=>(f env).bind λr=>(FV (g env)).bind λk=>if ks.length<16777216 then some (.nx,env.set i (.tw (Dc ks k) (xX ks ds k r.d))) else none
 | _=>none
theorem b5B(ha:EV X e fa)(hb:EV X b fb)(hu:X.A.units+1<cLine)(hN:X.N[i]?=some x)(hv:jS X.env.scope x)(hd:(x==("__debug__":Str))=false:=by decide)(dN:(x==("__classdict__":Str))=false:=by decide)
  (hs:swapsWith e (some (.Subscript (.Name x p1) b p2)) pos.line X.env=pure false:=by rfl):SV X (.Assign [.Subscript (.Name x p1) b p2] e pos) (Gp i fa fb):=by
 obtain ⟨ta,pa,ka⟩:=ha
 obtain ⟨tb,pb,kb⟩:=hb
 refine ⟨_,b5Z hu (ya hN hv hd dN) pb pa hs,λO B σ H env fl ak Dn R e q=>?_⟩
 unfold Gp at e
 split at e
 .rename_i ks ds he
  obtain ⟨r,e1,e⟩:=bind_some e
  obtain ⟨n,e2,e⟩:=bind_some e
  obtain ⟨hl,e3⟩:=lS e
  cases e3
  obtain ⟨p,vs,f1,f2,f3,f4,f5⟩:=R.tw i ks ds he
  refine ka O B σ H env _ _ R e1 λvv H1 s1 r1=>⟨_,f1,?_⟩
  refine kb O B σ H1 env _ _ (R.grow s1) (OE e2) λvk H2 s2 r2=>?_
  have h2:vk=.str n:=Hj r2
  subst h2
  have hi:=(r1.is λq=>R.oo).grow s2
  refine ⟨p,_,rfl,A5.k (k:=.inr n) (s2 _ _ (s1 _ _ f3)) (by rw [eD,SX,rH];omega),?_⟩
  obtain ⟨R',g'⟩:=(R.grow (s1.trans s2)).wrT (ks':=Dc ks n) (ds':=xX ks ds n r.d) (vs':=xX ks vs n vv) he f1 (b3I f4 n vv) (((f5.grow s1).grow s2).QG hi)
  rw [b8e f4]
  exact q _ _ R' (g'.from (s1.trans s2))
 .cases e
noncomputable def Ft(fd fk:En->Option Sl):En->Option Sl:=λenv=>(fd env).bind λr=>(FV (fk env)).bind λk=>match r.d with
 | .g0 ks ds=>(nC ks ds k).map Sl.sh
 | .kW ks ds=>(nC ks ds k).map Sl.sh
 | _=>none
theorem b6O(ha:EV X a fa)(hb:EV X b fb)(hu:X.A.units+1<cLine)(hs:Dr b):EV X (.Subscript a b pos) (Ft fa fb):=by
 obtain ⟨ta,pa,ka⟩:=ha
 obtain ⟨tb,pb,kb⟩:=hb
 refine ⟨_,b57 hu pa pb hs,λO B σ H env s Q R e q=>?_⟩
 obtain ⟨r,e0,e⟩:=bind_some e
 obtain ⟨n,e1,e⟩:=bind_some e
 refine ka O B σ H env _ _ R e0 λvd H1 s1 r1=>kb O B σ H1 env _ _ (R.grow s1) (OE e1) λvk H2 s2 r2=>?_
 have h2:vk=.str n:=Hj r2
 subst h2
 have hi:=(r1.is λq=>R.oo).grow s2
 cases hd:r.d with
 | g0 ks ds =>
  rw [hd] at hi e
  obtain ⟨d,e3,rfl⟩:=map_some e
  cases hi with
  | g0 ho hp hl hs =>
   rcases Ly (y:=n) hs with ⟨z,_⟩ | ⟨v,d',z1,z2,z3⟩
   .rw [e3] at z;cases z
   .rw [e3] at z1
    cases z1
    exact ⟨_,v,rfl,.inl ⟨_,.inr n,.inl hp,rfl,by rw [Lx,z2]⟩,q _ _ (s1.trans s2) z3⟩
 | kW ks ds =>
  rw [hd] at hi e
  obtain ⟨d,e3,rfl⟩:=map_some e
  cases hi with
  | kW ho hp hl hs =>
   rcases Ly (y:=n) hs with ⟨z,_⟩ | ⟨v,d',z1,z2,z3⟩
   .rw [e3] at z;cases z
   .rw [e3] at z1
    cases z1
    exact ⟨_,v,rfl,.inl ⟨_,.inr n,(.inr ⟨_,hp⟩:Rd _ _ _),rfl,by rw [Lx,z2]⟩,q _ _ (s1.trans s2) z3⟩
 | _=>rw [hd] at e;cases e
noncomputable def Ar(neg:Bool)(fk fd:En->Option Sl):En->Option Sl:=λenv=>(FV (fk env)).bind λk=>(fd env).bind λr=>match r.d with
 | .g0 ks ds=>some (.sh (.bl (neg != (nC ks ds k).isSome)))
 | .kW ks ds=>some (.sh (.bl (neg != (nC ks ds k).isSome)))
 | _=>none
theorem b3w{O:Addr->Prop}{H:Hp}{vd:V}{ks:List Str}{ds:List D}{K:aQ}(hi:Is K O H vd (.g0 ks ds))(n:Str):∃p ov,vd=.ref p/\qP H p (.str n) ov/\ov.isSome=(nC ks ds n).isSome:=by
 cases hi with
 | g0 ho hp hl hs =>
  refine ⟨_,_,rfl,.inl ⟨_,.inr n,.inl hp,rfl,rfl⟩,?_⟩
  rw [Lx]
  rcases Ly (y:=n) hs with ⟨z1,z2⟩ | ⟨v,d',z1,z2,z3⟩<;>rw [z1,z2]<;>rfl
theorem b1E{O:Addr->Prop}{H:Hp}{vd:V}{ks:List Str}{ds:List D}{K:aQ}(hi:Is K O H vd (.kW ks ds))(n:Str):∃p ov,vd=.ref p/\qP H p (.str n) ov/\ov.isSome=(nC ks ds n).isSome:=by
 cases hi with
 | kW ho hp hl hs =>
  refine ⟨_,_,rfl,.inl ⟨_,.inr n,(.inr ⟨_,hp⟩:Rd _ _ _),rfl,rfl⟩,?_⟩
  rw [Lx]
  rcases Ly (y:=n) hs with ⟨z1,z2⟩ | ⟨v,d',z1,z2,z3⟩<;>rw [z1,z2]<;>rfl
noncomputable def XF(fd:En->Option Sl):En->Option Sl:=λenv=>(fd env).bind λr=>match r.d with
 | .g0 ks ds=>some (.tw ks ds)
 | _=>none
end
end DL
namespace DL
open PySem PySem.Spec PyProof.Rows L2
section
variable {X:Cx}{N:List Str}{sc:Scope}{k:Nat}{full:Bool}{e a b:Expr}{fa fb:En->Option Sl}{pos p1 p2 p:Pos}
theorem b5x{neg:Bool}{op:CmpOp}{td:TE->TE->TE}(hc:∀ta tb,PE X a ta->PE X b tb->PC X op a b (td ta tb))(hr:∀ta tb σ H Q,td ta tb σ H Q=(ta σ H λy H1=>tb σ H1 λx H2=>∃p o,x=.ref p/\qP H2 p y o/\Q (.bl (neg != o.isSome)) H2))(ha:EV X a fa)(hb:EV X b fb)(hm:behindInMarks op b=false):
  TV X (.Compare a [op] [b] pos) (bS (Ar neg fa fb)):=by
 obtain ⟨ta,pa,ka⟩:=ha
 obtain ⟨tb,pb,kb⟩:=hb
 refine ⟨_,b8g (hc ta tb pa pb) hm,λO B σ H env c Q R e q=>?_⟩
 have e:=Di e
 obtain ⟨n,e1,e⟩:=bind_some e
 obtain ⟨r,e0,e⟩:=bind_some e
 show td ta tb σ H _
 rw [hr]
 refine ka O B σ H env _ _ R (OE e1) λvk H1 s1 r1=>kb O B σ H1 env _ _ (R.grow s1) e0 λvd H2 s2 r2=>?_
 have h2:vk=.str n:=Hj r1
 subst h2
 have hi:=r2.is λq=>(R.grow s1).oo
 cases hd:r.d with
 | g0 ks ds =>
  rw [hd] at hi e
  cases e
  obtain ⟨p,ov,rfl,g,eo⟩:=b3w hi n
  exact ⟨p,ov,rfl,g,_,by rw [eo],q _ (s1.trans s2)⟩
 | kW ks ds =>
  rw [hd] at hi e
  cases e
  obtain ⟨p,ov,rfl,g,eo⟩:=b1E hi n
  exact ⟨p,ov,rfl,g,_,by rw [eo],q _ (s1.trans s2)⟩
 | _=>rw [hd] at e;cases e
theorem Fx.H9(h:Fx X N sc k full)(ha:EV X a fa)(hb:EV X b fb)(hm:behindInMarks .NotIn b=false:=by rfl):TV X (.Compare a [.NotIn] [b] pos) (bS (Ar true fa fb)):=
 b5x (neg:=true) (td:=UE) (λta tb pa pb=>b14 (T4 h.room) pa pb) (λta tb σ H Q=>by unfold UE;simp only [Bool.true_bne]) ha hb hm
theorem Fx.Qb(h:Fx X N sc k full)(i:Nat){x:Str}(ha:EV X e fa)(hb:EV X b fb)(hN:N[i]?=some x:=by rfl)(hv:jS sc x:=by first | exact eN rfl | exact cP (eN rfl) | exact cP (cP rfl))(hd:(x==("__debug__":Str))=false:=by rfl)(dN:(x==("__classdict__":Str))=false:=by rfl)
  (hs:swapsWith e (some (.Subscript (.Name x p1) b p2)) pos.line X.env=pure false:=by rfl):SV X (.Assign [.Subscript (.Name x p1) b p2] e pos) (Gp i fa fb):=b5B ha hb (T4 h.room) (h.ix hN) (h.r0 hv) hd dN hs
theorem Fx.EA(h:Fx X N sc k full)(ha:EV X a fa)(hb:EV X b fb)(hs:Dr b:=by intro _ _;rfl):EV X (.Subscript a b pos) (Ft fa fb):=b6O ha hb (T4 h.room) hs
end
end DL
namespace DL
open PySem PySem.Spec PyProof.Rows L2
section
variable {K:aQ}{O O' L:Addr->Prop}{H:Hp}
end
section
variable {X:Cx}{e o:Expr}{es:List Expr}{f m:Str}{pos apos p:Pos}{fo:En->Option Sl}{fs:En->Option (List D)}
end
section
variable {P:Program}{w:World}{K:aQ}{mg:Str->Option Value}{base:Heap}
end
section
variable {X:Cx}{N:List Str}{sc:Scope}{k j n:Nat}{full:Bool}{e o:Expr}{es:List Expr}{m c f:Str}{pos p apos pos' p1:Pos}{fo fe:En->Option Sl}{fs:En->Option (List D)}
end
end DL
namespace DL
open PySem L2
section
variable {env:En}{Q:Sl->Prop}{fo fk fd:En->Option Sl}{fa:En->Option (List D)}
theorem b7J{cs:List Str}{f:Str}:Wo (eE cs f fo env) Q↔Wo (fo env) λr=>Wo (gS cs f r.d) λd=>Q (.sh d):=by
 unfold eE
 rw [a0n]
 exact kD λr=>a16
theorem b4R{m:Str}{n:Nat}{tab:aP}:Wo (ma m n tab fo fa env) Q↔Wo (fo env) λr=>Wo (fa env) λas=>Wo (jV m n tab r.d as) Q:=by
 unfold ma
 rw [a0n]
 exact kD λr=>a0n
theorem b9L{c:Str}{n:Nat}{ns:List Str}{ψ:List D->Option (List D)}:Wo (pK c n ns ψ fa env) Q↔Wo (fa env) λas=>as.length=n/\Wo (ψ as) λds=>Q (.sh (.obj c ns ds)):=by
 unfold pK
 rw [a0n]
 refine kD λas=>?_
 by_cases h:as.length=n
 .rw [if_pos h,a16];exact ⟨λz=>⟨h,z⟩,λz=>z.2⟩
 .rw [if_neg h];exact ⟨λz=>(Wo_none.mp z).elim,λz=>(h z.1).elim⟩
theorem b7I{tab:List (Str×Bool)}:Wo (Fu tab fo env) Q↔Wo (fo env) λr=>Wo (Cp tab r.d) Q:=a0n
theorem b9J:Wo (RQ env) Q↔Q (.tw [] []):=a0g
def Qe(d:D)(k:Str)(Q:Sl->Prop):Prop:=match d with
 | .g0 ks ds=>Wo (nC ks ds k) λd=>Q (.sh d)
 | .kW ks ds=>Wo (nC ks ds k) λd=>Q (.sh d)
 | _=>False
theorem tgQ_d{ks:List Str}{ds:List D}{k:Str}:Qe (.g0 ks ds) k Q↔Wo (nC ks ds k) λd=>Q (.sh d):=jT
theorem b9P{o:Option Sl}{Q:Str->Prop}:Wo (FV o) Q↔∃n,o=some (.sh (.str n))/\Q n:=by
 constructor
 .rintro ⟨n,e,q⟩
  exact ⟨n,OE e,q⟩
 .rintro ⟨n,rfl,q⟩
  exact ⟨n,rfl,q⟩
theorem Ut{g:En->Option Sl}{Q:Str->Prop}:Wo (FV (g env)) Q↔Wo (g env) λr=>∃n,r=.sh (.str n)/\Q n:=by
 rw [b9P]
 constructor
 .rintro ⟨n,e,q⟩;exact ⟨_,e,n,rfl,q⟩
 .rintro ⟨r,e,n,rfl,q⟩;exact ⟨n,e,q⟩
theorem Uc:Wo (Ft fd fk env) Q↔Wo (fd env) λr=>Wo (fk env) λs=>∃k,s=.sh (.str k)/\Qe r.d k Q:=by
 unfold Ft
 rw [a0n]
 refine kD λr=>?_
 rw [a0n,Ut]
 refine kD λs=>?_
 refine exists_congr λk=>and_congr_right λ_=>?_
 cases r.d<;>simp [Qe,Wo_none,a16]
def Qd(neg:Bool)(d:D)(k:Str)(Q:Sl->Prop):Prop:=match d with
 | .g0 ks ds=>Q (.sh (.bl (neg != (nC ks ds k).isSome)))
 | .kW ks ds=>Q (.sh (.bl (neg != (nC ks ds k).isSome)))
 | _=>False
theorem tiQ_d{neg:Bool}{ks:List Str}{ds:List D}{k:Str}:Qd neg (.g0 ks ds) k Q↔Q (.sh (.bl (neg != (nC ks ds k).isSome))):=jT
theorem b7B{neg:Bool}:Wo (Ar neg fk fd env) Q↔Wo (fk env) λs=>∃k,s=.sh (.str k)/\Wo (fd env) λr=>Qd neg r.d k Q:=by
 unfold Ar
 rw [a0n,Ut]
 refine kD λs=>?_
 refine exists_congr λk=>and_congr_right λ_=>?_
 rw [a0n]
 refine kD λr=>?_
 cases r.d<;>simp [Qd,Wo_none,a0g]
def Qf(d:D)(Q:Sl->Prop):Prop:=match d with
 | .g0 ks ds=>Q (.tw ks ds)
 | _=>False
theorem tcQ_d{ks:List Str}{ds:List D}:Qf (.g0 ks ds) Q↔Q (.tw ks ds):=jT
theorem b9I:Wo (XF fd env) Q↔Wo (fd env) λr=>Qf r.d Q:=by
 unfold XF
 rw [a0n]
 refine kD λr=>?_
 cases r.d<;>simp [Qf,Wo_none,a0g]
theorem b9t{i:Nat}{f g:En->Option Sl}{ks:List Str}{ds:List D}{Q:Fl×En->Prop}(he:env[i]?=some (.tw ks ds)):Wo (Gp i f g env) Q↔Wo (f env) λr=>Wo (g env) λs=>∃k,s=.sh (.str k)/\ks.length<16777216/\Q (.nx,env.set i (.tw (Dc ks k) (xX ks ds k r.d))):=by
 unfold Gp
 rw [he]
 dsimp only
 rw [a0n]
 refine kD λr=>?_
 rw [a0n,Ut]
 refine kD λs=>?_
 refine exists_congr λk=>and_congr_right λ_=>?_
 by_cases h:ks.length<16777216
 .rw [if_pos h,a0g];exact ⟨λz=>⟨h,z⟩,λz=>z.2⟩
 .rw [if_neg h];exact ⟨λz=>(Wo_none.mp z).elim,λz=>(h z.1).elim⟩
theorem Sl_tw{ks:List Str}{ds:List D}:(Sl.tw ks ds).d=.g0 ks ds:=rfl
end
end DL
namespace DL
open PySem PySem.Spec PyProof.Rows L2
def Gk(X:Cx)(es:List Expr)(f:En->Option (List D×En)):Prop:=
 ∃t:TA,PA X es t/\∀(O:Addr->Prop) (B:Hp) (σ:L2.St) (H:Hp) (env:En) (ds:List D) (ak:En) (Q:List V->Hp->Prop),Rel X.K O B σ H env->f env=some (ds,ak) ->
  (∀vs H',Rel X.K O B σ H' ak->Gd σ env H σ ak H'->bx X.K (OO O σ ak) H' vs ds->Q vs H')->t σ H Q
def Mv(X:Cx)(e:Expr)(f:En->Option (D×En)):Prop:=
 ∃t:TE,PE X e t/\∀(O:Addr->Prop) (B:Hp) (σ:L2.St) (H:Hp) (env:En) (d:D) (ak:En) (Q:VK),Rel X.K O B σ H env->f env=some (d,ak) ->
  (∀v H',Rel X.K O B σ H' ak->Gd σ env H σ ak H'->Is X.K (OO O σ ak) H' v d->Q v H')->t σ H Q
noncomputable def wz(i:Nat)(env:En):Option (D×En):=match env[i]? with
 | some (.ow ds)=>(ds[ds.length-1]?).map λd=>(d,env.set i (.ow ds.dropLast))
 | _=>none
noncomputable def F2(i:Nat)(fs:En->Option (List D)):En->Option (List D×En):=λenv=>(wz i env).bind λp=>(fs p.2).map λrs=>(p.1::rs,p.2)
noncomputable def Lr(f:En->Option Sl)(g:En->Option (List D×En)):En->Option (List D×En):=λenv=>(f env).bind λr=>(g env).map λp=>(r.d::p.1,p.2)
noncomputable def Lh(g:En->Option (List D×En)):En->Option (D×En):=λenv=>(g env).bind λp=>if p.1.length<=16777216 then some (.tup p.1,p.2) else none
noncomputable def Lu(n:Nat)(φ:List D->Option Sl)(g:En->Option (List D×En)):En->Option (D×En):=λenv=>(g env).bind λp=>if p.1.length=n then (φ p.1).map λr=>(r.d,p.2) else none
noncomputable def D4(i:Nat)(g:En->Option (D×En)):SF:=λenv=>match env[i]? with
 | some (.ow _)=>(g env).bind λp=>match p.2[i]? with
  | some (.ow ds)=>if ds.length<16777216 then some (.nx,p.2.set i (.ow (ds++[p.1]))) else none
  | _=>none
 | _=>none
theorem Gd.W4{K:aQ}{O:Addr->Prop}{σ bz:L2.St}{env ak:En}{H H':Hp}(g:Gd σ env H bz ak H'){v:V}{d:D}(h:Is K (OO O σ env) H v d):Is K (OO O bz ak) H' v d:=by
 cases g.JB (.cons h .nil) with
 | cons h _=>exact h
section
variable {X:Cx}{e:Expr}{es:List Expr}{pos p1 p2 aR p:Pos}{fs:En->Option (List D)}{fe:En->Option Sl}{g:En->Option (List D×En)}
theorem b7d{i:Nat}{x:Str}(hb:AV X es fs)(hN:X.N[i]?=some x)(hv:jS X.env.scope x)(hd:(x==("__debug__":Str))=false:=by decide)
  (dN:(x==("__classdict__":Str))=false:=by decide)
  (cZ:attributeBase (.Name x p1) "pop" X.env (eval (.Name x p1) X.env)=eval (.Name x p1) X.env:=by rfl)
  (cX:(p2.endLine==aR.line)=true:=by rfl)
  (hs:starEach (.Call (.Attribute (.Name x p1) "pop" p2) [] [] aR::es) X.env=(false,eval (.Call (.Attribute (.Name x p1) "pop" p2) [] [] aR) X.env)::starEach es X.env:=by rfl):
  Gk X (.Call (.Attribute (.Name x p1) "pop" p2) [] [] aR::es) (F2 i fs):=by
 obtain ⟨u,pu,ku⟩:=hb
 refine ⟨_,nW (Y8 Lc Th XY Y4 (ya hN hv hd dN) cZ cX) pu hs,λO B σ H env ds ak Q R e q=>?_⟩
 obtain ⟨⟨d,cO⟩,e1,e2⟩:=bind_some e
 obtain ⟨rs,e3,e4⟩:=map_some e2
 cases e4
 unfold wz at e1
 split at e1
 .rename_i ds he
  obtain ⟨d',e5,e6⟩:=map_some e1
  cases e6
  obtain ⟨l,xs,f1,f2,f3,f4⟩:=R.ow i ds he
  obtain ⟨v,Q9,Q8⟩:=f4.get e5
  obtain ⟨R',g'⟩:=R.wr he f1 f4.dropLast
  refine ⟨_,f1,.inl ⟨rfl,_,jm.of f3⟩,l,xs,v,rfl,rfl,f3,by rw [f4.length];exact Q9,?_⟩
  refine ku O B σ _ _ rs _ R' e3 λvs H2 s2 r2=>q _ H2 (R'.grow s2) (g'.trans (Gd.refl s2)) (.cons ((g'.W4 Q8).grow s2) r2)
 .cases e1
theorem Zl(ha:EV X e fe)(hb:Gk X es g)(hs:starEach (e::es) X.env=(false,eval e X.env)::starEach es X.env:=by rfl):Gk X (e::es) (Lr fe g):=by
 obtain ⟨t,pt,k⟩:=ha
 obtain ⟨u,pu,ku⟩:=hb
 refine ⟨_,nW pt pu hs,λO B σ H env ds ak Q R e q=>?_⟩
 obtain ⟨r,e1,e2⟩:=bind_some e
 obtain ⟨⟨rs,cO⟩,e3,e4⟩:=map_some e2
 cases e4
 refine k O B σ H env r _ R e1 λv H1 s1 r1=>?_
 refine ku O B σ H1 env rs cO _ (R.grow s1) e3 λvs H2 R2 g2 r2=>q _ H2 R2 (g2.from s1) (.cons (g2.W4 (r1.is λq=>R.oo)) r2)
theorem YT{x1}(h:Gk X es g):Mv X (.Tuple es x1 pos) (Lh g):=by
 obtain ⟨t,pt,k⟩:=h
 refine ⟨_,Y' pt,λO B σ H env r ak Q R e q=>?_⟩
 obtain ⟨⟨ds,cO⟩,e1,e2⟩:=bind_some e
 obtain ⟨hl,e3⟩:=lS e2
 cases e3
 refine k O B σ H env ds cO _ R e1 λvs H1 R1 g1 r1=>⟨by rw [r1.length,rH];exact hl,λp hp=>?_⟩
 exact q _ _ (R1.grow (o9 hp _)) (g1.trans (Gd.refl (o9 hp _))) (LI (O:=OO O σ cO) (H:=H1) (λ_ z=>R1.oo z) hp r1)
theorem b6S{k:Nat}{f:Addr}{fd:FuncData}{ps:List Str}{φ:List D->Option Sl}{x:Str}(F:cR X.prog X.w X.K X.mg X.base jY k f fd ps (wb X.K ps.length φ))(hr:c6 k X.A)(hg:Gl X x)(hm:X.mg x=some (.ref f))(hk:BG X.K (.ref f)=true)(hb:Binds X.K fd ps [])
  (ha:Gk X (e::es) g)(lz:(x==("__debug__":Str))=false:=by decide)(he:starEach (e::es) X.env=(false,eval e X.env)::starEach es X.env:=by rfl)(g8:(backTo pos (starEach es X.env)).any (·.1)=false:=by rfl):
  Mv X (.Call (.Name x p) (e::es) [] pos) (Lu ps.length φ g):=by
 obtain ⟨t,pt,ka⟩:=ha
 refine ⟨_,ZP F hr hg hm hk hb .nil (He (X:=X)) pt lz he g8,λO B σ H env r ak Q R e q=>?_⟩
 obtain ⟨⟨ds,cO⟩,e1,e2⟩:=bind_some e
 refine ka O B σ H env ds cO _ R e1 λvs H1 R1 g1 r1=>?_
 obtain ⟨hl,e3⟩:=Lf e2
 obtain ⟨r',e4,e5⟩:=map_some e3
 cases e5
 rw [vK]
 exact ⟨OO O σ cO,ds,r',R1.dm,r1,by rw [r1.length];exact hl,e4,λv H2 s2 r2=>q v H2 (R1.grow s2) (g1.trans (Gd.refl s2)) (r2.is λq=>R1.oo)⟩
theorem b5H{i:Nat}{x:Str}{g:En->Option (D×En)}(ha:Mv X e g)(hN:X.N[i]?=some x)(hv:jS X.env.scope x)(hd:(x==("__debug__":Str))=false:=by decide)
  (dN:(x==("__classdict__":Str))=false:=by decide)(hs:starEach [e] X.env=[(false,eval e X.env)]:=by rfl)
  (cZ:attributeBase (.Name x p1) "append" X.env (eval (.Name x p1) X.env)=eval (.Name x p1) X.env:=by rfl)
  (lx:((backTo aR (starEach [e] X.env)).all (λx=>!x.1)&&(backToKw aR (keywordEach [] X.env)).all (λx=>x.1.isSome)
   && decide ([e].length+([]:List Keyword).length+(if ([]:List Keyword).isEmpty then 0 else 1)<30))=true:=by rfl)
  (cX:(p2.endLine==aR.line)=true:=by rfl)
  (Ae:swapsWith (.Call (.Attribute (.Name x p1) "append" p2) [e] [] aR) none pos.line X.env=pure false:=by rfl):
  SV X (.Expr (.Call (.Attribute (.Name x p1) "append" p2) [e] [] aR) pos) (D4 i g):=by
 obtain ⟨t,pt,k⟩:=ha
 refine ⟨_,LM (Ub Lc S9 Yw a8X (ya hN hv hd dN) (nW pt rR hs) cZ lx cX hs rfl) Ae,λO B σ H env fl ak Dn R e q=>?_⟩
 unfold D4 at e
 split at e
 .rename_i ds0 he
  obtain ⟨⟨d,cO⟩,e1,e2⟩:=bind_some e
  dsimp only at e2
  split at e2
  .rename_i ds Xl
   obtain ⟨hl,e3⟩:=lS e2
   cases e3
   obtain ⟨l,xs,f1,f2,f3,f4⟩:=R.ow i ds0 he
   refine ⟨_,f1,.inl ⟨rfl,_,jm.of f3⟩,?_⟩
   refine k O B σ H env d cO _ R e1 λv H1 R1 g1 r1=>?_
   obtain ⟨l',nY,h1,h2,h3,h4⟩:=R1.ow i ds Xl
   rw [f1] at h1
   cases h1
   refine ⟨l,nY,v,rfl,rfl,h3,by rw [h4.length,rH];exact hl,?_⟩
   obtain ⟨R',g'⟩:=R1.wr Xl f1 (h4.append (.cons r1 .nil))
   exact q _ _ R' (g1.trans g')
  .cases e2
 .cases e
variable {N:List Str}{sc:Scope}{k j:Nat}{full:Bool}
theorem Fx.Uw(h:Fx X N sc k full)(i:Nat){x:Str}(hb:AV X es fs)(hN:N[i]?=some x:=by rfl)(hv:jS sc x:=by first | exact eN rfl | exact cP (eN rfl) | exact cP (cP rfl))(hd:(x==("__debug__":Str))=false:=by rfl)
  (dN:(x==("__classdict__":Str))=false:=by rfl)
  (cZ:attributeBase (.Name x p1) "pop" X.env (eval (.Name x p1) X.env)=eval (.Name x p1) X.env:=by rfl)
  (cX:(p2.endLine==aR.line)=true:=by rfl)
  (hs:starEach (.Call (.Attribute (.Name x p1) "pop" p2) [] [] aR::es) X.env=(false,eval (.Call (.Attribute (.Name x p1) "pop" p2) [] [] aR) X.env)::starEach es X.env:=by rfl):
  Gk X (.Call (.Attribute (.Name x p1) "pop" p2) [] [] aR::es) (F2 i fs):=b7d hb (h.ix hN) (h.r0 hv) hd dN cZ cX hs
theorem Fx.clP(h:Fx X N sc k full){x:Str}{st:Stmt}{ps:List Str}{φ:List D->Option Sl}(O:Oz X.prog X.w X.K X.mg X.base x st ps j φ)(ha:Gk X (e::es) g)(hj:j<=k:=by decide)(hg:sc.names.lookup x=some .globalImplicit:=by rfl)(lz:(x==("__debug__":Str))=false:=by decide)(he:starEach (e::es) X.env=(false,eval e X.env)::starEach es X.env:=by rfl)(g8:(backTo pos (starEach es X.env)).any (·.1)=false:=by rfl):
  Mv X (.Call (.Name x p) (e::es) [] pos) (Lu ps.length φ g):=by
 obtain ⟨f,fd,D',F⟩:=O
 exact b6S F (h.room.mono hj) (h.g hg) D'.m D'.fn.kp D'.bd ha lz he g8
theorem Fx.FW(h:Fx X N sc k full)(i:Nat){x:Str}{g:En->Option (D×En)}(ha:Mv X e g)(hN:N[i]?=some x:=by rfl)(hv:jS sc x:=by first | exact eN rfl | exact cP (eN rfl) | exact cP (cP rfl))(hd:(x==("__debug__":Str))=false:=by rfl)
  (dN:(x==("__classdict__":Str))=false:=by rfl)(hs:starEach [e] X.env=[(false,eval e X.env)]:=by rfl)
  (cZ:attributeBase (.Name x p1) "append" X.env (eval (.Name x p1) X.env)=eval (.Name x p1) X.env:=by rfl)
  (lx:((backTo aR (starEach [e] X.env)).all (λx=>!x.1)&&(backToKw aR (keywordEach [] X.env)).all (λx=>x.1.isSome)
   && decide ([e].length+([]:List Keyword).length+(if ([]:List Keyword).isEmpty then 0 else 1)<30))=true:=by rfl)
  (cX:(p2.endLine==aR.line)=true:=by rfl)
  (Ae:swapsWith (.Call (.Attribute (.Name x p1) "append" p2) [e] [] aR) none pos.line X.env=pure false:=by rfl):
  SV X (.Expr (.Call (.Attribute (.Name x p1) "append" p2) [e] [] aR) pos) (D4 i g):=b5H ha (h.ix hN) (h.r0 hv) hd dN hs cZ lx cX Ae
end
end DL
namespace DL
open PySem PySem.Spec PyProof.Rows L2
section
variable {X:Cx}
end
end DL
namespace DL
open PySem PySem.Spec PyProof.Rows L2
section
variable {X:Cx}{N N':List Str}{sc eT:Scope}{k:Nat}{full:Bool}{elt iter tg:Expr}{ifs:List Expr}{pos:Pos}{fi:En->Option (List D)}{caps:List Nat}{nt:Nat}{g:GF}{fc:En->Option Bool}{fe:En->Option Sl}
end
section
variable {K:aQ}{O:Addr->Prop}{B H H':Hp}{σ:L2.St}{env:En}{p C dx:Addr}
theorem Rel.rebase(R:Rel K O B σ H env)(no:∀(i:Nat) s,env[i]?=some s->¬s.own):Rel K O H σ H env:=
 ⟨aG.refl _,R.tK.grow R.same,R.len,R.sh,λi es e=>(no i _ e trivial).elim,λi es e=>(no i _ e trivial).elim,λi ks es e=>(no i _ e trivial).elim,R.sep⟩
theorem Rel.WB{fs:List (Str×V)}(R:Rel K O H σ H env)(no:∀(i:Nat) s,env[i]?=some s->¬s.own)(op:O p)(hp:H p=some (.ins C dx fs))(kp:∀q u,H q=some u->q≠p->H' q=some u)(wY:H' p≠none):Rel K O H' σ H' env:=by
 refine ⟨aG.refl _,⟨λq hq=>?_,λc' P e'=>?_⟩,R.len,λi d e=>?_,λi es e=>(no i _ e trivial).elim,λi es e=>(no i _ e trivial).elim,λi ks es e=>(no i _ e trivial).elim,λi j es fs q e1 _ _ _ o _=>(no i _ e1 o).elim⟩
 .by_cases z:q=p
  .rw [z];exact wY
  .cases hz:H q with
   | none=>exact absurd hz (R.tK.1 q hq)
   | some u=>rw [kp _ _ hz z];exact λz=>nomatch z
 .have e3:=R.tK.2 c' P e'
  exact kp _ _ e3 λz=>by rw [z,hp] at e3;cases e3
 .obtain ⟨w,f1,f2⟩:=R.sh i d e
  exact ⟨w,f1,f2.map (λ_ _ z=>z) λq u e nq=>kp q u e λz=>nq (by rw [z];exact .inl op)⟩
end
noncomputable abbrev IF:=En->List Str->List D->Option (List Str×List D)
def A1(X:Cx)(ny:List Stmt)(C:Addr)(F:IF):Prop:=
 ∃t:TS,rT X ny t/\∀(O:Addr->Prop) (σ:L2.St) (H:Hp) (env:En) (p dx:Addr) (ns:List Str) (us:List V) (ds:List D) (lW:List Str) (ds':List D) (Dn:Ends),Rel X.K O H σ H env->(∀(i:Nat) s,env[i]?=some s->¬s.own)->O p->σ[0]?=some (some (V.ref p))->H p=some (.ins C dx (ns.zip us))->ns.length=us.length->bx X.K O H us ds->F env ns ds=some (lW,ds') ->
  (∀(bz:L2.St) (H':Hp) (r6:List V),(∀q u,H q=some u->q≠p->H' q=some u)->H' p=some (.ins C dx (lW.zip r6))->lW.length=r6.length->bx X.K O H' r6 ds'->Dn.nx bz H')->t Dn σ H
noncomputable def Lj(n:Nat)(D3:List Str)(ψ:List D->Option (List D))(fa:En->Option (List D))(F:IF):IF:=λenv ns _=>if ns=[] then (fa env).bind λas=>if as.length=n then (ψ as).bind λgs=>F env D3 gs else none else none
section
variable {X:Cx}{C:Addr}{F:IF}{st:Stmt}{ny:List Stmt}
theorem Ug:A1 X [] C jz:=⟨_,UA,λO σ H env p dx ns us ds lW ds' Dn R no op hs hp hl hi e q=>by
 cases (show some (ns,ds)=some (lW,ds') from e)
 exact q σ H us (λ_ _ e _=>e) hp hl hi⟩
theorem b8O{e:Expr}{f x:Str}{fe:En->Option Sl}{p1 pos' pos:Pos}(hv:EV X e fe)(hr:A1 X ny C F)(c:rV X.K C)(n:av X.K C f)
  (hN:X.N[0]?=some x)(mY:jS X.env.scope x)(hd:(x==("__debug__":Str))=false:=by rfl)(dN:(x==("__classdict__":Str))=false:=by rfl)
  (hs:swapsWith e (some (.Attribute (.Name x p1) f pos')) pos.line X.env=pure false:=by rfl):A1 X (.Assign [.Attribute (.Name x p1) f pos'] e pos::ny) C (dR f fe F):=by
 obtain ⟨t,pt,k⟩:=hv
 obtain ⟨u,pu,ku⟩:=hr
 refine ⟨_,OH (Zb (ya hN mY hd dN) pt hs) pu,λO σ H env p dx ns us ds lW ds' Dn R no op hs hp hl hi e q=>?_⟩
 obtain ⟨r,e1,e2⟩:=bind_some e
 split at e2
 .cases e2
 rename_i Ah
 rw [not_or] at Ah
 refine k O H σ H env r _ R e1 λv H1 s1 r1=>?_
 have iv:=(r1.is λq=>R.oo).less (O':=O) λq z=>.inl z
 refine ⟨.ref p,hs,p,C,dx,ns.zip us,rfl,s1 _ _ hp,c,n,by rw [SX];omega,?_⟩
 rw [UB Ah.1 hl]
 have kp:∀q u,H1 q=some u->q≠p->upd H1 p (.ins C dx ((ns++[f]).zip (us++[v]))) q=some u:=λq u e ne=>by rw [g9 ne];exact e
 have mp:∀{w:V} {d:D},Is X.K O H1 w d->Is X.K O (upd H1 p (.ins C dx ((ns++[f]).zip (us++[v])))) w d:=λh=>h.map (λ_ _ z=>z) λq u e nq=>kp q u e λz=>nq (by rw [z];exact op)
 have QS:∀{w:List V} {d:List D},bx X.K O H1 w d->bx X.K O (upd H1 p (.ins C dx ((ns++[f]).zip (us++[v])))) w d:=λh=>h.map (λ_ _ z=>z) λq u e nq=>kp q u e λz=>nq (by rw [z];exact op)
 have R1:Rel X.K O H1 σ H1 env:=(R.grow s1).rebase no
 exact ku O σ _ env p dx (ns++[f]) (us++[v]) (ds++[r.d]) lW ds' Dn (R1.WB no op (s1 _ _ hp) kp (by rw [og];exact λz=>nomatch z)) no op hs og (by rw [fZ,fZ,hl];rfl) ((QS (hi.grow s1)).append (.cons (mp iv) .nil)) e2 λbz H' r6 kq wY Cv vg=>q bz H' r6 (λq u e ne=>kq q u (kp q u (s1 _ _ e) ne) ne) wY Cv vg
structure qQ(K:aQ)(C0 m:Addr):Prop where
 g:K3 K (.ref C0) "__getattribute__" = some (some (.builtin "type.__getattribute__"))
 r:XJ K C0 (.type "type")=true
 f:XI K (.ref C0) (.type "type") "__init__" = some (.val (.ref m))
 k:BG K (.ref m)=true
theorem b6b{c:Str}{C0 f:Addr}{fd:FuncData}{ps:List Str}{j:Nat}{sp:Sp}{e:Expr}{es:List Expr}{t:TA}{p apos pos:Pos}{pl:Sem Bool}(b:qQ X.K C0 f)(Fn:cR X.prog X.w X.K X.mg X.base jY j f fd ps sp)(hr:c6 j X.A)(hg:Gl X c)(hm:X.mg c=some (.ref C0))(hb:Binds X.K fd ps [])(ha:PA X (e::es) t)
  (lz:(c==("__debug__":Str))=false:=by decide)(l6:starEach (e::es) X.env=(false,eval e X.env)::starEach es X.env:=by rfl)(g8:(backTo pos (starEach es X.env)).any (·.1)=false:=by rfl)
  (ht:eval (.Call (.Attribute (.Name c p) "__init__" apos) (e::es) [] pos) X.env=(eval (.Name c p) X.env >>= λov=>standAt apos.atName >>= λ_=>holding [ov] (getMethod ov "__init__" pl) >>= λz=>callWith pos z.1 z.2 (backTo pos (starEach (e::es) X.env)) (backToKw pos (keywordEach [] X.env))):=by rfl):
  PE X (.Call (.Attribute (.Name c p) "__init__" apos) (e::es) [] pos) (Ua sp [] E0 t):=by
 intro pins s σ H Q I h
 refine S6 (pl:=pl) (OC I hg hm ?_ lz) ht
 refine PySem.W.method_cls I.kU b.g (PySem.W.cls_value I.kU b.r b.f rfl ?_)
 have I1:Inv X pins σ H { s with toks:=s.toks+1 }:=I.tok _
 refine NB (first:=[]) (h₀:=X.base) I.ok.mod.Gv b.k (cq (ha pos pins _ σ H _ I1 h) λus s1 ⟨vs,H1,I1,r,q⟩=>⟨I1.kU,?_⟩) l6 g8
 exact N2 Fn hr hb .nil He I1 r q
theorem b6x{c x:Str}{C0 f:Addr}{fd:FuncData}{ps:List Str}{j n:Nat}{D3:List Str}{ψ:List D->Option (List D)}{fs:En->Option (List D)}{es:List Expr}{p p1 apos aR pos:Pos}{pl:Sem Bool}(b:qQ X.K C0 f)(Fn:cR X.prog X.w X.K X.mg X.base jY j f fd ps (Gn X.K C n D3 ψ))(hrm:c6 j X.A)(hg:Gl X c)(hm:X.mg c=some (.ref C0))(hb:Binds X.K fd ps [])
  (ha:AV X es fs)(hr:A1 X ny C F)(hN:X.N[0]?=some x)(mY:jS X.env.scope x)(hd:(x==("__debug__":Str))=false:=by rfl)(dN:(x==("__classdict__":Str))=false:=by rfl)
  (lz:(c==("__debug__":Str))=false:=by decide)(l6:starEach (.Name x p1::es) X.env=(false,eval (.Name x p1) X.env)::starEach es X.env:=by rfl)(g8:(backTo aR (starEach es X.env)).any (·.1)=false:=by rfl)
  (ht:eval (.Call (.Attribute (.Name c p) "__init__" apos) (.Name x p1::es) [] aR) X.env=(eval (.Name c p) X.env >>= λov=>standAt apos.atName >>= λ_=>holding [ov] (getMethod ov "__init__" pl) >>= λz=>callWith aR z.1 z.2 (backTo aR (starEach (.Name x p1::es) X.env)) (backToKw aR (keywordEach [] X.env))):=by rfl)
  (hs:swapsWith (.Call (.Attribute (.Name c p) "__init__" apos) (.Name x p1::es) [] aR) none pos.line X.env=pure false:=by rfl):
  A1 X (.Expr (.Call (.Attribute (.Name c p) "__init__" apos) (.Name x p1::es) [] aR) pos::ny) C (Lj n D3 ψ fs F):=by
 obtain ⟨t,pt,ka⟩:=ha
 obtain ⟨u,pu,ku⟩:=hr
 refine ⟨_,OH (LM (b6b (pl:=pl) b Fn hrm hg hm hb (nW (ya hN mY hd dN) pt l6) lz l6 g8 ht) hs) pu,λO σ H env p dx ns us ds lW ds' Dn R no op hs hp hl hi e q=>?_⟩
 obtain ⟨hn0,e1⟩:=Lf e
 subst hn0
 obtain rfl:us=[]:=Lb.mp hl.symm
 obtain ⟨as,e2,e3⟩:=bind_some e1
 obtain ⟨hln,e4⟩:=Lf e3
 obtain ⟨gs,e5,e6⟩:=bind_some e4
 refine ⟨.ref p,hs,?_⟩
 refine ka O H σ H env as _ R e2 λvs H1 s1 r1=>?_
 have R1:Rel X.K O H1 σ H1 env:=(R.grow s1).rebase no
 have i1:bx X.K O H1 vs as:=r1.less λq z=>.inl z
 refine ⟨O,p,dx,vs,as,gs,by rw [vK],by rw [r1.length];exact hln,s1 _ _ hp,R1.tK,op,i1,e5,λus2 H2 wZ W0 MP hi2=>?_⟩
 exact ku O σ H2 env p dx D3 us2 gs lW ds' Dn (R1.WB no op (s1 _ _ hp) W0 (by rw [MP];exact λz=>nomatch z)) no op hs MP wZ hi2 e6 λnE H3 us3 kp3=>q nE H3 us3 λq u e ne=>kp3 q u (W0 q u (s1 _ _ e) ne) ne
end
section
variable {P:Program}{w:World}{K:aQ}{mg:Str->Option Value}{base:Heap}
theorem b4m{qual:Str}{st:Stmt}{f C:Addr}{fd:FuncData}{N ps:List Str}{k n:Nat}{ns:List Str}{F:IF}(Fn:A4 K "__init__" qual st f fd)(S:de N ps (gk st))(Ag:ps.length=n+1)(hN:1<=N.length)
  (cY:∀X:Cx,X.prog=P->X.w=w->X.K=K->X.mg=mg->X.base=base->Fx X N (gk st) k->A1 X (jW st) C F):cR P w K mg base jY (k+1) f fd ps (Gn K C n ns (gh F N.length ns)):=by
 refine Fn.ok S (λvs H Q E h=>?_) (λgf A outer s H vs Q E hr h=>?_)
 .obtain ⟨O,p,dx,ws,ds,fs,rfl,hl,_⟩:=h
  rw [jK,hl,Ag]
 obtain ⟨O,p,dx,ws,ds,fs,rfl,hl,hp,dm,op,hi,e,q⟩:=h
 obtain ⟨t,pt,kk⟩:=cY (oW jY P w K mg base N qual (gk st) f gf A outer s H E).EY rfl rfl rfl rfl rfl ⟨rfl,rfl,rfl,λ_ _=>rfl,Nu,hr,S.nd,λ_=>⟨rfl,rfl,rfl⟩⟩
 refine ⟨t,pt,?_⟩
 have R0:=Vl (N:=N.tail) dm hi
 have R1:=ZU (some (V.ref p)) R0
 have es:some (V.ref p)::start N.tail ws=start N (V.ref p::ws):=by
  unfold L2.start
  rw [jJ,K0,Nk,jK,Nat.sub_sub,Nat.add_comm 1]
 rw [es,Nk] at R1
 unfold gh at e
 cases hF:F (.no::o7 (N.length-1) ds) [] [] with
 | none=>rw [hF] at e;cases e
 | some y =>
  obtain ⟨lW,Fo⟩:=y
  rw [hF] at e
  obtain ⟨rfl,rfl⟩:=lS (show (if lW=ns then some Fo else none)=some fs from e)
  refine kk O _ H _ p dx [] [] [] lW Fo _ R1 (λi s h1 h2=>?_) op rfl hp rfl .nil hF λbz H' r6 kp wY Cv vg=>q r6 H' Cv kp wY vg
  cases i with
  | zero=>cases h1;exact h2
  | succ i =>
   have h1:(o7 (N.length-1) ds)[i]?=some s:=by simpa using h1
   unfold o7 at h1
   rw [NH] at h1
   split at h1
   .rw [vL] at h1
    obtain ⟨d,_,e⟩:=map_some h1
    cases e
    exact h2
   .rw [GZ] at h1
    split at h1
    .cases h1;exact h2
    .cases h1
theorem Ul{c qual:Str}{st:Stmt}{f C:Addr}{fd:FuncData}{N ps:List Str}{k n:Nat}{ns:List Str}{F:IF}(h:dI K c C)(hm:mg c=some (.ref C))(M:Mk K C f)(D':cF K f "__init__" qual st ps fd)
  (cY:∀X:Cx,Sx X P w K mg base->Fx X N (gk st) k->A1 X (jW st) C F)(Ag:ps.length=n+1:=by rfl)(hN:1<=N.length:=by decide)(S:de N ps (gk st):=by exact ⟨rfl,rfl,rfl,by decide +kernel,rfl,by decide +kernel,by decide +kernel⟩):lK P w K mg base c n ns (k+1) (gh F N.length ns):=
 ⟨C,f,fd,ps,M,b4m D'.fn S Ag hN λX e1 e2 e3 e4 e5=>by subst e1 e2 e3 e4 e5;exact cY X (.mk X),hm,h.a,D'.bd⟩
def Ep(P:Program)(w:World)(K:aQ)(mg:Str->Option Value)(base:Heap)(C0 C f:Addr)(b:Str)(n:Nat)(ns:List Str)(j:Nat)(ψ:List D->Option (List D)):Prop:=∃fd ps,qQ K C0 f/\mg b=some (.ref C0)/\cR P w K mg base jY j f fd ps (Gn K C n ns ψ)/\Binds K fd ps []
theorem T1{b qual:Str}{st:Stmt}{f C0 C:Addr}{fd:FuncData}{N ps:List Str}{k n:Nat}{ns:List Str}{F:IF}(J0:qQ K C0 f)(hm:mg b=some (.ref C0))(D':cF K f "__init__" qual st ps fd)
  (cY:∀X:Cx,Sx X P w K mg base->Fx X N (gk st) k->Er X (jW st) C F)(Ag:ps.length=n+1:=by rfl)(hN:1<=N.length:=by decide)(S:de N ps (gk st):=by exact ⟨rfl,rfl,rfl,by decide +kernel,rfl,by decide +kernel,by decide +kernel⟩):Ep P w K mg base C0 C f b n ns (k+1) (gh F N.length ns):=
 ⟨fd,ps,J0,hm,Zy D'.fn S Ag hN λX e1 e2 e3 e4 e5=>by subst e1 e2 e3 e4 e5;exact cY X (.mk X),D'.bd⟩
end
section
variable {X:Cx}{N:List Str}{sc:Scope}{k j n:Nat}{full:Bool}{C:Addr}{F:IF}{ny:List Stmt}{x:Str}
theorem Fx.MJ{e:Expr}{f:Str}{fe:En->Option Sl}{p1 pos' pos:Pos}(h:Fx X N sc k full)(c:rV X.K C)(n:av X.K C f)(hv:EV X e fe)(hr:A1 X ny C F)(hN:N[0]?=some x:=by rfl)(mY:jS sc x:=by first | exact eN rfl | exact cP (eN rfl) | exact cP (cP rfl))(hd:(x==("__debug__":Str))=false:=by rfl)(dN:(x==("__classdict__":Str))=false:=by rfl)
  (hs:swapsWith e (some (.Attribute (.Name x p1) f pos')) pos.line X.env=pure false:=by rfl):A1 X (.Assign [.Attribute (.Name x p1) f pos'] e pos::ny) C (dR f fe F):=b8O hv hr c n (h.ix hN) (h.r0 mY) hd dN hs
theorem Fx.Q1{b:Str}{C0 f:Addr}{D3:List Str}{ψ:List D->Option (List D)}{fs:En->Option (List D)}{es:List Expr}{p p1 apos aR pos:Pos}{pl:Sem Bool}(h:Fx X N sc k full)(T:Ep X.prog X.w X.K X.mg X.base C0 C f b n D3 j ψ)(ha:AV X es fs)(hr:A1 X ny C F)(hj:j<=k:=by decide)(hg:sc.names.lookup b=some .globalImplicit:=by rfl)
  (hN:N[0]?=some x:=by rfl)(mY:jS sc x:=by first | exact eN rfl | exact cP (eN rfl) | exact cP (cP rfl))(hd:(x==("__debug__":Str))=false:=by rfl)(dN:(x==("__classdict__":Str))=false:=by rfl)
  (lz:(b==("__debug__":Str))=false:=by decide)(l6:starEach (.Name x p1::es) X.env=(false,eval (.Name x p1) X.env)::starEach es X.env:=by rfl)(g8:(backTo aR (starEach es X.env)).any (·.1)=false:=by rfl)
  (ht:eval (.Call (.Attribute (.Name b p) "__init__" apos) (.Name x p1::es) [] aR) X.env=(eval (.Name b p) X.env >>= λov=>standAt apos.atName >>= λ_=>holding [ov] (getMethod ov "__init__" pl) >>= λz=>callWith aR z.1 z.2 (backTo aR (starEach (.Name x p1::es) X.env)) (backToKw aR (keywordEach [] X.env))):=by rfl)
  (hs:swapsWith (.Call (.Attribute (.Name b p) "__init__" apos) (.Name x p1::es) [] aR) none pos.line X.env=pure false:=by rfl):
  A1 X (.Expr (.Call (.Attribute (.Name b p) "__init__" apos) (.Name x p1::es) [] aR) pos::ny) C (Lj n D3 ψ fs F):=by
 obtain ⟨fd,ps,B,hm,Fn,hb⟩:=T
 exact b6x (pl:=pl) B Fn (h.room.mono hj) (h.g hg) hm hb ha hr (h.ix hN) (h.r0 mY) hd dN lz l6 g8 ht hs
end
end DL
namespace DL
open PySem PySem.Spec PyProof.Rows L2
section
variable {X:Cx}
end
end DL
namespace DPr
open PySem PySem.Spec PyProof.Rows
section
variable {prog:Program}{w:World}{A:Around}{E:Value->Shared->Prop}{s:Shared}{K:Type}[DecidableEq K]{knd:KeyKind prog w K}{R:Result->Shared->Prop}
end
end DPr
namespace DL
open PySem PySem.Spec PyProof.Rows L2
section
variable {X:Cx}{pins:List (Addr×Obj)}{σ:L2.St}{H:Hp}{s:Shared}
end
end DL
namespace DL
open PySem PySem.Spec PyProof.Rows L2
section
variable {P:Program}{w:World}{K:aQ}{tg:Expr}{it l:Addr}{o:Obj}{ks:List Str}{vs:List V}{ep:Nat}
end
section
variable {K:aQ}{O:Addr->Prop}{H:Hp}{l:Addr}{o:Obj}{ks:List Str}{vs:List V}{ds:List D}
end
section
variable {X:Cx}{tg e:Expr}{te:TE}{elts:List Expr}{kk:Nat}{tp p2 aR:Pos}{fa:En->Option Sl}
end
end DL
namespace DL
open PySem PySem.Spec PyProof.Rows L2
section
variable {X:Cx}{N:List Str}{sc:Scope}{k:Nat}{full:Bool}{a:Expr}{fa:En->Option Sl}{pos p:Pos}{i:Nat}{x:Str}
end
theorem b7l{i:Nat}{env:En}{Q:D×En->Prop}:Wo (wz i env) Q↔cQ env[i]? λds=>Wo ds[ds.length-1]? λd=>Q (d,env.set i (.ow ds.dropLast)):=by
 unfold wz
 cases h:env[i]? with
 | none=>simp [cQ,Wo_none]
 | some s=>cases s<;>simp [cQ,Wo_none,a16]
section
variable {env:En}
theorem U1{i:Nat}{fs:En->Option (List D)}{Q:List D×En->Prop}:Wo (F2 i fs env) Q↔Wo (wz i env) λp=>Wo (fs p.2) λrs=>Q (p.1::rs,p.2):=by
 unfold F2;rw [a0n];exact kD λp=>a16
theorem a9p{f:En->Option Sl}{g:En->Option (List D×En)}{Q:List D×En->Prop}:Wo (Lr f g env) Q↔Wo (f env) λr=>Wo (g env) λp=>Q (r.d::p.1,p.2):=by
 unfold Lr;rw [a0n];exact kD λp=>a16
theorem Uu{α:Type}{c:Prop}[Decidable c]{x:Option α}{Q:α->Prop}:Wo (if c then x else none) Q↔c/\Wo x Q:=by
 by_cases h:c
 .rw [if_pos h];exact ⟨λz=>⟨h,z⟩,λz=>z.2⟩
 .rw [if_neg h];exact ⟨λz=>(Wo_none.mp z).elim,λz=>(h z.1).elim⟩
theorem Z4{g:En->Option (List D×En)}{Q:D×En->Prop}:Wo (Lh g env) Q↔Wo (g env) λp=>p.1.length<=16777216/\Q (.tup p.1,p.2):=by
 unfold Lh;rw [a0n];exact kD λp=>by rw [Uu,a0g]
theorem b3n{n:Nat}{φ:List D->Option Sl}{g:En->Option (List D×En)}{Q:D×En->Prop}:Wo (Lu n φ g env) Q↔Wo (g env) λp=>p.1.length=n/\Wo (φ p.1) λr=>Q (r.d,p.2):=by
 unfold Lu;rw [a0n];exact kD λp=>by rw [Uu,a16]
theorem UP{i:Nat}{g:En->Option (D×En)}{Q:Fl×En->Prop}:Wo (D4 i g env) Q↔cQ env[i]? λ_=>Wo (g env) λp=>cQ p.2[i]? λds=>ds.length<16777216/\Q (.nx,p.2.set i (.ow (ds++[p.1]))):=by
 unfold D4
 cases h:env[i]? with
 | none=>simp [cQ,Wo_none]
 | some s =>
  cases s with
  | ow ds =>
   simp only [cQ]
   rw [a0n]
   refine kD λp=>?_
   cases h2:p.2[i]? with
   | none=>simp [Wo_none]
   | some s2=>cases s2<;>simp [Wo_none,Uu,a0g]
  | _=>simp [cQ,Wo_none]
end
end DL
namespace DL
open PySem PySem.Spec PyProof.Rows L2
section
variable {X:Cx}
end
end DL
namespace DL
open PySem PySem.Spec PyProof.Rows L2 PySem.SeqAt
section
variable {X:Cx}{pins:List (Addr×Obj)}{s:Shared}{σ:L2.St}{H:Hp}
end
end DL
namespace DL
open PySem PySem.Spec PyProof.Rows L2
section
variable {K:aQ}{O O' O1 O2 L:Addr->Prop}{H:Hp}{d0:List D}
end
section
variable {X:Cx}{N N':List Str}{sc eT:Scope}{k:Nat}{full:Bool}{elt iter tg:Expr}{ifs:List Expr}{pos:Pos}{fi:En->Option (List D)}{caps:List Nat}{nt:Nat}{g:GF}{fc:En->Option Bool}{fe:En->Option Sl}
end
section
variable {X:Cx}{C:Addr}{F:IF}{st:Stmt}{ny:List Stmt}
end
section
variable {P:Program}{w:World}{K:aQ}{mg:Str->Option Value}{base:Heap}
end
section
variable {X:Cx}{N:List Str}{sc:Scope}{k j:Nat}{full:Bool}{e:Expr}{c f:Str}{pos p:Pos}
end
end DL
namespace DL
open PySem PySem.Spec PyProof.Rows L2
section
variable {X:Cx}{W:L2.St->Hp->Value->Prop}{C:Addr}{R:RI}{st:Stmt}{ny:List Stmt}{e:Expr}{es:List Expr}{p pos aR:Pos}
end
section
variable {P:Program}{w:World}{K:aQ}{mg:Str->Option Value}{base:Heap}
end
section
variable {X:Cx}{W:L2.St->Hp->Value->Prop}{N:List Str}{sc:Scope}{k j n:Nat}{full:Bool}{C:Addr}{R:RI}{ny:List Stmt}{x:Str}
end
end DL
namespace My
open PySem L2 DL
noncomputable def top(i:Nat):Stmt:=PySem.Challenge.pw_offerhouse_k34_made_of_others.main.body.getD i (.Pass ⟨0,0,0,0⟩)
noncomputable def Oj:List Str:=["Each"]
noncomputable def D9:List Str:=["Each","Flat","Only"]
noncomputable def Ec:List Str:=["Each","Flat","Only"]
noncomputable def Eh:List Str:=["Flat","Blocks","Fee"]
noncomputable def Ed:List Str:=["Bands","Steps"]
noncomputable def LG:List Str:=["Blocks"]
noncomputable def Oi:List Str:=["Blocks"]
noncomputable def Hl:List Str:=["Named"]
noncomputable def Ea:List Str:=["Sum","Cheaper","Dearer","Only","After","Fee"]
noncomputable def UR:List Str:=["Sum","Cheaper","Dearer"]
noncomputable def OF:List Str:=["After"]
noncomputable abbrev a46:Stmt:=jO (top 40) 5
noncomputable abbrev V1{α:Type}(Y:Str->Str->Stmt->List Str->α):α:=Y "parts" "Rule.parts" a46 ["self"]
noncomputable abbrev a48:Stmt:=jO (top 49) 1
noncomputable abbrev V8{α:Type}(Y:Str->Str->Stmt->List Str->α):α:=Y "parts" "Pair.parts" a48 ["self"]
noncomputable abbrev a33:Stmt:=jO (top 53) 1
noncomputable abbrev V0{α:Type}(Y:Str->Str->Stmt->List Str->α):α:=Y "parts" "Single.parts" a33 ["self"]
noncomputable abbrev a3s:Stmt:=jO (top 40) 4
noncomputable abbrev Pz{α:Type}(Y:Str->Str->Stmt->List Str->α):α:=Y "all_names" "Rule.all_names" a3s ["self"]
noncomputable abbrev a3a:Stmt:=jO (top 48) 1
noncomputable abbrev PM{α:Type}(Y:Str->Str->Stmt->List Str->α):α:=Y "all_names" "Named.all_names" a3a ["self"]
noncomputable abbrev a47:Stmt:=jO (top 40) 3
noncomputable abbrev V9{α:Type}(Y:Str->Str->Stmt->List Str->α):α:=Y "names" "Rule.names" a47 ["self"]
noncomputable abbrev a3v:Stmt:=jO (top 42) 1
noncomputable abbrev Pw{α:Type}(Y:Str->Str->Stmt->List Str->α):α:=Y "cost_here" "Each.cost_here" a3v ["self","x","forms"]
noncomputable abbrev a3u:Stmt:=jO (top 43) 1
noncomputable abbrev Px{α:Type}(Y:Str->Str->Stmt->List Str->α):α:=Y "cost_here" "Flat.cost_here" a3u ["self","x","forms"]
noncomputable abbrev jC:Stmt:=jO (top 44) 1
noncomputable abbrev hG{α:Type}(Y:Str->Str->Stmt->List Str->α):α:=Y "holds" "Rows.holds" jC ["self","x"]
noncomputable abbrev a3b:Stmt:=jO (top 45) 0
noncomputable abbrev PL{α:Type}(Y:Str->Str->Stmt->List Str->α):α:=Y "cost_here" "Bands.cost_here" a3b ["self","x","forms"]
noncomputable abbrev a28:Stmt:=jO (top 46) 0
noncomputable abbrev PQ{α:Type}(Y:Str->Str->Stmt->List Str->α):α:=Y "cost_here" "Steps.cost_here" a28 ["self","x","forms"]
noncomputable abbrev a2X:Stmt:=jO (top 47) 1
noncomputable abbrev PV{α:Type}(Y:Str->Str->Stmt->List Str->α):α:=Y "cost_here" "Blocks.cost_here" a2X ["self","x","forms"]
noncomputable abbrev a29:Stmt:=jO (top 48) 2
noncomputable abbrev PN{α:Type}(Y:Str->Str->Stmt->List Str->α):α:=Y "cost_here" "Named.cost_here" a29 ["self","x","forms"]
noncomputable abbrev a2u:Stmt:=jO (top 49) 2
noncomputable abbrev Pp{α:Type}(Y:Str->Str->Stmt->List Str->α):α:=Y "offered_costs" "Pair.offered_costs" a2u ["self","x","forms"]
noncomputable abbrev a3Q:Stmt:=jO (top 50) 0
noncomputable abbrev Pk{α:Type}(Y:Str->Str->Stmt->List Str->α):α:=Y "cost_here" "Sum.cost_here" a3Q ["self","x","forms"]
noncomputable abbrev a2H:Stmt:=jO (top 51) 0
noncomputable abbrev Po{α:Type}(Y:Str->Str->Stmt->List Str->α):α:=Y "cost_here" "Cheaper.cost_here" a2H ["self","x","forms"]
noncomputable abbrev a2W:Stmt:=jO (top 52) 0
noncomputable abbrev PX{α:Type}(Y:Str->Str->Stmt->List Str->α):α:=Y "cost_here" "Dearer.cost_here" a2W ["self","x","forms"]
noncomputable abbrev a3t:Stmt:=jO (top 54) 1
noncomputable abbrev Py{α:Type}(Y:Str->Str->Stmt->List Str->α):α:=Y "cost_here" "Only.cost_here" a3t ["self","x","forms"]
noncomputable abbrev a3c:Stmt:=jO (top 55) 1
noncomputable abbrev PK{α:Type}(Y:Str->Str->Stmt->List Str->α):α:=Y "cost_here" "After.cost_here" a3c ["self","x","forms"]
noncomputable abbrev a3S:Stmt:=jO (top 56) 1
noncomputable abbrev Pj{α:Type}(Y:Str->Str->Stmt->List Str->α):α:=Y "cost_here" "Fee.cost_here" a3S ["self","x","forms"]
noncomputable abbrev a59:Stmt:=jO (top 40) 0
noncomputable abbrev VU{α:Type}(Y:Str->Str->Stmt->List Str->α):α:=Y "cost" "Rule.cost" a59 ["self","x","forms"]
noncomputable abbrev a3r:Stmt:=jO (top 53) 0
noncomputable abbrev Wl{α:Type}(Y:Str->Str->Stmt->List Str->α):α:=Y "__init__" "Single.__init__" a3r ["self","one"]
noncomputable abbrev a4M:Stmt:=jO (top 56) 0
noncomputable abbrev a7J{α:Type}(Y:Str->Str->Stmt->List Str->α):α:=Y "__init__" "Fee.__init__" a4M ["self","one","price"]
noncomputable abbrev a3T:Stmt:=jO (top 55) 0
noncomputable abbrev a6v{α:Type}(Y:Str->Str->Stmt->List Str->α):α:=Y "__init__" "After.__init__" a3T ["self","one","count"]
noncomputable abbrev a36:Stmt:=jO (top 54) 0
noncomputable abbrev a7l{α:Type}(Y:Str->Str->Stmt->List Str->α):α:=Y "__init__" "Only.__init__" a36 ["self","one","low","high"]
noncomputable abbrev a35:Stmt:=jO (top 49) 0
noncomputable abbrev VZ{α:Type}(Y:Str->Str->Stmt->List Str->α):α:=Y "__init__" "Pair.__init__" a35 ["self","one","other"]
noncomputable abbrev a3R:Stmt:=jO (top 48) 0
noncomputable abbrev a6u{α:Type}(Y:Str->Str->Stmt->List Str->α):α:=Y "__init__" "Named.__init__" a3R ["self","name"]
noncomputable abbrev a3w:Stmt:=jO (top 47) 0
noncomputable abbrev a6e{α:Type}(Y:Str->Str->Stmt->List Str->α):α:=Y "__init__" "Blocks.__init__" a3w ["self","size","price","many"]
noncomputable abbrev a34:Stmt:=jO (top 44) 0
noncomputable abbrev a4I{α:Type}(Y:Str->Str->Stmt->List Str->α):α:=Y "__init__" "Rows.__init__" a34 ["self","rows"]
noncomputable abbrev a37:Stmt:=jO (top 43) 0
noncomputable abbrev a7m{α:Type}(Y:Str->Str->Stmt->List Str->α):α:=Y "__init__" "Flat.__init__" a37 ["self","price","low","high"]
noncomputable abbrev a38:Stmt:=jO (top 42) 0
noncomputable abbrev a7n{α:Type}(Y:Str->Str->Stmt->List Str->α):α:=Y "__init__" "Each.__init__" a38 ["self","unit","low","high"]
noncomputable def VN:SF:=
 (aH (cJ af))
noncomputable def AY:List D->Option Sl:=bT VN 1
theorem pj:Wo (AY [a0]) Q↔Wo (VN [.sh a0]) (b7 Q):=gA
noncomputable def a9r:SF:=
 (aH (cJ (ag (eE Ea "one" (eV 0)) (ag (eE UR "other" (eV 0)) af))))
noncomputable def Mi:List D->Option Sl:=bT a9r 1
noncomputable def a7r:SF:=
 (aH (cJ (ag (eE Ea "one" (eV 0)) af)))
noncomputable def Me:List D->Option Sl:=bT a7r 1
noncomputable def Dp:aP:=[("Each",AY),("Flat",AY),("Bands",AY),("Steps",AY),("Blocks",AY),("Named",AY),("Sum",Mi),("Cheaper",Mi),("Dearer",Mi),("Only",Me),("After",Me),("Fee",Me)]
noncomputable def Md(kp:aP):SF:=
 (au (hV 1 (cJ af))
 (au (mM (ma "parts" 1 Dp (eV 0) af) (gN 2)
 (p5 1 (ma "all_names" 1 kp (eV 2) af)))
 (zx 1)))
noncomputable def oe(kp:aP):List D->Option Sl:=bT (Md kp) 3
theorem eS{kp:aP}:Wo (oe kp [a0]) Q↔Wo (Md kp [.sh a0,.no,.no]) (b7 Q):=gA
noncomputable def Wb(kp:aP):SF:=
 (aH (cJ (ag (eE Hl "name" (eV 0)) af)))
noncomputable def HS(kp:aP):List D->Option Sl:=bT (Wb kp) 1
theorem kG{kp:aP}:Wo (HS kp [a0]) Q↔Wo (Wb kp [.sh a0]) (b7 Q):=gA
noncomputable def a4K(kp:aP):aP:=[("Each",oe kp),("Flat",oe kp),("Bands",oe kp),("Steps",oe kp),("Blocks",oe kp),("Named",HS kp),("Sum",oe kp),("Cheaper",oe kp),("Dearer",oe kp),("Only",oe kp),("After",oe kp),("Fee",oe kp)]
noncomputable def qJ:Nat->aP
 | 0=>[]
 | n+1=>a4K (qJ n)
noncomputable def VM:SF:=
 (aH (G' (ma "all_names" 1 (qJ 12) (eV 0) af)))
noncomputable def pS:List D->Option Sl:=bT VM 1
theorem pk:Wo (pS [a0]) Q↔Wo (VM [.sh a0]) (b7 Q):=gA
noncomputable def F7:aP:=[("Each",pS),("Flat",pS),("Bands",pS),("Steps",pS),("Blocks",pS),("Named",pS),("Sum",pS),("Cheaper",pS),("Dearer",pS),("Only",pS),("After",pS),("Fee",pS)]
noncomputable abbrev a57:Stmt:=top 75
noncomputable abbrev Hs{α:Type}(Y:Str->Stmt->List Str->α):α:=Y "_law_names" a57 ["plan"]
noncomputable def Pb(kp:List D->Option Sl):SF:=
 (au (dg (bS (aa bH (bg (bV 0) (eC (.int 0))) (eC (.str "name"))))
 (aH (cJ (ag (bg (bV 0) (eC (.int 1))) af))) dO)
 (au (eQ 1 (cJ af))
 (au (dg (bS (aa RH (bg (bV 0) (eC (.int 0))) (cJ (ag (eC (.str "plus")) (ag (eC (.str "or")) (ag (eC (.str "max")) af))))))
 (eQ 1 (cK 1 kp (ag (bg (bV 0) (eC (.int 2))) af))) dO)
 (au (dg (bS (aa RH (bg (bV 0) (eC (.int 0))) (cJ (ag (eC (.str "plus")) (ag (eC (.str "or")) (ag (eC (.str "max")) (ag (eC (.str "only")) (ag (eC (.str "after")) (ag (eC (.str "fee")) af)))))))))
 (eQ 1 (aa cc (eV 1) (cK 1 kp (ag (bg (bV 0) (eC (.int 1))) af)))) dO)
 (aH (eV 1))))))
noncomputable def VY(kp:List D->Option Sl):List D->Option Sl:=bT (Pb kp) 2
noncomputable def Em:Nat->List D->Option Sl
 | 0=>λ_=>none
 | n+1=>VY (Em n)
theorem a7h{kp:List D->Option Sl}:Wo (VY kp [a0]) Q↔Wo (Pb kp [.sh a0,.no]) (b7 Q):=gA
noncomputable def LN:List (Str×Bool):=[("Each",true),("Flat",true),("Bands",true),("Steps",true),("Blocks",true),("Named",true),("Sum",true),("Cheaper",true),("Dearer",true),("Only",true),("After",true),("Fee",true)]
noncomputable abbrev a6y:Stmt:=top 74
noncomputable abbrev VD{α:Type}(Y:Str->Stmt->List Str->α):α:=Y "_law_same" a6y ["found","due"]
noncomputable def Vq:SF:=
 (au (dg (bS (aa m7 (eV 1) (eC .b8)))
 (aH (aa m7 (eV 0) (eC .b8))) dO)
 (aH (w8 (Au "int" (eV 0)) (w8 (As (Au "bool" (eV 0))) (aa bH (eV 0) (eV 1))))))
noncomputable def L':List D->Option Sl:=bT Vq 2
theorem ui:Wo (L' [a0,a1]) Q↔Wo (Vq [.sh a0,.sh a1]) (b7 Q):=gA
noncomputable abbrev a3P:Stmt:=top 69
noncomputable abbrev Wg{α:Type}(Y:Str->Stmt->List Str->α):α:=Y "_law_leaf_cost" a3P ["plan","x","forms"]
noncomputable def Wp:SF:=
 (au (eQ 3 (bg (bV 0) (eC (.int 0))))
 (au (dg (bS (aa bH (eV 3) (eC (.str "name"))))
 (au (eQ 5 (lQ (jh (Ft (eV 2) (bg (bV 0) (eC (.int 1))))) [1] 1 (gN 0) (qE (bS (aa ql (bg (bV 0) (eC (.int 0))) (eV 1))) (bS (aa ql (eV 1) (bg (bV 0) (eC (.int 1)))))) (eV 0)))
 (au (dg (bS (aa bH (ji (bV 5)) (eC (.int 0))))
 (aH (eC .b8)) dO)
 (aH (aa cc (bg (iP (bg (bV 5) (eC (.int 0)))) (eC (.int 2))) (aa dy (bg (iP (bg (bV 5) (eC (.int 0)))) (eC (.int 3))) (aa jf (eV 1) (bg (iP (bg (bV 5) (eC (.int 0)))) (eC (.int 0))))))))) dO)
 (au (dg (fP (bS (aa bH (eV 3) (eC (.str "each")))) (bS (aa bH (eV 3) (eC (.str "flat")))))
 (au (dg (fP (bS (aa rm (eV 1) (bg (bV 0) (eC (.int 2))))) (bS (aa rm (bg (bV 0) (eC (.int 3))) (eV 1))))
 (aH (eC .b8)) dO)
 (aH (aa dy (bg (bV 0) (eC (.int 1))) (bg (iP (cJ (ag (eC (.int 1)) (ag (eV 1) af)))) (Lk (aa bH (eV 3) (eC (.str "each")))))))) dO)
 (au (dg (bS (aa bH (eV 3) (eC (.str "blocks"))))
 (au (dg (fP (bS (aa rm (eV 1) (eC (.int 0)))) (bS (aa CD (eV 1) (aa dy (bg (bV 0) (eC (.int 1))) (bg (bV 0) (eC (.int 3)))))))
 (aH (eC .b8)) dO)
 (aH (aa dy (bg (bV 0) (eC (.int 2))) (aa tI (aa jf (aa cc (eV 1) (bg (bV 0) (eC (.int 1)))) (eC (.int 1))) (bg (bV 0) (eC (.int 1))))))) dO)
 (au (dg (fP (bS (aa rm (eV 1) (eC (.int 0)))) (bS (aa CD (eV 1) (bg (iP (bg (iP (bg (bV 0) (eC (.int 1)))) (qo (eC (.int 1))))) (eC (.int 0))))))
 (aH (eC .b8)) dO)
 (au (dg (bS (aa bH (eV 3) (eC (.str "bands"))))
 (aH (aa dy (eV 1) (bg (iP (lQ (jh (bg (bV 0) (eC (.int 1)))) [1] 1 (gN 0) (bS (aa ql (eV 1) (bg (bV 0) (eC (.int 0))))) (bg (bV 0) (eC (.int 1))))) (eC (.int 0))))) dO)
 (au (eQ 4 (aa cc (cJ (ag (eC (.int 0)) af)) (lQ (jh (bg (bV 0) (eC (.int 1)))) [] 1 (gN 0) xY (bg (bV 0) (eC (.int 0))))))
 (aH (w6 (iP (lQ (w5 Lm (ag (ji (iP (bg (bV 0) (eC (.int 1))))) af)) [0,1,4] 1 (gN 0) xY (aa dy (bg (iP (bg (iP (bg (bV 1) (eC (.int 1)))) (eV 0))) (eC (.int 1))) (aa jf (zy C8 (ag (eV 2) (ag (bg (bV 3) (aa cc (eV 0) (eC (.int 1)))) af))) (zy C8 (ag (eV 2) (ag (bg (bV 3) (eV 0)) af))))))))))))))))
noncomputable def Mf:List D->Option Sl:=bT Wp 6
theorem mh:Wo (Mf [a0,a1,a2]) Q↔Wo (Wp [.sh a0,.sh a1,.sh a2,.no,.no,.no]) (b7 Q):=gA
noncomputable abbrev a6F:Stmt:=top 70
noncomputable abbrev O0{α:Type}(Y:Str->Stmt->List Str->α):α:=Y "_law_both" a6F ["plan","x","forms"]
noncomputable def VH(kp:List D->Option Sl):SF:=
 (au (eQ 3 (cK 3 kp (ag (bg (bV 0) (eC (.int 1))) (ag (eV 1) (ag (eV 2) af)))))
 (au (eQ 4 (cK 3 kp (ag (bg (bV 0) (eC (.int 2))) (ag (eV 1) (ag (eV 2) af)))))
 (au (dg (qE (bS (aa bH (bg (bV 0) (eC (.int 0))) (eC (.str "or")))) (fP (bS (aa m7 (eV 3) (eC .b8))) (bS (aa m7 (eV 4) (eC .b8)))))
 (aH (bg (iP (cJ (ag (eV 3) (ag (eV 4) af)))) (Lk (aa m7 (eV 3) (eC .b8))))) dO)
 (au (dg (fP (bS (aa m7 (eV 3) (eC .b8))) (bS (aa m7 (eV 4) (eC .b8))))
 (aH (eC .b8)) dO)
 (au (dg (bS (aa bH (bg (bV 0) (eC (.int 0))) (eC (.str "plus"))))
 (aH (aa cc (eV 3) (eV 4))) dO)
 (au (dg (bS (aa bH (bg (bV 0) (eC (.int 0))) (eC (.str "or"))))
 (aH (zy C8 (ag (eV 3) (ag (eV 4) af)))) dO)
 (aH (zy FU (ag (eV 3) (ag (eV 4) af))))))))))
noncomputable def HE(kp:List D->Option Sl):List D->Option Sl:=bT (VH kp) 5
theorem uo{kp:List D->Option Sl}:Wo (HE kp [a0,a1,a2]) Q↔Wo (VH kp [.sh a0,.sh a1,.sh a2,.no,.no]) (b7 Q):=gA
noncomputable abbrev a6E:Stmt:=top 71
noncomputable abbrev Hv{α:Type}(Y:Str->Stmt->List Str->α):α:=Y "_law_cost" a6E ["plan","x","forms"]
noncomputable def L1(kp:List D->Option Sl):SF:=
 (au (eQ 3 (bg (bV 0) (eC (.int 0))))
 (au (dg (fP (bS (aa bH (eV 3) (eC (.str "plus")))) (fP (bS (aa bH (eV 3) (eC (.str "or")))) (bS (aa bH (eV 3) (eC (.str "max"))))))
 (aH (cK 3 (HE kp) (ag (eV 0) (ag (eV 1) (ag (eV 2) af))))) dO)
 (au (dg (bS (aa bH (eV 3) (eC (.str "only"))))
 (au (dg (fP (bS (aa rm (eV 1) (bg (bV 0) (eC (.int 2))))) (bS (aa rm (bg (bV 0) (eC (.int 3))) (eV 1))))
 (aH (eC .b8)) dO)
 (aH (cK 3 kp (ag (bg (bV 0) (eC (.int 1))) (ag (eV 1) (ag (eV 2) af)))))) dO)
 (au (dg (bS (aa bH (eV 3) (eC (.str "after"))))
 (au (dg (bS (aa rm (eV 1) (eC (.int 0))))
 (aH (eC .b8)) dO)
 (aH (cK 3 kp (ag (bg (bV 0) (eC (.int 1))) (ag (zy FU (ag (eC (.int 0)) (ag (aa jf (eV 1) (bg (bV 0) (eC (.int 2)))) af))) (ag (eV 2) af)))))) dO)
 (au (dg (bS (aa bH (eV 3) (eC (.str "fee"))))
 (au (eQ 4 (cK 3 kp (ag (bg (bV 0) (eC (.int 1))) (ag (eV 1) (ag (eV 2) af)))))
 (au (dg (fP (bS (aa m7 (eV 4) (eC .b8))) (bS (aa bH (eV 1) (eC (.int 0)))))
 (aH (eV 4)) dO)
 (aH (aa cc (eV 4) (bg (bV 0) (eC (.int 2))))))) dO)
 (aH (cK 3 Mf (ag (eV 0) (ag (eV 1) (ag (eV 2) af))))))))))
noncomputable def V5(kp:List D->Option Sl):List D->Option Sl:=bT (L1 kp) 5
noncomputable def AZ:Nat->List D->Option Sl
 | 0=>λ_=>none
 | n+1=>V5 (AZ n)
theorem Vt{kp:List D->Option Sl}:Wo (V5 kp [a0,a1,a2]) Q↔Wo (L1 kp [.sh a0,.sh a1,.sh a2,.no,.no]) (b7 Q):=gA
noncomputable def Wi(kp:aP):SF:=
 (aH (yU (qE (bS (aa ql (eE D9 "low" (eV 0)) (eV 1))) (bS (aa ql (eV 1) (eE Ec "high" (eV 0))))) (aa dy (eE Oj "unit" (eV 0)) (eV 1)) (eC .b8)))
noncomputable def HP(kp:aP):List D->Option Sl:=bT (Wi kp) 3
theorem lH{kp:aP}:Wo (HP kp [a0,a1,a2]) Q↔Wo (Wi kp [.sh a0,.sh a1,.sh a2]) (b7 Q):=gA
noncomputable def Wj(kp:aP):SF:=
 (aH (yU (qE (bS (aa ql (eE D9 "low" (eV 0)) (eV 1))) (bS (aa ql (eV 1) (eE Ec "high" (eV 0))))) (eE Eh "price" (eV 0)) (eC .b8)))
noncomputable def HQ(kp:aP):List D->Option Sl:=bT (Wj kp) 3
theorem lG{kp:aP}:Wo (HQ kp [a0,a1,a2]) Q↔Wo (Wj kp [.sh a0,.sh a1,.sh a2]) (b7 Q):=gA
noncomputable def iH:SF:=
 (aH (CK (qE (bS (aa ql (eC (.int 0)) (eV 1))) (bS (aa ql (eV 1) (bg (iP (bg (iP (eE Ed "rows" (eV 0))) (qo (eC (.int 1))))) (eC (.int 0))))))))
noncomputable def cG:List D->Option Sl:=bT iH 2
theorem pq:Wo (cG [a0,a1]) Q↔Wo (iH [.sh a0,.sh a1]) (b7 Q):=gA
noncomputable def fM:aP:=[("Bands",cG),("Steps",cG)]
noncomputable def Wa(kp:aP):SF:=
 (au (dg (D5 (r8 (ma "holds" 2 fM (eV 0) (ag (eV 1) af))))
 (aH (eC .b8)) dO)
 (au (eQ 3 (lQ (jh (eE Ed "rows" (eV 0))) [1] 2 (gT 2 (zA (gN 0) (zA (gN 1) F1))) (bS (aa ql (eV 2) (eV 0))) (eV 1)))
 (aH (aa dy (eV 1) (bg (bV 3) (eC (.int 0)))))))
noncomputable def HR(kp:aP):List D->Option Sl:=bT (Wa kp) 4
theorem kH{kp:aP}:Wo (HR kp [a0,a1,a2]) Q↔Wo (Wa kp [.sh a0,.sh a1,.sh a2,.no]) (b7 Q):=gA
noncomputable def Wd(kp:aP):SF:=
 (au (dg (D5 (r8 (ma "holds" 2 fM (eV 0) (ag (eV 1) af))))
 (aH (eC .b8)) dO)
 (au (eQ 3 (eC (.int 0)))
 (au (eQ 4 (eC (.int 0)))
 (au (mM (eE Ed "rows" (eV 0)) (gT 2 (zA (gN 5) (zA (gN 6) F1)))
 (au (wo 3 (aa dy (eV 6) (zy FU (ag (eC (.int 0)) (ag (aa jf (zy C8 (ag (eV 1) (ag (eV 5) af))) (eV 4)) af)))))
 (eQ 4 (eV 5))))
 (aH (eV 3))))))
noncomputable def HL(kp:aP):List D->Option Sl:=bT (Wd kp) 7
theorem kE{kp:aP}:Wo (HL kp [a0,a1,a2]) Q↔Wo (Wd kp [.sh a0,.sh a1,.sh a2,.no,.no,.no,.no]) (b7 Q):=gA
noncomputable abbrev YO:Stmt:=top 6
noncomputable abbrev EC{α:Type}(Y:Str->Stmt->List Str->α):α:=Y "up" YO ["a","b"]
noncomputable def Gi:SF:=
 (aH (qo (aa tI (qo (eV 0)) (eV 1))))
noncomputable def LC:List D->Option Sl:=bT Gi 2
theorem Wt:Wo (LC [a0,a1]) Q↔Wo (Gi [.sh a0,.sh a1]) (b7 Q):=gA
noncomputable def We(kp:aP):SF:=
 (aH (yU (qE (bS (aa ql (eC (.int 0)) (eV 1))) (bS (aa ql (eV 1) (aa dy (eE LG "size" (eV 0)) (eE Oi "many" (eV 0)))))) (aa dy (eE Eh "price" (eV 0)) (cK 2 LC (ag (eV 1) (ag (eE LG "size" (eV 0)) af)))) (eC .b8)))
noncomputable def HN(kp:aP):List D->Option Sl:=bT (We kp) 3
theorem jR{kp:aP}:Wo (HN kp [a0,a1,a2]) Q↔Wo (We kp [.sh a0,.sh a1,.sh a2]) (b7 Q):=gA
noncomputable abbrev a7v:Stmt:=top 8
noncomputable abbrev Vg{α:Type}(Y:Str->Stmt->List Str->α):α:=Y "line_at" a7v ["line","low","x"]
noncomputable def U0:SF:=
 (aH (aa cc (bg (bV 0) (eC (.int 0))) (aa dy (bg (bV 0) (eC (.int 1))) (aa jf (eV 2) (eV 1)))))
noncomputable def Mc:List D->Option Sl:=bT U0 3
theorem yc:Wo (Mc [a0,a1,a2]) Q↔Wo (U0 [.sh a0,.sh a1,.sh a2]) (b7 Q):=gA
noncomputable abbrev a6G:Stmt:=top 15
noncomputable abbrev Vz{α:Type}(Y:Str->Stmt->List Str->α):α:=Y "drawn_to" a6G ["row","x"]
noncomputable def VG:SF:=
 (aH (cK 3 Mc (ag (iN (ag (bg (bV 0) (eC (.int 2))) (ag (bg (bV 0) (eC (.int 3))) af))) (ag (bg (bV 0) (eC (.int 0))) (ag (eV 1) af)))))
noncomputable def L9:List D->Option Sl:=bT VG 2
theorem uq:Wo (L9 [a0,a1]) Q↔Wo (VG [.sh a0,.sh a1]) (b7 Q):=gA
noncomputable abbrev a6w:Stmt:=top 20
noncomputable abbrev VF{α:Type}(Y:Str->Stmt->List Str->α):α:=Y "place_of" a6w ["form","x"]
noncomputable def a6V:En->Nat:=λ_=>1000000
noncomputable def Vs:SF:=
 (au (eQ 2 (eC (.int 0)))
 (au (eQ 3 (ji (bV 0)))
 (au (N3 a6V (bS (aa rm (eV 2) (eV 3)))
 (au (eQ 4 (aa tI (aa cc (eV 2) (eV 3)) (eC (.int 2))))
 (dg (bS (aa rm (bg (iP (bg (bV 0) (eV 4))) (eC (.int 1))) (eV 1)))
 (eQ 2 (aa cc (eV 4) (eC (.int 1)))) (eQ 3 (eV 4)))))
 (aH (eV 2)))))
noncomputable def HJ:List D->Option Sl:=bT Vs 5
theorem ug:Wo (HJ [a0,a1]) Q↔Wo (Vs [.sh a0,.sh a1,.no,.no,.no]) (b7 Q):=gA
noncomputable abbrev a7x:Stmt:=top 19
noncomputable abbrev Ve{α:Type}(Y:Str->Stmt->List Str->α):α:=Y "cost_at" a7x ["form","x"]
noncomputable def UY:SF:=
 (au (eQ 2 (cK 2 HJ (ag (eV 0) (ag (eV 1) af))))
 (au (dg (fP (bS (aa bH (eV 2) (ji (bV 0)))) (bS (aa rm (eV 1) (bg (iP (bg (bV 0) (eV 2))) (eC (.int 0))))))
 (aH (eC .b8)) dO)
 (aH (cK 2 L9 (ag (bg (bV 0) (eV 2)) (ag (eV 1) af))))))
noncomputable def Mb:List D->Option Sl:=bT UY 3
theorem ye:Wo (Mb [a0,a1]) Q↔Wo (UY [.sh a0,.sh a1,.no]) (b7 Q):=gA
noncomputable def Wc(kp:aP):SF:=
 (aH (cK 2 Mb (ag (Ft (eV 2) (eE Hl "name" (eV 0))) (ag (eV 1) af))))
noncomputable def HK(kp:aP):List D->Option Sl:=bT (Wc kp) 3
theorem kF{kp:aP}:Wo (HK kp [a0,a1,a2]) Q↔Wo (Wc kp [.sh a0,.sh a1,.sh a2]) (b7 Q):=gA
noncomputable def Ws(kp:aP):SF:=
 (au (eQ 3 (lQ (jh (ma "parts" 1 Dp (eV 0) af)) [1,2] 1 (gN 0) xY (ma "cost_here" 3 kp (eV 0) (ag (eV 1) (ag (eV 2) af)))))
 (aH (lQ (jh (eV 3)) [] 1 (gN 0) (bS (aa T2 (eV 0) (eC .b8))) (eV 0))))
noncomputable def Dq(kp:aP):List D->Option Sl:=bT (Ws kp) 4
theorem jl{kp:aP}:Wo (Dq kp [a0,a1,a2]) Q↔Wo (Ws kp [.sh a0,.sh a1,.sh a2,.no]) (b7 Q):=gA
noncomputable def F9(kp:aP):aP:=[("Sum",Dq kp),("Cheaper",Dq kp),("Dearer",Dq kp)]
noncomputable def Wn(kp:aP):SF:=
 (au (eQ 3 (ma "offered_costs" 3 (F9 kp) (eV 0) (ag (eV 1) (ag (eV 2) af))))
 (aH (yU (bS (aa bH (ji (bV 3)) (eC (.int 2)))) (w6 (bV 3)) (eC .b8))))
noncomputable def F8(kp:aP):List D->Option Sl:=bT (Wn kp) 4
theorem mi{kp:aP}:Wo (F8 kp [a0,a1,a2]) Q↔Wo (Wn kp [.sh a0,.sh a1,.sh a2,.no]) (b7 Q):=gA
noncomputable def Wr(kp:aP):SF:=
 (aH (NR (iP (ma "offered_costs" 3 (F9 kp) (eV 0) (ag (eV 1) (ag (eV 2) af)))) (eC .b8)))
noncomputable def Gc(kp:aP):List D->Option Sl:=bT (Wr kp) 3
theorem jA{kp:aP}:Wo (Gc kp [a0,a1,a2]) Q↔Wo (Wr kp [.sh a0,.sh a1,.sh a2]) (b7 Q):=gA
noncomputable def Wf(kp:aP):SF:=
 (au (eQ 3 (ma "offered_costs" 3 (F9 kp) (eV 0) (ag (eV 1) (ag (eV 2) af))))
 (aH (yU (bS (aa bH (ji (bV 3)) (eC (.int 2)))) (CJ (bV 3)) (eC .b8))))
noncomputable def Gb(kp:aP):List D->Option Sl:=bT (Wf kp) 4
theorem jQ{kp:aP}:Wo (Gb kp [a0,a1,a2]) Q↔Wo (Wf kp [.sh a0,.sh a1,.sh a2,.no]) (b7 Q):=gA
noncomputable def Wk(kp:aP):SF:=
 (aH (yU (qE (bS (aa ql (eE D9 "low" (eV 0)) (eV 1))) (bS (aa ql (eV 1) (eE Ec "high" (eV 0))))) (ma "cost_here" 3 kp (eE Ea "one" (eV 0)) (ag (eV 1) (ag (eV 2) af))) (eC .b8)))
noncomputable def F'(kp:aP):List D->Option Sl:=bT (Wk kp) 3
theorem lE{kp:aP}:Wo (F' kp [a0,a1,a2]) Q↔Wo (Wk kp [.sh a0,.sh a1,.sh a2]) (b7 Q):=gA
noncomputable def V'(kp:aP):SF:=
 (aH (yU (bS (aa rm (eV 1) (eC (.int 0)))) (eC .b8) (ma "cost_here" 3 kp (eE Ea "one" (eV 0)) (ag (zy FU (ag (eC (.int 0)) (ag (aa jf (eV 1) (eE OF "count" (eV 0))) af))) (ag (eV 2) af)))))
noncomputable def Ga(kp:aP):List D->Option Sl:=bT (V' kp) 3
theorem kJ{kp:aP}:Wo (Ga kp [a0,a1,a2]) Q↔Wo (V' kp [.sh a0,.sh a1,.sh a2]) (b7 Q):=gA
noncomputable def Wm(kp:aP):SF:=
 (au (eQ 3 (ma "cost_here" 3 kp (eE Ea "one" (eV 0)) (ag (eV 1) (ag (eV 2) af))))
 (aH (yU (fP (bS (aa m7 (eV 3) (eC .b8))) (bS (aa bH (eV 1) (eC (.int 0))))) (eV 3) (aa cc (eV 3) (eE Eh "price" (eV 0))))))
noncomputable def Ge(kp:aP):List D->Option Sl:=bT (Wm kp) 4
theorem mj{kp:aP}:Wo (Ge kp [a0,a1,a2]) Q↔Wo (Wm kp [.sh a0,.sh a1,.sh a2,.no]) (b7 Q):=gA
noncomputable def a4J(kp:aP):aP:=[("Each",HP kp),("Flat",HQ kp),("Bands",HR kp),("Steps",HL kp),("Blocks",HN kp),("Named",HK kp),("Sum",F8 kp),("Cheaper",Gc kp),("Dearer",Gb kp),("Only",F' kp),("After",Ga kp),("Fee",Ge kp)]
noncomputable def jN:Nat->aP
 | 0=>[]
 | n+1=>a4J (jN n)
noncomputable abbrev a3O:Stmt:=top 41
noncomputable abbrev Wh{α:Type}(Y:Str->Stmt->List Str->α):α:=Y "look_up_names" a3O ["rule","forms"]
noncomputable def Wq:SF:=
 (mM (ma "names" 1 F7 (eV 0) af) (gN 2)
 (dg (bS (Ar true (eV 2) (eV 1)))
 Ur dO))
noncomputable def Mh:List D->Option Sl:=bT Wq 3
theorem mf:Wo (Mh [a0,a1]) Q↔Wo (Wq [.sh a0,.sh a1,.no]) (b7 Q):=gA
noncomputable def VX:SF:=
 (au (T7 (cK 2 Mh (ag (eV 0) (ag (eV 2) af))))
 (aH (ma "cost_here" 3 (jN 12) (eV 0) (ag (eV 1) (ag (eV 2) af)))))
noncomputable def qI:List D->Option Sl:=bT VX 3
theorem qM:Wo (qI [a0,a1,a2]) Q↔Wo (VX [.sh a0,.sh a1,.sh a2]) (b7 Q):=gA
noncomputable def Hr:aP:=[("Each",qI),("Flat",qI),("Bands",qI),("Steps",qI),("Blocks",qI),("Named",qI),("Sum",qI),("Cheaper",qI),("Dearer",qI),("Only",qI),("After",qI),("Fee",qI)]
noncomputable abbrev a6D:Stmt:=top 72
noncomputable abbrev Hw{α:Type}(Y:Str->Stmt->List Str->α):α:=Y "_law_ends" a6D ["plan","forms"]
noncomputable def L3(kp:List D->Option Sl):SF:=
 (au (eQ 2 (bg (bV 0) (eC (.int 0))))
 (au (dg (bS (aa bH (eV 2) (eC (.str "name"))))
 (au (hV 3 (cJ af))
 (au (mM (Ft (eV 1) (bg (bV 0) (eC (.int 1)))) (gN 4)
 (p5 3 (cJ (ag (bg (bV 4) (eC (.int 0))) (ag (bg (bV 4) (eC (.int 1))) af)))))
 (zx 3))) dO)
 (au (dg (fP (bS (aa bH (eV 2) (eC (.str "each")))) (bS (aa bH (eV 2) (eC (.str "flat")))))
 (aH (cJ (ag (bg (bV 0) (eC (.int 2))) (ag (bg (bV 0) (eC (.int 3))) af)))) dO)
 (au (dg (bS (aa bH (eV 2) (eC (.str "blocks"))))
 (aH (cJ (ag (eC (.int 0)) (ag (bg (bV 0) (eC (.int 1))) (ag (aa dy (bg (bV 0) (eC (.int 1))) (bg (bV 0) (eC (.int 3)))) af))))) dO)
 (au (dg (fP (bS (aa bH (eV 2) (eC (.str "bands")))) (bS (aa bH (eV 2) (eC (.str "steps")))))
 (aH (aa cc (cJ (ag (eC (.int 0)) af)) (lQ (jh (bg (bV 0) (eC (.int 1)))) [] 1 (gN 0) xY (bg (bV 0) (eC (.int 0)))))) dO)
 (au (hV 3 (cK 2 kp (ag (bg (bV 0) (eC (.int 1))) (ag (eV 1) af))))
 (au (dg (fP (bS (aa bH (eV 2) (eC (.str "plus")))) (fP (bS (aa bH (eV 2) (eC (.str "or")))) (bS (aa bH (eV 2) (eC (.str "max"))))))
 (sr 3 (hV 3 (aa cc (eV 3) (cK 2 kp (ag (bg (bV 0) (eC (.int 2))) (ag (eV 1) af)))))) dO)
 (au (dg (bS (aa bH (eV 2) (eC (.str "only"))))
 (sr 3 (hV 3 (aa cc (eV 3) (cJ (ag (bg (bV 0) (eC (.int 2))) (ag (bg (bV 0) (eC (.int 3))) af)))))) dO)
 (au (dg (bS (aa bH (eV 2) (eC (.str "after"))))
 (sr 3 (hV 3 (aa cc (aa cc (eV 3) (cJ (ag (bg (bV 0) (eC (.int 2))) af))) (lQ (jh (eV 3)) [0] 1 (gN 0) xY (aa cc (eV 0) (bg (bV 1) (eC (.int 2)))))))) dO)
 (zx 3))))))))))
noncomputable def Ma(kp:List D->Option Sl):List D->Option Sl:=bT (L3 kp) 5
noncomputable def Dm:Nat->List D->Option Sl
 | 0=>λ_=>none
 | n+1=>Ma (Dm n)
theorem jP{kp:List D->Option Sl}:Wo (Ma kp [a0,a1]) Q↔Wo (L3 kp [.sh a0,.sh a1,.no,.no,.no]) (b7 Q):=gA
noncomputable abbrev a4L:Stmt:=top 73
noncomputable abbrev V7{α:Type}(Y:Str->Stmt->List Str->α):α:=Y "_law_amounts" a4L ["plan","forms","script","scale"]
noncomputable def V4:SF:=
 (au (hV 4 (cJ (ag (qo (eC (.int 1))) (ag (eC (.int 0)) (ag (eC (.int 1)) af)))))
 (au (mM (GI (iP (G' (cK 2 (Dm 12) (ag (eV 0) (ag (eV 1) af))))) Ja (Gr (eC (.int 24)))) (gN 5)
 (p5 4 (cJ (ag (aa jf (eV 5) (eC (.int 1))) (ag (eV 5) (ag (aa cc (eV 5) (eC (.int 1))) af))))))
 (au (mM (GI (bV 2) Ja (Gr (eC (.int 40)))) (gN 6)
 (mN 4 (aa jf (aa jH (eV 6) (aa dy (eC (.int 5)) (eV 3))) (eV 3))))
 (zx 4))))
noncomputable def HB:List D->Option Sl:=bT V4 7
theorem nX:Wo (HB [a0,a1,a2,a3]) Q↔Wo (V4 [.sh a0,.sh a1,.sh a2,.sh a3,.no,.no,.no]) (b7 Q):=gA
noncomputable def BW:List Str:=["one"]
noncomputable def Dk:List D->Option (List D):=gh (dR "one" (eV 1) jz) 2 BW
noncomputable def Lz:List Str:=["one","price"]
noncomputable def UI:List D->Option (List D):=gh (Lj 1 BW Dk (ag (eV 1) af) (dR "price" (eV 2) jz)) 3 Lz
noncomputable def LP:List Str:=["one","count"]
noncomputable def Vj:List D->Option (List D):=gh (Lj 1 BW Dk (ag (eV 1) af) (dR "count" (eV 2) jz)) 3 LP
noncomputable def LL:List Str:=["one","low","high"]
noncomputable def U6:List D->Option (List D):=gh (Lj 1 BW Dk (ag (eV 1) af) (dR "low" (eV 2) (dR "high" (eV 3) jz))) 4 LL
noncomputable def LX:List Str:=["one","other"]
noncomputable def Vy:List D->Option (List D):=gh (dR "one" (eV 1) (dR "other" (eV 2) jz)) 3 LX
noncomputable def L0:List Str:=["one","other"]
noncomputable def VT:List D->Option (List D):=gh (dR "one" (eV 1) (dR "other" (eV 2) jz)) 3 L0
noncomputable def LA:List Str:=["one","other"]
noncomputable def Uz:List D->Option (List D):=gh (dR "one" (eV 1) (dR "other" (eV 2) jz)) 3 LA
noncomputable def LR:List Str:=["name"]
noncomputable def Vk:List D->Option (List D):=gh (dR "name" (eV 1) jz) 2 LR
noncomputable def LW:List Str:=["size","price","many"]
noncomputable def Vx:List D->Option (List D):=gh (dR "size" (eV 1) (dR "price" (eV 2) (dR "many" (eV 3) jz))) 4 LW
noncomputable def LS:List Str:=["rows"]
noncomputable def OR:List D->Option (List D):=gh (dR "rows" (lQ (jh (eV 1)) [] 2 (gT 2 (zA (gN 0) (zA (gN 1) F1))) xY (iN (ag (eV 0) (ag (eV 1) af)))) jz) 2 LS
noncomputable def LQ:List Str:=["rows"]
noncomputable def OQ:List D->Option (List D):=gh (dR "rows" (lQ (jh (eV 1)) [] 2 (gT 2 (zA (gN 0) (zA (gN 1) F1))) xY (iN (ag (eV 0) (ag (eV 1) af)))) jz) 2 LQ
noncomputable def LK:List Str:=["price","low","high"]
noncomputable def U5:List D->Option (List D):=gh (dR "price" (eV 1) (dR "low" (eV 2) (dR "high" (eV 3) jz))) 4 LK
noncomputable def LJ:List Str:=["unit","low","high"]
noncomputable def U4:List D->Option (List D):=gh (dR "unit" (eV 1) (dR "low" (eV 2) (dR "high" (eV 3) jz))) 4 LJ
noncomputable abbrev a6z:Stmt:=top 68
noncomputable abbrev Hx{α:Type}(Y:Str->Stmt->List Str->α):α:=Y "_law_rule" a6z ["plan"]
noncomputable def Ht(kp:List D->Option Sl):SF:=
 (au (eQ 1 (bg (bV 0) (eC (.int 0))))
 (au (dg (bS (aa bH (eV 1) (eC (.str "each"))))
 (aH (pK "Each" 3 LJ U4 (ag (bg (bV 0) (eC (.int 1))) (ag (bg (bV 0) (eC (.int 2))) (ag (bg (bV 0) (eC (.int 3))) af))))) dO)
 (au (dg (bS (aa bH (eV 1) (eC (.str "flat"))))
 (aH (pK "Flat" 3 LK U5 (ag (bg (bV 0) (eC (.int 1))) (ag (bg (bV 0) (eC (.int 2))) (ag (bg (bV 0) (eC (.int 3))) af))))) dO)
 (au (dg (bS (aa bH (eV 1) (eC (.str "bands"))))
 (aH (pK "Bands" 1 LQ OQ (ag (Ll (iP (bg (bV 0) (eC (.int 1))))) af))) dO)
 (au (dg (bS (aa bH (eV 1) (eC (.str "steps"))))
 (aH (pK "Steps" 1 LS OR (ag (Ll (iP (bg (bV 0) (eC (.int 1))))) af))) dO)
 (au (dg (bS (aa bH (eV 1) (eC (.str "blocks"))))
 (aH (pK "Blocks" 3 LW Vx (ag (bg (bV 0) (eC (.int 1))) (ag (bg (bV 0) (eC (.int 2))) (ag (bg (bV 0) (eC (.int 3))) af))))) dO)
 (au (dg (bS (aa bH (eV 1) (eC (.str "name"))))
 (aH (pK "Named" 1 LR Vk (ag (bg (bV 0) (eC (.int 1))) af))) dO)
 (au (dg (bS (aa bH (eV 1) (eC (.str "plus"))))
 (aH (pK "Sum" 2 LA Uz (ag (cK 1 kp (ag (bg (bV 0) (eC (.int 1))) af)) (ag (cK 1 kp (ag (bg (bV 0) (eC (.int 2))) af)) af)))) dO)
 (au (dg (bS (aa bH (eV 1) (eC (.str "or"))))
 (aH (pK "Cheaper" 2 L0 VT (ag (cK 1 kp (ag (bg (bV 0) (eC (.int 1))) af)) (ag (cK 1 kp (ag (bg (bV 0) (eC (.int 2))) af)) af)))) dO)
 (au (dg (bS (aa bH (eV 1) (eC (.str "max"))))
 (aH (pK "Dearer" 2 LX Vy (ag (cK 1 kp (ag (bg (bV 0) (eC (.int 1))) af)) (ag (cK 1 kp (ag (bg (bV 0) (eC (.int 2))) af)) af)))) dO)
 (au (dg (bS (aa bH (eV 1) (eC (.str "only"))))
 (aH (pK "Only" 3 LL U6 (ag (cK 1 kp (ag (bg (bV 0) (eC (.int 1))) af)) (ag (bg (bV 0) (eC (.int 2))) (ag (bg (bV 0) (eC (.int 3))) af))))) dO)
 (au (dg (bS (aa bH (eV 1) (eC (.str "after"))))
 (aH (pK "After" 2 LP Vj (ag (cK 1 kp (ag (bg (bV 0) (eC (.int 1))) af)) (ag (bg (bV 0) (eC (.int 2))) af)))) dO)
 (aH (pK "Fee" 2 Lz UI (ag (cK 1 kp (ag (bg (bV 0) (eC (.int 1))) af)) (ag (bg (bV 0) (eC (.int 2))) af))))))))))))))))
noncomputable def V6(kp:List D->Option Sl):List D->Option Sl:=bT (Ht kp) 2
noncomputable def yb:Nat->List D->Option Sl
 | 0=>λ_=>none
 | n+1=>V6 (yb n)
theorem OY{kp:List D->Option Sl}:Wo (V6 kp [a0]) Q↔Wo (Ht kp [.sh a0,.no]) (b7 Q):=gA
noncomputable abbrev a7w:Stmt:=top 59
noncomputable abbrev Vf{α:Type}(Y:Str->Stmt->List Str->α):α:=Y "_law_mix" a7w ["cell","k","size"]
noncomputable def UZ:SF:=
 (au (eQ 3 (aa cc (eC (.int 271828182845904523536028747135266249775724709369995)) (aa dy (aa dy (eC (.int 2)) (eV 1)) (eV 1))))
 (au (eQ 4 (aa cc (aa dy (aa cc (aa jH (eV 0) (aa m6 (eC (.int 10)) (eC (.int 60)))) (eC (.int 1))) (eV 3)) (aa dy (eC (.int 7907)) (eV 1))))
 (aH (aa jH (aa tI (aa jH (aa dy (eV 4) (eV 4)) (aa cc (aa m6 (eC (.int 10)) (eC (.int 60))) (eC (.int 7)))) (eC (.int 11))) (eV 2)))))
noncomputable def kC:List D->Option Sl:=bT UZ 5
theorem yd:Wo (kC [a0,a1,a2]) Q↔Wo (UZ [.sh a0,.sh a1,.sh a2,.no,.no]) (b7 Q):=gA
noncomputable abbrev a56:Stmt:=top 60
noncomputable abbrev VW{α:Type}(Y:Str->Stmt->List Str->α):α:=Y "_law_price" a56 ["cell","k"]
noncomputable def VR:SF:=
 (au (eQ 2 (bg (iP (cJ (ag (eC (.int 3)) (ag (aa m6 (eC (.int 10)) (eC (.int 9))) (ag (aa m6 (eC (.int 10)) (eC (.int 39))) af))))) (cK 3 kC (ag (eV 0) (ag (aa cc (eV 1) (eC (.int 60))) (ag (eC (.int 3)) af))))))
 (aH (aa jf (cK 3 kC (ag (eV 0) (ag (eV 1) (ag (aa cc (aa dy (eC (.int 2)) (eV 2)) (eC (.int 1))) af)))) (eV 2))))
noncomputable def BX:List D->Option Sl:=bT VR 3
theorem qK:Wo (BX [a0,a1]) Q↔Wo (VR [.sh a0,.sh a1,.no]) (b7 Q):=gA
noncomputable abbrev a44:Stmt:=top 66
noncomputable abbrev V3{α:Type}(Y:Str->Stmt->List Str->α):α:=Y "_law_turned" a44 ["one","kind","cell","scale"]
noncomputable def VP:SF:=
 (au (dg (bS (aa bH (eV 1) (eC (.str "only"))))
 (au (eQ 4 (aa dy (cK 3 kC (ag (eV 2) (ag (eC (.int 50)) (ag (eV 3) af)))) (cK 3 kC (ag (eV 2) (ag (eC (.int 51)) (ag (eC (.int 2)) af))))))
 (aH (iN (ag (eV 1) (ag (eV 0) (ag (eV 4) (ag (aa cc (eV 4) (cK 3 kC (ag (eV 2) (ag (eC (.int 52)) (ag (aa dy (eC (.int 3)) (eV 3)) af))))) af))))))) dO)
 (au (dg (bS (aa bH (eV 1) (eC (.str "after"))))
 (aH (iN (ag (eV 1) (ag (eV 0) (ag (cK 3 kC (ag (eV 2) (ag (eC (.int 53)) (ag (eV 3) af)))) af))))) dO)
 (au (dg (bS (aa bH (eV 1) (eC (.str "fee"))))
 (aH (iN (ag (eV 1) (ag (eV 0) (ag (cK 2 BX (ag (eV 2) (ag (eC (.int 54)) af))) af))))) dO)
 (aH (iN (ag (eV 1) (ag (eV 0) af)))))))
noncomputable def HA:List D->Option Sl:=bT VP 5
theorem pd:Wo (HA [a0,a1,a2,a3]) Q↔Wo (VP [.sh a0,.sh a1,.sh a2,.sh a3,.no]) (b7 Q):=gA
noncomputable abbrev a6A:Stmt:=top 61
noncomputable abbrev VC{α:Type}(Y:Str->Stmt->List Str->α):α:=Y "_law_rows" a6A ["cell","scale"]
noncomputable def VL:SF:=
 (au (hV 2 (cJ af))
 (au (eQ 3 (aa tI (aa dy (cK 3 kC (ag (eV 0) (ag (eC (.int 30)) (ag (eV 1) af)))) (cK 3 kC (ag (eV 0) (ag (eC (.int 31)) (ag (eC (.int 3)) af))))) (eC (.int 2))))
 (au (Hg wy (ag (aa cc (eC (.int 1)) (cK 3 kC (ag (eV 0) (ag (eC (.int 32)) (ag (eC (.int 3)) af))))) af) (gN 4)
 (au (mN 2 (iN (ag (eV 3) (ag (cK 2 BX (ag (eV 0) (ag (aa cc (eC (.int 33)) (eV 4)) af))) af))))
 (eQ 3 (aa cc (aa cc (eV 3) (eC (.int 1))) (cK 3 kC (ag (eV 0) (ag (aa cc (eC (.int 40)) (eV 4)) (ag (eV 1) af))))))))
 (zx 2))))
noncomputable def HH:List D->Option Sl:=bT VL 5
theorem uj:Wo (HH [a0,a1]) Q↔Wo (VL [.sh a0,.sh a1,.no,.no,.no]) (b7 Q):=gA
noncomputable abbrev a6B:Stmt:=top 62
noncomputable abbrev VB{α:Type}(Y:Str->Stmt->List Str->α):α:=Y "_law_leaf" a6B ["cell","scale"]
noncomputable def VJ:SF:=
 (au (eQ 2 (bg (iP (cJ (ag (eC (.str "each")) (ag (eC (.str "flat")) (ag (eC (.str "bands")) (ag (eC (.str "steps")) (ag (eC (.str "blocks")) (ag (eC (.str "name")) af)))))))) (cK 3 kC (ag (eV 0) (ag (eC (.int 1)) (ag (eC (.int 6)) af))))))
 (au (eQ 3 (cK 2 BX (ag (eV 0) (ag (eC (.int 2)) af))))
 (au (eQ 4 (aa dy (cK 3 kC (ag (eV 0) (ag (eC (.int 3)) (ag (eV 1) af)))) (cK 3 kC (ag (eV 0) (ag (eC (.int 4)) (ag (eC (.int 2)) af))))))
 (au (eQ 5 (aa cc (eV 4) (aa dy (cK 3 kC (ag (eV 0) (ag (eC (.int 5)) (ag (eV 1) af)))) (cK 3 kC (ag (eV 0) (ag (eC (.int 6)) (ag (eC (.int 4)) af)))))))
 (au (dg (fP (bS (aa bH (eV 2) (eC (.str "bands")))) (bS (aa bH (eV 2) (eC (.str "steps")))))
 (aH (iN (ag (eV 2) (ag (cK 2 HH (ag (eV 0) (ag (eV 1) af))) af)))) dO)
 (au (dg (bS (aa bH (eV 2) (eC (.str "blocks"))))
 (aH (iN (ag (eV 2) (ag (aa cc (eC (.int 1)) (cK 3 kC (ag (eV 0) (ag (eC (.int 7)) (ag (eV 1) af))))) (ag (eV 3) (ag (aa cc (eC (.int 1)) (cK 3 kC (ag (eV 0) (ag (eC (.int 8)) (ag (eC (.int 4)) af))))) af)))))) dO)
 (au (dg (bS (aa bH (eV 2) (eC (.str "name"))))
 (aH (iN (ag (eV 2) (ag (bg (iP (cJ (ag (eC (.str "p")) (ag (eC (.str "qq")) (ag (eC (.str "ptop")) af))))) (cK 3 kC (ag (eV 0) (ag (eC (.int 9)) (ag (eC (.int 3)) af))))) af)))) dO)
 (aH (iN (ag (eV 2) (ag (eV 3) (ag (eV 4) (ag (eV 5) af)))))))))))))
noncomputable def HG:List D->Option Sl:=bT VJ 6
theorem uk:Wo (HG [a0,a1]) Q↔Wo (VJ [.sh a0,.sh a1,.no,.no,.no,.no]) (b7 Q):=gA
noncomputable abbrev a6x:Stmt:=top 67
noncomputable abbrev VE{α:Type}(Y:Str->Stmt->List Str->α):α:=Y "_law_tree" a6x ["numbers","scale","turns"]
noncomputable def a6W:En->Nat:=λ_=>1000000
noncomputable def Vr:SF:=
 (au (hV 3 (cJ af))
 (au (mM (eV 0) (gN 4)
 (au (eQ 5 (cK 3 kC (ag (eV 4) (ag (eC (.int 0)) (ag (eC (.int 13)) af)))))
 (dg (qE (bS (aa CD (eV 5) (eC (.int 8)))) (bS (aa CD (ji (bV 3)) (eC (.int 0)))))
 (D4 3 (Lu 4 HA (F2 3 (ag (bg (bV 2) (aa jH (eV 5) (ji (bV 2)))) (ag (eV 4) (ag (eV 1) af)))))) (dg (qE (bS (aa CD (eV 5) (eC (.int 5)))) (bS (aa CD (ji (bV 3)) (eC (.int 1)))))
 (au (sk 6 3)
 (D4 3 (Lh (Lr (bg (iP (cJ (ag (eC (.str "plus")) (ag (eC (.str "or")) (ag (eC (.str "max")) af))))) (aa jH (eV 5) (eC (.int 3)))) (F2 3 (ag (eV 6) af)))))) (mN 3 (cK 2 HG (ag (eV 4) (ag (eV 1) af))))))))
 (au (N3 a6W (bS (aa CD (ji (bV 3)) (eC (.int 1))))
 (au (sk 6 3)
 (D4 3 (Lh (Lr (bg (iP (cJ (ag (eC (.str "or")) (ag (eC (.str "plus")) (ag (eC (.str "max")) (ag (eC (.str "or")) af)))))) (aa jH (ji (bV 3)) (eC (.int 4)))) (F2 3 (ag (eV 6) af)))))))
 (sr 3 (aH (bg (iP (aa cc (eV 3) (cJ (ag (iN (ag (eC (.str "each")) (ag (eC (.int 1)) (ag (eC (.int 0)) (ag (eV 1) af))))) af)))) (eC (.int 0))))))))
noncomputable def HI:List D->Option Sl:=bT Vr 7
theorem uh:Wo (HI [a0,a1,a2]) Q↔Wo (Vr [.sh a0,.sh a1,.sh a2,.no,.no,.no,.no]) (b7 Q):=gA
noncomputable abbrev a45:Stmt:=top 65
noncomputable abbrev V2{α:Type}(Y:Str->Stmt->List Str->α):α:=Y "_law_folded" a45 ["script","first","most"]
noncomputable def VO:SF:=
 (au (hV 3 (cJ af))
 (au (T8 (w5 NX (ag (eV 1) (ag (ji (bV 0)) af))) (gN 4)
 (dg (bS (aa rm (ji (bV 3)) (eV 2)))
 (mN 3 (aa jH (bg (bV 0) (eV 4)) (aa m6 (eC (.int 10)) (eC (.int 60))))) (au (eQ 5 (aa cc (aa dy (bg (bV 3) (aa jH (eV 4) (eV 2))) (eC (.int 10007))) (aa jH (bg (bV 0) (eV 4)) (aa m6 (eC (.int 10)) (eC (.int 60))))))
 (Hc 3 (aa jH (eV 5) (aa m6 (eC (.int 10)) (eC (.int 60)))) (aa jH (eV 4) (eV 2))))))
 (zx 3)))
noncomputable def Hz:List D->Option Sl:=bT VO 6
theorem pf:Wo (Hz [a0,a1,a2]) Q↔Wo (VO [.sh a0,.sh a1,.sh a2,.no,.no,.no]) (b7 Q):=gA
noncomputable abbrev a6C:Stmt:=top 63
noncomputable abbrev VA{α:Type}(Y:Str->Stmt->List Str->α):α:=Y "_law_form" a6C ["cell","scale"]
noncomputable def VI:SF:=
 (au (hV 2 (cJ af))
 (au (eQ 3 (aa jf (cK 3 kC (ag (eV 0) (ag (eC (.int 70)) (ag (aa dy (eC (.int 2)) (eV 1)) af)))) (eV 1)))
 (au (Hg wy (ag (cK 3 kC (ag (eV 0) (ag (eC (.int 71)) (ag (eC (.int 4)) af)))) af) (gN 4)
 (au (eQ 5 (aa cc (eV 3) (aa dy (cK 3 kC (ag (eV 0) (ag (aa cc (eC (.int 72)) (eV 4)) (ag (eV 1) af)))) (cK 3 kC (ag (eV 0) (ag (aa cc (eC (.int 76)) (eV 4)) (ag (eC (.int 2)) af)))))))
 (au (eQ 6 (eC (.int 0)))
 (au (dg (bS (aa rm (eV 3) (eV 5)))
 (eQ 6 (cK 2 BX (ag (eV 0) (ag (aa cc (eC (.int 80)) (eV 4)) af)))) dO)
 (au (mN 2 (iN (ag (eV 3) (ag (eV 5) (ag (cK 2 BX (ag (eV 0) (ag (aa cc (eC (.int 84)) (eV 4)) af))) (ag (eV 6) af))))))
 (eQ 3 (aa cc (aa cc (eV 5) (eC (.int 2))) (cK 3 kC (ag (eV 0) (ag (aa cc (eC (.int 88)) (eV 4)) (ag (eV 1) af)))))))))))
 (aH (N9 (bV 2))))))
noncomputable def HF:List D->Option Sl:=bT VI 7
theorem um:Wo (HF [a0,a1]) Q↔Wo (VI [.sh a0,.sh a1,.no,.no,.no,.no,.no]) (b7 Q):=gA
noncomputable abbrev a8F:Stmt:=top 58
noncomputable abbrev Va{α:Type}(Y:Str->Stmt->List Str->α):α:=Y "_law_at" a8F ["script","k"]
noncomputable def UN:SF:=
 (au (dg (bS (aa rm (eV 1) (ji (bV 0))))
 (aH (bg (bV 0) (eV 1))) dO)
 (aH (eC (.int 0))))
noncomputable def Hu:List D->Option Sl:=bT UN 2
theorem A0:Wo (Hu [a0,a1]) Q↔Wo (UN [.sh a0,.sh a1]) (b7 Q):=gA
noncomputable abbrev a58:Stmt:=top 64
noncomputable abbrev VV{α:Type}(Y:Str->Stmt->List Str->α):α:=Y "_law_forms" a58 ["script","scale"]
noncomputable def VQ:SF:=
 (au (hV 2 RQ)
 (au (Hg wy (ag (eC (.int 3)) af) (gN 3)
 (Gp 2 (cK 2 HF (ag (cK 2 Hu (ag (eV 0) (ag (aa cc (eC (.int 1)) (eV 3)) af))) (ag (eV 1) af))) (bg (iP (cJ (ag (eC (.str "p")) (ag (eC (.str "qq")) (ag (eC (.str "ptop")) af))))) (eV 3))))
 (zx 2)))
noncomputable def HC:List D->Option Sl:=bT VQ 4
theorem qL:Wo (HC [a0,a1]) Q↔Wo (VQ [.sh a0,.sh a1,.no,.no]) (b7 Q):=gA
noncomputable abbrev LD:Stmt:=top 76
noncomputable abbrev Ie{α:Type}(Y:Str->Stmt->List Str->α):α:=Y "law" LD ["script"]
noncomputable def TN:SF:=
 (au (eQ 1 (bg (iP (cJ (ag (eC (.int 9)) (ag (aa m6 (eC (.int 10)) (eC (.int 6))) (ag (aa m6 (eC (.int 10)) (eC (.int 38))) af))))) (aa jH (cK 2 Hu (ag (eV 0) (ag (eC (.int 0)) af))) (eC (.int 3)))))
 (au (eQ 2 (cK 2 HC (ag (eV 0) (ag (eV 1) af))))
 (au (eQ 3 (cK 3 HI (ag (cK 3 Hz (ag (eV 0) (ag (eC (.int 4)) (ag (eC (.int 9)) af)))) (ag (eV 1) (ag (cJ (ag (eC (.str "only")) (ag (eC (.str "after")) (ag (eC (.str "fee")) af)))) af)))))
 (au (eQ 4 (cK 1 (yb 12) (ag (eV 3) af)))
 (au (mM (cK 4 HB (ag (eV 3) (ag (eV 2) (ag (eV 0) (ag (eV 1) af))))) (gN 5)
 (dg (D5 (r8 (cK 2 L' (ag (ma "cost" 3 Hr (eV 4) (ag (eV 5) (ag (eV 2) af))) (ag (cK 3 (AZ 12) (ag (eV 3) (ag (eV 5) (ag (eV 2) af)))) af)))))
 (aH (eC (.bl false))) dO))
 (au (hV 6 (ma "names" 1 F7 (eV 4) af))
 (au (dg (B3 6 (fP (D5 (r8 (Fu LN (eV 4)))) (fP (D5 (r8 (Au "list" (eV 6)))) (bS (aa CC (eV 6) (G' (cK 1 (Em 12) (ag (eV 3) af))))))))
 (aH (eC (.bl false))) dO)
 (au (mN 6 (eC (.str "zz")))
 (aH (aa bH (ma "names" 1 F7 (eV 4) af) (GI (bV 6) Ja (Gr (qo (eC (.int 1)))))))))))))))
noncomputable def Ot:List D->Option Sl:=bT TN 7
theorem Mj:Wo (Ot [a0]) Q↔Wo (TN [.sh a0,.no,.no,.no,.no,.no,.no]) (b7 Q):=gA
structure Obs(K:aQ)(mg:Str->Option Value)(bM bL bu bq aK bE cz aE aJ bF bf cA br bZ aF bC aW ae a8 ai bp bo bU a9 aY aT aZ az bB aN aS bj be bD ao aw cj bO bW aI bN bG bh bX bY:Addr):Prop where
 dj:dI K "Each" bM
 Fj:mg "Each" = some (.ref bM)
 rZ:Mk K bM bY
 gr:av K bM "unit"
 ig:av K bM "low"
 gu:av K bM "high"
 iA:ar K bM "parts" aF
 eM:ar K bM "all_names" ae
 iB:ar K bM "names" ai
 eL:ar K bM "cost_here" bp
 je:ar K bM "cost" ao
 qj:uw K bM br true
 di:dI K "Flat" bL
 Fi:mg "Flat" = some (.ref bL)
 rY:Mk K bL bX
 fE:av K bL "price"
 ie:av K bL "low"
 gp:av K bL "high"
 iw:ar K bL "parts" aF
 eK:ar K bL "all_names" ae
 iy:ar K bL "names" ai
 eJ:ar K bL "cost_here" bo
 iZ:ar K bL "cost" ao
 qi:uw K bL br true
 c9:dI K "Bands" bu
 CA:mg "Bands" = some (.ref bu)
 oy:Mk K bu bh
 fG:av K bu "rows"
 gM:ar K bu "parts" aF
 dZ:ar K bu "all_names" ae
 gO:ar K bu "names" ai
 gP:ar K bu "holds" bU
 dY:ar K bu "cost_here" a9
 iC:ar K bu "cost" ao
 oS:uw K bu br true
 c8:dI K "Steps" bq
 Cy:mg "Steps" = some (.ref bq)
 ou:Mk K bq bh
 fC:av K bq "rows"
 gE:ar K bq "parts" aF
 dU:ar K bq "all_names" ae
 gF:ar K bq "names" ai
 gG:ar K bq "holds" bU
 dS:ar K bq "cost_here" aY
 il:ar K bq "cost" ao
 oM:uw K bq br true
 b9:dI K "Blocks" aK
 An:mg "Blocks" = some (.ref aK)
 mK:Mk K aK bG
 eW:av K aK "size"
 dQ:av K aK "price"
 eZ:av K aK "many"
 fX:ar K aK "parts" aF
 dH:ar K aK "all_names" ae
 fY:ar K aK "names" ai
 dG:ar K aK "cost_here" aT
 gL:ar K aK "cost" ao
 nL:uw K aK br true
 dD:dI K "Named" bE
 Cz:mg "Named" = some (.ref bE)
 ox:Mk K bE bN
 fD:av K bE "name"
 gH:ar K bE "parts" aF
 dX:ar K bE "all_names" a8
 gJ:ar K bE "names" ai
 dW:ar K bE "cost_here" aZ
 ir:ar K bE "cost" ao
 oR:uw K bE br true
 fR:dI K "Sum" cz
 Ke:mg "Sum" = some (.ref cz)
 zG:Mk K cz aI
 jr:av K cz "one"
 gm:av K cz "other"
 iW:ar K cz "parts" bC
 fu:ar K cz "all_names" ae
 iX:ar K cz "names" ai
 dq:ar K cz "offered_costs" az
 ft:ar K cz "cost_here" bB
 jF:ar K cz "cost" ao
 tu:uw K cz br true
 bQ:dI K "Cheaper" aE
 w4:mg "Cheaper" = some (.ref aE)
 k5:Mk K aE aI
 eU:av K aE "one"
 dC:av K aE "other"
 fy:ar K aE "parts" bC
 dt:ar K aE "all_names" ae
 fA:ar K aE "names" ai
 cH:ar K aE "offered_costs" az
 dr:ar K aE "cost_here" aN
 fW:ar K aE "cost" ao
 mX:uw K aE br true
 cm:dI K "Dearer" aJ
 Am:mg "Dearer" = some (.ref aJ)
 mJ:Mk K aJ aI
 fF:av K aJ "one"
 dP:av K aJ "other"
 fU:ar K aJ "parts" bC
 dF:ar K aJ "all_names" ae
 fV:ar K aJ "names" ai
 cI:ar K aJ "offered_costs" az
 dE:ar K aJ "cost_here" aS
 gK:ar K aJ "cost" ao
 nK:uw K aJ br true
 dh:dI K "Only" bF
 Fg:mg "Only" = some (.ref bF)
 rX:Mk K bF bW
 h8:av K bF "one"
 ic:av K bF "low"
 gn:av K bF "high"
 ip:ar K bF "parts" aW
 eI:ar K bF "all_names" ae
 iq:ar K bF "names" ai
 eG:ar K bF "cost_here" bj
 iY:ar K bF "cost" ao
 qh:uw K bF br true
 cS:dI K "After" bf
 CB:mg "After" = some (.ref bf)
 oz:Mk K bf bO
 gw:av K bf "one"
 e7:av K bf "count"
 gQ:ar K bf "parts" aW
 eh:ar K bf "all_names" ae
 gR:ar K bf "names" ai
 d9:ar K bf "cost_here" be
 iD:ar K bf "cost" ao
 oT:uw K bf br true
 gy:dI K "Fee" cA
 Kf:mg "Fee" = some (.ref cA)
 zH:Mk K cA cj
 js:av K cA "one"
 gq:av K cA "price"
 jc:ar K cA "parts" aW
 fx:ar K cA "all_names" ae
 jd:ar K cA "names" ai
 fw:ar K cA "cost_here" bD
 jG:ar K cA "cost" ao
 tz:uw K cA br true
 Ff:mg "Rule" = some (.ref br)
 mZ:mg "Single" = some (.ref bZ)
 nk:qQ K bZ aw
section
variable {P:Program}{w:World}{K:aQ}{mg:Str->Option Value}{base:Heap}
variable {bM bL bu bq aK bE cz aE aJ bF bf cA br bZ aF bC aW ae a8 ai bp bo bU a9 aY aT aZ az bB aN aS bj be bD ao aw cj bO bW aI bN bG bh bX bY:Addr}(OB:Obs K mg bM bL bu bq aK bE cz aE aJ bF bf cA br bZ aF bC aW ae a8 ai bp bo bU a9 aY aT aZ az bB aN aS bj be bD ao aw cj bO bW aI bN bG bh bX bY)
variable (z_len:mg "len" = none)
variable (z_range:mg "range" = none)
variable (z_tuple:mg "tuple" = none)
variable (z_list:mg "list" = none)
variable (z_sum:mg "sum" = none)
variable (z_min:mg "min" = none)
variable (z_int:mg "int" = none)
variable (z_max:mg "max" = none)
variable (z_sorted:mg "sorted" = none)
variable (z_set:mg "set" = none)
variable (z_isinstance:mg "isinstance" = none)
variable (z_bool:mg "bool" = none)
variable {c7:aP}{dJ:Nat}(fL:k4 P w K mg base "all_names" 1 dJ c7)
variable {aj:aP}{aq:Nat}(bw:k4 P w K mg base "cost_here" 3 aq aj)
variable {lL:List D->Option Sl}{mQ:Nat}(bP:Hx (Oz P w K mg base) mQ lL)
variable {gx:List D->Option Sl}{ij:Nat}(ck:Hv (Oz P w K mg base) ij gx)
variable {lM:List D->Option Sl}{mR:Nat}(fj:Hw (Oz P w K mg base) mR lM)
variable {j8:List D->Option Sl}{lN:Nat}(ej:Hs (Oz P w K mg base) lN j8)
theorem a71(D':V1 (cF K a) d):V1 (Om P w K mg base a) 1 AY:=nU (N:=["self"]) D' λX r h=>by
 cases r
 exact (bJ (cB (jt aU)))
variable (Dl:V1 (Om P w K mg base aF) 1 AY)
include OB in
theorem a9W:FL K "other" UR:=(me OB.fR OB.gm (me OB.bQ OB.dC (me OB.cm OB.dP AS)))
variable (kS:FL K "other" UR)
include OB in
theorem b2a:FL K "one" Ea:=(me OB.fR OB.jr (me OB.bQ OB.eU (me OB.cm OB.fF (me OB.dh OB.h8 (me OB.cS OB.gw (me OB.gy OB.js AS))))))
variable (du:FL K "one" Ea)
include kS du in
theorem a73(D':V8 (cF K a) d):V8 (Om P w K mg base a) 1 Mi:=nU (N:=["self"]) D' λX r h=>by
 cases r
 exact (bJ (cB (jt (ah (md (h.v 0) du) (ah (md (h.v 0) kS) aU)))))
variable (HD:V8 (Om P w K mg base bC) 1 Mi)
include du in
theorem a6N(D':V0 (cF K a) d):V0 (Om P w K mg base a) 1 Me:=nU (N:=["self"]) D' λX r h=>by
 cases r
 exact (bJ (cB (jt (ah (md (h.v 0) du) aU))))
variable (Hy:V0 (Om P w K mg base aW) 1 Me)
include OB Dl HD Hy in
theorem a9O:k4 P w K mg base "parts" 1 1 Dp:=(dA OB.dj OB.iA Dl (dA OB.di OB.iw Dl (dA OB.c9 OB.gM Dl (dA OB.c8 OB.gE Dl (dA OB.b9 OB.fX Dl (dA OB.dD OB.gH Dl (dA OB.fR OB.iW HD (dA OB.bQ OB.fy HD (dA OB.cm OB.fU HD (dA OB.dh OB.ip Hy (dA OB.cS OB.gQ Hy (dA OB.gy OB.jc Hy De))))))))))))
variable (f':k4 P w K mg base "parts" 1 1 Dp)
include fL f' in
theorem a5M(D':Pz (cF K a) d):Pz (Om P w K mg base a) (dJ+2) (oe c7):=nU (N:=["self","found","part"]) D' λX r h=>by
 cases r
 exact (bK (h.set 1 (jt aU)) (bK (Eb h.own h.calm (h.E1 (n:=1) f' (h.v 0) (hj:=by omega)) (h.tg 2) (bJ (h.ext 1 (h.E1 (n:=1) fL (h.v 2) (hj:=by omega))))) (bJ (h.sy 1))))
variable (v7:Pz (Om P w K mg base ae) (dJ+2) (oe c7))
include OB in
theorem b1i:FL K "name" Hl:=(me OB.dD OB.fD AS)
variable (iI:FL K "name" Hl)
include iI in
theorem a5g(D':PM (cF K a) d):PM (Om P w K mg base a) (dJ+1) (HS c7):=nU (N:=["self"]) D' λX r h=>by
 cases r
 exact (bJ (cB (jt (ah (md (h.v 0) iI) aU))))
variable (PF:PM (Om P w K mg base a8) (dJ+1) (HS c7))
include OB v7 PF in
theorem a6P:k4 P w K mg base "all_names" 1 (dJ+2) (a4K c7):=(dA OB.dj OB.eM v7 (dA OB.di OB.eK v7 (dA OB.c9 OB.dZ v7 (dA OB.c8 OB.dU v7 (dA OB.b9 OB.dH v7 (dA OB.dD OB.dX PF (dA OB.fR OB.fu v7 (dA OB.bQ OB.dt v7 (dA OB.cm OB.dF v7 (dA OB.dh OB.eI v7 (dA OB.cS OB.eh v7 (dA OB.gy OB.fx v7 De (hj:=by omega)) (hj:=by omega)) (hj:=by omega)) (hj:=by omega)) (hj:=by omega)) (hj:=by omega)) (hj:=by omega)) (hj:=by omega)) (hj:=by omega)) (hj:=by omega)) (hj:=by omega)) (hj:=by omega))
variable (fK:k4 P w K mg base "all_names" 1 25 (qJ 12))
include z_sorted z_set fK in
theorem a72(D':V9 (cF K a) d):V9 (Om P w K mg base a) 26 pS:=nU (N:=["self"]) D' λX r h=>by
 cases r
 exact (bJ (cB (UK h.calm h.g z_sorted h.g z_set (h.E1 (n:=1) fK (h.v 0)))))
variable (uf:V9 (Om P w K mg base ai) 26 pS)
include OB uf in
theorem a9P:k4 P w K mg base "names" 1 26 F7:=(dA OB.dj OB.iB uf (dA OB.di OB.iy uf (dA OB.c9 OB.gO uf (dA OB.c8 OB.gF uf (dA OB.b9 OB.fY uf (dA OB.dD OB.gJ uf (dA OB.fR OB.iX uf (dA OB.bQ OB.fA uf (dA OB.cm OB.fV uf (dA OB.dh OB.iq uf (dA OB.cS OB.gR uf (dA OB.gy OB.jd uf De))))))))))))
variable (fg:k4 P w K mg base "names" 1 26 F7)
include ej in
theorem a8P(D':Hs (Def K mg) a d):Hs (Oz P w K mg base) (lN+1) (VY j8):=fH (N:=["plan","told"]) D' λX r h=>by
 cases r
 exact (bK (ei (cC (ff h.u8) (bI (h.bv 0) aB) cM) (bJ (cB (jt (ah (bI (h.bv 0) aB) aU)))) eO) (bK (h.cu 1 (jt aU)) (bK (ei (cC (Yz h.u8) (bI (h.bv 0) aB) (jt (ah cM (ah cM (ah cM aU)))) (by with_unfolding_all rfl)) (bJ (h.cu 1 (h.cl ej (ah (bI (h.bv 0) aB) aU) (hj:=by omega)))) eO) (bK (ei (cC (Yz h.u8) (bI (h.bv 0) aB) (jt (ah cM (ah cM (ah cM (ah cM (ah cM (ah cM aU))))))) (by with_unfolding_all rfl)) (bJ (h.cu 1 (bR gC (h.v 1) (h.cl ej (ah (bI (h.bv 0) aB) aU) (hj:=by omega))))) eO) (bJ (cB (h.v 1)))))))
variable (Pd:Hs (Oz P w K mg base) 13 (Em 12))
include OB in
theorem b1e:mg "Rule" = some (.ref br)/\IL K br LN:=⟨OB.Ff,(zC OB.dj OB.qj (zC OB.di OB.qi (zC OB.c9 OB.oS (zC OB.c8 OB.oM (zC OB.b9 OB.nL (zC OB.dD OB.oR (zC OB.fR OB.tu (zC OB.bQ OB.mX (zC OB.cm OB.nK (zC OB.dh OB.qh (zC OB.cS OB.oT (zC OB.gy OB.tz b8T))))))))))))⟩
variable (kQ:mg "Rule" = some (.ref br)/\IL K br LN)
include z_int z_isinstance z_bool in
theorem a9F(D':VD (Def K mg) a d):VD (Oz P w K mg base) 1 L':=fH (N:=["found","due"]) D' λX r h=>by
 cases r
 exact (bK (ei (cC Df (h.v 1) kY) (bJ (cB (Lv Df (h.v 0) kY))) eO) (bJ (cB (YU (Uk (eN rfl) h.g z_isinstance h.g z_int (by decide +kernel) (h.v 0)) (YU (b85 (Uk (cP (eN rfl)) h.g z_isinstance h.g z_bool (by decide +kernel) (h.v 0))) (b84 (Lv (ff h.u8) (h.v 0) (h.v 1))))))))
variable (OV:VD (Oz P w K mg base) 1 L')
include z_len z_range z_sum z_min z_int in
theorem a6i(D':Wg (Def K mg) a d):Wg (Oz P w K mg base) 1 Mf:=fH (N:=["plan","x","forms","kind","tops","found"]) D' λX r h=>by
 cases r
 exact (bK (h.cu 3 (bI (h.bv 0) aB)) (bK (ei (cC (ff h.u8) (h.v 3) cM) (bK (UD (i:=5) false (N':=["part","x"]) (caps:=[1]) (nt:=1) h ⟨rfl,by decide +kernel,by decide +kernel,by decide +kernel,by decide +kernel,rfl,rfl,by decide +kernel⟩ (BU (h.EA (h.v 2) (bI (h.bv 0) aB))) (λX1 ni nh m9 lC m8 h1=>⟨(h1.tg 0),(Oc (gW (N6 (cC vV (bI (h1.bv 0) aB) (h1.v 1)) (Ox (cC vV (h1.v 1) (bI (h1.bv 0) aB)))))),(h1.v 0)⟩)) (bK (ei (cC (ff h.u8) (vX h.g z_len (h.bv 5)) aB) (bJ (cB kY)) eO) (bJ (cB (bR gC (bI (kX (bI (h.bv 5) aB)) aB) (bR kZ (bI (kX (bI (h.bv 5) aB)) aB) (bR AU (h.v 1) (bI (kX (bI (h.bv 5) aB)) aB)))))))) eO) (bK (ei (gW (o6 (cC (ff h.u8) (h.v 3) cM) (rS (cC (ff h.u8) (h.v 3) cM)))) (bK (ei (gW (o6 (cC vW (h.v 1) (bI (h.bv 0) aB)) (rS (cC vW (bI (h.bv 0) aB) (h.v 1))))) (bJ (cB kY)) eO) (bJ (cB (bR kZ (bI (h.bv 0) aB) (bI (kX (jt (ah aB (ah (h.v 1) aU)))) (Zw h.g z_int (Lv (ff h.u8) (h.v 3) cM))))))) eO) (bK (ei (cC (ff h.u8) (h.v 3) cM) (bK (ei (gW (o6 (cC vW (h.v 1) aB) (rS (cC F0 (h.v 1) (bR kZ (bI (h.bv 0) aB) (bI (h.bv 0) aB)))))) (bJ (cB kY)) eO) (bJ (cB (bR kZ (bI (h.bv 0) aB) (bR LB (bR AU (bR gC (h.v 1) (bI (h.bv 0) aB)) aB) (bI (h.bv 0) aB)))))) eO) (bK (ei (gW (o6 (cC vW (h.v 1) aB) (rS (cC F0 (h.v 1) (bI (kX (bI (kX (bI (h.bv 0) aB)) (Hi aB))) aB))))) (bJ (cB kY)) eO) (bK (ei (cC (ff h.u8) (h.v 3) cM) (bJ (cB (bR kZ (h.v 1) (bI (kX (Ee (N':=["row","x"]) (caps:=[1]) (nt:=1) h ⟨rfl,by decide +kernel,by decide +kernel,by decide +kernel,by decide +kernel,rfl,rfl,by decide +kernel⟩ (BU (bI (h.bv 0) aB)) (λX1 ni nh m9 lC m8 h1=>⟨(h1.tg 0),(Oc (cC vV (h1.v 1) (bI (h1.bv 0) aB))),(bI (h1.bv 0) aB)⟩))) aB)))) eO) (bK (h.cu 4 (bR gC (jt (ah aB aU)) (Ee (N':=["row"]) (caps:=[]) (nt:=1) h ⟨rfl,by decide +kernel,by decide +kernel,by decide +kernel,by decide +kernel,rfl,rfl,by decide +kernel⟩ (BU (bI (h.bv 0) aB)) (λX1 ni nh m9 lC m8 h1=>⟨(h1.tg 0),F4,(bI (h1.bv 0) aB)⟩)))) (bJ (cB (YV h.g z_sum h.calm (kX (Ee (N':=["j","plan","x","tops"]) (caps:=[0,1,4]) (nt:=1) h ⟨rfl,by decide +kernel,by decide +kernel,by decide +kernel,by decide +kernel,rfl,rfl,by decide +kernel⟩ (b38 h.g z_range (ah (vX h.g z_len (kX (bI (h.bv 0) aB))) aU)) (λX1 ni nh m9 lC m8 h1=>⟨(h1.tg 0),F4,(bR kZ (bI (kX (bI (kX (bI (h1.bv 1) aB)) (h1.v 0))) aB) (bR AU (Ei (Oh h1.calm) h1.g (HW lC z_min) (by decide +kernel) (ah (h1.v 2) (ah (bI (h1.bv 3) (bR gC (h1.v 0) aB)) aU))) (Ei (Oh h1.calm) h1.g (HW lC z_min) (by decide +kernel) (ah (h1.v 2) (ah (bI (h1.bv 3) (h1.v 0)) aU)))))⟩)))))))))))))
variable (Pg:Wg (Oz P w K mg base) 1 Mf)
include z_min z_int z_max ck in
theorem a9M(D':O0 (Def K mg) a d):O0 (Oz P w K mg base) (ij+1) (HE gx):=fH (N:=["plan","x","forms","first","second"]) D' λX r h=>by
 cases r
 exact (bK (h.cu 3 (h.cl ck (ah (bI (h.bv 0) aB) (ah (h.v 1) (ah (h.v 2) aU))) (hj:=by omega))) (bK (h.cu 4 (h.cl ck (ah (bI (h.bv 0) aB) (ah (h.v 1) (ah (h.v 2) aU))) (hj:=by omega))) (bK (ei (gW (N6 (cC (ff h.u8) (bI (h.bv 0) aB) cM) (Ox (gW (o6 (cC Df (h.v 3) kY) (rS (cC Df (h.v 4) kY))))))) (bJ (cB (bI (kX (jt (ah (h.v 3) (ah (h.v 4) aU)))) (Zw h.g z_int (Lv Df (h.v 3) kY))))) eO) (bK (ei (gW (o6 (cC Df (h.v 3) kY) (rS (cC Df (h.v 4) kY)))) (bJ (cB kY)) eO) (bK (ei (cC (ff h.u8) (bI (h.bv 0) aB) cM) (bJ (cB (bR gC (h.v 3) (h.v 4)))) eO) (bK (ei (cC (ff h.u8) (bI (h.bv 0) aB) cM) (bJ (cB (Ei (Oh h.calm) h.g z_min (by decide +kernel) (ah (h.v 3) (ah (h.v 4) aU))))) eO) (bJ (cB (Ei (Og h.calm) h.g z_max (by decide +kernel) (ah (h.v 3) (ah (h.v 4) aU)))))))))))
variable (O4:O0 (Oz P w K mg base) (ij+1) (HE gx))
include z_max ck Pg O4 in
theorem a9L(D':Hv (Def K mg) a d):Hv (Oz P w K mg base) (ij+2) (V5 gx):=fH (N:=["plan","x","forms","kind","told"]) D' λX r h=>by
 cases r
 exact (bK (h.cu 3 (bI (h.bv 0) aB)) (bK (ei (gW (o6 (cC (ff h.u8) (h.v 3) cM) (o6 (cC (ff h.u8) (h.v 3) cM) (rS (cC (ff h.u8) (h.v 3) cM))))) (bJ (cB (h.cl O4 (ah (h.v 0) (ah (h.v 1) (ah (h.v 2) aU))) (hj:=by omega)))) eO) (bK (ei (cC (ff h.u8) (h.v 3) cM) (bK (ei (gW (o6 (cC vW (h.v 1) (bI (h.bv 0) aB)) (rS (cC vW (bI (h.bv 0) aB) (h.v 1))))) (bJ (cB kY)) eO) (bJ (cB (h.cl ck (ah (bI (h.bv 0) aB) (ah (h.v 1) (ah (h.v 2) aU))) (hj:=by omega))))) eO) (bK (ei (cC (ff h.u8) (h.v 3) cM) (bK (ei (cC vW (h.v 1) aB) (bJ (cB kY)) eO) (bJ (cB (h.cl ck (ah (bI (h.bv 0) aB) (ah (Ei (Og h.calm) h.g z_max (by decide +kernel) (ah aB (ah (bR AU (h.v 1) (bI (h.bv 0) aB)) aU))) (ah (h.v 2) aU))) (hj:=by omega))))) eO) (bK (ei (cC (ff h.u8) (h.v 3) cM) (bK (h.cu 4 (h.cl ck (ah (bI (h.bv 0) aB) (ah (h.v 1) (ah (h.v 2) aU))) (hj:=by omega))) (bK (ei (gW (o6 (cC Df (h.v 4) kY) (rS (cC (ff h.u8) (h.v 1) aB)))) (bJ (cB (h.v 4))) eO) (bJ (cB (bR gC (h.v 4) (bI (h.bv 0) aB)))))) eO) (bJ (cB (h.cl Pg (ah (h.v 0) (ah (h.v 1) (ah (h.v 2) aU))) (hj:=by omega)))))))))
variable (O5:Hv (Oz P w K mg base) 25 (AZ 12))
include OB in
theorem b2b:FL K "low" D9:=(me OB.dj OB.ig (me OB.di OB.ie (me OB.dh OB.ic AS)))
variable (gU:FL K "low" D9)
include OB in
theorem b1k:FL K "high" Ec:=(me OB.dj OB.gu (me OB.di OB.gp (me OB.dh OB.gn AS)))
variable (e9:FL K "high" Ec)
include OB in
theorem b1f:FL K "unit" Oj:=(me OB.dj OB.gr AS)
variable (mH:FL K "unit" Oj)
include gU e9 mH in
theorem a5P(D':Pw (cF K a) d):Pw (Om P w K mg base a) (aq+1) (HP aj):=nU (N:=["self","x","forms"]) D' λX r h=>by
 cases r
 exact (bJ (cB (D7 (OJ vV vV (md (h.v 0) gU) (h.v 1) (md (h.v 0) e9)) (bR kZ (md (h.v 0) mH) (h.v 1)) kY)))
variable (Pq:Pw (Om P w K mg base bp) (aq+1) (HP aj))
include OB in
theorem a9V:FL K "price" Eh:=(me OB.di OB.fE (me OB.b9 OB.dQ (me OB.gy OB.gq AS)))
variable (dB:FL K "price" Eh)
include gU e9 dB in
theorem a5O(D':Px (cF K a) d):Px (Om P w K mg base a) (aq+1) (HQ aj):=nU (N:=["self","x","forms"]) D' λX r h=>by
 cases r
 exact (bJ (cB (D7 (OJ vV vV (md (h.v 0) gU) (h.v 1) (md (h.v 0) e9)) (md (h.v 0) dB) kY)))
variable (Pt:Px (Om P w K mg base bo) (aq+1) (HQ aj))
include OB in
theorem b1h:FL K "rows" Ed:=(me OB.c9 OB.fG (me OB.c8 OB.fC AS))
variable (e8:FL K "rows" Ed)
include e8 in
theorem nG(D':hG (cF K a) d):hG (Om P w K mg base a) 1 cG:=nU (N:=["self","x"]) D' λX r h=>by
 cases r
 exact (bJ (cB (b4q vV vV aB (h.v 1) (bI (kX (bI (kX (md (h.v 0) e8)) (Hi aB))) aB))))
variable (L8:hG (Om P w K mg base bU) 1 cG)
include OB L8 in
theorem p7:k4 P w K mg base "holds" 2 1 fM:=(dA OB.c9 OB.gP L8 (dA OB.c8 OB.gG L8 De))
variable (gc:k4 P w K mg base "holds" 2 1 fM)
include e8 gc in
theorem a5h(D':PL (cF K a) d):PL (Om P w K mg base a) (aq+2) (HR aj):=nU (N:=["self","x","forms","units"]) D' λX r h=>by
 cases r
 exact (bK (ei (LF (Lw (h.mt (n:=2) gc (h.v 0) (ah (h.v 1) aU) (hj:=by omega)))) (bJ (cB kY)) eO) (bK (UD (i:=3) false (N':=["top","unit","x"]) (caps:=[1]) (nt:=2) h ⟨rfl,by decide +kernel,by decide +kernel,by decide +kernel,by decide +kernel,rfl,rfl,by decide +kernel⟩ (BU (md (h.v 0) e8)) (λX1 ni nh m9 lC m8 h1=>⟨(Ob (n:=2) h1.calm (Ej (h1.tg 0) (Ej (h1.tg 1) Oy))),(Oc (cC vV (h1.v 2) (h1.v 0))),(h1.v 1)⟩)) (bJ (cB (bR kZ (h.v 1) (bI (h.bv 3) aB))))))
variable (PD:PL (Om P w K mg base a9) (aq+2) (HR aj))
include z_min z_max e8 gc in
theorem a5e(D':PQ (cF K a) d):PQ (Om P w K mg base a) (aq+2) (HL aj):=nU (N:=["self","x","forms","cost","ahead","top","unit"]) D' λX r h=>by
 cases r
 exact (bK (ei (LF (Lw (h.mt (n:=2) gc (h.v 0) (ah (h.v 1) aU) (hj:=by omega)))) (bJ (cB kY)) eO) (bK (h.cu 3 aB) (bK (h.cu 4 aB) (bK (Eb h.own h.calm (md (h.v 0) e8) (Ob (n:=2) h.calm (Ej (h.tg 5) (Ej (h.tg 6) Oy))) (bK (h.aug 3 (bR kZ (h.v 6) (Ei (Og h.calm) h.g z_max (by decide +kernel) (ah aB (ah (bR AU (Ei (Oh h.calm) h.g z_min (by decide +kernel) (ah (h.v 1) (ah (h.v 5) aU))) (h.v 4)) aU))))) (bJ (h.cu 4 (h.v 5))))) (bJ (cB (h.v 3)))))))
variable (PJ:PQ (Om P w K mg base aY) (aq+2) (HL aj))
include OB in
theorem b1g:FL K "size" LG:=(me OB.b9 OB.eW AS)
variable (kR:FL K "size" LG)
include OB in
theorem b1j:FL K "many" Oi:=(me OB.b9 OB.eZ AS)
variable (mI:FL K "many" Oi)
theorem Jg(D':EC (Def K mg) a d):EC (Oz P w K mg base) 1 LC:=fH (N:=["a","b"]) D' λX r h=>by
 cases r
 exact (bJ (cB (Hi (bR LB (Hi (h.v 0)) (h.v 1)))))
variable (O_up:EC (Oz P w K mg base) 1 LC)
include dB kR mI O_up in
theorem a4W(D':PV (cF K a) d):PV (Om P w K mg base a) (aq+2) (HN aj):=nU (N:=["self","x","forms"]) D' λX r h=>by
 cases r
 exact (bJ (cB (D7 (OJ vV vV aB (h.v 1) (bR kZ (md (h.v 0) kR) (md (h.v 0) mI))) (bR kZ (md (h.v 0) dB) (h.cl O_up (ah (h.v 1) (ah (md (h.v 0) kR) aU)) (hj:=by omega))) kY)))
variable (PR:PV (Om P w K mg base aT) (aq+2) (HN aj))
theorem b06(D':Vg (Def K mg) a d):Vg (Oz P w K mg base) 1 Mc:=fH (N:=["line","low","x"]) D' λX r h=>by
 cases r
 exact (bJ (cB (bR gC (bI (h.bv 0) aB) (bR kZ (bI (h.bv 0) aB) (bR AU (h.v 2) (h.v 1))))))
variable (OL:Vg (Oz P w K mg base) 1 Mc)
include OL in
theorem a9N(D':Vz (Def K mg) a d):Vz (Oz P w K mg base) 2 L9:=fH (N:=["row","x"]) D' λX r h=>by
 cases r
 exact (bJ (cB (h.cl OL (ah (vY (ah (bI (h.bv 0) aB) (ah (bI (h.bv 0) aB) aU))) (ah (bI (h.bv 0) aB) (ah (h.v 1) aU))))))
variable (O3:Vz (Oz P w K mg base) 2 L9)
include z_len in
theorem a9D(D':VF (Def K mg) a d):VF (Oz P w K mg base) 1 HJ:=fH (N:=["form","x","first","behind","middle"]) D' λX r h=>by
 cases r
 exact (bK (h.cu 2 aB) (bK (h.cu 3 (vX h.g z_len (h.bv 0))) (bK (ZY a6V h.own (cC vW (h.v 2) (h.v 3)) (bK (h.cu 4 (bR LB (bR gC (h.v 2) (h.v 3)) aB)) (bJ (ei (cC vW (bI (kX (bI (h.bv 0) (h.v 4))) aB) (h.v 1)) (bJ (h.cu 2 (bR gC (h.v 4) aB))) (bJ (h.cu 3 (h.v 4))))))) (bJ (cB (h.v 2))))))
variable (OX:VF (Oz P w K mg base) 1 HJ)
include z_len O3 OX in
theorem b08(D':Ve (Def K mg) a d):Ve (Oz P w K mg base) 3 Mb:=fH (N:=["form","x","place"]) D' λX r h=>by
 cases r
 exact (bK (h.cu 2 (h.cl OX (ah (h.v 0) (ah (h.v 1) aU)))) (bK (ei (gW (o6 (cC (ff h.u8) (h.v 2) (vX h.g z_len (h.bv 0))) (rS (cC vW (h.v 1) (bI (kX (bI (h.bv 0) (h.v 2))) aB))))) (bJ (cB kY)) eO) (bJ (cB (h.cl O3 (ah (bI (h.bv 0) (h.v 2)) (ah (h.v 1) aU)))))))
variable (OK:Ve (Oz P w K mg base) 3 Mb)
include iI OK in
theorem a5f(D':PN (cF K a) d):PN (Om P w K mg base a) (aq+4) (HK aj):=nU (N:=["self","x","forms"]) D' λX r h=>by
 cases r
 exact (bJ (cB (h.cl OK (ah (h.EA (h.v 2) (md (h.v 0) iI)) (ah (h.v 1) aU)) (hj:=by omega))))
variable (PH:PN (Om P w K mg base aZ) (aq+4) (HK aj))
include bw f' in
theorem a4a(D':Pp (cF K a) d):Pp (Om P w K mg base a) (aq+2) (Dq aj):=nU (N:=["self","x","forms","costs"]) D' λX r h=>by
 cases r
 exact (bK (UD (i:=3) false (N':=["part","x","forms"]) (caps:=[1,2]) (nt:=1) h ⟨rfl,by decide +kernel,by decide +kernel,by decide +kernel,by decide +kernel,rfl,rfl,by decide +kernel⟩ (BU (h.E1 (n:=1) f' (h.v 0) (hj:=by omega))) (λX1 ni nh m9 lC m8 h1=>⟨(h1.tg 0),F4,(h1.mt (n:=3) (QU ni nh m9 lC m8 bw) (h1.v 0) (ah (h1.v 1) (ah (h1.v 2) aU)) (hj:=by omega))⟩)) (bJ (cB (Ee (N':=["cost"]) (caps:=[]) (nt:=1) h ⟨rfl,by decide +kernel,by decide +kernel,by decide +kernel,by decide +kernel,rfl,rfl,by decide +kernel⟩ (BU (h.v 3)) (λX1 ni nh m9 lC m8 h1=>⟨(h1.tg 0),(Oc (cC b6h (h1.v 0) kY)),(h1.v 0)⟩)))))
variable (HM:Pp (Om P w K mg base az) (aq+2) (Dq aj))
include OB HM in
theorem a4U:k4 P w K mg base "offered_costs" 3 (aq+2) (F9 aj):=(dA OB.fR OB.dq HM (dA OB.bQ OB.cH HM (dA OB.cm OB.cI HM De (hj:=by omega)) (hj:=by omega)) (hj:=by omega))
variable (aX:k4 P w K mg base "offered_costs" 3 (aq+2) (F9 aj))
include z_len z_sum aX in
theorem a6j(D':Pk (cF K a) d):Pk (Om P w K mg base a) (aq+3) (F8 aj):=nU (N:=["self","x","forms","costs"]) D' λX r h=>by
 cases r
 exact (bK (h.cu 3 (h.mt (n:=3) aX (h.v 0) (ah (h.v 1) (ah (h.v 2) aU)) (hj:=by omega))) (bJ (cB (D7 (cC (ff h.u8) (vX h.g z_len (h.bv 3)) aB) (YV h.g z_sum h.calm (h.bv 3)) kY))))
variable (Pf:Pk (Om P w K mg base bB) (aq+3) (F8 aj))
include z_min aX in
theorem a4G(D':Po (cF K a) d):Po (Om P w K mg base a) (aq+3) (Gc aj):=nU (N:=["self","x","forms"]) D' λX r h=>by
 cases r
 exact (bJ (cB (b6P h.g z_min h.calm (kX (h.mt (n:=3) aX (h.v 0) (ah (h.v 1) (ah (h.v 2) aU)) (hj:=by omega))) kY)))
variable (Pn:Po (Om P w K mg base aN) (aq+3) (Gc aj))
include z_len z_max aX in
theorem a4V(D':PX (cF K a) d):PX (Om P w K mg base a) (aq+3) (Gb aj):=nU (N:=["self","x","forms","costs"]) D' λX r h=>by
 cases r
 exact (bK (h.cu 3 (h.mt (n:=3) aX (h.v 0) (ah (h.v 1) (ah (h.v 2) aU)) (hj:=by omega))) (bJ (cB (D7 (cC (ff h.u8) (vX h.g z_len (h.bv 3)) aB) (b86 h.g z_max h.calm (h.bv 3)) kY))))
variable (PU:PX (Om P w K mg base aS) (aq+3) (Gb aj))
include bw du gU e9 in
theorem a5N(D':Py (cF K a) d):Py (Om P w K mg base a) (aq+1) (F' aj):=nU (N:=["self","x","forms"]) D' λX r h=>by
 cases r
 exact (bJ (cB (D7 (OJ vV vV (md (h.v 0) gU) (h.v 1) (md (h.v 0) e9)) (h.mt (n:=3) bw (md (h.v 0) du) (ah (h.v 1) (ah (h.v 2) aU)) (hj:=by omega)) kY)))
variable (Pu:Py (Om P w K mg base bj) (aq+1) (F' aj))
include OB in
theorem a9X:FL K "count" OF:=(me OB.cS OB.e7 AS)
variable (kT:FL K "count" OF)
include z_max bw du kT in
theorem a5i(D':PK (cF K a) d):PK (Om P w K mg base a) (aq+1) (Ga aj):=nU (N:=["self","x","forms"]) D' λX r h=>by
 cases r
 exact (bJ (cB (D7 (cC vW (h.v 1) aB) kY (h.mt (n:=3) bw (md (h.v 0) du) (ah (Ei (Og h.calm) h.g z_max (by decide +kernel) (ah aB (ah (bR AU (h.v 1) (md (h.v 0) kT)) aU))) (ah (h.v 2) aU)) (hj:=by omega)))))
variable (PB:PK (Om P w K mg base be) (aq+1) (Ga aj))
include bw du dB in
theorem a6k(D':Pj (cF K a) d):Pj (Om P w K mg base a) (aq+1) (Ge aj):=nU (N:=["self","x","forms","cost"]) D' λX r h=>by
 cases r
 exact (bK (h.cu 3 (h.mt (n:=3) bw (md (h.v 0) du) (ah (h.v 1) (ah (h.v 2) aU)) (hj:=by omega))) (bJ (cB (D7 (gW (o6 (cC Df (h.v 3) kY) (rS (cC (ff h.u8) (h.v 1) aB)))) (h.v 3) (bR gC (h.v 3) (md (h.v 0) dB))))))
variable (Pe:Pj (Om P w K mg base bD) (aq+1) (Ge aj))
include OB Pq Pt PD PJ PR PH Pf Pn PU Pu PB Pe in
theorem a6O:k4 P w K mg base "cost_here" 3 (aq+4) (a4J aj):=(dA OB.dj OB.eL Pq (dA OB.di OB.eJ Pt (dA OB.c9 OB.dY PD (dA OB.c8 OB.dS PJ (dA OB.b9 OB.dG PR (dA OB.dD OB.dW PH (dA OB.fR OB.ft Pf (dA OB.bQ OB.dr Pn (dA OB.cm OB.dE PU (dA OB.dh OB.eG Pu (dA OB.cS OB.d9 PB (dA OB.gy OB.fw Pe De (hj:=by omega)) (hj:=by omega)) (hj:=by omega)) (hj:=by omega)) (hj:=by omega)) (hj:=by omega)) (hj:=by omega)) (hj:=by omega)) (hj:=by omega)) (hj:=by omega)) (hj:=by omega)) (hj:=by omega))
variable (fJ:k4 P w K mg base "cost_here" 3 49 (jN 12))
include fg in
theorem a6h(D':Wh (Def K mg) a d):Wh (Oz P w K mg base) 27 Mh:=fH (N:=["rule","forms","name"]) D' λX r h=>by
 cases r
 exact (bJ (Eb h.own h.calm (h.E1 (n:=1) fg (h.v 0)) (h.tg 2) (bJ (ei (h.H9 (h.v 2) (h.v 1)) (bJ b3y) eO))))
variable (Ph:Wh (Oz P w K mg base) 27 Mh)
include fJ Ph in
theorem a8R(D':VU (cF K a) d):VU (Om P w K mg base a) 50 qI:=nU (N:=["self","x","forms"]) D' λX r h=>by
 cases r
 exact (bK (b5G (h.cl Ph (ah (h.v 0) (ah (h.v 2) aU)))) (bJ (cB (h.mt (n:=3) fJ (h.v 0) (ah (h.v 1) (ah (h.v 2) aU))))))
variable (ue:VU (Om P w K mg base ao) 50 qI)
include OB ue in
theorem b09:k4 P w K mg base "cost" 3 50 Hr:=(dA OB.dj OB.je ue (dA OB.di OB.iZ ue (dA OB.c9 OB.iC ue (dA OB.c8 OB.il ue (dA OB.b9 OB.gL ue (dA OB.dD OB.ir ue (dA OB.fR OB.jF ue (dA OB.bQ OB.fW ue (dA OB.cm OB.gK ue (dA OB.dh OB.iY ue (dA OB.cS OB.iD ue (dA OB.gy OB.jG ue De))))))))))))
variable (mC:k4 P w K mg base "cost" 3 50 Hr)
include fj in
theorem a9K(D':Hw (Def K mg) a d):Hw (Oz P w K mg base) (mR+1) (Ma lM):=fH (N:=["plan","forms","kind","told","part"]) D' λX r h=>by
 cases r
 exact (bK (h.cu 2 (bI (h.bv 0) aB)) (bK (ei (cC (ff h.u8) (h.v 2) cM) (bK (h.set 3 (jt aU)) (bK (Eb h.own h.calm (h.EA (h.v 1) (bI (h.bv 0) aB)) (h.tg 4) (bJ (h.ext 3 (jt (ah (bI (h.bv 4) aB) (ah (bI (h.bv 4) aB) aU)))))) (bJ (h.sy 3)))) eO) (bK (ei (gW (o6 (cC (ff h.u8) (h.v 2) cM) (rS (cC (ff h.u8) (h.v 2) cM)))) (bJ (cB (jt (ah (bI (h.bv 0) aB) (ah (bI (h.bv 0) aB) aU))))) eO) (bK (ei (cC (ff h.u8) (h.v 2) cM) (bJ (cB (jt (ah aB (ah (bI (h.bv 0) aB) (ah (bR kZ (bI (h.bv 0) aB) (bI (h.bv 0) aB)) aU)))))) eO) (bK (ei (gW (o6 (cC (ff h.u8) (h.v 2) cM) (rS (cC (ff h.u8) (h.v 2) cM)))) (bJ (cB (bR gC (jt (ah aB aU)) (Ee (N':=["row"]) (caps:=[]) (nt:=1) h ⟨rfl,by decide +kernel,by decide +kernel,by decide +kernel,by decide +kernel,rfl,rfl,by decide +kernel⟩ (BU (bI (h.bv 0) aB)) (λX1 ni nh m9 lC m8 h1=>⟨(h1.tg 0),F4,(bI (h1.bv 0) aB)⟩))))) eO) (bK (h.set 3 (h.cl fj (ah (bI (h.bv 0) aB) (ah (h.v 1) aU)) (hj:=by omega))) (bK (ei (gW (o6 (cC (ff h.u8) (h.v 2) cM) (o6 (cC (ff h.u8) (h.v 2) cM) (rS (cC (ff h.u8) (h.v 2) cM))))) (bJ (N4 3 (h.set 3 (bR gC (h.v 3) (h.cl fj (ah (bI (h.bv 0) aB) (ah (h.v 1) aU)) (hj:=by omega)))))) eO) (bK (ei (cC (ff h.u8) (h.v 2) cM) (bJ (N4 3 (h.set 3 (bR gC (h.v 3) (jt (ah (bI (h.bv 0) aB) (ah (bI (h.bv 0) aB) aU))))))) eO) (bK (ei (cC (ff h.u8) (h.v 2) cM) (bJ (N4 3 (h.set 3 (bR gC (bR gC (h.v 3) (jt (ah (bI (h.bv 0) aB) aU))) (Ee (N':=["x","plan"]) (caps:=[0]) (nt:=1) h ⟨rfl,by decide +kernel,by decide +kernel,by decide +kernel,by decide +kernel,rfl,rfl,by decide +kernel⟩ (BU (h.v 3)) (λX1 ni nh m9 lC m8 h1=>⟨(h1.tg 0),F4,(bR gC (h1.v 0) (bI (h1.bv 1) aB))⟩)))))) eO) (bJ (h.sy 3)))))))))))
variable (O6:Hw (Oz P w K mg base) 13 (Dm 12))
include z_sorted z_set O6 in
theorem a7p(D':V7 (Def K mg) a d):V7 (Oz P w K mg base) 14 HB:=fH (N:=["plan","forms","script","scale","told","x","cell"]) D' λX r h=>by
 cases r
 exact (bK (h.set 4 (jt (ah (Hi aB) (ah aB (ah aB aU))))) (bK (Eb h.own h.calm (UU (kX (UK h.calm h.g z_sorted h.g z_set (h.cl O6 (ah (h.v 0) (ah (h.v 1) aU))))) UG (UH aB)) (h.tg 5) (bJ (h.ext 4 (jt (ah (bR AU (h.v 5) aB) (ah (h.v 5) (ah (bR gC (h.v 5) aB) aU))))))) (bK (Eb h.own h.calm (UU (h.bv 2) UG (UH aB)) (h.tg 6) (bJ (h.app 4 (bR AU (bR xZ (h.v 6) (bR kZ aB (h.v 3))) (h.v 3))))) (bJ (h.sy 4)))))
variable (Pm:V7 (Oz P w K mg base) 14 HB)
include OB in
theorem b19(D':Wl (cF K aw) d):Ep P w K mg base bZ cA aw "Single" 1 BW 1 Dk:=T1 (N:=["self","one"]) OB.nk OB.mZ D' λX r h=>by
 cases r
 exact (h.gD OB.gy.c OB.js (h.v 1) zB)
variable (pB:Ep P w K mg base bZ cA aw "Single" 1 BW 1 Dk)
include OB pB in
theorem b18(D':a7J (cF K cj) d):lK P w K mg base "Fee" 2 Lz 2 UI:=Ul (N:=["self","one","price"]) OB.gy OB.Kf OB.zH D' λX r h=>by
 cases r
 exact (h.Q1 pB (ah (h.v 1) aU) (h.MJ OB.gy.c OB.gq (h.v 2) Ug))
variable (pA:lK P w K mg base "Fee" 2 Lz 2 UI)
include OB in
theorem a9U(D':Wl (cF K aw) d):Ep P w K mg base bZ bf aw "Single" 1 BW 1 Dk:=T1 (N:=["self","one"]) OB.nk OB.mZ D' λX r h=>by
 cases r
 exact (h.gD OB.cS.c OB.gw (h.v 1) zB)
variable (kP:Ep P w K mg base bZ bf aw "Single" 1 BW 1 Dk)
include OB kP in
theorem a9T(D':a6v (cF K bO) d):lK P w K mg base "After" 2 LP 2 Vj:=Ul (N:=["self","one","count"]) OB.cS OB.CB OB.oz D' λX r h=>by
 cases r
 exact (h.Q1 kP (ah (h.v 1) aU) (h.MJ OB.cS.c OB.e7 (h.v 2) Ug))
variable (kO:lK P w K mg base "After" 2 LP 2 Vj)
include OB in
theorem b1d(D':Wl (cF K aw) d):Ep P w K mg base bZ bF aw "Single" 1 BW 1 Dk:=T1 (N:=["self","one"]) OB.nk OB.mZ D' λX r h=>by
 cases r
 exact (h.gD OB.dh.c OB.h8 (h.v 1) zB)
variable (mG:Ep P w K mg base bZ bF aw "Single" 1 BW 1 Dk)
include OB mG in
theorem b1a(D':a7l (cF K bW) d):lK P w K mg base "Only" 3 LL 2 U6:=Ul (N:=["self","one","low","high"]) OB.dh OB.Fg OB.rX D' λX r h=>by
 cases r
 exact (h.Q1 mG (ah (h.v 1) aU) (h.MJ OB.dh.c OB.ic (h.v 2) (h.MJ OB.dh.c OB.gn (h.v 3) Ug)))
variable (mD:lK P w K mg base "Only" 3 LL 2 U6)
include OB in
theorem a8S(D':VZ (cF K aI) d):lK P w K mg base "Dearer" 2 LX 1 Vy:=C9 (N:=["self","one","other"]) OB.cm OB.Am OB.mJ D' λX r h=>by
 cases r
 exact (h.gD OB.cm.c OB.fF (h.v 1) (h.gD OB.cm.c OB.dP (h.v 2) zB))
variable (jv:lK P w K mg base "Dearer" 2 LX 1 Vy)
include OB in
theorem a74(D':VZ (cF K aI) d):lK P w K mg base "Cheaper" 2 L0 1 VT:=C9 (N:=["self","one","other"]) OB.bQ OB.w4 OB.k5 D' λX r h=>by
 cases r
 exact (h.gD OB.bQ.c OB.eU (h.v 1) (h.gD OB.bQ.c OB.dC (h.v 2) zB))
variable (iG:lK P w K mg base "Cheaper" 2 L0 1 VT)
include OB in
theorem b17(D':VZ (cF K aI) d):lK P w K mg base "Sum" 2 LA 1 Uz:=C9 (N:=["self","one","other"]) OB.fR OB.Ke OB.zG D' λX r h=>by
 cases r
 exact (h.gD OB.fR.c OB.jr (h.v 1) (h.gD OB.fR.c OB.gm (h.v 2) zB))
variable (px:lK P w K mg base "Sum" 2 LA 1 Uz)
include OB in
theorem a9R(D':a6u (cF K bN) d):lK P w K mg base "Named" 1 LR 1 Vk:=C9 (N:=["self","name"]) OB.dD OB.Cz OB.ox D' λX r h=>by
 cases r
 exact (h.gD OB.dD.c OB.fD (h.v 1) zB)
variable (kM:lK P w K mg base "Named" 1 LR 1 Vk)
include OB in
theorem a8T(D':a6e (cF K bG) d):lK P w K mg base "Blocks" 3 LW 1 Vx:=C9 (N:=["self","size","price","many"]) OB.b9 OB.An OB.mK D' λX r h=>by
 cases r
 exact (h.gD OB.b9.c OB.eW (h.v 1) (h.gD OB.b9.c OB.dQ (h.v 2) (h.gD OB.b9.c OB.eZ (h.v 3) zB)))
variable (jw:lK P w K mg base "Blocks" 3 LW 1 Vx)
include OB in
theorem a9Q(D':a4I (cF K bh) d):lK P w K mg base "Steps" 1 LS 1 OR:=C9 (N:=["self","rows"]) OB.c8 OB.Cy OB.ou D' λX r h=>by
 cases r
 exact (h.gD OB.c8.c OB.fC (Ee (N':=["top","unit"]) (caps:=[]) (nt:=2) h ⟨rfl,by decide +kernel,by decide +kernel,by decide +kernel,by decide +kernel,rfl,rfl,by decide +kernel⟩ (BU (h.v 1)) (λX1 ni nh m9 lC m8 h1=>⟨(Ob (n:=2) h1.calm (Ej (h1.tg 0) (Ej (h1.tg 1) Oy))),F4,(vY (ah (h1.v 0) (ah (h1.v 1) aU)))⟩)) zB)
variable (kL:lK P w K mg base "Steps" 1 LS 1 OR)
include OB in
theorem a9S(D':a4I (cF K bh) d):lK P w K mg base "Bands" 1 LQ 1 OQ:=C9 (N:=["self","rows"]) OB.c9 OB.CA OB.oy D' λX r h=>by
 cases r
 exact (h.gD OB.c9.c OB.fG (Ee (N':=["top","unit"]) (caps:=[]) (nt:=2) h ⟨rfl,by decide +kernel,by decide +kernel,by decide +kernel,by decide +kernel,rfl,rfl,by decide +kernel⟩ (BU (h.v 1)) (λX1 ni nh m9 lC m8 h1=>⟨(Ob (n:=2) h1.calm (Ej (h1.tg 0) (Ej (h1.tg 1) Oy))),F4,(vY (ah (h1.v 0) (ah (h1.v 1) aU)))⟩)) zB)
variable (kN:lK P w K mg base "Bands" 1 LQ 1 OQ)
include OB in
theorem b1b(D':a7m (cF K bX) d):lK P w K mg base "Flat" 3 LK 1 U5:=C9 (N:=["self","price","low","high"]) OB.di OB.Fi OB.rY D' λX r h=>by
 cases r
 exact (h.gD OB.di.c OB.fE (h.v 1) (h.gD OB.di.c OB.ie (h.v 2) (h.gD OB.di.c OB.gp (h.v 3) zB)))
variable (mE:lK P w K mg base "Flat" 3 LK 1 U5)
include OB in
theorem b1c(D':a7n (cF K bY) d):lK P w K mg base "Each" 3 LJ 1 U4:=C9 (N:=["self","unit","low","high"]) OB.dj OB.Fj OB.rZ D' λX r h=>by
 cases r
 exact (h.gD OB.dj.c OB.gr (h.v 1) (h.gD OB.dj.c OB.ig (h.v 2) (h.gD OB.dj.c OB.gu (h.v 3) zB)))
variable (mF:lK P w K mg base "Each" 3 LJ 1 U4)
include z_list bP pA kO mD jv iG px kM jw kL kN mE mF in
theorem a9G(D':Hx (Def K mg) a d):Hx (Oz P w K mg base) (mQ+4) (V6 lL):=fH (N:=["plan","kind"]) D' λX r h=>by
 cases r
 exact (bK (h.cu 1 (bI (h.bv 0) aB)) (bK (ei (cC (ff h.u8) (h.v 1) cM) (bJ (cB (h.yH mF (ah (bI (h.bv 0) aB) (ah (bI (h.bv 0) aB) (ah (bI (h.bv 0) aB) aU))) (hj:=by omega)))) eO) (bK (ei (cC (ff h.u8) (h.v 1) cM) (bJ (cB (h.yH mE (ah (bI (h.bv 0) aB) (ah (bI (h.bv 0) aB) (ah (bI (h.bv 0) aB) aU))) (hj:=by omega)))) eO) (bK (ei (cC (ff h.u8) (h.v 1) cM) (bJ (cB (h.yH kN (ah (Zx h.g z_list (kX (bI (h.bv 0) aB))) aU) (hj:=by omega)))) eO) (bK (ei (cC (ff h.u8) (h.v 1) cM) (bJ (cB (h.yH kL (ah (Zx h.g z_list (kX (bI (h.bv 0) aB))) aU) (hj:=by omega)))) eO) (bK (ei (cC (ff h.u8) (h.v 1) cM) (bJ (cB (h.yH jw (ah (bI (h.bv 0) aB) (ah (bI (h.bv 0) aB) (ah (bI (h.bv 0) aB) aU))) (hj:=by omega)))) eO) (bK (ei (cC (ff h.u8) (h.v 1) cM) (bJ (cB (h.yH kM (ah (bI (h.bv 0) aB) aU) (hj:=by omega)))) eO) (bK (ei (cC (ff h.u8) (h.v 1) cM) (bJ (cB (h.yH px (ah (h.cl bP (ah (bI (h.bv 0) aB) aU) (hj:=by omega)) (ah (h.cl bP (ah (bI (h.bv 0) aB) aU) (hj:=by omega)) aU)) (hj:=by omega)))) eO) (bK (ei (cC (ff h.u8) (h.v 1) cM) (bJ (cB (h.yH iG (ah (h.cl bP (ah (bI (h.bv 0) aB) aU) (hj:=by omega)) (ah (h.cl bP (ah (bI (h.bv 0) aB) aU) (hj:=by omega)) aU)) (hj:=by omega)))) eO) (bK (ei (cC (ff h.u8) (h.v 1) cM) (bJ (cB (h.yH jv (ah (h.cl bP (ah (bI (h.bv 0) aB) aU) (hj:=by omega)) (ah (h.cl bP (ah (bI (h.bv 0) aB) aU) (hj:=by omega)) aU)) (hj:=by omega)))) eO) (bK (ei (cC (ff h.u8) (h.v 1) cM) (bJ (cB (h.yH mD (ah (h.cl bP (ah (bI (h.bv 0) aB) aU) (hj:=by omega)) (ah (bI (h.bv 0) aB) (ah (bI (h.bv 0) aB) aU))) (hj:=by omega)))) eO) (bK (ei (cC (ff h.u8) (h.v 1) cM) (bJ (cB (h.yH kO (ah (h.cl bP (ah (bI (h.bv 0) aB) aU) (hj:=by omega)) (ah (bI (h.bv 0) aB) aU)) (hj:=by omega)))) eO) (bJ (cB (h.yH pA (ah (h.cl bP (ah (bI (h.bv 0) aB) aU) (hj:=by omega)) (ah (bI (h.bv 0) aB) aU)) (hj:=by omega))))))))))))))))
variable (OU:Hx (Oz P w K mg base) 49 (yb 12))
theorem b07(D':Vf (Def K mg) a d):Vf (Oz P w K mg base) 1 kC:=fH (N:=["cell","k","size","odd","big"]) D' λX r h=>by
 cases r
 exact (bK (h.cu 3 (bR gC aB (bR kZ (bR kZ aB (h.v 1)) (h.v 1)))) (bK (h.cu 4 (bR gC (bR kZ (bR gC (bR xZ (h.v 0) (bR Dg aB aB)) aB) (h.v 3)) (bR kZ aB (h.v 1)))) (bJ (cB (bR xZ (bR LB (bR xZ (bR kZ (h.v 4) (h.v 4)) (bR gC (bR Dg aB aB) aB)) aB) (h.v 2))))))
variable (iQ:Vf (Oz P w K mg base) 1 kC)
include iQ in
theorem a8O(D':VW (Def K mg) a d):VW (Oz P w K mg base) 2 BX:=fH (N:=["cell","k","most"]) D' λX r h=>by
 cases r
 exact (bK (h.cu 2 (bI (kX (jt (ah aB (ah (bR Dg aB aB) (ah (bR Dg aB aB) aU))))) (h.cl iQ (ah (h.v 0) (ah (bR gC (h.v 1) aB) (ah aB aU)))))) (bJ (cB (bR AU (h.cl iQ (ah (h.v 0) (ah (h.v 1) (ah (bR gC (bR kZ aB (h.v 2)) aB) aU)))) (h.v 2)))))
variable (v8:VW (Oz P w K mg base) 2 BX)
include iQ v8 in
theorem a7Z(D':V3 (Def K mg) a d):V3 (Oz P w K mg base) 3 HA:=fH (N:=["one","kind","cell","scale","low"]) D' λX r h=>by
 cases r
 exact (bK (ei (cC (ff h.u8) (h.v 1) cM) (bK (h.cu 4 (bR kZ (h.cl iQ (ah (h.v 2) (ah aB (ah (h.v 3) aU)))) (h.cl iQ (ah (h.v 2) (ah aB (ah aB aU)))))) (bJ (cB (vY (ah (h.v 1) (ah (h.v 0) (ah (h.v 4) (ah (bR gC (h.v 4) (h.cl iQ (ah (h.v 2) (ah aB (ah (bR kZ aB (h.v 3)) aU))))) aU)))))))) eO) (bK (ei (cC (ff h.u8) (h.v 1) cM) (bJ (cB (vY (ah (h.v 1) (ah (h.v 0) (ah (h.cl iQ (ah (h.v 2) (ah aB (ah (h.v 3) aU)))) aU)))))) eO) (bK (ei (cC (ff h.u8) (h.v 1) cM) (bJ (cB (vY (ah (h.v 1) (ah (h.v 0) (ah (h.cl v8 (ah (h.v 2) (ah aB aU))) aU)))))) eO) (bJ (cB (vY (ah (h.v 1) (ah (h.v 0) aU))))))))
variable (Pa:V3 (Oz P w K mg base) 3 HA)
include z_range iQ v8 in
theorem a9H(D':VC (Def K mg) a d):VC (Oz P w K mg base) 3 HH:=fH (N:=["cell","scale","rows","top","j"]) D' λX r h=>by
 cases r
 exact (bK (h.set 2 (jt aU)) (bK (h.cu 3 (bR LB (bR kZ (h.cl iQ (ah (h.v 0) (ah aB (ah (h.v 1) aU)))) (h.cl iQ (ah (h.v 0) (ah aB (ah aB aU))))) aB)) (bK (U' h.own h.calm h.g z_range (ah (bR gC aB (h.cl iQ (ah (h.v 0) (ah aB (ah aB aU))))) aU) (h.tg 4) (bK (h.app 2 (vY (ah (h.v 3) (ah (h.cl v8 (ah (h.v 0) (ah (bR gC aB (h.v 4)) aU))) aU)))) (bJ (h.cu 3 (bR gC (bR gC (h.v 3) aB) (h.cl iQ (ah (h.v 0) (ah (bR gC aB (h.v 4)) (ah (h.v 1) aU))))))))) (bJ (h.sy 2)))))
variable (OT:VC (Oz P w K mg base) 3 HH)
include iQ v8 OT in
theorem a9I(D':VB (Def K mg) a d):VB (Oz P w K mg base) 4 HG:=fH (N:=["cell","scale","kind","price","low","high"]) D' λX r h=>by
 cases r
 exact (bK (h.cu 2 (bI (kX (jt (ah cM (ah cM (ah cM (ah cM (ah cM (ah cM aU)))))))) (h.cl iQ (ah (h.v 0) (ah aB (ah aB aU)))))) (bK (h.cu 3 (h.cl v8 (ah (h.v 0) (ah aB aU)))) (bK (h.cu 4 (bR kZ (h.cl iQ (ah (h.v 0) (ah aB (ah (h.v 1) aU)))) (h.cl iQ (ah (h.v 0) (ah aB (ah aB aU)))))) (bK (h.cu 5 (bR gC (h.v 4) (bR kZ (h.cl iQ (ah (h.v 0) (ah aB (ah (h.v 1) aU)))) (h.cl iQ (ah (h.v 0) (ah aB (ah aB aU))))))) (bK (ei (gW (o6 (cC (ff h.u8) (h.v 2) cM) (rS (cC (ff h.u8) (h.v 2) cM)))) (bJ (cB (vY (ah (h.v 2) (ah (h.cl OT (ah (h.v 0) (ah (h.v 1) aU))) aU))))) eO) (bK (ei (cC (ff h.u8) (h.v 2) cM) (bJ (cB (vY (ah (h.v 2) (ah (bR gC aB (h.cl iQ (ah (h.v 0) (ah aB (ah (h.v 1) aU))))) (ah (h.v 3) (ah (bR gC aB (h.cl iQ (ah (h.v 0) (ah aB (ah aB aU))))) aU))))))) eO) (bK (ei (cC (ff h.u8) (h.v 2) cM) (bJ (cB (vY (ah (h.v 2) (ah (bI (kX (jt (ah cM (ah cM (ah cM aU))))) (h.cl iQ (ah (h.v 0) (ah aB (ah aB aU))))) aU))))) eO) (bJ (cB (vY (ah (h.v 2) (ah (h.v 3) (ah (h.v 4) (ah (h.v 5) aU))))))))))))))
variable (OS:VB (Oz P w K mg base) 4 HG)
include z_len iQ Pa OS in
theorem a9E(D':VE (Def K mg) a d):VE (Oz P w K mg base) 5 HI:=fH (N:=["numbers","scale","turns","stack","cell","kind","other"]) D' λX r h=>by
 cases r
 exact (bK (h.set 3 (jt aU)) (bK (Eb h.own h.calm (h.v 0) (h.tg 4) (bK (h.cu 5 (h.cl iQ (ah (h.v 4) (ah aB (ah aB aU))))) (bJ (ei (gW (N6 (cC F0 (h.v 5) aB) (Ox (cC F0 (vX h.g z_len (h.bv 3)) aB)))) (bJ (h.FW 3 (h.clP Pa (h.Uw 3 (ah (bI (h.bv 2) (bR xZ (h.v 5) (vX h.g z_len (h.bv 2)))) (ah (h.v 4) (ah (h.v 1) aU))))))) (bJ (ei (gW (N6 (cC F0 (h.v 5) aB) (Ox (cC F0 (vX h.g z_len (h.bv 3)) aB)))) (bK (h.pop 6 3) (bJ (h.FW 3 (YT (Zl (bI (kX (jt (ah cM (ah cM (ah cM aU))))) (bR xZ (h.v 5) aB)) (h.Uw 3 (ah (h.v 6) aU))))))) (bJ (h.app 3 (h.cl OS (ah (h.v 4) (ah (h.v 1) aU))))))))))) (bK (ZY a6W h.own (cC F0 (vX h.g z_len (h.bv 3)) aB) (bK (h.pop 6 3) (bJ (h.FW 3 (YT (Zl (bI (kX (jt (ah cM (ah cM (ah cM (ah cM aU)))))) (bR xZ (vX h.g z_len (h.bv 3)) aB)) (h.Uw 3 (ah (h.v 6) aU)))))))) (bJ (N4 3 (cB (bI (kX (bR gC (h.v 3) (jt (ah (vY (ah cM (ah aB (ah aB (ah (h.v 1) aU))))) aU)))) aB)))))))
variable (OW:VE (Oz P w K mg base) 5 HI)
include z_len z_range in
theorem a70(D':V2 (Def K mg) a d):V2 (Oz P w K mg base) 1 Hz:=fH (N:=["script","first","most","numbers","k","kept"]) D' λX r h=>by
 cases r
 exact (bK (h.set 3 (jt aU)) (bK (b5F h.own h.calm (b37 h.g z_range (ah (h.v 1) (ah (vX h.g z_len (h.bv 0)) aU))) (h.tg 4) (bJ (ei (cC vW (vX h.g z_len (h.bv 3)) (h.v 2)) (bJ (h.app 3 (bR xZ (bI (h.bv 0) (h.v 4)) (bR Dg aB aB)))) (bK (h.cu 5 (bR gC (bR kZ (bI (h.bv 3) (bR xZ (h.v 4) (h.v 2))) aB) (bR xZ (bI (h.bv 0) (h.v 4)) (bR Dg aB aB)))) (bJ (h.item 3 (bR xZ (h.v 5) (bR Dg aB aB)) (bR xZ (h.v 4) (h.v 2)))))))) (bJ (h.sy 3))))
variable (O9:V2 (Oz P w K mg base) 1 Hz)
include z_range z_tuple iQ v8 in
theorem a9J(D':VA (Def K mg) a d):VA (Oz P w K mg base) 3 HF:=fH (N:=["cell","scale","told","low","j","high","step"]) D' λX r h=>by
 cases r
 exact (bK (h.set 2 (jt aU)) (bK (h.cu 3 (bR AU (h.cl iQ (ah (h.v 0) (ah aB (ah (bR kZ aB (h.v 1)) aU)))) (h.v 1))) (bK (U' h.own h.calm h.g z_range (ah (h.cl iQ (ah (h.v 0) (ah aB (ah aB aU)))) aU) (h.tg 4) (bK (h.cu 5 (bR gC (h.v 3) (bR kZ (h.cl iQ (ah (h.v 0) (ah (bR gC aB (h.v 4)) (ah (h.v 1) aU)))) (h.cl iQ (ah (h.v 0) (ah (bR gC aB (h.v 4)) (ah aB aU))))))) (bK (h.cu 6 aB) (bK (ei (cC vW (h.v 3) (h.v 5)) (bJ (h.cu 6 (h.cl v8 (ah (h.v 0) (ah (bR gC aB (h.v 4)) aU))))) eO) (bK (h.app 2 (vY (ah (h.v 3) (ah (h.v 5) (ah (h.cl v8 (ah (h.v 0) (ah (bR gC aB (h.v 4)) aU))) (ah (h.v 6) aU)))))) (bJ (h.cu 3 (bR gC (bR gC (h.v 5) aB) (h.cl iQ (ah (h.v 0) (ah (bR gC aB (h.v 4)) (ah (h.v 1) aU)))))))))))) (bJ (cB (b4o h.g z_tuple (h.bv 2)))))))
variable (O7:VA (Oz P w K mg base) 3 HF)
include z_len in
theorem b16(D':Va (Def K mg) a d):Va (Oz P w K mg base) 1 Hu:=fH (N:=["script","k"]) D' λX r h=>by
 cases r
 exact (bK (ei (cC vW (h.v 1) (vX h.g z_len (h.bv 0))) (bJ (cB (bI (h.bv 0) (h.v 1)))) eO) (bJ (cB aB)))
variable (F6:Va (Oz P w K mg base) 1 Hu)
include z_range O7 F6 in
theorem a8Q(D':VV (Def K mg) a d):VV (Oz P w K mg base) 4 HC:=fH (N:=["script","scale","told","j"]) D' λX r h=>by
 cases r
 exact (bK (h.set 2 b6N) (bK (U' h.own h.calm h.g z_range (ah aB aU) (h.tg 3) (bJ (h.Qb 2 (h.cl O7 (ah (h.cl F6 (ah (h.v 0) (ah (bR gC aB (h.v 3)) aU))) (ah (h.v 1) aU))) (bI (kX (jt (ah cM (ah cM (ah cM aU))))) (h.v 3))))) (bJ (h.sy 2))))
variable (Pc:VV (Oz P w K mg base) 4 HC)
include z_list z_sorted z_set z_isinstance fg Pd kQ OV O5 mC Pm OU OW O9 F6 Pc in
theorem b8u(D':Ie (Def K mg) a d):cR P w K mg base jY 51 a d ["script"] (wb K 1 Ot):=Ki (N:=["script","scale","forms","plan","rule","x","found"]) D' λX r h=>by
 cases r
 exact (bK (h.cu 1 (bI (kX (jt (ah aB (ah (bR Dg aB aB) (ah (bR Dg aB aB) aU))))) (bR xZ (h.cl F6 (ah (h.v 0) (ah aB aU))) aB))) (bK (h.cu 2 (h.cl Pc (ah (h.v 0) (ah (h.v 1) aU)))) (bK (h.cu 3 (h.cl OW (ah (h.cl O9 (ah (h.v 0) (ah aB (ah aB aU)))) (ah (h.v 1) (ah (jt (ah cM (ah cM (ah cM aU)))) aU))))) (bK (h.cu 4 (h.cl OU (ah (h.v 3) aU))) (bK (Eb h.own h.calm (h.cl Pm (ah (h.v 3) (ah (h.v 2) (ah (h.v 0) (ah (h.v 1) aU))))) (h.tg 5) (bJ (ei (LF (Lw (h.cl OV (ah (h.mt (n:=3) mC (h.v 4) (ah (h.v 5) (ah (h.v 2) aU))) (ah (h.cl O5 (ah (h.v 3) (ah (h.v 5) (ah (h.v 2) aU)))) aU))))) (bJ (cB YI)) eO))) (bK (h.set 6 (h.E1 (n:=1) fg (h.v 4))) (bK (ei (b7V 6 (gW (o6 (LF (Lw (b87 h.g z_isinstance h.g kQ.1 kQ.2 (h.v 4)))) (o6 (LF (Lw (Uk (cP (cP (cP (eN rfl)))) h.g z_isinstance h.g z_list (by decide +kernel) (h.v 6)))) (rS (cC (b8v h.u8) (h.v 6) (UK h.calm h.g z_sorted h.g z_set (h.cl Pd (ah (h.v 3) aU))))))))) (bJ (cB YI)) eO) (bK (h.app 6 cM) (bJ (cB (Lv (ff h.u8) (h.E1 (n:=1) fg (h.v 4)) (UU (h.bv 6) UG (UH (Hi aB))))))))))))))
end
local macro_rules | `(tactic| walk_at "m1")=>`(tactic| (intro _ _ _ _ _ _ us hu; obtain ⟨_,h⟩:=b6u hu; subst h; rfl))
local macro_rules | `(tactic| walk_at "m2")=>`(tactic| (intro _ _ _ _ _ _ us hu; obtain ⟨_,_,h⟩:=b6t hu; subst h; rfl))
local macro_rules | `(tactic| walk_at "m3")=>`(tactic| (intro _ _ _ _ _ _ us hu; obtain ⟨_,_,_,h⟩:=b6s hu; subst h; rfl))
local macro_rules | `(tactic| walk_at "m4")=>`(tactic| (intro _ _ _ _ _ _ us hu; obtain ⟨_,_,_,_,h⟩:=b8E hu; subst h; rfl))
theorem all_mk{l:Sz}{w:World}{K:aQ}{h:Heap}{mg:Str->Option Value}{fa:Addr}(X:K.In h)(G:h.Ns mainGlobals mg)(hfa:mg "law" = some (.ref fa))
  (i1:FI K "_law_names" a57 f1 od1 an1 sl1 oc1 kV1 dc1 pm1 cd1 ct1)
  (i2:FI K "_law_same" a6y f2 od2 an2 IA oc2 kV2 dc2 pm2 cd2 ct2)
  (i3:FI K "_law_leaf_cost" a3P f3 od3 an3 sl3 oc3 kV3 dc3 pm3 cd3 ct3)
  (i4:FI K "_law_both" a6F f4 od4 an4 sl4 oc4 kV4 dc4 pm4 cd4 ct4)
  (i5:FI K "_law_cost" a6E f5 od5 an5 sl5 oc5 kV5 dc5 pm5 cd5 ct5)
  (i6:FI K "up" YO f6 od6 an6 sl6 oc6 kV6 dc6 pm6 cd6 ct6)
  (i7:FI K "line_at" a7v f7 od7 an7 sl7 oc7 kV7 dc7 pm7 cd7 ct7)
  (i8:FI K "drawn_to" a6G f8 od8 an8 sl8 oc8 kV8 dc8 pm8 cd8 ct8)
  (i9:FI K "place_of" a6w f9 od9 an9 sl9 oc9 kV9 dc9 pm9 cd9 ct9)
  (i10:FI K "cost_at" a7x f10 od10 an10 sl10 oc10 kV10 dc10 pm10 cd10 ct10)
  (i11:FI K "look_up_names" a3O f11 od11 an11 sl11 oc11 kV11 dc11 pm11 cd11 ct11)
  (i12:FI K "_law_ends" a6D f12 od12 an12 sl12 oc12 kV12 dc12 pm12 cd12 ct12)
  (i13:FI K "_law_amounts" a4L f13 od13 an13 sl13 oc13 kV13 dc13 pm13 cd13 ct13)
  (W8:FI K "_law_rule" a6z f14 od14 an14 sl14 oc14 kV14 dc14 pm14 cd14 ct14)
  (i15:FI K "_law_mix" a7w f15 od15 an15 sl15 oc15 kV15 dc15 pm15 cd15 ct15)
  (i16:FI K "_law_price" a56 f16 od16 an16 sl16 oc16 kV16 dc16 pm16 cd16 ct16)
  (i17:FI K "_law_turned" a44 f17 od17 an17 sl17 oc17 kV17 dc17 pm17 cd17 ct17)
  (i18:FI K "_law_rows" a6A f18 od18 an18 sl18 oc18 kV18 dc18 pm18 cd18 ct18)
  (i19:FI K "_law_leaf" a6B f19 od19 an19 sl19 oc19 kV19 dc19 pm19 cd19 ct19)
  (i20:FI K "_law_tree" a6x f20 od20 an20 sl20 oc20 kV20 dc20 pm20 cd20 ct20)
  (i21:FI K "_law_folded" a45 f21 od21 an21 sl21 oc21 kV21 dc21 pm21 cd21 ct21)
  (i22:FI K "_law_form" a6C f22 od22 an22 sl22 oc22 kV22 dc22 pm22 cd22 ct22)
  (i23:FI K "_law_at" a8F f23 od23 an23 sl23 oc23 kV23 dc23 pm23 cd23 ct23)
  (i24:FI K "_law_forms" a58 f24 od24 an24 sl24 oc24 kV24 dc24 pm24 cd24 ct24)
  (W7:FI K "law" LD f25 od25 Ux sl25 oc25 QZ RW QH Sb RX)
  (P8:nR K mainGlobals "len" = some none)
  (Ex:nR K mainGlobals "range" = some none)
  (Ew:nR K mainGlobals "tuple" = some none)
  (HV:nR K mainGlobals "list" = some none)
  (P4:nR K mainGlobals "sum" = some none)
  (P6:nR K mainGlobals "min" = some none)
  (P9:nR K mainGlobals "int" = some none)
  (P7:nR K mainGlobals "max" = some none)
  (BZ:nR K mainGlobals "sorted" = some none)
  (P5:nR K mainGlobals "set" = some none)
  (pU:nR K mainGlobals "isinstance" = some none)
  (HX:nR K mainGlobals "bool" = some none)
  {bM bL bu bq aK bE cz aE aJ bF bf cA br bZ aF bC aW ae a8 ai bp bo bU a9 aY aT aZ az bB aN aS bj be bD ao aw cj bO bW aI bN bG bh bX bY:Addr}
  (FX:nR K mainGlobals "Rule" = some (some (.ref br)))
  (AQ:nR K mainGlobals "Single" = some (some (.ref bZ)))
  (dj:dI K "Each" bM)
  (rZ:Mk K bM bY)
  (gr:av K bM "unit")
  (ig:av K bM "low")
  (gu:av K bM "high")
  (iA:ar K bM "parts" aF)
  (eM:ar K bM "all_names" ae)
  (iB:ar K bM "names" ai)
  (eL:ar K bM "cost_here" bp)
  (je:ar K bM "cost" ao)
  (di:dI K "Flat" bL)
  (rY:Mk K bL bX)
  (fE:av K bL "price")
  (ie:av K bL "low")
  (gp:av K bL "high")
  (iw:ar K bL "parts" aF)
  (eK:ar K bL "all_names" ae)
  (iy:ar K bL "names" ai)
  (eJ:ar K bL "cost_here" bo)
  (iZ:ar K bL "cost" ao)
  (c9:dI K "Bands" bu)
  (oy:Mk K bu bh)
  (fG:av K bu "rows")
  (gM:ar K bu "parts" aF)
  (dZ:ar K bu "all_names" ae)
  (gO:ar K bu "names" ai)
  (gP:ar K bu "holds" bU)
  (dY:ar K bu "cost_here" a9)
  (iC:ar K bu "cost" ao)
  (c8:dI K "Steps" bq)
  (ou:Mk K bq bh)
  (fC:av K bq "rows")
  (gE:ar K bq "parts" aF)
  (dU:ar K bq "all_names" ae)
  (gF:ar K bq "names" ai)
  (gG:ar K bq "holds" bU)
  (dS:ar K bq "cost_here" aY)
  (il:ar K bq "cost" ao)
  (b9:dI K "Blocks" aK)
  (mK:Mk K aK bG)
  (eW:av K aK "size")
  (dQ:av K aK "price")
  (eZ:av K aK "many")
  (fX:ar K aK "parts" aF)
  (dH:ar K aK "all_names" ae)
  (fY:ar K aK "names" ai)
  (dG:ar K aK "cost_here" aT)
  (gL:ar K aK "cost" ao)
  (dD:dI K "Named" bE)
  (ox:Mk K bE bN)
  (fD:av K bE "name")
  (gH:ar K bE "parts" aF)
  (dX:ar K bE "all_names" a8)
  (gJ:ar K bE "names" ai)
  (dW:ar K bE "cost_here" aZ)
  (ir:ar K bE "cost" ao)
  (fR:dI K "Sum" cz)
  (zG:Mk K cz aI)
  (jr:av K cz "one")
  (gm:av K cz "other")
  (iW:ar K cz "parts" bC)
  (fu:ar K cz "all_names" ae)
  (iX:ar K cz "names" ai)
  (dq:ar K cz "offered_costs" az)
  (ft:ar K cz "cost_here" bB)
  (jF:ar K cz "cost" ao)
  (bQ:dI K "Cheaper" aE)
  (k5:Mk K aE aI)
  (eU:av K aE "one")
  (dC:av K aE "other")
  (fy:ar K aE "parts" bC)
  (dt:ar K aE "all_names" ae)
  (fA:ar K aE "names" ai)
  (cH:ar K aE "offered_costs" az)
  (dr:ar K aE "cost_here" aN)
  (fW:ar K aE "cost" ao)
  (cm:dI K "Dearer" aJ)
  (mJ:Mk K aJ aI)
  (fF:av K aJ "one")
  (dP:av K aJ "other")
  (fU:ar K aJ "parts" bC)
  (dF:ar K aJ "all_names" ae)
  (fV:ar K aJ "names" ai)
  (cI:ar K aJ "offered_costs" az)
  (dE:ar K aJ "cost_here" aS)
  (gK:ar K aJ "cost" ao)
  (dh:dI K "Only" bF)
  (rX:Mk K bF bW)
  (h8:av K bF "one")
  (ic:av K bF "low")
  (gn:av K bF "high")
  (ip:ar K bF "parts" aW)
  (eI:ar K bF "all_names" ae)
  (iq:ar K bF "names" ai)
  (eG:ar K bF "cost_here" bj)
  (iY:ar K bF "cost" ao)
  (cS:dI K "After" bf)
  (oz:Mk K bf bO)
  (gw:av K bf "one")
  (e7:av K bf "count")
  (gQ:ar K bf "parts" aW)
  (eh:ar K bf "all_names" ae)
  (gR:ar K bf "names" ai)
  (d9:ar K bf "cost_here" be)
  (iD:ar K bf "cost" ao)
  (gy:dI K "Fee" cA)
  (zH:Mk K cA cj)
  (js:av K cA "one")
  (gq:av K cA "price")
  (jc:ar K cA "parts" aW)
  (fx:ar K cA "all_names" ae)
  (jd:ar K cA "names" ai)
  (fw:ar K cA "cost_here" bD)
  (jG:ar K cA "cost" ao)
  (Hb:mw K (.ref bZ) "__init__" = some (some (.ref aw)))
  (xS:K3 K (.ref bZ) "__getattribute__" = some (some (.builtin "type.__getattribute__")))
  (xR:XJ K bZ (.type "type")=true)
  (xQ:XI K (.ref bZ) (.type "type") "__init__" = some (.val (.ref aw)))
  (oN:FM K "parts" "Rule.parts" a46 aF Be BM A6 Bi Bn Bu Ba BC By)
  (oQ:FM K "parts" "Pair.parts" a48 bC Bh BP A9 Bm Bq Bx Bd BF BB)
  (mT:FM K "parts" "Single.parts" a33 aW yv zp yh yB yJ yV yo zc y3)
  (lh:FM K "all_names" "Rule.all_names" a3s ae uO vP uB uU u6 vm uI vD vw)
  (kf:FM K "all_names" "Named.all_names" a3a a8 sM t9 sf sR sY tN sF tX tS)
  (oO:FM K "names" "Rule.names" a47 ai Bf BN A7 Bj Bo Bv Bb BD Bz)
  (lp:FM K "cost_here" "Each.cost_here" a3v bp uR vS uE uX va vp uL vG vA)
  (ll:FM K "cost_here" "Flat.cost_here" a3u bo uQ vR uD uW u9 vo uK vF vz)
  (oP:FM K "holds" "Rows.holds" jC bU Bg BO A8 Bk Bp Bw Bc BE BA)
  (kj:FM K "cost_here" "Bands.cost_here" a3b a9 sN ua si sS sZ tO sG tY tT)
  (j9:FM K "cost_here" "Steps.cost_here" a28 aY sJ t7 sd sP sW tL sC tV tQ)
  (jE:FM K "cost_here" "Blocks.cost_here" a2X aT qZ rN qV q9 rg rq qX rD rB)
  (j':FM K "cost_here" "Named.cost_here" a29 aZ sL t8 se sQ sX tM sD tW tR)
  (iU:FM K "offered_costs" "Pair.offered_costs" a2u az pF pR pD pG pH pL pE pN pM)
  (lY:FM K "cost_here" "Sum.cost_here" a3Q bB wF xT wc wJ wQ w9 wA xH xD)
  (jy:FM K "cost_here" "Cheaper.cost_here" a2H aN p8 qD pW p9 qc qp p6 qv qu)
  (jD:FM K "cost_here" "Dearer.cost_here" a2W aS qY rM qU q8 rf rp qW rC rA)
  (lj:FM K "cost_here" "Only.cost_here" a3t bj uP vQ uC uV u7 vn uJ vE vy)
  (km:FM K "cost_here" "After.cost_here" a3c be sO ub sj sT s9 tP sH tZ tU)
  (l4:FM K "cost_here" "Fee.cost_here" a3S bD wH xV wg wL wU xB wC xJ xF)
  (qg:FM K "cost" "Rule.cost" a59 ao Cf C6 B5 Cg Cm CM Cd CO CN)
  (da:FM K "__init__" "Single.__init__" a3r aw uN vO uA uT u5 vj uH vC vt)
  (nJ:FM K "__init__" "Fee.__init__" a4M cj z6 AN zL z7 Ad Av zZ Ax Aw)
  (l5:FM K "__init__" "After.__init__" a3T bO wI xW wj wM wV xC wD xK xG)
  (mU:FM K "__init__" "Only.__init__" a36 bW yy zt yk yE yM yY yr zf y7)
  (fT:FM K "__init__" "Pair.__init__" a35 aI yx zr yj yD yL yX yq ze y6)
  (lZ:FM K "__init__" "Named.__init__" a3R bN wG xU we wK wR xA wB xI xE)
  (lq:FM K "__init__" "Blocks.__init__" a3w bG uS vT uF uY ve vq uM vH vB)
  (iT:FM K "__init__" "Rows.__init__" a34 bh yw zq yi yC yK yW yp zd y4)
  (mV:FM K "__init__" "Flat.__init__" a37 bX yz zu ym yF yN yZ yt zg y8)
  (mW:FM K "__init__" "Each.__init__" a38 bY yA zw yn yG yO y2 yu zh y9)
  (yT:K3 K (.builtin "object.__class__") "__get__" = some (some (.builtin "getset_descriptor.__get__")))
  (yS:SA K (.builtin "object.__class__")=some true)
  (Cb:mw K (.ref bM) "__class__" = some (some (.builtin "object.__class__")))
  (B9:vI K bM (.type "object")=some true)
  (qf:vJ K (.ref bM) (.ref br)=some true)
  (Ca:mw K (.ref bL) "__class__" = some (some (.builtin "object.__class__")))
  (B8:vI K bL (.type "object")=some true)
  (qe:vJ K (.ref bL) (.ref br)=some true)
  (zS:mw K (.ref bu) "__class__" = some (some (.builtin "object.__class__")))
  (zO:vI K bu (.type "object")=some true)
  (oH:vJ K (.ref bu) (.ref br)=some true)
  (zQ:mw K (.ref bq) "__class__" = some (some (.builtin "object.__class__")))
  (zM:vI K bq (.type "object")=some true)
  (oF:vJ K (.ref bq) (.ref br)=some true)
  (wx:mw K (.ref aK) "__class__" = some (some (.builtin "object.__class__")))
  (wt:vI K aK (.type "object")=some true)
  (nI:vJ K (.ref aK) (.ref br)=some true)
  (zR:mw K (.ref bE) "__class__" = some (some (.builtin "object.__class__")))
  (zN:vI K bE (.type "object")=some true)
  (oG:vJ K (.ref bE) (.ref br)=some true)
  (EL:mw K (.ref cz) "__class__" = some (some (.builtin "object.__class__")))
  (EJ:vI K cz (.type "object")=some true)
  (tf:vJ K (.ref cz) (.ref br)=some true)
  (sv:mw K (.ref aE) "__class__" = some (some (.builtin "object.__class__")))
  (su:vI K aE (.type "object")=some true)
  (mS:vJ K (.ref aE) (.ref br)=some true)
  (wu:mw K (.ref aJ) "__class__" = some (some (.builtin "object.__class__")))
  (wq:vI K aJ (.type "object")=some true)
  (nH:vJ K (.ref aJ) (.ref br)=some true)
  (B':mw K (.ref bF) "__class__" = some (some (.builtin "object.__class__")))
  (B7:vI K bF (.type "object")=some true)
  (qd:vJ K (.ref bF) (.ref br)=some true)
  (zT:mw K (.ref bf) "__class__" = some (some (.builtin "object.__class__")))
  (zP:vI K bf (.type "object")=some true)
  (oI:vJ K (.ref bf) (.ref br)=some true)
  (EM:mw K (.ref cA) "__class__" = some (some (.builtin "object.__class__")))
  (EK:vI K cA (.type "object")=some true)
  (tj:vJ K (.ref cA) (.ref br)=some true)
  (fin:∀ns:List Int,ns.length<=63->Ot [.lst true (ns.map D.int)]=some (.sh (.bl true))):
  ∃fd:FuncData,(∀(s:Shared) (v:Value),BindsTo s fd ⟨[v],[]⟩ [("script",v)])/\∀base:Heap,K.In base->base.Ns mainGlobals mg->cR l.prog w K mg base jY 51 fa fd ["script"] (spT K):=by
 have e:=hfa.symm.trans (rK X G W7.a)
 cases e
 have z_len:=zm X G P8
 have z_range:=zm X G Ex
 have z_tuple:=zm X G Ew
 have z_list:=zm X G HV
 have z_sum:=zm X G P4
 have z_min:=zm X G P6
 have z_int:=zm X G P9
 have z_max:=zm X G P7
 have z_sorted:=zm X G BZ
 have z_set:=zm X G P5
 have z_isinstance:=zm X G pU
 have z_bool:=zm X G HX
 have OB:Obs K mg bM bL bu bq aK bE cz aE aJ bF bf cA br bZ aF bC aW ae a8 ai bp bo bU a9 aY aT aZ az bB aN aS bj be bD ao aw cj bO bW aI bN bG bh bX bY:=⟨dj,rK X G dj.a,rZ,gr,ig,gu,iA,eM,iB,eL,je,⟨Cb,yT,yS,B9,qf⟩,di,rK X G di.a,rY,fE,ie,gp,iw,eK,iy,eJ,iZ,⟨Ca,yT,yS,B8,qe⟩,c9,rK X G c9.a,oy,fG,gM,dZ,gO,gP,dY,iC,⟨zS,yT,yS,zO,oH⟩,c8,rK X G c8.a,ou,fC,gE,dU,gF,gG,dS,il,⟨zQ,yT,yS,zM,oF⟩,b9,rK X G b9.a,mK,eW,dQ,eZ,fX,dH,fY,dG,gL,⟨wx,yT,yS,wt,nI⟩,dD,rK X G dD.a,ox,fD,gH,dX,gJ,dW,ir,⟨zR,yT,yS,zN,oG⟩,fR,rK X G fR.a,zG,jr,gm,iW,fu,iX,dq,ft,jF,⟨EL,yT,yS,EJ,tf⟩,bQ,rK X G bQ.a,k5,eU,dC,fy,dt,fA,cH,dr,fW,⟨sv,yT,yS,su,mS⟩,cm,rK X G cm.a,mJ,fF,dP,fU,dF,fV,cI,dE,gK,⟨wu,yT,yS,wq,nH⟩,dh,rK X G dh.a,rX,h8,ic,gn,ip,eI,iq,eG,iY,⟨B',yT,yS,B7,qd⟩,cS,rK X G cS.a,oz,gw,e7,gQ,eh,gR,d9,iD,⟨zT,yT,yS,zP,oI⟩,gy,rK X G gy.a,zH,js,gq,jc,fx,jd,fw,jG,⟨EM,yT,yS,EK,tj⟩,rK X G FX,rK X G AQ,⟨xS,xR,xQ,da.k⟩⟩
 refine ⟨nS "law" "law" (o8 LD) (jW LD) (gk LD) .none QZ RW QH Ux Sb RX,λs v=>.of_eq rfl,λbase _ _=>?_⟩
 have Dl:=a71 (P:=l.prog) (w:=w) (base:=base) (mg:=mg) (iR oN (by walk_at "m1"))
 have kS:=a9W OB
 have du:=b2a OB
 have HD:=a73 (P:=l.prog) (w:=w) (base:=base) (mg:=mg) kS du (iR oQ (by walk_at "m1"))
 have Hy:=a6N (P:=l.prog) (w:=w) (base:=base) (mg:=mg) du (iR mT (by walk_at "m1"))
 have f':=a9O OB Dl HD Hy
 have iI:=b1i OB
 have fK:k4 l.prog w K mg base "all_names" 1 25 (qJ 12):=by
  have ih:∀n,k4 l.prog w K mg base "all_names" 1 (2*n+1) (qJ n):=λn=>by
   induction n with
   | zero=>exact De
   | succ n fL =>
    rw [show 2*(n+1)+1=2*n+1+2 from by omega]
    have v7:Pz (Om l.prog w K mg base ae) (2*n+1+2) (oe (qJ n)):=a5M fL f' (iR lh (by walk_at "m1"))
    have PF:PM (Om l.prog w K mg base a8) (2*n+1+1) (HS (qJ n)):=a5g iI (iR kf (by walk_at "m1"))
    exact a6P OB v7 PF
  exact ih 12
 have uf:=a72 z_sorted z_set fK (iR oO (by walk_at "m1"))
 have fg:=a9P OB uf
 have Pd:Hs (Oz l.prog w K mg base) 13 (Em 12):=by
  have ih:∀n,Hs (Oz l.prog w K mg base) (1*n+1) (Em n):=λn=>by
   induction n with
   | zero=>exact Oq (Ab X G i1)
   | succ n ej =>
    rw [show 1*(n+1)+1=1*n+1+1 from by omega]
    exact a8P ej (Ab X G i1)
  exact ih 12
 have kQ:=b1e OB
 have OV:=a9F (P:=l.prog) (w:=w) (base:=base) z_int z_isinstance z_bool (j7 X G i2)
 have Pg:=a6i (P:=l.prog) (w:=w) (base:=base) z_len z_range z_sum z_min z_int (qa X G i3)
 have O5:Hv (Oz l.prog w K mg base) 25 (AZ 12):=by
  have ih:∀n,Hv (Oz l.prog w K mg base) (2*n+1) (AZ n):=λn=>by
   induction n with
   | zero=>exact Oq (qa X G i5)
   | succ n ck =>
    rw [show 2*(n+1)+1=2*n+1+2 from by omega]
    have O4:O0 (Oz l.prog w K mg base) (2*n+1+1) (HE (AZ n)):=a9M z_min z_int z_max ck (qa X G i4)
    exact a9L z_max ck Pg O4 (qa X G i5)
  exact ih 12
 have gU:=b2b OB
 have e9:=b1k OB
 have mH:=b1f OB
 have dB:=a9V OB
 have e8:=b1h OB
 have L8:=nG (P:=l.prog) (w:=w) (base:=base) (mg:=mg) e8 (iR oP (by walk_at "m2"))
 have gc:=p7 OB L8
 have kR:=b1g OB
 have mI:=b1j OB
 have O_up:=Jg (P:=l.prog) (w:=w) (base:=base) (j7 X G i6)
 have OL:=b06 (P:=l.prog) (w:=w) (base:=base) (qa X G i7)
 have O3:=a9N OL (j7 X G i8)
 have OX:=a9D (P:=l.prog) (w:=w) (base:=base) z_len (j7 X G i9)
 have OK:=b08 z_len O3 OX (j7 X G i10)
 have kT:=a9X OB
 have fJ:k4 l.prog w K mg base "cost_here" 3 49 (jN 12):=by
  have ih:∀n,k4 l.prog w K mg base "cost_here" 3 (4*n+1) (jN n):=λn=>by
   induction n with
   | zero=>exact De
   | succ n bw =>
    rw [show 4*(n+1)+1=4*n+1+4 from by omega]
    have Pq:Pw (Om l.prog w K mg base bp) (4*n+1+1) (HP (jN n)):=a5P gU e9 mH (iR lp (by walk_at "m3"))
    have Pt:Px (Om l.prog w K mg base bo) (4*n+1+1) (HQ (jN n)):=a5O gU e9 dB (iR ll (by walk_at "m3"))
    have PD:PL (Om l.prog w K mg base a9) (4*n+1+2) (HR (jN n)):=a5h e8 gc (iR kj (by walk_at "m3"))
    have PJ:PQ (Om l.prog w K mg base aY) (4*n+1+2) (HL (jN n)):=a5e z_min z_max e8 gc (iR j9 (by walk_at "m3"))
    have PR:PV (Om l.prog w K mg base aT) (4*n+1+2) (HN (jN n)):=a4W dB kR mI O_up (iR jE (by walk_at "m3"))
    have PH:PN (Om l.prog w K mg base aZ) (4*n+1+4) (HK (jN n)):=a5f iI OK (iR j' (by walk_at "m3"))
    have HM:Pp (Om l.prog w K mg base az) (4*n+1+2) (Dq (jN n)):=a4a bw f' (iR iU (by walk_at "m3"))
    have aX:k4 l.prog w K mg base "offered_costs" 3 (4*n+1+2) (F9 (jN n)):=a4U OB HM
    have Pf:Pk (Om l.prog w K mg base bB) (4*n+1+3) (F8 (jN n)):=a6j z_len z_sum aX (iR lY (by walk_at "m3"))
    have Pn:Po (Om l.prog w K mg base aN) (4*n+1+3) (Gc (jN n)):=a4G z_min aX (iR jy (by walk_at "m3"))
    have PU:PX (Om l.prog w K mg base aS) (4*n+1+3) (Gb (jN n)):=a4V z_len z_max aX (iR jD (by walk_at "m3"))
    have Pu:Py (Om l.prog w K mg base bj) (4*n+1+1) (F' (jN n)):=a5N bw du gU e9 (iR lj (by walk_at "m3"))
    have PB:PK (Om l.prog w K mg base be) (4*n+1+1) (Ga (jN n)):=a5i z_max bw du kT (iR km (by walk_at "m3"))
    have Pe:Pj (Om l.prog w K mg base bD) (4*n+1+1) (Ge (jN n)):=a6k bw du dB (iR l4 (by walk_at "m3"))
    exact a6O OB Pq Pt PD PJ PR PH Pf Pn PU Pu PB Pe
  exact ih 12
 have Ph:=a6h fg (j7 X G i11)
 have ue:=a8R fJ Ph (iR qg (by walk_at "m3"))
 have mC:=b09 OB ue
 have O6:Hw (Oz l.prog w K mg base) 13 (Dm 12):=by
  have ih:∀n,Hw (Oz l.prog w K mg base) (1*n+1) (Dm n):=λn=>by
   induction n with
   | zero=>exact Oq (j7 X G i12)
   | succ n fj =>
    rw [show 1*(n+1)+1=1*n+1+1 from by omega]
    exact a9K fj (j7 X G i12)
  exact ih 12
 have Pm:=a7p z_sorted z_set O6 (Jm X G i13)
 have pB:=b19 (P:=l.prog) (w:=w) (base:=base) OB (iR da (by walk_at "m2"))
 have pA:=b18 OB pB (iR nJ (by walk_at "m3"))
 have kP:=a9U (P:=l.prog) (w:=w) (base:=base) OB (iR da (by walk_at "m2"))
 have kO:=a9T OB kP (iR l5 (by walk_at "m3"))
 have mG:=b1d (P:=l.prog) (w:=w) (base:=base) OB (iR da (by walk_at "m2"))
 have mD:=b1a OB mG (iR mU (by walk_at "m4"))
 have jv:=a8S (P:=l.prog) (w:=w) (base:=base) OB (iR fT (by walk_at "m3"))
 have iG:=a74 (P:=l.prog) (w:=w) (base:=base) OB (iR fT (by walk_at "m3"))
 have px:=b17 (P:=l.prog) (w:=w) (base:=base) OB (iR fT (by walk_at "m3"))
 have kM:=a9R (P:=l.prog) (w:=w) (base:=base) OB (iR lZ (by walk_at "m2"))
 have jw:=a8T (P:=l.prog) (w:=w) (base:=base) OB (iR lq (by walk_at "m4"))
 have kL:=a9Q (P:=l.prog) (w:=w) (base:=base) OB (iR iT (by walk_at "m2"))
 have kN:=a9S (P:=l.prog) (w:=w) (base:=base) OB (iR iT (by walk_at "m2"))
 have mE:=b1b (P:=l.prog) (w:=w) (base:=base) OB (iR mV (by walk_at "m4"))
 have mF:=b1c (P:=l.prog) (w:=w) (base:=base) OB (iR mW (by walk_at "m4"))
 have OU:Hx (Oz l.prog w K mg base) 49 (yb 12):=by
  have ih:∀n,Hx (Oz l.prog w K mg base) (4*n+1) (yb n):=λn=>by
   induction n with
   | zero=>exact Oq (Ab X G W8)
   | succ n bP =>
    rw [show 4*(n+1)+1=4*n+1+4 from by omega]
    exact a9G z_list bP pA kO mD jv iG px kM jw kL kN mE mF (Ab X G W8)
  exact ih 12
 have iQ:=b07 (P:=l.prog) (w:=w) (base:=base) (qa X G i15)
 have v8:=a8O iQ (j7 X G i16)
 have Pa:=a7Z iQ v8 (Jm X G i17)
 have OT:=a9H z_range iQ v8 (j7 X G i18)
 have OS:=a9I iQ v8 OT (j7 X G i19)
 have OW:=a9E z_len iQ Pa OS (qa X G i20)
 have O9:=a70 (P:=l.prog) (w:=w) (base:=base) z_len z_range (qa X G i21)
 have O7:=a9J z_range z_tuple iQ v8 (j7 X G i22)
 have F6:=b16 (P:=l.prog) (w:=w) (base:=base) z_len (j7 X G i23)
 have Pc:=a8Q z_range O7 F6 (j7 X G i24)
 have O_law:=b8u z_list z_sorted z_set z_isinstance fg Pd kQ OV O5 mC Pm OU OW O9 F6 Pc (Ab X G W7)
 exact b8F O_law fin
end My
open PySem L2 DL
def vcNames:String:="a0g Wo_none a0n a16 a6I b1Q b1P b1O a2f b9x Wo_ret b9s a5V b9O b9j b7M b7a Wo_eV Wo_eC b3r b9y b7r b7v b7p b7s b7u b7t b7q b9B b9C b9D b9E b9F b4P b7N b7P b7O rep0 rep1 rep2 rep3 rep4 b4L b4U b4V b7y b7z b7x b7C b7E b7o b9z b7m b2y b4g b2A b2x b2w b2z b5s b9Q b7f b7e b7i b9p b7g b7L b7D b9M b7Q b4Y b7A b7F b9k b9m b9l Wo_bV b9N b9q b9r b7G b3o ixQ_i b5t atI_0 atI_1 atI_2 atI_3 b4T b3q b4W b4X b7H b6T b6U b9G b7w b0g a9o b7j b4N b4M b3v b3u b9A Wo_gT b4O b3m a9m b9R b82 b9H b9u b6y b7n b7b b7k b9w pQ_i b9v b9K b4Q mkQ_s b4S a8r Sl_sh Sl_ow List.getElem?_cons_zero List.getElem?_cons_succ List.set_cons_zero List.set_cons_succ List.length_cons List.length_nil a92 a93 a87 a88 decide_eq_true_eq decide_eq_false_iff_not Bool.not_eq_true' Bool.not_eq_false' Bool.not_true Bool.not_false true_and and_true forall_const Bool.true_eq_false Bool.false_eq_true false_implies reduceCtorEq implies_true true_implies Int.reduceToNat Nat.reduceAdd Nat.reduceLT Nat.reduceLeDiff Nat.reduceSub Int.reduceLT Int.reduceLE Int.reduceEq Int.cast_ofNat_Int not_true_eq_false not_false_eq_true"
local macro_rules | `(tactic| walk_at "vc")=>do
 let ls ← ((vcNames.splitOn " ") ++ ["a1u","b3k","b4d","b6A","b4f","b4c","b4b","b4e"]).toArray.mapM fun s=>`(Lean.Parser.Tactic.simpLemma| $(Lean.mkIdent s.toName):ident)
 `(tactic| first | simp only [$ls,*] | dsimp only | skip)
local macro_rules | `(tactic| walk_at "v1")=>do
 let ls ← (vcNames.splitOn " ").toArray.mapM fun s=>`(Lean.Parser.Tactic.simpLemma| $(Lean.mkIdent s.toName):ident)
 `(tactic| first | simp only [$ls,*] | dsimp only | skip)
local macro_rules | `(tactic| walk_at "sc")=>`(tactic| first | omega | (simp only [DivC,PowC,MulC,LIM,R62]; omega) | rfl | decide)
local macro_rules | `(tactic| walk_at "go")=>`(tactic| (walk_at "vc"; repeat' first | apply And.intro | intro _); all_goals try (walk_at "sc"))
local macro_rules | `(tactic| walk_at "sp")=>`(tactic| (repeat' first | apply And.intro | intro _); all_goals first | (exfalso; omega) | walk_at "sc" | ((repeat apply Exists.intro); rfl) | skip)
local macro_rules | `(tactic| walk_at "st")=>`(tactic| repeat (refine And.intro ?_ ?_; · first | (simp only [DivC,PowC,MulC,LIM,R62]; omega) | omega))
namespace My
noncomputable abbrev Row:=Int×Int×Int×Int
noncomputable def Row.d(r:Row):D:=.tup [.int r.1,.int r.2.1,.int r.2.2.1,.int r.2.2.2]
theorem FY(r:Row):Row.d r=.tup [.int r.1,.int r.2.1,.int r.2.2.1,.int r.2.2.2]:=rfl
noncomputable def Row.at(r:Row)(x:Int):Int:=r.2.2.1+r.2.2.2*(x-r.1)
def Ml(r:Row):Prop:=r.1<=r.2.1/\(r.1=r.2.1->r.2.2.2=0)
def b9S(a r:Row):Prop:=a.2.1<r.1/\(r.1=a.2.1+1->a.1<a.2.1/\r.2.2.1≠a.at r.1)
noncomputable def qO(R:Row->Row->Prop):List Row->Prop
 | a::b::rs=>R a b/\qO R (b::rs)
 | _=>True
theorem qO.snoc{R:Row->Row->Prop}{r:Row}:∀{rs:List Row},qO R rs->(∀a,rs.getLast?=some a->R a r)->qO R (rs++[r])
 | [],_,_=>trivial
 | [a],_,h=>⟨h a rfl,trivial⟩
 | a::b::rs,h,k=>⟨h.1,h.2.snoc (rs:=b::rs) λc hc=>k c (by simpa using hc)⟩
def Canon(rs:List Row):Prop:=(∀r∈rs,Ml r)/\qO b9S rs
def C7(B:Int)(r:Row):Prop:=(-B<=r.1/\r.1<=B)/\(-B<=r.2.1/\r.2.1<=B)/\(-B<=r.2.2.1/\r.2.2.1<=B)/\(-B<=r.2.2.2/\r.2.2.2<=B)
noncomputable def look:List Row->Int->Option Int
 | [],_=>none
 | r::rs,x=>if r.1<=x/\x<=r.2.1 then some (r.at x) else look rs x
noncomputable def dz:Option Int->D
 | none=>.b8
 | some i=>.int i
def PZ(rs:List Row):Prop:=(∀r∈rs,r.1<=r.2.1)/\rs.Pairwise λa b=>a.2.1<b.1
theorem Canon.C5:∀{rs:List Row},Canon rs->PZ rs
 | [],_=>⟨λ_ z=>(nomatch z),.nil⟩
 | [r],h=>⟨λq hq=>(h.1 q hq).1,La _ _⟩
 | r::q::rs,h=>by
  obtain ⟨i1,i2⟩:=Canon.C5 (rs:=q::rs) ⟨λa ha=>h.1 a (jU _ ha),h.2.2⟩
  refine ⟨λa ha=>(h.1 a ha).1,C3.mpr ⟨λa ha=>?_,i2⟩⟩
  have h1:=h.2.1.1
  rcases fB.mp ha with rfl | ha
  .exact h1
  .have:=(C3.mp i2).1 a ha
   have:=i1 q jL
   lia
theorem a80{x:Int}{post:List Row}:∀{pre:List Row},(∀q∈pre,q.2.1<x)->look (pre++post) x=look post x
 | [],_=>rfl
 | r::pre,h=>by
  have:=h r jL
  rw [K0,look,if_neg (by ext this)]
  exact a80 λq hq=>h q (jU _ hq)
theorem a81{x:Int}:∀{rs:List Row},(∀q∈rs,x<q.1\/q.2.1<x)->look rs x=none
 | [],_=>rfl
 | r::rs,h=>by
  have:=h r jL
  rw [look,if_neg (by ext this)]
  exact a81 λq hq=>h q (jU _ hq)
theorem b9c{p s l x:Int}(h1:-(10^250)<=s)(h2:s<=10^250)(h3:-(10^250)<=x-l)(h4:x-l<=10^250):Mc [.tup [.int p,.int s],.int l,.int x]=some (.sh (.int (p+s*(x-l)))):=by
 refine Wo.eq (yc.mpr ?_)
 unfold U0
 walk_at "go"
theorem b65{r:Row}{x:Int}(h1:-(10^250)<=r.2.2.2)(h2:r.2.2.2<=10^250)(h3:-(10^250)<=x-r.1)(h4:x-r.1<=10^250):L9 [r.d,.int x]=some (.sh (.int (r.at x))):=by
 refine Wo.eq (uq.mpr ?_)
 unfold VG
 rw [FY r]
 walk_at "vc"
 rw [b9c h1 h2 h3 h4]
 walk_at "vc"
 rfl
theorem Zm{rs:List Row}{n:Nat}(h:n<rs.length):iK (rs.map Row.d) (n:Int)=some (Row.d rs[n]):=by
 rw [DL.kz];simp [h]
theorem b6W{rs:List Row}(ha:PZ rs)(hl:rs.length<=900000)(x:Int):∃n:Nat,HJ [.tup (rs.map Row.d),.int x]=some (.sh (.int n))/\n<=rs.length/\(∀i (h:i<rs.length),i<n->rs[i].2.1<x)/\(∀i (h:i<rs.length),n<=i->x<=rs[i].2.1):=by
 have mono:∀i j (hi:i<rs.length) (hj:j<rs.length),i<=j->rs[i].2.1<=rs[j].2.1:=λi j hi hj h=>by
  rcases Nat.lt_or_eq_of_le h with h | rfl
  .have:=(G8.mp ha.2) i j hi hj h
   have:=ha.1 _ (AJ hj)
   lia
  .exact Int.le_refl _
 have key:Wo (HJ [.tup (rs.map Row.d),.int x]) λs=>∃n:Nat,s=.sh (.int n)/\n<=rs.length/\(∀i (h:i<rs.length),i<n->rs[i].2.1<x)/\(∀i (h:i<rs.length),n<=i->x<=rs[i].2.1):=by
  refine ug.mpr ?_
  unfold Vs
  walk_at "vc"
  rw [eD,Z5]
  refine O8 (λm env=>∃x4,∃f b:Nat,env=[.sh (.tup (rs.map Row.d)),.sh (.int x),.sh (.int f),.sh (.int b),x4]/\m=b-f/\f<=b/\b<=rs.length/\(∀i (h:i<rs.length),i<f->rs[i].2.1<x)/\(∀i (h:i<rs.length),b<=i->x<=rs[i].2.1)) (λm env h=>?_) _ rs.length
   (show rs.length<1000000 by ext hl) ⟨_,0,rs.length,rfl,by simp,by simp,cT _,λi h z=>absurd z (K6 _),λi h z=>absurd h (by ext z)⟩
  obtain ⟨x4,f,b,rfl,rfl,h1,h2,h3,h4⟩:=h
  walk_at "vc"
  refine ⟨λcU=>?_,λBr=>⟨f,rfl,by ext h1 h2,h3,λi h z=>h4 i h (by ext Br z)⟩⟩
  have hm:((f:Int)+b)/2=(((f+b)/2:Nat):Int):=by lia
  have Ai:(f+b)/2<rs.length:=by lia
  rw [hm,Zm Ai,FY]
  walk_at "vc"
  refine ⟨by walk_at "sc",λhc=>?_,λhc=>?_⟩
  .exact ⟨b-((f+b)/2+1),by lia,_,(f+b)/2+1,b,rfl,rfl,by lia,h2,λi h z=>Int.lt_of_le_of_lt (mono i ((f+b)/2) h Ai (by ext z)) hc,h4⟩
  .exact ⟨(f+b)/2-f,by lia,_,f,(f+b)/2,rfl,rfl,by lia,by ext Ai,h3,λi h z=>Int.le_trans (by ext Ai hc) (mono ((f+b)/2) i Ai h z)⟩
 obtain ⟨s,e,n,rfl,h⟩:=key
 exact ⟨n,e,h⟩
theorem b4x{rs:List Row}(ha:PZ rs)(hl:rs.length<=900000)(hb:∀r∈rs,C7 (10^140) r){x:Int}(hx:-(10^140)<=x/\x<=10^140):Mb [.tup (rs.map Row.d),.int x]=some (.sh (dz (look rs x))):=by
 refine Wo.eq (ye.mpr ?_)
 unfold UY
 walk_at "vc"
 obtain ⟨n,en,hn,h1,h2⟩:=b6W ha hl x
 rw [en]
 walk_at "vc"
 rw [eD]
 have split:rs=rs.take n++rs.drop n:=(xN n rs).symm
 have wX:∀q∈rs.take n,q.2.1<x:=λq hq=>by
  obtain ⟨i,hi,rfl⟩:=xM.mp hq
  rw [oY] at hi
  rw [K2]
  exact h1 i (by ext hi) (by ext hi)
 have lk:look rs x=look (rs.drop n) x:=by
  have:=a80 (x:=x) (post:=rs.drop n) wX
  rwa [<-split] at this
 refine ⟨λhe=>?_,λhe=>?_⟩
 .have:rs.drop n=[]:=GX (by ext he)
  rw [lk,this];rfl
 .have cU:n<rs.length:=by ext hn he
  have hd:rs.drop n=rs[n]::rs.drop (n+1):=AH cU
  have hr:=hb rs[n] (AJ cU)
  have hle:=h2 n cU (cT _)
  unfold C7 at hr
  rw [Zm cU,FY]
  walk_at "vc"
  refine ⟨λMM=>?_,λMM=>?_⟩
  .rw [lk,a81];rfl
   intro q hq
   rw [hd] at hq
   rcases fB.mp hq with rfl | hq
   .exact .inl MM
   .have hp:=ha.2
    rw [split,hd] at hp
    have:=(C3.mp (zo.mp hp).2.1).1 q hq
    have:=ha.1 rs[n] (AJ cU)
    exact .inl (by omega)
  .rw [<-FY,b65 (by ext cU hr) (by ext cU hr) (by ext cU MM) (by ext cU hx hr)]
   walk_at "vc"
   rw [lk,hd,look,if_pos ⟨by ext cU MM,hle⟩]
   rfl
theorem Kr(ns:List Int)(k:Int)(hk:0<=k){r:Bool}:Hu [.lst r (ns.map D.int),.int k]=some (.sh (.int (ns.getD k.toNat 0))):=by
 refine Wo.eq (A0.mpr ?_)
 unfold UN
 walk_at "vc"
 rw [eD]
 refine ⟨λh=>?_,λh=>?_⟩
 .rw [Eg 0 hk h]
  walk_at "vc"
 .have:ns.length<=k.toNat:=by ext h
  rw [show ns.getD k.toNat 0=0 by simp [this]]
theorem mB(c k s:Int)(hk:0<=k/\k<=1000)(hs:0<s/\s<=10^45):∃m:Int,kC [.int c,.int k,.int s]=some (.sh (.int m))/\0<=m/\m<s:=by
 have key:Wo (kC [.int c,.int k,.int s]) λx=>∃m:Int,x=.sh (.int m)/\0<=m/\m<s:=by
  refine yd.mpr ?_
  unfold UZ
  have a1:=GS c (show (10^60:Int)≠0 by decide)
  have a2:=G0 c (show (0:Int)<10^60 by decide)
  have k1:0<=k*k:=D0 hk.1 hk.1
  have k2:k*k<=1000*1000:=DZ hk.2 hk.2 hk.1 (by decide)
  have k3:2*k*k=2*(k*k):=Int.mul_assoc ..
  walk_at "vc"
  have o1:0<=271828182845904523536028747135266249775724709369995+2*k*k:=by omega
  have o2:271828182845904523536028747135266249775724709369995+2*k*k<=10^52:=by omega
  generalize 271828182845904523536028747135266249775724709369995+2*k*k=o at *
  generalize c%10^60=u at *
  have p1:0<=(u+1)*o:=D0 (by ext a1) o1
  have p2:(u+1)*o<=10^60*10^52:=DZ (by ext a2) o2 o1 (by decide)
  generalize (u+1)*o=p at *
  generalize (p+7907*k)*(p+7907*k)%(10^60+7)/11=w at *
  exact ⟨.inl (by decide),.inl (by ext hk),by walk_at "sc",by decide,AX (by ext a1) (by ext a2) (by ext o1) (by ext o2),.inl (by decide),AX (by ext hk p1) (by omega) (by ext hk p1) (by omega),by walk_at "sc",by decide,UJ (by decide) (by decide),hs.1,_,rfl,GS _ (by ext hs),G0 _ hs.1⟩
 obtain ⟨x,e,m,rfl,h⟩:=key
 exact ⟨m,e,h⟩
local macro_rules | `(tactic| walk_at "o1")=>do
 let ls ← ((vcNames.splitOn " ") ++ ["b7J","b4R","b9L","b7I","b9J","b9I","tcQ_d","tgQ_d","tiQ_d","Sl_tw"]).toArray.mapM fun s=>`(Lean.Parser.Tactic.simpLemma| $(Lean.mkIdent s.toName):ident)
 `(tactic| first | simp only [$ls,*] | dsimp only | skip)
inductive Pl where
 | each (p lo hi:Int) | flat (p lo hi:Int) | bands (rs:List (Int×Int)) | steps (rs:List (Int×Int)) | blocks (s p m:Int) | name (n:Str)
noncomputable def Pr(q:Int×Int):D:=.tup [.int q.1,.int q.2]
noncomputable def Pl.d:Pl->D
 | .each p lo hi=>.tup [.str "each",.int p,.int lo,.int hi]
 | .flat p lo hi=>.tup [.str "flat",.int p,.int lo,.int hi]
 | .bands rs=>.tup [.str "bands",.lst false (rs.map Pr)]
 | .steps rs=>.tup [.str "steps",.lst false (rs.map Pr)]
 | .blocks s p m=>.tup [.str "blocks",.int s,.int p,.int m]
 | .name n=>.tup [.str "name",.str n]
noncomputable def Pl.o:Pl->D
 | .each p lo hi=>.obj "Each" LJ [.int p,.int lo,.int hi]
 | .flat p lo hi=>.obj "Flat" LK [.int p,.int lo,.int hi]
 | .bands rs=>.obj "Bands" LQ [.lst false (rs.map Pr)]
 | .steps rs=>.obj "Steps" LS [.lst false (rs.map Pr)]
 | .blocks s p m=>.obj "Blocks" LW [.int s,.int p,.int m]
 | .name n=>.obj "Named" LR [.str n]
def BS(rs:List (Int×Int)):Prop:=rs≠[]/\rs.length<=3/\(∀q∈rs,(0<=q.1/\q.1<=10^40) /\ -(10^40)<=q.2/\q.2<=10^40)/\rs.Pairwise λa b=>a.1<b.1
noncomputable def Pl.ok:Pl->Prop
 | .each p lo hi=>(-(10^40)<=p/\p<=10^40)/\(0<=lo/\lo<=10^40)/\(lo<=hi/\hi<=10^40)
 | .flat p lo hi=>(-(10^40)<=p/\p<=10^40)/\(0<=lo/\lo<=10^40)/\(lo<=hi/\hi<=10^40)
 | .bands rs=>BS rs
 | .steps rs=>BS rs
 | .blocks s p m=>(1<=s/\s<=10^39)/\(-(10^40)<=p/\p<=10^40)/\1<=m/\m<=4
 | .name n=>n = "p" \/ n = "qq" \/ n = "ptop"
theorem LH(c k:Int)(hk:0<=k/\k<=200):∃m:Int,BX [.int c,.int k]=some (.sh (.int m)) /\ -(10^40)<=m/\m<=10^40:=by
 have key:Wo (BX [.int c,.int k]) λx=>∃m:Int,x=.sh (.int m) /\ -(10^40)<=m/\m<=10^40:=by
  refine qK.mpr ?_
  unfold VR
  obtain ⟨a,ea,a0,a1⟩:=mB c (k+60) 3 (by ext hk) (by decide)
  walk_at "v1"
  rw [ea]
  walk_at "v1"
  refine ⟨by decide,by decide,?_⟩
  refine Zk [3,10^9,10^39] a0 (by simpa using a1) λv hv=>?_
  have hb:0<v/\v<=10^39:=by
   simp only [fB,rL,or_false] at hv
   ext hv
  obtain ⟨b,eb,b0,b1⟩:=mB c k (2*v+1) (by ext hk) (by ext hb)
  walk_at "v1"
  rw [eb]
  walk_at "v1"
  exact ⟨.inl (by decide),_,rfl,by ext hb b0,by ext hb b1⟩
 obtain ⟨x,e,m,rfl,h⟩:=key
 exact ⟨m,e,h⟩
theorem eqF{a b:Str}(h:a≠b):bH (.str a) (.str b)=some (.sh (.bl false)):=by
 simp [bH,cf,h]
theorem eqT(a:Str):bH (.str a) (.str a)=some (.sh (.bl true)):=by
 simp [bH,cf]
theorem ne_eb:("each":Str) ≠ "bands":=by decide +kernel
theorem ne_es:("each":Str) ≠ "steps":=by decide +kernel
theorem ne_eo:("each":Str) ≠ "blocks":=by decide +kernel
theorem ne_en:("each":Str) ≠ "name":=by decide +kernel
theorem ne_ef:("each":Str) ≠ "flat":=by decide +kernel
theorem b8z:("flat":Str) ≠ "each":=by decide +kernel
theorem ne_fb:("flat":Str) ≠ "bands":=by decide +kernel
theorem ne_fs:("flat":Str) ≠ "steps":=by decide +kernel
theorem ne_fo:("flat":Str) ≠ "blocks":=by decide +kernel
theorem ne_fn:("flat":Str) ≠ "name":=by decide +kernel
theorem ne_be:("bands":Str) ≠ "each":=by decide +kernel
theorem ne_bf:("bands":Str) ≠ "flat":=by decide +kernel
theorem ne_bs:("bands":Str) ≠ "steps":=by decide +kernel
theorem ne_bo:("bands":Str) ≠ "blocks":=by decide +kernel
theorem ne_bn:("bands":Str) ≠ "name":=by decide +kernel
theorem ne_se:("steps":Str) ≠ "each":=by decide +kernel
theorem ne_sf:("steps":Str) ≠ "flat":=by decide +kernel
theorem ne_sb:("steps":Str) ≠ "bands":=by decide +kernel
theorem ne_so:("steps":Str) ≠ "blocks":=by decide +kernel
theorem ne_sn:("steps":Str) ≠ "name":=by decide +kernel
theorem ne_oe:("blocks":Str) ≠ "each":=by decide +kernel
theorem b6k:("blocks":Str) ≠ "flat":=by decide +kernel
theorem ne_ob:("blocks":Str) ≠ "bands":=by decide +kernel
theorem ne_os:("blocks":Str) ≠ "steps":=by decide +kernel
theorem ne_on:("blocks":Str) ≠ "name":=by decide +kernel
theorem ne_ne:("name":Str) ≠ "each":=by decide +kernel
theorem ne_nf:("name":Str) ≠ "flat":=by decide +kernel
theorem ne_nb:("name":Str) ≠ "bands":=by decide +kernel
theorem ne_ns:("name":Str) ≠ "steps":=by decide +kernel
theorem ne_no:("name":Str) ≠ "blocks":=by decide +kernel
local macro_rules | `(tactic| walk_at "kd")=>`(tactic| try simp only [eqT,eqF ne_eb,eqF ne_es,eqF ne_eo,eqF ne_en,eqF ne_ef,eqF b8z,eqF ne_fb,eqF ne_fs,eqF ne_fo,eqF ne_fn,eqF ne_be,eqF ne_bf,eqF ne_bs,eqF ne_bo,eqF ne_bn,eqF ne_se,eqF ne_sf,eqF ne_sb,eqF ne_so,eqF ne_sn,eqF ne_oe,eqF b6k,eqF ne_ob,eqF ne_os,eqF ne_on,eqF ne_ne,eqF ne_nf,eqF ne_nb,eqF ne_ns,eqF ne_no])
theorem b6Y(c sc:Int)(hs:1<=sc/\sc<=10^38):∃rs,HH [.int c,.int sc]=some (.ow (rs.map Pr))/\BS rs:=by
 have key:Wo (HH [.int c,.int sc]) λx=>∃rs,x=.ow (rs.map Pr)/\BS rs:=by
  refine uj.mpr ?_
  unfold VL
  obtain ⟨a,ea,a0,a1⟩:=mB c 30 sc (by decide) (by ext hs)
  obtain ⟨b,eb,b0,b1⟩:=mB c 31 3 (by decide) (by decide)
  obtain ⟨m,em,m0,m1⟩:=mB c 32 3 (by decide) (by decide)
  walk_at "v1"
  rw [ea]
  walk_at "v1"
  rw [eb]
  walk_at "v1"
  have hp0:0<=a*b:=D0 a0 b0
  have hp1:a*b<=10^38*2:=DZ (by ext hs a1) (by ext b1) b0 (by decide)
  refine ⟨.inr (.inl (by ext b0 b1)),by walk_at "sc",?_⟩
  generalize a*b=ab at *
  rw [em]
  walk_at "v1"
  refine ⟨by walk_at "sc",?_⟩
  refine Ov _ _ (λk env=>∃x4,∃(rs:List (Int×Int)) (top:Int),env=[.sh (.int c),.sh (.int sc),.ow (rs.map Pr),.sh (.int top),x4]/\rs.length=k/\0<=top/\top<=10^38+k*(10^38+1)/\(∀q∈rs,((0<=q.1/\q.1<=10^40) /\ -(10^40)<=q.2/\q.2<=10^40)/\q.1<top)/\rs.Pairwise λa b=>a.1<b.1) (λk env hk h=>?_) (λenv h=>?_) ⟨_,[],_,rfl,rfl,by lia,by lia,λq hq=>(nomatch hq),DW⟩
  .obtain ⟨x4,rs,top,rfl,hl,t0,t1,hq,hw⟩:=h
   obtain ⟨p,ep,p0,p1⟩:=LH c (33+(0+(k:Int))) (by ext m1 hk)
   obtain ⟨n,en,n0,n1⟩:=mB c (40+(0+(k:Int))) sc (by ext m1 hk) (by ext hs)
   walk_at "v1"
   rw [ep]
   walk_at "v1"
   refine ⟨by rw [eD];ext m1 hk hl,?_⟩
   rw [en]
   walk_at "v1"
   refine ⟨_,rs++[(top,p)],_,by rw [nA];rfl,by simp [hl],by ext t0 n0,by lia,λq gj=>?_,?_⟩
   .rcases nj.mp gj with z | z
    .have:=hq q z;ext n0 this
    .rw [oZ.mp z];dsimp only;lia
   .refine zo.mpr ⟨hw,La _ _,λa ha b hb=>?_⟩
    rw [oZ.mp hb]
    exact (hq a ha).2
  .obtain ⟨x4,rs,top,rfl,hl,t0,t1,hq,hw⟩:=h
   walk_at "vc"
   refine ⟨rs,rfl,?_,by ext m1 hl,λq gj=>(hq q gj).1,hw⟩
   intro z
   rw [z] at hl
   simp at hl
   ext m0 hl
 obtain ⟨x,e,rs,rfl,h⟩:=key
 exact ⟨rs,e,h⟩
theorem b9d(c sc:Int)(hs:1<=sc/\sc<=10^38):∃P:Pl,HG [.int c,.int sc]=some (.sh P.d)/\P.ok:=by
 have key:Wo (HG [.int c,.int sc]) λx=>∃P:Pl,x=.sh P.d/\P.ok:=by
  refine uk.mpr ?_
  unfold VJ
  obtain ⟨t,et,t0,t1⟩:=mB c 1 6 (by decide) (by decide)
  obtain ⟨p,ep,p0,p1⟩:=LH c 2 (by decide)
  obtain ⟨a,ea,a0,a1⟩:=mB c 3 sc (by decide) (by ext hs)
  obtain ⟨b,eb,b0,b1⟩:=mB c 4 2 (by decide) (by decide)
  obtain ⟨u,eu,u0,u1⟩:=mB c 5 sc (by decide) (by ext hs)
  obtain ⟨v,ev,v0,v1⟩:=mB c 6 4 (by decide) (by decide)
  obtain ⟨s,es,s0,s1⟩:=mB c 7 sc (by decide) (by ext hs)
  obtain ⟨m,em,m0,m1⟩:=mB c 8 4 (by decide) (by decide)
  obtain ⟨w,ew,w0,w1⟩:=mB c 9 3 (by decide) (by decide)
  obtain ⟨rs,er,hr⟩:=b6Y c sc hs
  have l0:0<=a*b:=D0 a0 b0
  have l1:a*b<=10^38*1:=DZ (by ext hs a1) (by ext b1) b0 (by decide)
  have h0:0<=u*v:=D0 u0 v0
  have h1:u*v<=10^38*3:=DZ (by ext hs u1) (by ext v1) v0 (by decide)
  have c1:MulC a b:=.inr (.inl (by ext b0 b1))
  have c2:MulC u v:=.inr (.inl (by ext v0 v1))
  have ht:t=0\/t=1\/t=2\/t=3\/t=4\/t=5:=by ext t0 t1
  have hw:w=0\/w=1\/w=2:=by ext w0 w1
  walk_at "v1"
  rw [et]
  walk_at "v1"
  rcases ht with rfl | rfl | rfl | rfl | rfl | rfl
  all_goals
   rw [show iK _ _=some _ from rfl,a0g]
   rw [ep];walk_at "v1"
   rw [ea];walk_at "v1"
   rw [eb];walk_at "v1"
   refine ⟨c1,?_⟩
   rw [eu];walk_at "v1"
   rw [ev];walk_at "v1"
   refine ⟨c2,?_⟩
   generalize a*b=ab at *
   generalize u*v=uv at *
   rw [a1u]
   walk_at "v1"
   walk_at "kd"
   walk_at "v1"
   try (rw [a1u];walk_at "v1";walk_at "kd";walk_at "v1")
   try (rw [a1u];walk_at "v1";walk_at "kd";walk_at "v1")
  .exact ⟨.each p ab (ab+uv),rfl,by simp only [Pl.ok];ext p0 p1 l0 l1 h0 h1⟩
  .exact ⟨.flat p ab (ab+uv),rfl,by simp only [Pl.ok];ext p0 p1 l0 l1 h0 h1⟩
  .rw [er,a0g]
   exact ⟨.bands rs,rfl,hr⟩
  .rw [er,a0g]
   exact ⟨.steps rs,rfl,hr⟩
  .rw [es]
   walk_at "v1"
   rw [em]
   walk_at "v1"
   exact ⟨.blocks (1+s) p (1+m),rfl,by simp only [Pl.ok];ext hs p0 p1 s0 s1 m0 m1⟩
  .rw [ew]
   walk_at "v1"
   rcases hw with rfl | rfl | rfl<;>rw [show iK _ _=some _ from rfl,a0g]
   .exact ⟨.name "p",rfl,.inl rfl⟩
   .exact ⟨.name "qq",rfl,.inr (.inl rfl)⟩
   .exact ⟨.name "ptop",rfl,.inr (.inr rfl)⟩
 obtain ⟨x,e,P,rfl,h⟩:=key
 exact ⟨P,e,h⟩
def rQ(rs:List Row):Prop:=PZ rs/\(rs.length<=3/\Canon rs)/\∀r∈rs,C7 (10^41) r
theorem b6Z(c sc:Int)(hs:1<=sc/\sc<=10^38):∃rs:List Row,HF [.int c,.int sc]=some (.sh (.tup (rs.map Row.d)))/\rQ rs:=by
 have key:Wo (HF [.int c,.int sc]) λx=>∃rs:List Row,x=.sh (.tup (rs.map Row.d))/\rQ rs:=by
  refine um.mpr ?_
  unfold VI
  obtain ⟨a,ea,a0,a1⟩:=mB c 70 (2*sc) (by decide) (by ext hs)
  obtain ⟨m,em,m0,m1⟩:=mB c 71 4 (by decide) (by decide)
  walk_at "v1"
  refine ⟨.inl (by decide),?_⟩
  rw [ea]
  walk_at "v1"
  rw [em]
  walk_at "v1"
  refine ⟨by walk_at "sc",?_⟩
  refine Ov _ _ (λk env=>∃x4 x5 x6,∃(rs:List Row) (lo:Int),env=[.sh (.int c),.sh (.int sc),.ow (rs.map Row.d),.sh (.int lo),x4,x5,x6]/\rs.length=k/\(-(10^38)<=lo/\lo<=10^38+k*(2*10^38+2))/\(∀q∈rs,C7 (10^41) q/\q.2.1+1<lo)/\Canon rs) (λk env hk h=>?_) (λenv h=>?_) ⟨_,_,_,[],_,rfl,rfl,by omega,λq hq=>(nomatch hq),λq hq=>(nomatch hq),trivial⟩
  .obtain ⟨x4,x5,x6,rs,lo,rfl,hl,t0,hq,hw⟩:=h
   obtain ⟨u,eu,u0,u1⟩:=mB c (72+(0+(k:Int))) sc (by ext m1 hk) (by ext hs)
   obtain ⟨v,ev,v0,v1⟩:=mB c (76+(0+(k:Int))) 2 (by ext m1 hk) (by decide)
   obtain ⟨st,est,EH,Qs⟩:=LH c (80+(0+(k:Int))) (by ext m1 hk)
   obtain ⟨p,ep,p0,p1⟩:=LH c (84+(0+(k:Int))) (by ext m1 hk)
   obtain ⟨n,en,n0,n1⟩:=mB c (88+(0+(k:Int))) sc (by ext m1 hk) (by ext hs)
   have h0:0<=u*v:=D0 u0 v0
   have h1:u*v<=10^38*1:=DZ (by ext hs u1) (by ext v1) v0 (by decide)
   have c2:MulC u v:=.inr (.inl (by ext v0 v1))
   have fin:∀(hi s:Int),lo<=hi->hi<=lo+10^38 -> -(10^40)<=s->s<=10^40->(lo=hi->s=0)->∃x4 x5 x6,∃(MC:List Row) (MH:Int),([.sh (.int c),.sh (.int sc),.ow (rs.map Row.d++[.tup [.int lo,.int hi,.int p,.int s]]),.sh (.int (hi+2+n)),.sh (.int (0+(k:Int))),.sh (.int hi),.sh (.int s)]:En)=[.sh (.int c),.sh (.int sc),.ow (MC.map Row.d),.sh (.int MH),x4,x5,x6]/\MC.length=k+1/\(-(10^38)<=MH/\MH<=10^38+((k+1:Nat):Int)*(2*10^38+2))/\(∀q∈MC,C7 (10^41) q/\q.2.1+1<MH)/\Canon MC:=by
    intro hi s z1 z2 z3 z4 z5
    refine ⟨_,_,_,rs++[(lo,hi,p,s)],_,by rw [nA];rfl,by simp [hl],by omega,λq gj=>?_,λq gj=>?_,?_⟩
    .rcases nj.mp gj with z | z
     .exact ⟨(hq q z).1,by have:=(hq q z).2;ext n0 z1 this⟩
     .rw [oZ.mp z];unfold C7;dsimp only;omega
    .rcases nj.mp gj with z | z
     .exact hw.1 q z
     .rw [oZ.mp z];exact ⟨z1,z5⟩
    .refine hw.2.snoc λa ha=>?_
     have:=(hq a (List.mem_of_getLast? ha)).2
     exact ⟨by dsimp only;ext this,λe=>by dsimp only at e;ext this e⟩
   walk_at "v1"
   rw [eu]
   walk_at "v1"
   rw [ev]
   walk_at "v1"
   refine ⟨c2,?_⟩
   generalize u*v=uv at *
   rw [a1u]
   walk_at "v1"
   refine ⟨λcU=>?_,λcU=>?_⟩
   .rw [est]
    walk_at "v1"
    rw [ep]
    walk_at "v1"
    refine ⟨by rw [eD];ext m1 hk hl,?_⟩
    rw [en]
    walk_at "v1"
    exact fin _ _ (by ext cU) (by ext h1) EH Qs (λe=>by ext cU e)
   .rw [ep]
    walk_at "v1"
    refine ⟨by rw [eD];ext m1 hk hl,?_⟩
    rw [en]
    walk_at "v1"
    exact fin _ _ (by ext h0) (by ext cU) (by decide) (by decide) (λ_=>rfl)
  .obtain ⟨x4,x5,x6,rs,lo,rfl,hl,t0,hq,hw⟩:=h
   walk_at "vc"
   exact ⟨rs,rfl,hw.C5,⟨by ext m1 hl,hw⟩,λq gj=>(hq q gj).1⟩
 obtain ⟨x,e,rs,rfl,h⟩:=key
 exact ⟨rs,e,h⟩
theorem T5{ks:List Str}{y:Str}(h:y∉ks):Dc ks y=ks++[y]:=by
 unfold Dc
 rw [if_neg h]
theorem T6{α:Type}{ks:List Str}{xs:List α}{y:Str}{z:α}(h:y∉ks):xX ks xs y z=xs++[z]:=by
 unfold xX
 rw [if_neg h]
noncomputable def Ck:List Str:=["p","qq","ptop"]
noncomputable def Fm(A:List (List Row)):D:=.g0 Ck (A.map λf=>.tup (f.map Row.d))
theorem b62(ns:List Int)(sc:Int)(hs:1<=sc/\sc<=10^38):∃A:List (List Row),HC [.lst true (ns.map D.int),.int sc]=some (.tw Ck (A.map λf=>.tup (f.map Row.d)))/\A.length=3/\∀f∈A,rQ f:=by
 have key:Wo (HC [.lst true (ns.map D.int),.int sc]) λx=>∃A:List (List Row),x=.tw Ck (A.map λf=>.tup (f.map Row.d))/\A.length=3/\∀f∈A,rQ f:=by
  refine qL.mpr ?_
  unfold VQ
  walk_at "o1"
  refine ⟨by decide,?_⟩
  refine Ov _ _ (λk env=>∃x3,∃A:List (List Row),env=[.sh (.lst true (ns.map D.int)),.sh (.int sc),.tw (Ck.take k) (A.map λf=>.tup (f.map Row.d)),x3]/\A.length=k/\∀f∈A,rQ f) (λk env hk h=>?_) (λenv h=>?_) ⟨_,[],rfl,rfl,λf hf=>(nomatch hf)⟩
  .obtain ⟨x3,A,rfl,hl,hA⟩:=h
   obtain ⟨f,ef,hf⟩:=b6Z (ns.getD (1+(0+(k:Int))).toNat 0) sc hs
   rw [b9A]
   rw [b9t (ks:=Ck.take k) (ds:=A.map λf=>.tup (f.map Row.d)) rfl]
   walk_at "o1"
   rw [Kr _ _ (by ext)]
   walk_at "o1"
   rw [ef]
   walk_at "o1"
   have kk:k=0\/k=1\/k=2:=by ext hk
   have last:∀g∈A++[f],rQ g:=λg hg=>by
    rcases nj.mp hg with z | z
    .exact hA g z
    .rw [oZ.mp z];exact hf
   rcases kk with rfl | rfl | rfl
   .rw [show iK _ _=some (D.str "p") from rfl,a0g]
    refine ⟨"p",rfl,by decide,.sh (.int 0),A++[f],?_,by simp [hl],last⟩
    rw [T5 (by decide +kernel),T6 (by decide +kernel),nA]
    rfl
   .rw [show iK _ _=some (D.str "qq") from rfl,a0g]
    refine ⟨"qq",rfl,by decide,.sh (.int 1),A++[f],?_,by simp [hl],last⟩
    rw [T5 (by decide +kernel),T6 (by decide +kernel),nA]
    rfl
   .rw [show iK _ _=some (D.str "ptop") from rfl,a0g]
    refine ⟨"ptop",rfl,by decide,.sh (.int 2),A++[f],?_,by simp [hl],last⟩
    rw [T5 (by decide +kernel),T6 (by decide +kernel),nA]
    rfl
  .obtain ⟨x3,A,rfl,hl,hA⟩:=h
   walk_at "o1"
   exact ⟨A,rfl,hl,hA⟩
 obtain ⟨x,e,A,rfl,h⟩:=key
 exact ⟨A,e,h⟩
theorem b8D(P:Pl)(a b:D):jV "cost" 3 Hr P.o [a,b]=qI [P.o,a,b]:=by cases P<;>kernel_rfl
theorem b6n(P:Pl):jV "names" 1 F7 P.o []=pS [P.o]:=by cases P<;>kernel_rfl
theorem b6m(P:Pl):jV "parts" 1 Dp P.o []=AY [P.o]:=by cases P<;>kernel_rfl
theorem Jr(P:Pl):Cp LN P.o=some (.sh (.bl true)):=by cases P<;>kernel_rfl
theorem b6l(rs:List (Int×Int))(hl:rs.length<=3):Wo (lQ (jh (eV 1)) [] 2 (gT 2 (zA (gN 0) (zA (gN 1) F1))) xY (iN (ag (eV 0) (ag (eV 1) af))) [.no,.sh (.lst false (rs.map Pr))]) λr=>r=.ow (rs.map Pr):=by
 walk_at "v1"
 refine ⟨by rw [eD];ext hl,_,DL.comp_map Pr Pr (λe=>e.length=2) rs (λa ha e he=>?_) rfl,rfl⟩
 obtain ⟨y0,y1,rfl⟩:∃y0 y1,e=[y0,y1]:=by
  match e,he with
  | [a,b],_=>exact ⟨a,b,rfl⟩
 unfold Pr
 walk_at "v1"
noncomputable def F3(A:List (List Row))(n:Str):List Row:=(nC Ck A n).getD []
noncomputable def Dd(rs:List (Int×Int))(x:Int):Int:=match rs with
 | []=>0
 | q::rs=>if x<=q.1 then q.2 else Dd rs x
noncomputable def AW(x:Int):Int->List (Int×Int)->Int
 | _,[]=>0
 | a,q::rs=>q.2*(min x q.1-min x a)+AW x q.1 rs
noncomputable def nD:List (Int×Int)->Int
 | []=>0
 | [q]=>q.1
 | _::rs=>nD rs
noncomputable def Pl.due(A:List (List Row))(x:Int):Pl->Option Int
 | .each p lo hi=>if lo<=x/\x<=hi then some (p*x) else none
 | .flat p lo hi=>if lo<=x/\x<=hi then some p else none
 | .bands rs=>if 0<=x/\x<=nD rs then some (x*Dd rs x) else none
 | .steps rs=>if 0<=x/\x<=nD rs then some (AW x 0 rs) else none
 | .blocks s p m=>if 0<=x/\x<=s*m then some (p*((x+s-1)/s)) else none
 | .name n=>look (F3 A n) x
theorem ZR{A:List (List Row)}{x:Int}{rs:List (Int×Int)}(h:¬(0<=x/\x<=nD rs)):Pl.due A x (.bands rs)=none:=by
 unfold Pl.due;exact if_neg h
theorem a8w{A:List (List Row)}{x:Int}{rs:List (Int×Int)}(h:0<=x/\x<=nD rs):Pl.due A x (.bands rs)=some (x*Dd rs x):=by
 unfold Pl.due;exact if_pos h
theorem ZS{A:List (List Row)}{x:Int}{rs:List (Int×Int)}(h:¬(0<=x/\x<=nD rs)):Pl.due A x (.steps rs)=none:=by
 unfold Pl.due;exact if_neg h
theorem a8v{A:List (List Row)}{x:Int}{rs:List (Int×Int)}(h:0<=x/\x<=nD rs):Pl.due A x (.steps rs)=some (AW x 0 rs):=by
 unfold Pl.due;exact if_pos h
theorem IH{rs:List (Int×Int)}(h:BS rs):(∃a,rs=[a])\/(∃a b,rs=[a,b])\/∃a b c,rs=[a,b,c]:=by
 obtain ⟨h0,h1,_⟩:=h
 match rs,h0,h1 with
 | [],h0,_=>exact (h0 rfl).elim
 | [a],_,_=>exact .inl ⟨a,rfl⟩
 | [a,b],_,_=>exact .inr (.inl ⟨a,b,rfl⟩)
 | [a,b,c],_,_=>exact .inr (.inr ⟨a,b,c,rfl⟩)
 | a::b::c::d::rs,_,h=>exact absurd h (by simp)
theorem L5{A:List (List Row)}(hA:A.length=3){n:Str}(hn:n = "p" \/ n = "qq" \/ n = "ptop"):nC Ck (A.map λf=>D.tup (f.map Row.d)) n=some (.tup ((F3 A n).map Row.d))/\F3 A n∈A:=by
 match A,hA with
 | [a,b,c],_ =>
  rcases hn with rfl | rfl | rfl
  .exact ⟨by kernel_rfl,.head _⟩
  .exact ⟨by kernel_rfl,.tail _ (.head _)⟩
  .exact ⟨by kernel_rfl,.tail _ (.tail _ (.head _))⟩
theorem a82(x:Int):∀rs:List Row,look rs x=((rs.filter λr=>decide (r.1<=x/\x<=r.2.1)).head?).map λr=>r.at x
 | []=>rfl
 | r::rs=>by
  rw [look]
  by_cases h:r.1<=x/\x<=r.2.1
  .rw [if_pos h,TJ (by simpa using h)];rfl
  .rw [if_neg h,TH (by simpa using h),a82 x rs]
theorem WE{α:Type}{o:Option α}{Q:α->Prop}{a:α}(h:o=some a)(q:Q a):Wo o Q:=⟨a,h,q⟩
theorem eR{c:En->Option Bool}{F G:SF}{env:En}{Q:Fl×En->Prop}(h:c env=some false)(g:Wo (G env) Q):Wo (au (dg c F dO) G env) Q:=by
 rw [a2f,a1u,h,a0g]
 exact ⟨λz=>(nomatch z),λ_=>by rw [b9x];exact g⟩
theorem rP{c:En->Option Bool}{f:En->Option Sl}{G:SF}{env:En}{Q:Sl->Prop}(h:c env=some true)(g:Wo (f env) Q):Wo (au (dg c (aH f) dO) G env) (b7 Q):=by
 rw [a2f,a1u,h,a0g]
 exact ⟨λ_=>by rw [Wo_ret];exact g,λz=>(nomatch z)⟩
theorem nV{i:Nat}{k:Str}{ds:List D}{G:SF}{env:En}{Q:Fl×En->Prop}(h0:env[0]?=some (.sh (.tup (.str k::ds))))(hi:i<env.length)(g:Wo (G (env.set i (.sh (.str k)))) Q):Wo (au (eQ i (bg (bV 0) (eC (.int 0)))) G env) Q:=by
 rw [a2f,a5V,b5t]
 have h1:L2.iK (D.str k::ds) 0=some (.str k):=by simp [L2.iK,rh]
 have h2:bV 0 env=some (false,.str k::ds):=by unfold bV;rw [h0];rfl
 exact ⟨_,h2,_,rfl,_,h1,hi,g⟩
theorem uc{c:En->Option Bool}{F G:SF}{env:En}{Q:Fl×En->Prop}(h:c env=some true)(g:Wo (F env) (wm G Q)):Wo (au (dg c F dO) G env) Q:=by
 rw [a2f,a1u,h,a0g]
 exact ⟨λ_=>g,λz=>(nomatch z)⟩
theorem Zp:∀{rs:List (Int×Int)},rs≠[]->∃u,iK (rs.map Pr) (-1)=some (.tup [.int (nD rs),.int u]):=λ{rs} h=>by
 have key:∀rs:List (Int×Int),rs≠[]->∃us u,rs=us++[(nD rs,u)]:=λrs=>by
  induction rs with
  | nil=>exact λz=>(z rfl).elim
  | cons q rs ih =>
   intro _
   cases rs with
   | nil=>exact ⟨[],q.2,rfl⟩
   | cons q' rs =>
    obtain ⟨us,u,e⟩:=ih (by simp)
    exact ⟨q::us,u,congrArg (q::·) e⟩
 obtain ⟨us,u,e⟩:=key rs h
 refine ⟨u,?_⟩
 generalize nD rs=z at *
 rw [e,nA]
 exact b4K
theorem a9l{x:Int}:∀{rs:List (Int×Int)},rs≠[]->x<=nD rs->∃us,(rs.filter λq=>decide (x<=q.1)).map (λq=>D.int q.2)=.int (Dd rs x)::us/\∃q∈rs,Dd rs x=q.2:=λ{rs}=>by
 induction rs with
 | nil=>exact λz=>(z rfl).elim
 | cons q rs ih =>
  intro _ hl
  by_cases hq:x<=q.1
  .rw [TJ (by simpa using hq)]
   exact ⟨_,by rw [jJ,Dd,if_pos hq],q,jL,by rw [Dd,if_pos hq]⟩
  .rw [TH (by simpa using hq),Dd,if_neg hq]
   cases rs with
   | nil=>exact (hq hl).elim
   | cons q' rs =>
    obtain ⟨us,e,q2,h1,h2⟩:=ih (by simp) hl
    exact ⟨us,e,q2,jU _ h1,h2⟩
theorem b32{rs:List (Int×Int)}(h:BS rs){x:Int}(hx:0<=x/\x<=nD rs){p:Sl}:Wo (aa dy (eV 1) (bg (iP (lQ (jh (bg (bV 0) (eC (.int 1)))) [1] 1 (gN 0) (bS (aa ql (eV 1) (bg (bV 0) (eC (.int 0))))) (bg (bV 0) (eC (.int 1))))) (eC (.int 0))) [.sh (Pl.bands rs).d,.sh (.int x),p,.sh (.str "bands"),.no,.no]) λr=>r=.sh (.int (x*Dd rs x)):=by
 obtain ⟨us,e,q,hq,e2⟩:=a9l h.1 hx.2
 have hb:=h.2.2.1 q hq
 have hl:=h.2.1
 have ht:∃q∈rs,nD rs=q.1:=by
  have:∀rs:List (Int×Int),rs≠[]->∃q∈rs,nD rs=q.1:=λrs=>by
   induction rs with
   | nil=>exact λz=>(z rfl).elim
   | cons q rs ih =>
    intro _
    cases rs with
    | nil=>exact ⟨q,jL,rfl⟩
    | cons q' rs =>
     obtain ⟨q2,h1,h2⟩:=ih (by simp)
     exact ⟨q2,jU _ h1,h2⟩
  exact this rs h.1
 obtain ⟨q3,h3,e3⟩:=ht
 have Rv:=h.2.2.1 q3 h3
 unfold Pl.d
 walk_at "o1"
 refine ⟨by rw [eD];ext hl,_,DL.jk Pr (λq=>decide (x<=q.1)) (λq=>D.int q.2) (λe=>∃y,e=[y,.sh (.int x)]) rs (λq hq e he=>?_) ⟨_,rfl⟩,?_⟩
 .obtain ⟨y,rfl⟩:=he
  unfold Pr
  walk_at "o1"
  exact ⟨_,rfl⟩
 .rw [e]
  walk_at "o1"
  exact AX (by ext hx) (by ext hx e3 Rv) (by ext e2 hb) (by ext e2 hb)
theorem Zh(x:Int):∀(rs:List (Int×Int)) (a:Int),((pO rs.length).map λj=>(rs.getD j (0,0)).2*(min x ((a::rs.map (·.1)).getD (j+1) 0)-min x ((a::rs.map (·.1)).getD j 0))).sum=AW x a rs
 | [],_=>rfl
 | q::rs,a=>by
  rw [jK,List.range_succ_eq_map,jJ,List.sum_cons,BI,AW,<-Zh x rs q.1]
  rfl
theorem getD_mem{α:Type}{l:List α}{j:Nat}{d:α}(h:j<l.length):l.getD j d∈l:=by
 rw [NJ,mz h]
 exact AJ h
theorem b31{rs:List (Int×Int)}(h:BS rs){x:Int}(hx:-(10^43)<=x/\x<=10^43){p:Sl}:Wo (au (eQ 4 (aa cc (cJ (ag (eC (.int 0)) af)) (lQ (jh (bg (bV 0) (eC (.int 1)))) [] 1 (gN 0) xY (bg (bV 0) (eC (.int 0))))))
 (aH (w6 (iP (lQ (w5 Lm (ag (ji (iP (bg (bV 0) (eC (.int 1))))) af)) [0,1,4] 1 (gN 0) xY (aa dy (bg (iP (bg (iP (bg (bV 1) (eC (.int 1)))) (eV 0))) (eC (.int 1))) (aa jf (zy C8 (ag (eV 2) (ag (bg (bV 3) (aa cc (eV 0) (eC (.int 1)))) af))) (zy C8 (ag (eV 2) (ag (bg (bV 3) (eV 0)) af))))))))) [.sh (Pl.steps rs).d,.sh (.int x),p,.sh (.str "steps"),.no,.no]) (b7 λr=>r=.sh (.int (AW x 0 rs))):=by
 have hq:=h.2.2.1
 have hl:=h.2.1
 have ht:∀j,j<rs.length+1->0<=((0:Int)::rs.map (·.1)).getD j 0/\((0:Int)::rs.map (·.1)).getD j 0<=10^40:=λj hj=>by
  have:=getD_mem (l:=(0:Int)::rs.map (·.1)) (j:=j) (d:=0) (by simpa using hj)
  rcases fB.mp this with e | e
  .rw [e];decide
  .obtain ⟨q,h1,h2⟩:=t6.mp e
   rw [<-h2]
   exact (hq q h1).1
 unfold Pl.d
 rw [a2f,a5V,b3r]
 walk_at "o1"
 refine ⟨by rw [eD];ext hl,_,DL.comp_map Pr (λq=>D.int q.1) (λe=>∃y,e=[y]) rs (λq hq e he=>?_) ⟨_,rfl⟩,?_⟩
 .obtain ⟨y,rfl⟩:=he
  unfold Pr
  walk_at "o1"
  exact ⟨_,rfl⟩
 .walk_at "o1"
  refine ⟨by rw [eD];ext hl,by unfold iL;simp;ext hl,?_⟩
  rw [show iL 0 (↑(CQ Pr rs).length:Int).toNat=(pO rs.length).map (λk:Nat=>D.int (0+(k:Int))) by unfold iL;simp]
  refine ⟨_,DL.comp_map (λk:Nat=>D.int (0+(k:Int))) (λj=>.int ((rs.getD j (0,0)).2*(min x (((0:Int)::rs.map (·.1)).getD (j+1) 0)-min x (((0:Int)::rs.map (·.1)).getD j 0)))) (λe=>∃y,e=[y,.sh (.tup [.str "steps",.lst false (rs.map Pr)]),.sh (.int x),.sh (.lst false (D.int 0::rs.map λq=>D.int q.1))]) (pO rs.length) (λj hj e he=>?_) ⟨_,rfl⟩,?_⟩
  .obtain ⟨y,rfl⟩:=he
   have hj:=KJ.mp hj
   have t1:=ht (j+1) (by ext hj)
   have t2:=ht j (by ext hj)
   have t3:=hq _ (getD_mem (d:=(0,0)) hj)
   walk_at "o1"
   rw [Eg (f:=Pr) (0,0) (by ext) (by ext hj),show (D.int 0::rs.map λq=>D.int q.1)=((0:Int)::rs.map (·.1)).map D.int by simp,show (0+(j:Int)).toNat=j by ext,a0g]
   unfold Pr
   walk_at "o1"
   rw [Eg 0 (by ext) (by simp;ext hj),Eg 0 (by ext) (by simp;ext hj),show (0+(j:Int)+1).toNat=j+1 by ext,show (0+(j:Int)).toNat=j by ext]
   walk_at "o1"
   exact ⟨⟨_,rfl⟩,AX (by ext t3) (by ext t3) (by ext t1 t2) (by ext t1 t2)⟩
  .rw [show ((pO rs.length).map λj=>D.int ((rs.getD j (0,0)).2*(min x (((0:Int)::rs.map (·.1)).getD (j+1) 0)-min x (((0:Int)::rs.map (·.1)).getD j 0))))=((pO rs.length).map λj=>(rs.getD j (0,0)).2*(min x (((0:Int)::rs.map (·.1)).getD (j+1) 0)-min x (((0:Int)::rs.map (·.1)).getD j 0))).map D.int by rw [BI];rfl]
   walk_at "o1"
   rw [Zh]
theorem b60{A:List (List Row)}(hA:A.length=3)(hF:∀f∈A,rQ f)(P:Pl)(hP:P.ok){x:Int}(hx:-(10^43)<=x/\x<=10^43):Mf [P.d,.int x,Fm A]=some (.sh (dz (P.due A x))):=by
 refine Wo.eq (mh.mpr ?_)
 unfold Wp
 cases P with
 | each p lo hi =>
  simp only [Pl.ok] at hP
  refine nV rfl (by show 3<6;decide) (eR (by kernel_rfl) (uc (by kernel_rfl) ?_))
  dsimp only [rF,Pl.d]
  walk_at "o1"
  rw [a1u]
  walk_at "o1"
  refine ⟨λh=>?_,λh=>⟨λh2=>?_,λh2=>?_⟩⟩
  .simp only [Pl.due];rw [if_neg (by ext h)];rfl
  .simp only [Pl.due];rw [if_neg (by ext h2)];rfl
  .rw [eqT]
   walk_at "o1"
   rw [if_pos trivial]
   walk_at "o1"
   refine ⟨AX (by ext hP) (by ext hP) (by ext hx) (by ext hx),?_⟩
   simp only [Pl.due];rw [if_pos (by ext h h2)];rfl
 | flat p lo hi =>
  simp only [Pl.ok] at hP
  refine nV rfl (by show 3<6;decide) (eR (by kernel_rfl) (uc (by kernel_rfl) ?_))
  dsimp only [rF,Pl.d]
  walk_at "o1"
  rw [a1u]
  walk_at "o1"
  refine ⟨λh=>?_,λh=>⟨λh2=>?_,λh2=>?_⟩⟩
  .simp only [Pl.due];rw [if_neg (by ext h)];rfl
  .simp only [Pl.due];rw [if_neg (by ext h2)];rfl
  .rw [eqF b8z]
   walk_at "o1"
   rw [if_neg (by simp)]
   walk_at "o1"
   refine ⟨.inr (.inl (by decide)),?_⟩
   simp only [Pl.due];rw [if_pos (by ext h h2),Sh];rfl
 | blocks s p m =>
  simp only [Pl.ok] at hP
  refine nV rfl (by show 3<6;decide) (eR (by kernel_rfl) (eR (by kernel_rfl) (uc (by kernel_rfl) ?_)))
  dsimp only [rF,Pl.d]
  walk_at "o1"
  rw [a1u]
  walk_at "o1"
  refine ⟨λh=>?_,λh=>⟨.inr (.inl (by ext hP)),λh2=>?_,λh2=>⟨UJ (by ext hP) (by ext hP),?_,?_⟩⟩⟩
  .simp only [Pl.due];rw [if_neg (by ext h)];rfl
  .simp only [Pl.due];rw [if_neg (by ext h2)];rfl
  .have q0:0<=(x+s-1)/s:=Int.ediv_nonneg (by ext hP h) (by ext hP)
   have q1:(x+s-1)/s<=x+s-1:=Int.ediv_le_self _ (by ext hP h)
   exact AX (by ext hP) (by ext hP) (by ext q0) (by ext hx hP q1)
  .simp only [Pl.due];rw [if_pos (by ext h h2)];rfl
 | name n =>
  obtain ⟨e1,e2⟩:=L5 hA hP
  obtain ⟨MS,Rr,GB⟩:=hF _ e2
  refine nV rfl (by show 3<6;decide) (uc (by kernel_rfl) ?_)
  dsimp only [rF,Pl.d,Fm]
  walk_at "o1"
  rw [Uc]
  walk_at "o1"
  refine ⟨n,rfl,?_⟩
  rw [e1]
  walk_at "o1"
  refine ⟨by rw [eD];omega,_,DL.jk Row.d (λr=>decide (r.1<=x/\x<=r.2.1)) Row.d (λe=>∃y,e=[y,.sh (.int x)]) _ (λr hr e he=>?_) ⟨_,rfl⟩,?_⟩
  .obtain ⟨y,rfl⟩:=he
   rw [FY r]
   walk_at "o1"
   refine ⟨⟨_,rfl⟩,λh1=>?_,λh1=>?_⟩
   .by_cases h2:x<=r.2.1<;>simp [h1,h2]
   .simp [h1]
  .simp only [Pl.due]
   rw [a82,a1u]
   cases JU:(F3 A n).filter λr=>decide (r.1<=x/\x<=r.2.1) with
   | nil =>
    walk_at "o1"
    exact ⟨λ_=>rfl,λh=>(h rfl).elim⟩
   | cons r rest =>
    have hr:r∈F3 A n:=(Nj.mp (by rw [JU];exact jL)).1
    have Xb:=(Nj.mp (show r∈(F3 A n).filter λr=>decide (r.1<=x/\x<=r.2.1) by rw [JU];exact jL)).2
    have hb:=GB r hr
    unfold C7 at hb
    simp only [decide_eq_true_eq] at Xb
    rw [jJ,FY r]
    walk_at "o1"
    exact ⟨λh=>by ext _ h,λ_=>⟨AX (by ext hb) (by ext hb) (by ext Xb) (by ext hx hb),rfl⟩⟩
 | bands rs =>
  obtain ⟨u,eu⟩:=Zp hP.1
  refine nV rfl (by show 3<6;decide) (eR (by kernel_rfl) (eR (by kernel_rfl) (eR (by kernel_rfl) ?_)))
  rw [a2f,a1u]
  dsimp only [rF,Pl.d]
  walk_at "o1"
  rw [eu]
  walk_at "o1"
  have hd:∀h:¬(0<=x/\x<=nD rs),Pl.due A x (.bands rs)=none:=λh=>ZR h
  refine ⟨λh=>by rw [hd (by ext h)];rfl,λh=>⟨λh2=>by rw [hd (by ext h2)];rfl,λh2=>?_⟩⟩
  rw [a8w (by ext h h2),<-a2f]
  exact rP (by kernel_rfl) (b32 hP (by ext h h2))
 | steps rs =>
  obtain ⟨u,eu⟩:=Zp hP.1
  refine nV rfl (by show 3<6;decide) (eR (by kernel_rfl) (eR (by kernel_rfl) (eR (by kernel_rfl) ?_)))
  rw [a2f,a1u]
  dsimp only [rF,Pl.d]
  walk_at "o1"
  rw [eu]
  walk_at "o1"
  have hd:∀h:¬(0<=x/\x<=nD rs),Pl.due A x (.steps rs)=none:=λh=>ZS h
  refine ⟨λh=>by rw [hd (by ext h)];rfl,λh=>⟨λh2=>by rw [hd (by ext h2)];rfl,λh2=>?_⟩⟩
  rw [a8v (by ext h h2),<-a2f]
  exact eR (by kernel_rfl) (b31 hP hx)
theorem b6X(P:Pl):AY [P.o]=some (.ow []):=by
 refine Wo.eq (pj.mpr ?_)
 unfold VN
 walk_at "v1"
theorem Ls{kp:aP}(P:Pl):oe kp [P.o]=some (.ow []):=by
 refine Wo.eq (eS.mpr ?_)
 unfold Md
 walk_at "o1"
 rw [b6m,b6X]
 walk_at "o1"
theorem b9b{kp:aP}(n:Str):HS kp [(Pl.name n).o]=some (.ow [.str n]):=by
 refine Wo.eq (kG.mpr ?_)
 unfold Wb
 walk_at "o1"
 rw [show gS Hl "name" (Pl.name n).o=some (.str n) from by kernel_rfl]
 walk_at "o1"
noncomputable def Pl.ns:Pl->List Str
 | .name n=>[n]
 | _=>[]
theorem Ks{m:Nat}(P:Pl):jV "all_names" 1 (qJ (m+1)) P.o []=some (.ow (P.ns.map D.str)):=by
 cases P with
 | name n=>exact rE (by kernel_rfl) (b9b (kp:=qJ m) n)
 | each a b c=>exact rE (by kernel_rfl) (Ls (kp:=qJ m) (.each a b c))
 | flat a b c=>exact rE (by kernel_rfl) (Ls (kp:=qJ m) (.flat a b c))
 | blocks a b c=>exact rE (by kernel_rfl) (Ls (kp:=qJ m) (.blocks a b c))
 | bands a=>exact rE (by kernel_rfl) (Ls (kp:=qJ m) (.bands a))
 | steps a=>exact rE (by kernel_rfl) (Ls (kp:=qJ m) (.steps a))
theorem RP{x s:Int}(hs:0<s)(hl:s<=10^200):LC [.int x,.int s]=some (.sh (.int ((x+s-1)/s))):=by
 refine Wo.eq (Wt.mpr ?_)
 unfold Gi
 walk_at "v1"
 refine ⟨UJ hs (by ext hl),?_⟩
 have e:-(-x/s)=(x+s-1)/s:=by
  have h1:=Int.mul_ediv_add_emod (-x) s
  have h2:=GS (-x) (show s≠0 by ext hs)
  have h3:=G0 (-x) hs
  have h5:(x+s-1)/s = -(-x/s):=by
   have z2:-(-x/s)*s = -(s*(-x/s)):=by rw [Int.neg_mul,Int.mul_comm]
   refine Int.ediv_eq_iff_of_pos hs |>.mpr ⟨?_,?_⟩
   .rw [z2]
    generalize s*(-x/s)=t at *
    ext h3 h1
   .rw [z2]
    generalize s*(-x/s)=t at *
    ext h2 h1
  exact h5.symm
 rw [e]
theorem b2J{kp:aP}{A:List (List Row)}{p lo hi x:Int}(hP:(Pl.each p lo hi).ok)(hx:-(10^43)<=x/\x<=10^43):HP kp [(Pl.each p lo hi).o,.int x,Fm A]=some (.sh (dz ((Pl.each p lo hi).due A x))):=by
 refine Wo.eq (lH.mpr ?_)
 simp only [Pl.ok] at hP
 unfold Wi
 walk_at "o1"
 rw [show gS D9 "low" (Pl.each p lo hi).o=some (.int lo) from by kernel_rfl,show gS Ec "high" (Pl.each p lo hi).o=some (.int hi) from by kernel_rfl,show gS Oj "unit" (Pl.each p lo hi).o=some (.int p) from by kernel_rfl]
 walk_at "o1"
 refine ⟨λh=>⟨λh2=>⟨AX (by ext hP) (by ext hP) (by ext hx) (by ext hx),?_⟩,λh2=>?_⟩,λh=>?_⟩
 .simp only [Pl.due];rw [if_pos (by ext h h2)];rfl
 .simp only [Pl.due];rw [if_neg (by ext h2)];rfl
 .simp only [Pl.due];rw [if_neg (by ext h)];rfl
theorem b2I{kp:aP}{A:List (List Row)}{p lo hi x:Int}(hP:(Pl.flat p lo hi).ok)(hx:-(10^43)<=x/\x<=10^43):HQ kp [(Pl.flat p lo hi).o,.int x,Fm A]=some (.sh (dz ((Pl.flat p lo hi).due A x))):=by
 refine Wo.eq (lG.mpr ?_)
 simp only [Pl.ok] at hP
 unfold Wj
 walk_at "o1"
 rw [show gS D9 "low" (Pl.flat p lo hi).o=some (.int lo) from by kernel_rfl,show gS Ec "high" (Pl.flat p lo hi).o=some (.int hi) from by kernel_rfl,show gS Eh "price" (Pl.flat p lo hi).o=some (.int p) from by kernel_rfl]
 walk_at "o1"
 refine ⟨λh=>⟨λh2=>?_,λh2=>?_⟩,λh=>?_⟩
 .simp only [Pl.due];rw [if_pos (by ext h h2)];rfl
 .simp only [Pl.due];rw [if_neg (by ext h2)];rfl
 .simp only [Pl.due];rw [if_neg (by ext h)];rfl
theorem a95{kp:aP}{A:List (List Row)}{s p m x:Int}(hP:(Pl.blocks s p m).ok)(hx:-(10^43)<=x/\x<=10^43):HN kp [(Pl.blocks s p m).o,.int x,Fm A]=some (.sh (dz ((Pl.blocks s p m).due A x))):=by
 refine Wo.eq (jR.mpr ?_)
 simp only [Pl.ok] at hP
 unfold We
 walk_at "o1"
 rw [show gS LG "size" (Pl.blocks s p m).o=some (.int s) from by kernel_rfl,show gS Oi "many" (Pl.blocks s p m).o=some (.int m) from by kernel_rfl,show gS Eh "price" (Pl.blocks s p m).o=some (.int p) from by kernel_rfl]
 walk_at "o1"
 refine ⟨λh=>⟨.inr (.inl (by ext hP)),λh2=>?_,λh2=>?_⟩,λh=>?_⟩
 .rw [RP (by ext hP) (by ext hP)]
  walk_at "o1"
  have q0:0<=(x+s-1)/s:=Int.ediv_nonneg (by ext hP h) (by ext hP)
  have q1:(x+s-1)/s<=x+s-1:=Int.ediv_le_self _ (by ext hP h)
  refine ⟨AX (by ext hP) (by ext hP) (by ext q0) (by ext hP hx q1),?_⟩
  simp only [Pl.due];rw [if_pos (by ext h h2)];rfl
 .simp only [Pl.due];rw [if_neg (by ext h2)];rfl
 .simp only [Pl.due];rw [if_neg (by ext h)];rfl
theorem b2H{kp:aP}{A:List (List Row)}(hA:A.length=3)(hF:∀f∈A,rQ f){n:Str}{x:Int}(hP:(Pl.name n).ok)(hx:-(10^43)<=x/\x<=10^43):HK kp [(Pl.name n).o,.int x,Fm A]=some (.sh (dz ((Pl.name n).due A x))):=by
 refine Wo.eq (kF.mpr ?_)
 obtain ⟨e1,e2⟩:=L5 hA hP
 obtain ⟨MS,Rr,GB⟩:=hF _ e2
 unfold Wc Fm
 walk_at "o1"
 rw [Uc]
 walk_at "o1"
 rw [show gS Hl "name" (Pl.name n).o=some (.str n) from by kernel_rfl]
 walk_at "o1"
 refine ⟨n,rfl,?_⟩
 rw [e1]
 walk_at "o1"
 rw [b4x MS (by omega) (λr hr=>?_) (by ext hx)]
 .walk_at "o1"
  rfl
 .have:=GB r hr
  unfold C7 at this ⊢
  ext this
theorem vi{rs:List (Int×Int)}(h:BS rs){c:Str}{x:Int}(hf:gS Ed "rows" (.obj c ["rows"] [.lst false (rs.map Pr)])=some (.lst false (rs.map Pr))):cG [.obj c ["rows"] [.lst false (rs.map Pr)],.int x]=some (.sh (.bl (decide (0<=x/\x<=nD rs)))):=by
 refine Wo.eq (pq.mpr ?_)
 unfold iH
 walk_at "o1"
 rw [b7K]
 walk_at "o1"
 rw [hf]
 walk_at "o1"
 have b0:iK (rs.map Pr) (-1)=some (.tup [.int (nD rs),.int (rs.getLastD (0,0)).2]):=by
  rcases IH h with ⟨⟨a1,a2⟩,rfl⟩ | ⟨⟨a1,a2⟩,⟨b1,b2⟩,rfl⟩ | ⟨⟨a1,a2⟩,⟨b1,b2⟩,⟨c1,c2⟩,rfl⟩<;>rfl
 rw [b0]
 walk_at "o1"
 exact ⟨λh=>by simp [h],λh=>by simp [h]⟩
theorem YJ(rs:List (Int×Int)):gS Ed "rows" (Pl.bands rs).o=some (.lst false (rs.map Pr)):=by kernel_rfl
theorem YC(rs:List (Int×Int)):gS Ed "rows" (Pl.steps rs).o=some (.lst false (rs.map Pr)):=by kernel_rfl
theorem b1t{kp:aP}{A:List (List Row)}{rs:List (Int×Int)}{x:Int}(hP:BS rs)(hx:-(10^43)<=x/\x<=10^43):HR kp [(Pl.bands rs).o,.int x,Fm A]=some (.sh (dz ((Pl.bands rs).due A x))):=by
 refine Wo.eq (kH.mpr ?_)
 have hh:jV "holds" 2 fM (Pl.bands rs).o [.int x]=some (.sh (.bl (decide (0<=x/\x<=nD rs)))):=rE (by kernel_rfl) (vi (c:="Bands") hP (YJ rs))
 unfold Wa
 walk_at "o1"
 rw [a1u]
 walk_at "o1"
 rw [hh]
 walk_at "o1"
 refine ⟨λhd=>?_,λhd=>?_⟩
 .rw [ZR hd];rfl
 .have yR:0<=x/\x<=nD rs:=by simpa using hd
  obtain ⟨us,e,q,hq,e2⟩:=a9l hP.1 yR.2
  have hb:=hP.2.2.1 q hq
  have hl:=hP.2.1
  rw [a8w yR,YJ]
  walk_at "o1"
  refine ⟨by rw [eD];ext hl,_,DL.jk Pr (λq=>decide (x<=q.1)) (λq=>D.int q.2) (λe=>∃y z,e=[y,z,.sh (.int x)]) rs (λq hq e he=>?_) ⟨_,_,rfl⟩,?_⟩
  .obtain ⟨y,z,rfl⟩:=he
   unfold Pr
   walk_at "o1"
   exact ⟨_,_,rfl⟩
  .rw [e]
   walk_at "o1"
   exact ⟨AX (by ext hd) (by ext hx) (by ext e2 hb) (by ext e2 hb),rfl⟩
noncomputable def D6:Int->List (Int×Int)->Int
 | a,[]=>a
 | _,q::rs=>D6 q.1 rs
theorem ZL(x:Int)(q:Int×Int):∀(rs:List (Int×Int)) (a:Int),AW x a (rs++[q])=AW x a rs+q.2*(min x q.1-min x (D6 a rs))
 | [],a=>by
  show q.2*(min x q.1-min x a)+0=0+_
  rw [Int.add_zero,Int.zero_add]
  rfl
 | r::rs,a=>by
  show _+AW x r.1 (rs++[q])=_+AW x r.1 rs+_
  rw [ZL x q rs r.1,Int.add_assoc]
  rfl
theorem ZZ(q:Int×Int):∀(rs:List (Int×Int)) (a:Int),D6 a (rs++[q])=q.1
 | [],_=>rfl
 | _::rs,_=>ZZ q rs _
theorem b7X{q:Int×Int}:∀{rs:List (Int×Int)} {a:Int},0<=a->a<=q.1->(∀r∈rs,0<=r.1/\r.1<=q.1)->0<=D6 a rs/\D6 a rs<=q.1:=λ{rs}=>by
 induction rs with
 | nil=>exact λh0 h1 _=>⟨h0,h1⟩
 | cons r rs ih=>exact λ_ _ h=>ih (a:=r.1) (h r jL).1 (h r jL).2 λz hz=>h z (jU _ hz)
theorem b1s{kp:aP}{A:List (List Row)}{rs:List (Int×Int)}{x:Int}(hP:BS rs)(hx:-(10^43)<=x/\x<=10^43):HL kp [(Pl.steps rs).o,.int x,Fm A]=some (.sh (dz ((Pl.steps rs).due A x))):=by
 refine Wo.eq (kE.mpr ?_)
 have hh:jV "holds" 2 fM (Pl.steps rs).o [.int x]=some (.sh (.bl (decide (0<=x/\x<=nD rs)))):=rE (by kernel_rfl) (vi (c:="Steps") hP (YC rs))
 unfold Wd
 walk_at "o1"
 rw [a1u]
 walk_at "o1"
 rw [hh]
 walk_at "o1"
 refine ⟨λhd=>?_,λhd=>?_⟩
 .rw [ZS hd];rfl
 .rw [a8v (by simpa using hd),YC]
  walk_at "o1"
  refine Ef Pr (λpre env=>∃x5 x6,env=[.sh (Pl.steps rs).o,.sh (.int x),.sh (Fm A),.sh (.int (AW x 0 pre)),.sh (.int (D6 0 pre)),x5,x6]) rs (λpre q post env e h=>?_) (λenv h=>?_) ⟨_,_,rfl⟩
  .obtain ⟨x5,x6,rfl⟩:=h
   have hq:=hP.2.2.1 q (by rw [e];simp)
   have yR:0<=x/\x<=nD rs:=by simpa using hd
   have ht:=b7X (q:=q) (rs:=pre) (Int.le_refl 0) hq.1.1 λr hr=>⟨(hP.2.2.1 r (by rw [e];simp [hr])).1.1,by
    have:=hP.2.2.2
    rw [e,zo] at this
    exact Int.le_of_lt (this.2.2 r hr q jL)⟩
   rw [ZL,ZZ]
   unfold Pr
   walk_at "o1"
   rw [show max 0 (min x q.1-D6 0 pre)=min x q.1-min x (D6 0 pre) by ext ht]
   exact ⟨AX (by ext hq) (by ext hq) (by ext ht) (by ext hq ht),_,_,rfl⟩
  .obtain ⟨x5,x6,rfl⟩:=h
   walk_at "o1"
   rfl
theorem b9e{m:Nat}{A:List (List Row)}(hA:A.length=3)(hF:∀f∈A,rQ f)(P:Pl)(hP:P.ok){x:Int}(hx:-(10^43)<=x/\x<=10^43):jV "cost_here" 3 (jN (m+1)) P.o [.int x,Fm A]=some (.sh (dz (P.due A x))):=by
 cases P with
 | name n=>exact rE (by kernel_rfl) (b2H (kp:=jN m) hA hF hP hx)
 | each a b c=>exact rE (by kernel_rfl) (b2J (kp:=jN m) hP hx)
 | flat a b c=>exact rE (by kernel_rfl) (b2I (kp:=jN m) hP hx)
 | blocks a b c=>exact rE (by kernel_rfl) (a95 (kp:=jN m) hP hx)
 | bands a=>exact rE (by kernel_rfl) (b1t (kp:=jN m) hP hx)
 | steps a=>exact rE (by kernel_rfl) (b1s (kp:=jN m) hP hx)
theorem b89(o:Option Int):L' [dz o,dz o]=some (.sh (.bl true)):=by
 refine Wo.eq (ui.mpr ?_)
 unfold Vq
 cases o with
 | none =>
  unfold dz
  walk_at "o1"
  rw [a1u]
  walk_at "o1"
 | some i =>
  unfold dz
  walk_at "o1"
  rw [a1u]
  walk_at "o1"
  walk_at "vc"
  simp
def b9T(zs:List Int):Prop:=zs.length<=6/\∀z∈zs,-(10^42)<=z/\z<=10^42
noncomputable def Pl.ends(A:List (List Row)):Pl->List Int
 | .each _ lo hi=>[lo,hi]
 | .flat _ lo hi=>[lo,hi]
 | .blocks s _ m=>[0,s,s*m]
 | .bands rs=>0::rs.map (·.1)
 | .steps rs=>0::rs.map (·.1)
 | .name n=>(F3 A n).flatMap λr=>[r.1,r.2.1]
theorem Zt{rs:List (Int×Int)}(hl:rs.length<=3){k:Str}{a b c:Sl}:Wo (aa cc (cJ (ag (eC (.int 0)) af)) (lQ (jh (bg (bV 0) (eC (.int 1)))) [] 1 (gN 0) xY (bg (bV 0) (eC (.int 0)))) [.sh (.tup [.str k,.lst false (rs.map Pr)]),a,b,c,.no]) λr=>r=.ow ((0::rs.map (·.1)).map D.int):=by
 rw [b3r]
 walk_at "o1"
 refine ⟨by rw [eD];ext hl,_,DL.comp_map Pr (λq=>D.int q.1) (λe=>∃y,e=[y]) rs (λq hq e he=>?_) ⟨_,rfl⟩,?_⟩
 .obtain ⟨y,rfl⟩:=he
  unfold Pr
  walk_at "o1"
  exact ⟨_,rfl⟩
 .walk_at "o1"
  refine ⟨by rw [eD];ext hl,?_⟩
  rw [jJ,BI]
  rfl
theorem b63{kp:List D->Option Sl}{A:List (List Row)}(hA:A.length=3)(hF:∀f∈A,rQ f)(P:Pl)(hP:P.ok):Ma kp [P.d,Fm A]=some (.ow ((P.ends A).map D.int)):=by
 refine Wo.eq (jP.mpr ?_)
 unfold L3
 cases P with
 | each p lo hi=>exact nV rfl (by show 2<5;decide) (eR (by kernel_rfl) (rP (by kernel_rfl) ⟨_,by kernel_rfl,rfl⟩))
 | flat p lo hi=>exact nV rfl (by show 2<5;decide) (eR (by kernel_rfl) (rP (by kernel_rfl) ⟨_,by kernel_rfl,rfl⟩))
 | blocks s p m =>
  simp only [Pl.ok] at hP
  refine nV rfl (by show 2<5;decide) (eR (by kernel_rfl) (eR (by kernel_rfl) (rP (by kernel_rfl) ?_)))
  dsimp only [rF,Pl.d]
  walk_at "o1"
  exact ⟨.inr (.inl (by ext hP)),rfl⟩
 | name n =>
  obtain ⟨e1,e2⟩:=L5 hA hP
  obtain ⟨MS,Rr,GB⟩:=hF _ e2
  refine nV rfl (by show 2<5;decide) (uc (by kernel_rfl) ?_)
  dsimp only [rF,Pl.d,Fm]
  walk_at "o1"
  rw [Uc]
  walk_at "o1"
  refine ⟨n,rfl,?_⟩
  rw [e1]
  walk_at "o1"
  refine Ef Row.d (λpre env=>∃x4,env=[.sh (.tup [.str "name",.str n]),.sh (.g0 Ck (A.map λf=>.tup (f.map Row.d))),.sh (.str "name"),.ow ((pre.flatMap λr=>[r.1,r.2.1]).map D.int),x4]/\(pre.flatMap λr=>[r.1,r.2.1]).length=2*pre.length) _ (λpre r post env e h=>?_) (λenv h=>?_) ⟨_,rfl,rfl⟩
  .obtain ⟨x4,rfl,hl⟩:=h
   have wZ:=congrArg GJ e
   simp only [fZ,jK] at wZ
   rw [FY r]
   walk_at "o1"
   refine ⟨by rw [eD];omega,.sh (.tup [.int r.1,.int r.2.1,.int r.2.2.1,.int r.2.2.2]),by rw [X9,nA];rfl,?_⟩
   rw [X9,fZ,fZ,hl]
   simp
   ext
  .obtain ⟨x4,rfl,hl⟩:=h
   walk_at "o1"
   rfl
 | bands rs =>
  have hl:=hP.2.1
  refine nV rfl (by show 2<5;decide) (eR (by kernel_rfl) (eR (by kernel_rfl) (eR (by kernel_rfl) (rP (by kernel_rfl) (Zt hl)))))
 | steps rs =>
  have hl:=hP.2.1
  refine nV rfl (by show 2<5;decide) (eR (by kernel_rfl) (eR (by kernel_rfl) (eR (by kernel_rfl) (rP (by kernel_rfl) (Zt hl)))))
theorem b9f{kp:List D->Option Sl}{A:List (List Row)}(hA:A.length=3)(hF:∀f∈A,rQ f)(P:Pl)(hP:P.ok):∃zs:List Int,Ma kp [P.d,Fm A]=some (.ow (zs.map D.int))/\b9T zs:=by
 refine ⟨P.ends A,b63 hA hF P hP,?_⟩
 cases P with
 | each p lo hi =>
  simp only [Pl.ok] at hP
  exact ⟨by simp [Pl.ends],by simp only [Pl.ends,fB,rL,or_false];omega⟩
 | flat p lo hi =>
  simp only [Pl.ok] at hP
  exact ⟨by simp [Pl.ends],by simp only [Pl.ends,fB,rL,or_false];omega⟩
 | blocks s p m =>
  simp only [Pl.ok] at hP
  have q0:0<=s*m:=D0 (by ext hP) (by ext hP)
  have q1:s*m<=10^39*4:=DZ (by ext hP) (by ext hP) (by ext hP) (by decide)
  refine ⟨by simp [Pl.ends],?_⟩
  simp only [Pl.ends,fB,rL,or_false]
  generalize s*m=sm at *
  omega
 | name n =>
  obtain ⟨MS,Rr,GB⟩:=hF _ (L5 hA hP).2
  have hl:∀G:List Row,(G.flatMap λr=>[r.1,r.2.1]).length=2*G.length:=λG=>by
   induction G with
   | nil=>rfl
   | cons r G ih=>rw [List.flatMap_cons,fZ,ih,jK];simp;ext
  refine ⟨by rw [Pl.ends,hl];omega,λz hz=>?_⟩
  obtain ⟨r,hr,hz⟩:=List.mem_flatMap.mp hz
  have h1:=GB r hr
  unfold C7 at h1
  simp only [fB,rL,or_false] at hz
  ext h1 hz
 | bands rs =>
  have hq:=hP.2.2.1
  have hl:=hP.2.1
  refine ⟨by rw [Pl.ends,jK,eD];ext hl,λz hz=>?_⟩
  rcases fB.mp hz with rfl | hz
  .decide
  .obtain ⟨q,h1,rfl⟩:=t6.mp hz
   have:=hq q h1
   ext this
 | steps rs =>
  have hq:=hP.2.2.1
  have hl:=hP.2.1
  refine ⟨by rw [Pl.ends,jK,eD];ext hl,λz hz=>?_⟩
  rcases fB.mp hz with rfl | hz
  .decide
  .obtain ⟨q,h1,rfl⟩:=t6.mp hz
   have:=hq q h1
   ext this
inductive Kd where | a | b | c
noncomputable def Kd.w{α:Type}(k:Kd)(x y z:α):α:=match k with | .a=>x | .b=>y | .c=>z
inductive Tr where
 | lf (P:Pl) | two (k:Kd) (a b:Tr) | one (k:Kd) (a:Tr) (p q:Int)
noncomputable def Tr.d:Tr->D
 | .lf P=>P.d
 | .two k a b=>.tup [.str (k.w "plus" "or" "max"),a.d,b.d]
 | .one k a p q=>.tup (.str (k.w "only" "after" "fee")::a.d::k.w [.int p,.int q] [.int p] [.int p])
noncomputable def Tr.o:Tr->D
 | .lf P=>P.o
 | .two k a b=>.obj (k.w "Sum" "Cheaper" "Dearer") (k.w LA L0 LX) [a.o,b.o]
 | .one k a p q=>.obj (k.w "Only" "After" "Fee") (k.w LL LP Lz) (a.o::k.w [.int p,.int q] [.int p] [.int p])
noncomputable def Tr.sz:Tr->Nat
 | .lf _=>1
 | .two _ a b=>a.sz+b.sz
 | .one _ a _ _=>a.sz+1
theorem qG:∀t:Tr,0<t.sz
 | .lf _=>Nat.one_pos
 | .two _ a b=>Nat.add_pos_left (qG a) _
 | .one _ a _ _=>Nat.succ_pos _
theorem EE{a b:Tr}{n:Nat}(h:a.sz+b.sz<=n+1):a.sz<=n:=by have:=qG b;ext h this
theorem ED{a b:Tr}{n:Nat}(h:a.sz+b.sz<=n+1):b.sz<=n:=by have:=qG a;ext h this
noncomputable def Tr.ok:Tr->Prop
 | .lf P=>P.ok
 | .two _ a b=>a.ok/\b.ok
 | .one k a p q=>a.ok/\((-(10^40)<=p/\p<=10^40) /\ -(10^40)<=q/\q<=10^40)/\k.w True (0<=p) True
theorem R9{kp:List D->Option Sl}{f:En->Option Sl}{env:En}{s:Sl}{r:Option Sl}(hf:f env=some s)(h:kp [s.d]=r):cK 1 kp (ag f af) env=r:=by
 unfold cK ag
 rw [hf]
 exact h
theorem Dz{c:Str}{n:Nat}{ns:List Str}{ψ:List D->Option (List D)}{fa:En->Option (List D)}{env:En}{as ds:List D}(ha:fa env=some as)(hn:as.length=n)(hp:ψ as=some ds):pK c n ns ψ fa env=some (.sh (.obj c ns ds)):=by
 unfold pK
 rw [ha]
 show (if as.length=n then _ else _)=_
 rw [if_pos hn,hp]
 rfl
theorem aC{f:En->Option Sl}{g:En->Option (List D)}{env:En}{r:Sl}{ds:List D}(h:f env=some r)(h2:g env=some ds):ag f g env=some (r.d::ds):=by
 unfold ag
 rw [h,h2]
 rfl
theorem b5Q{f:Str}{fe:En->Option Sl}{r:Sl}{env:En}(h:fe env=some r):dR f fe jz env [] []=some ([f],[r.d]):=by
 unfold dR
 rw [h]
 rfl
theorem YH(k:Bool)(rs:List (Int×Int))(hl:rs.length<=3):(bif k then OR else OQ) [.lst false (rs.map Pr)]=some [.lst false (rs.map Pr)]:=by
 cases k
 all_goals
  show gh _ 2 _ [.lst false (rs.map Pr)]=_
  unfold gh
  rw [show (Sl.no::o7 (2-1) [.lst false (rs.map Pr)])=[.no,.sh (.lst false (rs.map Pr))] from rfl,b5Q (Wo.eq (b6l rs hl))]
  kernel_rfl
theorem b9a:∀(t:Tr) (n:Nat),t.sz<=n->t.ok->yb n [t.d]=some (.sh t.o):=by
 intro t
 induction t with
 | lf P =>
  intro n hn hk
  cases n with
  | zero=>cases hn
  | succ n =>
   cases P with
   | each p lo hi=>kernel_rfl
   | flat p lo hi=>kernel_rfl
   | blocks s p m=>kernel_rfl
   | name x=>kernel_rfl
   | bands rs =>
    have h:=YH false rs hk.2.1
    have hl:Ll (iP (bg (bV 0) (eC (.int 1)))) [.sh (Pl.bands rs).d,.sh (.str "bands")]=some (.ow (rs.map Pr)):=rfl
    refine Wo.eq ((OY (kp:=yb n)).mpr ?_)
    unfold Ht
    refine nV rfl Np ?_
    refine eR (by kernel_rfl) (eR (by kernel_rfl) (rP (by kernel_rfl) ?_))
    exact WE (Dz (aC hl rfl) rfl h) rfl
   | steps rs =>
    have h:=YH true rs hk.2.1
    have hl:Ll (iP (bg (bV 0) (eC (.int 1)))) [.sh (Pl.steps rs).d,.sh (.str "steps")]=some (.ow (rs.map Pr)):=rfl
    refine Wo.eq ((OY (kp:=yb n)).mpr ?_)
    unfold Ht
    refine nV rfl Np ?_
    refine eR (by kernel_rfl) (eR (by kernel_rfl) (eR (by kernel_rfl) (rP (by kernel_rfl) ?_)))
    exact WE (Dz (aC hl rfl) rfl h) rfl
 | two k a b ik oK =>
  intro n hn hk
  cases n with
  | zero=>have:=qG (Tr.two k a b);ext _ hn this
  | succ n =>
   have c1:cK 1 (yb n) (ag (bg (bV 0) (eC (.int 1))) af) [.sh (Tr.two k a b).d,.sh (.str (k.w "plus" "or" "max"))]=some (.sh a.o):=R9 (s:=.sh a.d) rfl (ik n (EE hn) hk.1)
   have c2:cK 1 (yb n) (ag (bg (bV 0) (eC (.int 2))) af) [.sh (Tr.two k a b).d,.sh (.str (k.w "plus" "or" "max"))]=some (.sh b.o):=R9 (s:=.sh b.d) rfl (oK n (ED hn) hk.2)
   refine Wo.eq ((OY (kp:=yb n)).mpr ?_)
   unfold Ht
   refine nV rfl Np ?_
   iterate 6 refine eR (by cases k<;>kernel_rfl) ?_
   cases k
   .refine rP (by kernel_rfl) ?_
    exact WE (Dz (ds:=[a.o,b.o]) (aC c1 (aC c2 rfl)) rfl (by kernel_rfl)) rfl
   .refine eR (by kernel_rfl) (rP (by kernel_rfl) ?_)
    exact WE (Dz (ds:=[a.o,b.o]) (aC c1 (aC c2 rfl)) rfl (by kernel_rfl)) rfl
   .refine eR (by kernel_rfl) (eR (by kernel_rfl) (rP (by kernel_rfl) ?_))
    exact WE (Dz (ds:=[a.o,b.o]) (aC c1 (aC c2 rfl)) rfl (by kernel_rfl)) rfl
 | one k a p q ik =>
  intro n hn hk
  cases n with
  | zero=>have:=qG (Tr.one k a p q);ext _ hn this
  | succ n =>
   have c1:cK 1 (yb n) (ag (bg (bV 0) (eC (.int 1))) af) [.sh (Tr.one k a p q).d,.sh (.str (k.w "only" "after" "fee"))]=some (.sh a.o):=R9 (s:=.sh a.d) (by cases k<;>rfl) (ik n (FP hn) hk.1)
   refine Wo.eq ((OY (kp:=yb n)).mpr ?_)
   unfold Ht
   refine nV rfl Np ?_
   iterate 9 refine eR (by cases k<;>kernel_rfl) ?_
   cases k
   .refine rP (by kernel_rfl) ?_
    exact WE (Dz (ds:=[a.o,.int p,.int q]) (aC c1 (ds:=[.int p,.int q]) (by kernel_rfl)) rfl (by kernel_rfl)) rfl
   .refine eR (by kernel_rfl) (rP (by kernel_rfl) ?_)
    exact WE (Dz (ds:=[a.o,.int p]) (aC c1 (ds:=[.int p]) (by kernel_rfl)) rfl (by kernel_rfl)) rfl
   .refine eR (by kernel_rfl) (eR (by kernel_rfl) (Wo_ret.mpr ?_))
    exact WE (Dz (ds:=[a.o,.int p]) (aC c1 (ds:=[.int p]) (by kernel_rfl)) rfl (by kernel_rfl)) rfl
noncomputable def both(k:Kd)(o o':Option Int):Option Int:=match o with
 | some u=>match o' with
  | some v=>some (k.w (u+v) (if v<u then v else u) (if v>u then v else u))
  | none=>k.w none (some u) none
 | none=>k.w none o' none
noncomputable def Tr.due(A:List (List Row)):Tr->Int->Option Int
 | .lf P,x=>P.due A x
 | .two k a b,x=>both k (a.due A x) (b.due A x)
 | .one k a p q,x=>k.w (if p<=x/\x<=q then a.due A x else none) (if x<0 then none else a.due A (max 0 (x-p))) (if x=0 then a.due A x else (a.due A x).map (·+p))
theorem b0A(k:Kd)(a b:Tr):jV "parts" 1 Dp (Tr.two k a b).o []=some (.ow [a.o,b.o]):=by cases k<;>kernel_rfl
theorem b30(k:Kd)(a:Tr)(p q:Int):jV "parts" 1 Dp (Tr.one k a p q).o []=some (.ow [a.o]):=by cases k<;>kernel_rfl
noncomputable def Ac(o o':Option Int):List Int:=(match o with | some u=>[u] | none=>[])++(match o' with | some v=>[v] | none=>[])
theorem Kq{kp:aP}{A:List (List Row)}{a b:Tr}{x:Int}{u v:Option Int}(k:Kd)(ha:jV "cost_here" 3 kp a.o [.int x,Fm A]=some (.sh (dz u)))(hb:jV "cost_here" 3 kp b.o [.int x,Fm A]=some (.sh (dz v))):Dq kp [(Tr.two k a b).o,.int x,Fm A]=some (.ow ((Ac u v).map D.int)):=by
 refine Wo.eq (jl.mpr ?_)
 unfold Ws
 walk_at "o1"
 rw [b0A]
 walk_at "o1"
 rw [ha]
 walk_at "o1"
 rw [hb]
 walk_at "o1"
 cases u<;>cases v<;>dsimp only [dz,Ac]<;>walk_at "o1" <;> rfl
theorem Jq{kp:aP}(k:Kd)(a b:Tr)(d e:D):jV "offered_costs" 3 (F9 kp) (Tr.two k a b).o [d,e]=Dq kp [(Tr.two k a b).o,d,e]:=by cases k<;>kernel_rfl
theorem Jo{n:Nat}(k:Kd)(a b:Tr)(d e:D):jV "cost_here" 3 (jN (n+1)) (Tr.two k a b).o [d,e]=k.w F8 Gc Gb (jN n) [(Tr.two k a b).o,d,e]:=by cases k<;>kernel_rfl
theorem Jp{n:Nat}(k:Kd)(a:Tr)(p q:Int)(d e:D):jV "cost_here" 3 (jN (n+1)) (Tr.one k a p q).o [d,e]=k.w F' Ga Ge (jN n) [(Tr.one k a p q).o,d,e]:=by cases k<;>kernel_rfl
theorem TZ(k:Kd)(a:Tr)(p q:Int):gS Ea "one" (Tr.one k a p q).o=some a.o:=by cases k<;>kernel_rfl
theorem Km(a:Tr)(p q:Int):gS D9 "low" (Tr.one .a a p q).o=some (.int p):=by kernel_rfl
theorem b81(a:Tr)(p q:Int):gS Ec "high" (Tr.one .a a p q).o=some (.int q):=by kernel_rfl
theorem b6M(a:Tr)(p q:Int):gS OF "count" (Tr.one .b a p q).o=some (.int p):=by kernel_rfl
theorem b6K(a:Tr)(p q:Int):gS Eh "price" (Tr.one .c a p q).o=some (.int p):=by kernel_rfl
theorem min_two(u v:Int):jx [u,v]=if v<u then v else u:=rfl
theorem max_two(u v:Int):k9 [u,v]=if v>u then v else u:=rfl
theorem J2{kp:aP}{A:List (List Row)}{a b:Tr}{x:Int}{u v:Option Int}(k:Kd)(ha:jV "cost_here" 3 kp a.o [.int x,Fm A]=some (.sh (dz u)))(hb:jV "cost_here" 3 kp b.o [.int x,Fm A]=some (.sh (dz v))):k.w F8 Gc Gb kp [(Tr.two k a b).o,.int x,Fm A]=some (.sh (dz (both k u v))):=by
 have h:=(Jq (kp:=kp) k a b (.int x) (Fm A)).trans (Kq k ha hb)
 cases k
 .refine Wo.eq (mi.mpr ?_)
  unfold Wn
  walk_at "o1"
  rw [h]
  walk_at "o1"
  cases u<;>cases v<;>dsimp only [dz,Ac,both,Kd.w,K7,vK,S5,jJ,KO]<;>walk_at "o1"
  all_goals first | (simp [jx,k9];done) | skip
  all_goals first | (simp [min_two];done) | (simp [max_two];done) | exact ⟨λ_=>⟨λz=>(nomatch z),rfl⟩,λz=>absurd rfl z⟩
 .refine Wo.eq (jA.mpr ?_)
  unfold Wr
  walk_at "o1"
  rw [h]
  walk_at "o1"
  cases u<;>cases v<;>dsimp only [dz,Ac,both,Kd.w,K7,vK,S5,jJ,KO]<;>walk_at "o1"
  all_goals first | (simp [jx,k9];done) | skip
  all_goals first | (simp [min_two];done) | (simp [max_two];done) | exact ⟨λ_=>⟨λz=>(nomatch z),rfl⟩,λz=>absurd rfl z⟩
 .refine Wo.eq (jQ.mpr ?_)
  unfold Wf
  walk_at "o1"
  rw [h]
  walk_at "o1"
  cases u<;>cases v<;>dsimp only [dz,Ac,both,Kd.w,K7,vK,S5,jJ,KO]<;>walk_at "o1"
  all_goals first | (simp [jx,k9];done) | skip
  all_goals first | (simp [min_two];done) | (simp [max_two];done) | exact ⟨λ_=>⟨λz=>(nomatch z),rfl⟩,λz=>absurd rfl z⟩
theorem J4{kp:aP}{A:List (List Row)}{a:Tr}{p q x:Int}(k:Kd)(hx:-(10^43)<=x/\x<=10^43)(hp:k.w True (0<=p) True)(ha:∀y,-(10^43)<=y/\y<=10^43->jV "cost_here" 3 kp a.o [.int y,Fm A]=some (.sh (dz (a.due A y)))):k.w F' Ga Ge kp [(Tr.one k a p q).o,.int x,Fm A]=some (.sh (dz ((Tr.one k a p q).due A x))):=by
 cases k
 .refine Wo.eq (lE.mpr ?_)
  unfold Wk
  walk_at "o1"
  rw [Km,b81,TZ]
  walk_at "o1"
  rw [ha x hx]
  walk_at "o1"
  dsimp only [Tr.due,Kd.w]
  refine ⟨λh1=>⟨λh2=>by rw [if_pos ⟨h1,h2⟩],λh2=>?_⟩,λh1=>?_⟩
  .rw [if_neg λz=>h2 z.2];rfl
  .rw [if_neg λz=>h1 z.1];rfl
 .refine Wo.eq (kJ.mpr ?_)
  unfold V'
  walk_at "o1"
  rw [b6M,TZ]
  walk_at "o1"
  dsimp only [Tr.due,Kd.w] at hp ⊢
  refine ⟨λh=>by rw [if_pos h];rfl,λh=>?_⟩
  rw [if_neg h,ha _ (by ext hx hp),a0g]
 .refine Wo.eq (mj.mpr ?_)
  unfold Wm
  walk_at "o1"
  rw [TZ]
  walk_at "o1"
  rw [ha x hx]
  walk_at "o1"
  rw [b6K]
  dsimp only [Tr.due,Kd.w]
  by_cases hz:x=0
  .rw [if_pos hz]
   exact ⟨λ_=>rfl,λ_=>⟨λ_=>rfl,λz=>(z hz).elim⟩⟩
  .rw [if_neg hz]
   cases a.due A x with
   | none=>exact ⟨λ_=>rfl,λz=>(nomatch z)⟩
   | some u=>exact ⟨λz=>(nomatch z),λ_=>⟨λz=>(hz z).elim,λ_=>⟨_,rfl,_,rfl,rfl⟩⟩⟩
theorem b61{A:List (List Row)}(hA:A.length=3)(hF:∀f∈A,rQ f):∀(t:Tr) (n:Nat),t.sz<=n->t.ok->∀{x:Int},-(10^43)<=x/\x<=10^43->jV "cost_here" 3 (jN n) t.o [.int x,Fm A]=some (.sh (dz (t.due A x))):=by
 intro t
 induction t with
 | lf P =>
  intro n hn hk x hx
  cases n with
  | zero=>cases hn
  | succ n=>exact b9e hA hF P hk hx
 | two k a b ik oK =>
  intro n hn hk x hx
  cases n with
  | zero=>have:=qG (Tr.two k a b);ext _ hn this
  | succ n=>rw [Jo];exact J2 k (ik n (EE hn) hk.1 hx) (oK n (ED hn) hk.2 hx)
 | one k a p q ik =>
  intro n hn hk x hx
  cases n with
  | zero=>have:=qG (Tr.one k a p q);ext _ hn this
  | succ n=>rw [Jp];exact J4 k hx hk.2.2 λy hy=>ik n (FP hn) hk.1 hy
theorem QA{F:SF}{env:En}{s:Sl}{Q:Sl->Prop}(h:F env=some (.rt s,env))(q:Q s):Wo (F env) (b7 Q):=⟨_,h,q⟩
theorem Jw{kp:List D->Option Sl}{A:List (List Row)}{a b:Tr}{x:Int}{u v:Option Int}(k:Kd)(ha:kp [a.d,.int x,Fm A]=some (.sh (dz u)))(hb:kp [b.d,.int x,Fm A]=some (.sh (dz v))):HE kp [(Tr.two k a b).d,.int x,Fm A]=some (.sh (dz (both k u v))):=by
 refine Wo.eq (uo.mpr ?_)
 unfold VH Tr.d
 walk_at "o1"
 rw [ha]
 walk_at "o1"
 rw [hb]
 walk_at "o1"
 rw [<-a2f]
 refine QA (s:=.sh (dz (both k u v))) ?_ rfl
 cases k<;>cases u<;>cases v<;>kernel_rfl
theorem b67{A:List (List Row)}(hA:A.length=3)(hF:∀f∈A,rQ f):∀(t:Tr) (n:Nat),t.sz<=n->t.ok->∀{x:Int},-(10^43)<=x/\x<=10^43->AZ n [t.d,.int x,Fm A]=some (.sh (dz (t.due A x))):=by
 intro t
 induction t with
 | lf P =>
  intro n hn hk x hx
  cases n with
  | zero=>cases hn
  | succ n =>
   have h:=b60 hA hF P hk hx
   refine Wo.eq ((Vt (kp:=AZ n)).mpr ?_)
   unfold L1
   cases P
   all_goals
    refine nV rfl (by show 3<5;decide) ?_
    iterate 4 refine eR (by kernel_rfl) ?_
    exact Wo_ret.mpr ⟨_,h,rfl⟩
 | two k a b ik oK =>
  intro n hn hk x hx
  cases n with
  | zero=>have:=qG (Tr.two k a b);ext _ hn this
  | succ n =>
   have h:=Jw k (ik n (EE hn) hk.1 hx) (oK n (ED hn) hk.2 hx)
   refine Wo.eq ((Vt (kp:=AZ n)).mpr ?_)
   unfold L1
   refine nV (k:=k.w "plus" "or" "max") rfl (by show 3<5;decide) ?_
   exact rP (by cases k<;>kernel_rfl) ⟨_,h,rfl⟩
 | one k a p q ik =>
  intro n hn hk x hx
  cases n with
  | zero=>have:=qG (Tr.one k a p q);ext _ hn this
  | succ n =>
   have ih:∀{y:Int},-(10^43)<=y/\y<=10^43->AZ n [a.d,.int y,Fm A]=some (.sh (dz (a.due A y))):=λ{y} hy=>ik n (FP hn) hk.1 hy
   refine Wo.eq ((Vt (kp:=AZ n)).mpr ?_)
   unfold L1
   refine nV (k:=k.w "only" "after" "fee") rfl (by show 3<5;decide) ?_
   refine eR (by cases k<;>kernel_rfl) ?_
   cases k
   .refine uc (by kernel_rfl) ?_
    dsimp only [Tr.d,Kd.w,rF,Tr.due]
    walk_at "o1"
    rw [a1u]
    walk_at "o1"
    rw [ih hx]
    walk_at "o1"
    refine ⟨λh1=>?_,λh1=>⟨λh2=>?_,λh2=>by rw [if_pos ⟨M4.mp h1,M4.mp h2⟩]⟩⟩
    .rw [if_neg λz=>M4.mpr z.1 h1];rfl
    .rw [if_neg λz=>M4.mpr z.2 h2];rfl
   .refine eR (by kernel_rfl) (uc (by kernel_rfl) ?_)
    have hp:0<=p:=hk.2.2
    dsimp only [Tr.d,Kd.w,rF,Tr.due]
    walk_at "o1"
    rw [a1u]
    walk_at "o1"
    refine ⟨λh=>by rw [if_pos h];rfl,λh=>?_⟩
    rw [if_neg h,ih (by ext hx hp),a0g]
   .refine eR (by kernel_rfl) (eR (by kernel_rfl) (uc (by kernel_rfl) ?_))
    dsimp only [Tr.d,Kd.w,rF,Tr.due]
    walk_at "o1"
    rw [ih hx]
    walk_at "o1"
    rw [a1u]
    walk_at "o1"
    by_cases hz:x=0
    .rw [if_pos hz]
     exact ⟨λ_=>rfl,λ_=>⟨λ_=>rfl,λz=>(z hz).elim⟩⟩
    .rw [if_neg hz]
     cases a.due A x with
     | none=>exact ⟨λ_=>rfl,λz=>(nomatch z)⟩
     | some u=>exact ⟨λz=>(nomatch z),λ_=>⟨λz=>(hz z).elim,λ_=>⟨_,rfl,rfl⟩⟩⟩
noncomputable def Tr.ns:Tr->List Str
 | .lf P=>P.ns
 | .two _ a b=>a.ns++b.ns
 | .one _ a _ _=>a.ns
theorem ZQ(P:Pl):P.ns.length<=1:=by cases P<;>simp [Pl.ns]
theorem Ui:∀t:Tr,t.ns.length<=t.sz:=by
 intro t
 induction t with
 | lf P=>exact ZQ P
 | two k a b ik oK=>simp only [Tr.ns,Tr.sz,fZ];ext ik oK
 | one k a _ _ ik=>simp only [Tr.ns,Tr.sz];ext ik
theorem all1{kp:aP}{o a:D}{xs:List Str}(hp:jV "parts" 1 Dp o []=some (.ow [a]))(ha:jV "all_names" 1 kp a []=some (.ow (xs.map D.str)))(hl:xs.length<=100000):oe kp [o]=some (.ow (xs.map D.str)):=by
 refine Wo.eq (eS.mpr ?_)
 unfold Md
 walk_at "o1"
 rw [hp]
 walk_at "o1"
 rw [ha]
 walk_at "o1"
 exact ⟨by simp;ext hl,rfl⟩
theorem all2{kp:aP}{o a b:D}{xs ys:List Str}(hp:jV "parts" 1 Dp o []=some (.ow [a,b]))(ha:jV "all_names" 1 kp a []=some (.ow (xs.map D.str)))(hb:jV "all_names" 1 kp b []=some (.ow (ys.map D.str)))(hl:xs.length<=100000)(hm:ys.length<=100000):oe kp [o]=some (.ow ((xs++ys).map D.str)):=by
 refine Wo.eq (eS.mpr ?_)
 unfold Md
 walk_at "o1"
 rw [hp]
 walk_at "o1"
 rw [ha]
 walk_at "o1"
 refine ⟨by simp;ext hl,?_⟩
 rw [hb]
 walk_at "o1"
 exact ⟨by simp;ext hl hm,by simp⟩
theorem b9g:∀(t:Tr) (n:Nat),t.sz<=n->n<=1000->jV "all_names" 1 (qJ n) t.o []=some (.ow (t.ns.map D.str)):=by
 intro t
 have z:∀{t:Tr} {n:Nat},t.sz<=n->n+1<=1000->t.ns.length<=100000:=λ{t n} h g=>by
  have:=Ui t
  ext h g this
 induction t with
 | lf P =>
  intro n hn h9
  cases n with
  | zero=>cases hn
  | succ n=>exact Ks P
 | two k a b ik oK =>
  intro n hn h9
  cases n with
  | zero=>have:=qG (Tr.two k a b);ext _ hn this
  | succ n=>exact rE (b:=oe (qJ n) [(Tr.two k a b).o]) (by cases k<;>kernel_rfl) (all2 (a:=a.o) (b:=b.o) (b0A k a b) (ik n (EE hn) (CV h9)) (oK n (ED hn) (CV h9)) (z (EE hn) h9) (z (ED hn) h9))
 | one k a p q ik =>
  intro n hn h9
  cases n with
  | zero=>have:=qG (Tr.one k a p q);ext _ hn this
  | succ n=>exact rE (b:=oe (qJ n) [(Tr.one k a p q).o]) (by cases k<;>kernel_rfl) (all1 (a:=a.o) (xs:=a.ns) (b30 k a p q) (ik n (FP hn) (CV h9)) (z (FP hn) h9))
noncomputable def Ci(t:Tr):List Str:=SE.pC SE.yI t.ns
theorem Zs(t:Tr)(x:Str):x∈Ci t↔x∈t.ns:=SE.jn SE.h7 x t.ns
theorem strs_map:∀ts:List Str,Hd (ts.map D.str)=some ts
 | []=>rfl
 | t::ts=>by
  show (Hd (ts.map D.str)).map (t::·)=_
  rw [strs_map ts]
  rfl
theorem a8H(xs:List Str)(h:xs.length+1<4096):sset (xs.map D.str)=some ((SE.pC SE.yI xs).map D.str):=by
 cases xs with
 | nil=>rfl
 | cons x xs =>
  unfold sset
  rw [show vU ((x::xs).map D.str)=none from rfl]
  dsimp only
  rw [strs_map]
  show (if (x::xs).length+1<4096 then some ((SE.pC SE.yI (x::xs)).map D.str) else none)=_
  rw [if_pos h]
theorem Vd(t:Tr):jV "names" 1 F7 t.o []=pS [t.o]:=by
 cases t with
 | lf P=>exact b6n P
 | two k _ _=>cases k<;>kernel_rfl
 | one k _ _ _=>cases k<;>kernel_rfl
theorem UT(t:Tr)(hz:t.sz<=12):pS [t.o]=some (.ow ((Ci t).map D.str)):=by
 have h:=b9g t 12 hz (by decide)
 refine Wo.eq (pk.mpr ?_)
 unfold VM
 rw [Wo_ret,UO]
 walk_at "o1"
 rw [h]
 walk_at "o1"
 rw [T9,a8H _ (by have:=Ui t;omega),a0g]
 rfl
theorem b3U{t:Tr}(h:t.ok):∀x∈t.ns,x = "p" \/ x = "qq" \/ x = "ptop":=by
 induction t with
 | lf P =>
  intro x hx
  cases P with
  | name n=>simp only [Tr.ns,Pl.ns,oZ] at hx;rw [hx];exact h
  | _=>simp [Tr.ns,Pl.ns] at hx
 | two k a b ik oK =>
  intro x hx
  exact (nj.mp hx).elim (ik h.1 x) (oK h.2 x)
 | one k a p q ik=>exact ik h.1
theorem b2Y{A:List (List Row)}(hA:A.length=3)(t:Tr)(ht:t.ok)(hz:t.sz<=12):Wo (Mh [t.o,Fm A]) λ_=>True:=by
 refine mf.mpr ?_
 unfold Wq
 walk_at "o1"
 rw [Vd,UT t hz]
 walk_at "o1"
 refine Ef D.str (λ_ env=>∃y,env=[.sh t.o,.sh (Fm A),y]) (Ci t) (λpre s post env e h=>?_) (λenv h=>?_) ⟨_,rfl⟩
 .obtain ⟨y,rfl⟩:=h
  have hs:s∈Ci t:=by rw [e];simp
  obtain ⟨e1,_⟩:=L5 hA (b3U ht s ((Zs t s).mp hs))
  walk_at "o1"
  rw [a1u,b5s,b7B]
  unfold Fm
  walk_at "o1"
  refine ⟨s,rfl,?_⟩
  rw [e1]
  walk_at "o1"
  exact ⟨λh=>absurd h (by simp),λ_=>⟨_,rfl⟩⟩
 .obtain ⟨y,rfl⟩:=h
  walk_at "o1"
theorem b6o(t:Tr)(a b:D):jV "cost" 3 Hr t.o [a,b]=qI [t.o,a,b]:=by
 cases t with
 | lf P=>exact b8D P a b
 | two k _ _=>cases k<;>kernel_rfl
 | one k _ _ _=>cases k<;>kernel_rfl
theorem b66{A:List (List Row)}(hA:A.length=3)(hF:∀f∈A,rQ f)(t:Tr)(ht:t.ok)(hz:t.sz<=12){x:Int}(hx:-(10^43)<=x/\x<=10^43):jV "cost" 3 Hr t.o [.int x,Fm A]=some (.sh (dz (t.due A x))):=by
 rw [b6o]
 refine Wo.eq (qM.mpr ?_)
 unfold VX
 obtain ⟨r,e,_⟩:=b2Y hA t ht hz
 walk_at "o1"
 rw [e]
 walk_at "o1"
 rw [b61 hA hF t 12 hz ht hx]
 walk_at "o1"
theorem b8C(t:Tr):Cp LN t.o=some (.sh (.bl true)):=by
 cases t with
 | lf P=>exact Jr P
 | two k _ _=>cases k<;>kernel_rfl
 | one k _ _ _=>cases k<;>kernel_rfl
noncomputable def Tr.ra:Tr->List Str
 | .lf P=>P.ns
 | .two _ a b=>b.ra++a.ra
 | .one _ a _ _=>a.ra
theorem b6q:∀(t:Tr) (x:Str),x∈t.ra↔x∈t.ns:=by
 intro t x
 induction t with
 | lf P=>exact jT
 | two k a b ik oK=>simp only [Tr.ra,Tr.ns,nj,ik,oK];exact Or.comm
 | one k a _ _ ik=>exact ik
theorem OD:∀t:Tr,t.ra.length<=t.sz:=by
 intro t
 induction t with
 | lf P=>exact ZQ P
 | two k a b ik oK=>simp only [Tr.ra,Tr.sz,fZ];ext ik oK
 | one k a _ _ ik=>simp only [Tr.ra,Tr.sz];ext ik
theorem b4w:∀(t:Tr) (n:Nat),t.sz<=n->n<=1000->∃r:Sl,Em n [t.d]=some r/\r.d=.lst false (t.ra.map D.str):=by
 intro t
 induction t with
 | lf P =>
  intro n hn h9
  cases n with
  | zero=>cases hn
  | succ n =>
   cases P with
   | name x=>exact ⟨.ow [.str x],by kernel_rfl,rfl⟩
   | each a b c=>exact ⟨.sh (.lst false []),by kernel_rfl,rfl⟩
   | flat a b c=>exact ⟨.sh (.lst false []),by kernel_rfl,rfl⟩
   | blocks a b c=>exact ⟨.sh (.lst false []),by kernel_rfl,rfl⟩
   | bands a=>exact ⟨.sh (.lst false []),by kernel_rfl,rfl⟩
   | steps a=>exact ⟨.sh (.lst false []),by kernel_rfl,rfl⟩
 | two k a b ik oK =>
  intro n hn h9
  cases n with
  | zero=>have:=qG (Tr.two k a b);ext _ hn this
  | succ n =>
   obtain ⟨r1,e1,d1⟩:=ik n (EE hn) (CV h9)
   obtain ⟨r2,e2,d2⟩:=oK n (ED hn) (CV h9)
   refine ⟨.sh (.lst false ((Tr.two k a b).ra.map D.str)),Wo.eq ((a7h (kp:=Em n)).mpr ?_),rfl⟩
   unfold Pb
   refine eR (by cases k<;>kernel_rfl) ?_
   walk_at "o1"
   rw [<-a2f]
   refine uc (by cases k<;>kernel_rfl) ?_
   rw [a5V]
   refine ⟨r2,e2,by show 1<2;decide,?_⟩
   rw [d2,a6I]
   refine uc (by cases k<;>kernel_rfl) ?_
   rw [a5V]
   have l1:=OD a
   have l2:=OD b
   have hz:a.sz+b.sz<=n+1:=hn
   refine ⟨.ow ((b.ra.map D.str)++(a.ra.map D.str)),?_,by show 1<2;decide,?_⟩
   .refine Wo.eq ?_
    dsimp only [rF]
    unfold Tr.d
    walk_at "o1"
    rw [e1,a0g,d1,a8r]
    exact ⟨by simp;ext h9 l1 l2 hz,rfl⟩
   .rw [a6I]
    exact Wo_ret.mpr ⟨_,rfl,by show Sl.sh (.lst false _)=_;simp [Tr.ra]⟩
 | one k a p q ik =>
  intro n hn h9
  cases n with
  | zero=>have:=qG (Tr.one k a p q);ext _ hn this
  | succ n =>
   obtain ⟨r1,e1,d1⟩:=ik n (FP hn) (CV h9)
   refine ⟨.sh (.lst false (a.ra.map D.str)),Wo.eq ((a7h (kp:=Em n)).mpr ?_),rfl⟩
   unfold Pb
   refine eR (by cases k<;>kernel_rfl) ?_
   walk_at "o1"
   rw [<-a2f]
   refine eR (by cases k<;>kernel_rfl) ?_
   refine uc (by cases k<;>kernel_rfl) ?_
   rw [a5V]
   have l1:=OD a
   have hz:a.sz+1<=n+1:=hn
   refine ⟨.ow (a.ra.map D.str),?_,by show 1<2;decide,?_⟩
   .refine Wo.eq ?_
    unfold Tr.d
    walk_at "o1"
    rw [e1,a0g,d1,a8r]
    exact ⟨by simp;ext h9 l1 hz,rfl⟩
   .rw [a6I]
    exact Wo_ret.mpr ⟨_,rfl,rfl⟩
theorem b4v(t:Tr)(ht:t.ok)(c sc:Int)(hs:1<=sc/\sc<=10^38)(k:Str)(hk:k = "only" \/ k = "after" \/ k = "fee"):∃u:Tr,HA [t.d,.str k,.int c,.int sc]=some (.sh u.d)/\u.ok/\u.sz=t.sz+1:=by
 have key:Wo (HA [t.d,.str k,.int c,.int sc]) λx=>∃u:Tr,x=.sh u.d/\u.ok/\u.sz=t.sz+1:=by
  refine pd.mpr ?_
  unfold VP
  obtain ⟨a,ea,a0,a1⟩:=mB c 50 sc (by decide) (by ext hs)
  obtain ⟨b,eb,b0,b1⟩:=mB c 51 2 (by decide) (by decide)
  obtain ⟨d,ed,d0,d1⟩:=mB c 52 (3*sc) (by decide) (by ext hs)
  obtain ⟨e,ee,e0,e1⟩:=mB c 53 sc (by decide) (by ext hs)
  obtain ⟨p,ep,p0,p1⟩:=LH c 54 (by decide)
  have l0:0<=a*b:=D0 a0 b0
  have l1:a*b<=10^38*1:=DZ (by ext hs a1) (by ext b1) b0 (by decide)
  rcases hk with rfl | rfl | rfl
  .refine uc (by kernel_rfl) ?_
   walk_at "v1"
   rw [ea]
   walk_at "v1"
   rw [eb]
   walk_at "v1"
   refine ⟨.inr (.inl (by ext b0 b1)),?_⟩
   generalize a*b=ab at *
   refine ⟨.inl (by decide),?_⟩
   rw [ed]
   walk_at "v1"
   exact ⟨.one .a t ab (ab+d),rfl,⟨ht,by ext hs d0 d1 l0 l1,trivial⟩,rfl⟩
  .refine eR (by kernel_rfl) (rP (by kernel_rfl) ?_)
   walk_at "v1"
   rw [ee]
   walk_at "v1"
   exact ⟨.one .b t e 0,rfl,⟨ht,by ext hs e0 e1,e0⟩,rfl⟩
  .refine eR (by kernel_rfl) (eR (by kernel_rfl) (rP (by kernel_rfl) ?_))
   walk_at "v1"
   rw [ep]
   walk_at "v1"
   exact ⟨.one .c t p 0,rfl,⟨ht,by ext p0 p1,trivial⟩,rfl⟩
 obtain ⟨x,e,t,rfl,h⟩:=key
 exact ⟨t,e,h⟩
def Mu(s:Nat)(zs:List Int):Prop:=zs.length+1<=4*2^s/\∀z∈zs,-(10^42+s*10^40)<=z/\z<=10^42+s*10^40
theorem b50(a b:Nat)(ha:0<a)(hb:0<b):4*2^a+4*2^b<=4*2^(a+b):=by
 have h1:2^1<=2^a:=Ld (by decide) ha
 have h2:2^1<=2^b:=Ld (by decide) hb
 rw [Nat.pow_add]
 generalize 2^a=x at *
 generalize 2^b=y at *
 have:=Nat.mul_le_mul (show 2<=x from h1) (cT y)
 have:=Nat.mul_le_mul (cT x) (show 2<=y from h2)
 omega
theorem b64{A:List (List Row)}(hA:A.length=3)(hF:∀f∈A,rQ f):∀(t:Tr) (n:Nat),t.sz<=n->t.sz<=12->t.ok->∃zs:List Int,Dm n [t.d,Fm A]=some (.ow (zs.map D.int))/\Mu t.sz zs:=by
 intro t
 induction t with
 | lf P =>
  intro n hn h9 hk
  cases n with
  | zero=>cases hn
  | succ n =>
   obtain ⟨zs,ez,h1,h2⟩:=b9f (kp:=Dm n) hA hF P hk
   refine ⟨zs,ez,by show _<=4*2^1;ext h1,λz hz=>?_⟩
   have:=h2 z hz
   show -(10^42+(1:Nat)*10^40)<=z/\_
   omega
 | two k a b ik oK =>
  intro n hn h9 hk
  have sa:=qG a
  have sb:=qG b
  cases n with
  | zero=>have:=qG (Tr.two k a b);ext _ hn this
  | succ n =>
   have hz:a.sz+b.sz<=12:=h9
   obtain ⟨za,ea,a1,a2⟩:=ik n (EE hn) (by ext hz) hk.1
   obtain ⟨zb,eb,b1,b2⟩:=oK n (ED hn) (by ext hz) hk.2
   have hp:=b50 a.sz b.sz sa sb
   have hq:2^(a.sz+b.sz)<=2^12:=Ld (by decide) hz
   refine ⟨za++zb,Wo.eq ((jP (kp:=Dm n)).mpr ?_),?_,λz hz=>?_⟩
   .unfold L3
    refine nV (k:=k.w "plus" "or" "max") rfl (by show 2<5;decide) ?_
    iterate 4 refine eR (by cases k<;>kernel_rfl) ?_
    dsimp only [rF,Tr.d]
    walk_at "o1"
    rw [ea]
    walk_at "o1"
    rw [<-a2f]
    refine uc (by cases k<;>kernel_rfl) ?_
    rw [N8,Li (by rfl)]
    walk_at "o1"
    rw [eb]
    walk_at "o1"
    refine ⟨by simp only [eD];ext a1 b1 hp hq,?_⟩
    rw [<-a2f]
    refine eR (by cases k<;>kernel_rfl) (eR (by cases k<;>kernel_rfl) ?_)
    walk_at "o1"
    rw [nA]
   .show (za++zb).length+1<=4*2^(a.sz+b.sz)
    rw [fZ]
    ext a1 b1 hp
   .show -(10^42+((a.sz+b.sz:Nat):Int)*10^40)<=z/\z<=10^42+((a.sz+b.sz:Nat):Int)*10^40
    rcases nj.mp hz with w | w
    .have:=a2 z w;omega
    .have:=b2 z w;omega
 | one k a p q ik =>
  intro n hn h9 hk
  cases n with
  | zero=>have:=qG (Tr.one k a p q);ext _ hn this
  | succ n =>
   have hz:a.sz+1<=12:=h9
   obtain ⟨za,ea,a1,a2⟩:=ik n (FP hn) (by ext hz) hk.1
   have hpq:=hk.2.1
   have hq:2^(a.sz+1)<=2^12:=Ld (by decide) hz
   have hp:2^(a.sz+1)=2*2^a.sz:=by rw [Nat.pow_succ,Nat.mul_comm]
   have h1:0<2^a.sz:=Nat.pow_pos (by decide)
   refine ⟨za++k.w [p,q] (p::za.map (·+p)) [],Wo.eq ((jP (kp:=Dm n)).mpr ?_),?_,λz hz=>?_⟩
   .unfold L3
    refine nV (k:=k.w "only" "after" "fee") rfl (by show 2<5;decide) ?_
    iterate 4 refine eR (by cases k<;>kernel_rfl) ?_
    dsimp only [rF,Tr.d]
    walk_at "o1"
    rw [ea]
    walk_at "o1"
    rw [<-a2f]
    refine eR (by cases k<;>kernel_rfl) ?_
    cases k
    .refine uc (by kernel_rfl) ?_
     rw [N8,Li (by rfl)]
     dsimp only [rF,Kd.w]
     walk_at "o1"
     refine ⟨by rw [eD];omega,?_⟩
     rw [<-a2f]
     refine eR (by kernel_rfl) ?_
     walk_at "o1"
     rw [nA]
     rfl
    .refine eR (by kernel_rfl) (uc (by kernel_rfl) ?_)
     rw [N8,Li (by rfl)]
     dsimp only [rF,Kd.w]
     walk_at "o1"
     refine ⟨by simp only [eD];omega,by simp only [eD];omega,_,DL.comp_map D.int (λx=>.int (x+p)) (λe=>∃y,e=[y,.sh (.tup [.str "after",a.d,.int p])]) za (λx hx e he=>?_) ⟨_,rfl⟩,?_⟩
     .obtain ⟨y,rfl⟩:=he
      walk_at "o1"
      exact ⟨_,rfl⟩
     .walk_at "o1"
      simp
      omega
    .refine eR (by kernel_rfl) (eR (by kernel_rfl) ?_)
     walk_at "o1"
     simp [Kd.w]
   .show _<=4*2^(a.sz+1)
    cases k<;>simp only [Kd.w,fZ,jK,KY,eD]<;>omega
   .show -(10^42+((a.sz+1:Nat):Int)*10^40)<=z/\z<=10^42+((a.sz+1:Nat):Int)*10^40
    rcases nj.mp hz with w | w
    .have:=a2 z w;omega
    .cases k with
     | a=>simp only [Kd.w,fB,rL,or_false] at w;omega
     | c=>exact (nomatch w)
     | b =>
      rcases fB.mp w with rfl | w
      .omega
      .obtain ⟨y,hy,rfl⟩:=t6.mp w
       have:=a2 y hy
       omega
theorem b1w{A:List (List Row)}(hA:A.length=3)(hF:∀f∈A,rQ f)(t:Tr)(ht:t.ok)(hz:t.sz<=9){sc:Int}(hs:1<=sc/\sc<=10^38)(ms:List Int){r:Bool}:∃xs:List Int,HB [t.d,Fm A,.lst r (ms.map D.int),.int sc]=some (.ow (xs.map D.int))/\xs.length<=200/\∀x∈xs,-(10^43)<=x/\x<=10^43:=by
 have key:Wo (HB [t.d,Fm A,.lst r (ms.map D.int),.int sc]) λr=>∃xs:List Int,r=.ow (xs.map D.int)/\xs.length<=200/\∀x∈xs,-(10^43)<=x/\x<=10^43:=by
  refine nX.mpr ?_
  unfold V4
  obtain ⟨zs,ez,hz1,JI⟩:=b64 hA hF t 12 (by ext hz) (by ext hz) ht
  have hq:2^t.sz<=2^9:=Ld (by decide) hz
  obtain ⟨ys,ey,_,hy⟩:=b1L zs (by omega)
  walk_at "o1"
  rw [UO]
  walk_at "o1"
  rw [ez]
  walk_at "o1"
  rw [T9,ey]
  walk_at "o1"
  rw [US,show qt ys none (some 24)=ys.take 24 from ZG ys (n:=24)]
  have Gz:(ys.take 24).length<=24:=by rw [oY];ext
  refine Ef D.int (λpre env=>∃x5,∃xs:List Int,env=[.sh t.d,.sh (Fm A),.sh (.lst r (ms.map D.int)),.sh (.int sc),.ow (xs.map D.int),x5,.no]/\xs.length=3+3*pre.length/\∀x∈xs,-(10^43)<=x/\x<=10^43) _ (λpre z post env e h=>?_) (λenv h=>?_) ⟨_,[-1,0,1],rfl,rfl,by simp only [fB,rL,or_false];omega⟩
  .obtain ⟨x5,xs,rfl,hl,hx⟩:=h
   have hz:=JI z ((hy z).mp (FE (by rw [e];simp)))
   have wZ:=congrArg GJ e
   simp only [fZ,jK] at wZ
   walk_at "o1"
   refine ⟨by rw [eD];omega,_,xs++[z-1,z,z+1],by rw [nA];rfl,by simp [hl];ext,λx mn=>?_⟩
   rcases nj.mp mn with w | w
   .exact hx x w
   .simp only [fB,rL,or_false] at w
    omega
  .obtain ⟨x5,xs,rfl,hl,hx⟩:=h
   walk_at "o1"
   rw [US,show qt ms none (some 40)=ms.take 40 from ZG ms (n:=40)]
   have DF:(ms.take 40).length<=40:=by rw [oY];ext
   refine Ef D.int (λpre env=>∃x6,∃xs:List Int,env=[.sh t.d,.sh (Fm A),.sh (.lst r (ms.map D.int)),.sh (.int sc),.ow (xs.map D.int),x5,x6]/\xs.length<=80+pre.length/\∀x∈xs,-(10^43)<=x/\x<=10^43) _ (λpre z post env e h=>?_) (λenv h=>?_) ⟨_,xs,rfl,by ext Gz hl,hx⟩
   .obtain ⟨x6,xs,rfl,hl,hx⟩:=h
    have wZ:=congrArg GJ e
    simp only [fZ,jK] at wZ
    walk_at "o1"
    have m0:0<=z%(5*sc):=GS _ (by ext hs)
    have m1:z%(5*sc)<5*sc:=G0 _ (by ext hs)
    refine ⟨.inl (by decide),by walk_at "sc",by rw [eD];ext DF hl wZ,?_⟩
    refine ⟨_,xs++[z%(5*sc)-sc],by rw [nA];rfl,by simp;ext hl,λx mn=>?_⟩
    rcases nj.mp mn with w | w
    .exact hx x w
    .rw [oZ.mp w]
     ext hs m0 m1
   .obtain ⟨x6,xs,rfl,hl,hx⟩:=h
    walk_at "o1"
    exact ⟨xs,rfl,by ext DF hl,hx⟩
 obtain ⟨x,e,zs,rfl,h⟩:=key
 exact ⟨zs,e,h⟩
theorem b2Z(ns:List Int)(hl:ns.length<=63){r:Bool}:∃l:List Int,Hz [.lst r (ns.map D.int),.int 4,.int 9]=some (.ow (l.map D.int))/\l.length<=9:=by
 have key:Wo (Hz [.lst r (ns.map D.int),.int 4,.int 9]) λs=>∃l:List Int,s=.ow (l.map D.int)/\l.length<=9:=by
  refine pf.mpr ?_
  unfold VO
  walk_at "v1"
  rw [eD]
  refine Ov _ _ (λk env=>∃x4 x5,∃l:List Int,env=[.sh (.lst r (ns.map D.int)),.sh (.int 4),.sh (.int 9),.ow (l.map D.int),x4,x5]/\(l.length:Int)<=9) (λk env hk h=>?_) (λenv h=>?_) ⟨_,_,[],rfl,by simp⟩
  .obtain ⟨x4,x5,l,rfl,hm⟩:=h
   walk_at "vc"
   rw [eD]
   refine ⟨λcU=>?_,λBr=>?_⟩
   .rw [Eg 0 (by ext) (by ext hk)]
    walk_at "vc"
    generalize ns.getD _ 0=c
    refine ⟨by walk_at "sc",by decide,by ext cU,?_⟩
    exact ⟨_,_,l++[c%10^60],by rw [nA];rfl,by simp;ext cU⟩
   .have m1:=GS (4+(k:Int)) (show (9:Int)≠0 by ext)
    have m2:=G0 (4+(k:Int)) (show (0:Int)<9 by decide)
    have hlm:(l.length:Int)=9:=by ext hm Br
    rw [Eg 0 m1 (by omega),Eg 0 (by ext) (by ext hk)]
    walk_at "vc"
    generalize ns.getD _ 0=c
    generalize hx:l.getD _ 0=x
    generalize (4+(k:Int))%9=j at *
    have hj:rh l.length j=some j.toNat:=by
     unfold rh
     rw [if_pos m1,if_pos (by ext Br m2)]
    rw [hj]
    walk_at "vc"
    refine ⟨.inr (.inl (by decide)),by walk_at "sc",by decide,by walk_at "sc",by decide,?_⟩
    exact ⟨_,_,l.set j.toNat ((x*10007+c%10^60)%10^60),by rw [List.map_set],by rw [List.length_set];ext hm⟩
  .obtain ⟨x4,x5,l,rfl,hm⟩:=h
   walk_at "vc"
   exact ⟨l,rfl,by ext hm⟩
 obtain ⟨x,e,l,rfl,h⟩:=key
 exact ⟨l,e,h⟩
noncomputable def oh:List Tr->Nat
 | []=>0
 | t::ts=>t.sz+oh ts
theorem Hn:∀a b:List Tr,oh (a++b)=oh a+oh b
 | [],b=>by simp [oh]
 | t::a,b=>by
  show t.sz+oh (a++b)=t.sz+oh a+oh b
  rw [Hn a b]
  ext
theorem YM{c:En->Option Bool}{F G:SF}{env:En}{Q:Fl×En->Prop}(h:c env=some true)(g:Wo (F env) Q):Wo (dg c F G env) Q:=by
 rw [a1u,h,a0g]
 exact ⟨λ_=>g,λz=>(nomatch z)⟩
theorem YL{c:En->Option Bool}{F G:SF}{env:En}{Q:Fl×En->Prop}(h:c env=some false)(g:Wo (G env) Q):Wo (dg c F G env) Q:=by
 rw [a1u,h,a0g]
 exact ⟨λz=>(nomatch z),λ_=>g⟩
theorem Um{i:Nat}{env:En}{xs:List D}{x:D}(h:env[i]?=some (.ow (xs++[x]))):wz i env=some (x,env.set i (.ow xs)):=by
 refine Wo.eq ?_
 rw [b7l,h,a9m]
 refine ⟨x,by simp,?_⟩
 simp
theorem TU{ts:List Tr}(h:ts≠[]):∃us a,ts=us++[a]:=by
 rcases List.eq_nil_or_concat ts with z | ⟨a,b,z⟩
 .exact (h z).elim
 .exact ⟨a,b,by rw [z,List.concat_eq_append]⟩
theorem YF{ts:List Tr}(h:1<ts.length):∃us a b,ts=us++[a,b]:=by
 obtain ⟨us,b,rfl⟩:=TU (ts:=ts) (λz=>by rw [z] at h;simp at h)
 obtain ⟨vs,a,rfl⟩:=TU (ts:=us) (λz=>by rw [z] at h;simp at h)
 exact ⟨vs,a,b,by simp⟩
theorem b6V(cs:List Int)(hc:cs.length<=9)(sc:Int)(hs:1<=sc/\sc<=10^38){r r2:Bool}:∃t:Tr,HI [.lst r2 (cs.map D.int),.int sc,.lst r [.str "only",.str "after",.str "fee"]]=some (.sh t.d)/\t.ok/\t.sz<=9:=by
 have key:Wo (HI [.lst r2 (cs.map D.int),.int sc,.lst r [.str "only",.str "after",.str "fee"]]) λx=>∃t:Tr,x=.sh t.d/\t.ok/\t.sz<=9:=by
  refine uh.mpr ?_
  unfold Vr
  walk_at "o1"
  refine Ef D.int (λpre env=>∃(ts:List Tr) (x4 x5 x6:Sl),env=[.sh (.lst r2 (cs.map D.int)),.sh (.int sc),.sh (.lst r [.str "only",.str "after",.str "fee"]),.ow (ts.map Tr.d),x4,x5,x6]/\(∀t∈ts,t.ok)/\oh ts<=pre.length/\ts.length<=pre.length) cs (λpre c post env e h=>?_) (λenv h=>?_) ⟨[],_,_,_,rfl,λ_ z=>(nomatch z),cT _,cT _⟩
  .obtain ⟨ts,x4,x5,x6,rfl,hf,hz,hl⟩:=h
   obtain ⟨k,ek,k0,k1⟩:=mB c 0 13 (by decide) (by decide)
   have MV:pre.length<9:=by
    have:=congrArg GJ e
    simp at this
    ext hc this
   have put:∀(us:List Tr) (u:Tr),(∀t∈us,t.ok)->u.ok->oh us+u.sz<=pre.length+1->us.length<=pre.length->(∀t∈us++[u],t.ok)/\oh (us++[u])<=(pre++[c]).length/\(us++[u]).length<=(pre++[c]).length:=λus u h1 h2 h3 h4=>by
    refine ⟨λz JJ=>?_,?_,?_⟩
    .rcases nj.mp JJ with q | q
     .exact h1 z q
     .rw [oZ.mp q];exact h2
    .rw [Hn]
     simp only [oh,fZ,GU]
     ext h3
    .simp only [fZ,GU]
     ext h4
   walk_at "o1"
   rw [ek]
   walk_at "o1"
   by_cases hb:8<k/\ts≠[]
   .obtain ⟨us,t,rfl⟩:=TU hb.2
    refine YM (Wo.eq ?_) ?_
    .walk_at "o1"
     rw [nA,fZ]
     refine ⟨λ_=>?_,λz=>(z hb.1).elim⟩
     simp
    .obtain ⟨kd,hkd,ekd⟩:∃kd:Str,(kd = "only" \/ kd = "after" \/ kd = "fee")/\L2.iK [D.str "only",D.str "after",D.str "fee"] (k%3)=some (.str kd):=by
      have:k%3=0\/k%3=1\/k%3=2:=by omega
      rcases this with h | h | h<;>rw [h]
      .exact ⟨_,.inl rfl,rfl⟩
      .exact ⟨_,.inr (.inl rfl),rfl⟩
      .exact ⟨_,.inr (.inr rfl),rfl⟩
     obtain ⟨u,eu,u1,u3⟩:=b4v t (hf t (by simp)) c sc hs kd hkd
     rw [Hn] at hz
     simp only [oh] at hz
     rw [fZ,GU] at hl
     rw [UP]
     simp only [Nz,Ta,a9m]
     rw [b3n,U1,Um (xs:=us.map Tr.d) (x:=t.d) (by rw [nA];rfl),a0g]
     simp only [Tc,NI]
     walk_at "o1"
     rw [ekd]
     walk_at "o1"
     rw [eu]
     walk_at "o1"
     exact ⟨by rw [eD];ext MV hl,us++[u],_,_,_,by rw [nA];rfl,put us u (λz q=>hf z (D2 _ q)) u1 (by ext hz u3) (by ext hl)⟩
   .refine YL (Wo.eq ?_) ?_
    .walk_at "o1"
     intro h9
     have:ts=[]:=XS.mp λz=>hb ⟨h9,z⟩
     rw [this]
     simp
    .by_cases J1:5<k/\1<ts.length
     .obtain ⟨us,a,b,rfl⟩:=YF J1.2
      refine YM (Wo.eq ?_) ?_
      .walk_at "o1"
       rw [eD]
       refine ⟨λ_=>?_,λz=>(z J1.1).elim⟩
       simp
       ext
      .have hsz:=Hn us [a,b]
       simp only [oh] at hsz
       rw [hsz] at hz
       rw [fZ] at hl
       simp only [jK,KY] at hl
       walk_at "o1"
       rw [show (CQ Tr.d (us++[a,b])).length-1=(us++[a,b]).length-1 by rw [eD],show (CQ Tr.d (us++[a,b]))[(us++[a,b]).length-1]?=some b.d by simp,a0g]
       rw [show (CQ Tr.d (us++[a,b])).dropLast=us.map Tr.d++[a.d] by simp]
       refine ⟨by decide,?_⟩
       rw [UP]
       simp only [Nz,Ta,a9m]
       rw [Z4,a9p]
       walk_at "o1"
       obtain ⟨kk,RO⟩:∃kk:Kd,L2.iK [D.str "plus",D.str "or",D.str "max"] (k%3)=some (.str (kk.w "plus" "or" "max")):=by
        have:k%3=0\/k%3=1\/k%3=2:=by omega
        rcases this with h | h | h<;>rw [h]
        .exact ⟨.a,rfl⟩
        .exact ⟨.b,rfl⟩
        .exact ⟨.c,rfl⟩
       rw [RO,a0g,U1,Um (xs:=us.map Tr.d) (x:=a.d) rfl,a0g]
       simp only [Tc,NI]
       walk_at "o1"
       exact ⟨by rw [eD];ext MV hl,us++[.two kk a b],_,_,_,by rw [nA];rfl,put us (.two kk a b) (λz q=>hf z (D2 _ q)) ⟨hf a (by simp),hf b (by simp)⟩ (by show oh us+(a.sz+b.sz)<=_;ext hz) (by ext hl)⟩
     .refine YL (Wo.eq ?_) ?_
      .walk_at "o1"
       rw [eD]
       intro h9
       have:¬1<ts.length:=λz=>J1 ⟨h9,z⟩
       simp
       ext this
      .obtain ⟨P,eP,hP⟩:=b9d c sc hs
       walk_at "o1"
       rw [eP]
       walk_at "o1"
       exact ⟨by rw [eD];ext hl MV,ts++[.lf P],_,_,_,by rw [nA];rfl,put ts (.lf P) hf hP (by show oh ts+1<=_;ext hz) hl⟩
  .obtain ⟨ts,x4,x5,x6,rfl,hf,hz,hl⟩:=h
   rw [a6I,a2f,Z5]
   refine O8 (λn env=>∃(ts:List Tr) (x4 x5 x6:Sl),env=[.sh (.lst r2 (cs.map D.int)),.sh (.int sc),.sh (.lst r [.str "only",.str "after",.str "fee"]),.ow (ts.map Tr.d),x4,x5,x6]/\(∀t∈ts,t.ok)/\oh ts<=9/\ts.length=n/\n<=9) (λn env h=>?_) 1000000 ts.length (by ext hc hl) ⟨ts,x4,x5,x6,rfl,hf,by ext hc hz,rfl,by ext hc hl⟩
   obtain ⟨ts,x4,x5,x6,rfl,hf,hz,hl,hn⟩:=h
   walk_at "o1"
   rw [eD]
   refine ⟨λh1=>?_,λh1=>?_⟩
   .obtain ⟨us,a,b,rfl⟩:=YF (ts:=ts) (by ext h1)
    have hsz:=Hn us [a,b]
    simp only [oh] at hsz
    rw [hsz] at hz
    rw [fZ] at hl
    simp only [jK,KY] at hl
    rw [show (CQ Tr.d (us++[a,b]))[(us++[a,b]).length-1]?=some b.d by simp,a0g]
    refine ⟨by decide,?_⟩
    rw [show (CQ Tr.d (us++[a,b])).dropLast=us.map Tr.d++[a.d] by simp]
    rw [UP]
    simp only [Nz,Ta,a9m]
    rw [Z4,a9p]
    walk_at "o1"
    generalize ((us.map Tr.d++[a.d]).length:Int)=m
    obtain ⟨kk,RO⟩:∃kk:Kd,L2.iK [D.str "or",D.str "plus",D.str "max",D.str "or"] (m%4)=some (.str (kk.w "plus" "or" "max")):=by
     have hm4:m%4=0\/m%4=1\/m%4=2\/m%4=3:=by omega
     rcases hm4 with h | h | h | h<;>rw [h]
     .exact ⟨.b,rfl⟩
     .exact ⟨.a,rfl⟩
     .exact ⟨.c,rfl⟩
     .exact ⟨.b,rfl⟩
    rw [RO,a0g,U1,Um (xs:=us.map Tr.d) (x:=a.d) rfl,a0g]
    simp only [Tc,NI]
    walk_at "o1"
    refine ⟨by rw [eD];ext hn hl,us.length+1,by ext hl,us++[.two kk a b],_,_,_,by rw [nA];rfl,λz JJ=>?_,?_,by simp,by ext hn hl⟩
    .rcases nj.mp JJ with q | q
     .exact hf z (D2 _ q)
     .rw [oZ.mp q];exact ⟨hf a (by simp),hf b (by simp)⟩
    .rw [Hn]
     simp only [oh,Tr.sz]
     ext hz
   .rw [N8,Li (by rfl)]
    cases ts with
    | nil =>
     walk_at "o1"
     refine ⟨by decide,(Pl.each 1 0 sc).d,rfl,.lf (.each 1 0 sc),rfl,?_,by show 1<=9;decide⟩
     simp only [Tr.ok,Pl.ok]
     ext hs
    | cons t us =>
     cases us with
     | nil =>
      walk_at "o1"
      simp only [oh] at hz
      exact ⟨by simp,t.d,rfl,t,rfl,hf t (by simp),by ext hz⟩
     | cons u us=>simp at h1;ext _ h1
 obtain ⟨x,e,t,rfl,h⟩:=key
 exact ⟨t,e,h⟩
theorem b4C{α:Type}(xs:List α):qt xs none (some (-1))=xs.dropLast:=by
 unfold qt
 rw [HT.pZ]
 have:HT.df xs.length xs.length (some (-1))=xs.length-1:=by
  show (if (-1:Int)<0 then ((-1:Int)+(xs.length:Int)).toNat else min (Int.toNat (-1)) xs.length)=_
  rw [if_pos (by decide)]
  ext
 rw [this,KE,Sk,S8]
theorem ZC{K:Type}{lt:K->K->Bool}(x:K):∀l:List K,(SE.ins lt x l).length<=l.length+1
 | []=>cT _
 | y::l=>by
  unfold SE.ins
  have:=ZC (lt:=lt) x l
  split
  .exact cT _
  .split<;>simp only [jK]<;>omega
theorem ZK{K:Type}{lt:K->K->Bool}:∀l:List K,(SE.pC lt l).length<=l.length
 | []=>cT _
 | x::l=>l9 (ZC x _) (Nat.succ_le_succ (ZK l))
theorem Zv{n:Nat}(x y:Str):cf n (.str x) (.str y)=some (decide (x=y)):=by cases n<;>rfl
theorem b3W(ks:List Str){a b:Bool}:CC (.lst a (ks.map D.str)) (.lst b (ks.map D.str))=some (.sh (.bl false)):=by
 unfold CC
 rw [Zu (enc:=D.str) λx y=>Zv x y]
 simp
theorem b4r(ks:List Str){a b:Bool}:bH (.lst a (ks.map D.str)) (.lst b (ks.map D.str))=some (.sh (.bl true)):=by
 unfold bH
 rw [Zu (enc:=D.str) λx y=>Zv x y]
 simp
theorem b6i(t:Tr):SE.pC SE.yI t.ra=Ci t:=SE.o5 SE.h7 (SE.jo SE.h7 _) (SE.jo SE.h7 _) λz=>by
 rw [SE.jn SE.h7,Zs,b6q]
theorem fin(ns:List Int)(Gx:ns.length<=63):Ot [.lst true (ns.map D.int)]=some (.sh (.bl true)):=by
 refine Wo.eq (Mj.mpr ?_)
 unfold TN
 walk_at "o1"
 rw [Kr _ _ (by decide)]
 walk_at "o1"
 refine ⟨by decide,by decide,?_⟩
 refine Zk [9,10^6,10^38] (GS _ (by decide)) (by have:=G0 (ns.getD 0 0) (show (0:Int)<3 by decide);simpa using this) λv hv=>?_
 have hb:1<=v/\v<=10^38:=by
  simp only [fB,rL,or_false] at hv
  ext hv
 obtain ⟨A,eA,hA,hF⟩:=b62 ns v hb
 obtain ⟨l,el,hl⟩:=b2Z ns Gx (r:=true)
 obtain ⟨t,et,ht,hz⟩:=b6V l hl v hb (r:=false) (r2:=false)
 obtain ⟨xs,ex,hxl,hxb⟩:=b1w hA hF t ht hz hb ns (r:=true)
 obtain ⟨rn,ern,hrn⟩:=b4w t 12 (by ext hz) (by decide)
 rw [eA]
 walk_at "o1"
 rw [el]
 walk_at "o1"
 rw [et]
 walk_at "o1"
 rw [b9a t 12 (by ext hz) ht]
 walk_at "o1"
 rw [show D.g0 Ck (A.map λf=>.tup (f.map Row.d))=Fm A from rfl,ex]
 walk_at "o1"
 refine Ef D.int (λpre env=>∃x5,env=[.sh (.lst true (ns.map D.int)),.sh (.int v),.sh (Fm A),.sh t.d,.sh t.o,x5,.no]) _ (λpre x post env e h=>?_) (λenv h=>?_) ⟨_,rfl⟩
 .obtain ⟨x5,rfl⟩:=h
  have hx:=hxb x (by rw [e];simp)
  walk_at "o1"
  rw [a1u]
  walk_at "o1"
  rw [b66 hA hF t ht (by ext hz) hx]
  walk_at "o1"
  rw [b67 hA hF t 12 (by ext hz) ht hx]
  walk_at "o1"
  rw [b89]
  walk_at "o1"
  exact ⟨_,rfl⟩
 .obtain ⟨x5,rfl⟩:=h
  walk_at "o1"
  rw [Vd,UT t (by ext hz)]
  walk_at "o1"
  have hn:(Ci t).length<=100000:=by
   have h1:=ZK (lt:=SE.yI) t.ns
   have h2:=Ui t
   unfold Ci
   ext hz h1 h2
  rw [<-a2f]
  refine eR ?_ ?_
  .refine Wo.eq ?_
   rw [b7h,Li (by rfl)]
   walk_at "o1"
   rw [b8C]
   walk_at "o1"
   rw [UO]
   walk_at "o1"
   rw [ern,a0g,hrn,T9,a8H _ (by have:=OD t;lia),a0g]
   walk_at "o1"
   rw [b6i,b3W]
   walk_at "o1"
   exact ⟨.sh (.bl true),by kernel_rfl,true,by kernel_rfl,λz=>(nomatch z)⟩
  .walk_at "o1"
   refine ⟨by rw [eD];ext hn,?_⟩
   rw [Vd,UT t (by ext hz)]
   walk_at "o1"
   rw [show (Ci t).map D.str++[D.str "zz"]=(Ci t++[("zz":Str)]).map D.str by rw [nA];rfl,US,b4C,List.dropLast_concat,b4r]
   walk_at "o1"
end My
namespace PySem.W.Fast
theorem tw8530820911769644162:True:=trivial
theorem tw2409540728335043599:True:=trivial
theorem tw14490433136255206183:True:=trivial
theorem tw16517246779015645974:True:=trivial
theorem tw1832537005960550363:True:=trivial
theorem tw16643330919038157863:True:=trivial
theorem tw7410129129552663516:True:=trivial
theorem tw16033593492253692224:True:=trivial
theorem tw5096387655401634254:True:=trivial
theorem tw17490652006021117179:True:=trivial
theorem tw15987049716983844840:True:=trivial
theorem tw1921170899176265642:True:=trivial
theorem tw1516326117174525711:True:=trivial
theorem tw6186293995488304046:True:=trivial
theorem tw71030188241039663:True:=trivial
theorem tw2875568796688532681:True:=trivial
theorem tw4183274752928793889:True:=trivial
theorem tw4573600030510578891:True:=trivial
theorem tw1435573000698681273:True:=trivial
theorem tw2696357948431951030:True:=trivial
theorem tw3832938332269210049:True:=trivial
theorem tw10835939843954964263:True:=trivial
theorem tw14892719110279416153:True:=trivial
theorem tw10258774507547847498:True:=trivial
theorem tw14235590047153433470:True:=trivial
theorem tw4056982725574625274:True:=trivial
theorem tw17350525883162713400:True:=trivial
theorem tw3644166096960512346:True:=trivial
theorem tw13392954139801793566:True:=trivial
theorem tw13497425132180394587:True:=trivial
theorem tw13203381074331113052:True:=trivial
theorem tw14212623663470373293:True:=trivial
theorem tw2993419341333906478:True:=trivial
theorem tw609526522072811166:True:=trivial
theorem tw6959340897929404946:True:=trivial
theorem tw12448008812039458619:True:=trivial
theorem tw5444316176137893167:True:=trivial
theorem tw380625465338724156:True:=trivial
theorem tw16885633688012536582:True:=trivial
theorem tw15508570222942050522:True:=trivial
theorem tw7524308459436380308:True:=trivial
theorem tw11820967394688765905:True:=trivial
theorem tw277525986214733438:True:=trivial
theorem tw3397668366451988837:True:=trivial
theorem tw11484498700642510553:True:=trivial
theorem tw6702600119577355089:True:=trivial
theorem tw3763386220846958284:True:=trivial
theorem tw7159186025146683139:True:=trivial
theorem tw17666417323194066343:True:=trivial
theorem tw5332323466858756616:True:=trivial
theorem tw9062657837216052966:True:=trivial
theorem tw6755550900405255448:True:=trivial
theorem tw8955590652504800123:True:=trivial
theorem tw3455045233683254155:True:=trivial
theorem tw12038604305786592268:True:=trivial
theorem tw9259940749549152830:True:=trivial
theorem tw13400769137945263048:True:=trivial
theorem tw4172562511824466222:True:=trivial
theorem tw8552287422157174950:True:=trivial
theorem tw16583681450318064760:True:=trivial
theorem tw8063098570151637081:True:=trivial
theorem tw9248744609404567594:True:=trivial
theorem tw4938643798630035493:True:=trivial
theorem tw9911803878274319788:True:=trivial
theorem tw3171397760170687553:True:=trivial
theorem tw17283176180282985380:True:=trivial
theorem tw14021258196214854289:True:=trivial
theorem tw12462904204975790698:True:=trivial
theorem tw5341019700469025288:True:=trivial
theorem tw5195906769588785607:True:=trivial
theorem tw11811648710169847605:True:=trivial
theorem tw13113465305589800131:True:=trivial
theorem tw14892070432371588903:True:=trivial
theorem tw15020617431945224095:True:=trivial
theorem tw10929350339073436768:True:=trivial
theorem tw2562910420206326257:True:=trivial
theorem tw1063371771784115091:True:=trivial
theorem tw9142358817103146004:True:=trivial
theorem tw353584008304444347:True:=trivial
theorem tw11315210985563909408:True:=trivial
theorem tw16550001899985069923:True:=trivial
theorem tw12387749720786762110:True:=trivial
theorem tw16943175680391204892:True:=trivial
theorem tw2058533891100822053:True:=trivial
theorem tw4334914204594936884:True:=trivial
theorem tw10816260672926057047:True:=trivial
theorem tw5560509601500724135:True:=trivial
theorem tw7777806920353719642:True:=trivial
theorem tw2964010563878397439:True:=trivial
theorem tw17432721870613416666:True:=trivial
theorem tw5201880020740150141:True:=trivial
theorem tw7455669852343584217:True:=trivial
theorem tw16982431311433106043:True:=trivial
theorem tw3794860021994315221:True:=trivial
theorem tw18065510815675645316:True:=trivial
theorem tw6750655946720993533:True:=trivial
theorem tw18101554173223198211:True:=trivial
theorem tw17774252272929770938:True:=trivial
theorem tw8943964152067984910:True:=trivial
theorem tw14105263431321577690:True:=trivial
theorem tw16679398860160117523:True:=trivial
theorem tw17339934895200226650:True:=trivial
theorem tw4408656064237688588:True:=trivial
theorem tw8576266977549633949:True:=trivial
theorem tw5524707684128607422:True:=trivial
theorem tw17428245976742685926:True:=trivial
theorem tw5289255224249635016:True:=trivial
theorem tw6682745378608756991:True:=trivial
theorem tw14937079183371797061:True:=trivial
theorem tw16700404122052438749:True:=trivial
theorem tw14731340190649851495:True:=trivial
theorem tw3729527599582417674:True:=trivial
theorem tw8851112231125945940:True:=trivial
theorem tw5473696662260524751:True:=trivial
theorem tw4823586382384887347:True:=trivial
theorem tw11910424435660125161:True:=trivial
theorem tw14184071887355734508:True:=trivial
theorem tw14031326037728970204:True:=trivial
theorem tw6983610724777225904:True:=trivial
theorem tw3507664642229352851:True:=trivial
theorem tw8975200614723439849:True:=trivial
theorem tw11569030507440006033:True:=trivial
theorem tw17713800043514371854:True:=trivial
theorem tw4391145206842821800:True:=trivial
theorem tw3728179945855521696:True:=trivial
theorem tw2545227085249362658:True:=trivial
theorem tw16106441487919315403:True:=trivial
theorem tw17753935697083122578:True:=trivial
theorem tw15216457500188233245:True:=trivial
theorem tw2570812597013084340:True:=trivial
theorem tw14769733742210822511:True:=trivial
theorem tw16287029926255273752:True:=trivial
theorem tw9554191352476326354:True:=trivial
theorem tw16704287494112414909:True:=trivial
theorem tw2999095898651944375:True:=trivial
theorem tw2965825992540024415:True:=trivial
theorem tw16622041249047254686:True:=trivial
theorem tw15277954730626277836:True:=trivial
theorem tw14062102339167478751:True:=trivial
theorem tw7977672262520544296:True:=trivial
theorem tw12256188194841809245:True:=trivial
theorem tw16878714429605057649:True:=trivial
theorem tw4665400811188641323:True:=trivial
theorem tw10920830162193349547:True:=trivial
theorem tw6778604602347784866:True:=trivial
theorem tw2446169276899316058:True:=trivial
theorem tw3765789278412639217:True:=trivial
theorem tw7158443041686537198:True:=trivial
theorem tw16135185921621588533:True:=trivial
theorem tw18049453699632642799:True:=trivial
theorem tw12947636012626283895:True:=trivial
theorem tw4154741212861751394:True:=trivial
theorem tw7901554026153855602:True:=trivial
theorem tw1262998235844327512:True:=trivial
theorem tw5862395146986010113:True:=trivial
theorem tw13813848076173538535:True:=trivial
theorem tw619708684548262042:True:=trivial
theorem tw6235969369275433931:True:=trivial
theorem tw596417566437645290:True:=trivial
theorem tw5330019879061500882:True:=trivial
theorem tw13763149467447134640:True:=trivial
theorem tw14935915128991437664:True:=trivial
theorem tw3682673901834646456:True:=trivial
theorem tw14929488316777902976:True:=trivial
theorem tw3506313550602896907:True:=trivial
theorem tw16072943967183765456:True:=trivial
theorem tw6703022256750406390:True:=trivial
theorem tw15015391643198649010:True:=trivial
theorem tw14125691062966588662:True:=trivial
theorem tw8708323736415817031:True:=trivial
theorem tw17387270610381426627:True:=trivial
theorem tw9746387272147503592:True:=trivial
theorem tw12810009326349069593:True:=trivial
theorem tw2711272486982773025:True:=trivial
theorem tw16251365222685340100:True:=trivial
theorem tw5487817772633150321:True:=trivial
theorem tw10956874877068308930:True:=trivial
theorem tw2512242767459883031:True:=trivial
theorem tw17814213218607216924:True:=trivial
theorem tw10006338183502844142:True:=trivial
theorem tw17073716740469593917:True:=trivial
theorem tw10671306599344102148:True:=trivial
theorem tw13195795153984038913:True:=trivial
theorem tw17942063098890371322:True:=trivial
theorem tw4595475807767274907:True:=trivial
theorem tw6020322050062035972:True:=trivial
theorem tw16665094901120446851:True:=trivial
theorem tw945016517058421194:True:=trivial
theorem tw10381968696022572564:True:=trivial
theorem tw12061660412970407937:True:=trivial
theorem tw8220608861196468059:True:=trivial
theorem tw6030218102346297779:True:=trivial
theorem tw6369583293262099388:True:=trivial
theorem tw4213414654656782093:True:=trivial
theorem tw14945962198797417525:True:=trivial
theorem tw11528144874192709816:True:=trivial
theorem tw5131821929973612717:True:=trivial
theorem tw16294556311078583005:True:=trivial
theorem tw10785811525247440990:True:=trivial
theorem tw17281686584192766131:True:=trivial
theorem tw3100856381398450606:True:=trivial
theorem tw1137337012000165705:True:=trivial
theorem tw18221274648914121726:True:=trivial
theorem tw3299251606433464516:True:=trivial
theorem tw7690751249937221776:True:=trivial
theorem tw17930777457726216133:True:=trivial
theorem tw14567979818461175895:True:=trivial
theorem tw11151324178372693815:True:=trivial
theorem tw6772768946458886241:True:=trivial
theorem tw4093899847792705888:True:=trivial
theorem tw9681494254034910682:True:=trivial
theorem tw18032465916356055404:True:=trivial
theorem tw2516057232803283160:True:=trivial
theorem tw402849923811462161:True:=trivial
theorem tw2277563943688272145:True:=trivial
theorem tw9989078668016289918:True:=trivial
theorem tw8736945344068057807:True:=trivial
theorem tw4719570266669055534:True:=trivial
theorem tw7698650548668673494:True:=trivial
theorem tw16818137663415548051:True:=trivial
theorem tw1280711789291219523:True:=trivial
theorem tw17967490807034188054:True:=trivial
theorem tw3003552774183737793:True:=trivial
theorem tw13961494395483577420:True:=trivial
theorem tw11555402072577220648:True:=trivial
theorem tw15077825925366717366:True:=trivial
theorem tw6750206187300879385:True:=trivial
theorem tw3430846478471539845:True:=trivial
theorem tw16598998770837854492:True:=trivial
theorem tw14003533881992362043:True:=trivial
theorem tw1779572091942670149:True:=trivial
theorem tw14004679411984709239:True:=trivial
theorem tw5937316661758544478:True:=trivial
theorem tw15864371858015230168:True:=trivial
theorem tw13572022690079868057:True:=trivial
theorem tw3055969432243147939:True:=trivial
theorem tw8974282393015017905:True:=trivial
theorem tw10753072267369175728:True:=trivial
theorem tw17650673340726468650:True:=trivial
theorem tw627887258745923471:True:=trivial
theorem tw2595516206654912115:True:=trivial
theorem tw45729123901166450:True:=trivial
theorem tw14124761923676198852:True:=trivial
theorem tw5344615838619915068:True:=trivial
theorem tw4659507273874601169:True:=trivial
theorem tw15783726502123447604:True:=trivial
theorem tw7187152321285930755:True:=trivial
theorem tw16638035066989011440:True:=trivial
theorem tw14668458313754945308:True:=trivial
theorem tw18268574306792286589:True:=trivial
theorem tw14215367172034161649:True:=trivial
theorem tw6678138481366435953:True:=trivial
theorem tw11730159430728603462:True:=trivial
theorem tw6969783957475011598:True:=trivial
theorem tw10102519774721684500:True:=trivial
theorem tw16882865200938733695:True:=trivial
theorem tw2044436549145699588:True:=trivial
theorem tw1758587561490674697:True:=trivial
theorem tw4632665960568470855:True:=trivial
theorem tw14395021711731612008:True:=trivial
theorem tw18119473262783890015:True:=trivial
theorem tw16431732765557025725:True:=trivial
theorem tw8444339691795085413:True:=trivial
theorem tw1726415276765703346:True:=trivial
theorem tw6092073097090436926:True:=trivial
theorem tw9645075331066207426:True:=trivial
theorem tw3895176494243534220:True:=trivial
theorem tw16665530533895519298:True:=trivial
theorem tw6824829754975079212:True:=trivial
theorem tw3574294769855599256:True:=trivial
theorem tw3429918641851539766:True:=trivial
theorem tw5800904608233831214:True:=trivial
theorem tw14070866167376333342:True:=trivial
theorem tw9299897294148650313:True:=trivial
theorem tw10685802729410853597:True:=trivial
theorem tw3616581989721320776:True:=trivial
theorem tw17831883942323894498:True:=trivial
theorem tw8340635195995837051:True:=trivial
theorem tw16032984788996463683:True:=trivial
theorem tw9957887909302870227:True:=trivial
theorem tw17544483038310856617:True:=trivial
theorem tw11113892355941799516:True:=trivial
theorem tw867525856756556198:True:=trivial
theorem tw7037835064129596907:True:=trivial
theorem tw100194574322080381:True:=trivial
theorem tw4445955670671849534:True:=trivial
theorem tw9164392401941223795:True:=trivial
theorem tw6027509643851029801:True:=trivial
theorem tw13068692656255438095:True:=trivial
theorem tw9444131806362591641:True:=trivial
theorem tw14440638044562856302:True:=trivial
theorem tw583257584377400743:True:=trivial
theorem tw16678607982693094941:True:=trivial
theorem tw7404280094175347613:True:=trivial
theorem tw18337413952985310913:True:=trivial
theorem tw7802806494714514448:True:=trivial
theorem tw11497387526532122119:True:=trivial
theorem tw11398119598096130413:True:=trivial
theorem tw10335653942218215651:True:=trivial
theorem tw14028121704812288032:True:=trivial
theorem tw13130132859062149666:True:=trivial
theorem tw4921456241585262344:True:=trivial
theorem tw4830791049731580472:True:=trivial
theorem tw7100260967268241288:True:=trivial
theorem tw13842276077876722050:True:=trivial
theorem tw7234998784440413626:True:=trivial
theorem tw1727010406869817344:True:=trivial
theorem tw16884167033300270809:True:=trivial
theorem tw14082596598659409063:True:=trivial
theorem tw850271430244767152:True:=trivial
theorem tw14578183319298477173:True:=trivial
theorem tw11111600605693881652:True:=trivial
theorem tw8782188679772519138:True:=trivial
theorem tw11977939654097013206:True:=trivial
theorem tw12405767727117282570:True:=trivial
theorem tw16224330672238892888:True:=trivial
theorem tw10476713891964344565:True:=trivial
theorem tw12742180523277943496:True:=trivial
theorem tw16155687217984421255:True:=trivial
theorem tw13175883905306490106:True:=trivial
theorem tw4540814282867539249:True:=trivial
theorem tw7499555598916723953:True:=trivial
theorem tw13013595082104148756:True:=trivial
theorem tw138116276088181275:True:=trivial
theorem tw17559675367675078686:True:=trivial
theorem tw3144162214888302248:True:=trivial
theorem tw15500173823076069794:True:=trivial
theorem tw6613426946901715857:True:=trivial
theorem tw8578003385134835868:True:=trivial
theorem tw7549889025449540392:True:=trivial
theorem tw4835870716710487149:True:=trivial
theorem tw3046187408568108994:True:=trivial
theorem tw4053462671767785704:True:=trivial
theorem tw7005457336911038737:True:=trivial
theorem tw5122260210013837136:True:=trivial
theorem tw9247620427670474246:True:=trivial
theorem tw6122537740101986314:True:=trivial
theorem tw13835793397151103162:True:=trivial
theorem tw10924445186072093271:True:=trivial
theorem tw17740643221952668102:True:=trivial
theorem tw12731560159581782809:True:=trivial
theorem tw11945759751665565366:True:=trivial
theorem tw12252352606009128297:True:=trivial
theorem tw15176129457499833107:True:=trivial
theorem tw17662428576592996185:True:=trivial
theorem tw6456554350125631255:True:=trivial
theorem tw5712925579363520347:True:=trivial
theorem tw1394120090802328158:True:=trivial
theorem tw18229323274345015721:True:=trivial
theorem tw16212746889397168417:True:=trivial
theorem tw15465448652721300884:True:=trivial
theorem tw17540189991530849212:True:=trivial
theorem tw5220595802984368219:True:=trivial
theorem tw7709945669571325041:True:=trivial
theorem tw4554311167717016945:True:=trivial
theorem tw12029122149523786435:True:=trivial
theorem tw17632010594458190706:True:=trivial
theorem tw18217183398715101694:True:=trivial
theorem tw12000508339854087100:True:=trivial
theorem tw9238625281454917831:True:=trivial
theorem tw7646837404511135269:True:=trivial
theorem tw17347268155469088251:True:=trivial
theorem tw11038726643877918300:True:=trivial
theorem tw14051346081628809246:True:=trivial
theorem tw14256453361078526533:True:=trivial
theorem tw10485198445229776863:True:=trivial
theorem tw15485445848776328536:True:=trivial
theorem tw17455760837513536935:True:=trivial
theorem tw9207823330600300899:True:=trivial
theorem tw9813546860715241786:True:=trivial
theorem tw1474999896796145063:True:=trivial
theorem tw997932041510341783:True:=trivial
theorem tw6665938858421951716:True:=trivial
theorem tw7932621568270925996:True:=trivial
theorem tw16967901988652784259:True:=trivial
theorem tw8295800988903879188:True:=trivial
theorem tw16406228483092175337:True:=trivial
theorem tw1016704158290924645:True:=trivial
theorem tw9929256579020226669:True:=trivial
theorem tw8483027752251122524:True:=trivial
theorem tw6661789214013202472:True:=trivial
theorem tw9610837194921328805:True:=trivial
theorem tw13712310513093741498:True:=trivial
theorem tw17131934002989988446:True:=trivial
theorem tw14633558778168632791:True:=trivial
theorem tw14934140819698574318:True:=trivial
theorem tw17931808901430273763:True:=trivial
theorem tw10289669386153060620:True:=trivial
theorem tw4957794798419225766:True:=trivial
theorem tw4461015102149581262:True:=trivial
theorem tw7931565787695800482:True:=trivial
theorem tw15183123884762812174:True:=trivial
theorem tw13791121749264056898:True:=trivial
theorem tw12955946315575564980:True:=trivial
theorem tw13083652703896041484:True:=trivial
theorem tw10916480818964655162:True:=trivial
theorem tw1048623108725843418:True:=trivial
theorem tw16551612688007412582:True:=trivial
theorem tw14519420842870801369:True:=trivial
theorem tw671291098515842725:True:=trivial
theorem tw1916153747145439466:True:=trivial
theorem tw6793124342529681234:True:=trivial
theorem tw3486580047998214697:True:=trivial
theorem tw13630968470532378296:True:=trivial
theorem tw13626586916164240408:True:=trivial
theorem tw11814822025028046045:True:=trivial
theorem tw1887437109538695550:True:=trivial
theorem tw8180360455484292473:True:=trivial
theorem tw10467333771822880376:True:=trivial
theorem tw1597237210185168297:True:=trivial
theorem tw15311173369410785547:True:=trivial
theorem tw13830283603389296354:True:=trivial
theorem tw4265208382545420347:True:=trivial
theorem tw5985094516862035135:True:=trivial
theorem tw11984452511003240007:True:=trivial
theorem tw11525903367299020361:True:=trivial
theorem tw11935301112745639648:True:=trivial
theorem tw10468334433390019743:True:=trivial
theorem tw15077496447108959592:True:=trivial
theorem tw3743025682620915577:True:=trivial
theorem tw8204643720714038161:True:=trivial
theorem tw17648006833502212309:True:=trivial
theorem tw11578741474527927198:True:=trivial
theorem tw5389970332640603343:True:=trivial
theorem tw5804182793427018891:True:=trivial
theorem tw5235512710166084233:True:=trivial
theorem tw1453495264740686891:True:=trivial
theorem tw10729814950416838005:True:=trivial
theorem tw17351845754528029692:True:=trivial
theorem tw9848450541522292952:True:=trivial
theorem tw510258754294891610:True:=trivial
theorem tw1772923565154050397:True:=trivial
theorem tw6609174341171023285:True:=trivial
theorem tw15344544307761502141:True:=trivial
theorem tw4411198730171431498:True:=trivial
theorem tw13218573702156474371:True:=trivial
theorem tw15339197339600316931:True:=trivial
theorem tw13209376440886767012:True:=trivial
theorem tw4604333857695515404:True:=trivial
theorem tw5439589781768818426:True:=trivial
theorem tw15460386430340532726:True:=trivial
theorem tw16676147749746997332:True:=trivial
theorem tw7701708327120166463:True:=trivial
theorem tw7223531845431841975:True:=trivial
theorem tw2252773573200685034:True:=trivial
theorem tw4391757794823227432:True:=trivial
theorem tw5341962060994857808:True:=trivial
theorem tw5732404873531651058:True:=trivial
theorem tw3506031898506573328:True:=trivial
theorem tw5484474029895297928:True:=trivial
theorem tw18032583342741390917:True:=trivial
theorem tw10850173045803350386:True:=trivial
theorem tw13747409813210793158:True:=trivial
theorem tw1138920771353825824:True:=trivial
theorem tw11833660392757048051:True:=trivial
theorem tw6900806977682317297:True:=trivial
theorem tw5817151763623958453:True:=trivial
theorem tw17247855621050826303:True:=trivial
theorem tw5946725651908572781:True:=trivial
theorem tw10857380101555271419:True:=trivial
theorem tw3796602914672785808:True:=trivial
theorem tw18437040418264124310:True:=trivial
theorem tw6383830866667653051:True:=trivial
theorem tw2245238046518621475:True:=trivial
theorem tw11890013625089706183:True:=trivial
theorem tw14683773545692083828:True:=trivial
theorem tw6017027509940910177:True:=trivial
theorem tw2708106744329463762:True:=trivial
theorem tw11417214890360699172:True:=trivial
theorem tw10941497984632700319:True:=trivial
theorem tw12404540547371479164:True:=trivial
theorem tw15355111242960728803:True:=trivial
theorem tw3265905580993346121:True:=trivial
theorem tw591733292124974680:True:=trivial
theorem tw9358386993826214210:True:=trivial
theorem tw7186473952391792931:True:=trivial
theorem tw786824943335648940:True:=trivial
theorem tw2402498541215572855:True:=trivial
theorem tw17287081752985961009:True:=trivial
theorem tw9371827201209078583:True:=trivial
theorem tw6223022615274279524:True:=trivial
theorem tw10473060345163538284:True:=trivial
theorem tw705001963402452284:True:=trivial
theorem tw3051688838451810161:True:=trivial
theorem tw15864028246226433351:True:=trivial
theorem tw17139763324261231743:True:=trivial
theorem tw9381090386867989587:True:=trivial
theorem tw12248639716467398206:True:=trivial
theorem tw2020779973653883456:True:=trivial
theorem tw4041612535892453317:True:=trivial
theorem tw15988588464304953947:True:=trivial
theorem tw8192076675360343636:True:=trivial
theorem tw4340986066382491079:True:=trivial
theorem tw18071658062520024086:True:=trivial
theorem tw2172387368431661143:True:=trivial
theorem tw10265822094390478943:True:=trivial
theorem tw3110051634606554527:True:=trivial
theorem tw1586114496131957186:True:=trivial
theorem tw10959043305337437057:True:=trivial
theorem tw8969733393444898617:True:=trivial
theorem tw7837787187239376829:True:=trivial
theorem tw16269767523722238785:True:=trivial
theorem tw3424222719858951590:True:=trivial
theorem tw14733495392431903228:True:=trivial
theorem tw15275381458367018862:True:=trivial
theorem tw6255289368199444288:True:=trivial
theorem tw4869989574749644248:True:=trivial
theorem tw11510046898529469794:True:=trivial
theorem tw8769029112402435045:True:=trivial
theorem tw1948823879937235697:True:=trivial
theorem tw1889126185223324354:True:=trivial
theorem tw130593985177192815:True:=trivial
theorem tw1146372475875080758:True:=trivial
theorem tw11576931355186322512:True:=trivial
theorem tw7725334384758506764:True:=trivial
theorem tw12444141871749568489:True:=trivial
theorem tw17403465410839723633:True:=trivial
theorem tw12990813573236379120:True:=trivial
theorem tw12762270515057669441:True:=trivial
theorem tw6228540966046865797:True:=trivial
theorem tw13580902157891353174:True:=trivial
theorem tw2163947139933019518:True:=trivial
theorem tw4182254226317227015:True:=trivial
theorem tw3703266477196382452:True:=trivial
theorem tw2473505870319794646:True:=trivial
theorem tw17677802804272717233:True:=trivial
theorem tw7233932018908438202:True:=trivial
theorem tw4796101912361506776:True:=trivial
theorem tw15678389400490674635:True:=trivial
theorem tw7018879322971673844:True:=trivial
theorem tw13383289397598784092:True:=trivial
theorem tw6841730214298368150:True:=trivial
theorem tw7915846314338943864:True:=trivial
theorem tw15908499361192528680:True:=trivial
theorem tw10985924097906826990:True:=trivial
theorem tw16538573223217391136:True:=trivial
theorem tw8063163758743500482:True:=trivial
theorem tw17720195245908382097:True:=trivial
theorem tw12716873491412902255:True:=trivial
theorem tw12227404150805548667:True:=trivial
theorem tw13487191404337388027:True:=trivial
theorem tw1050041585525885612:True:=trivial
theorem tw10062887917833387806:True:=trivial
theorem tw5925044455155542884:True:=trivial
theorem tw8308054182607862276:True:=trivial
theorem tw6177763723297623382:True:=trivial
theorem tw31812412148794919:True:=trivial
theorem tw9175905448795123363:True:=trivial
theorem tw1554801093591419504:True:=trivial
theorem tw17075484175967432314:True:=trivial
theorem tw11934485065521842102:True:=trivial
theorem tw5355856667429128636:True:=trivial
theorem tw1417427361356376579:True:=trivial
theorem tw2134132466404286797:True:=trivial
theorem tw10642328244393500061:True:=trivial
theorem tw11487408121142001073:True:=trivial
theorem tw1303791155735628964:True:=trivial
theorem tw8974124118274044783:True:=trivial
theorem tw16507029700373383319:True:=trivial
theorem tw1582643716415984858:True:=trivial
theorem tw4836088023547712721:True:=trivial
theorem tw12214561574956087722:True:=trivial
theorem tw3462108707772889412:True:=trivial
theorem tw9542546304600482757:True:=trivial
theorem tw8408733660179207964:True:=trivial
theorem tw15759416694749111027:True:=trivial
theorem tw2800210715275789406:True:=trivial
theorem tw15920942512284180710:True:=trivial
theorem tw17334945117712529145:True:=trivial
theorem tw135519246212617906:True:=trivial
theorem tw1986388988947196529:True:=trivial
theorem tw17852809558136017767:True:=trivial
theorem tw15265570281627306557:True:=trivial
theorem tw17672325650939513413:True:=trivial
theorem tw15382829150717609317:True:=trivial
theorem tw15845509521060422893:True:=trivial
theorem tw10159569406396163205:True:=trivial
theorem tw16332545253941982850:True:=trivial
theorem tw12365568966685603871:True:=trivial
theorem tw8084455396202446508:True:=trivial
theorem tw6433163785778508373:True:=trivial
theorem tw18412145042904539545:True:=trivial
theorem tw13121323989476119560:True:=trivial
theorem tw8608620240876772209:True:=trivial
theorem tw17128710297911923607:True:=trivial
theorem tw9029424776804506400:True:=trivial
theorem tw11996341945160633303:True:=trivial
theorem tw3522252121438479976:True:=trivial
theorem tw3256859169907942026:True:=trivial
theorem tw5365696536182629321:True:=trivial
theorem tw6680938828861563723:True:=trivial
theorem tw961468983142685200:True:=trivial
theorem tw2492351637933444745:True:=trivial
theorem tw15521335017301867516:True:=trivial
theorem tw6404092865574228440:True:=trivial
theorem tw6423940383816653075:True:=trivial
theorem tw6257580164367754871:True:=trivial
theorem tw4029319956886526030:True:=trivial
theorem tw14482487785845075486:True:=trivial
theorem tw1956318190880167859:True:=trivial
theorem tw15373593058265276043:True:=trivial
theorem tw11879353650643056603:True:=trivial
theorem tw10249702421170962984:True:=trivial
theorem tw524895152103990560:True:=trivial
theorem tw8679902508619056624:True:=trivial
theorem tw6462036979861450991:True:=trivial
theorem tw5954251644775444956:True:=trivial
theorem tw7426724494857532838:True:=trivial
end PySem.W.Fast
open PySem PySem.W PyProof.Rows
set_option maxRecDepth 100000 in
set_option maxHeartbeats 0 in
theorem PySem.Challenge.cw_offerhouse_k34_made_of_others_holds : PySem.Challenge.rw_offerhouse_k34_made_of_others.Holds := by
  w_on; o_law; k_head; (case hw => w_witness2)
  k_fill
  refine DL.zF (l := PySem.Challenge.rw_offerhouse_k34_made_of_others) (k := 51) ⟨rfl, by decide, by decide⟩ rfl rfl (ts := []) (fun w h Y => ⟨PySem.W.kIn_of Y, fun _ z => nomatch z⟩) (fun w => by kernel_rfl) ?F
  case F =>
    intro w mg fa h KX G JM
    refine' My.all_mk KX G JM ?x0 ?x1 ?x2 ?x3 ?x4 ?x5 ?x6 ?x7 ?x8 ?x9 ?xa ?xb ?xc ?xd ?xe ?xf ?xg ?xh ?xi ?xj ?xk ?xl ?xm ?xn ?xo ?xp ?xq ?xr ?xs ?xt ?xu ?xv ?xw ?xx ?xy ?xz ?x10 ?x11 ?x12 ?x13 ?x14 ?x15 ?x16 ?x17 ?x18 ?x19 ?x1a ?x1b ?x1c ?x1d ?x1e ?x1f ?x1g ?x1h ?x1i ?x1j ?x1k ?x1l ?x1m ?x1n ?x1o ?x1p ?x1q ?x1r ?x1s ?x1t ?x1u ?x1v ?x1w ?x1x ?x1y ?x1z ?x20 ?x21 ?x22 ?x23 ?x24 ?x25 ?x26 ?x27 ?x28 ?x29 ?x2a ?x2b ?x2c ?x2d ?x2e ?x2f ?x2g ?x2h ?x2i ?x2j ?x2k ?x2l ?x2m ?x2n ?x2o ?x2p ?x2q ?x2r ?x2s ?x2t ?x2u ?x2v ?x2w ?x2x ?x2y ?x2z ?x30 ?x31 ?x32 ?x33 ?x34 ?x35 ?x36 ?x37 ?x38 ?x39 ?x3a ?x3b ?x3c ?x3d ?x3e ?x3f ?x3g ?x3h ?x3i ?x3j ?x3k ?x3l ?x3m ?x3n ?x3o ?x3p ?x3q ?x3r ?x3s ?x3t ?x3u ?x3v ?x3w ?x3x ?x3y ?x3z ?x40 ?x41 ?x42 ?x43 ?x44 ?x45 ?x46 ?x47 ?x48 ?x49 ?x4a ?x4b ?x4c ?x4d ?x4e ?x4f ?x4g ?x4h ?x4i ?x4j ?x4k ?x4l ?x4m ?x4n ?x4o ?x4p ?x4q ?x4r ?x4s ?x4t ?x4u ?x4v ?x4w ?x4x ?x4y ?x4z ?x50 ?x51 ?x52 ?x53 ?x54 ?x55 ?x56 ?x57 ?x58 ?x59 ?x5a ?x5b ?x5c ?x5d ?x5e ?x5f ?x5g ?x5h ?x5i ?x5j ?x5k ?x5l ?x5m ?x5n ?x5o ?x5p ?x5q ?x5r ?x5s ?x5t ?x5u ?x5v ?x5w ?x5x ?x5y ?x5z ?x60 ?x61 ?x62 ?x63 ?x64 ?x65 ?x66 ?x67 ?x68 ?x69 ?x6a
    (case x0|x1|x2|x3|x4|x5|x6|x7|x8|x9|xa|xb|xc|xd|xe|xf|xg|xh|xi|xj|xk|xl|xm|xn|xo => constructor <;> k_is)
    (case xp|xq|xr|xs|xt|xu|xv|xw|xx|xy|xz|x10|x11|x12 => k_is)
    (case x13|x1d|x1n|x1w|x25|x2f|x2n|x2x|x37|x3h|x3r|x40 => exact ⟨by k_is, by k_is, by k_is, by k_is, by k_is⟩)
    (case x14|x1e|x1o|x1x|x26|x2g|x2o|x2y|x38|x3i|x3s|x41 => constructor <;> k_is)
    (case x15|x16|x17|x1f|x1g|x1h|x1p|x1y|x27|x28|x29|x2h|x2p|x2q|x2z|x30|x39|x3a|x3j|x3k|x3l|x3t|x3u|x42|x43 => unfold L2.av; k_is)
    (case x18|x19|x1a|x1b|x1c|x1i|x1j|x1k|x1l|x1m|x1q|x1r|x1s|x1t|x1u|x1v|x1z|x20|x21|x22|x23|x24|x2a|x2b|x2c|x2d|x2e|x2i|x2j|x2k|x2l|x2m|x2r|x2s|x2t|x2u|x2v|x2w|x31|x32|x33|x34|x35|x36|x3b|x3c|x3d|x3e|x3f|x3g|x3m|x3n|x3o|x3p|x3q|x3v|x3w|x3x|x3y|x3z|x44|x45|x46|x47|x48 => constructor <;> k_is)
    (case x49|x4a => k_is)
    (case x4b|x4c => kernel_rfl)
    (case x4d|x4e|x4f|x4g|x4h|x4i|x4j|x4k|x4l|x4m|x4n|x4o|x4p|x4q|x4r|x4s|x4t|x4u|x4v|x4w|x4x|x4y|x4z|x50|x51|x52|x53|x54|x55|x56|x57 => constructor <;> k_is)
    (case x58|x59|x5a|x5b => k_is)
    (case x5c => kernel_rfl)
    (case x5d|x5e => k_is)
    (case x5f => kernel_rfl)
    (case x5g|x5h => k_is)
    (case x5i => kernel_rfl)
    (case x5j|x5k => k_is)
    (case x5l => kernel_rfl)
    (case x5m|x5n => k_is)
    (case x5o => kernel_rfl)
    (case x5p|x5q => k_is)
    (case x5r => kernel_rfl)
    (case x5s|x5t => k_is)
    (case x5u => kernel_rfl)
    (case x5v|x5w => k_is)
    (case x5x => kernel_rfl)
    (case x5y|x5z => k_is)
    (case x60 => kernel_rfl)
    (case x61|x62 => k_is)
    (case x63 => kernel_rfl)
    (case x64|x65 => k_is)
    (case x66 => kernel_rfl)
    (case x67|x68 => k_is)
    (case x69 => kernel_rfl)
    (case x6a => exact My.fin)
