import PyProof.Rows.All
import Wide.All
import OpenK.AllK
import Wide.FinOn
import Lean
import PyProof.EqAt
import PyProof.EqKinds
import PyProof.TupleCall
import PySem.Challenge.RW_offerhouse_k50_whole_at_every_amount
set_option Elab.async false
set_option linter.all false
set_option synthInstance.maxSize 10000
set_option synthInstance.maxHeartbeats 60000
namespace QA
inductive E | v (i:Nat) | k (n:Nat) | i (z:Int) | u (b:Bool) (x y:E) | a (x y:E) | s (x y:E) | n (x:E) | m (s:Bool) (n:Nat) (z:Int) (x:E) | c (x:E)
inductive F | le (d t:Bool) (x y:E) | eq (t:Bool) (x y:E) | ff | no (f:F) | an (f g:F) | or (f g:F) | im (f g:F) | io (f g:F)
structure C where
  i:List Int
  n:List Nat
noncomputable def gi:List Int->Nat->Int
  | [],_=>0
  | x::_,0=>x
  | _::l,i+1=>gi l i
noncomputable def gn:List Nat->Nat->Nat
  | [],_=>0
  | x::_,0=>x
  | _::l,i+1=>gn l i
noncomputable def den (c:C):E->Nat × Int
  | .v i=>(gn c.n i,gi c.i i)
  | .k n=>(n,0)
  | .i z=>(0,z)
  | .u b x y=>(cond b (max (den c x).1 (den c y).1) (min (den c x).1 (den c y).1),cond b (max (den c x).2 (den c y).2) (min (den c x).2 (den c y).2))
  | .a x y=>((den c x).1+(den c y).1,(den c x).2+(den c y).2)
  | .s x y=>((den c x).1 - (den c y).1,(den c x).2 - (den c y).2)
  | .n x=>(0,- (den c x).2)
  | .m s n z x=>(cond s (n * (den c x).1) ((den c x).1 * n),cond s (z * (den c x).2) ((den c x).2 * z))
  | .c x=>((den c x).2.toNat,((den c x).1:Int))
noncomputable def dF (c:C):F->Prop
  | .le d t x y=>cond d (cond t ((den c x).1 < (den c y).1) ((den c x).2 < (den c y).2)) (cond t ((den c x).1<=(den c y).1) ((den c x).2<=(den c y).2))
  | .eq t x y=>cond t ((den c x).1=(den c y).1) ((den c x).2=(den c y).2)
  | .ff=>False
  | .no f=>¬ dF c f
  | .an f g=>dF c f/\dF c g
  | .or f g=>dF c f ∨ dF c g
  | .im f g=>dF c f->dF c g
  | .io f g=>(dF c f ↔ dF c g)
noncomputable def ev (r:Nat->Int):List Int->Int
  | []=>0
  | c::l=>c * r 0+ev (λi=>r (i+1)) l
noncomputable def ad:List Int->List Int->List Int
  | [],m=>m
  | x::l,[]=>x::l
  | x::l,y::m=>Int.add x y::ad l m
noncomputable def sc (k:Int):List Int->List Int
  | []=>[]
  | x::l=>Int.mul k x::sc k l
theorem ev_ad:∀ (l m:List Int) (r:Nat->Int),ev r (ad l m)=ev r l+ev r m
  | [],m,r=>(Int.zero_add _).symm
  | x::l,[],r=>(Int.add_zero _).symm
  | x::l,y::m,r=>by
    show (x+y) * r 0+ev _ (ad l m)=(x * r 0+ev _ l)+(y * r 0+ev _ m)
    rw [ev_ad l m,Int.add_mul];omega
theorem ev_sc (k:Int):∀ (l:List Int) (r:Nat->Int),ev r (sc k l)=k * ev r l
  | [],r=>(Int.mul_zero k).symm
  | x::l,r=>by
    show k * x * r 0+ev _ (sc k l)=k * (x * r 0+ev _ l)
    rw [ev_sc k l,Int.mul_add,Int.mul_assoc]
noncomputable def zz:List Int->List Int
  | []=>[]
  | k::l=>k::0::0::l
noncomputable def ui:Nat->List Int
  | 0=>[0,1]
  | i+1=>zz (ui i)
noncomputable def un:Nat->List Int
  | 0=>[0,0,1]
  | i+1=>zz (un i)
noncomputable def rr (c:C):Nat->Nat->Int
  | j,0=>gi c.i j
  | j,1=>(gn c.n j:Int)
  | j,i+2=>rr c (j+1) i
noncomputable def rho (c:C) (j:Nat):Nat->Int
  | 0=>1
  | i+1=>rr c j i
theorem ev_zz {c:C} {j:Nat}:∀ l,ev (rho c j) (zz l)=ev (rho c (j+1)) l
  | []=>rfl
  | k::l=>by
    show k * 1+(0 * _+(0 * _+ev _ l))=k * 1+ev _ l
    rw [Int.zero_mul,Int.zero_mul,Int.zero_add,Int.zero_add];rfl
theorem ev_ui {c:C}:∀ (i j:Nat),ev (rho c j) (ui i)=gi c.i (j+i)
  | 0,j=>by show 0 * _+(1 * gi c.i j+0)=gi c.i j;omega
  | i+1,j=>by show ev _ (zz _)=_;rw [ev_zz,ev_ui i];congr 1;omega
theorem ev_un {c:C}:∀ (i j:Nat),ev (rho c j) (un i)=(gn c.n (j+i):Int)
  | 0,j=>by show 0 * _+(0 * _+(1 * (gn c.n j:Int)+0))=(gn c.n j:Int);omega
  | i+1,j=>by show ev _ (zz _)=_;rw [ev_zz,ev_un i];congr 2;omega
noncomputable def ge (k:Int) (x y:List Int):List Int:=ad [k] (ad y (sc (-1) x))
theorem ev_ge {c:C} {k:Int} {x y:List Int}:ev (rho c 0) (ge k x y)=k+ev (rho c 0) y - ev (rho c 0) x:=by
  unfold ge;rw [ev_ad,ev_ad,ev_sc];show k * 1+0+_=_;omega
noncomputable def Al (r:Nat->Int) (l:List (List Int)):Prop:=∀ x∈l,0<=ev r x
theorem al_c {r:Nat->Int} {x:List Int} {l:List (List Int)} (h:0<=ev r x) (hl:Al r l):Al r (x::l):=List.forall_mem_cons.mpr ⟨h,hl⟩
theorem al_n {r:Nat->Int}:Al r []:=λ_ h=>nomatch h
theorem al_a {r:Nat->Int} {l m:List (List Int)} (h:Al r l) (hl:Al r m):Al r (l++m):=λx hx=>(List.mem_append.mp hx).elim (h x) (hl x)
noncomputable abbrev A:=List Int × List (List Int)
noncomputable def G (c:C) (P:List A) (v:Int):Prop:=∃ q∈P,ev (rho c 0) q.1=v/\Al (rho c 0) q.2
noncomputable def cp (P Q:List A) (f:List Int->List Int->List A):List A:=P.flatMap λp=>Q.flatMap λq=>(f p.1 q.1).map λr=>(r.1,r.2++(p.2++q.2))
theorem cp_ok {c:C} {P Q:List A} {f:List Int->List Int->List A} {x y v:Int} (hx:G c P x) (hy:G c Q y) (hf:∀ l m,ev (rho c 0) l=x->ev (rho c 0) m=y->G c (f l m) v):G c (cp P Q f) v:=by
  obtain ⟨p,p1,p2,p3⟩:=hx;obtain ⟨q,q1,q2,q3⟩:=hy;obtain ⟨r,r1,r2,r3⟩:=hf _ _ p2 q2
  exact ⟨_,List.mem_flatMap.mpr ⟨p,p1,List.mem_flatMap.mpr ⟨q,q1,List.mem_map.mpr ⟨r,r1,rfl⟩⟩⟩,r2,al_a r3 (al_a p3 q3)⟩
noncomputable def e0:List A:=[([],[])]
noncomputable def li:E->Bool->List A
  | .v i,t=>[(cond t (un i) (ui i),[])]
  | .k n,t=>[(cond t [(n:Int)] [],[])]
  | .i z,t=>[(cond t [] [z],[])]
  | .u b x y,t=>cp (li x t) (li y t) λl m=>[(cond b l m,[ge 0 m l]),(cond b m l,[ge 0 l m])]
  | .a x y,t=>cp (li x t) (li y t) λl m=>[(ad l m,[])]
  | .s x y,t=>cp (li x t) (li y t) λl m=>(ge 0 m l,cond t [ge 0 m l] [])::cond t [([],[ge 0 l m])] []
  | .n x,t=>cp (li x t) e0 λl _=>[(cond t [] (sc (-1) l),[])]
  | .m _ n z x,t=>cp (li x t) e0 λl _=>[(sc (cond t (n:Int) z) l,[])]
  | .c x,t=>cp (li x (!t)) e0 λl _=>(l,cond t [l] [])::cond t [([],[ge 0 l []])] []
noncomputable def va (c:C) (t:Bool) (e:E):Int:=cond t ((den c e).1:Int) (den c e).2
theorem g1 {c:C} {l:List Int} {v:Int} {L:List A} {k:List (List Int)} (h:ev (rho c 0) l=v) (hk:Al (rho c 0) k):G c ((l,k)::L) v:=⟨_,List.mem_cons_self ..,h,hk⟩
theorem g2 {c:C} {q:A} {v:Int} {L:List A} (h:G c L v):G c (q::L) v:=h.elim λx hx=>⟨x,List.mem_cons_of_mem _ hx.1,hx.2⟩
theorem ge_1 {c:C} {l m:List Int} {x y:Int} (hx:ev (rho c 0) l=x) (hy:ev (rho c 0) m=y) (h:y<=x):Al (rho c 0) [ge 0 m l]:=al_c (by rw [ev_ge];omega) al_n
theorem li_ok {c:C} (e:E):∀ (t:Bool),G c (li e t) (va c t e):=by
  have z0:G c e0 0:=g1 rfl al_n
  have k1:∀ k,ev (rho c 0) [k]=k:=λk=>by show k * 1+0=k;omega
  induction e with
  | v i=>intro t;cases t <;> exact g1 ((by first | exact ev_ui i 0 | exact ev_un i 0:ev _ _=_).trans (by rw [Nat.zero_add];rfl)) al_n
  | k n=>intro t;cases t;exact g1 rfl al_n;exact g1 (k1 _) al_n
  | i z=>intro t;cases t;exact g1 (k1 _) al_n;exact g1 rfl al_n
  | u b x y hx hy =>
    intro t;refine cp_ok (hx t) (hy t) λl m e1 e2=>?_
    rcases Int.le_total (va c t y) (va c t x) with h | h
    · refine g1 ?_ (ge_1 e1 e2 h)
      cases t <;> cases b <;> (show ev _ _=_;simp only [cond_true,cond_false];first | rw [e1] | rw [e2]) <;> (simp only [va,den,cond_true,cond_false] at *;omega)
    · refine g2 (g1 ?_ (ge_1 e2 e1 h))
      cases t <;> cases b <;> (show ev _ _=_;simp only [cond_true,cond_false];first | rw [e1] | rw [e2]) <;> (simp only [va,den,cond_true,cond_false] at *;omega)
  | a x y hx hy =>
    intro t;refine cp_ok (hx t) (hy t) λl m e1 e2=>g1 ?_ al_n
    rw [ev_ad,e1,e2];cases t <;> simp only [va,den,cond_true,cond_false];omega
  | s x y hx hy =>
    intro t;refine cp_ok (hx t) (hy t) λl m e1 e2=>?_
    cases t with
    | false=>exact g1 (by rw [ev_ge,e1,e2];simp only [va,den,cond_false];omega) al_n
    | true =>
      rcases Int.le_total (va c true y) (va c true x) with h | h
      · exact g1 (by rw [ev_ge,e1,e2];simp only [va,den,cond_true] at *;omega) (ge_1 e1 e2 h)
      · exact g2 (g1 (by show (0:Int)=_;simp only [va,den,cond_true] at *;omega) (ge_1 e2 e1 h))
  | n x hx =>
    intro t;refine cp_ok (hx t) z0 λl m e1 e2=>g1 ?_ al_n
    cases t with
    | false=>show ev _ (sc _ _)=_;rw [ev_sc,e1];simp only [va,den,cond_false];omega
    | true=>rfl
  | m s n z x hx =>
    intro t;refine cp_ok (hx t) z0 λl m e1 e2=>g1 ?_ al_n
    rw [ev_sc,e1];cases t <;> cases s <;> simp only [va,den,cond_true,cond_false,Int.natCast_mul,Int.mul_comm]
  | c x hx =>
    intro t;refine cp_ok (hx (!t)) z0 λl m e1 e2=>?_
    cases t with
    | false=>exact g1 e1 al_n
    | true =>
      rcases Int.le_total 0 (va c false x) with h | h
      · exact g1 (by rw [e1];simp only [va,den,cond_true,cond_false,Bool.not_true] at *;omega) (al_c (by rw [e1];exact h) al_n)
      · exact g2 (g1 (by show (0:Int)=_;simp only [va,den,cond_true,cond_false] at *;omega) (ge_1 rfl e1 h))
noncomputable def sg:Int->Ordering
  | .ofNat 0=>.eq
  | .ofNat _=>.gt
  | .negSucc _=>.lt
noncomputable abbrev B:=Int × Int × List Int
structure P3 where
  p:List B
  n:List B
  z:List (List Int)
noncomputable def p1 (k a:Int) (r:List Int) (q:P3):Ordering->P3
  | .eq=>⟨q.p,q.n,(k::r)::q.z⟩
  | .gt=>⟨(a,k,r)::q.p,q.n,q.z⟩
  | .lt=>⟨q.p,(Int.neg a,k,r)::q.n,q.z⟩
noncomputable def ex:Nat->List Int->Int × List Int
  | _,[]=>(0,[])
  | 0,a::l=>(a,l)
  | j+1,a::l=>((ex j l).1,a::(ex j l).2)
noncomputable def p2 (j:Nat) (q:P3):List Int->P3
  | []=>q
  | k::l=>p1 k (ex j l).1 (ex j l).2 q (sg (ex j l).1)
noncomputable def pt (j:Nat):List (List Int)->P3
  | []=>⟨[],[],[]⟩
  | x::l=>p2 j (pt j l) x
noncomputable def ct (q:P3):Bool:=Nat.ble (Nat.mul q.p.length q.n.length) (Nat.succ (Nat.add q.p.length q.n.length))
noncomputable def bs (l:List (List Int)):Nat->Nat->Nat
  | 0,_=>0
  | n+1,j=>cond (ct (pt j l)) j (bs l n (j+1))
noncomputable def gc:List Int->Nat
  | []=>0
  | x::l=>Nat.gcd x.natAbs (gc l)
noncomputable def dv (g:Int):List Int->List Int
  | []=>[]
  | x::l=>x / g::dv g l
noncomputable def t1 (k:Int) (l:List Int):Nat->List Int
  | 0=>[k]
  | 1=>k::l
  | g+2=>k / ((g+2:Nat):Int)::dv ((g+2:Nat):Int) l
noncomputable def tg:List Int->List Int
  | []=>[]
  | k::l=>t1 k l (gc l)
noncomputable def co (a b:B):List Int:=tg (ad (sc b.1 (a.2.1::a.2.2)) (sc a.1 (b.2.1::b.2.2)))
noncomputable def cr (n:List B) (z:List (List Int)) (p:List B):List (List Int):=(p.flatMap λa=>n.map λb=>co a b)++z
noncomputable def f1:List Int->Bool
  | [.negSucc _]=>true
  | _=>false
noncomputable def f0 (l:List (List Int)) (j:Nat) (f:List (List Int)->Bool):Bool:=f (cr (pt j l).n (pt j l).z (pt j l).p)
noncomputable def fm:Nat->List (List Int)->Bool
  | 0,l=>l.any f1
  | n+1,l=>l.any f1 || (Nat.ble l.length 300 && f0 l (bs l (n+1) 0) (fm n))
noncomputable def dr:Nat->(Nat->Int)->Nat->Int
  | 0,r,i=>r (i+1)
  | _+1,r,0=>r 0
  | j+1,r,i+1=>dr j (λi=>r (i+1)) i
theorem ex_ok:∀ (j:Nat) (l:List Int) (r:Nat->Int),ev r l=(ex j l).1 * r j+ev (dr j r) (ex j l).2
  | 0,[],r=>by show 0=0 * _+0;rw [Int.zero_mul];rfl
  | j+1,[],r=>by show 0=0 * _+0;rw [Int.zero_mul];rfl
  | 0,a::l,r=>rfl
  | j+1,a::l,r=>by
    show a * r 0+ev _ l=(ex j l).1 * r (j+1)+(a * r 0+ev (dr j λi=>r (i+1)) (ex j l).2)
    rw [ex_ok j l];exact Int.add_left_comm ..
noncomputable def sh (j:Nat) (r:Nat->Int):Nat->Int
  | 0=>r 0
  | i+1=>dr j (λi=>r (i+1)) i
theorem ev_cut {r:Nat->Int} {j:Nat} {k:Int} {l:List Int}:ev r (k::l)=(ex j l).1 * r (j+1)+ev (sh j r) (k::(ex j l).2):=by
  show k * r 0+ev _ l=(ex j l).1 * r (j+1)+(k * r 0+ev (dr j λi=>r (i+1)) (ex j l).2)
  rw [ex_ok j l];exact Int.add_left_comm ..
noncomputable def Bp (r:Nat->Int) (y:Int) (a:B):Prop:=0 < a.1/\0<=a.1 * y+ev r (a.2.1::a.2.2)
noncomputable def P0 (r:Nat->Int) (j:Nat) (q:P3):Prop:=(∀ a∈q.p,Bp (sh j r) (r (j+1)) a)/\(∀ a∈q.n,Bp (sh j r) (-r (j+1)) a)/\Al (sh j r) q.z
theorem sg_ok (a:Int):(sg a=.eq/\a=0) ∨ (sg a=.gt/\0 < a) ∨ (sg a=.lt/\a < 0):=by
  match a with
  | .ofNat 0=>exact .inl ⟨rfl,rfl⟩
  | .ofNat (n+1)=>exact .inr (.inl ⟨rfl,Int.natCast_pos.mpr (Nat.succ_pos n)⟩)
  | .negSucc _=>exact .inr (.inr ⟨rfl,by omega⟩)
theorem p2_ok {r:Nat->Int} {j:Nat} {q:P3} (h:P0 r j q):∀ {x:List Int},0<=ev r x->P0 r j (p2 j q x)
  | [],_=>h
  | k::l,hx=>by
    rw [ev_cut (j:=j)] at hx
    show P0 r j (p1 k (ex j l).1 (ex j l).2 q (sg (ex j l).1))
    rcases sg_ok (ex j l).1 with ⟨e,g⟩ | ⟨e,g⟩ | ⟨e,g⟩ <;> rw [e]
    · exact ⟨h.1,h.2.1,al_c (by rw [g,Int.zero_mul,Int.zero_add] at hx;exact hx) h.2.2⟩
    · exact ⟨List.forall_mem_cons.mpr ⟨⟨g,hx⟩,h.1⟩,h.2⟩
    · exact ⟨h.1,List.forall_mem_cons.mpr ⟨⟨Int.neg_pos_of_neg g,by show 0<=-(ex j l).1 * -r (j+1)+_;rw [Int.neg_mul_neg];exact hx⟩,h.2.1⟩,h.2.2⟩
theorem pt_ok {r:Nat->Int} (j:Nat):∀ {l:List (List Int)},Al r l->P0 r j (pt j l)
  | [],_=>⟨λ_ h=>(nomatch h),λ_ h=>(nomatch h),al_n⟩
  | x::l,h=>p2_ok (pt_ok j λy hy=>h y (List.mem_cons_of_mem _ hy)) (h x (List.mem_cons_self ..))
theorem gc_dv:∀ (l:List Int) (g:Nat) (r:Nat->Int),g ∣ gc l->ev r l=g * ev r (dv g l)
  | [],g,r,_=>(Int.mul_zero _).symm
  | x::l,g,r,h=>by
    have h3:(g:Int) * (x / g)=x:=Int.mul_ediv_cancel' (Int.ofNat_dvd_left.mpr (Nat.dvd_trans h (Nat.gcd_dvd_left ..)))
    show x * _+ev _ l=g * (x / g * _+ev _ (dv g l))
    rw [gc_dv l g _ (Nat.dvd_trans h (Nat.gcd_dvd_right ..)),Int.mul_add,← Int.mul_assoc,h3]
theorem t1_ok {r:Nat->Int} (hr:r 0=1) {k:Int} {l:List Int} (h:0<=ev r (k::l)):∀ {g},g=gc l->0<=ev r (t1 k l g)
  | 0,e=>by
    have h:0<=k * r 0+ev _ l:=h
    rw [gc_dv l 0 _ (by rw [e];exact Nat.dvd_refl _),Int.natCast_zero,Int.zero_mul] at h;exact h
  | 1,e=>h
  | g+2,e=>by
    have h:0<=k * r 0+ev _ l:=h
    show 0<=k / ((g+2:Nat):Int) * r 0+ev _ (dv ((g+2:Nat):Int) l)
    rw [gc_dv l (g+2) _ (by rw [e];exact Nat.dvd_refl _),hr,Int.mul_one] at h
    rw [hr,Int.mul_one]
    have hg:0 < ((g+2:Nat):Int):=by omega
    generalize ((g+2:Nat):Int)=d at *
    generalize ev _ (dv d l)=y at *
    have:-y<=k / d:=(Int.le_ediv_iff_mul_le hg).mpr (by rw [Int.neg_mul,Int.mul_comm];omega)
    omega
theorem co_ok {r:Nat->Int} (hr:r 0=1) {y:Int} {a b:B} (h1:Bp r y a) (h2:Bp r (-y) b):0<=ev r (co a b):=by
  refine t1_ok hr ?_ rfl
  show 0<=ev r (ad (sc b.1 (a.2.1::a.2.2)) (sc a.1 (b.2.1::b.2.2)))
  rw [ev_ad,ev_sc,ev_sc]
  have e1:=Int.mul_nonneg (Int.le_of_lt h2.1) h1.2
  have e2:=Int.mul_nonneg (Int.le_of_lt h1.1) h2.2
  rw [Int.mul_add] at e1 e2
  have:a.1 * (b.1 * -y)=- (b.1 * (a.1 * y)):=by rw [Int.mul_neg,Int.mul_neg,Int.mul_left_comm]
  omega
theorem f1_ok {r:Nat->Int} (hr:r 0=1) {l:List (List Int)} (h:Al r l):¬ l.any f1=true:=λk=>by
  obtain ⟨x,h1,h2⟩:=List.any_eq_true.mp k
  have:=h x h1
  unfold f1 at h2;split at h2
  · have t:0<=_ * r 0+0:=this
    rw [hr] at t;omega
  · cases h2
theorem fm_ok:∀ (n:Nat) {r:Nat->Int} {l:List (List Int)},r 0=1->Al r l->¬ fm n l=true
  | 0,r,l,hr,h=>f1_ok hr h
  | n+1,r,l,hr,h=>λk=>by
    rcases Bool.or_eq_true_iff.mp k with k | k
    · exact f1_ok hr h k
    · obtain ⟨i,j,m⟩:=pt_ok (bs l (n+1) 0) h
      refine fm_ok n (r:=sh _ r) hr (al_a (λx hx=>?_) m) (Bool.and_eq_true_iff.mp k).2
      obtain ⟨a,a1,a2⟩:=List.mem_flatMap.mp hx
      obtain ⟨b,b1,rfl⟩:=List.mem_map.mp a2
      exact co_ok (r:=sh _ r) hr (i a a1) (j b b1)
noncomputable abbrev T:=List (Bool × F)
noncomputable def al (t:Bool) (x y:E) (cs:List (List Int)) (k:List Int->List Int->List (List Int)->Bool):Bool:=(li x t).all λp=>(li y t).all λq=>k p.1 q.1 (p.2++(q.2++cs))
noncomputable def tb (w:Nat):Nat->T->List (List Int)->Bool
  | 0,_,_=>false
  | n+1,[],cs=>fm w cs
  | n+1,(b,f)::r,cs=>match f with
    | .le d t x y=>al t x y cs λl m cs=>tb w n r (cond b (ge (cond d (-1) 0) l m) (ge (cond d 0 (-1)) m l)::cs)
    | .eq t x y=>al t x y cs λl m cs=>cond b (tb w n r (ge 0 l m::ge 0 m l::cs)) (tb w n r (ge (-1) l m::cs) && tb w n r (ge (-1) m l::cs))
    | .ff=>cond b true (tb w n r cs)
    | .no f=>tb w n ((!b,f)::r) cs
    | .an f g=>cond b (tb w n ((true,f)::(true,g)::r) cs) (tb w n ((false,f)::r) cs && tb w n ((false,g)::r) cs)
    | .or f g=>cond b (tb w n ((true,f)::r) cs && tb w n ((true,g)::r) cs) (tb w n ((false,f)::(false,g)::r) cs)
    | .im f g=>cond b (tb w n ((false,f)::r) cs && tb w n ((true,g)::r) cs) (tb w n ((true,f)::(false,g)::r) cs)
    | .io f g=>tb w n ((b,g)::(true,f)::r) cs && tb w n ((!b,g)::(false,f)::r) cs
noncomputable def hd (c:C) (q:Bool × F):Prop:=cond q.1 (dF c q.2) (¬ dF c q.2)
theorem al_ok {c:C} {t:Bool} {x y:E} {cs:List (List Int)} {k:List Int->List Int->List (List Int)->Bool} (h:al t x y cs k=true) (hc:Al (rho c 0) cs):∃ l m d,ev (rho c 0) l=va c t x/\ev (rho c 0) m=va c t y/\Al (rho c 0) d/\k l m d=true:=by
  obtain ⟨p,p1,p2,p3⟩:=li_ok (c:=c) x t;obtain ⟨q,q1,q2,q3⟩:=li_ok (c:=c) y t
  exact ⟨_,_,_,p2,q2,al_a p3 (al_a q3 hc),List.all_eq_true.mp (List.all_eq_true.mp h p p1) q q1⟩
theorem tb_ok {c:C} {w:Nat}:∀ (n:Nat) {r:T} {cs:List (List Int)},Al (rho c 0) cs->(∀ q∈r,hd c q)->¬ tb w n r cs=true
  | 0,_,_,_,_=>nofun
  | n+1,[],cs,hc,hr=>fm_ok w rfl hc
  | n+1,(b,f)::r,cs,hc,hr=>λh=>by
    obtain ⟨hq,hr'⟩:=List.forall_mem_cons.mp hr
    have I:∀ {p q},hd c p->hd c q->tb w n (p::q::r) cs=true->False:=λh1 h2 h3=>tb_ok n hc (List.forall_mem_cons.mpr ⟨h1,List.forall_mem_cons.mpr ⟨h2,hr'⟩⟩) h3
    have J:∀ {p},hd c p->tb w n (p::r) cs=true->False:=λh1 h3=>tb_ok n hc (List.forall_mem_cons.mpr ⟨h1,hr'⟩) h3
    cases f with
    | le d t x y =>
      have h:al t x y cs (λl m cs=>tb w n r (cond b (ge (cond d (-1) 0) l m) (ge (cond d 0 (-1)) m l)::cs))=true:=h
      obtain ⟨l,m,e,h1,h2,he,h3⟩:=al_ok h hc
      refine tb_ok n (al_c ?_ he) hr' h3
      cases b <;> cases t <;> cases d <;> (show 0<=ev _ (ge _ _ _);rw [ev_ge,h1,h2];simp only [hd,dF,va,cond_true,cond_false] at *;omega)
    | eq t x y =>
      have h:al t x y cs (λl m cs=>cond b (tb w n r (ge 0 l m::ge 0 m l::cs)) (tb w n r (ge (-1) l m::cs) && tb w n r (ge (-1) m l::cs)))=true:=h
      obtain ⟨l,m,e,h1,h2,he,h3⟩:=al_ok h hc
      cases b with
      | true =>
        refine tb_ok n (al_c ?_ (al_c ?_ he)) hr' h3 <;>
        cases t <;> (rw [ev_ge,h1,h2];simp only [hd,dF,va,cond_true,cond_false] at *;omega)
      | false =>
        obtain ⟨h4,h5⟩:=Bool.and_eq_true_iff.mp h3
        rcases Int.lt_or_lt_of_ne (a:=ev (rho c 0) l) (b:=ev (rho c 0) m) (by rw [h1,h2];cases t <;> (simp only [hd,dF,va,cond_true,cond_false] at *;omega)) with g | g
        · exact tb_ok n (al_c (by rw [ev_ge];omega) he) hr' h4
        · exact tb_ok n (al_c (by rw [ev_ge];omega) he) hr' h5
    | ff =>
      cases b with
      | true=>exact hq
      | false=>exact tb_ok n hc hr' h
    | no f =>
      cases b with
      | true=>exact J (p:=(false,f)) hq h
      | false=>exact J (p:=(true,f)) (Classical.not_not.mp hq) h
    | an f g =>
      cases b with
      | true=>exact I (p:=(true,f)) (q:=(true,g)) hq.1 hq.2 h
      | false =>
        obtain ⟨h4,h5⟩:=Bool.and_eq_true_iff.mp h
        by_cases k:dF c f
        · exact J (p:=(false,g)) (λz=>hq ⟨k,z⟩) h5
        · exact J (p:=(false,f)) k h4
    | or f g =>
      cases b with
      | false=>exact I (p:=(false,f)) (q:=(false,g)) (λz=>hq (.inl z)) (λz=>hq (.inr z)) h
      | true =>
        obtain ⟨h4,h5⟩:=Bool.and_eq_true_iff.mp h
        rcases (hq:dF c f ∨ dF c g) with k | k
        · exact J (p:=(true,f)) k h4
        · exact J (p:=(true,g)) k h5
    | im f g =>
      cases b with
      | false=>exact I (p:=(true,f)) (q:=(false,g)) (Classical.byContradiction λz=>hq λy=>(z y).elim) (λz=>hq λ_=>z) h
      | true =>
        obtain ⟨h4,h5⟩:=Bool.and_eq_true_iff.mp h
        by_cases k:dF c f
        · exact J (p:=(true,g)) (hq k) h5
        · exact J (p:=(false,f)) k h4
    | io f g =>
      obtain ⟨h4,h5⟩:=Bool.and_eq_true_iff.mp h
      by_cases k:dF c f
      · refine I (p:=(b,g)) (q:=(true,f)) ?_ k h4
        cases b with
        | true=>exact hq.mp k
        | false=>exact λz=>hq ⟨λ_=>z,λ_=>k⟩
      · refine I (p:=(!b,g)) (q:=(false,f)) ?_ k h5
        cases b with
        | true=>exact λz=>k (hq.mpr z)
        | false=>exact Classical.byContradiction λz=>hq ⟨λy=>(k y).elim,λy=>(z y).elim⟩
noncomputable def mx:E->Nat
  | .v i=>i+1
  | .a x y=>(mx x).max (mx y)
  | .s x y=>(mx x).max (mx y)
  | .u _ x y=>(mx x).max (mx y)
  | .m _ _ _ x=>mx x
  | .n x=>mx x
  | .c x=>mx x
  | _=>0
noncomputable def mF:F->Nat
  | .le _ _ x y=>(mx x).max (mx y)
  | .eq _ x y=>(mx x).max (mx y)
  | .ff=>0
  | .no f=>mF f
  | .an f g=>(mF f).max (mF g)
  | .or f g=>(mF f).max (mF g)
  | .im f g=>(mF f).max (mF g)
  | .io f g=>(mF f).max (mF g)
noncomputable def nz:Nat->List (List Int)
  | 0=>[]
  | i+1=>un i::nz i
theorem nz_ok {c:C}:∀ n,Al (rho c 0) (nz n)
  | 0=>al_n
  | n+1=>al_c (by rw [ev_un];exact Int.natCast_nonneg _) (nz_ok n)
noncomputable def ok (f:F):Bool:=tb (mF f+mF f) 400 [(false,f)] (nz (mF f))
noncomputable abbrev Wit (c:C) (f:F):Prop:=ok f=true->dF c f
theorem R {c:C} {f:F}:Wit c f:=λh=>Classical.byContradiction λk=>tb_ok 400 (nz_ok _) (r:=[(false,f)]) (List.forall_mem_cons.mpr ⟨k,λ_ h=>absurd h List.not_mem_nil⟩) h
class AI (e:Int) (l:List Int) (l':outParam (List Int)) (n:outParam Nat):Prop
instance:AI e [] [e] 0:=⟨⟩
instance (priority:=low) [AI e l l' n]:AI e (d::l) (d::l') (.succ n):=⟨⟩
instance:AI e (e::l) (e::l) 0:=⟨⟩
class AN (e:Nat) (l:List Nat) (l':outParam (List Nat)) (n:outParam Nat):Prop
instance:AN e [] [e] 0:=⟨⟩
instance (priority:=low) [AN e l l' n]:AN e (d::l) (d::l') (.succ n):=⟨⟩
instance:AN e (e::l) (e::l) 0:=⟨⟩
class RI (e:Int) (c:C) (c':outParam C) (x:outParam E):Prop
class RN (e:Nat) (c:C) (c':outParam C) (x:outParam E):Prop
instance (priority:=low) [AI e i i' k]:RI e ⟨i,n⟩ ⟨i',n⟩ (.v k):=⟨⟩
instance (priority:=low) [AN e n n' k]:RN e ⟨i,n⟩ ⟨i,n'⟩ (.v k):=⟨⟩
class LN (e:Nat):Prop
instance:LN 0:=⟨⟩
instance:LN 1:=⟨⟩
instance:LN 10:=⟨⟩
instance:LN 100:=⟨⟩
instance:LN 1000000:=⟨⟩
instance:LN 130:=⟨⟩
instance:LN 140:=⟨⟩
instance:LN 16:=⟨⟩
instance:LN 1600000:=⟨⟩
instance:LN 16777216:=⟨⟩
instance:LN 18:=⟨⟩
instance:LN 2:=⟨⟩
instance:LN 20:=⟨⟩
instance:LN 200:=⟨⟩
instance:LN 250:=⟨⟩
instance:LN 3:=⟨⟩
instance:LN 30:=⟨⟩
instance:LN 4:=⟨⟩
instance:LN 40:=⟨⟩
instance:LN 400000:=⟨⟩
instance:LN 41:=⟨⟩
instance:LN 42:=⟨⟩
instance:LN 5:=⟨⟩
instance:LN 50:=⟨⟩
instance:LN 52:=⟨⟩
instance:LN 6:=⟨⟩
instance:LN 60:=⟨⟩
instance:LN 61:=⟨⟩
instance:LN 62:=⟨⟩
instance:LN 63:=⟨⟩
instance:LN 64:=⟨⟩
instance:LN 8:=⟨⟩
instance:LN 800000:=⟨⟩
instance:LN 8000000:=⟨⟩
instance:LN 86:=⟨⟩
instance:LN 9:=⟨⟩
instance:LN 900000:=⟨⟩
class LI (e:Int):Prop
instance:LI 0:=⟨⟩
instance:LI 1:=⟨⟩
instance:LI 10:=⟨⟩
instance:LI 100:=⟨⟩
instance:LI 1000:=⟨⟩
instance:LI 2:=⟨⟩
instance:LI 3:=⟨⟩
instance:LI 6:=⟨⟩
instance [LI a]:LI (-a):=⟨⟩
instance (priority:=500) [LN e]:RN e c c (.k e):=⟨⟩
instance (priority:=500) [LI e]:RI e c c (.i e):=⟨⟩
instance [LI a] [LN b]:RI (a ^ b) c c (.i (a ^ b)):=⟨⟩
instance [LN a] [LN b]:RN (a ^ b) c c (.k (a ^ b)):=⟨⟩
instance [RI a c d x] [RI b d e y]:RI (max a b) c e (.u true x y):=⟨⟩
instance [RI a c d x] [RI b d e y]:RI (min a b) c e (.u false x y):=⟨⟩
instance [RN a c d x] [RN b d e y]:RN (max a b) c e (.u true x y):=⟨⟩
instance [RN a c d x] [RN b d e y]:RN (min a b) c e (.u false x y):=⟨⟩
instance [RI a c d x] [RI b d e y]:RI (a+b) c e (.a x y):=⟨⟩
instance [RN a c d x] [RN b d e y]:RN (a+b) c e (.a x y):=⟨⟩
instance [RI a c d x] [RI b d e y]:RI (a - b) c e (.s x y):=⟨⟩
instance [RN a c d x] [RN b d e y]:RN (a - b) c e (.s x y):=⟨⟩
instance [RI a c d x]:RI (-a) c d (.n x):=⟨⟩
instance [LI a] [RI b c d y]:RI (a * b) c d (.m true 0 a y):=⟨⟩
instance [LI a] [RI b c d y]:RI (b * a) c d (.m false 0 a y):=⟨⟩
instance [LN a] [RN b c d y]:RN (a * b) c d (.m true a 0 y):=⟨⟩
instance [LN a] [RN b c d y]:RN (b * a) c d (.m false a 0 y):=⟨⟩
instance [RN a c d x]:RI (Nat.cast a) c d (.c x):=⟨⟩
instance [RI a c d x]:RN (Int.toNat a) c d (.c x):=⟨⟩

class RF (p:Prop) (c:C) (c':outParam C) (f:outParam F):Prop
instance {a b:Int} [RI a c d x] [RI b d e y]:RF (a<=b) c e (.le false false x y):=⟨⟩
instance {a b:Int} [RI a c d x] [RI b d e y]:RF (a < b) c e (.le true false x y):=⟨⟩
instance {a b:Int} [RI a c d x] [RI b d e y]:RF (b ≥ a) c e (.le false false x y):=⟨⟩
instance {a b:Int} [RI a c d x] [RI b d e y]:RF (b > a) c e (.le true false x y):=⟨⟩
instance {a b:Int} [RI a c d x] [RI b d e y]:RF (a=b) c e (.eq false x y):=⟨⟩
instance {a b:Int} [RI a c d x] [RI b d e y]:RF (a ≠ b) c e (.no (.eq false x y)):=⟨⟩
instance {a b:Nat} [RN a c d x] [RN b d e y]:RF (a<=b) c e (.le false true x y):=⟨⟩
instance {a b:Nat} [RN a c d x] [RN b d e y]:RF (a < b) c e (.le true true x y):=⟨⟩
instance {a b:Nat} [RN a c d x] [RN b d e y]:RF (b ≥ a) c e (.le false true x y):=⟨⟩
instance {a b:Nat} [RN a c d x] [RN b d e y]:RF (b > a) c e (.le true true x y):=⟨⟩
instance {a b:Nat} [RN a c d x] [RN b d e y]:RF (a=b) c e (.eq true x y):=⟨⟩
instance {a b:Nat} [RN a c d x] [RN b d e y]:RF (a ≠ b) c e (.no (.eq true x y)):=⟨⟩
instance:RF False c c .ff:=⟨⟩
instance [RF p c d f]:RF (¬p) c d (.no f):=⟨⟩
instance [RF p c d f] [RF q d e g]:RF (p/\q) c e (.an f g):=⟨⟩
instance [RF p c d f] [RF q d e g]:RF (p ∨ q) c e (.or f g):=⟨⟩
instance [RF p c d f] [RF q d e g]:RF (p->q) c e (.im f g):=⟨⟩
instance [RF p c d f] [RF q d e g]:RF (p ↔ q) c e (.io f g):=⟨⟩
theorem Rw (p:Prop) [RF p ⟨[],[]⟩ c f]:Wit c f:=R
end QA
local macro_rules
  | `(tactic| ext $ps:rintroPat*:$_:num)=>`(tactic| (refine id ?_;ext $ps*))
  | `(tactic| ext $ps:rintroPat*)=>do
    let mut ty ← `(_)
    let mut f:=false
    let mut hs:=#[]
    for p in ps do
      match p with
      | `(rintroPat| $h:ident)=>hs:=hs.push (← `($h:ident))
      | _=>f:=true
    for h in hs.reverse do ty ← `(type_of% $h->$ty)
    let t ← `(tactic| (refine (?g:$ty) $hs*;refine (QA.R:type_of% (QA.Rw (type_of% ?g))) ?_;decide +kernel))
    if f then `(tactic| (exfalso;$t)) else return t
set_option Elab.async false
set_option linter.all false
set_option maxRecDepth 100000
open And renaming intro->c3c
open Array renaming length_toList->et,getElem?_toList->pj,toList_append->oC,getElem?_eq_getElem->vN,perm_iff_toList_perm->zR,toList_push->rF,getElem_toList->Ab,toList_extract->CI,toList_reverse->CH,getD->vD,toList_inj->GX,toList_modify->Mo,append_assoc->MA
open Array.Perm renaming refl->zN
open Bool renaming false_ne_true->lx,false_eq_true->oB,and_eq_true->qt,noConfusion->uj,not_true->GL
open Classical renaming byContradiction->MV
open False renaming elim->gM
open ForInStep renaming yield->o8,done->Co
open Iff renaming rfl->dP
open Int renaming le_refl->gx,emod_lt_of_pos->ny,emod_nonneg->nD,toNat_natCast->rG,mul_le_mul_of_nonneg_left->CK,mul_nonneg->vK,mul_one->rD,mul_le_mul_of_nonneg_right->MJ,mul_add->zr,le_ediv_iff_mul_le->Md,ediv_nonneg->G6,mul_zero->B8,add_zero->B7,sub_mul->Cd,not_le->BX,le_of_lt->GG,sub_self->GC,le_trans->GB
open List renaming length_append->bQ,mem_cons_of_mem->cG,length_map->bB,mem_cons_self->cm,mem_cons->bx,mem_singleton->cJ,mem_append->bK,size_toArray->cZ,getElem?_set_ne->eD,mem_append_right->fF,getElem?_eq_getElem->gO,pairwise_append->fI,mem_append_left->fU,append_assoc->e9,pairwise_cons->fE,getElem?_set_self->iF,getElem?_eq_some_iff->kr,map_append->e8,drop_eq_getElem_cons->mK,mem_map->e7,length_take->iE,length_cons->iD,not_mem_nil->iC,pairwise_singleton->nq,take_append_drop->mJ,mem_iff_getElem->mI,replicate->iB,getElem?_append_right->qv,getElem?_map->l9,drop_eq_nil_of_le->pk,length_drop->l8,map_map->jh,map_cons->jL,lookup_cons->mN,length_pos_iff->pf,append_nil->mM,getElem_mem->nr,getElem?_append_left->uz,flatten_singleton->rN,mem_of_mem_drop->rM,flatten_append->rJ,range->jt,mem_of_mem_take->ug,pairwise_map->rE,pairwise_iff_getElem->zQ,zipWith->oA,length->nk,take_of_length_le->z6,perm_append_comm->zW,getElem?_eq_none->zV,extract_eq_take_drop->CM,nodup_cons->uw,of_mem_zip->uv,length_range->vR,sum_append->t9,reverse_perm->vJ,flatMap_cons->vH,getElem?_replicate->CD,length_eq_zero_iff->CC,countP_cons_of_pos->CB,mem_reverse->vG,length_replicate->Cz,getD_eq_getElem?_getD->HD,ne_nil_of_length_pos->HB,mem_flatMap->zH,filterMap_cons->CG,countP_cons_of_neg->HE,flatten_cons->Ck,getElem_take->Cj,mem_range->zA,map->oq,length_singleton->Hi,getElem?_zipWith->Hh,getElem?_toArray->Hg,eq_nil_or_concat->Hf,zipIdx_cons->Ci,take_append_of_le_length->MI,getLast?_eq_some_getLast->MH,suffix_refl->Cg,map_eq_cons_iff->Hc,mem_of_getLast?->Hb,forIn_cons->Ce,length_zipWith->Hq,nil_append->Cr,length_eraseIdx_of_lt->MM,map_nil->zC,getElem?_eq_none_iff->ML,drop_zero->Cm,getLast?_eq_some_iff->MU,getElem?_set->Hv,ext_getElem?->Hu,getElem_drop->Hr,filterMap_cons_some->Mn,pairwise_mergeSort->Mj,append_cancel_left->Mh,all_eq_true->GZ,length_set->GU,dropLast_eq_take->Mv,zipIdx_nil->G9,mem_of_getElem?->Mt,getElem?_append->Ms,reverse_reverse->Mr,dropLast_concat->Mq,drop_take->G5,map_eq_nil_iff->MF,map_congr_left->ME,mergeSort_perm->MD,perm_singleton->MC,flatMap_append->MB,mem_filterMap->Mz,getElem_range->L8,getElem?_take->L7,sum_cons->GK
open List.Pairwise renaming nil->ur
open List.Perm renaming refl->qu,append_left->Cy,swap->Cw
open Nat renaming le_refl->aV,ne_of_lt->cI,le_trans->dE,lt_of_lt_of_le->jg,lt_succ_self->jK,lt_succ_of_lt->nu,zero_le->jM,eq_zero_of_not_pos->uh,lt_irrefl->o6,lt_of_succ_lt->uo,le_add_right->um,ne_of_gt->o9,lt_of_le_of_ne->zE,le_of_lt->rz,le_succ->qq,zero_add->rp,add_sub_cancel_left->HG,mul_le_mul->zx,add_le_add_right->Hd,min_eq_left->Ct,not_lt_zero->Cq,eq_zero_or_pos->Hm,sub_self->zB,pos_of_ne_zero->Hl,le_of_succ_le->Ht,add_mul->zt,le_of_not_lt->G0,le_antisymm->G8,le_of_sub_eq_zero->Mu,lt_or_ge->B9,mul_add->Cc,add_assoc->GN,sub_zero->GH,lt_trans->GD,one_mul->GS
open Ne renaming symm->gJ
open Option renaming map_eq_some_iff->z7,bind_some->uk,isSome_iff_exists->HA,getD_none->G1,map->GQ
open Option.some renaming inj->cF,injEq->c7
open Or renaming inr->be,inl->bY
open PyProof.Rows renaming wpS_bind->aM,wpS_pure->aT,slot_tuple_getitem->uy,wpS_forRange->iG,callWith_type1->zS,wpS_mono->jf,pairsOf_toList->rK,listUpdate_at->rA,wpS_modify->ou,wpS_get->kn,listItems_at->ua,get?_update_seq->zM,seqEpoch_at->vC,pairsOf_size->Ca,entry_list_sort->G7,slot_list_sort->G4,size_push'->BW
open PyProof.Rows.F renaming plain_set_update_loop->HF,entry_set_update_loop->Mi
open PyProof.Rows.SortSt renaming mk'->qr
open PySem renaming wpAny_bind->ah,wpAny_pure->aH,sizeLine_eq->fW,wpAny_callSpecial?_slot->qw,wpAny_setField_rec->nC,wpAny_call_entry->mO,wpAny_newObj_type->nv,wpAny_holding->lz,wpAny_mono->je,wpAny_field->lr,wpAny_seqItems->o7,wpAny_pyIter_list->uq,mem_of_lookup->vQ,wpAny_pyIter_tuple->vO,Builtin->b9V,wpAny_truthy_bool->vS,wpAny_passesOwn->ux,call_isinstance->uu,fits_of_scanBound->vI,wpAny_setEntries_of->zF,codeAny_mono->rq,codeAny_builtin->vE,KeyKind->ud,wpAny_rule->o5,wpAny_attempt->ub,wpAny_setState_of->zJ,wpAny_askSetting->zI,wpAny_of_eq->rC,wpAny_Call_Name_kw->CJ,wpAny_newList->vM,wpAny_ite_split->zK,wpAny_newTuple->zy,wpAny_typeOf->vz,wpAny_updateSeq_pair->He,plainId_quiet->zw,wpAny_execs_nil->Cf,wpAny_pyIter_range->Hn,wpAny_fieldsOf->Cv,intBits_le_64->B0,wpAny_onRaise->BZ,strKind->BY,noFill_tuple_add->G2,wpAny_isInstance->GY,wpAny_letGo->B4,seq_tuple_add->GP,call->GR
open PySem.Around renaming under_plainId->Aa,under->GJ
open PySem.Builtin.Int renaming intBits->Mp
open PySem.Builtin.List renaming listItems->CA,listTooLong->Hy,listLengthHint->MR,listExtendWith->MQ,listSameRef->Mm,listUpdate->Ml
open PySem.Builtin.Range renaming rangeSize->zP,small->Ho,rangeFitsLong->MS
open PySem.Builtin.Slice renaming slicePlaces->CN,sliceAdjust->HC,sliceApplied->MO
open PySem.Builtin.SmallTypes renaming nextOf->rL,ownedTupleIsFree->CL,ownedTupleHandOut->MW
open PySem.Builtin.Tuple renaming tupleExact->CP,tupleItemsOf->MN
open PySem.Calls renaming Name_function_global->MP,call_function_entry->MK,callWith_builtin->Me,spliced_cons->Mx,spliced_nil->L5
open PySem.Code renaming isFrame->GI
open PySem.Data renaming cell->vy,fields->B6
open PySem.F renaming slot_tuple_iterator_next->CO,called_set->rm,args_tuple_add_2->Hz,entry_tuple_add->HI,plainAttrs_list->HH,slot_tuple_add->Hj,args_tuple_iterator_next_1->MG,entry_tuple_iterator_next->MT,slot_zip_next->Cu,slot_list_append->Mc,slot_list_extend->Mw,slot_list_pop->L9
open PySem.Heap renaming get?_push_of_some->aZ,get?_push_size->c9,lt_size->bF,size_push->fM,get?_update_other->ui,get?_update_ne->vP,SameBut->pd,get?_update_self->zZ,ExtBut->zu,size_update->GW,IsTuple->Cb,IsList->B3
open PySem.Heap.IsList renaming push->Ma
open PySem.Heap.SameBut renaming update->CF
open PySem.IsRange renaming new->B5
open PySem.NameKind renaming free->mG,cell->uc
open PySem.Obj renaming mapSeq->cW,putSet->BU
open PySem.PassesOwn renaming never->G'
open PySem.SetTable renaming below->oz,grown->t6,sizeAbove->Hk,Probe->L'
open PySem.SetTable.below renaming go->L4
open PySem.SetTable.probe renaming go->G3
open PySem.Shared renaming heap->rB
open PySem.Value renaming ref->dj,none->fV,int->gy,bool->ko,type->mH,isStrOf_shape->zG,isInt_shape->zD
open PySem.W renaming Frag->aB,mg_none_of->l7,fnOf->jv,nsIn->ju,tabIn->nj,emptyDict->rH,keepIn->t7,instObj->vF,tabObj->vL,findIn->zz,codeIn->Cp,methodObj->Hw,cellsFrom_some->Mf,OpenLaw->Ha,mg_of->GO,specialIn->L6,plainGet->L0,codeHdIn->Mb
open String renaming splitOnAux->L3
open Sum renaming inl->tZ,inr->tY
theorem Qz{a b c:Nat}(h:a+c<=b):a<=b:=dE (um _ _) h
theorem Qy{a b c:Nat}(h:a<=b):a-c<=b:=dE (Nat.sub_le _ _) h
namespace L2
open PySem PySem.Spec PyProof.Rows
abbrev Key:=Sum Int Str
def M5:Key->Value->Bool
 | .inl k,v=>Value.isInt k v
 | .inr x,v=>Value.isStrOf x v
def E2(w:World):Key->Int
 | .inl k=>hashInt k
 | .inr x=>hashStr w x
theorem qC:∀{k:Key} {v:Value},M5 k v=true->(∃i t,k=tZ i/\v=gy i t)\/(∃x t,k=tY x/\v=Value.str x t)
 | .inl i,v,h=>by
  obtain ⟨t,e⟩:=zD (k:=i) (v:=v) h
  exact .inl ⟨i,t,rfl,e⟩
 | .inr x,v,h=>by
  obtain ⟨t,e⟩:=zG (x:=x) (v:=v) h
  exact .inr ⟨x,t,rfl,e⟩
theorem XM(a b:Int):decide ((tZ a:Key)=tZ b)=(a==b):=by
 by_cases e:a=b
 .subst e;simp
 .have h:¬(tZ a:Key)=tZ b:=λq=>e (Sum.inl.inj q)
  rw [decide_eq_false h]
  exact (beq_eq_false_iff_ne.mpr e).symm
theorem XQ(a b:Str):decide ((tY a:Key)=tY b)=decide (a=b):=by
 by_cases e:a=b
 .subst e;simp
 .have h:¬(tY a:Key)=tY b:=λq=>e (Sum.inr.inj q)
  rw [decide_eq_false h,decide_eq_false e]
theorem XN(a:Int)(b:Str):decide ((tZ a:Key)=tY b)=false:=decide_eq_false (λq=>nomatch q)
theorem XO(a:Str)(b:Int):decide ((tY a:Key)=tZ b)=false:=decide_eq_false (λq=>nomatch q)
def IU(prog:Program)(w:World):ud prog w Key where
 is:=M5
 hash:=E2 w
 inj:=λv a b ha hb=>by
  rcases qC ha with ⟨i,t,rfl,rfl⟩ | ⟨x,t,rfl,rfl⟩
  .rcases qC hb with ⟨j,u,rfl,e⟩ | ⟨y,u,rfl,e⟩
   .injection e with e1 _;rw [e1]
   .exact nomatch e
  .rcases qC hb with ⟨j,u,rfl,e⟩ | ⟨y,u,rfl,e⟩
   .exact nomatch e
   .injection e with e1 _;rw [e1]
 byValue:=λk v h=>by
  rcases qC h with ⟨i,t,rfl,rfl⟩ | ⟨x,t,rfl,rfl⟩<;>rfl
 pyHash:=λhv h=>by
  rcases qC hv with ⟨i,t,rfl,rfl⟩ | ⟨x,t,rfl,rfl⟩
  .exact wpAny_pyHash_int h
  .exact wpAny_pyHash_str h
 eqBool:=λhu hv h=>by
  rcases qC hu with ⟨i,t,rfl,rfl⟩ | ⟨x,t,rfl,rfl⟩
  .rcases qC hv with ⟨j,u,rfl,rfl⟩ | ⟨y,u,rfl,rfl⟩
   .rw [XM] at h;exact wpAny_eqBool_int h
   .rw [XN] at h;exact SeqAt.EqAt.int_str i t y u _ _ _ _ h
  .rcases qC hv with ⟨j,u,rfl,rfl⟩ | ⟨y,u,rfl,rfl⟩
   .rw [XO] at h;exact SeqAt.EqAt.str_int x t j u _ _ _ _ h
   .rw [XQ] at h;exact wpAny_eqBool_str h
 «strs»:=λk x t v h=>by
  rcases qC h with ⟨i,u,rfl,e⟩ | ⟨y,u,rfl,e⟩
  .exact nomatch e
  .injection e with e1 _
   subst e1
   cases v<;>rfl
end L2
namespace L2
open PySem PySem.Spec PyProof.Rows
inductive V where
 | aS | bl (b:Bool) | int (i:Int) | str (x:Str) | zO (b:Array UInt8) | za (b:UInt64) | ref (a:Addr) | ty (n:String)
 deriving DecidableEq
def RelV:V->Value->Prop
 | .aS,u=>u=fV
 | .bl b,u=>u=ko b
 | .int i,u=>∃t,u=gy i t
 | .str x,u=>∃t,u=Value.str x t
 | .zO b,u=>∃t,u=Value.bytes b t
 | .za b,u=>∃t,u=Value.float b t
 | .ref a,u=>u=dj a
 | .ty n,u=>u=mH n
abbrev au:List V->List Value->Prop:=Paired RelV
theorem au.length(r:au xs us):xs.length=us.length:=Paired.length r
theorem au.get:∀{xs:List V} {us:List Value} {i:Nat} {x:V},au xs us->xs[i]?=some x->∃u,us[i]?=some u/\RelV x u
 | _,_,_,_,.nil,e=>by simp at e
 | _,_,0,_,.cons r _,e=>by simp at e;subst e;exact ⟨_,rfl,r⟩
 | _,_,i+1,x,.cons _ t,e=>by
  obtain ⟨u,h1,h2⟩:=au.get (i:=i) (x:=x) t (by simpa using e)
  exact ⟨u,by simpa using h1,h2⟩
theorem au.set(r:RelV x u):∀{xs:List V} {us:List Value} (i:Nat),au xs us->au (xs.set i x) (us.set i u)
 | _,_,_,.nil=>.nil
 | _,_,0,.cons _ t=>.cons r t
 | _,_,i+1,.cons q t=>.cons q (au.set r i t)
theorem au.append:∀{xs ys:List V} {us ws:List Value},au xs us->au ys ws->au (xs++ys) (us++ws)
 | _,_,_,_,.nil,s=>s
 | _,_,_,_,.cons r t,s=>.cons r (au.append t s)
theorem au.take:∀{xs:List V} {us:List Value} (n:Nat),au xs us->au (xs.take n) (us.take n)
 | _,_,0,_=>.nil
 | _,_,_+1,.nil=>.nil
 | _,_,n+1,.cons r t=>.cons r (au.take n t)
theorem au.drop:∀{xs:List V} {us:List Value} (n:Nat),au xs us->au (xs.drop n) (us.drop n)
 | _,_,0,r=>r
 | _,_,_+1,.nil=>.nil
 | _,_,n+1,.cons _ t=>au.drop n t
theorem au.none_of:∀{xs:List V} {us:List Value} {i:Nat},au xs us->xs[i]?=none->us[i]?=none:=λ{xs us i} r e=>by
 have h1:=r.length
 have h2:xs.length<=i:=ML.mp e
 exact ML.mpr (by ext h1 h2)
def qG:Option V->Option Value->Prop
 | some v,some u=>RelV v u
 | none,none=>True
 | _,_=>False
def KV{κ:Type}:List (κ×V)->List (κ×Value)->Prop:=Paired λ(p:κ×V) (q:κ×Value)=>p.1=q.1/\RelV p.2 q.2
def kV:Key->V
 | .inl i=>.int i
 | .inr x=>.str x
inductive HO where
 /-- a list -/
 | lst (xs:List V)
 /-- a tuple (never changes) -/
 | tup (xs:List V)
 /-- a dict qL keys are ints and texts;one qL keys are tuples of ints and texts (the empty one is both) -/
 | dK (br:List (Key×V)) | dT (br:List (List Key×V))
 /-- a set of ints: aq members,aq size -/
 | set (S:Int->Bool) (n:Nat)
 /-- an instance of the class at C,aq dict at dx,aq attributes -/
 | ins (C dx:Addr) (fs:List (Str×V))
 /-- the dict of the instance at x -/
 | own (x:Addr)
 /-- the dict of an exception -/
 | xd (fs:List (Str×V))
 /-- a bound method,f of x -/
 | met (f x:Addr)
 /-- a range object lo,lo+1,.. below hi -/
 | EF (lo hi:Int)
 /-- a wQ QF is known to the object (the script;a dict while a loop walks it): read,never written while it is so -/
 | iW (o:Obj) (u:HO)
 /-- a code nW table -/
 | sA (ps:Array Value)
 /-- a code nW table qL codes are all called q,and are aq own -/
 | tab (q:Str)
 /-- any other wQ,by QB is true of aq one object (a def of Lb own: SetO a S n:=HO.ext λh=>..) -/
 | ext (φ:Heap->Prop)
def ownOf:HO->Option Addr
 | .own x=>some x
 | .iW _ (.own x)=>some x
 | _=>none
def XE(q:Str)(o:Obj):Prop:=∃vs t,o.data=.fields vs/\vs[1]?=some (.str q t)
abbrev Hp:=Addr->Option HO
def upd(H:Hp)(a:Addr)(o:HO):Hp:=λb=>if b=a then some o else H b
theorem me:upd H a o a=some o:=by unfold upd;rw [if_pos rfl]
theorem cR(h:b≠a):upd H a o b=H b:=by unfold upd;rw [if_neg h]
theorem pI{H:Hp}{a b:Addr}{o:HO}(h:H a=some o)(h':H b=none):a≠b:=by
 intro e;subst e;rw [h] at h';cases h'
section
variable (P:Program)(w:World)
def bZ(H:Hp)(h:Heap)(a:Addr):HO->Prop
 | .lst xs=>xs.length<=sizeLine/\∃(aq:List Value) (n:Nat),au xs aq/\h.get? a=some { cls:=.type "list",data:=.seq aq.toArray n }
 | .tup xs=>xs.length<=sizeLine/\∃aq:List Value,au xs aq/\IsTup h a aq.toArray
 | .dK br=>br.length<=sizeLine/\(a==sysModules)=false/\∃vs,KV br vs/\h.DictOf (IU P w) a vs
 | .dT br=>br.length<=sizeLine/\(a==sysModules)=false/\∃xs:List (List Key×Addr×Value),
   Paired (λ(p:List Key×V) (q:List Key×Addr×Value)=>p.1=q.1/\H q.2.1=some (.tup (p.1.map kV))/\RelV p.2 q.2.2) br xs /\
   ∃o es ep,h.get? a=some o/\o.ExactDict/\o.data=.dict es ep/\es.toList=xs.map (entryOfKey (tupleKind (IU P w)))/\(xs.map (·.1)).Nodup
 | .set S n=>h.SetOf (intKind P w) a S n
 | .ins C dx fs=>H dx=some (.own a)/\fs.length<=1000/\dx≠a/\h.get? a=some (vF C dx) /\
   ∃mA,h.Ns1 dx mA/\(∀f,qG (fs.lookup f) (mA f))/\PySem.Within mA (fs.map (·.1))
 | .own _=>∃o,h.get? a=some o
 | .xd fs=>∃mA,h.Ns1 a mA/\∀f,qG (fs.lookup f) (mA f)
 | .EF lo hi=>∃t u v,h.get? a=some { cls:=.type "range",data:=.fields #[.int lo t,.int hi u,.int 1 v] }
 | .iW o u=>h.get? a=some o/\bZ H h a u
 | .sA ps=>h.get? a=some { cls:=.none,data:=.fields ps }
 | .tab q=>∃ps,h.get? a=some (vL ps)/\TriplesOk ps.toList/\∀pos cv,codeAmong pos ps.toList=some cv->∃c oc,cv=.ref c/\H c=some (.iW oc (.own a))/\XE q oc
 | .met f x=>h.get? a=some (Hw (.ref f) (.ref x))
 | .ext φ=>φ h/\(∃o,h.get? a=some o)/\∀h1 h2:Heap,φ h1->(∀o,h1.get? a=some o->h2.get? a=some o)->φ h2
def gE(H:Hp)(h:Heap):Prop:=∀a o,H a=some o->bZ P w H h a o
end
section
variable {P:Program}{w:World}{H H':Hp}{h h':Heap}{a:Addr}{o:HO}
theorem bZ.lt(x:bZ P w H h a o):a<h.objs.size:=by
 cases o with
 | lst xs=>obtain ⟨_,_,_,_,e⟩:=x;exact bF e
 | tup xs=>obtain ⟨_,_,_,p⟩:=x;exact p.lt
 | dK br=>obtain ⟨_,_,_,_,o,_,_,e,_⟩:=x;exact bF e
 | dT br=>obtain ⟨_,_,_,_,o,_,_,e,_⟩:=x;exact bF e
 | set S n=>obtain ⟨o,_,_,_,e,_⟩:=x;exact bF e
 | ins C dx fs=>obtain ⟨_,_,_,e,_⟩:=x;exact bF e
 | own y=>obtain ⟨_,e⟩:=x;exact bF e
 | xd fs=>obtain ⟨_,⟨_,_,_,e,_⟩,_⟩:=x;exact bF e
 | EF lo hi=>obtain ⟨_,_,_,e⟩:=x;exact bF e
 | iW ob u=>obtain ⟨e,_⟩:=x;exact bF e
 | sA ps=>exact bF (show h.get? a=some _ from x)
 | tab q=>obtain ⟨_,e,_⟩:=x;exact bF e
 | met f y=>exact bF (show h.get? a=some _ from x)
 | ext φ=>obtain ⟨_,⟨_,e⟩,_⟩:=x;exact bF e
theorem Paired.xZ{α β:Type}{F G:α->β->Prop}:∀{ya:List α} {l₂:List β},Paired F ya l₂->(∀a b,F a b->G a b)->Paired G ya l₂
 | _,_,.nil,_=>.nil
 | _,_,.cons r t,f=>.cons (f _ _ r) (Paired.xZ t f)
theorem bZ.jA(x:bZ P w H h a o)(k:∀b u,(b=a\/H b=some (.own a))->h.get? b=some u->h'.get? b=some u)
  (ho:∀b u,ownOf u=some a->H b=some u->H' b=some u)(ht:∀b xs,H b=some (.tup xs)->H' b=some (.tup xs)):bZ P w H' h' a o:=by
 induction o with
 | lst xs=>obtain ⟨z,aq,n,r,e⟩:=x;exact ⟨z,aq,n,r,k _ _ (.inl rfl) e⟩
 | tup xs=>obtain ⟨z,aq,r,ob,e,c⟩:=x;exact ⟨z,aq,r,ob,k _ _ (.inl rfl) e,c⟩
 | dK br=>obtain ⟨z,y,vs,r,ob,es,ep,e,c⟩:=x;exact ⟨z,y,vs,r,ob,es,ep,k _ _ (.inl rfl) e,c⟩
 | dT br =>
  obtain ⟨z,y,xs,r,ob,es,ep,e,c⟩:=x
  exact ⟨z,y,xs,Paired.xZ r λp q z=>⟨z.1,ht _ _ z.2.1,z.2.2⟩,ob,es,ep,k _ _ (.inl rfl) e,c⟩
 | set S n=>obtain ⟨ob,es,ep,t,e,c⟩:=x;exact ⟨ob,es,ep,t,k _ _ (.inl rfl) e,c⟩
 | ins C dx fs =>
  obtain ⟨d,z,ne,e,mA,⟨od,es,ep,e2,c⟩,r⟩:=x
  exact ⟨ho _ _ rfl d,z,ne,k _ _ (.inl rfl) e,mA,⟨od,es,ep,k _ _ (.inr d) e2,c⟩,r⟩
 | own y=>obtain ⟨ob,e⟩:=x;exact ⟨ob,k _ _ (.inl rfl) e⟩
 | xd fs=>obtain ⟨mA,⟨od,es,ep,e,c⟩,r⟩:=x;exact ⟨mA,⟨od,es,ep,k _ _ (.inl rfl) e,c⟩,r⟩
 | EF lo hi=>obtain ⟨t,u,v,e⟩:=x;exact ⟨t,u,v,k _ _ (.inl rfl) e⟩
 | iW ob u ih=>obtain ⟨e,q⟩:=x;exact ⟨k _ _ (.inl rfl) e,ih q⟩
 | sA ps =>
  have e:h.get? a=some { cls:=.none,data:=.fields ps }:=x
  show h'.get? a=some { cls:=.none,data:=.fields ps }
  exact k a _ (.inl rfl) e
 | tab q =>
  obtain ⟨ps,e,ht,z⟩:=x
  exact ⟨ps,k _ _ (.inl rfl) e,ht,λpos cv hc=>let ⟨c,oc,e1,e2,e3⟩:=z pos cv hc;⟨c,oc,e1,ho _ _ rfl e2,e3⟩⟩
 | met f y =>
  have e:h.get? a=some (Hw (.ref f) (.ref y)):=x
  show h'.get? a=some (Hw (.ref f) (.ref y))
  exact k a _ (.inl rfl) e
 | ext φ=>obtain ⟨p,⟨o,e⟩,st⟩:=x;exact ⟨st _ _ p λo q=>k _ _ (.inl rfl) q,⟨o,k _ _ (.inl rfl) e⟩,st⟩
theorem gE.lt(x:gE P w H h)(e:H a=some o):a<h.objs.size:=(x a o e).lt
theorem gE.fresh(x:gE P w H h)(e:h.objs.size<=a):H a=none:=by
 cases q:H a with
 | none=>rfl
 | some u=>exact absurd (jg (x.lt q) e) (o6 _)
theorem gE.kept(x:gE P w H h)(k:∀b u,h.get? b=some u->h'.get? b=some u):gE P w H h':=λa o e =>
 (x a o e).jA (λb u _ q=>k b u q) (λ_ _ _ q=>q) λ_ _ q=>q
theorem gE.laid(x:gE P w H h)(k:∀b u,h.get? b=some u->h'.get? b=some u)(hp:h.objs.size<=a)(new:bZ P w (upd H a o) h' a o):gE P w (upd H a o) h':=λb u e=>by
 have hn:=x.fresh hp
 by_cases hb:b=a
 .subst hb;rw [me] at e;cases e;exact new
 .rw [cR hb] at e
  exact (x b u e).jA (λc v _ q=>k c v q) (λc _ _ q=>by rw [cR (pI q hn)];exact q) λc xs q=>by rw [cR (pI q hn)];exact q
end
def Rd(H:Hp)(a:Addr)(u:HO):Prop:=H a=some u\/∃o,H a=some (.iW o u)
theorem Rd.of(h:H a=some u):Rd H a u:=.inl h
theorem Rd.ok(r:Rd H a u)(x:gE P w H h):bZ P w H h a u:=by
 rcases r with r | ⟨o,r⟩
 .exact x a u r
 .obtain ⟨_,q⟩:=x a _ r
  exact q
def D5:Option HO->Prop
 | some (.lst _)=>True
 | some (.dK _)=>True
 | some (.dT _)=>True
 | some (.set _ _)=>True
 | some (.ins _ _ _)=>True
 | some (.ext _)=>True
 | some (.tab _)=>True
 | _=>False
section
variable {P:Program}{w:World}{H:Hp}{h h':Heap}{x e:Addr}{o':HO}
theorem gE.write(ok:gE P w H h)(mu:D5 (H x))(he:e=x\/H e=some (.own x))(k:∀b u,b≠e->h.get? b=some u->h'.get? b=some u)(vn:∃u,h'.get? e=some u)
  (new:bZ P w (upd H x o') h' x o'):gE P w (upd H x o') h':=λb u q=>by
 have ER:∀c y,H c=some (.own y)->c≠x:=λc y r z=>by subst z;rw [r] at mu;exact mu
 have EO:∀c xs,H c=some (.tup xs)->c≠x:=λc xs r z=>by subst z;rw [r] at mu;exact mu
 have ES:∀c y u,ownOf u=some y->H c=some u->c≠x:=λc y u hu r z=>by
  subst z;rw [r] at mu
  cases u with
  | own y=>exact mu
  | iW o v=>exact mu
  | _=>cases hu
 by_cases hb:b=x
 .subst hb;rw [me] at q;cases q;exact new
 .rw [cR hb] at q
  by_cases tM:b=e
  .have q':H b=some (.own x):=by
    rcases he with z | z
    .exact absurd (tM.trans z) hb
    .rw [tM];exact z
   rw [q] at q';cases q'
   obtain ⟨v,hv⟩:=vn
   exact ⟨v,by rw [tM];exact hv⟩
  .refine (ok b u q).jA (λc v hc r=>k c v ?_ r) (λc u hu r=>by rw [cR (ES c b u hu r)];exact r) λc xs r=>by rw [cR (EO c xs r)];exact r
   rcases hc with rfl | hc
   .exact tM
   .rintro rfl
    rcases he with z | z
    .exact ER c b hc z
    .rw [hc] at z;cases z;exact hb rfl
end
structure Un(fs ex:List Addr)(H H':Hp)(h h':Heap):Prop where
 keep:∀b o,h.get? b=some o->H b=none->b∉fs->b∉ex->h'.get? b=some o
 slot:∀b o,h.get? b=some o->H b=none->b∈fs->b∉ex->∃sl,h'.get? b=some { o with slots:=sl }
 free:∀b o,h.get? b=some o->H b=none->b∉ex->H' b=none
 there:∀b o,h.get? b=some o->b∉ex->∃o',h'.get? b=some o'
 fq:∀b xs,H b=some (.tup xs)->H' b=some (.tup xs)
 eN:∀b o u,H b=some (.iW o u)->H' b=some (.iW o u)
 fu:∀b ps,H b=some (.sA ps)->∃more,H' b=some (.sA (ps++more))
section
variable {fs Ga ex LZ:List Addr}{H H1 H2:Hp}{h h1 h2 h':Heap}{a x e:Addr}{o:HO}
theorem Un.any(u:Un fs ex H H1 h h1)(q:h.get? b=some ob)(n:H b=none)(hx:b∉ex):∃sl,h1.get? b=some { ob with slots:=sl }:=by
 by_cases hb:b∈fs
 .exact u.slot b ob q n hb hx
 .exact ⟨ob.slots,u.keep b ob q n hb hx⟩
theorem Un.trans(a:Un fs ex H H1 h h1)(b:Un fs ex H1 H2 h1 h2):Un fs ex H H2 h h2 where
 keep:=λc ob q n hc hx=>b.keep c ob (a.keep c ob q n hc hx) (a.free c ob q n hx) hc hx
 slot:=λc ob q n hc hx=>by
  obtain ⟨sl,e1⟩:=a.slot c ob q n hc hx
  obtain ⟨Ex,e2⟩:=b.slot c _ e1 (a.free c ob q n hx) hc hx
  exact ⟨Ex,e2⟩
 free:=λc ob q n hx=>by
  obtain ⟨o',e1⟩:=a.there c ob q hx
  exact b.free c o' e1 (a.free c ob q n hx) hx
 there:=λc ob q hx=>by
  obtain ⟨o',e1⟩:=a.there c ob q hx
  exact b.there c o' e1 hx
 fq:=λc xs q=>b.fq c xs (a.fq c xs q)
 eN:=λc ob xs q=>b.eN c ob xs (a.eN c ob xs q)
 fu:=λc ps q=>by
  obtain ⟨m1,e1⟩:=a.fu c ps q
  obtain ⟨m2,e2⟩:=b.fu c _ e1
  exact ⟨m1++m2,by rw [e2,MA]⟩
theorem Un.kept(k:∀b u,h.get? b=some u->h'.get? b=some u):Un fs ex H H h h':=
 ⟨λb ob q _ _ _=>k b ob q,λb ob q _ _ _=>⟨ob.slots,k b ob q⟩,λ_ _ _ n _=>n,λb ob q _=>⟨ob,k b ob q⟩,λ_ _ q=>q,λ_ _ _ q=>q,λ_ ps q=>⟨#[],by rw [q];simp⟩⟩
theorem Un.refl:Un fs ex H H h h:=Un.kept λ_ _ q=>q
theorem Un.laid(k:∀b u,h.get? b=some u->h'.get? b=some u)(hp:h.objs.size<=a)(hn:H a=none):Un fs ex H (upd H a o) h h' where
 keep:=λb u q _ _ _=>k b u q
 slot:=λb u q _ _ _=>⟨u.slots,k b u q⟩
 free:=λb u q n _=>by rw [cR (cI (jg (bF q) hp))];exact n
 there:=λb u q _=>⟨u,k b u q⟩
 fq:=λb xs q=>by rw [cR (pI q hn)];exact q
 eN:=λb u xs q=>by rw [cR (pI q hn)];exact q
 fu:=λb ps q=>⟨#[],by rw [cR (pI q hn),q];simp⟩
theorem Un.write(mu:D5 (H x))(he:e=x\/H e=some (.own x))(k:∀b u,b≠e->h.get? b=some u->h'.get? b=some u)(vn:∃u,h'.get? e=some u):Un fs ex H (upd H x o) h h':=by
 have hx:∀b,H b=none->b≠x:=λb n z=>by subst z;rw [n] at mu;exact mu
 have hb:∀b,H b=none->b≠e:=λb n z=>by
  subst z
  rcases he with r | r
  .exact hx b n r
  .rw [n] at r;cases r
 have hm:∀b u,H b=some u->¬D5 (some u)->b≠x:=λb u q nm z=>by subst z;rw [q] at mu;exact nm mu
 refine ⟨λb u q n _ _=>k b u (hb b n) q,λb u q n _ _=>⟨u.slots,k b u (hb b n) q⟩,λb u q n _=>by rw [cR (hx b n)];exact n,λb u q _=>?_,
  λb xs q=>by rw [cR (hm b _ q λz=>z)];exact q,λb u xs q=>by rw [cR (hm b _ q λz=>z)];exact q,λb ps q=>⟨#[],by rw [cR (hm b _ q λz=>z),q];simp⟩⟩
 by_cases tM:b=e
 .subst tM;exact vn
 .exact ⟨u,k b u tM q⟩
theorem Un.mono(u:Un fs ex H H1 h h1)(hs:∀b∈fs,b∈Ga)(hx:∀b∈ex,b∈LZ):Un Ga LZ H H1 h h1:=
 ⟨λb ob q n hb he=>u.keep b ob q n (λz=>hb (hs b z)) λz=>he (hx b z),λ_ _ q n _ he=>u.any q n λz=>he (hx _ z),λb ob q n he=>u.free b ob q n λz=>he (hx b z),λb ob q he=>u.there b ob q λz=>he (hx b z),u.fq,u.eN,u.fu⟩
end
def Bt(h:Heap)(H:Hp):List Addr:=(jt h.objs.size).filter λa=>(H a).isSome
def iU(h:Heap)(H:Hp):Heap:=PySem.W.hideAll h (Bt h H)
theorem b0q(h:Heap)(H:Hp):(iU h H).objs.size=h.objs.size:=PySem.W.hideAll_size _ _
theorem Zq(e:h.get? b=some o)(n:H b=none):(iU h H).get? b=some o:=
 PySem.W.hideAll_get _ e λhm=>by
  have q:(H b).isSome=true:=(List.mem_filter.mp hm).2
  rw [n] at q;simp at q
theorem Ye(e:(iU h H).get? b=some o):h.get? b=some o/\H b=none:=by
 have e':h.get? b=some o:=PySem.W.of_hideAll (Bt h H) e
 refine ⟨e',?_⟩
 cases q:H b with
 | none=>rfl
 | some x =>
  have hm:b∈Bt h H:=List.mem_filter.mpr ⟨zA.mpr (bF e'),by simp [q]⟩
  have z:(iU h H).get? b=none:=PySem.W.hideAll_none (Bt h H) hm
  rw [z] at e;cases e
def YR(g h:Heap)(L:Addr):List (Addr×Obj):=(jt h.objs.size).filterMap λa=>if a=L\/(g.get? a).isSome=true then none else (h.get? a).map λo=>(a,o)
def rest(g h:Heap)(L d:Addr):List (Addr×Obj):=(YR g h L).filter λp=>decide (p.1≠d)
end L2
namespace L2
open PySem PySem.Spec PyProof.Rows
structure Mod(K:aB)(mg:Str->Option Value)(base:Heap):Prop where
 E1:K.In base
 glob:base.Ns mainGlobals mg
 blt:∃mb,base.Ns builtinsNs mb/\∀x:Str,x ≠ "__name__" -> mb x=bootBuiltins x
 nolimit:base.NoLimit
 bmod:∃bm ob,mg "__builtins__" = some (.ref bm)/\bm≠builtinsNs/\base.get? bm=some ob/\ob.cls=.type "module" /\ ob.dict=some builtinsNs/\ob.data=.plain
structure Cx where
 prog:Program
 w:World
 K:aB
 mg:Str->Option Value
 base:Heap
 A:Around
 N:List Str
 cC:Shared
 oP:Hp
 env:Env
 outer:List Env
 stack:List Env
 ex:List Addr
 fn:Str->Bool
 calm:Bool
 pn:List (Addr×Obj)
 xe:Value->Shared->Prop
def mC(l:List Env):List Addr:=l.filterMap (·.frame)
abbrev Cx.fs(X:Cx):List Addr:=mC X.outer
def gU(sc:Scope)(x:Str):Prop:=sc.names.lookup x=some .local\/sc.names.lookup x=some .cell\/sc.names.lookup x=some .free
def Loc(sc:Scope)(x:Str):Prop:=sc.names.lookup x=some .local\/sc.names.lookup x=some .cell
def Look(env:Env)(h:Heap)(m:Str->Option Value)(x:Str)(u:Value):Prop:=
 (env.kindOf x=some .local/\m x=some u)\/((env.kindOf x=some .cell\/env.kindOf x=some .free)/\∃c,env.cells.lookup x=some c/\h.IsCell c (some u))
structure Cx.Ok(X:Cx):Prop where
 mod:Mod X.K X.mg X.base
 kind:X.env.scope.kind=.function
 glob:X.env.globals=mainGlobals
 blt:X.env.builtins=builtinsNs
 above:X.cC.heap.objs.size<=X.env.locals
 inj:∀x y c,X.env.cells.lookup x=some c->X.env.cells.lookup y=some c->x=y
 has:∀x,(X.env.kindOf x=some .cell\/X.env.kindOf x=some .free)->∃c,X.env.cells.lookup x=some c
 zq:∀x c,X.fn x=true->X.env.cells.lookup x=some c->X.cC.heap.objs.size<=c
 hd:X.calm=true->X.A.handled=none
 frames:X.A.frames=some X.stack
 Bv:X.stack=X.outer\/(X.stack=X.env::X.outer/\X.env.frame=some X.env.locals)
 LY:∀b∈X.ex,b≠X.env.locals/\∀x c,X.env.cells.lookup x=some c->c≠b
 bs:∀b o,X.base.get? b=some o->X.cC.heap.get? b=some o/\X.oP b=none
 ni:X.base.objs.size<=X.cC.heap.objs.size
 nX:∀b o,X.base.get? b=some o->b∉X.ex
 qj:∀b∈X.ex,b∉X.fs
 eM:X.cC.heap.FunFrames X.base X.outer
 qi:∀b∈X.fs,X.oP b=none
structure Inv(X:Cx)(pins:List (Addr×Obj))(σ:List (Option V))(H:Hp)(s:Shared):Prop where
 ok:X.Ok
 os:s.os=X.cC.os
 bare:AllBare s.gens
 base:Un X.fs X.ex X.oP H X.cC.heap s.heap
 loc:∃m,s.heap.Ns X.env.locals m/\∀(i:Nat) (x:Str) (v:V),X.N[i]?=some x->σ[i]?=some (some v)->gU X.env.scope x->∃u,RelV v u/\Look X.env s.heap m x u
 cell:∀x c,X.env.cells.lookup x=some c->∃v,s.heap.IsCell c v
 free:H X.env.locals=none
 dD:∀x c,X.env.cells.lookup x=some c->H c=none
 pin:∀p∈X.pn++pins,s.heap.get? p.1=some p.2/\H p.1=none/\p.1≠X.env.locals/\p.1∉X.fs/\∀v,p.2.data≠.cell v
 bb:gE X.prog X.w H s.heap
 len:σ.length=X.N.length
section
variable {X:Cx}{pins:List (Addr×Obj)}{σ:List (Option V)}{H H':Hp}{s:Shared}{h':Heap}
theorem Cx.Ok.EU(ok:X.Ok)(e:X.base.get? b=some o):b∉X.fs:=λhb=>by
 have:=(ok.eM.mem hb).1
 rw [e] at this;cases this
theorem Inv.bs(I:Inv X pins σ H s):∀b o,X.base.get? b=some o->s.heap.get? b=some o/\H b=none:=λb o e =>
 ⟨I.base.keep b o (I.ok.bs b o e).1 (I.ok.bs b o e).2 (I.ok.EU e) (I.ok.nX b o e),I.base.free b o (I.ok.bs b o e).1 (I.ok.bs b o e).2 (I.ok.nX b o e)⟩
theorem Inv.bk(I:Inv X pins σ H s):∀b o,X.base.get? b=some o->s.heap.get? b=some o:=λb o e=>(I.bs b o e).1
theorem Inv.mod(I:Inv X pins σ H s):Mod X.K X.mg X.base:=I.ok.mod
theorem Inv.sX(I:Inv X pins σ H s):X.K.In s.heap:=I.ok.mod.E1.keeps I.bk
theorem Inv.nolimit(I:Inv X pins σ H s):s.heap.NoLimit:=I.ok.mod.nolimit.keeps I.bk
theorem Inv.fr(I:Inv X pins σ H s):∃m,Fr X.base X.env.locals s.heap m:=
 let ⟨m,hn,_⟩:=I.loc
 ⟨m,hn,I.bk,dE I.ok.ni I.ok.above⟩
theorem Inv.lt(I:Inv X pins σ H s):X.env.locals<s.heap.objs.size:=let ⟨_,hn,_⟩:=I.loc;hn.lt
theorem Inv.sz(I:Inv X pins σ H s):X.cC.heap.objs.size<=s.heap.objs.size:=dE I.ok.above (rz I.lt)
theorem Inv.ET(I:Inv X pins σ H s){a:Addr}(h:s.heap.objs.size<=a):a∉X.fs:=λhb=>by
 obtain ⟨_,o,ho,_⟩:=I.ok.eM.mem hb
 exact absurd (jg (bF ho) (dE I.sz h)) (o6 _)
theorem Inv.tX(I:Inv X pins σ H s):∀x c,X.env.cells.lookup x=some c->c≠X.env.locals:=λx c e z=>by
 obtain ⟨v,o,ho,hd⟩:=I.cell x c e
 obtain ⟨m,⟨o',es,ep,my,vo,_⟩,_⟩:=I.loc
 rw [z,my] at ho;cases ho;rw [vo] at hd;cases hd
theorem Inv.eM(I:Inv X pins σ H s):s.heap.FunFrames X.base X.outer:=by
 have all:∀(l:List Env),(∀b∈mC l,b∈X.fs)->X.cC.heap.FunFrames X.base l->s.heap.FunFrames X.base l:=by
  intro l
  induction l with
  | nil=>intro _ _;trivial
  | cons env r ih =>
   intro hs hl
   obtain ⟨hk,⟨L,o,hf,hn,ho,hd⟩,hr⟩:=hl
   have hL:L∈X.fs:=hs L (by unfold mC;rw [CG,hf];exact cm)
   obtain ⟨sl,e⟩:=I.base.slot L o ho (I.ok.qi L hL) hL λz=>I.ok.qj L z hL
   exact ⟨hk,⟨L,_,hf,hn,e,hd⟩,ih (λb hb=>hs b (by unfold mC;rw [CG,hf];exact cG _ hb)) hr⟩
 exact all X.outer (λ_ hb=>hb) I.ok.eM
theorem Inv.stack(I:Inv X pins σ H s):s.heap.FunFrames X.base X.stack:=by
 rcases I.ok.Bv with e | ⟨e,hf⟩
 .rw [e];exact I.eM
 .rw [e]
  obtain ⟨m,hn,_⟩:=I.loc
  refine .cons (by rw [I.ok.kind];decide) hf hn ?_ I.eM
  exact Heap.get?_none_of_le (dE I.ok.ni I.ok.above)
theorem Inv.gg(I:Inv X pins σ H s):∀b∈mC X.stack,b∈X.env.locals::X.fs:=λb hb=>by
 rcases I.ok.Bv with e | ⟨e,hf⟩
 .rw [e] at hb;exact cG _ hb
 .rw [e] at hb
  unfold mC at hb
  rw [CG,hf] at hb
  exact hb
theorem Inv.lT(I:Inv X pins σ H s):∀b∈mC X.stack,H b=none:=λb hb=>by
 rcases bx.mp (I.gg b hb) with e | hb
 .rw [e];exact I.free
 .obtain ⟨_,o,ho,_⟩:=I.ok.eM.mem hb
  exact I.base.free b o ho (I.ok.qi b hb) λz=>I.ok.qj b z hb
theorem Inv.step{g':Array GenState}{t':Nat}{d':Drawn}{ch:List Addr}(I:Inv X pins σ H s)
  (oX:∀b∈ch,(b∈X.ex\/X.cC.heap.objs.size<=b)/\b≠X.env.locals/\(∀x c,X.env.cells.lookup x=some c->c≠b)/\∀p∈X.pn++pins,p.1≠b)
  (keep:∀b o,b≠X.env.locals->b∉X.fs->b∉ch->s.heap.get? b=some o->H b=none->h'.get? b=some o)
  (slot:∀b o,b≠X.env.locals->b∈X.fs->b∉ch->s.heap.get? b=some o->H b=none->∃sl,h'.get? b=some { o with slots:=sl })(free:∀b o,b∉ch->s.heap.get? b=some o->H b=none->H' b=none)
  (there:∀b o,b∉ch->s.heap.get? b=some o->∃o',h'.get? b=some o')
  (fq:∀b xs,H b=some (.tup xs)->H' b=some (.tup xs))(eN:∀b o u,H b=some (.iW o u)->H' b=some (.iW o u))(fu:∀b ps,H b=some (.sA ps)->∃more,H' b=some (.sA (ps++more)))
  (ns:∀m,s.heap.Ns X.env.locals m->h'.Ns X.env.locals m)(bb:gE X.prog X.w H' h')(hg:AllBare g'):
  Inv X pins σ H' { s with heap:=h',gens:=g',drawn:=d',toks:=t' }:=by
 have Lf:∀b o,X.cC.heap.get? b=some o->b≠X.env.locals:=λb o e=>cI (jg (bF e) I.ok.above)
 have BA:∀b o,X.cC.heap.get? b=some o->b∉X.ex->b∉ch:=λb o e hx hb=>by
  rcases (oX b hb).1 with z | z
  .exact hx z
  .exact absurd (jg (bF e) z) (o6 _)
 have cellK:∀x c,X.env.cells.lookup x=some c->∀v,s.heap.IsCell c v->h'.IsCell c v:=λx c e v ⟨o,ho,hd⟩=>by
  have xU:c∉ch:=λz=>(oX c z).2.2.1 x c e rfl
  by_cases hc:c∈X.fs
  .obtain ⟨sl,q⟩:=slot c o (I.tX x c e) hc xU ho (I.dD x c e)
   exact ⟨_,q,hd⟩
  .exact ⟨o,keep c o (I.tX x c e) hc xU ho (I.dD x c e),hd⟩
 refine ⟨I.ok,I.os,hg,⟨λb o e n hb hx=>?_,λb o e n hb hx=>?_,λb o e n hx=>?_,λb o e hx=>?_,λb xs e=>fq b xs (I.base.fq b xs e),λb o xs e=>eN b o xs (I.base.eN b o xs e),λb ps e=>?_⟩,?_,λx c e=>?_,?_,λx c e=>?_,λp hp=>?_,bb,I.len⟩
 .exact keep b o (Lf b o e) hb (BA b o e hx) (I.base.keep b o e n hb hx) (I.base.free b o e n hx)
 .obtain ⟨sl,e1⟩:=I.base.slot b o e n hb hx
  obtain ⟨Ex,e2⟩:=slot b _ (Lf b o e) hb (BA b o e hx) e1 (I.base.free b o e n hx)
  exact ⟨Ex,e2⟩
 .obtain ⟨o',e1⟩:=I.base.there b o e hx
  exact free b o' (BA b o e hx) e1 (I.base.free b o e n hx)
 .obtain ⟨o',e1⟩:=I.base.there b o e hx
  exact there b o' (BA b o e hx) e1
 .obtain ⟨m1,e1⟩:=I.base.fu b ps e
  obtain ⟨m2,e2⟩:=fu b _ e1
  exact ⟨m1++m2,by rw [e2,MA]⟩
 .obtain ⟨m,hn,hl⟩:=I.loc
  refine ⟨m,ns m hn,λi x v e1 e2 e3=>?_⟩
  obtain ⟨u,r,l⟩:=hl i x v e1 e2 e3
  refine ⟨u,r,?_⟩
  rcases l with l | ⟨k,c,e,z⟩
  .exact .inl l
  .exact .inr ⟨k,c,e,cellK x c e _ z⟩
 .obtain ⟨v,z⟩:=I.cell x c e
  exact ⟨v,cellK x c e v z⟩
 .obtain ⟨m,⟨o,_,_,ho,_⟩,_⟩:=I.loc
  exact free _ o (λz=>(oX _ z).2.1 rfl) ho I.free
 .obtain ⟨v,o,ho,hd⟩:=I.cell x c e
  exact free c o (λz=>(oX c z).2.2.1 x c e rfl) ho (I.dD x c e)
 .obtain ⟨e,n,ne,nf,d⟩:=I.pin p hp
  have xU:p.1∉ch:=λz=>(oX p.1 z).2.2.2 p hp rfl
  exact ⟨keep p.1 p.2 ne nf xU e n,free p.1 p.2 xU e n,ne,nf,d⟩
theorem Inv.un(I:Inv X pins σ H s)(u:Un X.fs [] H H' s.heap h')(bb:gE X.prog X.w H' h'):Inv X pins σ H' { s with heap:=h',toks:=t' }:=by
 obtain ⟨m,⟨o,es,ep,ho,r⟩,_⟩:=id I.loc
 obtain ⟨sl,hL⟩:=u.any ho I.free (by simp)
 exact I.step (g':=s.gens) (d':=s.drawn) (ch:=[]) (λ_ z=>nomatch z) (λb o _ hb _ e n=>u.keep b o e n hb (by simp)) (λb o _ hb _ e n=>u.slot b o e n hb (by simp)) (λb o _ e n=>u.free b o e n (by simp)) (λb o _ e=>u.there b o e (by simp)) u.fq u.eN u.fu (λm' hm=>by
  obtain ⟨o',qk,Gh,my,r'⟩:=hm
  rw [ho] at my;cases my
  exact ⟨_,qk,Gh,hL,r'⟩) bb I.bare
theorem Inv.call(I:Inv X pins σ H s)(u:Un (mC X.stack) ch H H' s.heap h')(bb:gE X.prog X.w H' h')(hg:AllBare g')
  (oX:∀b∈ch,(b∈X.ex\/X.cC.heap.objs.size<=b)/\b≠X.env.locals/\(∀x c,X.env.cells.lookup x=some c->c≠b)/\∀p∈X.pn++pins,p.1≠b):
  Inv X pins σ H' { s with heap:=h',gens:=g',drawn:=d',toks:=t' }:=by
 obtain ⟨m,⟨o,es,ep,ho,r⟩,_⟩:=id I.loc
 obtain ⟨sl,hL⟩:=u.any ho I.free λz=>(oX _ z).2.1 rfl
 exact I.step (ch:=ch) oX (λb o hL hb hc e n=>u.keep b o e n (λz=>(bx.mp (I.gg b z)).elim hL hb) hc) (λb o _ _ hc e n=>u.any e n hc) (λb o hc e n=>u.free b o e n hc) (λb o hc e=>u.there b o e hc) u.fq u.eN u.fu (λm' hm=>by
  obtain ⟨o',qk,Gh,my,r'⟩:=hm
  rw [ho] at my;cases my
  exact ⟨_,qk,Gh,hL,r'⟩) bb hg
theorem Inv.turned(I:Inv X pins σ H s)(k:∀b o,b≠it->s.heap.get? b=some o->h'.get? b=some o)(hn:H it=none)(hL:it≠X.env.locals)
  (h1:it∈X.ex\/X.cC.heap.objs.size<=it)(h2:∀x c,X.env.cells.lookup x=some c->c≠it)(h3:∀p∈X.pn++pins,p.1≠it):Inv X pins σ H { s with heap:=h',toks:=t' }:=by
 have xS:∀b u,H b=some u->b≠it:=λb u e z=>by rw [z,hn] at e;cases e
 refine I.step (g':=s.gens) (d':=s.drawn) (ch:=[it]) (λb hb=>?_) (λb o _ _ hc e _=>k b o (λz=>hc (by simp [z])) e) (λb o _ _ hc e _=>⟨o.slots,k b o (λz=>hc (by simp [z])) e⟩) (λ_ _ _ _ n=>n)
  (λb o hc e=>⟨o,k b o (λz=>hc (by simp [z])) e⟩) (λ_ _ e=>e) (λ_ _ _ e=>e) (λb ps e=>⟨#[],by rw [e];simp⟩) (λm hm=>?_) (λb u e=>?_) I.bare
 .have e:b=it:=by simpa using hb
  subst e
  exact ⟨h1,hL,h2,h3⟩
 .obtain ⟨o,es,ep,ho,r⟩:=hm
  exact ⟨o,es,ep,k _ o (gJ hL) ho,r⟩
 .refine (I.bb b u e).jA (λc v hc q=>k c v ?_ q) (λ_ _ _ q=>q) λ_ _ q=>q
  rcases hc with z | z
  .rw [z];exact xS b u e
  .exact xS c _ z
theorem Inv.tok(I:Inv X pins σ H s)(t:Nat):Inv X pins σ H { s with toks:=t }:=I.un (h':=s.heap) (t':=t) Un.refl I.bb
theorem Inv.kept(I:Inv X pins σ H s)(k:∀b u,s.heap.get? b=some u->h'.get? b=some u):Inv X pins σ H { s with heap:=h',toks:=t' }:=I.un (Un.kept k) (I.bb.kept k)
theorem Inv.laid{a:Addr}{o:HO}{t':Nat}(I:Inv X pins σ H s)(k:∀b u,s.heap.get? b=some u->h'.get? b=some u)(hp:s.heap.objs.size<=a)(new:bZ X.prog X.w (upd H a o) h' a o):
  Inv X pins σ (upd H a o) { s with heap:=h',toks:=t' }:=I.un (Un.laid k hp (I.bb.fresh hp)) (I.bb.laid k hp new)
theorem Inv.write(I:Inv X pins σ H s)(mu:D5 (H x))(he:e=x\/H e=some (.own x))(k:∀b u,b≠e->s.heap.get? b=some u->h'.get? b=some u)(vn:∃u,h'.get? e=some u)
  (new:bZ X.prog X.w (upd H x o) h' x o):Inv X pins σ (upd H x o) { s with heap:=h',toks:=t' }:=I.un (Un.write mu he k vn) (I.bb.write mu he k vn new)
theorem Inv.eI(I:Inv X pins σ H s)(h:∀p∈xD,s.heap.get? p.1=some p.2/\H p.1=none/\p.1≠X.env.locals/\p.1∉X.fs/\∀v,p.2.data≠.cell v):Inv X xD σ H s:=
 ⟨I.ok,I.os,I.bare,I.base,I.loc,I.cell,I.free,I.dD,λp hp=>(bK.mp hp).elim (λz=>I.pin p (fU _ z)) (h p),I.bb,I.len⟩
theorem OL{N:List Str}(hN:N.Nodup){i j:Nat}{x:Str}(a:N[i]?=some x)(b:N[j]?=some x):i=j:=by
 obtain ⟨h1,e1⟩:=kr.mp a
 obtain ⟨h2,e2⟩:=kr.mp b
 exact (List.getElem_inj hN).mp (e1.trans e2.symm)
theorem a9v(I:Inv X pins σ H s)(hN:X.N.Nodup)(hi:X.N[i]?=some x)(hx:Loc X.env.scope x)(r:RelV v u)
  (h:∀s',Inv X pins (σ.set i (some v)) H s'->(∃a,pd a s.heap s'.heap/\(a=X.env.locals\/X.env.cells.lookup x=some a))->Q () s')(hf:X.fn x=true\/X.env.scope.names.lookup x=some .local:=by first | exact .inl rfl | exact .inr rfl | assumption):wpAny M A (storeName X.env x u) Q E s:=by
 obtain ⟨m,hn,hl⟩:=id I.loc
 have FU:(X.env.scope.kind==.class||(X.env.scope.kind==.module&&X.env.locals != X.env.globals))=false:=by rw [I.ok.kind];rfl
 have yI:i<σ.length:=by rw [I.len];exact (kr.mp hi).1
 have tX:=I.tX
 have tracked:∀{a:Addr} {h':Heap},(∃o,s.heap.get? a=some o/\H a=none)->pd a s.heap h'->gE X.prog X.w H h':=λ{a h'} ha hs b ob e=>by
  obtain ⟨_,_,q0⟩:=ha
  refine (I.bb b ob e).jA (λc w' hc q=>(hs.2 c ?_).trans q) (λ_ _ _ q=>q) λ_ _ q=>q
  rintro rfl
  rcases hc with rfl | hc
  .rw [q0] at e;cases e
  .rw [q0] at hc;cases hc
 rcases hx with hk | hk
 .refine wpAny_storeName_local hk hn (λh' U1 hs=>?_) FU
  obtain ⟨oL,_,_,UW,_⟩:=id hn
  refine h _ ⟨I.ok,I.os,I.bare,⟨λb o e n hb hx=>?_,λb o e n hb hx=>?_,I.base.free,λb o e hx=>?_,I.base.fq,I.base.eN,I.base.fu⟩,⟨_,U1,λj y v' e1 e2 e3=>?_⟩,λy c e=>?_,I.free,I.dD,λp hp=>?_,tracked ⟨oL,UW,I.free⟩ hs,by simpa using I.len⟩ ⟨_,hs,.inl rfl⟩
  .exact (hs.2 b (cI (jg (bF e) I.ok.above))).trans (I.base.keep b o e n hb hx)
  .obtain ⟨sl,e1⟩:=I.base.slot b o e n hb hx
   exact ⟨sl,(hs.2 b (cI (jg (bF e) I.ok.above))).trans e1⟩
  .obtain ⟨o',e1⟩:=I.base.there b o e hx
   exact ⟨o',(hs.2 b (cI (jg (bF e) I.ok.above))).trans e1⟩
  .by_cases hj:j=i
   .subst hj
    rw [hi] at e1;cases e1
    rw [iF yI] at e2
    cases e2
    exact ⟨u,r,.inl ⟨hk,by simp⟩⟩
   .rw [eD (gJ hj)] at e2
    obtain ⟨u',r',q⟩:=hl j y v' e1 e2 e3
    refine ⟨u',r',?_⟩
    rcases q with ⟨k,e⟩ | ⟨k,c,e,z⟩
    .refine .inl ⟨k,?_⟩
     have:y≠x:=λe=>hj (OL hN e1 (e▸hi))
     simp [this,e]
    .exact .inr ⟨k,c,e,z.sameBut hs (tX y c e)⟩
  .obtain ⟨w',z⟩:=I.cell y c e
   exact ⟨w',z.sameBut hs (tX y c e)⟩
  .obtain ⟨e,n,ne,nf,d⟩:=I.pin p hp
   exact ⟨(hs.2 p.1 ne).trans e,n,ne,nf,d⟩
 .have FK:X.fn x=true:=by
   rcases hf with z | z
   .exact z
   .rw [z] at hk;cases hk
  obtain ⟨c,hc⟩:=I.ok.has x (.inl hk)
  obtain ⟨w',z⟩:=I.cell x c hc
  refine wpAny_storeName_cell I.ok.kind hk hc z (λh' rf hs=>?_)
  obtain ⟨oc,Ly,Fz⟩:=id z
  refine h { s with heap:=h' } ⟨I.ok,I.os,I.bare,⟨λb o e n hb hx=>?_,λb o e n hb hx=>?_,I.base.free,λb o e hx=>?_,I.base.fq,I.base.eN,I.base.fu⟩,⟨m,hn.sameBut hs (gJ (tX x c hc)),λj y v' e1 e2 e3=>?_⟩,λy c' e=>?_,I.free,I.dD,λp hp=>?_,tracked ⟨oc,Ly,I.dD x c hc⟩ hs,by simpa using I.len⟩ ⟨c,hs,.inr hc⟩
  .exact (hs.2 b (cI (jg (bF e) (I.ok.zq x c FK hc)))).trans (I.base.keep b o e n hb hx)
  .obtain ⟨sl,e1⟩:=I.base.slot b o e n hb hx
   exact ⟨sl,(hs.2 b (cI (jg (bF e) (I.ok.zq x c FK hc)))).trans e1⟩
  .obtain ⟨o',e1⟩:=I.base.there b o e hx
   exact ⟨o',(hs.2 b (cI (jg (bF e) (I.ok.zq x c FK hc)))).trans e1⟩
  .by_cases hj:j=i
   .subst hj
    rw [hi] at e1;cases e1
    rw [iF yI] at e2
    cases e2
    exact ⟨u,r,.inr ⟨.inl hk,c,hc,rf⟩⟩
   .rw [eD (gJ hj)] at e2
    obtain ⟨u',r',q⟩:=hl j y v' e1 e2 e3
    refine ⟨u',r',?_⟩
    rcases q with q | ⟨k,c',e,z'⟩
    .exact .inl q
    .refine .inr ⟨k,c',e,z'.sameBut hs ?_⟩
     rintro rfl
     exact hj (OL hN e1 (I.ok.inj _ _ _ e hc▸hi))
  .by_cases LK:c'=c
   .subst LK;exact ⟨_,rf⟩
   .obtain ⟨w2,z2⟩:=I.cell y c' e
    exact ⟨w2,z2.sameBut hs LK⟩
  .obtain ⟨e,n,ne,nf,d⟩:=I.pin p hp
   refine ⟨(hs.2 p.1 ?_).trans e,n,ne,nf,d⟩
   intro q
   rw [q,Ly] at e
   have q':oc=p.2:=cF e
   exact d w' (by rw [<-q'];exact Fz)
theorem Jp(I:Inv X pins σ H s)(hN:X.N.Nodup)(hi:X.N[i]?=some x)(hx:Loc X.env.scope x)(r:RelV v u)
  (h:∀s',Inv X pins (σ.set i (some v)) H s'->Q () s')(hf:X.fn x=true\/X.env.scope.names.lookup x=some .local:=by first | exact .inl rfl | exact .inr rfl | assumption):wpAny M A (storeName X.env x u) Q E s:=
 a9v I hN hi hx r (λs' I' _=>h s' I') hf
theorem Inv.zp(I:Inv X pins σ H s)(ho:s'.os=s.os)(u:Un (mC X.stack) ch H H' s.heap s'.heap)(bb:gE X.prog X.w H' s'.heap)(hg:AllBare s'.gens)
  (oX:∀b∈ch,(b∈X.ex\/X.cC.heap.objs.size<=b)/\b≠X.env.locals/\(∀x c,X.env.cells.lookup x=some c->c≠b)/\∀p∈X.pn++pins,p.1≠b):Inv X pins σ H' s':=by
 obtain ⟨h',g',d',t',o'⟩:=s'
 have e:o'=s.os:=ho
 subst e
 exact I.call (g':=g') (t':=t') (d':=d') u bb hg oX
end
abbrev XK:=Value->Option Addr->Hp->Prop
abbrev St:=List (Option V)
abbrev VK:=V->Hp->Prop
abbrev TE:=St->Hp->VK->Prop
abbrev TT:=St->Hp->(Bool->Hp->Prop)->Prop
abbrev TA:=St->Hp->(List V->Hp->Prop)->Prop
structure Ends where
 nx:St->Hp->Prop
 rt:VK
 bk:St->Hp->Prop:=λ_ _=>False
 ct:St->Hp->Prop:=λ_ _=>False
abbrev TS:=Ends->St->Hp->Prop
def EP(X:Cx)(pins:List (Addr×Obj))(σ:St)(Q:VK)(u:Value)(s':Shared):Prop:=∃v H',Inv X pins σ H' s'/\RelV v u/\Q v H'
def TP(X:Cx)(pins:List (Addr×Obj))(σ:St)(Q:Bool->Hp->Prop)(b:Bool)(s':Shared):Prop:=∃H',Inv X pins σ H' s'/\Q b H'
def AP(X:Cx)(pins:List (Addr×Obj))(σ:St)(Q:List V->Hp->Prop)(us:List Value)(s':Shared):Prop:=∃vs H',Inv X pins σ H' s'/\au vs us/\Q vs H'
def SP(X:Cx)(pins:List (Addr×Obj))(D:Ends)(f:Flow)(s':Shared):Prop:=
 match f with
 | .next=>∃aE H',Inv X pins aE H' s'/\D.nx aE H'
 | .brk=>∃aE H',Inv X pins aE H' s'/\D.bk aE H'
 | .cont=>∃aE H',Inv X pins aE H' s'/\D.ct aE H'
 | .ret u=>∃v aE H',Inv X pins aE H' s'/\RelV v u/\D.rt v H'
def PE(X:Cx)(e:Expr)(t:TE):Prop:=
 ∀(pins:List (Addr×Obj)) (s:Shared) (σ:St) (H:Hp) (Q:VK),Inv X pins σ H s->t σ H Q->wpAny (model X.prog X.w) X.A (eval e X.env) (EP X pins σ Q) X.xe s
def PT(X:Cx)(e:Expr)(t:TT):Prop:=
 ∀(pins:List (Addr×Obj)) (s:Shared) (σ:St) (H:Hp) (Q:Bool->Hp->Prop),Inv X pins σ H s->t σ H Q->wpAny (model X.prog X.w) X.A (isTrue e X.env (eval e X.env)) (TP X pins σ Q) X.xe s
def PW(X:Cx)(e:Expr)(t:TT):Prop:=
 ∀(whole:Sem Value) (pins:List (Addr×Obj)) (s:Shared) (σ:St) (H:Hp) (Q:Bool->Hp->Prop),Inv X pins σ H s->t σ H Q->wpAny (model X.prog X.w) X.A (isTrue e X.env whole) (TP X pins σ Q) X.xe s
theorem PW.pt(h:PW X e t):PT X e t:=h _
def PA(X:Cx)(es:List Expr)(t:TA):Prop:=
 ∀(pos:Pos) (pins:List (Addr×Obj)) (s:Shared) (σ:St) (H:Hp) (Q:List V->Hp->Prop),Inv X pins σ H s->t σ H Q->wpAny (model X.prog X.w) X.A (spliced (backTo pos (starEach es X.env))) (AP X pins σ Q) X.xe s
def PS(X:Cx)(st:Stmt)(t:TS):Prop:=
 ∀(pins:List (Addr×Obj)) (s:Shared) (σ:St) (H:Hp) (D:Ends),Inv X pins σ H s->t D σ H->wpAny (model X.prog X.w) X.A (exec st X.env) (SP X pins D) X.xe s
def mj(X:Cx)(st:List Stmt)(t:TS):Prop:=
 ∀(pins:List (Addr×Obj)) (s:Shared) (σ:St) (H:Hp) (D:Ends),Inv X pins σ H s->t D σ H->wpAny (model X.prog X.w) X.A (execs st X.env) (SP X pins D) X.xe s
theorem bz{α:Type}{t:Sem α}{Q Q':α->Shared->Prop}{M:Model}{A:Around}{E:Value->Shared->Prop}{s:Shared}(h:wpAny M A t Q E s)(hQ:∀a s,Q a s->Q' a s):wpAny M A t Q' E s:=je h hQ λ_ _ x=>x
end L2
namespace L2
open PySem PySem.Spec PyProof.Rows
section
variable {X:Cx}
def wU(i:Nat):TE:=λσ H Q=>∃v,σ[i]?=some (some v)/\Q v H
def tC(v:V):TE:=λ_ H Q=>Q v H
theorem rT{i:Nat}{x:Str}{pos:Pos}(hN:X.N[i]?=some x)(hv:gU X.env.scope x)(hd:(x==("__debug__":Str))=false:=by decide)(cM:(x==("__classdict__":Str))=false:=by decide):PE X (.Name x pos) (wU i):=by
 intro pins s σ H Q I h
 obtain ⟨v,e,h⟩:=h
 obtain ⟨m,hn,hl⟩:=I.loc
 obtain ⟨u,r,l⟩:=hl i x v hN e hv
 have fin:EP X pins σ Q u s:=⟨v,H,I,r,h⟩
 rcases l with ⟨hk,hm⟩ | ⟨hk,c,hc,eJ⟩
 .exact wpAny_Name (wpAny_loadName_local I.ok.kind hk hn hm fin) hd
 .rcases hk with hk | hk
  .exact wpAny_Name (wpAny_loadName_cell I.ok.kind hk hc eJ fin) hd
  .exact wpAny_Name (wpAny_loadName_free I.ok.kind hk hc eJ fin cM) hd
theorem Xj{i j pos}:PE X (.Constant (.int i) j pos) (tC (.int i)):=λ_ _ _ H _ I h=>wpAny_Constant_int ⟨.int i,H,I.tok _,⟨_,rfl⟩,h⟩
theorem xI{b j pos}:PE X (.Constant (.bool b) j pos) (tC (.bl b)):=λ_ _ _ H _ I h=>Constant_bool ⟨.bl b,H,I,rfl,h⟩
theorem Xl{j pos}:PE X (.Constant .none j pos) (tC .aS):=λ_ _ _ H _ I h=>Constant_none ⟨.aS,H,I,rfl,h⟩
def Gl(X:Cx)(x:Str):Prop:=X.env.kindOf x=some .globalImplicit
theorem IS{E:Value->Shared->Prop}{pins:List (Addr×Obj)}{s:Shared}{σ:St}{H:Hp}{x:Str}{u:Value}{pos:Pos}{Q:Value->Shared->Prop}(I:Inv X pins σ H s)(hg:Gl X x)(hm:X.mg x=some u)(h:Q u s)
  (hd:(x==("__debug__":Str))=false:=by decide):wpAny (model X.prog X.w) X.A (eval (.Name x pos) X.env) Q E s:=
 MP I.ok.kind hg (Calls.loadGlobal_global (by rw [I.ok.glob];exact I.mod.glob.keeps I.bk) hm h) hd
theorem rR{E:Value->Shared->Prop}{pins:List (Addr×Obj)}{s:Shared}{σ:St}{H:Hp}{x:Str}{u:Value}{pos:Pos}{Q:Value->Shared->Prop}(I:Inv X pins σ H s)(hg:Gl X x)(hm:X.mg x=none)(hv:bootBuiltins x=some u)(h:Q u s)
  (hn:x ≠ "__name__":=by decide)(hd:(x==("__debug__":Str))=false:=by decide):wpAny (model X.prog X.w) X.A (eval (.Name x pos) X.env) Q E s:=by
 obtain ⟨mb,h1,h2⟩:=I.mod.blt
 exact MP I.ok.kind hg (Calls.loadGlobal_builtin (by rw [I.ok.glob];exact I.mod.glob.keeps I.bk) hm (by rw [I.ok.blt];exact h1.keeps I.bk) ((h2 x hn).trans hv) h) hd
theorem Yo(hg:Gl X x)(hm:X.mg x=some u)(r:RelV v u)(hd:(x==("__debug__":Str))=false:=by decide):PE X (.Name x pos) (tC v):=
 λ_ _ _ H _ I h=>IS I hg hm ⟨v,H,I,r,h⟩ hd
theorem Yl{x:Str}{v:V}{u:Value}{pos:Pos}(hg:Gl X x)(hm:X.mg x=none)(hv:bootBuiltins x=some u)(r:RelV v u)(hn:x ≠ "__name__":=by decide)(hd:(x==("__debug__":Str))=false:=by decide):PE X (.Name x pos) (tC v):=
 λ_ _ _ H _ I h=>rR I hg hm hv ⟨v,H,I,r,h⟩ hn hd
variable {a b:Expr}{ta tb:TE}{pos:Pos}
variable {tA Bu:TT}{rest:List Expr}
def Er(t u:TT):TT:=λσ H Q=>t σ H λc H1=>if c=true then u σ H1 Q else Q false H1
def QI(t u:TT):TT:=λσ H Q=>t σ H λc H1=>if c=true then Q true H1 else u σ H1 Q
def Eh(t:TT):TT:=λσ H Q=>t σ H λc H1=>Q (!c) H1
theorem Y5(ha:PT X a tA):PW X (.BoolOp .And [a] pos) tA:=by
 intro wh pins s σ H Q I h
 refine isTrue_and (bz (ha pins s σ H Q I h) λc s1 e=>?_)
 cases c with
 | true=>exact isTrue_and_nil e
 | false=>exact e
theorem Xw(ha:PT X a tA):PW X (.BoolOp .Or [a] pos) tA:=by
 intro wh pins s σ H Q I h
 refine isTrue_or (bz (ha pins s σ H Q I h) λc s1 e=>?_)
 cases c with
 | false=>exact isTrue_or_nil e
 | true=>exact e
theorem Xv(ha:PT X a tA)(hb:PW X (.BoolOp .And (b::rest) pos) Bu):PW X (.BoolOp .And (a::b::rest) pos) (Er tA Bu):=by
 intro wh pins s σ H Q I h
 refine isTrue_and (bz (ha pins s σ H _ I h) λc s1 ⟨H1,I1,q1⟩=>?_)
 cases c with
 | true=>exact hb wh pins s1 σ H1 Q I1 q1
 | false=>exact ⟨H1,I1,q1⟩
theorem pw_or(ha:PT X a tA)(hb:PW X (.BoolOp .Or (b::rest) pos) Bu):PW X (.BoolOp .Or (a::b::rest) pos) (QI tA Bu):=by
 intro wh pins s σ H Q I h
 refine isTrue_or (bz (ha pins s σ H _ I h) λc s1 ⟨H1,I1,q1⟩=>?_)
 cases c with
 | true=>exact ⟨H1,I1,q1⟩
 | false=>exact hb wh pins s1 σ H1 Q I1 q1
theorem Xu(ha:PT X a tA):PT X (.UnaryOp .Not a pos) (Eh tA):=by
 intro pins s σ H Q I h
 exact isTrue_not (ha pins s σ H (λc H1=>Q (!c) H1) I h)
def w9(ta tb:TE):TE:=λσ H Q=>ta σ H λx H1=>∃c,x=.bl c/\if c=true then tb σ H1 Q else Q (.bl false) H1
def Eg(ta tb:TE):TE:=λσ H Q=>ta σ H λx H1=>∃c,x=.bl c/\if c=true then Q (.bl true) H1 else tb σ H1 Q
def wY(ta:TE):TE:=λσ H Q=>ta σ H λx H1=>∃c,x=.bl c/\Q (.bl (!c)) H1
theorem Xn{op}(h:PE X a t):PE X (.BoolOp op [a] pos) t:=λpins s σ H Q I hw=>BoolOp_one (h pins s σ H Q I hw)
theorem Xh(ha:PE X a ta)(hb:PE X (.BoolOp .And (b::rest) pos) tb):PE X (.BoolOp .And (a::b::rest) pos) (w9 ta tb):=by
 intro pins s σ H Q I h
 refine BoolOp_and (bz (ha pins s σ H _ I h) λv s1 ⟨x,H1,I1,r1,q1⟩=>?_)
 obtain ⟨c,rfl,q1⟩:=q1
 cases r1
 refine vS ?_
 cases c with
 | true=>exact hb pins s1 σ H1 Q I1 q1
 | false=>exact ⟨.bl false,H1,I1,rfl,q1⟩
theorem HR(ha:PE X a ta)(hb:PE X (.BoolOp .Or (b::rest) pos) tb):PE X (.BoolOp .Or (a::b::rest) pos) (Eg ta tb):=by
 intro pins s σ H Q I h
 refine BoolOp_or (bz (ha pins s σ H _ I h) λv s1 ⟨x,H1,I1,r1,q1⟩=>?_)
 obtain ⟨c,rfl,q1⟩:=q1
 cases r1
 refine vS ?_
 cases c with
 | false=>exact hb pins s1 σ H1 Q I1 q1
 | true=>exact ⟨.bl true,H1,I1,rfl,q1⟩
theorem Xm(ha:PE X a ta):PE X (.UnaryOp .Not a pos) (wY ta):=by
 intro pins s σ H Q I h
 refine UnaryOp_ (bz (ha pins s σ H _ I h) λv s1 ⟨x,H1,I1,r1,q1⟩=>?_)
 obtain ⟨c,rfl,q1⟩:=q1
 cases r1
 exact not_of (vS ⟨.bl (!c),H1,I1,rfl,q1⟩)
def QJ(t:TT)(ta tb:TE):TE:=λσ H Q=>t σ H λc H1=>if c=true then ta σ H1 Q else tb σ H1 Q
theorem ZS(hc:PT X c tA)(ha:PE X a ta)(hb:PE X b tb):PE X (.IfExp c a b pos) (QJ tA ta tb):=by
 intro pins s σ H Q I h
 refine wpAny_IfExp (bz (hc pins s σ H _ I h) λd s1 ⟨H1,I1,q1⟩=>?_)
 cases d with
 | true=>exact ha pins s1 σ H1 Q I1 q1
 | false=>exact hb pins s1 σ H1 Q I1 q1
end
end L2
namespace L2
open PySem PySem.Spec PyProof.Rows
def dH(K:aB)(H:Hp)(a:Addr)(xs:List V):Prop:=
 Rd H a (.lst xs) \/
  ∃(o:Obj) (aq:Array Value) (n:Nat),K.lookup a=some o/\o.cls=.type "list" /\ o.dict=none/\o.data=.seq aq n/\aq.size<=sizeLine/\au xs aq.toList
def dR(K:aB)(H:Hp)(a:Addr)(xs:List V):Prop:=
 Rd H a (.tup xs) \/
  ∃(o:Obj) (aq:Array Value) (n:Nat),K.lookup a=some o/\o.cls=.type "tuple" /\ o.data=.seq aq n/\aq.size<=sizeLine/\au xs aq.toList
def Iv:Value->Option V
 | .none=>some .aS
 | .bool b=>some (.bl b)
 | .int i _=>some (.int i)
 | .str x _=>some (.str x)
 | .bytes b _=>some (.zO b)
 | .float b _=>some (.za b)
 | .ref a=>some (.ref a)
 | .type n=>some (.ty n)
 | _=>none
theorem RelV.abs(r:RelV x u):Iv u=some x:=by
 cases x with
 | aS=>cases r;rfl
 | bl _=>cases r;rfl
 | int _=>obtain ⟨t,rfl⟩:=r;rfl
 | str _=>obtain ⟨t,rfl⟩:=r;rfl
 | zO _=>obtain ⟨t,rfl⟩:=r;rfl
 | za _=>obtain ⟨t,rfl⟩:=r;rfl
 | ref _=>cases r;rfl
 | ty _=>cases r;rfl
theorem RelV.inj(r:RelV x u)(q:RelV y u):x=y:=cF (r.abs.symm.trans q.abs)
theorem au.inj:∀{xs ys:List V} {us:List Value},au xs us->au ys us->xs=ys
 | _,_,_,.nil,.nil=>rfl
 | _,_,_,.cons r t,.cons r' t'=>by rw [r.inj r',au.inj t t']
section
variable {X:Cx}{pins:List (Addr×Obj)}{σ:St}{H:Hp}{s:Shared}{a:Addr}{xs ys:List V}
theorem dH.of{K:aB}(h:H a=some (.lst xs)):dH K H a xs:=.inl (.inl h)
theorem dR.of{K:aB}(h:H a=some (.tup xs)):dR K H a xs:=.inl (.inl h)
theorem Inv.list(I:Inv X pins σ H s)(h:dH X.K H a xs):∃aq:List Value,au xs aq/\PlainL s.heap a aq.toArray/\xs.length<=sizeLine:=by
 rcases h with h | ⟨o,aq,n,hk,hc,hd,hs,hz,r⟩
 .obtain ⟨z,aq,n,r,e⟩:=h.ok I.bb
  exact ⟨aq,r,⟨_,n,e,rfl,rfl,rfl⟩,z⟩
 .refine ⟨aq.toList,r,⟨o,n,I.sX a o hk,hc,hd,by simpa using hs⟩,?_⟩
  have e:=r.length
  simp only [et] at e
  ext hz e
theorem Inv.tuple(I:Inv X pins σ H s)(h:dR X.K H a xs):∃aq:List Value,au xs aq/\IsTup s.heap a aq.toArray/\xs.length<=sizeLine:=by
 rcases h with h | ⟨o,aq,n,hk,hc,hs,hz,r⟩
 .obtain ⟨z,aq,r,p⟩:=h.ok I.bb
  exact ⟨aq,r,p,z⟩
 .refine ⟨aq.toList,r,⟨o,I.sX a o hk,hc,n,by simpa using hs⟩,?_⟩
  have e:=r.length
  simp only [et] at e
  ext hz e
theorem Inv.gm(I:Inv X pins σ H s)(h:dH X.K H a xs)(h':dH X.K H a ys):xs=ys:=by
 obtain ⟨aq,r,⟨o,n,e,_,_,d⟩,_⟩:=I.list h
 obtain ⟨its',r',⟨o',n',e',_,_,d'⟩,_⟩:=I.list h'
 rw [e] at e';cases e'
 rw [d] at d'
 injection d' with d1 _
 have:aq=its':=by simpa using congrArg Array.toList d1
 subst this
 exact r.inj r'
theorem Inv.ft(I:Inv X pins σ H s)(h:dR X.K H a xs)(h':dR X.K H a ys):xs=ys:=by
 obtain ⟨aq,r,⟨o,e,_,n,d⟩,_⟩:=I.tuple h
 obtain ⟨its',r',⟨o',e',_,n',d'⟩,_⟩:=I.tuple h'
 rw [e] at e';cases e'
 rw [d] at d'
 injection d' with d1 _
 have:aq=its':=by simpa using congrArg Array.toList d1
 subst this
 exact r.inj r'
end
abbrev Cx.eH(X:Cx)(E:Value->Shared->Prop):Cx:={ X with xe:=E }
abbrev Cx.fR(X:Cx):Cx:=X.eH λ_ _=>False
theorem Cx.Ok.eH{X:Cx}(ok:X.Ok)(E:Value->Shared->Prop):(X.eH E).Ok:=
 ⟨ok.mod,ok.kind,ok.glob,ok.blt,ok.above,ok.inj,ok.has,ok.zq,ok.hd,ok.frames,ok.Bv,ok.LY,ok.bs,ok.ni,ok.nX,ok.qj,ok.eM,ok.qi⟩
theorem Cx.Ok.bT{X:Cx}(ok:(X.eH E).Ok):X.Ok:=
 ⟨ok.mod,ok.kind,ok.glob,ok.blt,ok.above,ok.inj,ok.has,ok.zq,ok.hd,ok.frames,ok.Bv,ok.LY,ok.bs,ok.ni,ok.nX,ok.qj,ok.eM,ok.qi⟩
section
variable {X:Cx}{pins:List (Addr×Obj)}{σ:St}{H:Hp}{s:Shared}{E:Value->Shared->Prop}
theorem Inv.eH(I:Inv X pins σ H s)(E:Value->Shared->Prop):Inv (X.eH E) pins σ H s:=⟨I.ok.eH E,I.os,I.bare,I.base,I.loc,I.cell,I.free,I.dD,I.pin,I.bb,I.len⟩
theorem Inv.bT(I:Inv (X.eH E) pins σ H s):Inv X pins σ H s:=⟨I.ok.bT,I.os,I.bare,I.base,I.loc,I.cell,I.free,I.dD,I.pin,I.bb,I.len⟩
theorem SP.bT(h:SP (X.eH E) pins D f s'):SP X pins D f s':=by
 cases f with
 | next=>obtain ⟨aE,H',I,q⟩:=h;exact ⟨aE,H',I.bT,q⟩
 | brk=>obtain ⟨aE,H',I,q⟩:=h;exact ⟨aE,H',I.bT,q⟩
 | cont=>obtain ⟨aE,H',I,q⟩:=h;exact ⟨aE,H',I.bT,q⟩
 | ret u=>obtain ⟨v,aE,H',I,r,q⟩:=h;exact ⟨v,aE,H',I.bT,r,q⟩
theorem PE.fR(h:PE X.fR e t):PE X e t:=λpins s σ H Q I hw =>
 je (h pins s σ H Q (I.eH _) hw) (λ_ _ ⟨v,H',I',r,q⟩=>⟨v,H',I'.bT,r,q⟩) λ_ _ z=>gM z
theorem PT.fR(h:PT X.fR e t):PT X e t:=λpins s σ H Q I hw =>
 je (h pins s σ H Q (I.eH _) hw) (λ_ _ ⟨H',I',q⟩=>⟨H',I'.bT,q⟩) λ_ _ z=>gM z
theorem mj.fR{st:List Stmt}{t:TS}(h:mj X.fR st t):mj X st t:=λpins s σ H D I hw =>
 je (h pins s σ H D (I.eH _) hw) (λ_ _ q=>q.bT) λ_ _ z=>gM z
end
section
variable {X:Cx}{st:Stmt}{rest:List Stmt}{t u:TS}{e:Expr}{te:TE}{pos:Pos}
def wZ:TS:=λD σ H=>D.nx σ H
def Ee(t u:TS):TS:=λD σ H=>t { D with nx:=u D } σ H
theorem Yv:mj X [] wZ:=λ_ _ σ H _ I h=>Cf ⟨σ,H,I,h⟩
theorem Z0(h1:PS X st t)(h2:mj X rest u):mj X (st::rest) (Ee t u):=by
 intro pins s σ H D I h
 refine wpAny_execs_cons (bz (h1 pins s σ H { D with nx:=u D } I h) λf s1 q=>?_)
 cases f with
 | next =>
  obtain ⟨aE,H',I',q⟩:=q
  exact h2 pins s1 aE H' D I' q
 | ret v=>exact q
 | brk=>exact q
 | cont=>exact q
theorem Yw(h1:PS X st t):mj X [st] t:=by
 intro pins s σ H D I h
 refine wpAny_execs_cons (bz (h1 pins s σ H D I h) λf s1 q=>?_)
 cases f with
 | next=>exact Cf q
 | ret v=>exact q
 | brk=>exact q
 | cont=>exact q
def X6:TS:=λD σ H=>D.bk σ H
theorem ZY:PS X (.Break pos) X6:=λ_ _ σ H _ I h=>wpAny_Break ⟨σ,H,I,h⟩
theorem Inv.quiet{pins:List (Addr×Obj)}{σ:St}{H:Hp}{s:Shared}(I:Inv X pins σ H s):interactive X.env=false:=by simp [interactive,I.ok.kind]
def w5(te:TE):TS:=λD σ H=>te σ H λ_ H1=>D.nx σ H1
theorem Ou(he:PE X e te)(hs:swapsWith e none pos.line X.env=pure false:=by rfl):PS X (.Expr e pos) (w5 te):=by
 intro pins s σ H D I h
 exact wpAny_Expr_any (bz (he pins s σ H _ I h) λv s1 ⟨x,H1,I1,r1,q1⟩=>⟨σ,H1,I1,q1⟩) I.quiet hs
def Ef(te:TE):TS:=λD σ H=>te σ H D.rt
theorem Ny(he:PE X e te):PS X (.Return (some e) pos) (Ef te):=by
 intro pins s σ H D I h
 exact wpAny_Return_some (bz (he pins s σ H _ I h) λv s1 ⟨x,H1,I1,r1,q1⟩=>⟨x,σ,H1,I1,r1,q1⟩)
def Ek(c:TT)(t u:TS):TS:=λD σ H=>c σ H λb H1=>if b=true then t D σ H1 else u D σ H1
theorem xC(hc:PT X c tc)(ha:mj X a t)(hb:mj X b u):PS X (.If c a b pos) (Ek tc t u):=by
 intro pins s σ H D I h
 refine wpAny_If (bz (hc pins s σ H _ I h) λd s1 ⟨H1,I1,q1⟩=>?_)
 cases d with
 | true=>exact ha pins s1 σ H1 D I1 q1
 | false=>exact hb pins s1 σ H1 D I1 q1
end
abbrev TG:=V->St->Hp->(St->Hp->Prop)->Prop
abbrev sj:=List V->St->Hp->(St->Hp->Prop)->Prop
def PG(X:Cx)(target:Expr)(t:TG):Prop:=
 ∀(pins:List (Addr×Obj)) (s:Shared) (σ:St) (H:Hp) (v:V) (u:Value) (Q:St->Hp->Prop),Inv X pins σ H s->RelV v u->t v σ H Q ->
  wpAny (model X.prog X.w) X.A (assign target X.env u) (λ_ s'=>∃aE H',Inv X pins aE H' s'/\Q aE H') X.xe s
def Bi(X:Cx)(ts:List Expr)(t:sj):Prop:=
 ∀(pins:List (Addr×Obj)) (s:Shared) (σ:St) (H:Hp) (vs:List V) (us:List Value) (Q:St->Hp->Prop),Inv X pins σ H s->au vs us->t vs σ H Q ->
  wpAny (model X.prog X.w) X.A (assignInOrder ((assignEach ts X.env).map (·.2)) us) (λ_ s'=>∃aE H',Inv X pins aE H' s'/\Q aE H') X.xe s
abbrev uX:=V->V->V->Hp->(Hp->Prop)->Prop
def Bh(X:Cx)(t:uX):Prop:=
 ∀(pins:List (Addr×Obj)) (s:Shared) (σ:St) (H:Hp) (o i v:V) (ov iv u:Value) (Q:Hp->Prop),Inv X pins σ H s->RelV o ov->RelV i iv->RelV v u->t o i v H Q ->
  wpAny (model X.prog X.w) X.A (setItem ov iv u) (λ_ s'=>∃H',Inv X pins σ H' s'/\Q H') X.xe s
abbrev KL:=V->V->Hp->VK->Prop
def KN(X:Cx)(op:Operator)(t:KL):Prop:=
 ∀(pins:List (Addr×Obj)) (s:Shared) (σ:St) (H:Hp) (x y:V) (v u:Value) (Q:VK),Inv X pins σ H s->RelV x v->RelV y u->t x y H Q ->
  wpAny (model X.prog X.w) X.A (inplaceOp op v u) (EP X pins σ Q) X.xe s
section
variable {X:Cx}{pos:Pos}
def M4(i:Nat):TG:=λv σ H Q=>Q (σ.set i (some v)) H
theorem Yp(hN:X.N.Nodup)(hi:X.N[i]?=some x)(hx:Loc X.env.scope x)(hf:X.fn x=true\/X.env.scope.names.lookup x=some .local:=by first | exact .inl rfl | exact .inr rfl | assumption):PG X (.Name x pos) (M4 i):=by
 intro pins s σ H v u Q I r h
 exact wpAny_assign_Name (Jp I hN hi hx r (λs' I'=>⟨_,H,I',h⟩) hf)
def F':sj:=λvs σ H Q=>vs=[]/\Q σ H
def y0(t:TG)(u:sj):sj:=λvs σ H Q=>∃v r,vs=v::r/\t v σ H λaE H'=>u r aE H' Q
theorem Yq:Bi X [] F':=by
 intro pins s σ H vs us Q I r h
 obtain ⟨e,h⟩:=h
 subst e
 cases r
 exact assignInOrder_nil ⟨σ,H,I,h⟩
theorem ZU{e:Expr}{es:List Expr}{t:TG}{u:sj}(h1:PG X e t)(h2:Bi X es u)
  (hs:(assignEach (e::es) X.env).map (·.2)=assign e X.env::(assignEach es X.env).map (·.2):=by rfl):Bi X (e::es) (y0 t u):=by
 intro pins s σ H vs us Q I r h
 obtain ⟨v,vr,e1,h⟩:=h
 subst e1
 cases r with
 | cons r rr =>
  rw [hs]
  refine assignInOrder_cons (bz (h1 pins s σ H _ _ _ I r h) λ_ s1 ⟨gG,H1,I1,q1⟩=>?_)
  exact h2 pins s1 gG H1 _ _ Q I1 rr q1
def F9(K:aB)(n:Nat)(t:sj):TG:=λv σ H Q=>∃a xs,v=.ref a/\dR K H a xs/\xs.length=n/\t xs σ H Q
theorem Xq{es:List Expr}{k:Nat}{t:sj}{n:Nat}(hc:X.calm=true)(h:Bi X es t)
  (hn:(assignEach es X.env).length=n:=by rfl)(tj:(assignEach es X.env).findIdx? (·.1)=none:=by rfl):PG X (.Tuple es k pos) (F9 X.K n t):=by
 intro pins s σ H v u Q I r hw
 obtain ⟨a,xs,e1,hq,hl,hw⟩:=hw
 subst e1
 cases r
 obtain ⟨aq,rv,ht,hz⟩:=I.tuple hq
 refine assign_Tuple_tuple (I.ok.hd hc) ht (by simp [hn,<-hl,rv.length]) tj λh' hx=>?_
 have I1:Inv X pins σ H { s with heap:=h' }:=I.kept (t':=s.toks) λb o e=>hx b o (cI (bF e)) e
 exact h pins _ σ H xs _ Q I1 (by simpa using rv) hw
def bI(to ti:TE)(t:uX):TG:=λv σ H Q=>to σ H λo H1=>ti σ H1 λi H2=>t o i v H2 λH3=>Q σ H3
theorem Xp{o i:Expr}{to ti:TE}{t:uX}(ho:PE X o to)(hi:PE X i ti)(hs:Bh X t)
  (ha:∀v,assign (.Subscript o i pos) X.env v=(do
   let ov <-holding [v] (eval o X.env)
   let iv <-holding [v,ov] (eval i X.env)
   standAt pos
   holding [v,ov,iv] (setItem ov iv v)
   release [v,ov,iv] []):=by intro _;rfl):PG X (.Subscript o i pos) (bI to ti t):=by
 intro pins s σ H v u Q I r h
 rw [ha]
 refine ah (lz (bz (ho pins s σ H _ I h) λov s1 ⟨x,H1,I1,r1,q1⟩=>?_))
 refine ah (lz (bz (hi pins s1 σ H1 _ I1 q1) λiv s2 ⟨y,H2,I2,r2,q2⟩=>?_))
 refine ah (wpAny_standAt (ah (lz (bz (hs pins s2 σ H2 x y v ov iv u _ I2 r1 r2 r q2) λ_ s3 ⟨H3,I3,q3⟩=>?_))))
 exact wpAny_release ⟨σ,H3,I3,q3⟩
def w8(te:TE)(g:TG):TS:=λD σ H=>te σ H λx H1=>g x σ H1 D.nx
theorem Xt{tg e:Expr}{te:TE}{g:TG}(he:PE X e te)(hg:PG X tg g)(hs:swapsWithSole [tg] e pos.line X.env=pure false:=by rfl)(hw:swappedStores [tg] e X.env=pure none:=by rfl)
  (h1:(assignEach [tg] X.env).map (·.2)=[assign tg X.env]:=by rfl):PS X (.Assign [tg] e pos) (w8 te g):=by
 intro pins s σ H D I h
 refine wpAny_Assign_stores (bz (he pins s σ H _ I h) λv s1 ⟨x,H1,I1,r1,q1⟩=>?_) hs hw
 rw [h1]
 exact bz (hg pins s1 σ H1 x v _ I1 r1 q1) λ_ s2 q=>q
theorem IB(hN:X.N.Nodup)(hi:X.N[i]?=some x)(hx:Loc X.env.scope x)(he:PE X e te)(hs:swapsWith e (some (.Name x pos')) pos.line X.env=pure false:=by rfl)(hf:X.fn x=true\/X.env.scope.names.lookup x=some .local:=by first | exact .inl rfl | exact .inr rfl | assumption):
  PS X (.Assign [.Name x pos'] e pos) (w8 te (M4 i)):=by
 intro pins s σ H D I h
 refine wpAny_Assign_Name (bz (he pins s σ H _ I h) λv s1 ⟨y,H1,I1,r1,q1⟩=>?_) hs
 exact Jp I1 hN hi hx r1 (λs2 I2=>⟨_,H1,I2,q1⟩) hf
def Ep(i:Nat)(te:TE)(ti:KL):TS:=λD σ H=>∃x,σ[i]?=some (some x)/\te σ H λy H1=>ti x y H1 λz H2=>D.nx (σ.set i (some z)) H2
theorem Nx(hN:X.N.Nodup)(hi:X.N[i]?=some x)(hx:Loc X.env.scope x)(he:PE X e te)(ho:KN X op ti)(hf:X.fn x=true\/X.env.scope.names.lookup x=some .local:=by first | exact .inl rfl | exact .inr rfl | assumption):
  PS X (.AugAssign (.Name x pos') op e pos) (Ep i te ti):=by
 intro pins s σ H D I h
 obtain ⟨v,e1,h⟩:=h
 obtain ⟨m,hn,hl⟩:=I.loc
 have pN:gU X.env.scope x:=by rcases hx with k | k;exact .inl k;exact .inr (.inl k)
 obtain ⟨u,r,l⟩:=hl i x v hi e1 pN
 refine wpAny_AugAssign_Name ?_
 have go:wpAny (model X.prog X.w) X.A (eval e X.env) (λw dY=>wpAny (model X.prog X.w) X.A (inplaceOp op u w) (λr nO=>wpAny (model X.prog X.w) X.A (storeName X.env x r) (λ_=>SP X pins D .next) X.xe nO) X.xe dY) X.xe s:=by
  refine bz (he pins s σ H _ I h) λw s1 ⟨y,H1,I1,r1,q1⟩=>?_
  refine bz (ho pins s1 σ H1 v y u w _ I1 r r1 q1) λz s2 ⟨zv,H2,I2,r2,q2⟩=>?_
  exact Jp I2 hN hi hx r2 (λs3 I3=>⟨_,H2,I3,q2⟩) hf
 rcases l with ⟨hk,hm⟩ | ⟨hk,c,hc,eJ⟩
 .exact wpAny_loadName_local I.ok.kind hk hn hm go
 .rcases hk with hk | hk
  .exact wpAny_loadName_cell I.ok.kind hk hc eJ go
  .rcases hx with k | k
   .have:X.env.scope.names.lookup x=some .free:=hk
    rw [k] at this;cases this
   .have:X.env.scope.names.lookup x=some .free:=hk
    rw [k] at this;cases this
def UB(f:Int->Int->Int):KL:=λx y H Q=>∃i j,x=.int i/\y=.int j/\Q (.int (f i j)) H
theorem XD:KN X .Add (UB λi j=>i+j):=by
 intro pins s σ H x y v u Q I r1 r2 h
 obtain ⟨i,j,e1,e2,q⟩:=h
 subst e1;subst e2
 obtain ⟨t,rfl⟩:=r1
 obtain ⟨t',rfl⟩:=r2
 exact iadd_int ⟨.int _,H,I.tok _,⟨_,rfl⟩,q⟩
end
section
variable {X:Cx}{pos:Pos}
def X8(c:TT)(tb:TS):TS:=λD σ H=>∃W:Nat->St->Hp->Prop,(∃m,W m σ H)/\∀m σ H,W m σ H ->
 c σ H λb H1=>if b=true then ∃N:St->Hp->Prop,(∀aE H',N aE H'->∃m',m'<m/\W m' aE H')/\tb { D with nx:=N,ct:=N,bk:=D.nx } σ H1 else D.nx σ H1
theorem ZZ(hp:PassesOwn (model X.prog X.w) X.A X.env X.xe)(hc:PT X c tc)(hb:mj X body tb):PS X (.While c body [] pos) (X8 tc tb):=by
 intro pins s σ H D I h
 obtain ⟨W,⟨m0,w0⟩,turn⟩:=h
 refine wpAny_While (codeAny_whileLoop (λn s'=>∃aE H',Inv X pins aE H' s'/\W n aE H') ?_ m0 ⟨σ,H,I,w0⟩)
 rintro n s1 ⟨gG,H1,I1,w1⟩
 refine ux hp (bz (hc pins s1 gG H1 _ I1 (turn n gG H1 w1)) λb s2 ⟨H2,I2,q2⟩=>?_)
 cases b with
 | true =>
  obtain ⟨N,hN,q2⟩:=q2
  rw [if_pos rfl]
  refine ux hp (bz (hb pins s2 gG H2 _ I2 q2) λf s3 q3=>?_)
  cases f with
  | next =>
   obtain ⟨iI,H3,I3,n3⟩:=q3
   obtain ⟨m',hm,w3⟩:=hN iI H3 n3
   exact ⟨m',hm,iI,H3,I3,w3⟩
  | cont =>
   obtain ⟨iI,H3,I3,n3⟩:=q3
   obtain ⟨m',hm,w3⟩:=hN iI H3 n3
   exact ⟨m',hm,iI,H3,I3,w3⟩
  | brk=>exact q3
  | ret v=>exact q3
 | false =>
  rw [if_neg lx]
  exact Cf ⟨gG,H2,I2,q2⟩
end
structure It where
 go:Nat->Hp->Prop
 sy:Nat->Hp->V->Hp->Prop
 stop:Nat->Hp->Prop
def cP(X:Cx)(pins:List (Addr×Obj))(H:Hp)(b:Addr):Prop:=
 H b=none/\b≠X.env.locals/\b∉X.fs/\(b∈X.ex\/X.cC.heap.objs.size<=b)/\(∀x c,X.env.cells.lookup x=some c->c≠b)/\∀p∈X.pn++pins,p.1≠b
theorem Inv.iX{X:Cx}{pins:List (Addr×Obj)}{σ:St}{H H':Hp}{s:Shared}{b:Addr}(I:Inv X pins σ H s)(hb:s.heap.objs.size<=b)(hn:H' b=none):cP X pins H' b:=by
 refine ⟨hn,o9 (jg I.lt hb),I.ET hb,.inr (dE I.sz hb),λx c e z=>?_,λp hp z=>?_⟩
 .obtain ⟨v,q⟩:=I.cell x c e
  exact absurd (jg q.lt (by rw [z];exact hb)) (o6 _)
 .exact absurd (jg (bF (I.pin p hp).1) (by rw [z];exact hb)) (o6 _)
structure Turn(P:Program)(w:World)(K:aB)(tg:Expr)(J:It)(fp:List Addr)(it:Addr)(tn:Nat->Heap->Prop):Prop where
 mem:it∈fp
 obj:∀i h,tn i h->∀b∈fp,∃o,h.get? b=some o/\∀v,o.data≠.cell v
 keep:∀i h h',tn i h->(∀b∈fp,∀o,h.get? b=some o->h'.get? b=some o)->tn i h'
 item:∀(X:Cx),X.prog=P->X.w=w->X.K=K->X.calm=true->∀(i:Nat) (pins:List (Addr×Obj)) (s:Shared) (σ:St) (H:Hp) (E:Value->Shared->Prop),Inv X pins σ H s->(∀b∈fp,cP X pins H b)->tn i s.heap->J.go i H ->
  wpAny (model P w) X.A (pyNext (.ref it)) (λr s1=>∃u,r=some u /\
   wpAny (model P w) X.A (letOwnedTupleGo tg (.ref it) u) (λ_ s2=>∃x H',Inv X pins σ H' s2/\RelV x u/\J.sy i H x H'/\tn (i+1) s2.heap/\∀b∈fp,H' b=none) E s1) E s
 done:∀(X:Cx),X.prog=P->X.w=w->X.K=K->X.calm=true->∀(i:Nat) (pins:List (Addr×Obj)) (s:Shared) (σ:St) (H:Hp) (E:Value->Shared->Prop),Inv X pins σ H s->(∀b∈fp,cP X pins H b)->tn i s.heap->J.stop i H ->
  wpAny (model P w) X.A (pyNext (.ref it)) (λr s1=>r=none/\Inv X pins σ H s1) E s
 self:∀(A:Around) (i:Nat) (s:Shared) (Q:Value->Shared->Prop) (E:Value->Shared->Prop),tn i s.heap->Q (.ref it) s->wpAny (model P w) A (pyIter (.ref it)) Q E s
abbrev TI:=St->Hp->(It->Hp->Prop)->Prop
def D4(X:Cx)(pins:List (Addr×Obj))(σ:St)(tg:Expr)(R:It->Hp->Prop)(E5:Value)(s2:Shared):Prop:=
 ∃(it:Addr) (fp:List Addr) (tn:Nat->Heap->Prop) (J:It) (H':Hp),E5=.ref it/\Inv X pins σ H' s2/\Turn X.prog X.w X.K tg J fp it tn/\tn 0 s2.heap/\(∀b∈fp,cP X pins H' b)/\R J H'
def PI(X:Cx)(tg iter:Expr)(wi:TI):Prop:=
 ∀(pins:List (Addr×Obj)) (s:Shared) (σ:St) (H:Hp) (R:It->Hp->Prop),Inv X pins σ H s->wi σ H R ->
  wpAny (model X.prog X.w) X.A (eval iter X.env) (λv s1=>wpAny (model X.prog X.w) X.A (pyIter v) (D4 X pins σ tg R) X.xe s1) X.xe s
theorem Ae(ho:s.heap.get? it=some o)(hc:o.cls=.type n)(hd:o.data=.fields vs)
  (hn:["enumerate","zip","dict_itemiterator","dict_reverseitemiterator","odict_iterator","itertools.zip_longest","itertools.pairwise"].contains n=false)(hQ:Q () s):wpAny M A (letOwnedTupleGo tg (.ref it) u) Q E s:=by
 unfold letOwnedTupleGo
 cases tg<;>first
  | exact aH hQ
  | (cases u<;>first
    | exact aH hQ
    | (refine ah (wpAny_load ho ?_)
       rw [hc,hd]
       show wpAny M A (if (["enumerate","zip","dict_itemiterator","dict_reverseitemiterator","odict_iterator","itertools.zip_longest","itertools.pairwise"].contains n&&vs[0]?==some (rawInt _))=true then _ else _) Q E s
       rw [if_neg (by intro h;rw [hn,Bool.false_and] at h;cases h)]
       exact aH hQ))
def Bm(K:aB)(a:Addr):It:=
 ⟨λi H=>∃xs x,dH K H a xs/\xs[i]?=some x,λi H x H'=>H'=H/\∀xs,dH K H a xs->xs[i]?=some x,λi H=>∃xs,dH K H a xs/\xs.length<=i⟩
def Bk(K:aB)(a:Addr):It:=
 ⟨λi H=>∃xs x,dR K H a xs/\xs[i]?=some x,λi H x H'=>H'=H/\∀xs,dR K H a xs->xs[i]?=some x,λi H=>∃xs,dR K H a xs/\xs.length<=i⟩
def mY(lo:Int)(n:Nat):It:=⟨λi _=>i<n,λi H x H'=>H'=H/\x=.int (lo+i),λi _=>n<=i⟩
theorem a9n{P:Program}{w:World}{K:aB}{tg:Expr}(a it:Addr):Turn P w K tg (Bm K a) [it] it (λi h=>h.IsListIter it a i) where
 mem:=by simp
 obj:=λi h st b hb=>by
  have e:b=it:=by simpa using hb
  subst e
  obtain ⟨o,e,c,d⟩:=st
  exact ⟨o,e,λv z=>by rw [d] at z;cases z⟩
 keep:=λi h h' st k=>st.at λo e=>k it (by simp) o e
 item:=by
  intro X hP hw hK hc i pins s σ H E I hf st hg
  subst hP hw hK
  obtain ⟨xs,x,hq,hx⟩:=hg
  obtain ⟨aq,rv,p,hz⟩:=I.list hq
  obtain ⟨u,hu,ru⟩:=rv.get hx
  obtain ⟨f0,f1,f2,f3,f4,f5⟩:=hf it (by simp)
  refine wpAny_pyNext_list_item st p.isList (x:=u) (by simpa using hu) λh' ag sb=>?_
  have I1:Inv X pins σ H { s with heap:=h' }:=I.turned (t':=s.toks) (λb o hb e=>(sb.2 b hb).trans e) f0 f1 f3 f4 f5
  obtain ⟨o,e,c,d⟩:=id ag
  exact ⟨u,rfl,Ae (s:={ s with heap:=h' }) e c d (by decide) ⟨x,H,I1,ru,⟨rfl,λys hy=>by rw [I.gm hy hq];exact hx⟩,ag,λb hb=>(hf b hb).1⟩⟩
 done:=by
  intro X hP hw hK hc i pins s σ H E I hf st hg
  subst hP hw hK
  obtain ⟨xs,hq,hx⟩:=hg
  obtain ⟨aq,rv,p,hz⟩:=I.list hq
  obtain ⟨f0,f1,f2,f3,f4,f5⟩:=hf it (by simp)
  have hl:=rv.length
  exact wpAny_pyNext_list_end (I.ok.hd hc) st p.isList (by simp;ext hx hl) λh' eb=>⟨rfl,I.turned (t':=s.toks) (λb o hb e=>eb b o hb e) f0 f1 f3 f4 f5⟩
 self:=λ_ _ _ _ _ st h=>wpAny_pyIter_listiter st h
theorem a8N{P:Program}{w:World}{K:aB}{tg:Expr}(a it:Addr):Turn P w K tg (Bk K a) [it] it (λi h=>h.IsTupleIter it a i) where
 mem:=by simp
 obj:=λi h st b hb=>by
  have e:b=it:=by simpa using hb
  subst e
  obtain ⟨o,e,c,d⟩:=st
  exact ⟨o,e,λv z=>by rw [d] at z;cases z⟩
 keep:=λi h h' st k=>st.at λo e=>k it (by simp) o e
 item:=by
  intro X hP hw hK hc i pins s σ H E I hf st hg
  subst hP hw hK
  obtain ⟨xs,x,hq,hx⟩:=hg
  obtain ⟨aq,rv,p,hz⟩:=I.tuple hq
  obtain ⟨u,hu,ru⟩:=rv.get hx
  obtain ⟨f0,f1,f2,f3,f4,f5⟩:=hf it (by simp)
  refine wpAny_pyNext_tuple_item st (show s.heap.IsTuple a aq.toArray from p) (x:=u) (by simpa using hu) λh' ag sb=>?_
  have I1:Inv X pins σ H { s with heap:=h' }:=I.turned (t':=s.toks) (λb o hb e=>(sb.2 b hb).trans e) f0 f1 f3 f4 f5
  obtain ⟨o,e,c,d⟩:=id ag
  exact ⟨u,rfl,Ae (s:={ s with heap:=h' }) e c d (by decide) ⟨x,H,I1,ru,⟨rfl,λys hy=>by rw [I.ft hy hq];exact hx⟩,ag,λb hb=>(hf b hb).1⟩⟩
 done:=by
  intro X hP hw hK hc i pins s σ H E I hf st hg
  subst hP hw hK
  obtain ⟨xs,hq,hx⟩:=hg
  obtain ⟨aq,rv,p,hz⟩:=I.tuple hq
  obtain ⟨f0,f1,f2,f3,f4,f5⟩:=hf it (by simp)
  have hl:=rv.length
  exact wpAny_pyNext_tuple_end (I.ok.hd hc) st (show s.heap.IsTuple a aq.toArray from p) (by simp;ext hx hl) λh' eb=>⟨rfl,I.turned (t':=s.toks) (λb o hb e=>eb b o hb e) f0 f1 f3 f4 f5⟩
 self:=λ_ _ _ _ _ st h=>wpAny_pyIter_tupleiter st h
theorem PQ{P:Program}{w:World}{K:aB}{tg:Expr}(it:Addr)(lo:Int)(n:Nat):Turn P w K tg (mY lo n) [it] it (λi h=>IsRangeIter h it (lo+(i:Nat)*1) ((n:Int)-(i:Nat)) 1) where
 mem:=by simp
 obj:=λi h st b hb=>by
  have e:b=it:=by simpa using hb
  subst e
  exact ⟨_,st,λv z=>by
   have z':B6 _=vy v:=z
   cases z'⟩
 keep:=λi h h' st k=>k it (by simp) _ st
 item:=by
  intro X hP hw hK hc i pins s σ H E I hf st hg
  subst hP hw hK
  obtain ⟨f0,f1,f2,f3,f4,f5⟩:=hf it (by simp)
  have W:=Walks.range (prog:=X.prog) (w:=X.w) (I.ok.hd hc) it lo 1 n
  refine W.item i s _ _ hg st λv h' tk hv ag kk=>?_
  obtain ⟨t,rfl⟩:=hv
  have I1:Inv X pins σ H { s with heap:=h',toks:=tk }:=I.turned (λb o hb e=>kk b o (by simpa using hb) e) f0 f1 f3 f4 f5
  refine ⟨_,rfl,Ae (s:={ s with heap:=h',toks:=tk }) (n:="range_iterator") ag rfl rfl (by decide) ⟨.int (lo+i),H,I1,⟨t,?_⟩,⟨rfl,rfl⟩,ag,λb hb=>(hf b hb).1⟩⟩
  rw [rD]
 done:=by
  intro X hP hw hK hc i pins s σ H E I hf st hg
  subst hP hw hK
  obtain ⟨f0,f1,f2,f3,f4,f5⟩:=hf it (by simp)
  exact wpAny_pyNext_range_end (I.ok.hd hc) st (by have:n<=i:=hg;ext this) λh' eb=>⟨rfl,I.turned (t':=s.toks) (λb o hb e=>eb b o hb e) f0 f1 f3 f4 f5⟩
 self:=λ_ _ _ _ _ st h=>wpAny_pyIter_rangeiter st h
end L2
namespace L2
open PySem PySem.Spec PyProof.Rows
section
variable {X:Cx}{tg:Expr}
theorem Z1{pins:List (Addr×Obj)}{σ:St}{H:Hp}{s:Shared}{R:It->Hp->Prop}{E:Value->Shared->Prop}{lo hi:Int}{t u v:Tok}{tk:Nat}(I:Inv X pins σ H s)(h1:-(2^62)<=lo)(h2:lo<2^62)(h3:-(2^62)<=hi)(h4:hi<2^62)
  (q:R (mY lo (hi-lo).toNat) H):wpAny (model X.prog X.w) X.A (pyIter (.ref s.heap.objs.size)) (D4 X pins σ tg R) E { s with heap:=s.heap.push { cls:=.type "range",data:=.fields #[.int lo t,.int hi u,.int 1 v] },toks:=tk }:=by
 refine Hn (B5 ..) (small_one h1 h2 h3 h4) ?_
 have I1:Inv X pins σ H { s with heap:=s.heap.push { cls:=.type "range",data:=.fields #[.int lo t,.int hi u,.int 1 v] },toks:=tk }:=I.kept λb o e=>aZ _ e
 refine ⟨(s.heap.push { cls:=.type "range",data:=.fields #[.int lo t,.int hi u,.int 1 v] }).objs.size,[(s.heap.push { cls:=.type "range",data:=.fields #[.int lo t,.int hi u,.int 1 v] }).objs.size],_,_,H,rfl,
  I1.kept (t':=tk) λb o e=>aZ _ e,PQ _ lo (hi-lo).toNat,?_,λb hb=>?_,q⟩
 .have e1:lo+((0:Nat):Int)*1=lo:=by simp
  have e2:(((hi-lo).toNat:Nat):Int)-((0:Nat):Int)=zP lo hi 1:=by rw [rangeSize_one];split<;>lia
  show IsRangeIter _ _ (lo+((0:Nat):Int)*1) ((((hi-lo).toNat:Nat):Int)-((0:Nat):Int)) 1
  rw [e1,e2]
  exact c9 _ rfl
 .have e:b=(s.heap.push { cls:=.type "range",data:=.fields #[.int lo t,.int hi u,.int 1 v] }).objs.size:=by simpa using hb
  subst e
  exact I1.iX (aV _) (I1.bb.fresh (aV _))
def yq(ta:TA):TI:=λσ H R=>ta σ H λvs H1=>∃j:Int,vs=[.int j] /\ -(2^62)<=j/\j<2^62/\R (mY 0 j.toNat) H1
theorem a9V(hg:Gl X "range")(hm:X.mg "range" = none)(ha:PA X [a] ta)(hs:starEach [a] X.env=[(false,eval a X.env)]:=by rfl):PI X tg (.Call (.Name "range" p) [a] [] pos) (yq ta):=by
 intro pins s σ H R I h
 refine Call_ (rR I hg hm boot_range (zS (bz (ha pos pins s σ H _ I h) λus s1 ⟨vs,H1,I1,r1,q1⟩=>?_) hs rfl))
 obtain ⟨j,e,q1,q2,q⟩:=q1
 subst e
 cases r1 with
 | cons r rr =>
  cases rr
  obtain ⟨t,rfl⟩:=r
  exact call_range_1 (Z1 I1 (by decide) (by decide) q1 q2 (by simpa using q))
def Em(wi:TI)(g:TG)(tb:TS):TS:=λD σ H=>wi σ H λJ H1=>∃W:Nat->Nat->St->Hp->Prop,(∃m,W 0 m σ H1)/\∀i m σ H,W i m σ H ->
 (J.stop i H/\D.nx σ H)\/(J.go i H/\∃N:St->Hp->Prop,(∀aE H',N aE H'->∃m',m'<m/\W (i+1) m' aE H')/\∀x H',J.sy i H x H'->g x σ H' λcu H2=>tb { D with nx:=N,ct:=N,bk:=D.nx } cu H2)
def qA(fp:List Addr)(h:Heap):List (Addr×Obj):=fp.filterMap λb=>(h.get? b).map λo=>(b,o)
theorem AQ(hb:b∈fp)(e:h.get? b=some o):(b,o)∈qA fp h:=Mz.mpr ⟨b,hb,by rw [e];rfl⟩
theorem JG(hp:p∈qA fp h):p.1∈fp/\h.get? p.1=some p.2:=by
 obtain ⟨b,hb,e⟩:=Mz.mp hp
 cases q:h.get? b with
 | none=>rw [q] at e;cases e
 | some o =>
  rw [q] at e
  have e':(b,o)=p:=cF e
  subst e'
  exact ⟨hb,q⟩
theorem Inv.pinned{pins:List (Addr×Obj)}{σ:St}{H:Hp}{s:Shared}{fp:List Addr}(I:Inv X pins σ H s)(hf:∀b∈fp,cP X pins H b)(ho:∀b∈fp,∃o,s.heap.get? b=some o/\∀v,o.data≠.cell v):Inv X (pins++qA fp s.heap) σ H s:=
 I.eI λp hp=>(bK.mp hp).elim (λz=>I.pin p (fF _ z)) λz=>by
  obtain ⟨hb,e⟩:=JG z
  obtain ⟨f0,f1,f2,_⟩:=hf p.1 hb
  obtain ⟨o,e',d⟩:=ho p.1 hb
  rw [e] at e';cases e'
  exact ⟨e,f0,f1,f2,d⟩
theorem Inv.gc{pins pl:List (Addr×Obj)}{σ:St}{H:Hp}{s:Shared}(I:Inv X (pins++pl) σ H s):Inv X pins σ H s:=I.eI λp hp=>I.pin p (fF _ (fU _ hp))
theorem IA(hp:PassesOwn (model X.prog X.w) X.A X.env X.xe)(hc:X.calm=true)(hi:PI X tg iter wi)(hg:PG X tg g)(hb:mj X body tb)
  (hs:∀x,foldedSetIterable iter X.env x=pure x:=by intro _;rfl):PS X (.For tg iter body [] pos) (Em wi g tb):=by
 intro pins s σ H D I h
 refine wpAny_For (bz (hi pins s σ H _ I h) λv s1 h1=>bz h1 λE5 s2 h2=>?_) hs
 obtain ⟨it,fp,tn,J,H2,e,I2,T,dr,f2,W,⟨m0,w0⟩,turn⟩:=h2
 subst e
 have sF:∀{H':Hp},(∀b∈fp,H' b=none)->∀b∈fp,cP X pins H' b:=λhn b hb=>⟨hn b hb,(f2 b hb).2⟩
 refine codeAny_forLoop_any (λn s'=>∃i aE H',Inv X pins aE H' s'/\tn i s'.heap/\(∀b∈fp,H' b=none)/\W i n aE H') ?_ m0 ⟨0,σ,H2,I2,dr,λb hb=>(f2 b hb).1,w0⟩
 rintro n s3 ⟨i,iI,H3,I3,g9,y4,w3⟩
 rcases turn i n iI H3 w3 with ⟨stop,qn⟩ | ⟨go,N,hN,step⟩
 .refine ux hp (bz (T.done X rfl rfl rfl hc i pins s3 iI H3 X.xe I3 (sF y4) g9 stop) λr s4 ⟨hr,I4⟩=>?_)
  subst hr
  exact Cf ⟨iI,H3,I4,qn⟩
 .refine ux hp (bz (T.item X rfl rfl rfl hc i pins s3 iI H3 X.xe I3 (sF y4) g9 go) λr s4 ⟨u,hr,h4⟩=>?_)
  subst hr
  refine ux hp (bz h4 λ_ s5 ⟨x,H5,I5,r5,y5,sG,Gb⟩=>?_)
  have KU:=I5.pinned (sF Gb) (T.obj _ _ sG)
  refine ux hp (bz (hg _ s5 iI H5 x u _ KU r5 (step x H5 y5)) λ_ s6 ⟨j',H6,I6,q6⟩=>?_)
  refine ux hp (bz (hb _ s6 j' H6 _ I6 q6) λf s7 q7=>?_)
  have again:∀{nK:St} {H7:Hp},Inv X (pins++qA fp s5.heap) nK H7 s7->N nK H7->∃m,m<n/\∃i aE H',Inv X pins aE H' s7/\tn i s7.heap/\(∀b∈fp,H' b=none)/\W i m aE H':=λ{nK H7} I7 n7=>by
   obtain ⟨m',hm,w7⟩:=hN nK H7 n7
   refine ⟨m',hm,i+1,nK,H7,I7.gc,T.keep _ _ _ sG λb hb o e=>(I7.pin (b,o) (fF _ (fF _ (AQ hb e)))).1,λb hb=>?_,w7⟩
   obtain ⟨o,e,d⟩:=T.obj _ _ sG b hb
   exact (I7.pin (b,o) (fF _ (fF _ (AQ hb e)))).2.1
  cases f with
  | next=>obtain ⟨nK,H7,I7,n7⟩:=q7;exact again I7 n7
  | cont=>obtain ⟨nK,H7,I7,n7⟩:=q7;exact again I7 n7
  | brk=>obtain ⟨nK,H7,I7,q7⟩:=q7;exact ⟨nK,H7,I7.gc,q7⟩
  | ret v=>obtain ⟨x7,nK,H7,I7,r7,q7⟩:=q7;exact ⟨x7,nK,H7,I7.gc,r7,q7⟩
end
theorem Zp{K:aB}{a:Addr}{xs:List V}{g:TG}{tb:TS}{D:Ends}{σ:St}{H:Hp}(Pv:Nat->St->Hp->Prop)(h0:Pv 0 σ H)(hl:∀i σ H,i<=xs.length->Pv i σ H->dH K H a xs)
  (hs:∀i x σ H,xs[i]?=some x->Pv i σ H->g x σ H λcu H2=>tb { D with nx:=Pv (i+1),ct:=Pv (i+1),bk:=D.nx } cu H2)(hd:∀σ H,Pv xs.length σ H->D.nx σ H):
  ∃W:Nat->Nat->St->Hp->Prop,(∃m,W 0 m σ H)/\∀i m σ H,W i m σ H ->
   ((Bm K a).stop i H/\D.nx σ H)\/((Bm K a).go i H/\∃N:St->Hp->Prop,(∀aE H',N aE H'->∃m',m'<m/\W (i+1) m' aE H')/\∀x H',(Bm K a).sy i H x H'->g x σ H' λcu H2=>tb { D with nx:=N,ct:=N,bk:=D.nx } cu H2):=by
 refine ⟨λi m σ H=>m=xs.length-i/\i<=xs.length/\Pv i σ H,⟨xs.length,by simp,jM _,h0⟩,?_⟩
 rintro i m σ H ⟨rfl,hi,p⟩
 have q:=hl i σ H hi p
 by_cases bg:i<xs.length
 .refine .inr ⟨⟨xs,xs[i],q,by simp [bg]⟩,Pv (i+1),λaE H' p'=>⟨xs.length-(i+1),by ext bg,rfl,bg,p'⟩,λx H' y=>?_⟩
  obtain ⟨e,y⟩:=y
  subst e
  exact hs i x σ _ (y xs q) p
 .have e:i=xs.length:=by ext hi bg
  subst e
  exact .inl ⟨⟨xs,q,aV _⟩,hd σ H p⟩
theorem YJ{K:aB}{a:Addr}{xs:List V}{g:TG}{tb:TS}{D:Ends}{σ:St}{H:Hp}(Pv:Nat->St->Hp->Prop)(h0:Pv 0 σ H)(hl:∀i σ H,i<=xs.length->Pv i σ H->dR K H a xs)
  (hs:∀i x σ H,xs[i]?=some x->Pv i σ H->g x σ H λcu H2=>tb { D with nx:=Pv (i+1),ct:=Pv (i+1),bk:=D.nx } cu H2)(hd:∀σ H,Pv xs.length σ H->D.nx σ H):
  ∃W:Nat->Nat->St->Hp->Prop,(∃m,W 0 m σ H)/\∀i m σ H,W i m σ H ->
   ((Bk K a).stop i H/\D.nx σ H)\/((Bk K a).go i H/\∃N:St->Hp->Prop,(∀aE H',N aE H'->∃m',m'<m/\W (i+1) m' aE H')/\∀x H',(Bk K a).sy i H x H'->g x σ H' λcu H2=>tb { D with nx:=N,ct:=N,bk:=D.nx } cu H2):=by
 refine ⟨λi m σ H=>m=xs.length-i/\i<=xs.length/\Pv i σ H,⟨xs.length,by simp,jM _,h0⟩,?_⟩
 rintro i m σ H ⟨rfl,hi,p⟩
 have q:=hl i σ H hi p
 by_cases bg:i<xs.length
 .refine .inr ⟨⟨xs,xs[i],q,by simp [bg]⟩,Pv (i+1),λaE H' p'=>⟨xs.length-(i+1),by ext bg,rfl,bg,p'⟩,λx H' y=>?_⟩
  obtain ⟨e,y⟩:=y
  subst e
  exact hs i x σ _ (y xs q) p
 .have e:i=xs.length:=by ext hi bg
  subst e
  exact .inl ⟨⟨xs,q,aV _⟩,hd σ H p⟩
theorem b0w{lo:Int}{n:Nat}{g:TG}{tb:TS}{D:Ends}{σ:St}{H:Hp}(Pv:Nat->St->Hp->Prop)(h0:Pv 0 σ H)
  (hs:∀i σ H,i<n->Pv i σ H->g (.int (lo+i)) σ H λcu H2=>tb { D with nx:=Pv (i+1),ct:=Pv (i+1),bk:=D.nx } cu H2)(hd:∀σ H,Pv n σ H->D.nx σ H):
  ∃W:Nat->Nat->St->Hp->Prop,(∃m,W 0 m σ H)/\∀i m σ H,W i m σ H ->
   ((mY lo n).stop i H/\D.nx σ H)\/((mY lo n).go i H/\∃N:St->Hp->Prop,(∀aE H',N aE H'->∃m',m'<m/\W (i+1) m' aE H')/\∀x H',(mY lo n).sy i H x H'->g x σ H' λcu H2=>tb { D with nx:=N,ct:=N,bk:=D.nx } cu H2):=by
 refine ⟨λi m σ H=>m=n-i/\i<=n/\Pv i σ H,⟨n,by simp,jM _,h0⟩,?_⟩
 rintro i m σ H ⟨rfl,hi,p⟩
 by_cases bg:i<n
 .refine .inr ⟨bg,Pv (i+1),λaE H' p'=>⟨n-(i+1),by ext bg,rfl,bg,p'⟩,λx H' y=>?_⟩
  obtain ⟨e,y⟩:=y
  subst e y
  exact hs i σ _ bg p
 .have e:i=n:=by ext hi bg
  subst e
  exact .inl ⟨aV _,hd σ H p⟩
end L2
namespace L2
open PySem PySem.Spec PyProof.Rows
abbrev R2:=V->V->Hp->VK->Prop
def f'(X:Cx)(f:Value->Value->Sem Value)(r:R2):Prop:=
 ∀(pins:List (Addr×Obj)) (s:Shared) (σ:St) (H:Hp) (x y:V) (v u:Value) (Q:VK),Inv X pins σ H s->RelV x v->RelV y u->r x y H Q ->
  wpAny (model X.prog X.w) X.A (f v u) (EP X pins σ Q) X.xe s
def KI(X:Cx)(f:Value->Sem Value)(r:V->Hp->VK->Prop):Prop:=
 ∀(pins:List (Addr×Obj)) (s:Shared) (σ:St) (H:Hp) (x:V) (v:Value) (Q:VK),Inv X pins σ H s->RelV x v->r x H Q ->
  wpAny (model X.prog X.w) X.A (f v) (EP X pins σ Q) X.xe s
def bH(X:Cx)(f:Value)(r:List V->Hp->VK->Prop):Prop:=
 ∀(pins:List (Addr×Obj)) (s:Shared) (σ:St) (H:Hp) (xs:List V) (us:List Value) (Q:VK),Inv X pins σ H s->au xs us->r xs H Q ->
  wpAny (model X.prog X.w) X.A (call f us) (EP X pins σ Q) X.xe s
def KJ(X:Cx)(r:V->Hp->(Bool->Hp->Prop)->Prop):Prop:=
 ∀(pins:List (Addr×Obj)) (s:Shared) (σ:St) (H:Hp) (x:V) (v:Value) (Q:Bool->Hp->Prop),Inv X pins σ H s->RelV x v->r x H Q ->
  wpAny (model X.prog X.w) X.A (truthy v) (TP X pins σ Q) X.xe s
def wX(r:R2)(ta tb:TE):TE:=λσ H Q=>ta σ H λx H1=>tb σ H1 λy H2=>r x y H2 Q
def QG(r:V->Hp->VK->Prop)(ta:TE):TE:=λσ H Q=>ta σ H λx H1=>r x H1 Q
def rI(C:Int->Int->Prop)(g:Int->Int->V):R2:=λx y H Q=>∃i j,x=.int i/\y=.int j/\C i j/\Q (g i j) H
def sJ(g:Int->Int->V):R2:=λx y H Q=>∃i j,x=.int i/\y=.int j/\Q (g i j) H
def rU(g:Int->V):V->Hp->VK->Prop:=λx H Q=>∃i,x=.int i/\Q (g i) H
section
variable {X:Cx}{a b c:Expr}{ta tb tc:TE}{pos:Pos}
theorem ue(ha:PE X a ta)(hb:PE X b tb){pins:List (Addr×Obj)}{s:Shared}{σ:St}{H:Hp}{R:V->V->Hp->Prop}(I:Inv X pins σ H s)
  (h:ta σ H λx H1=>tb σ H1 λy H2=>R x y H2){Q:Value->Shared->Prop}{f:Value->Value->Sem Value}
  (hf:∀v u s2 x y H2,Inv X pins σ H2 s2->RelV x v->RelV y u->R x y H2->wpAny (model X.prog X.w) X.A (f v u) Q X.xe s2):
  wpAny (model X.prog X.w) X.A (eval a X.env) (λv aG=>wpAny (model X.prog X.w) X.A (eval b X.env) (λu dY=>wpAny (model X.prog X.w) X.A (f v u) Q X.xe dY) X.xe aG) X.xe s:=by
 refine bz (ha pins s σ H _ I h) λv s1 ⟨x,H1,I1,r1,q1⟩=>?_
 refine bz (hb pins s1 σ H1 _ I1 q1) λu s2 ⟨y,H2,I2,r2,q2⟩=>?_
 exact hf v u s2 x y H2 I2 r1 r2 q2
theorem xG(ho:f' X (binaryOp op) r)(ha:PE X a ta)(hb:PE X b tb):PE X (.BinOp a op b pos) (wX r ta tb):=by
 intro pins s σ H Q I h
 exact wpAny_BinOp (ue ha hb I h λv u s2 x y H2 I2 rx ry q=>ho pins s2 σ H2 x y v u Q I2 rx ry q)
theorem xF(ho:KI X (unaryOp op) r)(ha:PE X a ta):PE X (.UnaryOp op a pos) (QG r ta):=by
 intro pins s σ H Q I h
 exact UnaryOp_ (bz (ha pins s σ H _ I h) λv s1 ⟨x,H1,I1,r1,q1⟩=>ho pins s1 σ H1 x v Q I1 r1 q1)
theorem vd{f:Value->Value->Sem Value}{C:Int->Int->Prop}{g:Int->Int->Int}
  (rule:∀(i j:Int) (t u:Tok) (s:Shared) (Q:Value->Shared->Prop) (E:Value->Shared->Prop),C i j->Q (.int (g i j) s.toks) { s with toks:=s.toks+1 }->wpAny (model X.prog X.w) X.A (f (.int i t) (.int j u)) Q E s):
  f' X f (rI C λi j=>.int (g i j)):=by
 intro pins s σ H x y v u Q I rx ry h
 obtain ⟨i,j,rfl,rfl,hc,q⟩:=h
 obtain ⟨t,rfl⟩:=rx
 obtain ⟨t',rfl⟩:=ry
 exact rule i j t t' s _ _ hc ⟨.int (g i j),H,I.tok _,⟨_,rfl⟩,q⟩
theorem EN{f:Value->Value->Sem Value}{g:Int->Int->Int}
  (rule:∀(i j:Int) (t u:Tok) (s:Shared) (Q:Value->Shared->Prop) (E:Value->Shared->Prop),Q (.int (g i j) s.toks) { s with toks:=s.toks+1 }->wpAny (model X.prog X.w) X.A (f (.int i t) (.int j u)) Q E s):
  f' X f (sJ λi j=>.int (g i j)):=by
 intro pins s σ H x y v u Q I rx ry h
 obtain ⟨i,j,rfl,rfl,q⟩:=h
 obtain ⟨t,rfl⟩:=rx
 obtain ⟨t',rfl⟩:=ry
 exact rule i j t t' s _ _ ⟨.int (g i j),H,I.tok _,⟨_,rfl⟩,q⟩
theorem sN{f:Value->Value->Sem Value}{g:Int->Int->Bool}
  (rule:∀(i j:Int) (t u:Tok) (s:Shared) (Q:Value->Shared->Prop) (E:Value->Shared->Prop),Q (.bool (g i j)) s->wpAny (model X.prog X.w) X.A (f (.int i t) (.int j u)) Q E s):
  f' X f (sJ λi j=>.bl (g i j)):=by
 intro pins s σ H x y v u Q I rx ry h
 obtain ⟨i,j,rfl,rfl,q⟩:=h
 obtain ⟨t,rfl⟩:=rx
 obtain ⟨t',rfl⟩:=ry
 exact rule i j t t' s _ _ ⟨.bl (g i j),H,I,rfl,q⟩
def j9(i j:Int):Prop:=(-(2^64)<i/\i<2^64)\/(-(2^64)<j/\j<2^64)
theorem j9.ok(h:j9 i j):IntMulOk i j:=by
 rcases h with ⟨h1,h2⟩ | ⟨h1,h2⟩
 .exact .of_left (B0 h1 h2)
 .exact .of_right (B0 h1 h2)
theorem sM:f' X (binaryOp .Add) (sJ λi j=>.int (i+j)):=EN λ_ _ _ _ _ _ _ q=>add_int q
theorem YM:f' X (inplaceOp .Mult) (rI j9 λi j=>.int (i*j)):=vd λ_ _ _ _ _ _ _ hc q=>imul_int q hc.ok
theorem QD{f:Value->Sem Value}{g:Int->Int}
  (rule:∀(i:Int) (t:Tok) (s:Shared) (Q:Value->Shared->Prop) (E:Value->Shared->Prop),Q (.int (g i) s.toks) { s with toks:=s.toks+1 }->wpAny (model X.prog X.w) X.A (f (.int i t)) Q E s):
  KI X f (rU λi=>.int (g i)):=by
 intro pins s σ H x v Q I rx h
 obtain ⟨i,rfl,q⟩:=h
 obtain ⟨t,rfl⟩:=rx
 exact rule i t s _ _ ⟨.int (g i),H,I.tok _,⟨_,rfl⟩,q⟩
theorem X3:KI X (unaryOp .USub) (rU λi=>.int (-i)):=QD λ_ _ _ _ _ q=>neg_int q
end
section
variable {X:Cx}{a b c:Expr}{ta tb tc:TE}{pos:Pos}
theorem NS{pins:List (Addr×Obj)}{σ:St}{H:Hp}{s:Shared}{Q:VK}{k k':Bool}(I:Inv X pins σ H s)(q:Q (.bl k) H)(e:k=k'):EP X pins σ Q (.bool k') s:=by
 subst e
 exact ⟨.bl k,H,I,rfl,q⟩
theorem xN:f' X (compareOp .Lt) (sJ λi j=>.bl (decide (i<j))):=sN λ_ _ _ _ _ _ _ q=>lt_int q
theorem xO:f' X (compareOp .LtE) (sJ λi j=>.bl (decide (i<=j))):=sN λ_ _ _ _ _ _ _ q=>le_int q
theorem xP:f' X (compareOp .Gt) (sJ λi j=>.bl (decide (j<i))):=sN λ_ _ _ _ _ _ _ q=>gt_int q
theorem Xg:f' X (compareOp .Is) (λx y H Q=>y=.aS/\Q (.bl (decide (x=.aS))) H):=by
 intro pins s σ H x y v u Q I rx ry h
 obtain ⟨rfl,q⟩:=h
 cases ry
 refine is_none_gen (NS I q ?_)
 cases x<;>first
  | (cases rx;rfl)
  | (obtain ⟨t,rfl⟩:=rx;rfl)
theorem Yi:f' X (compareOp .IsNot) (λx y H Q=>y=.aS/\Q (.bl (!decide (x=.aS))) H):=by
 intro pins s σ H x y v u Q I rx ry h
 obtain ⟨rfl,q⟩:=h
 cases ry
 refine isnot_none_gen (NS I q ?_)
 cases x<;>first
  | (cases rx;rfl)
  | (obtain ⟨t,rfl⟩:=rx;rfl)
theorem f'.or(h:f' X f r)(h':f' X f r'):f' X f (λx y H Q=>r x y H Q\/r' x y H Q):=by
 intro pins s σ H x y v u Q I rx ry q
 rcases q with q | q
 .exact h pins s σ H x y v u Q I rx ry q
 .exact h' pins s σ H x y v u Q I rx ry q
theorem Nr(b:Expr)(h:op≠.In:=by decide)(h2:op≠.NotIn:=by decide):behindInMarks op b=false:=by
 have e1:(op==CmpOp.In)=false:=by cases op<;>first | rfl | exact absurd rfl h
 have e2:(op==CmpOp.NotIn)=false:=by cases op<;>first | rfl | exact absurd rfl h2
 cases b<;>simp [behindInMarks,e1,e2]
theorem Yn(ho:f' X (compareOp op) r)(ha:PE X a ta)(hb:PE X b tb)(hm:behindInMarks op b=false):PE X (.Compare a [op] [b] pos) (wX r ta tb):=by
 intro pins s σ H Q I h
 exact wpAny_Compare1 (ue ha hb I h λv u s2 x y H2 I2 rx ry q=>ho pins s2 σ H2 x y v u Q I2 rx ry q) hm
def wV(t:TE):TT:=λσ H Q=>t σ H λx H'=>∃k,x=.bl k/\Q k H'
theorem Yx(ho:f' X (compareOp op) r)(ha:PE X a ta)(hb:PE X b tb)(hm:behindInMarks op b=false):PT X (.Compare a [op] [b] pos) (wV (wX r ta tb)):=by
 intro pins s σ H Q I h
 refine wpAny_isTrue_Compare1 (bz (ha pins s σ H _ I h) λv s1 ⟨x,H1,I1,r1,q1⟩=>bz (hb pins s1 σ H1 _ I1 q1) λu s2 ⟨y,H2,I2,r2,q2⟩ =>
  bz (ho pins s2 σ H2 x y v u _ I2 r1 r2 q2) λc s3 ⟨z,H3,I3,r3,k,e,q3⟩=>?_) hm
 subst e
 cases r3
 exact vS ⟨H3,I3,q3⟩
def uW(K:aB)(x:V)(H:Hp)(k:Bool):Prop:=
 match x with
 | .aS=>k=false
 | .bl b=>k=b
 | .int i=>k=(i != 0)
 | .str y=>y.length<=sizeLine/\k=((y.length:Int) != 0)
 | .zO y=>y.size<=sizeLine/\k=((y.size:Int) != 0)
 | .ref p=>(∃xs,dH K H p xs/\k=!xs.isEmpty)\/(∃xs,dR K H p xs/\k=!xs.isEmpty)\/∃br,H p=some (.dK br)/\k=!br.isEmpty
 | _=>False
theorem a9a{κ:Type}{br:List (κ×V)}{vs:List (κ×Value)}(r:KV br vs):(!vs.isEmpty)=!br.isEmpty:=by
 cases r<;>rfl
theorem PU(r:au xs aq):(!aq.toArray.isEmpty)=!xs.isEmpty:=by
 cases r<;>simp
theorem wa:(sizeLine:Nat)<2^63:=by rw [fW];decide
theorem X9:KJ X (λx H Q=>∃k,uW X.K x H k/\Q k H):=by
 intro pins s σ H x v Q I rx h
 obtain ⟨k,e,q⟩:=h
 have hl:=wa
 have hs:sizeLine=16777216:=fW
 cases x with
 | aS =>
  cases rx
  have e':k=false:=e
  subst e'
  exact truthy_none ⟨H,I,q⟩
 | bl b =>
  cases rx
  have e':k=b:=e
  subst e'
  exact vS ⟨H,I,q⟩
 | int i =>
  obtain ⟨t,rfl⟩:=rx
  have e':k=(i != 0):=e
  subst e'
  exact PySem.P.truthy_int ⟨H,I,q⟩
 | str y =>
  obtain ⟨t,rfl⟩:=rx
  obtain ⟨hy,e'⟩:y.length<=sizeLine/\k=((y.length:Int) != 0):=e
  subst e'
  exact PySem.P.truthy_str (by ext hs hy) ⟨H,I.tok _,q⟩
 | zO y =>
  obtain ⟨t,rfl⟩:=rx
  obtain ⟨hy,e'⟩:y.size<=sizeLine/\k=((y.size:Int) != 0):=e
  subst e'
  exact PySem.W.truthy_bytes (dE ‹_› (by decide)) ⟨H,I.tok _,q⟩
 | ref p =>
  cases rx
  have e':(∃xs,dH X.K H p xs/\k=!xs.isEmpty)\/(∃xs,dR X.K H p xs/\k=!xs.isEmpty)\/∃br,H p=some (.dK br)/\k=!br.isEmpty:=e
  rcases e' with ⟨xs,hx,e'⟩ | ⟨xs,hx,e'⟩ | ⟨br,hx,e'⟩
  .subst e'
   obtain ⟨aq,r,pl,hz⟩:=I.list hx
   have hlen:=r.length
   exact wpAny_truthy_list pl.isList (by simp only [cZ];ext hs hz hlen) ⟨H,I.tok _,by rw [PU r];exact q⟩
  .subst e'
   obtain ⟨aq,r,pl,hz⟩:=I.tuple hx
   have hlen:=r.length
   exact truthy_tuple pl (by simp only [cZ];ext hs hz hlen) ⟨H,I.tok _,by rw [PU r];exact q⟩
  .subst e'
   obtain ⟨hz,hS,vs,r,m⟩:br.length<=sizeLine/\(p==sysModules)=false/\∃vs,KV br vs/\s.heap.DictOf (IU X.prog X.w) p vs:=I.bb p _ hx
   have hlen:br.length=vs.length:=Paired.length r
   exact wpAny_truthy_dict hS m (by ext hs hz hlen) ⟨H,I.tok _,by rw [a9a r];exact q⟩
 | _=>exact (show False from e).elim
theorem OP(ha:PE X a ta)(he:∀whole,isTrue a X.env whole=(do let v <-whole;standAt a.pos;holding [v] (truthy v))):
  PT X a (λσ H Q=>ta σ H λx H'=>∃k,uW X.K x H' k/\Q k H'):=by
 intro pins s σ H Q I h
 exact isTrue_plain (bz (ha pins s σ H _ I h) λv s1 ⟨x,H1,I1,r1,q1⟩=>X9 pins s1 σ H1 x v Q I1 r1 q1) (he _)
theorem kQ:f' X (binaryOp .Add) (λx y H Q=>∃i j,x=.str i/\y=.str j/\i.length+j.length<=sizeLine/\Q (.str (i++j)) H):=by
 intro pins s σ H x y v u Q I rx ry h
 obtain ⟨i,j,rfl,rfl,hz,q⟩:=h
 obtain ⟨t,rfl⟩:=rx
 obtain ⟨t',rfl⟩:=ry
 exact add_str (λt' tk=>⟨.str (i++j),H,I.tok _,⟨_,rfl⟩,q⟩) hz
theorem vals1(r:au [x] us):∃u,us=[u]/\RelV x u:=by
 cases r with
 | cons r1 r2=>cases r2;exact ⟨_,rfl,r1⟩
theorem vals2(r:au [x,y] us):∃u w',us=[u,w']/\RelV x u/\RelV y w':=by
 cases r with
 | cons r1 r2 =>
  cases r2 with
  | cons r3 r4=>cases r4;exact ⟨_,_,rfl,r1,r3⟩
theorem b0X(hc:X.calm=true):bH X (.builtin "max") (λxs H Q=>∃i j,xs=[.int i,.int j]/\Q (.int (if j>i then j else i)) H):=by
 intro pins s σ H xs us Q I r h
 obtain ⟨i,j,rfl,q⟩:=h
 obtain ⟨u,w',rfl,⟨t,rfl⟩,⟨t',rfl⟩⟩:=vals2 r
 refine max_two_ints (I.ok.hd hc) λh' tk k=>⟨_,H,I.kept k,?_,q⟩
 by_cases hj:j>i
 .rw [if_pos hj,if_pos hj];exact ⟨_,rfl⟩
 .rw [if_neg hj,if_neg hj];exact ⟨_,rfl⟩
theorem b0W(hc:X.calm=true):bH X (.builtin "min") (λxs H Q=>∃i j,xs=[.int i,.int j]/\Q (.int (if j<i then j else i)) H):=by
 intro pins s σ H xs us Q I r h
 obtain ⟨i,j,rfl,q⟩:=h
 obtain ⟨u,w',rfl,⟨t,rfl⟩,⟨t',rfl⟩⟩:=vals2 r
 refine min_two_ints (I.ok.hd hc) λh' tk k=>⟨_,H,I.kept k,?_,q⟩
 by_cases hj:j<i
 .rw [if_pos hj,if_pos hj];exact ⟨_,rfl⟩
 .rw [if_neg hj,if_neg hj];exact ⟨_,rfl⟩
end
end L2
namespace L2
open PySem PySem.Spec PyProof.Rows
structure ObjM(h:Heap)(x dx C:Addr)(mA:Str->Option Value):Prop where
 obj:h.get? x=some (vF C dx)
 ns:h.Ns1 dx mA
 ne:dx≠x
section
variable {prog:Program}{w:World}{A:Around}{E:Value->Shared->Prop}{s:Shared}{K:aB}{x dx C f:Addr}{mA:Str->Option Value}{name:Str}{v:Value}
end
theorem qG.none_of(r:qG none o):o=none:=by
 cases o with
 | none=>rfl
 | some u=>exact (show False from r).elim
section
variable {P:Program}{w:World}{H H':Hp}{h h':Heap}{a C dx:Addr}{fs Ga:List (Str×V)}
end
structure KZ(K:aB)(C:Addr):Prop where
 pg:L0 K C Str.empty=true
 hd:PySem.W.hasDictIn K C=true
 po:PySem.W.plainOver K C=true
 sa:zz K (.ref C) "__setattr__" = some (some (.builtin "object.__setattr__"))
theorem KZ.get{K:aB}{C:Addr}(c:KZ K C)(f:Str):L0 K C f=true:=c.pg
structure Con(K:aB)(C:Addr)(f:Str)(v:V)(u:Value):Prop where
 at_:zz K (.ref C) f=some (some u)
 rel:RelV v u
 get:L6 K u "__get__" = some none
 cp:PySem.W.copiedNames.contains f=false
structure Meth(K:aB)(C:Addr)(m:Str)(f:Addr):Prop where
 at_:zz K (.ref C) m=some (some (.ref f))
 fn:PySem.W.isFn K (.ref f)=true
 kp:t7 K (.ref f)=true
section
variable {X:Cx}{pins:List (Addr×Obj)}{σ:St}{H:Hp}{s:Shared}{a C dx:Addr}{fs:List (Str×V)}{f:Str}{v:V}{A:Around}{E:Value->Shared->Prop}
theorem Inv.made(I:Inv X pins σ H s):Inv X pins σ (upd (upd H s.heap.objs.size (.own (s.heap.objs.size+1))) (s.heap.objs.size+1) (.ins C s.heap.objs.size []))
  { s with heap:=(s.heap.push rH).push (vF C s.heap.objs.size) }:=by
 have e1:(s.heap.push rH).get? s.heap.objs.size=some rH:=c9 s.heap rfl
 have e2:((s.heap.push rH).push (vF C s.heap.objs.size)).get? (s.heap.objs.size+1)=some (vF C s.heap.objs.size):=by
  have:=c9 (s.heap.push rH) (o:=vF C s.heap.objs.size) rfl
  rwa [fM] at this
 have e3:(s.heap.push rH).Ns s.heap.objs.size (λ_=>none):=⟨rH,#[],_,e1,rfl,(λe he=>absurd he (by simp)),λ_=>rfl⟩
 have I1:=I.laid (a:=s.heap.objs.size) (o:=.own (s.heap.objs.size+1)) (h':=s.heap.push rH) (t':=s.toks) (λb u q=>aZ _ q) (aV _) ⟨_,e1⟩
 refine I1.laid (a:=s.heap.objs.size+1) (o:=.ins C s.heap.objs.size []) (t':=s.toks) (λb u q=>aZ _ q) (Nat.le_of_eq (fM _ _)) ?_
 have ne:s.heap.objs.size≠s.heap.objs.size+1:=cI (jK _)
 refine ⟨by rw [cR ne,me],jM _,ne,e2,λ_=>none,(Heap.Ns1.of_empty e3).at λo q=>aZ _ q,λ_=>True.intro,λy hy=>absurd rfl hy⟩
end
section
variable {X:Cx}{o e value:Expr}{f:Str}{pos pos' QE:Pos}{ta tv:TE}
end
section
variable {X:Cx}{pins:List (Addr×Obj)}{σ:St}{H:Hp}{s:Shared}{A:Around}{E:Value->Shared->Prop}{Q:Value->Shared->Prop}{c:Value}{b:Bool}
inductive gD (K:aB) (H:Hp):V->Value->Prop where
 | aS:gD K H .aS (.type "NoneType")
 | bl (x:Bool):gD K H (.bl x) (.type "bool")
 | int (i:Int):gD K H (.int i) (.type "int")
 | str (x:Str):gD K H (.str x) (.type "str")
 | za (x:UInt64):gD K H (.za x) (.type "float")
 | lst {a:Addr} {xs:List V} (e:H a=some (.lst xs)):gD K H (.ref a) (.type "list")
 | iW {a:Addr} {o:Obj} {xs:List V} (e:H a=some (.iW o (.lst xs))):gD K H (.ref a) (.type "list")
 | tup {a:Addr} {xs:List V} (e:H a=some (.tup xs)):gD K H (.ref a) (.type "tuple")
 | dK {a:Addr} {br:List (Key×V)} (e:H a=some (.dK br)):gD K H (.ref a) (.type "dict")
 | dT {a:Addr} {br:List (List Key×V)} (e:H a=some (.dT br)):gD K H (.ref a) (.type "dict")
 | ins {a C dx:Addr} {fs:List (Str×V)} (e:H a=some (.ins C dx fs)) (cl:KZ K C) (ha:zz K (.ref C) "__class__" = some (some (.builtin "object.__class__")))
   (hn:L6 K (.builtin "object.__class__") "__get__" = some (some (.builtin "getset_descriptor.__get__"))) (htk:PySem.W.takesIn K (.builtin "object.__class__")=some true)
   (hm:PySem.W.mroIn K C (.type "object")=some true):gD K H (.ref a) (.ref C)
end
end L2
namespace L2
open PySem PySem.Spec PyProof.Rows
structure bC(k:Nat)(A:Around):Prop where
 hd:A.handled=none
 dp:A.depth+3*k+5<recursionLimit
 un:A.units+16*k+200<cLine
theorem bC.mono(r:bC k A)(h:j<=k):bC j A:=⟨r.hd,by have:=r.dp;ext h this,by have:=r.un;ext h this⟩
theorem bC.deeper(r:bC (k+1) A)(env:Env):bC k (A.deeper env):=
 ⟨r.hd,by have:=r.dp;show A.depth+1+3*k+5<_;ext this,by have:=r.un;show A.units+3+16*k+200<_;ext this⟩
theorem bC.in1(r:bC (k+1) A):bC k A.in1:=
 ⟨r.hd,by have:=r.dp;show A.depth+3*k+5<_;ext this,by have:=r.un;show A.units+1+16*k+200<_;ext this⟩
theorem a86{A:Around}{kw:List (Str×Value)}:(A.under (.builtin "type.__call__" ⟨.ref C::us,kw⟩)).depth=A.depth+1:=by
 first | rfl | simp [GJ,Code.weight,Code.isCreation,Code.isGuard,Code.isCaller,Code.frames,GI,guardIds]
theorem a85{A:Around}{kw:List (Str×Value)}:(A.under (.builtin "type.__call__" ⟨.ref C::us,kw⟩)).units=A.units+1:=by
 first | rfl | simp [GJ,Code.cUnits,Code.frames,GI]
theorem bC.make(r:bC (k+1) A)(C:Addr)(us:List Value)(kw:List (Str×Value)):bC k (A.under (.builtin "type.__call__" ⟨.ref C::us,kw⟩)):=
 ⟨r.hd,by have:=r.dp;rw [a86];ext this,by have:=r.un;rw [a85];ext this⟩
theorem bC.depth(r:bC k A):A.depth<recursionLimit:=by have:=r.dp;ext this
theorem bC.units(r:bC k A):A.units+64<cLine:=by have:=r.un;ext this
def Ei:TA:=λ_ H Q=>Q [] H
def w6(ta:TE)(tr:TA):TA:=λσ H Q=>ta σ H λx H1=>tr σ H1 λxs H2=>Q (x::xs) H2
section
variable {X:Cx}{e:Expr}{es:List Expr}{te:TE}{t:TA}{pos:Pos}
theorem md:PA X [] Ei:=λ_ _ _ _ H Q I h=>L5 ⟨[],H,I,.nil,h⟩
theorem lI(ha:PE X e te)(hr:PA X es t)(hs:starEach (e::es) X.env=(false,eval e X.env)::starEach es X.env:=by rfl):PA X (e::es) (w6 te t):=by
 intro pos pins s σ H Q I h
 rw [hs]
 show wpAny _ _ (spliced ((false,eval e X.env)::backTo pos (starEach es X.env))) _ _ s
 refine Mx (bz (ha pins s σ H _ I h) λu s1 ⟨x,H1,I1,r1,q1⟩=>?_)
 exact bz (hr pos pins s1 σ H1 _ I1 q1) λus s2 ⟨xs,H2,I2,r2,q2⟩=>⟨x::xs,H2,I2,.cons r1 r2,q2⟩
def Ed(t:TA):TE:=λσ H Q=>t σ H λxs H1=>xs.length<=sizeLine/\∀p,H1 p=none->Q (.ref p) (upd H1 p (.tup xs))
def Ej(t:TA):TE:=λσ H Q=>t σ H λxs H1=>xs.length<=sizeLine/\∀p,H1 p=none->Q (.ref p) (upd H1 p (.lst xs))
theorem Xo{x1}(h:PA X es t):PE X (.Tuple es x1 pos) (Ed t):=by
 intro pins s σ H Q I hq
 refine wpAny_Tuple_spliced (bz (h pos pins s σ H _ I hq) λus s1 ⟨xs,H1,I1,r,z,q⟩=>⟨by rw [<-r.length];exact z,?_⟩)
 have hf:H1 s1.heap.objs.size=none:=I1.bb.fresh (aV _)
 refine ⟨.ref s1.heap.objs.size,upd H1 s1.heap.objs.size (.tup xs),I1.laid (t':=s1.toks) (λb u e=>aZ _ e) (aV _) ?_,rfl,q _ hf⟩
 exact ⟨z,us,r,⟨_,c9 _ rfl,rfl,_,rfl⟩⟩
theorem Xk(h:PA X es t):PE X (.List es pos) (Ej t):=by
 intro pins s σ H Q I hq
 refine wpAny_List_spliced (bz (h pos pins s σ H _ I hq) λus s1 ⟨xs,H1,I1,r,z,q⟩=>⟨by rw [<-r.length];exact z,?_⟩)
 have hf:H1 s1.heap.objs.size=none:=I1.bb.fresh (aV _)
 refine ⟨.ref s1.heap.objs.size,upd H1 s1.heap.objs.size (.lst xs),I1.laid (t':=s1.toks) (λb u e=>aZ _ e) (aV _) ?_,rfl,q _ hf⟩
 exact ⟨z,us,0,r,c9 _ rfl⟩
end
abbrev Sp:=List V->Hp->VK->XK->Prop
abbrev mZ:=List Env->Hp->Shared->XK->Value->Shared->Prop
structure gF(P:Program)(w:World)(K:aB)(mg:Str->Option Value)(base:Heap)(A:Around)(outer:List Env)(s:Shared)(H:Hp):Prop where
 frames:A.frames=some outer
 mod:Mod K mg base
 bs:∀b o,base.get? b=some o->s.heap.get? b=some o/\H b=none
 ni:base.objs.size<=s.heap.objs.size
 eM:s.heap.FunFrames base outer
 qi:∀b∈mC outer,H b=none
 bb:gE P w H s.heap
 bare:AllBare s.gens
def CE(outer:List Env)(P:Program)(w:World)(H:Hp)(s:Shared)(Q:VK)(u:Value)(s':Shared):Prop:=
 ∃v H',s'.os=s.os/\AllBare s'.gens/\Un (mC outer) [] H H' s.heap s'.heap/\gE P w H' s'.heap/\RelV v u/\Q v H'
def CR(CX:mZ)(outer:List Env)(P:Program)(w:World)(H:Hp)(s:Shared)(Q:VK)(E:XK)(r:Result)(s':Shared):Prop:=
 match r with
 | .ok (.ret u)=>CE outer P w H s Q u s'
 | .ok _=>False
 | .error e=>CX outer H s E e s'
structure bM(P:Program)(w:World)(K:aB)(mg:Str->Option Value)(base:Heap)(CX:mZ)(k:Nat)(f:Addr)(fd:FuncData)(ps:List Str)(sp:Sp):Prop where
 len:∀vs H Q E,sp vs H Q E->vs.length=ps.length
 run:∀(A:Around) (outer:List Env) (s:Shared) (H:Hp) (args:Args) (us:List Value) (vs:List V) (Q:VK) (E:XK),bC k A->gF P w K mg base A outer s H->BindsTo s fd args (ps.zip us)->au vs us->sp vs H Q E ->
  codeAny (model P w) A (.call (.ref f) args) (CR CX outer P w H s Q E) s
theorem bM.mono{P:Program}{w:World}{K:aB}{mg:Str->Option Value}{base:Heap}{CX:mZ}{j k:Nat}{f:Addr}{fd:FuncData}{ps:List Str}{sp:Sp}(F:bM P w K mg base CX j f fd ps sp)(h:j<=k):
  bM P w K mg base CX k f fd ps sp:=⟨F.len,λA outer s H args us vs Q E hr=>F.run A outer s H args us vs Q E (hr.mono h)⟩
theorem bM.imp{P:Program}{w:World}{K:aB}{mg:Str->Option Value}{base:Heap}{CX:mZ}{k:Nat}{f:Addr}{fd:FuncData}{ps:List Str}{sp K3:Sp}(F:bM P w K mg base CX k f fd ps sp)
  (h:∀vs H Q E,K3 vs H Q E->sp vs H Q E):bM P w K mg base CX k f fd ps K3:=
 ⟨λvs H Q E q=>F.len vs H Q E (h _ _ _ _ q),λA outer s H args us vs Q E hr he hb hv hs=>F.run A outer s H args us vs Q E hr he hb hv (h _ _ _ _ hs)⟩
theorem gF.make{P:Program}{w:World}{K:aB}{mg:Str->Option Value}{base:Heap}{A:Around}{outer:List Env}{s:Shared}{H:Hp}(e:gF P w K mg base A outer s H)(C:Addr)(us:List Value)(kw:List (Str×Value)):
  gF P w K mg base (A.under (.builtin "type.__call__" ⟨.ref C::us,kw⟩)) outer s H:=⟨by first | exact e.frames | (simpa [GJ,Code.envs,GI,pushEnvs] using e.frames),e.mod,e.bs,e.ni,e.eM,e.qi,e.bb,e.bare⟩
theorem gF.in1{P:Program}{w:World}{K:aB}{mg:Str->Option Value}{base:Heap}{A:Around}{outer:List Env}{s:Shared}{H:Hp}(e:gF P w K mg base A outer s H):
  gF P w K mg base A.in1 outer s H:=⟨e.frames,e.mod,e.bs,e.ni,e.eM,e.qi,e.bb,e.bare⟩
section
variable {X:Cx}{pins:List (Addr×Obj)}{σ:St}{H:Hp}{s s':Shared}
theorem Inv.fL(I:Inv X pins σ H s):gF X.prog X.w X.K X.mg X.base X.A X.stack s H:=
 ⟨I.ok.frames,I.ok.mod,I.bs,dE I.ok.ni I.sz,I.stack,I.lT,I.bb,I.bare⟩
theorem Inv.after(I:Inv X pins σ H s)(h:CE X.stack X.prog X.w H s Q u s'):EP X pins σ Q u s':=by
 obtain ⟨v,H',os,bare,un,bb,r,q⟩:=h
 obtain ⟨hh,g,d,t,xM⟩:=s'
 obtain rfl:xM=s.os:=os
 exact ⟨v,H',I.call (h':=hh) (g':=g) (d':=d) (t':=t) (ch:=[]) un bb bare (λb z=>absurd z (by simp)),r,q⟩
end
def Ng(sp:Sp)(rh:List V)(E:XK)(t:TA):TE:=λσ H Q=>t σ H λvs H1=>sp (vs++rh) H1 Q E
def Binds(K:aB)(fd:FuncData)(ps:List Str)(ds:List Value):Prop:=
 ∀(s:Shared) (us:List Value),K.In s.heap->(us++ds).length=ps.length->BindsTo s fd ⟨us,[]⟩ (ps.zip (us++ds))
theorem Binds.all{K:aB}{fd:FuncData}{ps:List Str}(h:∀us:List Value,us.length=ps.length->bindArgs fd ⟨us,[]⟩=pure (ps.zip us)):Binds K fd ps []:=λs us _ hl=>by
 rw [mM] at hl ⊢
 exact .of_eq (h us hl)
def Ie(CX:mZ)(X:Cx)(E:XK):Prop:=∀(pins:List (Addr×Obj)) (σ:St) (H:Hp) (s:Shared) (e:Value) (s':Shared),Inv X pins σ H s->CX X.stack H s E e s'->X.xe e s'
section
variable {X:Cx}{CX:mZ}{k:Nat}{f C:Addr}{fd:FuncData}{ps:List Str}{sp:Sp}{rh:List V}{ds:List Value}{E:XK}{x m:Str}{p pos apos:Pos}{e o:Expr}{es:List Expr}{ta:TE}{t:TA}
theorem Xx{pins:List (Addr×Obj)}{σ:St}{H:Hp}{s:Shared}{Q:VK}{us:List Value}{vs:List V}(F:bM X.prog X.w X.K X.mg X.base CX k f fd ps sp)(hr:bC k X.A)(hb:Binds X.K fd ps ds)(hd:au rh ds)(hx:Ie CX X E)
  (I:Inv X pins σ H s)(r:au vs us)(h:sp (vs++rh) H Q E):wpAny (model X.prog X.w) X.A (call (.ref f) us) (EP X pins σ Q) X.xe s:=by
 have r2:au (vs++rh) (us++ds):=r.append hd
 have hl:(us++ds).length=ps.length:=by rw [<-r2.length];exact F.len _ _ _ _ h
 refine wpAny_call (rq (F.run X.A X.stack s H ⟨us,[]⟩ (us++ds) (vs++rh) Q E hr I.fL (hb s us I.sX hl) r2 h) λr s' hq=>?_)
 cases r with
 | error e=>exact hx pins σ H s e s' I hq
 | ok fl =>
  cases fl with
  | ret u=>exact I.after hq
  | next=>exact gM hq
  | brk=>exact gM hq
  | cont=>exact gM hq
theorem Ym(F:bM X.prog X.w X.K X.mg X.base CX k f fd ps sp)(hr:bC k X.A)(hg:Gl X x)(hm:X.mg x=some (.ref f))(hk:t7 X.K (.ref f)=true)(hb:Binds X.K fd ps ds)(hd:au rh ds)(hx:Ie CX X E)
  (ha:PA X (e::es) t)(jF:(x==("__debug__":Str))=false:=by decide)(he:starEach (e::es) X.env=(false,eval e X.env)::starEach es X.env:=by rfl)(dO:(backTo pos (starEach es X.env)).any (·.1)=false:=by rfl):
  PE X (.Call (.Name x p) (e::es) [] pos) (Ng sp rh E t):=by
 intro pins s σ H Q I h
 refine CJ (IS I hg hm ?_ jF)
 refine PySem.W.callWith_K (h₀:=X.base) I.ok.mod.E1 hk (bz (ha pos pins s σ H _ I h) λus s1 ⟨vs,H1,I1,r,q⟩=>⟨I1.sX,?_⟩) he dO
 exact Xx F hr hb hd hx I1 r q
structure Mk(K:aB)(C f:Addr):Prop where
 makes:PySem.W.makesIn K C=true
 init:zz K (.ref C) "__init__" = some (some (.ref f))
 fn:PySem.W.isFn K (.ref f)=true
 kp:t7 K (.ref C)=true
end
section
variable {X:Cx}{CX:mZ}{k:Nat}{f C:Addr}{fd:FuncData}{ps ks:List Str}{sp:Sp}{E:XK}{x m:Str}{p pos apos T2:Pos}{e o:Expr}{es:List Expr}{kws:List Keyword}{te ta:TE}{t tk:TA}{nm:Option Str}
structure KQ(K:aB)(fd:FuncData)(ps ks:List Str)(g:List Value->List Value->List Value)(gV:List V->List V->List V):Prop where
 to:∀(s:Shared) (us ws:List Value),K.In s.heap->(g us ws).length=ps.length->BindsTo s fd ⟨us,ks.zip ws⟩ (ps.zip (g us ws))
 rel:∀{vs:List V} {us:List Value} {zs:List V} {ws:List Value},au vs us->au zs ws->au (gV vs zs) (g us ws)
variable {g:List Value->List Value->List Value}{gV:List V->List V->List V}
end
structure c8(N P:List Str)(sc:Scope):Prop where
 kind:sc.kind=.function
 co:sc.isCoroutine=false
 gen:sc.isGenerator=false
 nd:N.Nodup
 pre:N.take P.length=P
 par:∀x∈P,sc.names.lookup x=some .local\/sc.names.lookup x=some .cell
 sQ:∀y∈sc.names,y.2≠.free
theorem Pd{kindOf:Str->Option NameKind}{x:Str}:∀{binds:List (Str×Value)} {m:Str->Option Value},(∀v,(x,v)∉binds)->bindL kindOf binds m x=m x
 | [],_,_=>rfl
 | (n,v)::r,m,h=>by
  unfold bindL
  rw [Pd λw hw=>h w (cG _ hw)]
  split
  .have:x≠n:=by rintro rfl;exact h v cm
   simp [this]
  .rfl
theorem Pb{kindOf:Str->Option NameKind}{x:Str}:∀{binds:List (Str×Value)} {m:Str->Option Value},(∀v,(x,v)∉binds)->bindC kindOf binds m x=m x
 | [],_,_=>rfl
 | (n,v)::r,m,h=>by
  unfold bindC
  rw [Pb λw hw=>h w (cG _ hw)]
  split
  .rfl
  .have:x≠n:=by rintro rfl;exact h v cm
   simp [this]
theorem Pc{kindOf:Str->Option NameKind}{x:Str}{v:Value}:∀{P:List Str} {vs:List Value} {i:Nat} {m:Str->Option Value},P.Nodup->P[i]?=some x->vs[i]?=some v->kindOf x=some .local ->
  bindL kindOf (P.zip vs) m x=some v
 | [],_,_,_,_,h,_,_=>by simp at h
 | _::_,[],_,_,_,_,h,_=>by simp at h
 | p::P,w::vs,0,m,nd,h1,h2,hk=>by
  simp at h1 h2;subst h1;subst h2
  show bindL kindOf ((p,w)::P.zip vs) m p=_
  unfold bindL
  rw [Pd λv hv=>(uw.mp nd).1 (uv hv).1,if_pos hk]
  simp
 | p::P,w::vs,i+1,m,nd,h1,h2,hk=>by
  show bindL kindOf ((p,w)::P.zip vs) m x=_
  unfold bindL
  exact Pc (i:=i) (uw.mp nd).2 (by simpa using h1) (by simpa using h2) hk
theorem Pa{kindOf:Str->Option NameKind}{x:Str}{v:Value}:∀{P:List Str} {vs:List Value} {i:Nat} {m:Str->Option Value},P.Nodup->P[i]?=some x->vs[i]?=some v->kindOf x≠some .local ->
  bindC kindOf (P.zip vs) m x=some v
 | [],_,_,_,_,h,_,_=>by simp at h
 | _::_,[],_,_,_,_,h,_=>by simp at h
 | p::P,w::vs,0,m,nd,h1,h2,hk=>by
  simp at h1 h2;subst h1;subst h2
  show bindC kindOf ((p,w)::P.zip vs) m p=_
  unfold bindC
  rw [Pb λv hv=>(uw.mp nd).1 (uv hv).1,if_neg hk]
  simp
 | p::P,w::vs,i+1,m,nd,h1,h2,hk=>by
  show bindC kindOf ((p,w)::P.zip vs) m x=_
  unfold bindC
  exact Pa (i:=i) (uw.mp nd).2 (by simpa using h1) (by simpa using h2) hk
def start(N:List Str)(vs:List V):St:=vs.map some++iB (N.length-vs.length) none
def lq(CX:mZ)(P:Program)(w:World)(K:aB)(mg:Str->Option Value)(base:Heap)(N:List Str)(qual:Str)(scope:Scope)(f:Addr)(cd:Value)(A:Around)(outer:List Env)(s:Shared)(H:Hp)(E:XK):Cx where
 prog:=P
 w:=w
 K:=K
 mg:=mg
 base:=base
 A:=A.deeper (envOfC qual scope s.heap.objs.size f cd)
 N:=N
 cC:=s
 oP:=H
 env:=envOfC qual scope s.heap.objs.size f cd
 outer:=outer
 stack:=envOfC qual scope s.heap.objs.size f cd::outer
 ex:=[]
 calm:=true
 fn:=λ_=>true
 pn:=[]
 xe:=λe s'=>wpAny (model P w) (A.deeper (envOfC qual scope s.heap.objs.size f cd)) (leaving (envOfC qual scope s.heap.objs.size f cd) e) (λ_ xn=>CX outer H s E e xn) (λe' xn=>CX outer H s E e' xn) s'
theorem O5{sc:Scope}{n:Nat}{x:Str}(h:sc.names.lookup x=some .cell):∃c,(cellsFrom n sc.names []).lookup x=some c:=by
 have q:=Mf sc.names n [] (.inl h)
 exact HA.mp q
theorem b0o{CX:mZ}{P:Program}{w:World}{K:aB}{mg:Str->Option Value}{base:Heap}{N ps:List Str}{qual:Str}{scope:Scope}{f:Addr}{cd:Value}{A:Around}{outer:List Env}{s s1:Shared}{H:Hp}{E:XK}{us:List Value}{vs:List V}
  (S:c8 N ps scope)(hd:A.handled=none)(e0:gF P w K mg base A outer s H)(hl:vs.length=ps.length)(r:au vs us)
  (x:InCallC s s.heap.objs.size (bindL (envOfC qual scope s.heap.objs.size f cd).kindOf (ps.zip us) λ_=>none) (cellsFrom (s.heap.objs.size+1) scope.names []) (bindC (envOfC qual scope s.heap.objs.size f cd).kindOf (ps.zip us) λ_=>none) s1):
  Inv (lq CX P w K mg base N qual scope f cd A outer s H E) [] (start N vs) H s1:=by
 have dO:ps.length<=N.length:=by have:=congrArg nk S.pre;rw [iE] at this;ext this
 obtain ⟨h1,tk,rfl,hk⟩:=x.done
 have EW:∀b:Addr,b∉(lq CX P w K mg base N qual scope f cd A outer s H E).ex:=λb z=>absurd (show b∈([]:List Addr) from z) (by simp)
 refine ⟨⟨e0.mod,S.kind,rfl,rfl,aV _,λy z c h1 h2=>?_,λy hy=>?_,λy c _ h=>?_,λ_=>hd,Around.frames_deeper e0.frames,.inr ⟨rfl,rfl⟩,λb z=>absurd z (EW b),e0.bs,e0.ni,λb _ _=>EW b,λb z=>absurd z (EW b),e0.eM,e0.qi⟩,
  rfl,e0.bare,Un.kept hk,⟨_,x.toInCall.ns,λi y v h1 h2 h3=>?_⟩,λy c h=>⟨_,x.cell y c h⟩,e0.bb.fresh (aV _),λy c h=>?_,λp hp=>absurd (show p∈([]:List (Addr×Obj)) from hp) (by simp),e0.bb.kept hk,?_⟩
 .exact name_of_addr x.apart (vQ h1) (vQ h2)
 .have hy:scope.names.lookup y=some .cell\/scope.names.lookup y=some .free:=hy
  rcases hy with hy | hy
  .exact O5 hy
  .exact absurd rfl (S.sQ _ (vQ hy))
 .exact rz (x.above y c (vQ h))
 .have hi:i<vs.length:=by
   unfold start at h2
   by_cases hi:i<vs.length
   .exact hi
   .rw [qv (by simpa using hi)] at h2
    rw [CD] at h2
    split at h2<;>cases h2
  have ha:vs[i]?=some v:=by
   unfold start at h2
   rw [uz (by simpa using hi),l9] at h2
   cases e:vs[i]? with
   | none=>rw [e] at h2;cases h2
   | some a=>rw [e] at h2;cases h2;rfl
  obtain ⟨u,hu,rv⟩:=r.get ha
  have hp:ps[i]?=some y:=by
   rw [<-S.pre,List.getElem?_take_of_lt (by ext hl hi)];exact h1
  have Li:ps.Nodup:=by rw [<-S.pre];exact S.nd.sublist (List.take_sublist _ _)
  refine ⟨u,rv,?_⟩
  rcases S.par y (Mt hp) with k | k
  .exact .inl ⟨k,Pc Li hp hu k⟩
  .obtain ⟨c,e⟩:=O5 (n:=s.heap.objs.size+1) k
   refine .inr ⟨.inl k,c,e,?_⟩
   have q:=x.cell y c e
   rw [Pa Li hp hu (by show scope.names.lookup y≠_;rw [k];decide)] at q
   exact q
 .exact e0.bb.fresh (rz (x.above y c (vQ h)))
 .unfold start
  show _=N.length
  rw [bQ,bB,Cz]
  ext hl dO
theorem y8{CX:mZ}{P:Program}{w:World}{K:aB}{mg:Str->Option Value}{base:Heap}{k:Nat}{f:Addr}{name qual:Str}{params:Arguments}{body:List Stmt}{scope:Scope}{dV kV doc pm cY ct oc:Value}{an od:Option Addr}
  {qQ:Array (Option Value)}{N ps:List Str}{sp:Sp}(lk:K.lookup f=some ⟨oc,od,.func (jv name qual params body scope dV kV doc pm an cY ct),qQ⟩)(cM:Cp K cY qual=true)(S:c8 N ps scope)
  (len:∀vs H Q E,sp vs H Q E->vs.length=ps.length)
  (dC:∀(A:Around) (outer:List Env) (s:Shared) (H:Hp) (vs:List V) (Q:VK) (E:XK),bC k (A.deeper (envOfC qual scope s.heap.objs.size f cY))->sp vs H Q E ->
   ∃t,mj (lq CX P w K mg base N qual scope f cY A outer s H E) body t/\t { nx:=λ_ H'=>Q .aS H',rt:=Q } (start N vs) H):
  bM P w K mg base CX (k+1) f (jv name qual params body scope dV kV doc pm an cY ct) ps sp:=by
 refine ⟨len,λA outer s H args us vs Q E hr e0 hb r qW=>?_⟩
 have hl:=len _ _ _ _ qW
 have KX:K.In s.heap:=e0.mod.E1.keeps λb o e=>(e0.bs b o e).1
 have lim:s.heap.NoLimit:=e0.mod.nolimit.keeps λb o e=>(e0.bs b o e).1
 have yG:∀y∈ps.zip us,scope.names.lookup y.1=some .local\/(scope.names.lookup y.1=some .cell/\((cellsFrom (s.heap.objs.size+1) scope.names []).lookup y.1).isSome=true):=λ⟨n,v⟩ hy=>by
  rcases S.par n (uv hy).1 with q | q
  .exact .inl q
  .exact .inr ⟨q,Mf _ _ _ (.inl q)⟩
 refine codeAny_call_function hr.depth (KX _ _ lk) rfl S.co S.gen rfl (PySem.W.codeRec_of KX cM) (hb _ _ _ _ ?_)
 refine wpAny_newFunctionEnv_cells S.kind yG λenv he s1 x=>?_
 subst he
 refine ⟨lim.keeps x.toInCall.keep,codeAny_func ?_⟩
 obtain ⟨t,ht,hq⟩:=dC A outer s H vs Q E (hr.deeper _) qW
 have I:Inv (lq CX P w K mg base N qual scope f cY A outer s H E) [] (start N vs) H s1:=b0o S hr.hd e0 hl r x
 refine je (ht [] s1 (start N vs) H _ I hq) (λfl s' hs=>?_) λe s' hs=>hs
 have fin:∀{aE:St} {H':Hp} {v:V} {u:Value},Inv (lq CX P w K mg base N qual scope f cY A outer s H E) [] aE H' s'->RelV v u->Q v H'->CE outer P w H s Q u s':=
  λ{aE H' v u} J rv q=>⟨v,H',J.os,J.bare,J.base,J.bb,rv,q⟩
 cases fl with
 | ret u =>
  obtain ⟨v,aE,H',J,rv,q⟩:=hs
  exact fin J rv q
 | next =>
  obtain ⟨aE,H',J,q⟩:=hs
  exact fin (v:=V.aS) (u:=fV) J rfl q
 | brk =>
  obtain ⟨_,_,_,q⟩:=hs
  exact gM q
 | cont =>
  obtain ⟨_,_,_,q⟩:=hs
  exact gM q
end L2
namespace L2
open PySem PySem.Spec PyProof.Rows
section
variable {X:Cx}{x:Str}{p pos:Pos}{e:Expr}{es:List Expr}{t:TA}{id T:String}{r:List V->Hp->VK->Prop}
def K1(r:List V->Hp->VK->Prop)(t:TA):TE:=λσ H Q=>t σ H λvs H1=>r vs H1 Q
theorem r8(hc:bH X (.builtin id) r)(hg:Gl X x)(hm:X.mg x=none)(hv:bootBuiltins x=some (.builtin id))(ha:PA X (e::es) t)(hn:x ≠ "__name__":=by decide)(jF:(x==("__debug__":Str))=false:=by decide)
  (he:starEach (e::es) X.env=(false,eval e X.env)::starEach es X.env:=by rfl)(dO:(backTo pos (starEach es X.env)).any (·.1)=false:=by rfl):PE X (.Call (.Name x p) (e::es) [] pos) (K1 r t):=by
 intro pins s σ H Q I h
 refine CJ (rR I hg hm hv ?_ hn jF)
 exact PyProof.Rows.callWith_builtin1 (bz (ha pos pins s σ H _ I h) λus s1 ⟨vs,H1,I1,r1,q1⟩=>hc pins s1 σ H1 vs us Q I1 r1 q1) he dO
theorem DG(hc:bH X (.type T) r)(hg:Gl X x)(hm:X.mg x=none)(hv:bootBuiltins x=some (.type T))(ha:PA X (e::es) t)(hn:x ≠ "__name__":=by decide)(jF:(x==("__debug__":Str))=false:=by decide)
  (he:starEach (e::es) X.env=(false,eval e X.env)::starEach es X.env:=by rfl)(dO:(backTo pos (starEach es X.env)).any (·.1)=false:=by rfl):PE X (.Call (.Name x p) (e::es) [] pos) (K1 r t):=by
 intro pins s σ H Q I h
 refine CJ (rR I hg hm hv ?_ hn jF)
 exact zS (bz (ha pos pins s σ H _ I h) λus s1 ⟨vs,H1,I1,r1,q1⟩=>hc pins s1 σ H1 vs us Q I1 r1 q1) he dO
end
end L2
namespace HT
open PySem PyProof.Rows
section
open PySem.SeqAt
open PySem.AutoSeq1 (wpAny_loadPart')
open PySem.MeetsSeq PySem.MeetsSeq2 PySem.MeetsSeq3
end
section
variable {prog:Program}{w:World}{A:Around}{E:Value->Shared->Prop}{s:Shared}
theorem qp(ht:IsTup s.heap t vs.toArray)(hb:IsTup s.heap b ws.toArray)(hv:vs≠[])
  (h1:ws=[]->Q (.ref t) s)(h2:ws≠[]->Q (.ref s.heap.objs.size) { s with heap:=s.heap.push { cls:=.type "tuple",data:=.seq (vs++ws).toArray } })
  (hsz:vs.length+ws.length<=sizeLine):wpAny (model prog w) A (binaryOp .Add (.ref t) (.ref b)) Q E s:=by
 obtain ⟨⟨cls,dd,data,sl⟩,ho,hc,n,hd⟩:=id ht
 obtain ⟨⟨Gz,BS,data2,xi⟩,tB,yQ,n2,hd2⟩:=id hb
 simp only at hc hd yQ hd2
 subst hc hd yQ hd2
 have e:vs.toArray++ws.toArray=(vs++ws).toArray:=by simp
 by_cases hw:ws=[]
 .exact concat_meets ⟨_,ho,rfl⟩ ⟨_,tB,rfl⟩ G2 GP Hj HI (Hz _ _)
   (tuple_addW1 t b vs.toArray ws.toArray n n2 dd BS sl xi (by simpa using hv) (by simp [hw])) ⟨ho,tB,h1 hw⟩
 .refine concat_meets ⟨_,ho,rfl⟩ ⟨_,tB,rfl⟩ G2 GP Hj HI (Hz _ _)
   (tuple_addW2 t b vs.toArray ws.toArray n n2 dd BS sl xi (by simpa using hv) (by simpa using hw) (by rw [cZ,cZ];exact hsz)) ⟨ho,tB,?_⟩
  rw [e]
  exact h2 hw
def aX(n d:Nat):Option Int->Nat
 | none=>d
 | some v=>if v<0 then (v+(n:Int)).toNat else min v.toNat n
theorem nP(n d:Nat):aX n d none=d:=rfl
theorem iK(n d k:Nat):aX n d (some (k:Int))=min k n:=by
 show (if (k:Int)<0 then ((k:Int)+(n:Int)).toNat else min (k:Int).toNat n)=min k n
 rw [if_neg (by ext),rG]
theorem Xy(n d:Nat)(hd:d<=n)(o:Option Int):aX n d o<=n:=by
 cases o with
 | none=>exact hd
 | some v =>
  show (if v<0 then (v+(n:Int)).toNat else min v.toNat n)<=n
  by_cases hv:v<0
  .rw [if_pos hv];ext hv
  .rw [if_neg hv];exact Nat.min_le_right _ _
theorem N6(v:Int)(n d:Nat):(if v<0 then max (v+(n:Int)) 0 else min v (n:Int))=((aX n d (some v):Nat):Int):=by
 show (if v<0 then max (v+(n:Int)) 0 else min v (n:Int))=(((if v<0 then (v+(n:Int)).toNat else min v.toNat n):Nat):Int)
 by_cases hv:v<0
 .simp only [if_pos hv];ext
 .simp only [if_neg hv];ext hv
theorem a9f(lo hi:Option Int)(n:Nat):HC lo hi 1 (n:Int)=(((aX n 0 lo:Nat):Int),((aX n n hi:Nat):Int)):=by
 have h1:¬((1:Int)<0):=by decide
 unfold HC
 simp only [h1,if_false]
 refine Prod.ext ?_ ?_
 .cases lo with
  | none=>rfl
  | some v=>exact N6 v n 0
 .cases hi with
  | none=>rfl
  | some v=>exact N6 v n n
theorem a8V(i j:Nat):CN (i:Int) (j:Int) 1=j-i:=by
 unfold CN
 have h1:(1:Int)>0:=by decide
 simp only [h1,if_true,Int.ediv_one]
 split<;>lia
theorem PH(p:IsPart v o)(h:Q o s):wpAny (model prog w) A (Builtin.Slice.slicePartIndex v) Q E s:=by
 cases p with
 | none=>exact slicePart_none h
 | int i t=>exact slicePart_int h
theorem cS{lo hi:Option Int}{n:Nat}(hs:s.heap.IsSliceOf sl vl vu .none)(pl:IsPart vl lo)(pu:IsPart vu hi)
  (h:Q (((aX n 0 lo:Nat):Int),1,aX n n hi-aX n 0 lo) s):wpAny (model prog w) A (MO (.ref sl) (pure (n:Int))) Q E s:=by
 obtain ⟨os,p9,vq,yM⟩:=id hs
 unfold MO Builtin.Slice.sliceFields
 refine ah (ah (lr p9 yM (x:=vl) rfl (ah (lr p9 yM (x:=vu) rfl (ah (lr p9 yM (x:=.none) rfl (aH ?_)))))))
 refine ah (slicePart_none ?_)
 show wpAny _ _ (if ((1:Int)==0)=true then _ else _) _ _ s
 rw [if_neg (by decide)]
 refine ah (PH pl (ah (PH pu (ah (aH ?_)))))
 show wpAny _ _ (match HC lo hi 1 (n:Int) with | (lo,hi)=>pure (lo,(1:Int),CN lo hi 1)) _ _ s
 rw [a9f lo hi n]
 show wpAny _ _ (pure (((aX n 0 lo:Nat):Int),(1:Int),CN ((aX n 0 lo:Nat):Int) ((aX n n hi:Nat):Int) 1)) _ _ s
 rw [a8V]
 exact aH h
theorem ZV(xs:Array Value)(i k:Nat):((jt k).filterMap λ(m:Nat)=>xs[((i:Int)+(m:Int)*1).toNat]?).toArray=((xs.toList.drop i).take k).toArray:=by
 have e:(λ(m:Nat)=>xs[((i:Int)+(m:Int)*1).toNat]?)=λm=>xs[i+m]?:=by
  funext m
  have:((i:Int)+(m:Int)*1).toNat=i+m:=by ext
  rw [this]
 rw [e]
 have:=pick_run xs i k
 rw [List.filterMap_map] at this
 have e2:((λx=>xs[x]?)∘λx=>i+x)=λm=>xs[i+m]?:=rfl
 rw [e2] at this
 rw [this]
theorem eL{items:Array Value}{lo hi:Option Int}(ht:IsTup s.heap t items)(hs:s.heap.IsSliceOf sl vl vu .none)(pl:IsPart vl lo)(pu:IsPart vu hi)
  (hw:¬(aX items.size 0 lo=0/\aX items.size items.size hi=items.size))
  (h:Q (.ref s.heap.objs.size) { s with heap:=s.heap.push { cls:=.type "tuple",data:=.seq ((items.toList.drop (aX items.size 0 lo)).take (aX items.size items.size hi-aX items.size 0 lo)).toArray } })
  (hsz:items.size<=sizeLine):wpAny (model prog w) A (getItem (.ref t) (.ref sl)) Q E s:=by
 have lX:sizeOk (.seq ((items.toList.drop (aX items.size 0 lo)).take (aX items.size items.size hi-aX items.size 0 lo)).toArray):=by
  show ((items.toList.drop (aX items.size 0 lo)).take (aX items.size items.size hi-aX items.size 0 lo)).toArray.size<=sizeLine
  rw [cZ,iE,l8,et]
  ext hsz
 have hj:aX items.size items.size hi<=items.size:=Xy _ _ (aV _) hi
 obtain ⟨os,p9,vq,yM⟩:=id hs
 have tN:s.TypeIs (.ref sl) "slice":=⟨os,p9,vq⟩
 unfold getItem
 try with_reducible refine lz ?_
 first | refine ah (aH ?_) | skip
 refine ah (wpAny_sequenceKey ht.typeIs (by decide) ?_)
 refine ah (qw (name:=Str.ofString "__getitem__") ht.typeIs uy
  (mO uy ht.typeIs entry_tuple_getitem ?_ (args_tuple_getitem _ _)))
 show wpAny _ _ (MN (.ref t) >>= _) _ _ s
 refine ah (tupleItemsOf_ ht ?_)
 refine ah (vz tN ?_)
 rw [if_pos (by decide)]
 refine ah (cS hs pl pu ?_)
 have UY:¬((((aX items.size 0 lo:Nat):Int)==0&&(1:Int)==1&&(aX items.size items.size hi-aX items.size 0 lo)==items.size)=true):=by
  intro q
  rw [qt,qt] at q
  have q1:((aX items.size 0 lo:Nat):Int)=0:=eq_of_beq q.1.1
  have q2:aX items.size items.size hi-aX items.size 0 lo=items.size:=eq_of_beq q.2
  exact hw ⟨by ext q1,by ext q1 q2⟩
 show wpAny _ _ (if (((aX items.size 0 lo:Nat):Int)==0&&(1:Int)==1&&(aX items.size items.size hi-aX items.size 0 lo)==items.size)=true then _ else _) _ _ s
 rw [if_neg UY,ZV]
 first
  | exact ah (m:=CP _) (nv (aH ⟨_,rfl,aH h⟩) lX)
  | exact ah (m:=CP _) (nv (ah (aH (aH ⟨_,rfl,aH h⟩))) lX)
  | exact ah (ah (m:=CP _) (nv (aH (aH ⟨_,rfl,aH h⟩)) lX))
  | exact ah (ah (m:=CP _) (nv (aH ⟨_,rfl,aH h⟩) lX))
end
end HT
namespace L2
open PySem PySem.Spec PyProof.Rows
abbrev TO:=St->Hp->(Option Int->Hp->Prop)->Prop
def PO(X:Cx)(e:Option Expr)(t:TO):Prop:=
 ∀(pins:List (Addr×Obj)) (s:Shared) (σ:St) (H:Hp) (Q:Option Int->Hp->Prop),Inv X pins σ H s->t σ H Q ->
  wpAny (model X.prog X.w) X.A (evalPart e X.env) (λu s'=>∃o H',Inv X pins σ H' s'/\IsPart u o/\Q o H') X.xe s
def YY:TO:=λ_ H Q=>Q none H
def wW(t:TE):TO:=λσ H Q=>t σ H λx H1=>∃i,x=.int i/\Q (some i) H1
section
variable {X:Cx}{e:Expr}{te:TE}{lo hi:Option Expr}{tl th:TO}{pos p2:Pos}
theorem Yr:PO X none YY:=by
 intro pins s σ H Q I h
 rw [evalPart_none]
 exact aH ⟨none,H,I,.none,h⟩
theorem Yt(h:PE X e te):PO X (some e) (wW te):=by
 intro pins s σ H Q I hw
 rw [evalPart_some]
 refine bz (h pins s σ H _ I hw) λu s1 ⟨x,H1,I1,r1,q1⟩=>?_
 obtain ⟨i,rfl,q⟩:=q1
 obtain ⟨t,rfl⟩:=r1
 exact ⟨some i,H1,I1,.int i t,q⟩
def sr(X:Cx)(r:V->Option Int->Option Int->Hp->VK->Prop):Prop:=
 ∀(pins:List (Addr×Obj)) (s:Shared) (σ:St) (H:Hp) (x:V) (v vl vu:Value) (lo hi:Option Int) (sl:Addr) (Q:VK),Inv X pins σ H s->RelV x v->s.heap.IsSliceOf sl vl vu .none->IsPart vl lo->IsPart vu hi->r x lo hi H Q ->
  ∃T id,typeLookup (.type T) "__getitem__" = pure (some (.builtin id))/\s.TypeIs v T/\wpAny (model X.prog X.w) X.A (getItem v (.ref sl)) (EP X pins σ Q) X.xe s
theorem sr.or(h:sr X r)(h':sr X r'):sr X (λx lo hi H Q=>r x lo hi H Q\/r' x lo hi H Q):=by
 intro pins s σ H x v vl vu lo hi sl Q I rx hs pl pu q
 rcases q with q | q
 .exact h pins s σ H x v vl vu lo hi sl Q I rx hs pl pu q
 .exact h' pins s σ H x v vl vu lo hi sl Q I rx hs pl pu q
def QH(r:V->Option Int->Option Int->Hp->VK->Prop)(te:TE)(tl th:TO):TE:=λσ H Q=>te σ H λx H1=>tl σ H1 λl H2=>th σ H2 λu H3=>r x l u H3 Q
theorem OM(hr:sr X r)(he:PE X e te)(hl:PO X lo tl)(hu:PO X hi th):PE X (.Subscript e (.Slice lo hi none p2) pos) (QH r te tl th):=by
 intro pins s σ H Q I h
 refine Subscript_ (bz (he pins s σ H _ I h) λv s1 ⟨x,H1,I1,r1,q1⟩=>?_)
 refine wpAny_Slice (bz (hl pins s1 σ H1 _ I1 q1) λvl s2 ⟨l,H2,I2,pl,q2⟩=>bz (hu pins s2 σ H2 _ I2 q2) λvu s3 ⟨u,H3,I3,pu,q3⟩=>?_)
 rw [evalPart_none]
 refine aH ?_
 have I4:Inv X pins σ H3 { s3 with heap:=s3.heap.push { cls:=.type "slice",data:=.fields #[vl,vu,.none] } }:=I3.kept (t':=s3.toks) λb ob q=>aZ _ q
 obtain ⟨T,id,hT,ht,hg⟩:=hr pins { s3 with heap:=s3.heap.push { cls:=.type "slice",data:=.fields #[vl,vu,.none] } } σ H3 x v vl vu l u s3.heap.objs.size Q I4 r1 (Heap.IsSliceOf.new ..) pl pu q3
 show wpAny (model X.prog X.w) X.A (subscriptTail e (.Slice lo hi none p2) v (.ref s3.heap.objs.size)) (EP X pins σ Q) X.xe { s3 with heap:=s3.heap.push { cls:=.type "slice",data:=.fields #[vl,vu,.none] } }
 exact tail_any (ops:=[.ref s3.heap.objs.size,v]) ht hT hg (by with_unfolding_all rfl)
def jJ(xs:List V)(lo hi:Option Int):List V:=(xs.drop (HT.aX xs.length 0 lo)).take (HT.aX xs.length xs.length hi-HT.aX xs.length 0 lo)
theorem Qf(xs:List V)(lo hi:Option Int):(jJ xs lo hi).length<=xs.length:=by
 unfold jJ
 rw [iE,l8]
 ext
def EG(K:aB):V->Option Int->Option Int->Hp->VK->Prop:=λx lo hi H Q=>∃a xs,x=.ref a/\dR K H a xs /\
 ¬(HT.aX xs.length 0 lo=0/\HT.aX xs.length xs.length hi=xs.length)/\∀p,H p=none->Q (.ref p) (upd H p (.tup (jJ xs lo hi)))
theorem NC:sr X (EG X.K):=by
 intro pins s σ H x v vl vu lo hi sl Q I rx hs pl pu h
 obtain ⟨a,xs,rfl,hx,hw,q⟩:=h
 cases rx
 obtain ⟨aq,r,ht,hz⟩:=I.tuple hx
 have hlen:aq.toArray.size=xs.length:=by rw [cZ];exact r.length.symm
 refine ⟨"tuple",_,uy.lookup,ht.typeIs,?_⟩
 refine HT.eL ht hs pl pu (by rw [hlen];exact hw) ?_ (by rw [hlen];exact hz)
 rw [hlen]
 refine ⟨.ref s.heap.objs.size,_,I.laid (t':=s.toks) (o:=.tup (jJ xs lo hi)) (λb ob q=>aZ _ q) (aV _) ?_,rfl,q _ (I.bb.fresh (aV _))⟩
 exact ⟨dE (Qf xs lo hi) hz,_,(r.drop (HT.aX xs.length 0 lo)).take (HT.aX xs.length xs.length hi-HT.aX xs.length 0 lo),IsTup.new _ _⟩
def xA(K:aB):R2:=λx y H Q=>∃a b xs ys,x=.ref a/\y=.ref b/\dR K H a xs/\dR K H b ys/\xs≠[]/\xs.length+ys.length<=sizeLine /\
 (ys=[]->Q (.ref a) H)/\(ys≠[]->∀p,H p=none->Q (.ref p) (upd H p (.tup (xs++ys))))
theorem au.dJ(r:au xs us):us=[]↔xs=[]:=by
 cases r with
 | nil=>simp
 | cons _ _=>simp
theorem pW:f' X (binaryOp .Add) (xA X.K):=by
 intro pins s σ H x y v u Q I rx ry h
 obtain ⟨a,b,xs,ys,rfl,rfl,ha,hb,hx,hz,q1,q2⟩:=h
 cases rx
 cases ry
 obtain ⟨aq,r1,p1,_⟩:=I.tuple ha
 obtain ⟨bW,r2,p2,_⟩:=I.tuple hb
 refine HT.qp p1 p2 (λz=>hx (r1.dJ.mp z)) (λz=>⟨.ref a,H,I,rfl,q1 (r2.dJ.mp z)⟩) (λz=>?_) (by rw [<-r1.length,<-r2.length];exact hz)
 refine ⟨.ref s.heap.objs.size,_,I.laid (t':=s.toks) (o:=.tup (xs++ys)) (λb ob q=>aZ _ q) (aV _) ?_,rfl,q2 (λw=>z (r2.dJ.mpr w)) _ (I.bb.fresh (aV _))⟩
 exact ⟨by rw [bQ];exact hz,_,r1.append r2,IsTup.new _ _⟩
end
end L2
namespace L2
open PySem PySem.Spec PyProof.Rows
def iQ(n:Nat)(i:Int):Option Nat:=if 0<=i then (if i<n then some i.toNat else none) else if -(n:Int)<=i then some (i+n).toNat else none
def dQ{α:Type}(xs:List α)(i:Int):Option α:=(iQ xs.length i).bind λj=>xs[j]?
theorem N2(h:iQ n i=some j):seqIndex? i n=some j/\j<n /\ -(n:Int)<=i/\i<n:=by
 unfold iQ at h
 by_cases h0:0<=i
 .rw [if_pos h0] at h
  by_cases h1:i<n
  .rw [if_pos h1] at h
   have e:i.toNat=j:=cF h
   exact ⟨by rw [seqIndex_of h0 h1,e],by ext h0 h1 e,by ext h0,h1⟩
  .rw [if_neg h1] at h;cases h
 .rw [if_neg h0] at h
  by_cases h1:-(n:Int)<=i
  .rw [if_pos h1] at h
   have e:(i+n).toNat=j:=cF h
   exact ⟨by rw [seqIndex_neg (by ext h0) h1,e],by ext h0 h1 e,h1,by ext h0⟩
  .rw [if_neg h1] at h;cases h
theorem IX{α:Type}{xs:List α}{i:Int}{v:α}(h:dQ xs i=some v):∃j,seqIndex? i xs.length=some j/\xs[j]?=some v/\j<xs.length /\ -(xs.length:Int)<=i/\i<xs.length:=by
 unfold dQ at h
 cases e:iQ xs.length i with
 | none=>rw [e] at h;cases h
 | some j =>
  rw [e] at h
  obtain ⟨h1,h2,h3,h4⟩:=N2 e
  exact ⟨j,h1,h,h2,h3,h4⟩
theorem cn{α:Type}{xs:List α}{j:Nat}{v:α}(h:xs[j]?=some v):dQ xs (j:Int)=some v:=by
 have hj:j<xs.length:=(kr.mp h).1
 have e:iQ xs.length (j:Int)=some j:=by
  unfold iQ
  rw [if_pos (by ext),if_pos (by ext hj)];simp
 unfold dQ;rw [e];exact h
theorem fg{α:Type}(xs:List α)(v:α):dQ (xs++[v]) (-1)=some v:=by
 have hl:(xs++[v]).length=xs.length+1:=by simp
 have e:iQ (xs++[v]).length (-1)=some xs.length:=by
  unfold iQ
  rw [hl,if_neg (by decide),if_pos (by ext)]
  congr 1
  ext
 unfold dQ
 rw [e]
 show (xs++[v])[xs.length]?=some v
 simp
def NV(b:Expr):Prop:=∀o i,subscripted b false o i=operate [o,i] (getItem o i)
def qI(X:Cx)(r:R2):Prop:=
 ∀(value slice:Expr) (pins:List (Addr×Obj)) (s:Shared) (σ:St) (H:Hp) (x y:V) (v u:Value) (Q:VK),Inv X pins σ H s->RelV x v->RelV y u->r x y H Q ->
  subscripted slice false v u=operate [v,u] (getItem v u)->wpAny (model X.prog X.w) X.A (subscriptTail value slice v u) (EP X pins σ Q) X.xe s
def wI(X:Cx)(id:String)(r:V->List V->Hp->VK->Prop):Prop:=
 ∀(pins:List (Addr×Obj)) (s:Shared) (σ:St) (H:Hp) (x:V) (xs:List V) (v:Value) (us:List Value) (Q:VK),Inv X pins σ H s->RelV x v->au xs us->r x xs H Q ->
  wpAny (model X.prog X.w) X.A (call (.builtin id) (v::us)) (EP X pins σ Q) X.xe s
section
variable {X:Cx}{a b:Expr}{ta tb:TE}{pos:Pos}
theorem qI.or(h:qI X r)(h':qI X r'):qI X (λx y H Q=>r x y H Q\/r' x y H Q):=by
 intro value slice pins s σ H x y v u Q I rx ry q hs
 rcases q with q | q
 .exact h value slice pins s σ H x y v u Q I rx ry q hs
 .exact h' value slice pins s σ H x y v u Q I rx ry q hs
theorem wI.or{id:String}{r r':V->List V->Hp->VK->Prop}(h:wI X id r)(h':wI X id r'):wI X id (λx xs H Q=>r x xs H Q\/r' x xs H Q):=by
 intro pins s σ H x xs v us Q I rx rs q
 rcases q with q | q
 .exact h pins s σ H x xs v us Q I rx rs q
 .exact h' pins s σ H x xs v us Q I rx rs q
theorem xH(hr:qI X r)(ha:PE X a ta)(hb:PE X b tb)(hs:NV b):PE X (.Subscript a b pos) (wX r ta tb):=by
 intro pins s σ H Q I h
 exact Subscript_ (ue ha hb I h λv u s2 x y H2 I2 rx ry q=>hr a b pins s2 σ H2 x y v u Q I2 rx ry q (hs _ _))
def xy(K:aB):R2:=λx y H Q=>∃p xs i v,x=.ref p/\y=.int i/\dH K H p xs/\dQ xs i=some v/\Q v H
def xw(K:aB):R2:=λx y H Q=>∃p xs i v,x=.ref p/\y=.int i/\dR K H p xs/\dQ xs i=some v/\Q v H
def xx:R2:=λx y H Q=>∃z i c,x=.str z/\y=.int i/\z.length<=sizeLine/\dQ z.cps.toList i=some c/\Q (.str ⟨#[c]⟩) H
theorem p7:qI X (xy X.K):=by
 intro value slice pins s σ H x y v u Q I rx ry h hs
 obtain ⟨p,xs,i,z,rfl,rfl,hq,he,q⟩:=h
 cases rx
 obtain ⟨t,rfl⟩:=ry
 obtain ⟨aq,r,pl,hz⟩:=I.list hq
 obtain ⟨j,h1,h2,h3,h4,h5⟩:=IX he
 obtain ⟨w,ew,xo⟩:=r.get h2
 have hl:=r.length
 have hn:=wa
 have fin:EP X pins σ Q w s:=⟨z,H,I,xo,q⟩
 by_cases h0:0<=i
 .have hj:i.toNat=j:=by
   rw [seqIndex_of h0 h5] at h1
   exact cF h1
  exact item_listR pl.isList h0 (by ext hz h5 hn) (by rw [hj];simpa using ew) fin hs
 .have hj:(i+(aq.toArray.size:Int)).toNat=j:=by
   rw [seqIndex_neg (BX.mp ‹_›) h4] at h1
   rw [cZ,<-hl]
   exact cF h1
  exact subscriptTail_builtinR (x:=w) pl.isList.typeIs slot_list_getitem.lookup
   (wpAny_getItem_list_neg (Q:=λr s'=>r=w/\EP X pins σ Q r s') pl.isList (BX.mp ‹_›) (by rw [cZ]<;>lia) (by lia) (by rw [hj];simpa using ew) ⟨rfl,fin⟩) hs
theorem sY:qI X (xw X.K):=by
 intro value slice pins s σ H x y v u Q I rx ry h hs
 obtain ⟨p,xs,i,z,rfl,rfl,hq,he,q⟩:=h
 cases rx
 obtain ⟨t,rfl⟩:=ry
 obtain ⟨aq,r,pl,hz⟩:=I.tuple hq
 obtain ⟨j,h1,h2,h3,h4,h5⟩:=IX he
 obtain ⟨w,ew,xo⟩:=r.get h2
 have hl:=r.length
 have hn:=wa
 have fin:EP X pins σ Q w s:=⟨z,H,I,xo,q⟩
 exact subscriptTail_builtinR (x:=w) pl.typeIs uy.lookup
  (getItem_tuple (j:=j) (Q:=λr s'=>r=w/\EP X pins σ Q r s') pl (by (clear he hs h1 h2 h5 ew;omega)) (by (clear he hs h1 h2 h4 ew;omega)) (by rw [cZ,<-hl];exact h1) (by simpa using ew) ⟨rfl,fin⟩) hs
theorem XI:qI X xx:=by
 intro value slice pins s σ H x y v u Q I rx ry h hs
 obtain ⟨z,i,c,rfl,rfl,hz,he,q⟩:=h
 obtain ⟨t,rfl⟩:=rx
 obtain ⟨t',rfl⟩:=ry
 obtain ⟨j,h1,h2,h3,h4,h5⟩:=IX he
 have hl:z.cps.toList.length=z.length:=by simp [Str.length]
 rw [hl] at h1 h4 h5
 have hn:=wa
 exact tail_any (typeIs_str s z t) slot_str_getitem.lookup (getItem_str (c:=c) (by
  have e1:decide (i < -(2^63:Int))=false:=decide_eq_false (by lia)
  have e2:decide (i≥2^63)=false:=decide_eq_false (by lia)
  rw [e1,e2,Bool.or_false]) (by rw [h1];simpa using h2) ⟨.str ⟨#[c]⟩,H,I.tok _,⟨_,rfl⟩,q⟩) hs
def Rt(K:aB):R2:=λx y H Q=>xy K x y H Q\/xw K x y H Q\/xx x y H Q
theorem XH:qI X (Rt X.K):=p7.or (sY.or XI)
theorem a84(aq:List Value)(n j:Nat)(u:Value):cW (·.setIfInBounds j u) { cls:=.type "list",data:=.seq aq.toArray n }={ cls:=.type "list",data:=.seq (aq.set j u).toArray n }:=by
 simp [cW]
theorem Inv.lst{pins:List (Addr×Obj)}{σ:St}{H:Hp}{s:Shared}{p:Addr}{xs:List V}(I:Inv X pins σ H s)(h:H p=some (.lst xs)):
  ∃(aq:List Value) (n:Nat),au xs aq/\s.heap.get? p=some { cls:=.type "list",data:=.seq aq.toArray n }/\xs.length<=sizeLine:=by
 obtain ⟨z,aq,n,r,e⟩:=I.bb p _ h
 exact ⟨aq,n,r,e,z⟩
theorem Inv.sV{pins:List (Addr×Obj)}{σ:St}{H:Hp}{s:Shared}{p:Addr}{xs ys:List V}{aq its':List Value}{n n':Nat}{f:Obj->Obj}(I:Inv X pins σ H s)(h:H p=some (.lst xs))
  (ho:s.heap.get? p=some { cls:=.type "list",data:=.seq aq.toArray n })(hf:f { cls:=.type "list",data:=.seq aq.toArray n }={ cls:=.type "list",data:=.seq its'.toArray n' })(r:au ys its')(hz:ys.length<=sizeLine)(t:Nat):
  Inv X pins σ (upd H p (.lst ys)) { s with heap:=s.heap.update p f,toks:=t }:=by
 have e:(s.heap.update p f).get? p=some { cls:=.type "list",data:=.seq its'.toArray n' }:=by
  rw [zZ f ho (by rw [hf]<;>rfl),hf]
 refine I.write (x:=p) (e:=p) (by rw [h];trivial) (.inl rfl) (λb u hb q=>(ui _ _ (gJ hb)).trans q) ⟨_,e⟩ ?_
 exact ⟨hz,its',n',r,e⟩
def xu:V->V->V->Hp->(Hp->Prop)->Prop:=λo i v H Q=>∃p xs k j,o=.ref p/\i=.int k/\H p=some (.lst xs)/\iQ xs.length k=some j/\Q (upd H p (.lst (xs.set j v)))
theorem Zz:Bh X xu:=by
 intro pins s σ H o i v ov iv u Q I ro ri rv h
 obtain ⟨p,xs,k,j,rfl,rfl,hp,hj,q⟩:=h
 cases ro
 obtain ⟨t,rfl⟩:=ri
 obtain ⟨aq,n,r,ho,hz⟩:=I.lst hp
 obtain ⟨h1,h2,h3,h4⟩:=N2 hj
 have hl:=r.length
 have hn:=wa
 have I':Inv X pins σ (upd H p (.lst (xs.set j v))) { s with heap:=s.heap.update p (cW (·.setIfInBounds j u)) }:=
  I.sV hp ho (a84 aq n j u) (r.set rv j) (by rw [GU];exact hz) s.toks
 by_cases h0:0<=k
 .have hk:k.toNat=j:=by
   rw [seqIndex_of h0 h4] at h1
   exact cF h1
  exact PySem.W.ki_setAt ho h0 (by lia) (by rw [cZ,<-hl];exact h4) (by rw [hk];exact ⟨_,I',q⟩)
 .have hk:(k+(aq.toArray.size:Int)).toNat=j:=by
   rw [seqIndex_neg (BX.mp ‹_›) h3] at h1
   rw [cZ,<-hl]
   exact cF h1
  exact PySem.W.ki_setBack ho (BX.mp ‹_›) (by rw [cZ,<-hl];exact h3) (by lia) (by rw [hk];exact ⟨_,I',q⟩)
theorem a6B(lo hi:Option Int)(n:Nat):(sliceBounds lo hi none n).1=((HT.aX n 0 lo:Nat):Int)/\(sliceBounds lo hi none n).2.1=((HT.aX n n hi:Nat):Int)/\(sliceBounds lo hi none n).2.2=1:=by
 refine ⟨?_,?_,rfl⟩
 .cases lo with
  | none=>simp [sliceBounds,HT.aX]
  | some i =>
   simp only [sliceBounds,HT.aX,G1,show (1:Int)>0 by decide,if_true]
   by_cases h:i<0
   .simp only [h,if_true]<;>lia
   .simp only [h,if_false]<;>lia
 .cases hi with
  | none=>simp [sliceBounds,HT.aX]
  | some i =>
   simp only [sliceBounds,HT.aX,G1,show (1:Int)>0 by decide,if_true]
   by_cases h:i<0
   .simp only [h,if_true]<;>omega
   .simp only [h,if_false]<;>omega
theorem a5P(aq:List Value)(lo hi:Option Int):slicePick aq.toArray lo hi none=((aq.drop (HT.aX aq.length 0 lo)).take (HT.aX aq.length aq.length hi-HT.aX aq.length 0 lo)).toArray:=by
 obtain ⟨h1,h2,h3⟩:=a6B lo hi aq.toArray.size
 unfold slicePick
 rw [h1,h2,h3]
 simp only [sliceRange_one,pick_run,cZ]<;>rfl
def EH(K:aB):V->Option Int->Option Int->Hp->VK->Prop:=λx lo hi H Q=>∃a xs,x=.ref a/\dH K H a xs/\∀p,H p=none->Q (.ref p) (upd H p (.lst (jJ xs lo hi)))
theorem pT:sr X (EH X.K):=by
 intro pins s σ H x v vl vu lo hi sl Q I rx hs pl pu h
 obtain ⟨a,xs,rfl,hx,q⟩:=h
 cases rx
 obtain ⟨aq,r,ht,hz⟩:=I.list hx
 have hlen:=r.length
 refine ⟨"list",_,slot_list_getitem.lookup,ht.isList.typeIs,?_⟩
 refine wpAny_getItem_list_slice ht.isList hs pl pu .none (by simp) ?_ (by rw [cZ]<;>lia)
 rw [a5P,<-hlen]
 refine ⟨.ref s.heap.objs.size,_,I.laid (t':=s.toks) (o:=.lst (jJ xs lo hi)) (λb ob q=>aZ _ q) (aV _) ?_,rfl,q _ (I.bb.fresh (aV _))⟩
 exact ⟨dE (Qf xs lo hi) hz,_,0,(r.drop (HT.aX xs.length 0 lo)).take (HT.aX xs.length xs.length hi-HT.aX xs.length 0 lo),c9 _ rfl⟩
theorem a7h:bH X (.builtin "len") (λxs H Q=>∃p ys,xs=[.ref p]/\(dH X.K H p ys\/dR X.K H p ys)/\Q (.int ys.length) H):=by
 intro pins s σ H xs us Q I r h
 obtain ⟨p,ys,rfl,hq,q⟩:=h
 obtain ⟨u,rfl,rx⟩:=vals1 r
 cases rx
 have hn:=wa
 rcases hq with hq | hq
 .obtain ⟨aq,r',pl,hz⟩:=I.list hq
  have hlen:=r'.length
  exact Calls.call_len_list pl.isList (by simp only [cZ]<;>lia) ⟨.int ys.length,H,I.tok _,⟨s.toks+1,by rw [cZ,hlen]⟩,q⟩
 .obtain ⟨aq,r',pl,hz⟩:=I.tuple hq
  have hlen:=r'.length
  exact len_tuple pl (by simp only [cZ]<;>omega) ⟨.int ys.length,H,I.tok _,⟨s.toks+1,by rw [cZ,hlen]⟩,q⟩
theorem bH.or(h:bH X f r)(h':bH X f r'):bH X f (λxs H Q=>r xs H Q\/r' xs H Q):=by
 intro pins s σ H xs us Q I rs q
 rcases q with q | q
 .exact h pins s σ H xs us Q I rs q
 .exact h' pins s σ H xs us Q I rs q
theorem a7g:bH X (.type "list") (λxs H Q=>∃p ys,xs=[.ref p]/\(dH X.K H p ys\/dR X.K H p ys)/\∀l,H l=none->Q (.ref l) (upd H l (.lst ys))):=by
 intro pins s σ H xs us Q I r h
 obtain ⟨p,ys,rfl,hq,q⟩:=h
 obtain ⟨u,rfl,rx⟩:=vals1 r
 cases rx
 have fin:∀(aq:List Value),au ys aq->ys.length<=sizeLine->∀(h':Heap) (c':Nat),(∀b o',s.heap.get? b=some o'->h'.get? b=some o') ->
   h'.get? s.heap.objs.size=some { cls:=.type "list",dict:=none,data:=.seq aq.toArray c',slots:=#[] }->EP X pins σ Q (.ref s.heap.objs.size) { s with heap:=h' }:=λaq r' hz h' c' kp e =>
  ⟨.ref s.heap.objs.size,_,I.laid (t':=s.toks) kp (aV _) (show bZ X.prog X.w _ h' _ (.lst ys) from ⟨hz,aq,c',r',e⟩),rfl,q _ (I.bb.fresh (aV _))⟩
 rcases hq with hq | hq
 .obtain ⟨aq,r',pl,hz⟩:=I.list hq
  have hlen:=r'.length
  obtain ⟨o,ho,hc,n,hd⟩:=pl.isList
  exact call_list_seq p (.inl rfl) ho hc hd (λh' c' kp e=>fin aq r' hz h' c' kp e) (by simp only [cZ]<;>omega)
 .obtain ⟨aq,r',pl,hz⟩:=I.tuple hq
  have hlen:=r'.length
  obtain ⟨o,ho,hc,n,hd⟩:=pl
  exact call_list_seq p (.inr rfl) ho hc hd (λh' c' kp e=>fin aq r' hz h' c' kp e) (by simp only [cZ]<;>omega)
theorem a6j:bH X (.type "tuple") (λxs H Q=>∃p ys,xs=[.ref p]/\((dH X.K H p ys/\∀l,H l=none->Q (.ref l) (upd H l (.tup ys)))\/(dR X.K H p ys/\Q (.ref p) H))):=by
 intro pins s σ H xs us Q I r h
 obtain ⟨p,ys,rfl,h⟩:=h
 obtain ⟨u,rfl,rx⟩:=vals1 r
 cases rx
 rcases h with ⟨hq,q⟩ | ⟨hq,q⟩
 .obtain ⟨aq,r',pl,hz⟩:=I.list hq
  have hlen:=r'.length
  refine call_tuple_list pl.isList (λh' kp=>?_) (by simp only [cZ]<;>omega)
  have I1:Inv X pins σ H { s with heap:=h' }:=I.kept (t':=s.toks) kp
  have I2:Inv X pins σ (upd H h'.objs.size (.tup ys)) { s with heap:=h'.push { cls:=.type "tuple",data:=.seq aq.toArray } }:=
   I1.laid (t':=s.toks) (λb o e=>aZ _ e) (aV _) (show bZ X.prog X.w _ _ _ (.tup ys) from ⟨hz,aq,r',IsTup.new _ _⟩)
  exact ⟨.ref h'.objs.size,_,I2,rfl,q _ (I1.bb.fresh (aV _))⟩
 .obtain ⟨aq,r',pl,hz⟩:=I.tuple hq
  exact call_tuple_same pl ⟨.ref p,H,I,rfl,q⟩
def Eb(K:aB)(T:String)(x:V)(H:Hp):Prop:=match x with
 | .str _=>T = "str"
 | .int _=>T = "int"
 | .ref p=>(T = "list" /\ ∃xs,dH K H p xs)\/(T = "tuple" /\ ∃o,K.lookup p=some o/\o.cls=.type "tuple" /\ o.dict=none) \/
   (T = "dict" /\ ((∃br,H p=some (.dK br))\/∃br,H p=some (.dT br)))\/(T = "set" /\ ∃S n,H p=some (.set S n))
 | _=>False
theorem NI{pins:List (Addr×Obj)}{σ:St}{H:Hp}{s:Shared}{T:String}{x:V}{v:Value}(I:Inv X pins σ H s)(r:RelV x v)(ty:Eb X.K T x H):
  s.TypeIs v T/\∀a,v=.ref a->∃ob,s.heap.get? a=some ob/\ob.dict=none:=by
 cases x with
 | str z =>
  obtain ⟨t,rfl⟩:=r
  cases (show T = "str" from ty)
  exact ⟨typeIs_str s z t,λ_ e=>nomatch e⟩
 | int i =>
  obtain ⟨t,rfl⟩:=r
  cases (show T = "int" from ty)
  exact ⟨typeIs_int s i t,λ_ e=>nomatch e⟩
 | ref p =>
  cases r
  rcases ty with ⟨rfl,xs,hq⟩ | ⟨rfl,o,hk,hc,hd⟩ | ⟨rfl,hk⟩ | ⟨rfl,S,n,hk⟩
  .obtain ⟨aq,_,pl,_⟩:=I.list hq
   refine ⟨pl.isList.typeIs,λa e=>?_⟩
   cases e
   obtain ⟨o,n,e,c,hd,_⟩:=pl
   exact ⟨o,e,hd⟩
  .refine ⟨⟨o,I.sX p o hk,hc⟩,λa e=>?_⟩
   cases e
   exact ⟨o,I.sX _ o hk,hd⟩
  .have z:∃o,s.heap.get? p=some o/\o.ExactDict:=by
    rcases hk with ⟨br,hk⟩ | ⟨br,hk⟩
    .obtain ⟨_,_,_,_,o,_,_,e,ex,_⟩:=I.bb p _ hk
     exact ⟨o,e,ex⟩
    .obtain ⟨_,_,_,_,o,_,_,e,ex,_⟩:=I.bb p _ hk
     exact ⟨o,e,ex⟩
   obtain ⟨o,e,ex⟩:=z
   refine ⟨⟨o,e,ex.1⟩,λa e2=>?_⟩
   cases e2
   exact ⟨o,e,ex.2.1⟩
  .obtain ⟨o,_,_,_,e,ex,_⟩:=I.bb p _ hk
   refine ⟨⟨o,e,ex.1⟩,λa e2=>?_⟩
   cases e2
   exact ⟨o,e,ex.2.1⟩
 | _=>exact gM ty
def Eo(K:aB)(T:String)(r:V->List V->Hp->VK->Prop)(to:TE):TE:=λσ H Q=>to σ H λx H1=>Eb K T x H1/\r x [] H1 Q
def QK(K:aB)(T:String)(r:V->List V->Hp->VK->Prop)(to:TE)(t:TA):TE:=λσ H Q=>to σ H λx H1=>Eb K T x H1/\t σ H1 λxs H2=>r x xs H2 Q
variable {o e:Expr}{es:List Expr}{to:TE}{t:TA}{name:Str}{apos aR:Pos}{T id:String}{r:V->List V->Hp->VK->Prop}
theorem Xi(pa:PlainAttrs T)(slot:Slot T name id)(tf:typeOf (.builtin id)=pure (.type "method_descriptor"))(hm:wI X id r)(ho:PE X o to)
  (bP:attributeBase o name X.env (eval o X.env)=eval o X.env:=by rfl)(bO:(apos.endLine==aR.line)=true:=by rfl):PE X (.Call (.Attribute o name apos) [] [] aR) (Eo X.K T r to):=by
 intro pins s σ H Q I h
 refine wpAny_Call_method0_late bP bO (bz (ho pins s σ H _ I h) λv s1 ⟨x,H1,I1,r1,ty,q1⟩=>?_)
 obtain ⟨h1,h2⟩:=NI I1 r1 ty
 exact ⟨T,id,pa,slot,tf,h1,h2,Me rfl (PySem.evalArgs_none (hm pins s1 σ H1 x [] v [] Q I1 r1 .nil q1))⟩
theorem M0(pa:PlainAttrs T)(slot:Slot T name id)(tf:typeOf (.builtin id)=pure (.type "method_descriptor"))(hm:wI X id r)(ho:PE X o to)(ha:PA X (e::es) t)
  (bP:attributeBase o name X.env (eval o X.env)=eval o X.env:=by rfl)
  (gr:((backTo aR (starEach (e::es) X.env)).all (λx=>!x.1)&&(backToKw aR (keywordEach [] X.env)).all (λx=>x.1.isSome)
   && decide ((e::es).length+([]:List Keyword).length+(if ([]:List Keyword).isEmpty then 0 else 1)<30))=true:=by rfl)
  (bO:(apos.endLine==aR.line)=true:=by rfl)(hs:starEach (e::es) X.env=(false,eval e X.env)::starEach es X.env:=by rfl)(tw:(backTo aR (starEach es X.env)).any (·.1)=false:=by rfl):
  PE X (.Call (.Attribute o name apos) (e::es) [] aR) (QK X.K T r to t):=by
 intro pins s σ H Q I h
 refine wpAny_Call_method_late bP gr bO rfl (bz (ho pins s σ H _ I h) λv s1 ⟨x,H1,I1,r1,ty,q1⟩=>?_)
 obtain ⟨h1,h2⟩:=NI I1 r1 ty
 refine ⟨T,id,pa,slot,tf,h1,h2,?_⟩
 have hA:=ha aR pins s1 σ H1 _ I1 q1
 rw [hs] at hA ⊢
 refine Me (by show (false||(backTo aR (starEach es X.env)).any (·.1))=false;rw [tw]<;>rfl) (Calls.evalArgs_plain ?_)
 exact bz hA λus s2 ⟨vs,H2,I2,r2,q2⟩=>hm pins s2 σ H2 x vs v us Q I2 r1 r2 q2
end
end L2
namespace L2
open PySem PySem.Spec PyProof.Rows
def KO(X:Cx)(id:String)(r:V->List V->Hp->VK->Prop):Prop:=
 ∀(pins:List (Addr×Obj)) (s:Shared) (σ:St) (H:Hp) (x:V) (xs:List V) (v:Value) (us:List Value) (Q:VK),Inv X pins σ H s->RelV x v->au xs us->r x xs H Q ->
  wpAny (model X.prog X.w) X.A (call (.builtin id) (v::us)) (EP X pins σ Q) X.xe s
theorem au.one:∀{x:V} {us:List Value},au [x] us->∃u,us=[u]/\RelV x u
 | _,_,.cons r .nil=>⟨_,rfl,r⟩
theorem au.two:∀{x y:V} {us:List Value},au [x,y] us->∃u v,us=[u,v]/\RelV x u/\RelV y v
 | _,_,_,.cons r (.cons q .nil)=>⟨_,_,rfl,r,q⟩
theorem au.zero:∀{us:List Value},au [] us->us=[]
 | _,.nil=>rfl
theorem au.dropLast(h:au xs us):au xs.dropLast us.dropLast:=by
 induction h with
 | nil=>exact .nil
 | cons r t ih =>
  cases t with
  | nil=>exact .nil
  | cons q t'=>exact .cons r ih
theorem au.eraseIdx:∀{xs:List V} {us:List Value} (i:Nat),au xs us->au (xs.eraseIdx i) (us.eraseIdx i)
 | _,_,_,.nil=>.nil
 | _,_,0,.cons _ t=>t
 | _,_,i+1,.cons r t=>.cons r (au.eraseIdx i t)
theorem au.reverse(h:au xs us):au xs.reverse us.reverse:=by
 induction h with
 | nil=>exact .nil
 | cons r t ih=>rw [List.reverse_cons,List.reverse_cons];exact au.append ih (.cons r .nil)
theorem a9c{α:Type}(l:List α):l.eraseIdx (l.length-1)=l.dropLast:=by
 induction l with
 | nil=>rfl
 | cons a r ih =>
  cases r with
  | nil=>rfl
  | cons b r =>
   have e:(a::b::r).length-1=((b::r).length-1)+1:=by
    have h1:(a::b::r).length=r.length+2:=rfl
    have h2:(b::r).length=r.length+1:=rfl
    assumption
   rw [e,List.eraseIdx_cons_succ,ih]
   all_goals rfl
section
variable {X:Cx}{pins:List (Addr×Obj)}{σ:St}{H:Hp}{s:Shared}{l b:Addr}{xs ys zs:List V}
theorem Inv.sW{aq its':List Value}{n:Nat}{t':Nat}(I:Inv X pins σ H s)(hH:H l=some (.lst xs))
  (e:s.heap.get? l=some { cls:=.type "list",data:=.seq aq.toArray n })(hf:f aq.toArray=its'.toArray)(hv:au ys its')(hz:ys.length<=sizeLine):
  Inv X pins σ (upd H l (.lst ys)) { s with heap:=s.heap.update l (cW f),toks:=t' }:=by
 have q:=PySem.IsL.update e f
 rw [hf] at q
 refine I.write (x:=l) (e:=l) (by rw [hH];exact trivial) (.inl rfl) (λb' u hb hu=>(ui s.heap (cW f) (gJ hb)).trans hu) ⟨_,q⟩ ?_
 exact ⟨hz,its',_,hv,q⟩
theorem Inv.EX(I:Inv X pins σ H s)(hv:au ys aq)(hz:ys.length<=sizeLine):
  Inv X pins σ (upd H s.heap.objs.size (.lst ys)) { s with heap:=s.heap.push { cls:=.type "list",data:=.seq aq.toArray },toks:=t' }:=
 I.laid (λ_ _ q=>aZ _ q) (aV _) ⟨hz,aq,0,hv,c9 _ rfl⟩
theorem Inv.fresh(I:Inv X pins σ H s):H s.heap.objs.size=none:=I.bb.fresh (aV _)
theorem Inv.mw(I:Inv X pins σ H s)(hH:H l=some (.lst xs)):xs.length<=sizeLine/\∃(aq:List Value) (n:Nat),au xs aq/\xs.length=aq.length/\s.heap.get? l=some { cls:=.type "list",data:=.seq aq.toArray n }:=by
 obtain ⟨z,aq,n,r,e⟩:=I.bb l _ hH
 exact ⟨z,aq,n,r,r.length,e⟩
theorem ZN(h:n<=sizeLine):Hy n=false:=by
 unfold Hy
 exact decide_eq_false (Nat.not_lt.mpr ‹_›)
end
section
variable {X:Cx}
def Y6:V->List V->Hp->VK->Prop:=λx vs H Q=>∃l xs y,x=.ref l/\vs=[y]/\H l=some (.lst xs)/\xs.length<sizeLine/\Q .aS (upd H l (.lst (xs++[y])))
theorem a93:KO X "list.append" Y6:=by
 intro pins s σ H x vs v us Q I rx rv h
 obtain ⟨l,xs,y,rfl,rfl,hH,hz,q⟩:=h
 cases rx
 obtain ⟨u,rfl,ru⟩:=rv.one
 obtain ⟨z,aq,n,r,hl,e⟩:=I.mw hH
 refine call_meets Mc ⟨_,e,rfl⟩ F.entry_list_append (F.args_list_append_2 _ _) (PySem.list_append l aq.toArray n u (by rw [cZ];lia)) ⟨e,?_⟩
 refine ⟨.aS,_,I.sW (its':=aq++[u]) hH e (by simp) (r.append (.cons ru .nil)) ?_,rfl,q⟩
 rw [bQ,Hi]
 assumption
def Y7:V->List V->Hp->VK->Prop:=λx vs H Q=>∃l b xs zs,x=.ref l/\vs=[.ref b]/\H l=some (.lst xs)/\H b=some (.lst zs)/\xs.length+zs.length<=sizeLine/\Q .aS (upd H l (.lst (xs++zs)))
theorem a92:KO X "list.extend" Y7:=by
 intro pins s σ H x vs v us Q I rx rv h
 obtain ⟨l,b,xs,zs,rfl,rfl,hH,hB,hz,q⟩:=h
 cases rx
 obtain ⟨u,rfl,ru⟩:=rv.one
 cases ru
 obtain ⟨z,aq,n,r,hl,e⟩:=I.mw hH
 obtain ⟨z2,bW,n2,r2,gq,e2⟩:=I.mw hB
 have hsz:aq.toArray.size+bW.toArray.size<=sizeLine:=by rw [cZ,cZ];lia
 have yE:¬(!aq.toArray.isEmpty&&Hy (aq.toArray.size+bW.toArray.size))=true:=by
  rw [ZN hsz,Bool.and_false]
  exact lx
 refine call_meets Mw ⟨_,e,rfl⟩ F.entry_list_extend (F.args_list_extend_2 _ _)
  (AutoSeq1.list_extend_list_list_0 l aq.toArray n b bW.toArray n2 yE (by rw [cZ];exact Qz ‹_›) (dE ‹_› (by decide))) ⟨e,e2,?_⟩
 refine ⟨.aS,_,I.sW (its':=aq++bW) hH e (by simp) (r.append r2) ?_,rfl,q⟩
 rw [bQ]
 assumption
def EJ:V->List V->Hp->VK->Prop:=λx vs H Q=>∃l xs y,x=.ref l/\vs=[]/\H l=some (.lst xs)/\xs[xs.length-1]?=some y/\Q y (upd H l (.lst xs.dropLast))
theorem XT:KO X "list.pop" EJ:=by
 intro pins s σ H x vs v us Q I rx rv h
 obtain ⟨l,xs,y,rfl,rfl,hH,hy,q⟩:=h
 cases rx
 have UK:=rv.zero
 subst UK
 obtain ⟨z,aq,n,r,hl,e⟩:=I.mw hH
 obtain ⟨u,hu,ru⟩:=r.get hy
 have sZ:aq.toArray[aq.toArray.size-1]?=some u:=by
  show aq.toArray[aq.length-1]?=some u
  rw [<-pj,<-hl]
  exact hu
 refine call_meets L9 ⟨_,e,rfl⟩ F.entry_list_pop (F.args_list_pop_1 _) (MeetsSeq.list_pop_last l aq.toArray n u sZ (by rw [cZ];lia)) ⟨e,?_⟩
 refine ⟨y,_,I.sW (its':=aq.dropLast) hH e ?_ r.dropLast ?_,ru,q⟩
 .show aq.toArray.eraseIdxIfInBounds (aq.toArray.size-1)=aq.dropLast.toArray
  rw [cZ,List.eraseIdxIfInBounds_toArray,a9c]
 .rw [List.length_dropLast]
  exact Qy ‹_›
def EK:R2:=λx y H Q=>∃l b xs zs,x=.ref l/\y=.ref b/\H l=some (.lst xs)/\H b=some (.lst zs)/\xs.length+zs.length<=sizeLine/\∀p,H p=none->Q (.ref p) (upd H p (.lst (xs++zs)))
theorem sL:f' X (binaryOp .Add) EK:=by
 intro pins s σ H x y v u Q I rx ry h
 obtain ⟨l,b,xs,zs,rfl,rfl,hH,hB,hz,q⟩:=h
 cases rx
 cases ry
 obtain ⟨z,aq,n,r,hl,e⟩:=I.mw hH
 obtain ⟨z2,bW,n2,r2,gq,e2⟩:=I.mw hB
 refine PySem.P.add_list e e2 ?_ (by rw [cZ,cZ];omega)
 have ea:aq.toArray++bW.toArray=(aq++bW).toArray:=by simp
 rw [ea]
 exact ⟨.ref _,_,I.EX (t':=s.toks) (r.append r2) (by rw [bQ];assumption),rfl,q _ I.fresh⟩
end
section
variable {prog:Program}{w:World}{A:Around}{E:Value->Shared->Prop}{s:Shared}
end
section
variable {X:Cx}
end
end L2
namespace Qw
open PySem PySem.W PySem.Calls PyProof.Rows
theorem a4Y:∀(ns:List Int) (vs:List Value),WellAll P h vs (ns.map WData.int)->IntsAre vs ns:=by
 intro ns
 induction ns with
 | nil =>
  intro vs w
  rw [zC] at w
  cases w
  exact .nil
 | cons n ns ih =>
  intro vs w
  rw [jL] at w
  cases w with
  | cons a b =>
   cases a
   exact .cons _ _ (ih _ b)
theorem a9H{l:OpenLaw}{n:Nat}(hn:l.most=some n){h:Heap}
  (iS:l.row.toRowW.claim.pre args=true)(Fg:WellAll P h vals args):
  ∃a vs ns,vals=[dj a]/\args=[WData.list (ns.map WData.int)]/\h.get? a=some { cls:=.type "list",data:=.seq vs.toArray }/\IntsAre vs ns/\ns.length<=n:=by
 have UP:WShape.hasAll [] args [.list .int]=true:=(pre_splitW iS).1
 have hc:l.pre.holds [] { args:=args }=true:=(pre_splitW iS).2
 obtain ⟨d,r,rfl,h1,h2⟩:=hasAllW_cons UP
 obtain rfl:=hasAllW_nil h2
 obtain ⟨xs,rfl,h3⟩:=hasW_list h1
 obtain ⟨ns,rfl⟩:=items_int h3
 have hlen:ns.length<=n:=by
  unfold OpenLaw.pre at hc
  have h4:(WTm.not (.lt (.lit (.int (n:Int))) (.len (.arg 0)))).holds [] { args:=[.list (ns.map .int)] }=true:=by
   have h4:=(holds_andW hc).1
   rw [hn] at h4
   exact h4
  have h5:=condW_of h4 (w_not (w_lt w_lit (w_len_list (w_arg rfl))))
  rw [bB] at h5
  refine G0 λq=>?_
  have q':(n:Int)<((ns.length:Nat):Int):=by exact Int.ofNat_lt.mpr ‹_›
  first
   | (rw [decide_eq_true q'] at h5;exact absurd h5 (by decide))
   | (simp at h5;omega)
 cases Fg with
 | cons w1 w2 =>
  cases w2
  cases w1 with
  | list ho n9=>exact ⟨_,_,ns,rfl,rfl,ho,a4Y ns _ n9,hlen⟩
theorem a9U(l:OpenLaw)(args:List WData):l.row.toRowW.claim.post args (.bool true) args=true:=
 postW_of (r:=l.row.toRowW) (X:=(true==true))
  (show WShape.has [] (.bool true) .bool=true by first | rfl | decide | simp [WShape.has,WShape.arms,WShape.armsAll])
  (show (WTm.eq .res (.lit (.bool true))).value [] { args:=args,res:=some (.bool true),after:=args }=some (.bool (true==true)) from w_eq_bool (w_res rfl) w_lit) rfl
theorem jN{l:OpenLaw}{n:Nat}{loose:List Str}{d:DefRec}
  (hn:l.most=some n)(yO:d.params.defaults=[])
  (call:∀(w:World) (cC aG:Shared) (mg mb:Str->Option Value) (fa:Addr) (o:Obj) (pm cd doc:Value) (a:Addr) (vs:List Value) (ns:List Int),
   Ground q loose [] XP w cC mg mb aG.heap->YP w aG.heap ->
   aG.heap.get? fa=some o->o.data=.func (docDef d.name d.params d.body d.scope pm cd doc)->aG.heap.CodeRec cd d.name->mg d.name=some (.ref fa) ->
   aG.heap.get? a=some { cls:=.type "list",data:=.seq vs.toArray }->IntsAre vs ns->ns.length<=n->aG.gens=#[] ->
   codeAny (model l.prog w) callerA (.call (.ref fa) ⟨[.ref a],[]⟩) (λr s'=>r=.ok (.ret (.bool true))/\OldK aG.heap s'.heap/\s'.os=aG.os/\AllBare s'.gens) aG):
  WalkO q loose XP YP l.row.toRowW d [] (λf vs=>GR f vs):=by
 intro w cC aG mg mb G Y fa o pm cd doc dV kV ho hd cM hD yC hg args vals as iS U5 hrd Fg hlo
 obtain rfl:dV=.none:=Dflts.none hD yO
 obtain rfl:kV=.none:=Dflts.noKw hD
 obtain ⟨a,vs,ns,rfl,rfl,tz,hints,hlen⟩:=a9H hn iS Fg
 refine enter_call (rq (call w cC aG mg mb fa o pm cd doc a vs ns G Y ho (fd_plain hd) cM yC tz hints hlen hg) λr s' hq=>?_)
 obtain ⟨rfl,h2,h3,h4⟩:=hq
 exact ⟨.inl ⟨.bool true,.bool true,[],rfl,λ_=>rfl,.bool true,a9U l _,λ_=>⟨ur,λ_ hm=>(nomatch hm)⟩⟩,h2,h3,h4⟩
section
variable {prog:Program}{w:World}{A:Around}{E:Value->Shared->Prop}{s:Shared}{K:Frag}
def ledger(h:Heap)(L d:Addr):List (Addr×Obj):=(jt h.objs.size).filterMap λa=>if a=L\/a=d then none else (h.get? a).map λo=>(a,o)
end
end Qw
namespace L2
open PySem PySem.Spec PyProof.Rows
theorem Pm:∀{vs:List Value} {ns:List Int},IntsAre vs ns->au (ns.map V.int) vs
 | _,_,.nil=>.nil
 | _,_,.cons n t h=>.cons ⟨t,rfl⟩ (Pm h)
theorem Pn{α:Type}{c:Prop}[Decidable c]{a b:α}(h:(if c then some a else none)=some b):c/\a=b:=by
 by_cases hc:c
 .rw [if_pos hc] at h;exact ⟨hc,cF h⟩
 .rw [if_neg hc] at h;cases h
def p6:Str:="dealt.<locals>.<lambda>"
def Tb(K:aB)(H:Hp):Prop:=∀c P,nj K "dealt" = some (c,P)->H P=some (.tab p6)
def C8(K:aB)(ts:List Addr):Bool:=match nj K "dealt" with
 | some (c,P)=>Mb K c P&&(K.lookup P).isNone&&ts.contains P
 | none=>true
theorem Z9{P:Program}{w:World}{K:aB}{mg mb:Str->Option Value}{CX:mZ}{k:Nat}{fa a:Addr}{fd:FuncData}{x:Str}{sp:Sp}{aG:Shared}{vs:List Value}{ns:List Int}{ts:List Addr}
  (KX:K.In aG.heap)(vj:aG.heap.Ns mainGlobals mg)(hb:aG.heap.Ns builtinsNs mb)(BN:∀x:Str,x ≠ "__name__" -> mb x=bootBuiltins x)(FE:aG.heap.NoLimit)(hg:aG.gens=#[])
  (Ve:∃bm ob,mg "__builtins__" = some (.ref bm)/\bm≠builtinsNs/\aG.heap.get? bm=some ob/\ob.cls=.type "module" /\ ob.dict=some builtinsNs/\ob.data=.plain)
  (hL:C8 K ts=true)(tN:∀P∈ts,aG.heap.get? P=some (vL #[]))
  (ha:aG.heap.get? a=some { cls:=.type "list",data:=.seq vs.toArray })(hi:IntsAre vs ns)(hl:ns.length<=sizeLine)(hr:bC k callerA)
  (F:∀base:Heap,K.In base->base.Ns mainGlobals mg->bM P w K mg base CX k fa fd [x] sp)(yS:∀(s:Shared) (u:Value),BindsTo s fd ⟨[u],[]⟩ [(x,u)])
  (qW:∀H:Hp,Tb K H->dH K H a (ns.map V.int)->sp [.ref a] H (λv H'=>v=.bl true/\Tb K H') λ_ _ _=>False)
  (F7:∀H e s',CX [] H aG (λ_ _ _=>False) e s'->False):
  codeAny (model P w) callerA (.call (.ref fa) ⟨[.ref a],[]⟩) (λr s'=>r=.ok (.ret (.bool true))/\OldK aG.heap s'.heap/\s'.os=aG.os/\AllBare s'.gens) aG:=by
 have rv:=Pm hi
 have EY:=hi.length
 have tabs:∀c P,nj K "dealt" = some (c,P)->Mb K c P=true/\K.lookup P=none/\aG.heap.get? P=some (vL #[]):=λc P e=>by
  unfold C8 at hL
  rw [e] at hL
  simp only [qt,Option.isNone_iff_eq_none,List.contains_iff_mem] at hL
  exact ⟨hL.1.1,hL.1.2,tN P hL.2⟩
 have core:∀H:Hp,Tb K H->dH K H a (ns.map V.int)->gE P w H aG.heap->(∀b,H b≠none->(b=a/\∃o xs,H b=some (.iW o (.lst xs)))\/∃c,nj K "dealt" = some (c,b))->(H a≠none->K.lookup a=none) ->
   codeAny (model P w) callerA (.call (.ref fa) ⟨[.ref a],[]⟩) (λr s'=>r=.ok (.ret (.bool true))/\OldK aG.heap s'.heap/\s'.os=aG.os/\AllBare s'.gens) aG:=by
  intro H hO hS bb hA hK
  have jc:∀{b:Addr} {o:Obj},aG.heap.get? b=some o->H b=none->(iU aG.heap H).get? b=some o:=λe n=>Zq e n
  have Ld:∀{b:Addr} {o:Obj},aG.heap.get? b=some o->(∀xs n,o.data≠.seq xs n)->(∀xs,o.data=.fields xs->o.cls≠.none)->H b=none:=λ{b o} e d d2=>by
   cases q:H b with
   | none=>rfl
   | some u =>
    rcases hA b (by rw [q];simp) with ⟨e',_⟩ | ⟨c,e'⟩
    .subst e'
     rw [ha] at e;cases e
     exact absurd rfl (d _ _)
    .rw [(tabs c b e').2.2] at e;cases e
     exact absurd rfl (d2 _ rfl)
  have By:∀{b:Addr} {m:Str->Option Value},aG.heap.Ns b m->(iU aG.heap H).Ns b m:=λ{b m} ⟨o,es,ep,e,d,r⟩=>⟨o,es,ep,jc e (Ld e (λ_ _ z=>by rw [d] at z;cases z) λ_ z=>by rw [d] at z;cases z),d,r⟩
  have LP:K.In (iU aG.heap H):=λb o e=>jc (KX b o e) (by
   cases q:H b with
   | none=>rfl
   | some u =>
    rcases hA b (by rw [q];simp) with ⟨e',_⟩ | ⟨c,e'⟩
    .subst e'
     rw [hK (by rw [q];simp)] at e;cases e
    .rw [(tabs c b e').2.1] at e;cases e)
  have hM:Mod K mg (iU aG.heap H):=⟨LP,By vj,⟨mb,By hb,BN⟩,let ⟨mc,h1,h2⟩:=FE;⟨mc,By h1,h2⟩,let ⟨bm,ob,b1,b2,b3,b4,b5,b6⟩:=Ve;⟨bm,ob,b1,b2,jc b3 (Ld b3 (λ_ _ z=>by rw [b6] at z;cases z) λ_ z=>by rw [b6] at z;cases z),b4,b5,b6⟩⟩
  have e0:gF P w K mg (iU aG.heap H) callerA [] aG H:=⟨rfl,hM,λb o e=>Ye e,Nat.le_of_eq (b0q _ _),trivial,λb hb=>absurd (show b∈([]:List Addr) from hb) (by simp),bb,.of_eq hg⟩
  refine rq ((F _ LP (By vj)).run callerA [] aG H ⟨[.ref a],[]⟩ [.ref a] [.ref a] _ _ hr e0 (yS aG (.ref a)) (.cons rfl .nil) (qW H hO hS)) λr s' h=>?_
  cases r with
  | error e=>exact (F7 H e s' h).elim
  | ok fl =>
   cases fl with
   | next=>exact gM h
   | brk=>exact gM h
   | cont=>exact gM h
   | ret u =>
    obtain ⟨v,H',os,bare,un,yB,r',q,qT⟩:=h
    subst q
    obtain rfl:u=ko true:=r'
    have old:∀b o,aG.heap.get? b=some o->s'.heap.get? b=some o\/∃c ps,nj K "dealt" = some (c,b)/\s'.heap.get? b=some (vL ps):=λb o e=>by
     cases q:H b with
     | none=>exact .inl (un.keep b o e q (by intro z;exact absurd (show b∈([]:List Addr) from z) (by simp)) (by simp))
     | some u =>
      rcases hA b (by rw [q];simp) with ⟨_,ob,xs,z⟩ | ⟨c,e'⟩
      .have z2:=un.eN b ob _ z
       obtain ⟨e1,_⟩:=bb b _ z
       obtain ⟨e2,_⟩:=yB b _ z2
       rw [e] at e1;cases e1
       exact .inl e2
      .obtain ⟨ps,e2,_⟩:=yB b _ (qT c b e')
       exact .inr ⟨c,ps,e',e2⟩
    refine ⟨rfl,⟨λb o e=>?_,λb o e=>?_⟩,os,bare⟩
    .rcases old b o e with z | ⟨c,ps,e',z⟩
     .exact .inl z
     .obtain ⟨t1,_,t3⟩:=tabs c b e'
      rw [t3] at e;cases e
      exact .inr (.inl ⟨((PySem.W.codeHd_of_K KX t1).tab t3).isCodeTable,rfl,#[],ps,rfl,by rw [Array.empty_append];exact z⟩)
    .rcases old b o e with z | ⟨c,ps,e',z⟩
     .exact ⟨o,z⟩
     .exact ⟨_,z⟩
 have Lc:∀(H:Hp) (b:Addr),(∃c,nj K "dealt" = some (c,b))->bZ P w H aG.heap b (.tab p6):=λH b ⟨c,e⟩=>⟨#[],(tabs c b e).2.2,trivial,λpos cv h=>by simp [codeAmong] at h⟩
 have Lh:∀c b,nj K "dealt" = some (c,b)->b≠a:=λc b e z=>by
  have:=(tabs c b e).2.2
  rw [z,ha] at this
  cases this
 cases hk:K.lookup a with
 | some o =>
  have e:=KX a o hk
  rw [ha] at e
  cases e
  refine core (λb=>if (nj K "dealt").map (·.2)=some b then some (.tab p6) else none) (λc b e=>if_pos (by rw [e];rfl)) (.inr ⟨_,vs.toArray,_,hk,rfl,rfl,rfl,by rw [cZ,EY];exact hl,by simpa using rv⟩) (λb u z=>?_) (λb z=>?_) λz=>?_
  .obtain ⟨hc,rfl⟩:=(Pn z)
   obtain ⟨⟨c,b'⟩,e,rfl⟩:=z7.mp hc
   exact Lc _ _ ⟨c,e⟩
  .by_cases hc:(nj K "dealt").map (·.2)=some b
   .obtain ⟨⟨c,b'⟩,e,rfl⟩:=z7.mp hc
    exact .inr ⟨c,e⟩
   .exact absurd (if_neg hc) z
  .by_cases hc:(nj K "dealt").map (·.2)=some a
   .obtain ⟨⟨c,b'⟩,e,e2⟩:=z7.mp hc
    exact absurd e2 (Lh c b' e)
   .exact absurd (if_neg hc) z
 | none =>
  refine core (λb=>if b=a then some (.iW { cls:=.type "list",data:=.seq vs.toArray } (.lst (ns.map V.int))) else if (nj K "dealt").map (·.2)=some b then some (.tab p6) else none) (λc b e=>by show (if b=a then _ else _)=_;rw [if_neg (Lh c b e),if_pos (by rw [e];rfl)]) (.inl (.inr ⟨{ cls:=.type "list",data:=.seq vs.toArray },if_pos rfl⟩)) (λb u z=>?_) (λb z=>?_) λ_=>hk
  .by_cases hb:b=a
   .have z':=(if_pos hb).symm.trans z
    cases z'
    subst hb
    exact ⟨ha,by rw [bB];exact hl,vs,_,rv,ha⟩
   .obtain ⟨hc,rfl⟩:=Pn ((if_neg hb).symm.trans z)
    obtain ⟨⟨c,b'⟩,e,rfl⟩:=z7.mp hc
    exact Lc _ _ ⟨c,e⟩
  .by_cases hb:b=a
   .exact .inl ⟨hb,_,_,if_pos hb⟩
   .by_cases hc:(nj K "dealt").map (·.2)=some b
    .obtain ⟨⟨c,b'⟩,e,rfl⟩:=z7.mp hc
     exact .inr ⟨c,e⟩
    .exact absurd ((if_neg hb).trans (if_neg hc)) z
end L2
namespace L2
open PySem PySem.Spec PyProof.Rows
abbrev KOf{K:aB}{h:Heap}(_:K.In h):aB:=K
theorem pM{l:Ha}{n k:Nat}{q:Program}{loose:List Str}{XP:(Str->Option Value)->Heap->Prop}{YP:World->Heap->Prop}{d:DefRec}{K:Params->aB}{CX:World->mZ}{sp:World->Sp}{x:Str}{ts:List Addr}
  (hn:l.most=some n)(U0:n<=sizeLine)(yO:d.params.defaults=[])(hr:bC k callerA)
  (hY:∀(w:World) (h:Heap),YP w h->(K w.params).In h/\∀P∈ts,h.get? P=some (vL #[]))(hL:∀w:World,C8 (K w.params) ts=true)
  (F:∀(w:World) (mg:Str->Option Value) (fa:Addr) (h:Heap),(K w.params).In h->h.Ns mainGlobals mg->mg d.name=some (.ref fa) ->
   ∃fd:FuncData,(∀(s:Shared) (u:Value),BindsTo s fd ⟨[u],[]⟩ [(x,u)]) /\
    ∀base:Heap,(K w.params).In base->base.Ns mainGlobals mg->bM l.prog w (K w.params) mg base (CX w) k fa fd [x] (sp w))
  (qW:∀(w:World) (H:Hp) (a:Addr) (ns:List Int),ns.length<=n->Tb (K w.params) H->dH (K w.params) H a (ns.map V.int)->sp w [.ref a] H (λv H'=>v=.bl true/\Tb (K w.params) H') λ_ _ _=>False)
  (F7:∀(w:World) (H:Hp) (s:Shared) (e:Value) (s':Shared),CX w [] H s (λ_ _ _=>False) e s'->False):
  PySem.W.WalkO q loose XP YP l.row.toRowW d [] (λf vs=>GR f vs):=by
 refine Qw.jN hn yO λw cC aG mg mb fa o pm cd doc a vs ns G Y ho hd cM yC tz hints hlen hg=>?_
 obtain ⟨KX,tN⟩:=hY w _ Y
 obtain ⟨fd,hb,hF⟩:=F w mg fa _ KX G.T.g yC
 exact Z9 KX G.T.g G.T.b G.T.builtins G.T.nolimit hg G.T.bmain (hL w) tN tz hints (dE hlen U0) hr hF hb (λH hO hS=>qW w H a ns hlen hO hS) λH e s'=>F7 w H aG e s'
end L2
namespace L2
open PySem PySem.Spec PyProof.Rows
def kE(s:Stmt):Arguments:=match s with
 | .FunctionDef _ a _ _ _ _ _ _ _ _=>a
 | _=>{ posonlyargs:=[],args:=[],vararg:=none,kwonlyargs:=[],kw_defaults:=[],kwarg:=none,defaults:=[] }
def ip(s:Stmt):List Stmt:=match s with
 | .FunctionDef _ _ b _ _ _ _ _ _ _=>b
 | _=>[]
def fm(s:Stmt):Scope:=match s with
 | .FunctionDef _ _ _ _ _ _ sc _ _ _=>sc
 | _=>{ kind:=.function,names:=[],isGenerator:=false,isCoroutine:=false }
abbrev iH:mZ:=λ_ _ _ _ _ _=>False
abbrev E0:XK:=λ_ _ _=>False
theorem xJ:Ie iH X E0:=λ_ _ _ _ _ _ _ h=>h.elim
structure sv(K:aB)(x qual:Str)(st:Stmt)(f:Addr)(fd:FuncData):Prop where
 ex:∃(oc:Value) (od:Option Addr) (kV doc pm:Value) (an:Option Addr) (cY ct:Value) (qQ:Array (Option Value)),
  fd=jv x qual (kE st) (ip st) (fm st) .none kV doc pm an cY ct/\K.lookup f=some ⟨oc,od,.func fd,qQ⟩/\Cp K cY qual=true
 kp:t7 K (.ref f)=true
section
variable {P:Program}{w:World}{K:aB}{mg:Str->Option Value}{base:Heap}
theorem sv.ok{x qual:Str}{st:Stmt}{f:Addr}{fd:FuncData}{N ps:List Str}{k:Nat}{sp:Sp}(F:sv K x qual st f fd)(S:c8 N ps (fm st))(len:∀vs H Q E,sp vs H Q E->vs.length=ps.length)
  (dC:∀(cY:Value) (A:Around) (outer:List Env) (s:Shared) (H:Hp) (vs:List V) (Q:VK) (E:XK),bC k (A.deeper (envOfC qual (fm st) s.heap.objs.size f cY))->sp vs H Q E ->
   ∃t,mj (lq iH P w K mg base N qual (fm st) f cY A outer s H E).fR (ip st) t/\t { nx:=λ_ H'=>Q .aS H',rt:=Q } (start N vs) H):bM P w K mg base iH (k+1) f fd ps sp:=by
 obtain ⟨oc,od,kV,doc,pm,an,cY,ct,qQ,rfl,lk,cM⟩:=F.ex
 refine y8 lk cM S len λA outer s H vs Q E hr qW=>?_
 obtain ⟨t,h,q⟩:=dC cY A outer s H vs Q E hr qW
 exact ⟨t,h.fR,q⟩
theorem sv.binds{x qual:Str}{st:Stmt}{f:Addr}{fd:FuncData}{ps:List Str}(F:sv K x qual st f fd)
  (h:∀(kV doc pm:Value) (an:Option Addr) (cY ct:Value) (us:List Value),us.length=ps.length->bindArgs (jv x qual (kE st) (ip st) (fm st) .none kV doc pm an cY ct) ⟨us,[]⟩=pure (ps.zip us)):Binds K fd ps []:=by
 obtain ⟨oc,od,kV,doc,pm,an,cY,ct,qQ,rfl,lk,cM⟩:=F.ex
 exact .all (h kV doc pm an cY ct)
theorem Nh{x qual:Str}{st:Stmt}{f:Addr}{oc:Value}{od an:Option Addr}{qQ:Array (Option Value)}{kV doc pm cY ct:Value}(l:K.lookup f=some ⟨oc,od,.func (jv x qual (kE st) (ip st) (fm st) .none kV doc pm an cY ct),qQ⟩)
  (c:Cp K cY qual=true)(k:t7 K (.ref f)=true):sv K x qual st f (jv x qual (kE st) (ip st) (fm st) .none kV doc pm an cY ct):=⟨⟨oc,od,kV,doc,pm,an,cY,ct,qQ,rfl,l,c⟩,k⟩
end
section
variable {X:Cx}
theorem pv(i:Nat){x:Str}{pos:Pos}(hN:X.N[i]?=some x:=by rfl)(hv:gU X.env.scope x:=by first | exact bY rfl | exact be (bY rfl) | exact be (be rfl))(hd:(x==("__debug__":Str))=false:=by decide)
  (cM:(x==("__classdict__":Str))=false:=by decide):PE X (.Name x pos) (wU i):=rT hN hv hd cM
end
def ar(H H':Hp):Prop:=∀b o,H b=some o->H' b=some o
theorem ar.refl(H:Hp):ar H H:=λ_ _ h=>h
theorem ar.trans(a:ar H H1)(b:ar H1 H2):ar H H2:=λc o h=>b c o (a c o h)
theorem ar.free(e:ar H H')(h:H' l=Option.none):H l=Option.none:=by
 cases q:H l with
 | none=>rfl
 | some o =>
  rw [e l o q] at h
  cases h
theorem ar.seq{K:aB}{H H':Hp}{a:Addr}{xs:List V}(e:ar H H')(h:dH K H a xs):dH K H' a xs:=by
 rcases h with (h | ⟨o,h⟩) | h
 .exact .inl (.inl (e _ _ h))
 .exact .inl (.inr ⟨o,e _ _ h⟩)
 .exact .inr h
end L2
set_option maxHeartbeats 4000000
namespace DL
open PySem PySem.Spec PyProof.Rows L2
section
variable {prog:Program}{w:World}{A:Around}{E:Value->Shared->Prop}{s:Shared}
theorem Zd{ws:List Value}(ht:IsTup s.heap t #[])(hb:IsTup s.heap b ws.toArray)(h1:Q (.ref b) s):wpAny (model prog w) A (binaryOp .Add (.ref t) (.ref b)) Q E s:=by
 obtain ⟨⟨cls,dd,data,sl⟩,ho,hc,n,hd⟩:=id ht
 obtain ⟨⟨Gz,BS,data2,xi⟩,tB,yQ,n2,hd2⟩:=id hb
 simp only at hc hd yQ hd2
 subst hc hd yQ hd2
 exact concat_meets ⟨_,ho,rfl⟩ ⟨_,tB,rfl⟩ G2 GP Hj HI (Hz _ _)
   (tuple_addW0 t b #[] ws.toArray n n2 dd BS sl xi rfl) ⟨ho,tB,h1⟩
theorem a30{items:Array Value}{lo hi:Option Int}(ht:IsTup s.heap t items)(hs:s.heap.IsSliceOf sl vl vu .none)(pl:IsPart vl lo)(pu:IsPart vu hi)
  (hw:HT.aX items.size 0 lo=0/\HT.aX items.size items.size hi=items.size)(h:Q (.ref t) s):wpAny (model prog w) A (getItem (.ref t) (.ref sl)) Q E s:=by
 obtain ⟨os,p9,vq,yM⟩:=id hs
 have tN:s.TypeIs (.ref sl) "slice":=⟨os,p9,vq⟩
 unfold getItem
 try with_reducible refine lz ?_
 first | refine ah (aH ?_) | skip
 refine ah (wpAny_sequenceKey ht.typeIs (by decide) ?_)
 refine ah (qw (name:=Str.ofString "__getitem__") ht.typeIs uy
  (mO uy ht.typeIs entry_tuple_getitem ?_ (args_tuple_getitem _ _)))
 show wpAny _ _ (MN (.ref t) >>= _) _ _ s
 refine ah (tupleItemsOf_ ht ?_)
 refine ah (vz tN ?_)
 rw [if_pos (by decide)]
 refine ah (HT.cS hs pl pu ?_)
 rw [hw.1,hw.2]
 show wpAny _ _ (if (((0:Nat):Int)==0&&(1:Int)==1&&(items.size-0)==items.size)=true then _ else _) _ _ s
 rw [if_pos (by simp)]
 unfold Builtin.Tuple.tupleIsExact
 refine ah (ah (vz ht.typeIs (aH ?_)))
 rw [if_pos (by decide)]
 refine ah (o5 ?_)
 first
  | exact aH ⟨_,rfl,aH h⟩
  | exact ah (aH (aH ⟨_,rfl,aH h⟩))
end
section
variable {X:Cx}
noncomputable def xB(K:aB):R2:=λx y H Q=>∃a b ys,x=.ref a/\y=.ref b/\dR K H a []/\dR K H b ys/\Q (.ref b) H
theorem Yh:f' X (binaryOp .Add) (xB X.K):=by
 intro pins s σ H x y v u Q I rx ry h
 obtain ⟨a,b,ys,rfl,rfl,ha,hb,q1⟩:=h
 cases rx
 cases ry
 obtain ⟨aq,r1,p1,_⟩:=I.tuple ha
 obtain ⟨bW,r2,p2,_⟩:=I.tuple hb
 cases r1
 exact Zd p1 p2 ⟨.ref b,H,I,rfl,q1⟩
def EI(K:aB):V->Option Int->Option Int->Hp->VK->Prop:=λx lo hi H Q=>∃a xs,x=.ref a/\dR K H a xs /\
 (HT.aX xs.length 0 lo=0/\HT.aX xs.length xs.length hi=xs.length)/\Q (.ref a) H
theorem sH:sr X (EI X.K):=by
 intro pins s σ H x v vl vu lo hi sl Q I rx hs pl pu h
 obtain ⟨a,xs,rfl,hx,hw,q⟩:=h
 cases rx
 obtain ⟨aq,r,ht,hz⟩:=I.tuple hx
 have hlen:aq.toArray.size=xs.length:=by rw [cZ];exact r.length.symm
 refine ⟨"tuple",_,uy.lookup,ht.typeIs,?_⟩
 exact a30 ht hs pl pu (by rw [hlen];exact hw) ⟨.ref a,H,I,rfl,q⟩
end
end DL
namespace DL
open PySem PySem.Spec PyProof.Rows L2
inductive D where
 | aS | bl (b:Bool) | int (i:Int) | str (x:Str) | tup (ds:List D) | lst (ro:Bool) (ds:List D) | exc (n:Str) | fD (fz:Bool) (br:List (Int×Int))
 deriving Inhabited
inductive Sl where
 | no | sh (d:D) | ow (ds:List D) | dw (br:List (Int×Int))
 deriving Inhabited
noncomputable abbrev En:=List Sl
noncomputable def Sl.d:Sl->D
 | .no=>.aS
 | .sh d=>d
 | .ow ds=>.lst false ds
 | .dw br=>.fD false br
def Gy(p C:Addr)(h:Heap):Prop:=∃o,h.get? p=some o/\o.cls=.ref C
mutual
inductive Is (K:aB) (O:Addr->Prop) (H:Hp):V->D->Prop
 | aS:Is K O H .aS .aS
 | bl (b:Bool):Is K O H (.bl b) (.bl b)
 | int (i:Int):Is K O H (.int i) (.int i)
 | str (x:Str):Is K O H (.str x) (.str x)
 | tup {p:Addr} {xs:List V} {ds:List D} (ho:¬O p) (hp:Rd H p (.tup xs)) (hs:aI K O H xs ds):Is K O H (.ref p) (.tup ds)
 | jD {p:Addr} {xs:List V} {ds:List D} (hp:dR K (λ_=>none) p xs) (hs:aI K O H xs ds):Is K O H (.ref p) (.tup ds)
 | lst {p:Addr} {xs:List V} {ds:List D} (ho:¬O p) (hp:H p=some (.lst xs)) (hs:aI K O H xs ds):Is K O H (.ref p) (.lst false ds)
 | jB {p:Addr} {xs:List V} {ds:List D} (ho:¬O p) (hp:Rd H p (.lst xs)) (hs:aI K O H xs ds):Is K O H (.ref p) (.lst true ds)
 | jE {p:Addr} {xs:List V} {ds:List D} (hp:dH K (λ_=>none) p xs) (hs:aI K O H xs ds):Is K O H (.ref p) (.lst true ds)
 | exc {p C:Addr} {n:Str} (ho:¬O p) (hn:ju K mainGlobals n=some (some (.ref C))) (hp:H p=some (.ext (Gy p C))):Is K O H (.ref p) (.exc n)
 | fD {p:Addr} {br:List (Int×Int)} (ho:¬O p) (hp:H p=some (.dK (br.map λq=>(.inl q.1,.int q.2)))):Is K O H (.ref p) (.fD false br)
 | om {p:Addr} {br:List (Int×Int)} {o:Obj} (ho:¬O p) (hp:H p=some (.iW o (.dK (br.map λq=>(.inl q.1,.int q.2))))):Is K O H (.ref p) (.fD true br)
inductive aI (K:aB) (O:Addr->Prop) (H:Hp):List V->List D->Prop
 | nil:aI K O H [] []
 | cons {x:V} {d:D} {xs:List V} {ds:List D} (h:Is K O H x d) (t:aI K O H xs ds):aI K O H (x::xs) (d::ds)
end
theorem NA{O:Addr->Prop}{H H':Hp}(hH:∀q u,H q=some u->¬O q->H' q=some u){p:Addr}{u:HO}(ho:¬O p)(h:Rd H p u):Rd H' p u:=by
 rcases h with h | ⟨o,h⟩
 .exact .inl (hH p u h ho)
 .exact .inr ⟨o,hH p _ h ho⟩
theorem Ov(h:Rd H p u):H p≠none:=by
 rcases h with h | ⟨o,h⟩<;>rw [h]<;>exact λz=>nomatch z
theorem AH{K:aB}{H:Hp}{p:Addr}{xs:List V}(h:dH K (λ_=>none) p xs):dH K H p xs:=by
 rcases h with (h | ⟨o,h⟩) | h
 .cases h
 .cases h
 .exact .inr h
theorem AI{K:aB}{H:Hp}{p:Addr}{xs:List V}(h:dR K (λ_=>none) p xs):dR K H p xs:=by
 rcases h with (h | ⟨o,h⟩) | h
 .cases h
 .cases h
 .exact .inr h
section
variable {K:aB}{O O':Addr->Prop}{H H':Hp}
mutual
theorem Is.map(hO:∀q,H q≠none->¬O q->¬O' q)(hH:∀q u,H q=some u->¬O q->H' q=some u):∀{v:V} {d:D},Is K O H v d->Is K O' H' v d
 | _,_,.aS=>.aS
 | _,_,.bl b=>.bl b
 | _,_,.int i=>.int i
 | _,_,.str x=>.str x
 | _,_,.tup ho hp hs=>.tup (hO _ (Ov hp) ho) (NA hH ho hp) (aI.map hO hH hs)
 | _,_,.jD hp hs=>.jD hp (aI.map hO hH hs)
 | _,_,.lst ho hp hs=>.lst (hO _ (by rw [hp];exact λz=>nomatch z) ho) (hH _ _ hp ho) (aI.map hO hH hs)
 | _,_,.jB ho hp hs=>.jB (hO _ (Ov hp) ho) (NA hH ho hp) (aI.map hO hH hs)
 | _,_,.jE hp hs=>.jE hp (aI.map hO hH hs)
 | _,_,.exc ho hn hp=>.exc (hO _ (by rw [hp];exact λz=>nomatch z) ho) hn (hH _ _ hp ho)
 | _,_,.fD ho hp=>.fD (hO _ (by rw [hp];exact λz=>nomatch z) ho) (hH _ _ hp ho)
 | _,_,.om ho hp=>.om (hO _ (by rw [hp];exact λz=>nomatch z) ho) (hH _ _ hp ho)
theorem aI.map(hO:∀q,H q≠none->¬O q->¬O' q)(hH:∀q u,H q=some u->¬O q->H' q=some u):∀{v:List V} {d:List D},aI K O H v d->aI K O' H' v d
 | _,_,.nil=>.nil
 | _,_,.cons h t=>.cons (Is.map hO hH h) (aI.map hO hH t)
end
theorem Is.grow(s:ar H H')(h:Is K O H v d):Is K O H' v d:=h.map (λ_ _ z=>z) λq u e _=>s q u e
theorem aI.grow(s:ar H H')(h:aI K O H v d):aI K O H' v d:=h.map (λ_ _ z=>z) λq u e _=>s q u e
theorem Is.less(hO:∀q,O' q->O q)(h:Is K O H v d):Is K O' H v d:=h.map (λ_ _ z w=>z (hO _ w)) λ_ _ e _=>e
theorem aI.less(hO:∀q,O' q->O q)(h:aI K O H v d):aI K O' H v d:=h.map (λ_ _ z w=>z (hO _ w)) λ_ _ e _=>e
theorem aI.length:∀{v:List V} {d:List D},aI K O H v d->v.length=d.length
 | _,_,.nil=>rfl
 | _,_,.cons _ t=>by rw [iD,iD,aI.length t]
theorem aI.append:∀{v w:List V} {d e:List D},aI K O H v d->aI K O H w e->aI K O H (v++w) (d++e)
 | _,_,_,_,.nil,s=>s
 | _,_,_,_,.cons h t,s=>.cons h (aI.append t s)
theorem aI.get:∀{v:List V} {ds:List D} {i:Nat} {d:D},aI K O H v ds->ds[i]?=some d->∃x,v[i]?=some x/\Is K O H x d
 | _,_,_,_,.nil,e=>by simp at e
 | _,_,0,_,.cons h _,e=>by simp at e;subst e;exact ⟨_,rfl,h⟩
 | _,_,i+1,d,.cons _ t,e=>by
  obtain ⟨u,h1,h2⟩:=aI.get (i:=i) (d:=d) t (by simpa using e)
  exact ⟨u,by simpa using h1,h2⟩
theorem aI.tS:∀{v:List V} {ds:List D} {i:Nat} {x:V},aI K O H v ds->v[i]?=some x->∃d,ds[i]?=some d/\Is K O H x d
 | _,_,_,_,.nil,e=>by simp at e
 | _,_,0,_,.cons h _,e=>by simp at e;subst e;exact ⟨_,rfl,h⟩
 | _,_,i+1,d,.cons _ t,e=>by
  obtain ⟨u,h1,h2⟩:=aI.tS (i:=i) (x:=d) t (by simpa using e)
  exact ⟨u,by simpa using h1,h2⟩
theorem aI.take:∀{v:List V} {d:List D} (n:Nat),aI K O H v d->aI K O H (v.take n) (d.take n)
 | _,_,0,_=>.nil
 | _,_,_+1,.nil=>.nil
 | _,_,n+1,.cons h t=>.cons h (aI.take n t)
theorem aI.drop:∀{v:List V} {d:List D} (n:Nat),aI K O H v d->aI K O H (v.drop n) (d.drop n)
 | _,_,0,h=>h
 | _,_,_+1,.nil=>.nil
 | _,_,n+1,.cons _ t=>aI.drop n t
theorem aI.set(h:Is K O H x d):∀{v:List V} {ds:List D} (n:Nat),aI K O H v ds->aI K O H (v.set n x) (ds.set n d)
 | _,_,_,.nil=>.nil
 | _,_,0,.cons _ t=>.cons h t
 | _,_,n+1,.cons h' t=>.cons h' (aI.set h n t)
theorem aI.dQ(h:aI K O H v ds)(e:L2.dQ ds i=some d):∃x,L2.dQ v i=some x/\Is K O H x d:=by
 unfold L2.dQ at e ⊢
 rw [h.length]
 cases q:iQ ds.length i with
 | none=>rw [q] at e;cases e
 | some j =>
  rw [q] at e
  exact h.get e
theorem aI.dropLast(h:aI K O H v d):aI K O H v.dropLast d.dropLast:=by
 rw [Mv,Mv,h.length]
 exact h.take _
theorem aI.ints:∀(ns:List Int),aI K O H (ns.map V.int) (ns.map D.int)
 | []=>.nil
 | n::r=>.cons (.int n) (aI.ints r)
def Sq(K:aB)(H:Hp)(k:Bool)(p:Addr)(xs:List V):Prop:=if k=true then dH K H p xs else dR K H p xs
noncomputable def d9:D->Option (Bool×List D)
 | .tup ds=>some (false,ds)
 | .lst _ ds=>some (true,ds)
 | _=>none
theorem Is.seq(h:Is K O H v d)(e:d9 d=some (k,ds)):∃p xs,v=.ref p/\Sq K H k p xs/\aI K O H xs ds:=by
 cases h with
 | tup ho hp hs=>cases e;exact ⟨_,_,rfl,.inl hp,hs⟩
 | jD hp hs=>cases e;exact ⟨_,_,rfl,AI hp,hs⟩
 | lst ho hp hs=>cases e;exact ⟨_,_,rfl,.inl (.inl hp),hs⟩
 | jB ho hp hs=>cases e;exact ⟨_,_,rfl,.inl hp,hs⟩
 | jE hp hs=>cases e;exact ⟨_,_,rfl,AH hp,hs⟩
 | _=>cases e
end
theorem Sq.grow{K:aB}{H H':Hp}{k:Bool}{p:Addr}{xs:List V}(s:ar H H')(h:Sq K H k p xs):Sq K H' k p xs:=by
 cases k with
 | true =>
  rcases h with (h | ⟨o,h⟩) | h
  .exact .inl (.inl (s _ _ h))
  .exact .inl (.inr ⟨o,s _ _ h⟩)
  .exact .inr h
 | false =>
  rcases h with (h | ⟨o,h⟩) | h
  .exact .inl (.inl (s _ _ h))
  .exact .inl (.inr ⟨o,s _ _ h⟩)
  .exact .inr h
noncomputable def Sl.own:Sl->Prop
 | .ow _=>True
 | .dw _=>True
 | _=>False
noncomputable abbrev Gr(br:List (Int×Int)):HO:=.dK (br.map λq=>(.inl q.1,.int q.2))
def j6(σ:L2.St)(env:En)(p:Addr):Prop:=∃(i:Nat) (s:Sl),env[i]?=some s/\s.own/\σ[i]?=some (some (V.ref p))
abbrev OO(O:Addr->Prop)(σ:L2.St)(env:En)(q:Addr):Prop:=O q\/j6 σ env q
theorem _root_.L2.Tb.grow{K:aB}{H H':Hp}(s:ar H H')(h:Tb K H):Tb K H':=λc P e=>s _ _ (h c P e)
def pJ(K:aB)(O:Addr->Prop)(H:Hp):Prop:=(∀q,O q->H q≠none)/\Tb K H
theorem pJ.grow{K:aB}{O:Addr->Prop}{H H':Hp}(s:ar H H')(h:pJ K O H):pJ K O H':=⟨λq hq hn=>h.1 q hq (s.free hn),h.2.grow s⟩
structure Rel(K:aB)(O:Addr->Prop)(B:Hp)(σ:L2.St)(H:Hp)(env:En):Prop where
 same:ar B H
 nh:pJ K O B
 len:σ.length=env.length
 sh:∀(i:Nat) (d:D),env[i]?=some (Sl.sh d)->∃v,σ[i]?=some (some v)/\Is K (OO O σ env) H v d
 ow:∀(i:Nat) (ds:List D),env[i]?=some (Sl.ow ds)->∃p xs,σ[i]?=some (some (V.ref p))/\B p=none/\H p=some (.lst xs)/\aI K (OO O σ env) H xs ds
 dw:∀(i:Nat) (br:List (Int×Int)),env[i]?=some (Sl.dw br)->∃p,σ[i]?=some (some (V.ref p))/\B p=none/\H p=some (Gr br)
 sep:∀(i j:Nat) (ds es:Sl) (p:Addr),env[i]?=some ds->env[j]?=some es->σ[i]?=some (some (V.ref p))->σ[j]?=some (some (V.ref p))->ds.own->es.own->i=j
noncomputable def Res(K:aB)(O:Addr->Prop)(B H:Hp)(v:V):Sl->Prop
 | .no=>False
 | .sh d=>Is K O H v d
 | .ow ds=>∃p xs,v=.ref p/\B p=none/\H p=some (.lst xs)/\aI K (λq=>O q\/q=p) H xs ds
 | .dw br=>∃p,v=.ref p/\B p=none/\H p=some (Gr br)
section
variable {K:aB}{O:Addr->Prop}{B H H' H1:Hp}{σ:L2.St}{env:En}{v:V}{r:Sl}
theorem Rel.ad(R:Rel K O B σ H env){i:Nat}{s:Sl}(h:env[i]?=some s)(ho:s.own):∃p u,σ[i]?=some (some (V.ref p))/\B p=none/\H p=some u:=by
 cases s with
 | ow ds=>obtain ⟨p,xs,e1,e2,e3,_⟩:=R.ow i ds h;exact ⟨p,_,e1,e2,e3⟩
 | dw br=>obtain ⟨p,e1,e2,e3⟩:=R.dw i br h;exact ⟨p,_,e1,e2,e3⟩
 | no=>exact ho.elim
 | sh d=>exact ho.elim
theorem Rel.oo(R:Rel K O B σ H env)(h:OO O σ env q):H q≠none:=by
 rcases h with h | ⟨i,s,h1,ho,h2⟩
 .intro z
  exact R.nh.1 q h (R.same.free z)
 .obtain ⟨p,u,e1,_,e3⟩:=R.ad h1 ho
  rw [h2] at e1
  cases e1
  rw [e3];exact λz=>nomatch z
theorem Rel.dm(R:Rel K O B σ H env):pJ K (OO O σ env) H:=⟨λ_=>R.oo,R.nh.2.grow R.same⟩
theorem Rel.grow(R:Rel K O B σ H env)(s:ar H H'):Rel K O B σ H' env where
 same:=R.same.trans s
 nh:=R.nh
 len:=R.len
 sh:=λi d e=>let ⟨v,e1,h⟩:=R.sh i d e;⟨v,e1,h.grow s⟩
 ow:=λi ds e=>let ⟨p,xs,e1,e2,e3,h⟩:=R.ow i ds e;⟨p,xs,e1,e2,s _ _ e3,h.grow s⟩
 dw:=λi br e=>let ⟨p,e1,e2,e3⟩:=R.dw i br e;⟨p,e1,e2,s _ _ e3⟩
 sep:=R.sep
theorem Res.grow(s:ar H H')(h:Res K O B H v r):Res K O B H' v r:=by
 cases r with
 | no=>exact h
 | sh d=>exact Is.grow s h
 | ow ds=>obtain ⟨p,xs,e1,e2,e3,h⟩:=h;exact ⟨p,xs,e1,e2,s _ _ e3,h.grow s⟩
 | dw br=>obtain ⟨p,e1,e2,e3⟩:=h;exact ⟨p,e1,e2,s _ _ e3⟩
theorem Res.from(s:ar H1 B)(h:Res K O B H v r):Res K O H1 H v r:=by
 cases r with
 | no=>exact h
 | sh d=>exact h
 | ow ds=>obtain ⟨p,xs,e1,e2,e3,h⟩:=h;exact ⟨p,xs,e1,s.free e2,e3,h⟩
 | dw br=>obtain ⟨p,e1,e2,e3⟩:=h;exact ⟨p,e1,s.free e2,e3⟩
theorem Res.less(hO:∀q,O' q->O q)(h:Res K O B H v r):Res K O' B H v r:=by
 cases r with
 | no=>exact h
 | sh d=>exact Is.less hO h
 | ow ds=>obtain ⟨p,xs,e1,e2,e3,h⟩:=h;exact ⟨p,xs,e1,e2,e3,h.less λq z=>z.elim (λw=>.inl (hO _ w)) .inr⟩
 | dw br=>exact h
theorem Res.is(hd:∀q,O q->B q≠none)(h:Res K O B H v r):Is K O H v r.d:=by
 cases r with
 | no=>exact h.elim
 | sh d=>exact h
 | ow ds =>
  obtain ⟨p,xs,rfl,e2,e3,h⟩:=h
  exact .lst (λz=>hd p z e2) e3 (h.less λ_=>.inl)
 | dw br =>
  obtain ⟨p,rfl,e2,e3⟩:=h
  exact .fD (λz=>hd p z e2) e3
end
def EV(X:Cx)(e:Expr)(f:En->Option Sl):Prop:=
 ∃t:TE,PE X e t/\∀(O:Addr->Prop) (B:Hp) (σ:L2.St) (H:Hp) (env:En) (r:Sl) (Q:VK),Rel X.K O B σ H env->f env=some r ->
  (∀v H',ar H H'->Res X.K (OO O σ env) H H' v r->Q v H')->t σ H Q
def BV(X:Cx)(e:Expr)(f:En->Option (Bool×List D)):Prop:=
 ∃t:TE,PE X e t/\∀(O:Addr->Prop) (B:Hp) (σ:L2.St) (H:Hp) (env:En) (k:Bool) (ds:List D) (Q:VK),Rel X.K O B σ H env->f env=some (k,ds) ->
  (∀p xs H',ar H H'->Sq X.K H' k p xs->aI X.K (OO O σ env) H' xs ds->Q (.ref p) H')->t σ H Q
def AV(X:Cx)(es:List Expr)(f:En->Option (List D)):Prop:=
 ∃t:TA,PA X es t/\∀(O:Addr->Prop) (B:Hp) (σ:L2.St) (H:Hp) (env:En) (ds:List D) (Q:List V->Hp->Prop),Rel X.K O B σ H env->f env=some ds ->
  (∀vs H',ar H H'->aI X.K (OO O σ env) H' vs ds->Q vs H')->t σ H Q
def TV(X:Cx)(e:Expr)(f:En->Option Bool):Prop:=
 ∃t:TT,PT X e t/\∀(O:Addr->Prop) (B:Hp) (σ:L2.St) (H:Hp) (env:En) (b:Bool) (Q:Bool->Hp->Prop),Rel X.K O B σ H env->f env=some b ->
  (∀H',ar H H'->Q b H')->t σ H Q
def WV(X:Cx)(e:Expr)(f:En->Option Bool):Prop:=
 ∃t:TT,PW X e t/\∀(O:Addr->Prop) (B:Hp) (σ:L2.St) (H:Hp) (env:En) (b:Bool) (Q:Bool->Hp->Prop),Rel X.K O B σ H env->f env=some b ->
  (∀H',ar H H'->Q b H')->t σ H Q
inductive Fl where
 | nx | bk | ct | rt (r:Sl)
def Gd(σ:L2.St)(env:En)(H:Hp)(aE:L2.St)(ak:En)(H':Hp):Prop:=∀q u,H q=some u->¬j6 σ env q->H' q=some u/\¬j6 aE ak q
theorem Gd.trans(a:Gd σ env H gG bJ H1)(b:Gd gG bJ H1 cu bh H2):Gd σ env H cu bh H2:=λq u e n =>
 let ⟨e1,n1⟩:=a q u e n
 b q u e1 n1
theorem Gd.from(s:ar H H1)(b:Gd σ env H1 aE ak H'):Gd σ env H aE ak H':=λq u e n=>b q u (s _ _ e) n
theorem Gd.refl(s:ar H H'):Gd σ env H σ env H':=λq u e n=>⟨s _ _ e,n⟩
noncomputable def de(K:aB)(O:Addr->Prop)(B:Hp)(σ:L2.St)(H:Hp)(env:En)(D:Ends):Fl->En->Prop
 | .nx,ak=>∀aE H',Rel K O B aE H' ak->Gd σ env H aE ak H'->D.nx aE H'
 | .bk,ak=>∀aE H',Rel K O B aE H' ak->Gd σ env H aE ak H'->D.bk aE H'
 | .ct,ak=>∀aE H',Rel K O B aE H' ak->Gd σ env H aE ak H'->D.ct aE H'
 | .rt r,_=>∀v H',ar B H'->Res K O B H' v r->D.rt v H'
theorem de.from{K:aB}{O:Addr->Prop}{B:Hp}{σ gG:L2.St}{H H1:Hp}{env bJ:En}{D:Ends}{fl:Fl}{ak:En}(g:Gd σ env H gG bJ H1)(h:de K O B σ H env D fl ak):de K O B gG H1 bJ D fl ak:=by
 cases fl with
 | nx=>exact λaE H' R g'=>h aE H' R (g.trans g')
 | bk=>exact λaE H' R g'=>h aE H' R (g.trans g')
 | ct=>exact λaE H' R g'=>h aE H' R (g.trans g')
 | rt r=>exact h
noncomputable abbrev SF:=En->Option (Fl×En)
def SV(X:Cx)(st:Stmt)(F:SF):Prop:=
 ∃t:TS,PS X st t/\∀(O:Addr->Prop) (B:Hp) (σ:L2.St) (H:Hp) (env:En) (fl:Fl) (ak:En) (D:Ends),Rel X.K O B σ H env->F env=some (fl,ak)->de X.K O B σ H env D fl ak->t D σ H
def jY(X:Cx)(st:List Stmt)(F:SF):Prop:=
 ∃t:TS,mj X st t/\∀(O:Addr->Prop) (B:Hp) (σ:L2.St) (H:Hp) (env:En) (fl:Fl) (ak:En) (D:Ends),Rel X.K O B σ H env->F env=some (fl,ak)->de X.K O B σ H env D fl ak->t D σ H
section
variable {X:Cx}{a b c:Expr}{pos:Pos}{fa fb fc:En->Option Sl}
noncomputable def eC(d:D):En->Option Sl:=λ_=>some (.sh d)
theorem ao{i j pos}:EV X (.Constant (.int i) j pos) (eC (.int i)):=⟨_,Xj,λ_ _ _ _ _ _ _ _ e k=>by
 obtain rfl:=cF e
 exact k _ _ (ar.refl _) (Is.int i)⟩
theorem uA{i j pos}:EV X (.Constant (.bool i) j pos) (eC (.bl i)):=⟨_,xI,λ_ _ _ _ _ _ _ _ e k=>by
 obtain rfl:=cF e
 exact k _ _ (ar.refl _) (Is.bl i)⟩
theorem uH{j pos}:EV X (.Constant .none j pos) (eC .aS):=⟨_,Xl,λ_ _ _ _ _ _ _ _ e k=>by
 obtain rfl:=cF e
 exact k _ _ (ar.refl _) Is.aS⟩
noncomputable def Bw:Option Sl->Option Sl
 | some (.sh d)=>some (.sh d)
 | _=>none
theorem ZA(h:Bw o=some r):∃d,o=some (Sl.sh d)/\r=.sh d:=by
 cases o with
 | none=>cases h
 | some s=>cases s with
  | sh d=>cases h;exact ⟨d,rfl,rfl⟩
  | no=>cases h
  | ow ds=>cases h
  | dw ds=>cases h
noncomputable def eV(i:Nat):En->Option Sl:=λenv=>Bw env[i]?
theorem NR(i:Nat)(hN:X.N[i]?=some x:=by rfl)(hv:gU X.env.scope x:=by first | exact bY rfl | exact be (bY rfl) | exact be (be rfl))(hd:(x==("__debug__":Str))=false:=by decide)
  (cM:(x==("__classdict__":Str))=false:=by decide):EV X (.Name x pos) (eV i):=⟨_,rT hN hv hd cM,λO B σ H env r Q R e k=>by
 obtain ⟨d,e1,rfl⟩:=ZA e
 obtain ⟨v,e2,h⟩:=R.sh i d e1
 exact ⟨v,e2,k v H (ar.refl _) h⟩⟩
noncomputable def u9:Option Sl->Option (Bool×List D)
 | some (.sh d)=>d9 d
 | some (.ow ds)=>some (true,ds)
 | _=>none
noncomputable def bV(i:Nat):En->Option (Bool×List D):=λenv=>u9 env[i]?
theorem W9(i:Nat)(hN:X.N[i]?=some x:=by rfl)(hv:gU X.env.scope x:=by first | exact bY rfl | exact be (bY rfl) | exact be (be rfl))(hd:(x==("__debug__":Str))=false:=by decide)
  (cM:(x==("__classdict__":Str))=false:=by decide):BV X (.Name x pos) (bV i):=⟨_,rT hN hv hd cM,λO B σ H env k ds Q R e q=>by
 unfold bV at e
 cases h:env[i]? with
 | none=>rw [h] at e;cases e
 | some s =>
  rw [h] at e
  cases s with
  | no=>cases e
  | sh d =>
   obtain ⟨v,e2,hv⟩:=R.sh i d h
   obtain ⟨p,xs,rfl,h1,h2⟩:=hv.seq (show d9 d=some (k,ds) from e)
   exact ⟨_,e2,q p xs H (ar.refl _) h1 h2⟩
  | dw es=>cases e
  | ow es =>
   obtain ⟨rfl,rfl⟩:true=k/\es=ds:=Prod.mk.inj (cF e)
   obtain ⟨p,xs,e2,_,e3,h2⟩:=R.ow i es h
   exact ⟨_,e2,q p xs H (ar.refl _) (.inl (.inl e3)) h2⟩⟩
noncomputable def jd(f:En->Option Sl):En->Option (Bool×List D):=λenv=>(f env).bind λr=>d9 r.d
theorem bind_some{α β:Type}{o:Option α}{f:α->Option β}{b:β}(h:o.bind f=some b):∃a,o=some a/\f a=some b:=by
 cases o with
 | none=>cases h
 | some a=>exact ⟨a,rfl,h⟩
theorem jP(h:EV X a fa):BV X a (jd fa):=by
 obtain ⟨t,ht,p⟩:=h
 refine ⟨t,ht,λO B σ H env k ds Q R e q=>?_⟩
 obtain ⟨r,e1,e2⟩:=bind_some e
 refine p O B σ H env r _ R e1 λv H' s h=>?_
 obtain ⟨p,xs,rfl,h1,h2⟩:=(h.is (λz=>R.oo)).seq e2
 exact q p xs H' s h1 h2
def jy(X:Cx)(f:Value->Value->Sem Value)(g:D->D->Option Sl):Prop:=
 ∃r:R2,f' X f r/\∀(O:Addr->Prop) (H:Hp) (x y:V) (a b:D) (s:Sl) (Q:VK),(∀q,O q->H q≠none)->Is X.K O H x a->Is X.K O H y b->g a b=some s ->
  (∀v H',ar H H'->Res X.K O H H' v s->Q v H')->r x y H Q
noncomputable def aa(g:D->D->Option Sl)(fa fb:En->Option Sl):En->Option Sl:=λenv=>(fa env).bind λx=>(fb env).bind λy=>g x.d y.d
theorem Jb(hg:∀(O:Addr->Prop) (H:Hp) (x y:V) (a b:D) (s:Sl) (Q:VK),(∀q,O q->H q≠none)->Is X.K O H x a->Is X.K O H y b->g a b=some s->(∀v H',ar H H'->Res X.K O H H' v s->Q v H')->r x y H Q)(pa:∀(O:Addr->Prop) (B:Hp) (σ:L2.St) (H:Hp) (env:En) (r:Sl) (Q:VK),Rel X.K O B σ H env->fa env=some r->(∀v H',ar H H'->Res X.K (OO O σ env) H H' v r->Q v H')->ta σ H Q)
  (pb:∀(O:Addr->Prop) (B:Hp) (σ:L2.St) (H:Hp) (env:En) (r:Sl) (Q:VK),Rel X.K O B σ H env->fb env=some r->(∀v H',ar H H'->Res X.K (OO O σ env) H H' v r->Q v H')->tb σ H Q)
  (O:Addr->Prop)(B:Hp)(σ:L2.St)(H:Hp)(env:En)(s:Sl)(Q:VK)(R:Rel X.K O B σ H env)(e:aa g fa fb env=some s)
  (k:∀v H',ar H H'->Res X.K (OO O σ env) H H' v s->Q v H'):wX r ta tb σ H Q:=by
 obtain ⟨x,e1,e⟩:=bind_some e
 obtain ⟨y,e2,e⟩:=bind_some e
 refine pa O B σ H env x _ R e1 λv H1 s1 h1=>?_
 refine pb O B σ H1 env y _ (R.grow s1) e2 λu H2 s2 h2=>?_
 have R2:=(R.grow s1).grow s2
 refine hg (OO O σ env) H2 v u x.d y.d s Q (λq=>R2.oo) ((h1.is λq=>R.oo).grow s2) (h2.is λq=>(R.grow s1).oo) e λw H3 s3 h3=>?_
 exact k w H3 ((s1.trans s2).trans s3) (h3.from (s1.trans s2))
theorem aF(ho:jy X (binaryOp op) g)(ha:EV X a fa)(hb:EV X b fb):EV X (.BinOp a op b pos) (aa g fa fb):=by
 obtain ⟨r,hr,hg⟩:=ho
 obtain ⟨ta,pa,ka⟩:=ha
 obtain ⟨tb,pb,kb⟩:=hb
 exact ⟨_,xG hr pa pb,Jb hg ka kb⟩
theorem v8(ho:jy X (compareOp op) g)(ha:EV X a fa)(hb:EV X b fb)(hm:behindInMarks op b=false:=by exact Nr _):EV X (.Compare a [op] [b] pos) (aa g fa fb):=by
 obtain ⟨r,hr,hg⟩:=ho
 obtain ⟨ta,pa,ka⟩:=ha
 obtain ⟨tb,pb,kb⟩:=hb
 exact ⟨_,Yn hr pa pb hm,Jb hg ka kb⟩
noncomputable def gP:Option Sl->Option Bool
 | some (.sh (.bl b))=>some b
 | _=>none
theorem DA{b:Bool}(h:gP o=some b):o=some (Sl.sh (.bl b)):=by
 cases o with
 | none=>cases h
 | some s=>cases s with
  | no=>cases h
  | ow ds=>cases h
  | dw ds=>cases h
  | sh d=>cases d<;>cases h;rfl
noncomputable def bR(f:En->Option Sl):En->Option Bool:=λenv=>gP (f env)
theorem uB{K:aB}{O:Addr->Prop}{H:Hp}{v:V}{b:Bool}(h:Is K O H v (.bl b)):v=.bl b:=by cases h;rfl
theorem fZ{K:aB}{O:Addr->Prop}{H:Hp}{v:V}{b:Int}(h:Is K O H v (.int b)):v=.int b:=by cases h;rfl
theorem Ii{K:aB}{O:Addr->Prop}{H:Hp}{v:V}(h:Is K O H v .aS):v=.aS:=by cases h;rfl
theorem Ij{K:aB}{O:Addr->Prop}{H:Hp}{v:V}{b:Str}(h:Is K O H v (.str b)):v=.str b:=by cases h;rfl
theorem cQ(ho:jy X (compareOp op) g)(ha:EV X a fa)(hb:EV X b fb)(hm:behindInMarks op b=false:=by exact Nr _):TV X (.Compare a [op] [b] pos) (bR (aa g fa fb)):=by
 obtain ⟨r,hr,hg⟩:=ho
 obtain ⟨ta,pa,ka⟩:=ha
 obtain ⟨tb,pb,kb⟩:=hb
 refine ⟨_,Yx hr pa pb hm,λO B σ H env k Q R e q=>?_⟩
 exact Jb hg ka kb O B σ H env _ _ R (DA e) λv H' s h=>⟨k,uB h,q H' s⟩
noncomputable def g0:D->Option Bool
 | .aS=>some false
 | .bl b=>some b
 | .int i=>some (i != 0)
 | .str y=>if y.length<=16777216 then some ((y.length:Int) != 0) else none
 | .tup ds=>some (!ds.isEmpty)
 | .lst _ ds=>some (!ds.isEmpty)
 | .exc _=>none
 | .fD _ _=>none
theorem aI.isEmpty{K:aB}{O:Addr->Prop}{H:Hp}{xs:List V}{ds:List D}(h:aI K O H xs ds):xs.isEmpty=ds.isEmpty:=by cases h<;>rfl
theorem YZ{K:aB}{O:Addr->Prop}{H:Hp}{v:V}{d:D}{b:Bool}(h:Is K O H v d)(e:g0 d=some b):uW K v H b:=by
 cases h with
 | aS=>cases e;rfl
 | bl b=>cases e;rfl
 | int i=>cases e;rfl
 | str x =>
  unfold g0 at e
  dsimp only at e
  by_cases hl:x.length<=16777216
  .rw [if_pos hl] at e;cases e;exact ⟨by rw [fW];exact hl,rfl⟩
  .rw [if_neg hl] at e;cases e
 | tup ho hp hs=>cases e;exact .inr (.inl ⟨_,.inl hp,by rw [hs.isEmpty]⟩)
 | jD hp hs=>cases e;exact .inr (.inl ⟨_,AI hp,by rw [hs.isEmpty]⟩)
 | lst ho hp hs=>cases e;exact .inl ⟨_,.inl (.inl hp),by rw [hs.isEmpty]⟩
 | jB ho hp hs=>cases e;exact .inl ⟨_,.inl hp,by rw [hs.isEmpty]⟩
 | jE hp hs=>cases e;exact .inl ⟨_,AH hp,by rw [hs.isEmpty]⟩
 | exc ho hn hp=>cases e
 | fD ho hp=>cases e
 | om ho hp=>cases e
noncomputable def dz(f:En->Option Sl):En->Option Bool:=λenv=>(f env).bind λr=>g0 r.d
theorem mT(ha:EV X a fa)(he:∀whole,isTrue a X.env whole=(do let v <-whole;standAt a.pos;holding [v] (truthy v)):=by intro _;rfl):TV X a (dz fa):=by
 obtain ⟨ta,pa,ka⟩:=ha
 refine ⟨_,OP pa he,λO B σ H env k Q R e q=>?_⟩
 obtain ⟨r,e1,e2⟩:=bind_some e
 exact ka O B σ H env r _ R e1 λv H' s h=>⟨k,YZ (h.is λq=>R.oo) e2,q H' s⟩
noncomputable def Am(f:En->Option (Bool×List D)):En->Option Bool:=λenv=>(f env).bind λr=>some (!r.2.isEmpty)
theorem Oi{fa:En->Option (Bool×List D)}(ha:BV X a fa)(he:∀whole,isTrue a X.env whole=(do let v <-whole;standAt a.pos;holding [v] (truthy v)):=by intro _;rfl):TV X a (Am fa):=by
 obtain ⟨ta,pa,ka⟩:=ha
 refine ⟨_,OP pa he,λO B σ H env k Q R e q=>?_⟩
 obtain ⟨⟨kk,ds⟩,e1,e2⟩:=bind_some e
 cases e2
 refine ka O B σ H env kk ds _ R e1 λp xs H' s h hs=>⟨_,?_,q H' s⟩
 cases kk with
 | true=>exact .inl ⟨xs,h,by rw [hs.isEmpty]⟩
 | false=>exact .inr (.inl ⟨xs,h,by rw [hs.isEmpty]⟩)
noncomputable def mQ(f g:En->Option Bool):En->Option Bool:=λenv=>match f env with
 | some true=>g env
 | some false=>some false
 | none=>none
noncomputable def jz(f g:En->Option Bool):En->Option Bool:=λenv=>match f env with
 | some false=>g env
 | some true=>some true
 | none=>none
noncomputable def rO(f:En->Option Bool):En->Option Bool:=λenv=>(f env).map (!·)
variable {ga gb:En->Option Bool}{rest:List Expr}
theorem uK(ha:TV X a ga):WV X (.BoolOp .And [a] pos) ga:=let ⟨t,p,k⟩:=ha;⟨t,Y5 p,k⟩
theorem Iz(ha:TV X a ga):WV X (.BoolOp .Or [a] pos) ga:=let ⟨t,p,k⟩:=ha;⟨t,Xw p,k⟩
theorem uD(ha:TV X a ga)(hb:WV X (.BoolOp .And (b::rest) pos) gb):WV X (.BoolOp .And (a::b::rest) pos) (mQ ga gb):=by
 obtain ⟨t,p,k⟩:=ha
 obtain ⟨u,p',k'⟩:=hb
 refine ⟨_,Xv p p',λO B σ H env d Q R e q=>?_⟩
 unfold mQ at e
 cases h:ga env with
 | none=>rw [h] at e;cases e
 | some x =>
  rw [h] at e
  refine k O B σ H env x _ R h λH1 s1=>?_
  cases x with
  | true =>
   rw [if_pos rfl]
   exact k' O B σ H1 env d Q (R.grow s1) e λH2 s2=>q H2 (s1.trans s2)
  | false =>
   cases e
   rw [if_neg lx]
   exact q H1 s1
theorem H9(ha:TV X a ga)(hb:WV X (.BoolOp .Or (b::rest) pos) gb):WV X (.BoolOp .Or (a::b::rest) pos) (jz ga gb):=by
 obtain ⟨t,p,k⟩:=ha
 obtain ⟨u,p',k'⟩:=hb
 refine ⟨_,pw_or p p',λO B σ H env d Q R e q=>?_⟩
 unfold jz at e
 cases h:ga env with
 | none=>rw [h] at e;cases e
 | some x =>
  rw [h] at e
  refine k O B σ H env x _ R h λH1 s1=>?_
  cases x with
  | false =>
   rw [if_neg lx]
   exact k' O B σ H1 env d Q (R.grow s1) e λH2 s2=>q H2 (s1.trans s2)
  | true =>
   cases e
   rw [if_pos rfl]
   exact q H1 s1
theorem gZ(h:WV X a ga):TV X a ga:=let ⟨t,p,k⟩:=h;⟨t,p.pt,k⟩
theorem Au(ha:TV X a ga):TV X (.UnaryOp .Not a pos) (rO ga):=by
 obtain ⟨t,p,k⟩:=ha
 refine ⟨_,Xu p,λO B σ H env d Q R e q=>?_⟩
 unfold rO at e
 cases h:ga env with
 | none=>rw [h] at e;cases e
 | some x =>
  rw [h] at e
  cases e
  exact k O B σ H env x _ R h λH1 s1=>q H1 s1
noncomputable def lj(f g:En->Option Sl):En->Option Sl:=λenv=>match gP (f env) with
 | some true=>g env
 | some false=>some (.sh (.bl false))
 | none=>none
noncomputable def zh(f g:En->Option Sl):En->Option Sl:=λenv=>match gP (f env) with
 | some false=>g env
 | some true=>some (.sh (.bl true))
 | none=>none
noncomputable def mD(f:En->Option Sl):En->Option Sl:=λenv=>(gP (f env)).map λb=>.sh (.bl !b)
theorem C9(h:EV X a fa):EV X (.BoolOp op [a] pos) fa:=let ⟨t,p,k⟩:=h;⟨t,Xn p,k⟩
theorem Iq(ha:EV X a fa)(hb:EV X (.BoolOp .And (b::rest) pos) fb):EV X (.BoolOp .And (a::b::rest) pos) (lj fa fb):=by
 obtain ⟨t,p,k⟩:=ha
 obtain ⟨u,p',k'⟩:=hb
 refine ⟨_,Xh p p',λO B σ H env r Q R e q=>?_⟩
 unfold lj at e
 cases h:gP (fa env) with
 | none=>rw [h] at e;cases e
 | some x =>
  rw [h] at e
  refine k O B σ H env _ _ R (DA h) λv H1 s1 r1=>⟨x,uB r1,?_⟩
  cases x with
  | true =>
   rw [if_pos rfl]
   exact k' O B σ H1 env r Q (R.grow s1) e λv2 H2 s2 r2=>q v2 H2 (s1.trans s2) (r2.from s1)
  | false =>
   obtain rfl:=cF e
   rw [if_neg lx]
   exact q _ H1 s1 (Is.bl false)
theorem zb(ha:EV X a fa)(hb:EV X (.BoolOp .Or (b::rest) pos) fb):EV X (.BoolOp .Or (a::b::rest) pos) (zh fa fb):=by
 obtain ⟨t,p,k⟩:=ha
 obtain ⟨u,p',k'⟩:=hb
 refine ⟨_,HR p p',λO B σ H env r Q R e q=>?_⟩
 unfold zh at e
 cases h:gP (fa env) with
 | none=>rw [h] at e;cases e
 | some x =>
  rw [h] at e
  refine k O B σ H env _ _ R (DA h) λv H1 s1 r1=>⟨x,uB r1,?_⟩
  cases x with
  | false =>
   rw [if_neg lx]
   exact k' O B σ H1 env r Q (R.grow s1) e λv2 H2 s2 r2=>q v2 H2 (s1.trans s2) (r2.from s1)
  | true =>
   obtain rfl:=cF e
   rw [if_pos rfl]
   exact q _ H1 s1 (Is.bl true)
theorem NP(ha:EV X a fa):EV X (.UnaryOp .Not a pos) (mD fa):=by
 obtain ⟨t,p,k⟩:=ha
 refine ⟨_,Xm p,λO B σ H env r Q R e q=>?_⟩
 unfold mD at e
 cases h:gP (fa env) with
 | none=>rw [h] at e;cases e
 | some x =>
  rw [h] at e
  obtain rfl:=cF e
  exact k O B σ H env _ _ R (DA h) λv H1 s1 r1=>⟨x,uB r1,q _ H1 s1 (Is.bl _)⟩
noncomputable def l5(c:En->Option Bool)(f g:En->Option Sl):En->Option Sl:=λenv=>match c env with
 | some true=>f env
 | some false=>g env
 | none=>none
theorem qx(hc:TV X c ga)(ha:EV X a fa)(hb:EV X b fb):EV X (.IfExp c a b pos) (l5 ga fa fb):=by
 obtain ⟨tc,pc,kc⟩:=hc
 obtain ⟨t,p,k⟩:=ha
 obtain ⟨u,p',k'⟩:=hb
 refine ⟨_,ZS pc p p',λO B σ H env r Q R e q=>?_⟩
 unfold l5 at e
 cases h:ga env with
 | none=>rw [h] at e;cases e
 | some x =>
  rw [h] at e
  refine kc O B σ H env x _ R h λH1 s1=>?_
  cases x with
  | true =>
   rw [if_pos rfl]
   exact k O B σ H1 env r Q (R.grow s1) e λv2 H2 s2 r2=>q v2 H2 (s1.trans s2) (r2.from s1)
  | false =>
   rw [if_neg lx]
   exact k' O B σ H1 env r Q (R.grow s1) e λv2 H2 s2 r2=>q v2 H2 (s1.trans s2) (r2.from s1)
noncomputable def tT:D->Option Sl
 | .int i=>some (.sh (.int (-i)))
 | _=>none
noncomputable def iY(f:En->Option Sl):En->Option Sl:=λenv=>(f env).bind λr=>tT r.d
theorem uG(ha:EV X a fa):EV X (.UnaryOp .USub a pos) (iY fa):=by
 obtain ⟨t,p,k⟩:=ha
 refine ⟨_,xF X3 p,λO B σ H env r Q R e q=>?_⟩
 obtain ⟨x,e1,e2⟩:=bind_some e
 refine k O B σ H env x _ R e1 λv H1 s1 r1=>?_
 have hi:=r1.is λq=>R.oo
 cases hd:x.d with
 | int i =>
  rw [hd] at hi e2
  obtain rfl:=fZ hi
  obtain rfl:=cF e2
  exact ⟨i,rfl,q _ H1 s1 (Is.int _)⟩
 | _=>rw [hd] at e2;cases e2
variable {e:Expr}{es:List Expr}
noncomputable def ae:En->Option (List D):=λ_=>some []
noncomputable def af(f:En->Option Sl)(g:En->Option (List D)):En->Option (List D):=λenv=>(f env).bind λr=>(g env).bind λds=>some (r.d::ds)
theorem aA:AV X [] ae:=⟨_,md,λO B σ H env ds Q R e q=>by
 obtain rfl:=cF e
 exact q [] H (ar.refl _) .nil⟩
theorem ai(ha:EV X e fe)(hb:AV X es fs)(hs:starEach (e::es) X.env=(false,eval e X.env)::starEach es X.env:=by rfl):AV X (e::es) (af fe fs):=by
 obtain ⟨t,p,k⟩:=ha
 obtain ⟨u,p',k'⟩:=hb
 refine ⟨_,lI p p' hs,λO B σ H env ds Q R e q=>?_⟩
 obtain ⟨r,e1,e2⟩:=bind_some e
 obtain ⟨fH,e4,e3⟩:=bind_some e2
 obtain rfl:=cF e3
 refine k O B σ H env r _ R e1 λv H1 s1 r1=>?_
 refine k' O B σ H1 env fH _ (R.grow s1) e4 λvs H2 s2 r2=>?_
 exact q _ H2 (s1.trans s2) (.cons ((r1.is λq=>R.oo).grow s2) r2)
theorem jl(h:H p=none)(o:HO):ar H (upd H p o):=λb u q=>by rw [cR (pI q h)];exact q
noncomputable def bA(f:En->Option (List D)):En->Option Sl:=λenv=>(f env).bind λds=>if ds.length<=16777216 then some (.sh (.tup ds)) else none
noncomputable def bw(f:En->Option (List D)):En->Option Sl:=λenv=>(f env).bind λds=>if ds.length<=16777216 then some (.ow ds) else none
theorem il{α:Type}{c:Prop}[Decidable c]{x y:α}(h:(if c then some x else none)=some y):c/\x=y:=by
 by_cases hc:c
 .rw [if_pos hc] at h;exact ⟨hc,cF h⟩
 .rw [if_neg hc] at h;cases h
theorem Az{K:aB}{O:Addr->Prop}{H:Hp}{p:Addr}{xs:List V}{ds:List D}(hO:∀q,O q->H q≠none)(hp:H p=none)(h:aI K O H xs ds):Res K O H (upd H p (.tup xs)) (.ref p) (.sh (.tup ds)):=
 Is.tup (λz=>hO p z hp) (.inl me) (h.grow (jl hp _))
theorem rY{K:aB}{O:Addr->Prop}{H:Hp}{p:Addr}{xs:List V}{ds:List D}(hp:H p=none)(h:aI K O H xs ds):Res K O H (upd H p (.lst xs)) (.ref p) (.ow ds):=
 ⟨p,xs,rfl,hp,me,h.map (λq hq hn z=>z.elim hn λw=>hq (by rw [w];exact hp)) λq u e _=>jl hp _ q u e⟩
theorem fY{x1}(h:AV X es fs):EV X (.Tuple es x1 pos) (bA fs):=by
 obtain ⟨t,p,k⟩:=h
 refine ⟨_,Xo p,λO B σ H env r Q R e q=>?_⟩
 obtain ⟨ds,e1,e2⟩:=bind_some e
 obtain ⟨hl,rfl⟩:=il e2
 refine k O B σ H env ds _ R e1 λvs H1 s1 r1=>⟨by rw [r1.length,fW];exact hl,λp hp=>?_⟩
 exact q _ _ (s1.trans (jl hp _)) ((Az (O:=OO O σ env) (H:=H1) (λ_ z=>(R.grow s1).oo z) hp r1).from s1)
theorem fj(h:AV X es fs):EV X (.List es pos) (bw fs):=by
 obtain ⟨t,p,k⟩:=h
 refine ⟨_,Xk p,λO B σ H env r Q R e q=>?_⟩
 obtain ⟨ds,e1,e2⟩:=bind_some e
 obtain ⟨hl,rfl⟩:=il e2
 refine k O B σ H env ds _ R e1 λvs H1 s1 r1=>⟨by rw [r1.length,fW];exact hl,λp hp=>?_⟩
 exact q _ _ (s1.trans (jl hp _)) ((rY hp r1).from s1)
noncomputable def av(f:En->Option (Bool×List D))(g:En->Option Sl):En->Option Sl:=λenv=>(f env).bind λx=>(g env).bind λy=>match y.d with
 | .int i=>(dQ x.2 i).map .sh
 | _=>none
theorem aC{fa:En->Option (Bool×List D)}(ha:BV X a fa)(hb:EV X b fb)(hs:NV b:=by exact λ_ _=>rfl):EV X (.Subscript a b pos) (av fa fb):=by
 obtain ⟨t,p,k⟩:=ha
 obtain ⟨u,p',k'⟩:=hb
 refine ⟨_,xH XH p p' hs,λO B σ H env r Q R e q=>?_⟩
 obtain ⟨⟨kk,ds⟩,e1,e2⟩:=bind_some e
 obtain ⟨y,e2,e3⟩:=bind_some e2
 refine k O B σ H env kk ds _ R e1 λl xs H1 s1 hq hx=>?_
 refine k' O B σ H1 env y _ (R.grow s1) e2 λw H2 s2 r2=>?_
 have hi:=r2.is λq=>(R.grow s1).oo
 cases hd:y.d with
 | int i =>
  rw [hd] at hi e3
  obtain rfl:=fZ hi
  dsimp only at e3
  cases h:dQ ds i with
  | none=>rw [h] at e3;cases e3
  | some d =>
   rw [h] at e3
   obtain rfl:=cF e3
   obtain ⟨v,h1,h2⟩:=(hx.grow s2).dQ h
   have dt:=hq.grow s2
   have fin:=q v H2 (s1.trans s2) h2
   cases kk with
   | true=>exact .inl ⟨l,xs,i,v,rfl,rfl,dt,h1,fin⟩
   | false=>exact .inr (.inl ⟨l,xs,i,v,rfl,rfl,dt,h1,fin⟩)
 | _=>rw [hd] at e3;cases e3
end
noncomputable def LIM:Int:=10^250
theorem YO(h1:-LIM<=j)(h2:j<=LIM):j.natAbs<2^900:=by
 have e:LIM<(2:Int)^900:=by unfold LIM;decide +kernel
 have e2:((2:Int)^900)=((2^900:Nat):Int):=by simp
 generalize (2^900:Nat)=m at *
 generalize LIM=l at *
 omega
theorem OA(h1:-LIM<=j)(h2:j<=LIM):j.natAbs.log2<900:=by
 rcases Hm j.natAbs with h0 | hp
 .rw [h0];decide
 .exact (Nat.log2_lt (o9 hp)).mpr (YO h1 h2)
theorem OK(h1:-LIM<=j)(h2:j<=LIM):Mp j<=900:=by
 have:=OA h1 h2
 unfold Mp
 split<;>lia
def MulC(i j:Int):Prop:=(-(2^64)<i/\i<2^64)\/(-(2^64)<j/\j<2^64)\/((-LIM<=i/\i<=LIM)/\(-LIM<=j/\j<=LIM))
noncomputable instance (i j:Int):Decidable (MulC i j):=by unfold MulC;infer_instance
theorem MulC.ok(h:MulC i j):IntMulOk i j:=by
 rcases h with ⟨h1,h2⟩ | ⟨h1,h2⟩ | ⟨⟨h1,h2⟩,h3,h4⟩
 .exact .of_left (B0 h1 h2)
 .exact .of_right (B0 h1 h2)
 .exact mulOk_of_bits (OK h1 h2) (OK h3 h4) (by decide)
def DivC(_ j:Int):Prop:=0<j/\j<=LIM
noncomputable instance (i j:Int):Decidable (DivC i j):=by unfold DivC;infer_instance
def qH(_ j:Int):Prop:=0<j
noncomputable instance (i j:Int):Decidable (qH i j):=by unfold qH;infer_instance
def PowC(i j:Int):Prop:=0<=j/\j<=1000000/\i.natAbs<2^64
noncomputable instance (i j:Int):Decidable (PowC i j):=by unfold PowC;infer_instance
noncomputable def gI(C:Int->Int->Prop)[∀i j,Decidable (C i j)](h:Int->Int->Int):D->D->Option Sl
 | .int i,.int j=>if C i j then some (.sh (.int (h i j))) else none
 | _,_=>none
noncomputable def gB(h:Int->Int->Bool):D->D->Option Sl
 | .int i,.int j=>some (.sh (.bl (h i j)))
 | _,_=>none
section
variable {X:Cx}
theorem An{f:Value->Value->Sem Value}{C:Int->Int->Prop}[∀i j,Decidable (C i j)]{h:Int->Int->Int}(ho:f' X f (rI C λi j=>.int (h i j))):jy X f (gI C h):=by
 refine ⟨_,ho,λO H x y a b s Q hO hx hy e q=>?_⟩
 cases a with
 | int i=>cases b with
  | int j =>
   obtain ⟨hc,rfl⟩:=il (show (if C i j then some (Sl.sh (.int (h i j))) else none)=some s from e)
   exact ⟨i,j,fZ hx,fZ hy,hc,q _ H (ar.refl _) (Is.int _)⟩
  | _=>cases e
 | _=>cases e
theorem HQ(ho:f' X f (sJ λi j=>.bl (h i j))):jy X f (gB h):=by
 refine ⟨_,ho,λO H x y a b s Q hO hx hy e q=>?_⟩
 cases a with
 | int i=>cases b with
  | int j =>
   obtain rfl:=cF (show some (Sl.sh (.bl (h i j)))=some s from e)
   exact ⟨i,j,fZ hx,fZ hy,q _ H (ar.refl _) (Is.bl _)⟩
  | _=>cases e
 | _=>cases e
noncomputable def eh:D->D->Option Sl:=gI MulC λi j=>i*j
noncomputable def cN:D->D->Option Sl:=gI DivC λi j=>i/j
noncomputable def cj:D->D->Option Sl:=gI qH λi j=>i%j
noncomputable def fB:D->D->Option Sl:=gI PowC λi j=>i^j.toNat
noncomputable def bI:D->D->Option Sl:=gI (λ_ _=>True) λi j=>i-j
noncomputable def gu:D->D->Option Sl:=gB λi j=>decide (i<j)
noncomputable def oZ:D->D->Option Sl:=gB λi j=>decide (i<=j)
noncomputable def qh:D->D->Option Sl:=gB λi j=>decide (j<i)
noncomputable def Vu:D->D->Option Sl:=gB λi j=>decide (j<=i)
theorem nG:jy X (binaryOp .Mult) eh:=An (vd λ_ _ _ _ _ _ _ (hc:MulC _ _) q=>mul_int q hc.ok)
theorem jw:jy X (binaryOp .FloorDiv) cN:=An (vd λi j _ _ _ _ _ (hc:DivC i j) q=>by
 have h1:(0:Int)<j:=hc.1
 have h2:=OA (j:=j) (by have:(0:Int)<=LIM:=(by decide +kernel);ext h1 this) hc.2
 exact floordiv_int (by ext h1) (by rw [Int.fdiv_eq_ediv_of_nonneg i (by ext h1)];exact q) (.inl (PyProof.noPylong_of_log2 (dE ‹_› (by decide)))))
theorem gQ:jy X (binaryOp .Mod) cj:=An (vd λi j _ _ _ _ _ (hc:qH i j) q=>by
 have h1:(0:Int)<j:=hc
 exact mod_int' (by ext h1) (by rw [Int.fmod_eq_emod_of_nonneg i (by ext h1)];exact q))
theorem oH:jy X (binaryOp .Pow) fB:=An (vd λ_ _ _ _ _ _ _ (hc:PowC _ _) q=>pow_int_small hc.1 hc.2.1 hc.2.2 q)
theorem ik:jy X (binaryOp .Sub) bI:=An (vd λ_ _ _ _ _ _ _ _ q=>sub_int q)
theorem jk:jy X (compareOp .Lt) gu:=HQ xN
theorem vZ:jy X (compareOp .LtE) oZ:=HQ xO
theorem uC:jy X (compareOp .Gt) qh:=HQ xP
noncomputable def aQ:D->D->Option Sl
 | .int i,.int j=>some (.sh (.int (i+j)))
 | .lst false a,.lst false b=>if a.length+b.length<=16777216 then some (.ow (a++b)) else none
 | .tup a,.tup b=>if a.length+b.length<=16777216 then some (.sh (.tup (a++b))) else none
 | .str a,.str b=>if a.length+b.length<=16777216 then some (.sh (.str (a++b))) else none
 | _,_=>none
theorem As{K:aB}{O:Addr->Prop}{H:Hp}{v:V}{ds:List D}(h:Is K O H v (.tup ds)):∃p xs,v=.ref p/\dR K H p xs/\aI K O H xs ds:=by
 obtain ⟨p,xs,e,h1,h2⟩:=h.seq (k:=false) rfl
 exact ⟨p,xs,e,h1,h2⟩
theorem Ih{K:aB}{O:Addr->Prop}{H:Hp}{v:V}{ds:List D}(h:Is K O H v (.lst false ds)):∃p xs,v=.ref p/\¬O p/\H p=some (.lst xs)/\aI K O H xs ds:=by
 cases h with
 | lst ho hp hs=>exact ⟨_,_,rfl,ho,hp,hs⟩
theorem aI.dJ{K:aB}{O:Addr->Prop}{H:Hp}{xs:List V}{ds:List D}(h:aI K O H xs ds):xs=[]↔ds=[]:=by cases h<;>simp
theorem Po{α:Type}{c:Prop}{d:Decidable c}{x y:α}(h:(@ite _ c d (some x) none)=some y):c/\x=y:=il h
theorem c5:jy X (binaryOp .Add) aQ:=by
 refine ⟨_,sM.or (sL.or (pW.or (kQ.or Yh))),λO H x y a b s Q hO hx hy e q=>?_⟩
 cases a with
 | int i=>cases b with
  | int j =>
   obtain rfl:=cF (show some (Sl.sh (.int (i+j)))=some s from e)
   exact .inl ⟨i,j,fZ hx,fZ hy,q _ H (ar.refl _) (Is.int _)⟩
  | _=>cases e
 | lst r a=>cases r with
  | true=>cases b<;>cases e
  | false=>cases b with
   | lst r b=>cases r with
    | true=>cases e
    | false =>
     obtain ⟨hl,rfl⟩:=il (show (if a.length+b.length<=16777216 then some (Sl.ow (a++b)) else none)=some s from e)
     obtain ⟨p1,xs,rfl,_,h1,i1⟩:=Ih hx
     obtain ⟨p2,ys,rfl,_,h2,i2⟩:=Ih hy
     exact .inr (.inl ⟨p1,p2,xs,ys,rfl,rfl,h1,h2,by rw [i1.length,i2.length,fW];exact hl,λp hp=>q _ _ (jl hp _) (rY hp (i1.append i2))⟩)
   | _=>cases e
 | tup a=>cases b with
  | tup b =>
   obtain ⟨hl,rfl⟩:=Po (show (if a.length+b.length<=16777216 then some (Sl.sh (.tup (a++b))) else none)=some s from e)
   obtain ⟨p1,xs,rfl,h1,i1⟩:=As hx
   obtain ⟨p2,ys,rfl,h2,i2⟩:=As hy
   by_cases h0:a=[]
   .subst h0
    cases i1
    exact .inr (.inr (.inr (.inr ⟨p1,p2,ys,rfl,rfl,h1,h2,q _ H (ar.refl _) hy⟩)))
   refine .inr (.inr (.inl ⟨p1,p2,xs,ys,rfl,rfl,h1,h2,λz=>h0 (i1.dJ.mp z),by rw [i1.length,i2.length,fW];exact hl,λz=>?_,λz p hp=>q _ _ (jl hp _) (Az hO hp (i1.append i2))⟩))
   have z':=i2.dJ.mp z
   subst z'
   rw [mM] at q
   exact q _ H (ar.refl _) hx
  | _=>cases e
 | str a=>cases b with
  | str b =>
   obtain ⟨hl,rfl⟩:=il (show (if a.length+b.length<=16777216 then some (Sl.sh (.str (a++b))) else none)=some s from e)
   exact .inr (.inr (.inr (.inl ⟨a,b,Ij hx,Ij hy,by rw [fW];exact hl,q _ H (ar.refl _) (Is.str _)⟩)))
  | _=>cases e
 | _=>cases e
theorem map_some{α β:Type}{o:Option α}{f:α->β}{b:β}(h:o.map f=some b):∃a,o=some a/\f a=b:=by
 cases o with
 | none=>cases h
 | some a=>exact ⟨a,rfl,cF h⟩
noncomputable def D.cE:D->Bool
 | .aS=>true
 | _=>false
theorem N0{K:aB}{O:Addr->Prop}{H:Hp}{x:V}{a:D}(hx:Is K O H x a):decide (x=.aS)=a.cE:=by
 cases hx<;>simp [D.cE]
noncomputable def qg:D->D->Option Sl:=λa b=>if b.cE=true then some (.sh (.bl a.cE)) else none
noncomputable def HU:D->D->Option Sl:=λa b=>if b.cE=true then some (.sh (.bl !a.cE)) else none
theorem OH{b:D}(h:b.cE=true):b=.aS:=by cases b<;>first | rfl | cases h
theorem Nt:jy X (compareOp .Is) qg:=by
 refine ⟨_,Xg,λO H x y a b s Q hO hx hy e q=>?_⟩
 obtain ⟨hb,rfl⟩:=il e
 rw [OH hb] at hy
 exact ⟨Ii hy,by rw [N0 hx];exact q _ H (ar.refl _) (Is.bl _)⟩
theorem Yd:jy X (compareOp .IsNot) HU:=by
 refine ⟨_,Yi,λO H x y a b s Q hO hx hy e q=>?_⟩
 obtain ⟨hb,rfl⟩:=il e
 rw [OH hb] at hy
 exact ⟨Ii hy,by rw [N0 hx];exact q _ H (ar.refl _) (Is.bl _)⟩
end
section
variable {X:Cx}{a b c:Expr}{pos p:Pos}{fa fb:En->Option Sl}{es:List Expr}{e:Expr}
def HK(X:Cx)(f:Value)(g:List D->Option Sl):Prop:=
 ∃r:List V->Hp->VK->Prop,bH X f r/\∀(O:Addr->Prop) (H:Hp) (xs:List V) (ds:List D) (s:Sl) (Q:VK),(∀q,O q->H q≠none)->aI X.K O H xs ds->g ds=some s ->
  (∀v H',ar H H'->Res X.K O H H' v s->Q v H')->r xs H Q
noncomputable def uF(g:List D->Option Sl)(fs:En->Option (List D)):En->Option Sl:=λenv=>(fs env).bind g
theorem AK{id:String}{x:Str}{g:List D->Option Sl}{fs:En->Option (List D)}(hc:HK X (.builtin id) g)(hg:Gl X x)(hm:X.mg x=none)(hv:bootBuiltins x=some (.builtin id))(ha:AV X (e::es) fs)(hn:x ≠ "__name__":=by decide)(jF:(x==("__debug__":Str))=false:=by decide)
  (he:starEach (e::es) X.env=(false,eval e X.env)::starEach es X.env:=by rfl)(dO:(backTo pos (starEach es X.env)).any (·.1)=false:=by rfl):
  EV X (.Call (.Name x p) (e::es) [] pos) (uF g fs):=by
 obtain ⟨r,hr,Va⟩:=hc
 obtain ⟨t,pt,k⟩:=ha
 refine ⟨_,r8 hr hg hm hv pt hn jF he dO,λO B σ H env s Q R e q=>?_⟩
 obtain ⟨ds,e1,e2⟩:=bind_some e
 refine k O B σ H env ds _ R e1 λvs H1 s1 r1=>?_
 exact Va (OO O σ env) H1 vs ds s Q (λq=>(R.grow s1).oo) r1 e2 λv H2 s2 r2=>q v H2 (s1.trans s2) (r2.from s1)
noncomputable def Ag:List D->Option Sl
 | [.int i,.int j]=>some (.sh (.int (if j<i then j else i)))
 | _=>none
noncomputable def vT:List D->Option Sl
 | [.int i,.int j]=>some (.sh (.int (if j>i then j else i)))
 | _=>none
theorem JB{K:aB}{O:Addr->Prop}{H:Hp}{xs:List V}{i j:Int}(h:aI K O H xs [.int i,.int j]):xs=[.int i,.int j]:=by
 cases h with
 | cons h t=>cases t with
  | cons h' t=>cases t;rw [fZ h,fZ h']
theorem Df{g:Int->Int->Option Sl}{ds:List D}{s:Sl}(e:(match ds with | [.int i,.int j]=>g i j | _=>none)=some s):∃i j,ds=[.int i,.int j]/\g i j=some s:=by
 split at e
 .exact ⟨_,_,rfl,e⟩
 .cases e
theorem N5(hc:X.calm=true):HK X (.builtin "min") Ag:=by
 refine ⟨_,b0W hc,λO H xs ds s Q hO h e q=>?_⟩
 obtain ⟨i,j,rfl,e⟩:=Df (g:=λi j=>some (.sh (.int (if j<i then j else i)))) e
 obtain rfl:=cF e
 exact ⟨i,j,JB h,q _ H (ar.refl _) (Is.int _)⟩
theorem IY(hc:X.calm=true):HK X (.builtin "max") vT:=by
 refine ⟨_,b0X hc,λO H xs ds s Q hO h e q=>?_⟩
 obtain ⟨i,j,rfl,e⟩:=Df (g:=λi j=>some (.sh (.int (if j>i then j else i)))) e
 obtain rfl:=cF e
 exact ⟨i,j,JB h,q _ H (ar.refl _) (Is.int _)⟩
noncomputable def bX(f:En->Option (Bool×List D)):En->Option Sl:=λenv=>(f env).map λx=>.sh (.int x.2.length)
noncomputable def HS(f:En->Option (Bool×List D)):En->Option Sl:=λenv=>(f env).map λx=>.ow x.2
noncomputable def Ar(f:En->Option (Bool×List D)):En->Option Sl:=λenv=>(f env).bind λx=>if x.1=true then some (.sh (.tup x.2)) else none
variable {ba:En->Option (Bool×List D)}
theorem ij(hg:Gl X "len")(hm:X.mg "len" = none)(ha:BV X a ba)(hs:starEach [a] X.env=[(false,eval a X.env)]:=by rfl):EV X (.Call (.Name "len" p) [a] [] pos) (bX ba):=by
 obtain ⟨t,pt,k⟩:=ha
 refine ⟨_,r8 a7h hg hm PySem.boot_len (lI pt md hs) (by decide) (by decide) hs rfl,λO B σ H env s Q R e q=>?_⟩
 obtain ⟨⟨kk,ds⟩,e1,rfl⟩:=map_some e
 refine k O B σ H env kk ds _ R e1 λl xs H1 s1 hq hx=>⟨l,xs,rfl,?_,?_⟩
 .cases kk with
  | true=>exact .inl hq
  | false=>exact .inr hq
 .rw [hx.length]
  exact q _ H1 s1 (Is.int _)
theorem YE(hg:Gl X "list")(hm:X.mg "list" = none)(ha:BV X a ba)(hs:starEach [a] X.env=[(false,eval a X.env)]:=by rfl):EV X (.Call (.Name "list" p) [a] [] pos) (HS ba):=by
 obtain ⟨t,pt,k⟩:=ha
 refine ⟨_,DG a7g hg hm (by decide +kernel) (lI pt md hs) (by decide) (by decide) hs rfl,λO B σ H env s Q R e q=>?_⟩
 obtain ⟨⟨kk,ds⟩,e1,rfl⟩:=map_some e
 refine k O B σ H env kk ds _ R e1 λl xs H1 s1 hq hx=>⟨l,xs,rfl,?_,λp hp=>?_⟩
 .cases kk with
  | true=>exact .inl hq
  | false=>exact .inr hq
 .exact q _ _ (s1.trans (jl hp _)) ((rY hp hx).from s1)
theorem OE(hg:Gl X "tuple")(hm:X.mg "tuple" = none)(ha:BV X a ba)(hs:starEach [a] X.env=[(false,eval a X.env)]:=by rfl):EV X (.Call (.Name "tuple" p) [a] [] pos) (Ar ba):=by
 obtain ⟨t,pt,k⟩:=ha
 refine ⟨_,DG a6j hg hm (by decide +kernel) (lI pt md hs) (by decide) (by decide) hs rfl,λO B σ H env s Q R e q=>?_⟩
 obtain ⟨⟨kk,ds⟩,e1,e2⟩:=bind_some e
 obtain ⟨h1,rfl⟩:=il e2
 refine k O B σ H env kk ds _ R e1 λl xs H1 s1 hq hx=>⟨l,xs,rfl,?_⟩
 cases (show kk=true from h1)
 exact .inl ⟨hq,λp hp=>q _ _ (s1.trans (jl hp _)) ((Az (O:=OO O σ env) (H:=H1) (λ_ z=>(R.grow s1).oo z) hp hx).from s1)⟩
end
section
variable {K:aB}{O:Addr->Prop}{B H H1:Hp}{σ:L2.St}{env:En}{v:V}{r:Sl}{i:Nat}
theorem Yj(h:j6 (σ.set i (some v)) (env.set i r) q):j6 σ env q\/(r.own/\v=.ref q):=by
 obtain ⟨j,t,h1,ho,h2⟩:=h
 by_cases hj:i=j
 .subst hj
  rw [Hv] at h1 h2
  rw [if_pos rfl] at h1 h2
  split at h1
  .cases h1
   split at h2
   .cases h2;exact .inr ⟨ho,rfl⟩
   .cases h2
  .cases h1
 .rw [eD hj] at h1 h2
  exact .inl ⟨j,t,h1,ho,h2⟩
theorem Res.fresh(h:Res K O B H v r)(ho:r.own):∃p,v=.ref p/\B p=none/\H p≠none:=by
 cases r with
 | no=>exact ho.elim
 | sh d=>exact ho.elim
 | ow ds=>obtain ⟨p,xs,e1,e2,e3,_⟩:=h;exact ⟨p,e1,e2,by rw [e3];exact λz=>nomatch z⟩
 | dw br=>obtain ⟨p,e1,e2,e3⟩:=h;exact ⟨p,e1,e2,by rw [e3];exact λz=>nomatch z⟩
theorem Rel.set(R:Rel K O B σ H env)(s:ar H H1)(h:Res K (OO O σ env) H H1 v r)(hi:i<env.length):
  Rel K O B (σ.set i (some v)) H1 (env.set i r)/\Gd σ env H (σ.set i (some v)) (env.set i r) H1:=by
 have new:∀q,j6 (σ.set i (some v)) (env.set i r) q->j6 σ env q\/(H q=none/\r.own/\v=.ref q):=λq z=>by
  rcases Yj z with z | ⟨ho,rfl⟩
  .exact .inl z
  .obtain ⟨p,e1,e2,_⟩:=h.fresh ho
   cases e1
   exact .inr ⟨e2,ho,rfl⟩
 have hO:∀q,H q≠none->¬OO O σ env q->¬OO O (σ.set i (some v)) (env.set i r) q:=λq hq hn z=>by
  rcases z with z | z
  .exact hn (.inl z)
  .rcases new q z with z | ⟨z,_⟩
   .exact hn (.inr z)
   .exact hq z
 have hH:∀q u,H q=some u->¬OO O σ env q->H1 q=some u:=λq u e _=>s q u e
 have lY:i<σ.length:=by rw [R.len];exact hi
 refine ⟨⟨R.same.trans s,R.nh,by simp [R.len],λj d e=>?_,λj ds e=>?_,λj br e=>?_,λj k ds es p e1 e2 e3 e4 o1 o2=>?_⟩,λq u e n=>⟨s q u e,λz=>?_⟩⟩
 .by_cases hj:i=j
  .subst hj
   rw [iF hi] at e
   cases e
   refine ⟨v,by rw [iF lY],Is.less (O:=OO O σ env) (λq z=>z.elim .inl λz=>?_) h⟩
   rcases new q z with z | ⟨_,z,_⟩
   .exact .inr z
   .exact z.elim
  .rw [eD hj] at e
   obtain ⟨w,e1,h1⟩:=R.sh j d e
   exact ⟨w,by rw [eD hj];exact e1,h1.map hO hH⟩
 .by_cases hj:i=j
  .subst hj
   rw [iF hi] at e
   cases e
   obtain ⟨p,xs,rfl,e2,e3,h1⟩:=h
   refine ⟨p,xs,by rw [iF lY],R.same.free e2,e3,h1.less λq z=>?_⟩
   rcases z with z | z
   .exact .inl (.inl z)
   .rcases new q z with z | ⟨_,_,z⟩
    .exact .inl (.inr z)
    .cases z;exact .inr rfl
  .rw [eD hj] at e
   obtain ⟨p,xs,e1,e2,e3,h1⟩:=R.ow j ds e
   exact ⟨p,xs,by rw [eD hj];exact e1,e2,s _ _ e3,h1.map hO hH⟩
 .by_cases hj:i=j
  .subst hj
   rw [iF hi] at e
   cases e
   obtain ⟨p,rfl,e2,e3⟩:=h
   exact ⟨p,by rw [iF lY],R.same.free e2,e3⟩
  .rw [eD hj] at e
   obtain ⟨p,e1,e2,e3⟩:=R.dw j br e
   exact ⟨p,by rw [eD hj];exact e1,e2,s _ _ e3⟩
 .have other:∀j t,j≠i->env[j]?=some t->t.own->σ[j]?=some (some (V.ref p))->r.own->v≠.ref p:=λj t hj e ho e' hr z=>by
   obtain ⟨p',rfl,e2,_⟩:=h.fresh hr
   cases z
   obtain ⟨p2,u,e5,_,e6⟩:=R.ad e ho
   rw [e'] at e5
   cases e5
   rw [e2] at e6
   cases e6
  by_cases hj:i=j
  .by_cases hk:i=k
   .rw [<-hj,<-hk]
   .subst hj
    rw [iF hi] at e1
    rw [iF lY] at e3
    rw [eD hk] at e2 e4
    cases e1
    cases e3
    exact absurd rfl (other k es (gJ hk) e2 o2 e4 o1)
  .by_cases hk:i=k
   .subst hk
    rw [iF hi] at e2
    rw [iF lY] at e4
    rw [eD hj] at e1 e3
    cases e2
    cases e4
    exact absurd rfl (other j ds (gJ hj) e1 o1 e3 o2)
   .rw [eD hj] at e1 e3
    rw [eD hk] at e2 e4
    exact R.sep j k ds es p e1 e2 e3 e4 o1 o2
 .rcases new q z with z | ⟨z,_⟩
  .exact n z
  .rw [e] at z;cases z
theorem Rel.QA{p:Addr}{u':HO}{t t':Sl}(R:Rel K O B σ H env)(he:env[i]?=some t)(ho:t.own)(my:t'.own)(hs:σ[i]?=some (some (V.ref p)))
  (hx:(∀fH,t'=.ow fH->∃iJ,u'=.lst iJ/\aI K (OO O σ env) H iJ fH)/\∀yg,t'=.dw yg->u'=Gr yg):
  Rel K O B σ (upd H p u') (env.set i t')/\Gd σ env H σ (env.set i t') (upd H p u'):=by
 have hi:i<env.length:=(kr.mp he).1
 have own:∀q,j6 σ (env.set i t') q->j6 σ env q:=λq ⟨j,es,e1,e3,e2⟩=>by
  by_cases hj:i=j
  .subst hj;exact ⟨i,t,he,ho,e2⟩
  .rw [eD hj] at e1;exact ⟨j,es,e1,e3,e2⟩
 have xK:j6 σ env p:=⟨i,t,he,ho,hs⟩
 obtain ⟨p0,u0,f1,f2,f3⟩:=R.ad he ho
 rw [hs] at f1
 cases f1
 have hO:∀q,H q≠none->¬OO O σ env q->¬OO O σ (env.set i t') q:=λq _ hn z=>hn (z.elim .inl λz=>.inr (own q z))
 have hH:∀q u,H q=some u->¬OO O σ env q->upd H p u' q=some u:=λq u e n=>by
  rw [cR (λz=>n (.inr (by rw [z];exact xK)))]
  exact e
 refine ⟨⟨λq u e=>?_,R.nh,by simp [R.len],λj d e=>?_,λj es e=>?_,λj br e=>?_,λj k es fs q e1 e2 e3 e4 o1 o2=>?_⟩,λq u e n=>⟨?_,λz=>n (own q z)⟩⟩
 .rw [cR (pI e f2)];exact R.same q u e
 .by_cases hj:i=j
  .subst hj;rw [iF hi] at e;cases e;exact my.elim
  .rw [eD hj] at e
   obtain ⟨w,e1,h1⟩:=R.sh j d e
   exact ⟨w,e1,h1.map hO hH⟩
 .by_cases hj:i=j
  .subst hj
   rw [iF hi] at e
   cases e
   obtain ⟨iJ,hu,js⟩:=hx.1 _ rfl
   exact ⟨p,iJ,hs,f2,by rw [me,hu],js.map hO hH⟩
  .rw [eD hj] at e
   obtain ⟨p2,Ea,e1,e2,e3,h1⟩:=R.ow j es e
   refine ⟨p2,Ea,e1,e2,?_,h1.map hO hH⟩
   rw [cR (λz=>hj (R.sep i j t _ p he e hs (by rw [e1,z]) ho trivial))]
   exact e3
 .by_cases hj:i=j
  .subst hj
   rw [iF hi] at e
   cases e
   exact ⟨p,hs,f2,by rw [me,hx.2 _ rfl]⟩
  .rw [eD hj] at e
   obtain ⟨p2,e1,e2,e3⟩:=R.dw j br e
   refine ⟨p2,e1,e2,?_⟩
   rw [cR (λz=>hj (R.sep i j t _ p he e hs (by rw [e1,z]) ho trivial))]
   exact e3
 .have fix:∀(j:Nat) (es:Sl),(env.set i t')[j]?=some es->es.own->∃gs:Sl,env[j]?=some gs/\gs.own:=λj es e o=>by
   by_cases hj:i=j
   .subst hj;exact ⟨t,he,ho⟩
   .rw [eD hj] at e;exact ⟨es,e,o⟩
  obtain ⟨g1,h1,q1⟩:=fix j es e1 o1
  obtain ⟨g2,h2,q2⟩:=fix k fs e2 o2
  exact R.sep j k g1 g2 q h1 h2 e3 e4 q1 q2
 .rw [cR (λz=>n (by rw [z];exact xK))];exact e
theorem Rel.wr(R:Rel K O B σ H env)(he:env[i]?=some (Sl.ow ds))(hs:σ[i]?=some (some (V.ref p)))(hx:aI K (OO O σ env) H iJ fH):
  Rel K O B σ (upd H p (.lst iJ)) (env.set i (.ow fH))/\Gd σ env H σ (env.set i (.ow fH)) (upd H p (.lst iJ)):=
 R.QA (t':=.ow fH) he trivial trivial hs (c3c (λ_ e=>by cases e;exact ⟨iJ,rfl,hx⟩) λ_ e=>nomatch e)
theorem Rel.y3{t:Sl}(R:Rel K O B σ H env)(he:env[i]?=some t)(ho:t.own):Rel K O B σ H (env.set i (.sh t.d))/\Gd σ env H σ (env.set i (.sh t.d)) H:=by
 have hi:i<env.length:=(kr.mp he).1
 obtain ⟨p,u0,f1,f2,f3⟩:=R.ad he ho
 have own:∀q,j6 σ (env.set i (.sh t.d)) q->j6 σ env q/\q≠p:=λq ⟨j,es,e1,o,e2⟩=>by
  by_cases hj:i=j
  .subst hj;rw [iF hi] at e1;cases e1;exact o.elim
  .rw [eD hj] at e1
   exact ⟨⟨j,es,e1,o,e2⟩,λz=>hj (R.sep i j t es p he e1 f1 (by rw [e2,z]) ho o)⟩
 have less:∀q,OO O σ (env.set i (.sh t.d)) q->OO O σ env q:=λq z=>z.elim .inl λz=>.inr (own q z).1
 have np:¬OO O σ (env.set i (.sh t.d)) p:=λz=>z.elim (λz=>R.nh.1 p z f2) λz=>(own p z).2 rfl
 refine ⟨⟨R.same,R.nh,by simp [R.len],λj d e=>?_,λj es e=>?_,λj br e=>?_,λj k es fs q e1 e2 e3 e4 o1 o2=>?_⟩,λq u e n=>⟨e,λz=>n (own q z).1⟩⟩
 .by_cases hj:i=j
  .subst hj
   rw [iF hi] at e
   cases e
   refine ⟨.ref p,f1,?_⟩
   cases t with
   | no=>exact ho.elim
   | sh d=>exact ho.elim
   | ow ds =>
    obtain ⟨p',xs,g1,g2,g3,g4⟩:=R.ow i ds he
    rw [f1] at g1;cases g1
    exact .lst np g3 (g4.less less)
   | dw br =>
    obtain ⟨p',g1,g2,g3⟩:=R.dw i br he
    rw [f1] at g1;cases g1
    exact .fD np g3
  .rw [eD hj] at e
   obtain ⟨w,e1,h1⟩:=R.sh j d e
   exact ⟨w,e1,h1.less less⟩
 .by_cases hj:i=j
  .subst hj;rw [iF hi] at e;cases e
  .rw [eD hj] at e
   obtain ⟨p2,Ea,e1,e2,e3,h1⟩:=R.ow j es e
   exact ⟨p2,Ea,e1,e2,e3,h1.less less⟩
 .by_cases hj:i=j
  .subst hj;rw [iF hi] at e;cases e
  .rw [eD hj] at e
   exact R.dw j br e
 .have fix:∀(j:Nat) (es:Sl),(env.set i (.sh t.d))[j]?=some es->es.own->env[j]?=some es:=λj es e o=>by
   by_cases hj:i=j
   .subst hj;rw [iF hi] at e;cases e;exact o.elim
   .rw [eD hj] at e;exact e
  exact R.sep j k es fs q (fix j es e1 o1) (fix k fs e2 o2) e3 e4 o1 o2
theorem Rel.iW{ds:List D}(R:Rel K O B σ H env)(he:env[i]?=some (Sl.ow ds)):Rel K O B σ H (env.set i (.sh (.lst false ds)))/\Gd σ env H σ (env.set i (.sh (.lst false ds))) H:=R.y3 he trivial
end
section
variable {X:Cx}{st:Stmt}{rest:List Stmt}{F G:SF}{a b c e:Expr}{fa:En->Option Sl}{ga:En->Option Bool}{pos:Pos}
noncomputable def cK:SF:=λenv=>some (.nx,env)
noncomputable def Ez:SF:=λenv=>some (.bk,env)
noncomputable def Rn:SF:=λenv=>some (.ct,env)
noncomputable def aj(F G:SF):SF:=λenv=>match F env with
 | some (.nx,bJ)=>G bJ
 | r=>r
theorem dW:jY X [] cK:=⟨_,Yv,λO B σ H env fl ak D R e q=>by
 cases (show some (Fl.nx,env)=some (fl,ak) from e)
 exact q σ H R (Gd.refl (ar.refl _))⟩
theorem aO(h:SV X st F):jY X [st] F:=let ⟨t,p,k⟩:=h;⟨t,Yw p,k⟩
theorem aK(h:SV X st F)(h2:jY X rest G):jY X (st::rest) (aj F G):=by
 obtain ⟨t,p,k⟩:=h
 obtain ⟨u,p',k'⟩:=h2
 refine ⟨_,Z0 p p',λO B σ H env fl ak D R e q=>?_⟩
 unfold aj at e
 cases hF:F env with
 | none=>rw [hF] at e;cases e
 | some x =>
  obtain ⟨f1,bJ⟩:=x
  rw [hF] at e
  refine k O B σ H env f1 bJ _ R hF ?_
  cases f1 with
  | nx=>exact λaE H' R' g'=>k' O B aE H' bJ fl ak D R' e (q.from g')
  | bk=>cases e;exact q
  | ct=>cases e;exact q
  | rt r=>cases e;exact q
theorem ZC:SV X (.Break pos) Ez:=⟨_,ZY,λO B σ H env fl ak D R e q=>by
 cases (show some (Fl.bk,env)=some (fl,ak) from e)
 exact q σ H R (Gd.refl (ar.refl _))⟩
noncomputable def cc(c:En->Option Bool)(F G:SF):SF:=λenv=>match c env with
 | some true=>F env
 | some false=>G env
 | none=>none
theorem du(hc:TV X c ga)(ha:jY X sa F)(hb:jY X sb G):SV X (.If c sa sb pos) (cc ga F G):=by
 obtain ⟨tc,pc,kc⟩:=hc
 obtain ⟨t,p,k⟩:=ha
 obtain ⟨u,p',k'⟩:=hb
 refine ⟨_,xC pc p p',λO B σ H env fl ak D R e q=>?_⟩
 unfold cc at e
 cases h:ga env with
 | none=>rw [h] at e;cases e
 | some x =>
  rw [h] at e
  refine kc O B σ H env x _ R h λH1 s1=>?_
  cases x with
  | true =>
   rw [if_pos rfl]
   exact k O B σ H1 env fl ak D (R.grow s1) e (q.from (Gd.refl s1))
  | false =>
   rw [if_neg lx]
   exact k' O B σ H1 env fl ak D (R.grow s1) e (q.from (Gd.refl s1))
noncomputable def aD(f:En->Option Sl):SF:=λenv=>(f env).map λr=>(.rt r,env)
theorem bL(h:EV X e fa):SV X (.Return (some e) pos) (aD fa):=by
 obtain ⟨t,p,k⟩:=h
 refine ⟨_,Ny p,λO B σ H env fl ak D R e q=>?_⟩
 obtain ⟨r,e1,e2⟩:=map_some e
 cases e2
 exact k O B σ H env r _ R e1 λv H1 s1 r1=>q v H1 (R.same.trans s1) ((r1.from R.same).less λq z=>.inl z)
noncomputable def xk:SF:=λenv=>some (.rt (.sh .aS),env)
noncomputable def nF(i:Nat):SF:=λenv=>match env[i]? with
 | some (.ow ds)=>some (.rt (.ow ds),env)
 | some (.dw ds)=>some (.rt (.dw ds),env)
 | some (.sh d)=>some (.rt (.sh d),env)
 | _=>none
theorem YX(i:Nat){x:Str}{p2:Pos}(hN:X.N[i]?=some x:=by rfl)(hv:gU X.env.scope x:=by first | exact bY rfl | exact be (bY rfl) | exact be (be rfl))(hd:(x==("__debug__":Str))=false:=by decide)
  (cM:(x==("__classdict__":Str))=false:=by decide):SV X (.Return (some (.Name x p2)) pos) (nF i):=by
 refine ⟨_,Ny (rT hN hv hd cM),λO B σ H env fl ak D R e q=>?_⟩
 unfold nF at e
 cases h:env[i]? with
 | none=>rw [h] at e;cases e
 | some s =>
  rw [h] at e
  cases s with
  | no=>cases e
  | sh d =>
   cases e
   obtain ⟨v,e2,hv⟩:=R.sh i d h
   exact ⟨v,e2,q v H R.same (Is.less (λq z=>.inl z) hv)⟩
  | ow ds =>
   cases e
   obtain ⟨p,xs,e1,e2,e3,h1⟩:=R.ow i ds h
   exact ⟨_,e1,q _ H R.same ⟨p,xs,rfl,e2,e3,h1.less λq z=>z.elim .inl λz=>.inr ⟨i,.ow ds,h,trivial,by rw [z];exact e1⟩⟩⟩
  | dw br =>
   cases e
   obtain ⟨p,e1,e2,e3⟩:=R.dw i br h
   exact ⟨_,e1,q _ H R.same ⟨p,rfl,e2,e3⟩⟩
noncomputable def df(i:Nat)(f:En->Option Sl):SF:=λenv=>(f env).bind λr=>if i<env.length then some (.nx,env.set i r) else none
theorem NH(hN:X.N.Nodup)(hi:X.N[i]?=some x)(hx:Loc X.env.scope x)(he:EV X e fa)(hs:swapsWith e (some (.Name x pos')) pos.line X.env=pure false:=by rfl)(hf:X.fn x=true\/X.env.scope.names.lookup x=some .local:=by first | exact .inl rfl | exact .inr rfl | assumption):
  SV X (.Assign [.Name x pos'] e pos) (df i fa):=by
 obtain ⟨t,p,k⟩:=he
 refine ⟨_,IB hN hi hx p hs hf,λO B σ H env fl ak D R e q=>?_⟩
 obtain ⟨r,e1,e2⟩:=bind_some e
 obtain ⟨hl,e3⟩:=il e2
 cases e3
 refine k O B σ H env r _ R e1 λv H1 s1 r1=>?_
 obtain ⟨R',g'⟩:=R.set s1 r1 hl
 exact q _ H1 R' g'
noncomputable def bD(i:Nat)(f:En->Option Sl):SF:=λenv=>(f env).bind λr=>if i<env.length then some (.nx,env.set i (.sh r.d)) else none
theorem Og(hN:X.N.Nodup)(hi:X.N[i]?=some x)(hx:Loc X.env.scope x)(he:EV X e fa)(hs:swapsWith e (some (.Name x pos')) pos.line X.env=pure false:=by rfl)(hf:X.fn x=true\/X.env.scope.names.lookup x=some .local:=by first | exact .inl rfl | exact .inr rfl | assumption):
  SV X (.Assign [.Name x pos'] e pos) (bD i fa):=by
 obtain ⟨t,p,k⟩:=he
 refine ⟨_,IB hN hi hx p hs hf,λO B σ H env fl ak D R e q=>?_⟩
 obtain ⟨r,e1,e2⟩:=bind_some e
 obtain ⟨hl,e3⟩:=il e2
 cases e3
 refine k O B σ H env r _ R e1 λv H1 s1 r1=>?_
 obtain ⟨R',g'⟩:=R.set (r:=.sh r.d) s1 (r1.is λq=>R.oo) hl
 exact q _ H1 R' g'
noncomputable def xl(f:En->Option Sl):SF:=λenv=>(f env).map λ_=>(.nx,env)
noncomputable def og(i:Nat)(env:En):En:=match env[i]? with
 | some (.ow ds)=>env.set i (.sh (.lst false ds))
 | some (.dw ds)=>env.set i (.sh (.fD false ds))
 | _=>env
noncomputable def kM(i:Nat)(F:SF):SF:=λenv=>F (og i env)
theorem De(i:Nat)(h:SV X st F):SV X st (kM i F):=by
 obtain ⟨t,p,k⟩:=h
 refine ⟨t,p,λO B σ H env fl ak D R e q=>?_⟩
 unfold kM og at e
 cases h:env[i]? with
 | none=>rw [h] at e;exact k O B σ H env fl ak D R e q
 | some s =>
  rw [h] at e
  cases s with
  | no=>exact k O B σ H env fl ak D R e q
  | sh d=>exact k O B σ H env fl ak D R e q
  | ow ds =>
   obtain ⟨R',g'⟩:=R.iW h
   exact k O B σ H _ fl ak D R' e (q.from g')
  | dw ds =>
   obtain ⟨R',g'⟩:=R.y3 h trivial
   exact k O B σ H _ fl ak D R' e (q.from g')
noncomputable def cL(i:Nat)(f:En->Option Sl):SF:=λenv=>match env[i]? with
 | some (.ow ds)=>(f env).bind λr=>if ds.length<16777216 then some (.nx,env.set i (.ow (ds++[r.d]))) else none
 | _=>none
theorem Pl{i:Nat}{x:Str}{p1 p2 aR:Pos}(ha:EV X e fa)(hN:X.N[i]?=some x:=by rfl)(hv:gU X.env.scope x:=by first | exact bY rfl | exact be (bY rfl) | exact be (be rfl))(hd:(x==("__debug__":Str))=false:=by decide)
  (cM:(x==("__classdict__":Str))=false:=by decide)(hs:starEach [e] X.env=[(false,eval e X.env)]:=by rfl)
  (bP:attributeBase (.Name x p1) "append" X.env (eval (.Name x p1) X.env)=eval (.Name x p1) X.env:=by rfl)
  (gr:((backTo aR (starEach [e] X.env)).all (λx=>!x.1)&&(backToKw aR (keywordEach [] X.env)).all (λx=>x.1.isSome)
   && decide ([e].length+([]:List Keyword).length+(if ([]:List Keyword).isEmpty then 0 else 1)<30))=true:=by rfl)
  (bO:(p2.endLine==aR.line)=true:=by rfl)
  (p8:swapsWith (.Call (.Attribute (.Name x p1) "append" p2) [e] [] aR) none pos.line X.env=pure false:=by rfl):
  SV X (.Expr (.Call (.Attribute (.Name x p1) "append" p2) [e] [] aR) pos) (cL i fa):=by
 obtain ⟨t,p,k⟩:=ha
 refine ⟨_,Ou (M0 HH Mc PySem.F.type_list_append a93 (rT hN hv hd cM) (lI p md hs) bP gr bO hs rfl) p8,λO B σ H env fl ak D R e q=>?_⟩
 unfold cL at e
 cases h:env[i]? with
 | none=>rw [h] at e;cases e
 | some s =>
  rw [h] at e
  cases s with
  | no=>cases e
  | sh d=>cases e
  | dw br=>cases e
  | ow ds =>
   obtain ⟨r,e1,e2⟩:=bind_some e
   obtain ⟨hl,e3⟩:=il e2
   cases e3
   obtain ⟨l,xs,f1,f2,f3,f4⟩:=R.ow i ds h
   refine ⟨_,f1,.inl ⟨rfl,_,dH.of f3⟩,?_⟩
   refine k O B σ H env r _ R e1 λv H1 s1 r1=>⟨l,xs,v,rfl,rfl,s1 _ _ f3,by rw [f4.length,fW];exact hl,?_⟩
   obtain ⟨R',g'⟩:=(R.grow s1).wr h f1 ((f4.grow s1).append (.cons (r1.is λq=>R.oo) .nil))
   exact q _ _ R' (g'.from s1)
end
section
variable {X:Cx}{st:Stmt}{F:SF}{a b c e tg it:Expr}{fa:En->Option Sl}{ba:En->Option (Bool×List D)}{ga:En->Option Bool}{pos:Pos}
noncomputable abbrev GF:=D->En->Option En
def GV(X:Cx)(tg:Expr)(g:GF):Prop:=
 ∃t:TG,PG X tg t/\∀(O:Addr->Prop) (B:Hp) (σ:L2.St) (H:Hp) (env ak:En) (v:V) (d:D) (Q:L2.St->Hp->Prop),Rel X.K O B σ H env->Is X.K (OO O σ env) H v d->g d env=some ak ->
  (∀aE H',Rel X.K O B aE H' ak->Gd σ env H aE ak H'->Q aE H')->t v σ H Q
noncomputable def gN(i:Nat):GF:=λd env=>if i<env.length then some (env.set i (.sh d)) else none
theorem YL(hN:X.N.Nodup)(hi:X.N[i]?=some x)(hx:Loc X.env.scope x)(hf:X.fn x=true\/X.env.scope.names.lookup x=some .local:=by first | exact .inl rfl | exact .inr rfl | assumption):GV X (.Name x pos) (gN i):=by
 refine ⟨_,Yp hN hi hx hf,λO B σ H env ak v d Q R h e q=>?_⟩
 obtain ⟨hl,rfl⟩:=il e
 obtain ⟨R',g'⟩:=R.set (r:=.sh d) (ar.refl _) h hl
 exact q _ H R' g'
noncomputable abbrev uZ:=List D->En->Option En
def D7(X:Cx)(tg:List Expr)(g:uZ):Prop:=
 ∃t:sj,Bi X tg t/\∀(O:Addr->Prop) (B:Hp) (σ:L2.St) (H:Hp) (env ak:En) (v:List V) (d:List D) (Q:L2.St->Hp->Prop),Rel X.K O B σ H env->aI X.K (OO O σ env) H v d->g d env=some ak ->
  (∀aE H',Rel X.K O B aE H' ak->Gd σ env H aE ak H'->Q aE H')->t v σ H Q
noncomputable def vU:uZ:=λds env=>match ds with
 | []=>some env
 | _::_=>none
noncomputable def kF(g:GF)(u:uZ):uZ:=λds env=>match ds with
 | d::r=>(g d env).bind (u r)
 | []=>none
theorem IP:D7 X [] vU:=by
 refine ⟨_,Yq,λO B σ H env ak v d Q R h e q=>?_⟩
 cases h with
 | nil=>cases e;exact ⟨rfl,q σ H R (Gd.refl (ar.refl _))⟩
 | cons _ _=>cases e
theorem Gd.BE{K:aB}{O:Addr->Prop}{σ aE:L2.St}{env ak:En}{H H':Hp}(g:Gd σ env H aE ak H'){v:List V}{d:List D}(h:aI K (OO O σ env) H v d):aI K (OO O aE ak) H' v d:=
 h.map (λq hq hn z=>by
  cases e:H q with
  | none=>exact hq e
  | some u =>
   obtain ⟨_,n'⟩:=g q u e λw=>hn (.inr w)
   exact z.elim (λw=>hn (.inl w)) n') λq u e n=>(g q u e λw=>n (.inr w)).1
theorem pF{es:List Expr}{g:GF}{u:uZ}(h1:GV X e g)(h2:D7 X es u)
  (hs:(assignEach (e::es) X.env).map (·.2)=assign e X.env::(assignEach es X.env).map (·.2):=by rfl):D7 X (e::es) (kF g u):=by
 obtain ⟨t,p,k⟩:=h1
 obtain ⟨t',p',k'⟩:=h2
 refine ⟨_,ZU p p' hs,λO B σ H env ak v d Q R h e q=>?_⟩
 cases h with
 | nil=>cases e
 | cons h ht =>
  obtain ⟨bJ,e1,e2⟩:=bind_some (show (g _ env).bind (u _)=some ak from e)
  refine ⟨_,_,rfl,k O B σ H env bJ _ _ _ R h e1 λgG H1 R1 g1=>?_⟩
  exact k' O B gG H1 bJ ak _ _ Q R1 (g1.BE ht) e2 λcu H2 R2 g2=>q cu H2 R2 (g1.trans g2)
noncomputable def gT(n:Nat)(u:uZ):GF:=λd env=>match d with
 | .tup ds=>if ds.length=n then u ds env else none
 | _=>none
theorem Ig{es:List Expr}{k n:Nat}{u:uZ}(hc:X.calm=true)(h:D7 X es u)(hn:(assignEach es X.env).length=n:=by rfl)(tj:(assignEach es X.env).findIdx? (·.1)=none:=by rfl):GV X (.Tuple es k pos) (gT n u):=by
 obtain ⟨t,p,k'⟩:=h
 refine ⟨_,Xq hc p hn tj,λO B σ H env ak v d Q R h e q=>?_⟩
 cases d with
 | tup ds =>
  have e':(if ds.length=n then u ds env else none)=some ak:=e
  by_cases hl:ds.length=n
  .rw [if_pos hl] at e'
   obtain ⟨a,xs,rfl,h1,h2⟩:=As h
   exact ⟨a,xs,rfl,h1,by rw [h2.length];exact hl,k' O B σ H env ak xs ds Q R h2 e' q⟩
  .rw [if_neg hl] at e';cases e'
 | _=>cases e
noncomputable def xm(f:En->Option Sl)(g:GF):SF:=λenv=>(f env).bind λr=>(g r.d env).map λak=>(.nx,ak)
noncomputable def forL(g:GF)(F:SF):List D->SF
 | [],env=>some (.nx,env)
 | d::ds,env=>match g d env with
  | none=>none
  | some bJ=>match F bJ with
   | some (.nx,bh)=>forL g F ds bh
   | some (.ct,bh)=>forL g F ds bh
   | some (.bk,bh)=>some (.nx,bh)
   | some (.rt r,bh)=>some (.rt r,bh)
   | none=>none
structure Left(K:aB)(O:Addr->Prop)(B:Hp)(pK:L2.St)(H0:Hp)(fL:En)(g:GF)(F:SF)(ds:List D)(fl:Fl)(ak:En)(i:Nat)(σ:L2.St)(H:Hp):Prop where
 ex:∃env,Rel K O B σ H env/\Gd pK fL H0 σ env H/\forL g F (ds.drop i) env=some (fl,ak)
theorem Je{g:GF}{pO:TG}{tb:TS}{O:Addr->Prop}{B:Hp}{pK:L2.St}{H0:Hp}{fL ak:En}{fl:Fl}{D:Ends}{ds:List DL.D}{xs:List V}{i:Nat}{x:V}{σ:L2.St}{H:Hp}
  (kg:∀(O:Addr->Prop) (B:Hp) (σ:L2.St) (H:Hp) (env ak:En) (v:V) (d:DL.D) (Q:L2.St->Hp->Prop),Rel X.K O B σ H env->Is X.K (OO O σ env) H v d->g d env=some ak ->
   (∀aE H',Rel X.K O B aE H' ak->Gd σ env H aE ak H'->Q aE H')->pO v σ H Q)
  (kb:∀(O:Addr->Prop) (B:Hp) (σ:L2.St) (H:Hp) (env:En) (fl:Fl) (ak:En) (D:Ends),Rel X.K O B σ H env->F env=some (fl,ak)->de X.K O B σ H env D fl ak->tb D σ H)
  (hx:aI X.K (OO O pK fL) H0 xs ds)(hi:xs[i]?=some x)(q:de X.K O B pK H0 fL D fl ak)(h:Left X.K O B pK H0 fL g F ds fl ak i σ H):
  pO x σ H λcu H2=>tb { D with nx:=Left X.K O B pK H0 fL g F ds fl ak (i+1),ct:=Left X.K O B pK H0 fL g F ds fl ak (i+1),bk:=D.nx } cu H2:=by
 obtain ⟨env,R,gd,e⟩:=h
 obtain ⟨d,hd,_⟩:=hx.tS hi
 have FG:i<ds.length:=(kr.mp hd).1
 have kZ:ds.drop i=d::ds.drop (i+1):=by
  rw [mK FG]
  rw [gO FG] at hd
  rw [cF hd]
 obtain ⟨x',js,UI⟩:=(gd.BE hx).get hd
 rw [hi] at js
 cases js
 rw [kZ,forL] at e
 cases hg:g d env with
 | none=>rw [hg] at e;cases e
 | some bJ =>
  rw [hg] at e
  refine kg O B σ H env bJ x d _ R UI hg λgG H1 R1 g1=>?_
  dsimp only at e
  cases hF:F bJ with
  | none=>rw [hF] at e;cases e
  | some y =>
   obtain ⟨f2,bh⟩:=y
   rw [hF] at e
   have go:=gd.trans g1
   refine kb O B gG H1 bJ f2 bh _ R1 hF ?_
   cases f2 with
   | nx=>exact λcu H2 R2 g2=>⟨bh,R2,go.trans g2,e⟩
   | ct=>exact λcu H2 R2 g2=>⟨bh,R2,go.trans g2,e⟩
   | bk=>cases e;exact λcu H2 R2 g2=>q cu H2 R2 (go.trans g2)
   | rt r=>cases e;exact q
theorem DC{D:Ends}{ds:List DL.D}{n:Nat}(hn:ds.length<=n)
  (q:de X.K O B pK H0 fL D fl ak)(h:Left X.K O B pK H0 fL g F ds fl ak n σ H):D.nx σ H:=by
 obtain ⟨env,R,gd,e⟩:=h
 rw [pk hn,forL] at e
 cases e
 exact q σ H R gd
noncomputable def dg(f:En->Option Sl)(g:GF)(F:SF):SF:=λenv=>(f env).bind λr=>(d9 r.d).bind λx=>forL g F x.2 env
theorem Gd.sq{K:aB}{σ aE:L2.St}{env ak:En}{H H':Hp}(gd:Gd σ env H aE ak H'){k:Bool}{p:Addr}{xs:List V}(h:Sq K H k p xs)(hp:¬j6 σ env p\/H p=none):Sq K H' k p xs:=by
 have rd:∀u,Rd H p u->Rd H' p u:=λu z=>by
  rcases z with z | ⟨o,z⟩
  .rcases hp with hp | hp
   .exact .inl (gd p _ z hp).1
   .rw [hp] at z;cases z
  .rcases hp with hp | hp
   .exact .inr ⟨o,(gd p _ z hp).1⟩
   .rw [hp] at z;cases z
 cases k with
 | true =>
  rcases h with h | h
  .exact .inl (rd _ h)
  .exact .inr h
 | false =>
  rcases h with h | h
  .exact .inl (rd _ h)
  .exact .inr h
theorem Is.pU{K:aB}{O:Addr->Prop}{H:Hp}{v:V}{d:D}{k:Bool}{ds:List D}(h:Is K O H v d)(e:d9 d=some (k,ds)):∃p xs,v=.ref p/\Sq K H k p xs/\aI K O H xs ds/\(¬O p\/∀H',Sq K H' k p xs):=by
 cases h with
 | tup ho hp hs=>cases e;exact ⟨_,_,rfl,.inl hp,hs,.inl ho⟩
 | jD hp hs=>cases e;exact ⟨_,_,rfl,AI hp,hs,.inr λ_=>AI hp⟩
 | lst ho hp hs=>cases e;exact ⟨_,_,rfl,.inl (.inl hp),hs,.inl ho⟩
 | jB ho hp hs=>cases e;exact ⟨_,_,rfl,.inl hp,hs,.inl ho⟩
 | jE hp hs=>cases e;exact ⟨_,_,rfl,AH hp,hs,.inr λ_=>AH hp⟩
 | _=>cases e
noncomputable def E8(K:aB)(tl:TE):TI:=λσ H R=>tl σ H λx H1=>∃a,x=.ref a/\(((∃xs,dH K H1 a xs)/\R (Bm K a) H1)\/((∃xs,dR K H1 a xs)/\R (Bk K a) H1))
theorem Nv(hl:PE X l tl):PI X tg l (E8 X.K tl):=by
 intro pins s σ H R I h
 refine bz (hl pins s σ H _ I h) λv s1 ⟨x,H1,I1,r1,q1⟩=>?_
 obtain ⟨a,e,q1⟩:=q1
 subst e
 cases r1
 rcases q1 with ⟨⟨xs,hq⟩,q⟩ | ⟨⟨xs,hq⟩,q⟩
 .obtain ⟨aq,rv,p,hz⟩:=I1.list hq
  refine uq p.isList ?_
  refine ⟨s1.heap.objs.size,[s1.heap.objs.size],_,_,H1,rfl,I1.kept (t':=s1.toks) λb o e=>aZ _ e,a9n a _,⟨_,c9 _ rfl,rfl,rfl⟩,λb hb=>?_,q⟩
  have e:b=s1.heap.objs.size:=by simpa using hb
  subst e
  exact I1.iX (aV _) (I1.bb.fresh (aV _))
 .obtain ⟨aq,rv,p,hz⟩:=I1.tuple hq
  refine vO (show s1.heap.IsTuple a aq.toArray from p) ?_
  refine ⟨s1.heap.objs.size,[s1.heap.objs.size],_,_,H1,rfl,I1.kept (t':=s1.toks) λb o e=>aZ _ e,a8N a _,⟨_,c9 _ rfl,rfl,rfl⟩,λb hb=>?_,q⟩
  have e:b=s1.heap.objs.size:=by simpa using hb
  subst e
  exact I1.iX (aV _) (I1.bb.fresh (aV _))
theorem lJ(hp:PassesOwn (model X.prog X.w) X.A X.env X.xe)(hc:X.calm=true)(hi:EV X it fa)(hg:GV X tg g)(hb:jY X body F)
  (hs:∀x,foldedSetIterable it X.env x=pure x:=by intro _;rfl):SV X (.For tg it body [] pos) (dg fa g F):=by
 obtain ⟨ti,pi,ki⟩:=hi
 obtain ⟨pO,pg,kg⟩:=hg
 obtain ⟨tb,pb,kb⟩:=hb
 refine ⟨_,IA hp hc (Nv pi) pg pb hs,λO B σ H env fl ak D R e q=>?_⟩
 obtain ⟨r,e1,e2⟩:=bind_some e
 obtain ⟨⟨k,ds⟩,e4,e5⟩:=bind_some e2
 refine ki O B σ H env r _ R e1 λv H1 s1 r1=>?_
 obtain ⟨p,xs,rfl,h1,h2,h3⟩:=(r1.is λq=>R.oo).pU e4
 refine ⟨p,rfl,?_⟩
 have q':de X.K O B σ H1 env D fl ak:=q.from (Gd.refl s1)
 have keep:∀i cu H2,Left X.K O B σ H1 env g F ds fl ak i cu H2->Sq X.K H2 k p xs:=λi cu H2 L=>by
  rcases h3 with h3 | h3
  .obtain ⟨bh,_,gd,_⟩:=L
   exact gd.sq h1 (.inl λz=>h3 (.inr z))
  .exact h3 H2
 cases k with
 | true =>
  refine .inl ⟨⟨xs,h1⟩,?_⟩
  exact Zp (xs:=xs) (Left X.K O B σ H1 env g F ds fl ak) ⟨env,R.grow s1,Gd.refl (ar.refl _),e5⟩ (λi cu H2 _ L=>keep i cu H2 L) (λi x cu H2 hx L=>Je kg kb h2 hx q' L) (λcu H2 L=>DC (by rw [h2.length];exact aV _) q' L)
 | false =>
  refine .inr ⟨⟨xs,h1⟩,?_⟩
  exact YJ (xs:=xs) (Left X.K O B σ H1 env g F ds fl ak) ⟨env,R.grow s1,Gd.refl (ar.refl _),e5⟩ (λi cu H2 _ L=>keep i cu H2 L) (λi x cu H2 hx L=>Je kg kb h2 hx q' L) (λcu H2 L=>DC (by rw [h2.length];exact aV _) q' L)
noncomputable def dB(lo:Int)(n:Nat):List D:=(jt n).map λ(k:Nat)=>D.int (lo+(k:Int))
def R62(i:Int):Prop:=-(2^62)<=i/\i<2^62
noncomputable instance (i:Int):Decidable (R62 i):=by unfold R62;infer_instance
noncomputable def pV:List D->Option (List D)
 | [.int j]=>if R62 j then some (dB 0 j.toNat) else none
 | _=>none
noncomputable def EE:List D->Option (List D)
 | [.int i,.int j]=>if R62 i/\R62 j then some (dB i (j-i).toNat) else none
 | _=>none
noncomputable def CY(h:List D->Option (List D))(f:En->Option (List D))(g:GF)(F:SF):SF:=λenv=>(f env).bind λds=>(h ds).bind λis=>forL g F is env
theorem Y9{K:aB}{O:Addr->Prop}{H:Hp}(lo:Int)(n:Nat):aI K O H ((jt n).map λ(k:Nat)=>V.int (lo+(k:Int))) (dB lo n):=by
 have h:=aI.ints (K:=K) (O:=O) (H:=H) ((jt n).map λ(k:Nat)=>lo+(k:Int))
 rw [jh,jh] at h
 exact h
theorem Z5{K:aB}{O:Addr->Prop}{H:Hp}{xs:List V}{i:Int}(h:aI K O H xs [.int i]):xs=[.int i]:=by
 cases h with
 | cons h t=>cases t;rw [fZ h]
theorem YI{tb:TS}{pO:TG}{g:GF}{lo:Int}{n:Nat}{O:Addr->Prop}{B:Hp}{σ:L2.St}{H:Hp}{env ak:En}{fl:Fl}{D:Ends}
  (kg:∀(O:Addr->Prop) (B:Hp) (σ:L2.St) (H:Hp) (env ak:En) (v:V) (d:DL.D) (Q:L2.St->Hp->Prop),Rel X.K O B σ H env->Is X.K (OO O σ env) H v d->g d env=some ak ->
   (∀aE H',Rel X.K O B aE H' ak->Gd σ env H aE ak H'->Q aE H')->pO v σ H Q)
  (kb:∀(O:Addr->Prop) (B:Hp) (σ:L2.St) (H:Hp) (env:En) (fl:Fl) (ak:En) (D:Ends),Rel X.K O B σ H env->F env=some (fl,ak)->de X.K O B σ H env D fl ak->tb D σ H)
  (R:Rel X.K O B σ H env)(e:forL g F (dB lo n) env=some (fl,ak))(q:de X.K O B σ H env D fl ak):
  ∃W:Nat->Nat->L2.St->Hp->Prop,(∃m,W 0 m σ H)/\∀i m σ H,W i m σ H ->
   ((mY lo n).stop i H/\D.nx σ H)\/((mY lo n).go i H/\∃N:L2.St->Hp->Prop,(∀aE H',N aE H'->∃m',m'<m/\W (i+1) m' aE H')/\∀x H',(mY lo n).sy i H x H'->pO x σ H' λcu H2=>tb { D with nx:=N,ct:=N,bk:=D.nx } cu H2):=by
 refine b0w (Left X.K O B σ H env g F (dB lo n) fl ak) ⟨env,R,Gd.refl (ar.refl _),e⟩ (λi cu H2 hi L=>?_) (λcu H2 L=>DC (by simp [dB]) q L)
 exact Je kg kb (Y9 lo n) (by simp [hi]) q L
theorem ZD{body:List Stmt}{g:GF}{fs:En->Option (List D)}{p:Pos}(hp:PassesOwn (model X.prog X.w) X.A X.env X.xe)(hc:X.calm=true)(tH:Gl X "range")(hm:X.mg "range" = none)(ha:AV X [a] fs)(hg:GV X tg g)(hb:jY X body F)
  (h1:starEach [a] X.env=[(false,eval a X.env)]:=by rfl)(hs:∀x,foldedSetIterable (.Call (.Name "range" p) [a] [] pos) X.env x=pure x:=by intro _;rfl){kO:Pos}:
  SV X (.For tg (.Call (.Name "range" p) [a] [] pos) body [] kO) (CY pV fs g F):=by
 obtain ⟨ti,pi,ki⟩:=ha
 obtain ⟨pO,pg,kg⟩:=hg
 obtain ⟨tb,pb,kb⟩:=hb
 refine ⟨_,IA hp hc (a9V tH hm pi h1) pg pb hs,λO B σ H env fl ak D R e q=>?_⟩
 obtain ⟨ds,e1,e2⟩:=bind_some e
 obtain ⟨is,e2,e3⟩:=bind_some e2
 refine ki O B σ H env ds _ R e1 λvs H1 s1 r1=>?_
 unfold pV at e2
 split at e2
 .obtain ⟨⟨h1,h2⟩,rfl⟩:=il e2
  exact ⟨_,Z5 r1,h1,h2,YI kg kb (R.grow s1) e3 (q.from (Gd.refl s1))⟩
 .cases e2
noncomputable def pL(c:En->Option Bool)(F:SF):Nat->SF
 | 0,_=>none
 | n+1,env=>match c env with
  | none=>none
  | some false=>some (.nx,env)
  | some true=>match F env with
   | some (.nx,bh)=>pL c F n bh
   | some (.ct,bh)=>pL c F n bh
   | some (.bk,bh)=>some (.nx,bh)
   | some (.rt r,bh)=>some (.rt r,bh)
   | none=>none
noncomputable def Dd(m:En->Nat)(c:En->Option Bool)(F:SF):SF:=λenv=>pL c F (m env) env
theorem OX(m:En->Nat)(hp:PassesOwn (model X.prog X.w) X.A X.env X.xe)(hc:TV X c ga)(hb:jY X body F):SV X (.While c body [] pos) (Dd m ga F):=by
 obtain ⟨tc,pc,kc⟩:=hc
 obtain ⟨tb,pb,kb⟩:=hb
 refine ⟨_,ZZ hp pc pb,λO B σ H env fl ak D R e q=>?_⟩
 refine ⟨λn gG H1=>∃bJ,Rel X.K O B gG H1 bJ/\Gd σ env H gG bJ H1/\pL ga F n bJ=some (fl,ak),⟨m env,env,R,Gd.refl (ar.refl _),e⟩,?_⟩
 rintro n gG H1 ⟨bJ,R1,g1,e1⟩
 cases n with
 | zero=>cases e1
 | succ n =>
  rw [pL] at e1
  cases h:ga bJ with
  | none=>rw [h] at e1;cases e1
  | some x =>
   rw [h] at e1
   refine kc O B gG H1 bJ x _ R1 h λH2 s2=>?_
   cases x with
   | false =>
    rw [if_neg lx]
    cases e1
    exact q gG H2 (R1.grow s2) (g1.trans (Gd.refl s2))
   | true =>
    rw [if_pos rfl]
    refine ⟨λaE H'=>∃bh,Rel X.K O B aE H' bh/\Gd σ env H aE bh H'/\pL ga F n bh=some (fl,ak),λaE H' ⟨bh,a1,a2,a3⟩=>⟨n,jK n,bh,a1,a2,a3⟩,?_⟩
    dsimp only at e1
    cases hF:F bJ with
    | none=>rw [hF] at e1;cases e1
    | some y =>
     obtain ⟨f2,bh⟩:=y
     rw [hF] at e1
     have go:=g1.trans (Gd.refl s2)
     refine kb O B gG H2 bJ f2 bh _ (R1.grow s2) hF ?_
     cases f2 with
     | nx=>exact λcu H3 R2 g2=>⟨bh,R2,go.trans g2,e1⟩
     | ct=>exact λcu H3 R2 g2=>⟨bh,R2,go.trans g2,e1⟩
     | bk=>cases e1;exact λcu H3 R2 g2=>q cu H3 R2 (go.trans g2)
     | rt r=>cases e1;exact q
end
noncomputable def mo(K:aB)(n:Nat)(φ:List D->Option Sl):Sp:=λvs H Q _=>∃(O:Addr->Prop) (ds:List D) (r:Sl),pJ K O H/\aI K O H vs ds/\vs.length=n/\φ ds=some r /\
 ∀v H',ar H H'->Res K O H H' v r->Q v H'
noncomputable def oI(N:Nat)(ds:List D):En:=ds.map Sl.sh++iB (N-ds.length) Sl.no
noncomputable def aP(F:SF)(N:Nat)(ds:List D):Option Sl:=match F (oI N ds) with
 | some (.rt r,_)=>some r
 | some (.nx,_)=>some (.sh .aS)
 | _=>none
theorem a9N{K:aB}{O:Addr->Prop}{H:Hp}{N:List Str}{vs:List V}{ds:List D}(hO:pJ K O H)(h:aI K O H vs ds):Rel K O H (start N vs) H (oI N.length ds):=by
 have hl:=h.length
 have Bz:∀(i:Nat) (s:Sl),(oI N.length ds)[i]?=some s->s.own->False:=λi s e1 o=>by
  unfold oI at e1
  rw [Ms] at e1
  split at e1
  .rw [l9] at e1
   obtain ⟨d,_,e⟩:=map_some e1
   cases e
   exact o
  .rw [CD] at e1
   split at e1
   .cases e1;exact o
   .cases e1
 have no:∀p,¬j6 (start N vs) (oI N.length ds) p:=λp ⟨i,es,e1,o,_⟩=>Bz i es e1 o
 refine ⟨ar.refl _,hO,?_,λi d e=>?_,λi es e=>(Bz i _ e trivial).elim,λi es e=>(Bz i _ e trivial).elim,λi j es fs p e _ _ _ o _=>(Bz i _ e o).elim⟩
 .simp [L2.start,oI,hl]
 .unfold oI at e
  rw [Ms] at e
  split at e
  .rename_i hi
   rw [bB] at hi
   rw [l9] at e
   obtain ⟨d',e1,e2⟩:=map_some e
   cases e2
   obtain ⟨x,hx,hd⟩:=h.get e1
   refine ⟨x,?_,hd.less λq z=>z.elim id λz=>(no q z).elim⟩
   unfold L2.start
   rw [uz (by rw [bB,hl];exact hi),l9,hx]
   rfl
  .rw [CD] at e
   split at e
   .cases e
   .cases e
section
variable {P:Program}{w:World}{K:aB}{mg:Str->Option Value}{base:Heap}
theorem Gf{x qual:Str}{st:Stmt}{f:Addr}{fd:FuncData}{N ps:List Str}{k:Nat}{F:SF}(Fn:sv K x qual st f fd)(S:c8 N ps (fm st))
  (dC:∀(cY:Value) (A:Around) (outer:List Env) (s:Shared) (H:Hp) (E:XK),bC k (A.deeper (envOfC qual (fm st) s.heap.objs.size f cY)) ->
   jY (lq iH P w K mg base N qual (fm st) f cY A outer s H E).fR (ip st) F):bM P w K mg base iH (k+1) f fd ps (mo K ps.length (aP F N.length)):=by
 refine Fn.ok S (λvs H Q E h=>?_) (λcY A outer s H vs Q E hr h=>?_)
 .obtain ⟨O,ds,r,_,_,hl,_⟩:=h
  exact hl
 obtain ⟨O,ds,r,hO,hi,hl,e,q⟩:=h
 obtain ⟨t,p,kk⟩:=dC cY A outer s H E hr
 refine ⟨t,p,?_⟩
 unfold aP at e
 cases hF:F (oI N.length ds) with
 | none=>rw [hF] at e;cases e
 | some y =>
  obtain ⟨fl,ak⟩:=y
  rw [hF] at e
  refine kk O H (start N vs) H (oI N.length ds) fl ak _ (a9N hO hi) hF ?_
  cases fl with
  | nx=>cases e;exact λaE H' R' _=>q .aS H' R'.same Is.aS
  | bk=>cases e
  | ct=>cases e
  | rt r=>cases e;exact λv H' s h=>q v H' s h
end
section
variable {X:Cx}{k:Nat}{f:Addr}{fd:FuncData}{ps:List Str}{φ:List D->Option Sl}{x:Str}{p pos:Pos}{e:Expr}{es:List Expr}{fs:En->Option (List D)}
noncomputable def aU(n:Nat)(φ:List D->Option Sl)(fs:En->Option (List D)):En->Option Sl:=λenv=>(fs env).bind λds=>if ds.length=n then φ ds else none
theorem b0V(ka:∀(O:Addr->Prop) (B:Hp) (σ:L2.St) (H:Hp) (env:En) (ds:List D) (Q:List V->Hp->Prop),Rel X.K O B σ H env->fs env=some ds->(∀vs H',ar H H'->aI X.K (OO O σ env) H' vs ds->Q vs H')->t σ H Q)
  (O:Addr->Prop)(B:Hp)(σ:L2.St)(H:Hp)(env:En)(r:Sl)(Q:VK)(R:Rel X.K O B σ H env)(e:aU n φ fs env=some r)(q:∀v H',ar H H'->Res X.K (OO O σ env) H H' v r->Q v H'):Ng (mo X.K n φ) [] E t σ H Q:=by
 obtain ⟨ds,e1,e2⟩:=bind_some e
 refine ka O B σ H env ds _ R e1 λvs H1 s1 r1=>?_
 by_cases hn:ds.length=n
 .rw [if_pos hn] at e2
  rw [mM]
  refine ⟨OO O σ env,ds,r,(R.grow s1).dm,r1,by rw [r1.length,hn],e2,λv H2 s2 r2=>q v H2 (s1.trans s2) (r2.from s1)⟩
 .rw [if_neg hn] at e2;cases e2
theorem YD(F:bM X.prog X.w X.K X.mg X.base iH k f fd ps (mo X.K ps.length φ))(hr:bC k X.A)(hg:Gl X x)(hm:X.mg x=some (.ref f))(hk:t7 X.K (.ref f)=true)(hb:Binds X.K fd ps [])
  (ha:AV X (e::es) fs)(jF:(x==("__debug__":Str))=false:=by decide)(he:starEach (e::es) X.env=(false,eval e X.env)::starEach es X.env:=by rfl)(dO:(backTo pos (starEach es X.env)).any (·.1)=false:=by rfl):
  EV X (.Call (.Name x p) (e::es) [] pos) (aU ps.length φ fs):=by
 obtain ⟨t,pt,ka⟩:=ha
 exact ⟨_,Ym F hr hg hm hk hb .nil xJ pt jF he dO,λO B σ H env r Q R e q=>b0V ka O B σ H env r Q R e q⟩
end
noncomputable def spT(K:aB):Sp:=λvs H Q _=>∃(a:Addr) (ns:List Int),vs=[.ref a]/\dH K H a (ns.map V.int)/\ns.length<=63/\Tb K H/\∀H',ar H H'->Q (.bl true) H'
theorem XR{P:Program}{w:World}{K:aB}{mg:Str->Option Value}{base:Heap}{k:Nat}{f:Addr}{fd:FuncData}{φ:List D->Option Sl}(F:bM P w K mg base iH k f fd ["script"] (mo K 1 φ))
  (h:∀ns:List Int,ns.length<=63->φ [.lst true (ns.map D.int)]=some (Sl.sh (.bl true))):bM P w K mg base iH k f fd ["script"] (spT K):=by
 refine F.imp λvs H Q E q=>?_
 obtain ⟨a,ns,rfl,hs,hl,tb,q⟩:=q
 refine ⟨λ_=>False,[.lst true (ns.map D.int)],_,⟨λ_ z=>z.elim,tb⟩,.cons ?_ .nil,rfl,h ns hl,λv H' sm r=>?_⟩
 .rcases hs with hs | hs
  .exact .jB id hs (aI.ints ns)
  .exact .jE (.inr hs) (aI.ints ns)
 .have r':Is K (λ_=>False) H' v (.bl true):=r
  rw [uB r']
  exact q H' sm
theorem nM{l:Ha}{q:Program}{loose:List Str}{XP:(Str->Option Value)->Heap->Prop}{YP:World->Heap->Prop}{d:DefRec}{K:Params->aB}{k:Nat}(hk:bC k callerA)(hn:l.most=some 63)(yO:d.params.defaults=[])
  {ts:List Addr}(hY:∀(w:World) (h:Heap),YP w h->(K w.params).In h/\∀P∈ts,h.get? P=some (vL #[]))(hL:∀w:World,C8 (K w.params) ts=true)
  (F:∀(w:World) (mg:Str->Option Value) (fa:Addr) (h:Heap),(K w.params).In h->h.Ns mainGlobals mg->mg d.name=some (.ref fa) ->
   ∃fd:FuncData,(∀(s:Shared) (u:Value),BindsTo s fd ⟨[u],[]⟩ [("script",u)])/\∀base:Heap,(K w.params).In base->base.Ns mainGlobals mg->bM l.prog w (K w.params) mg base iH k fa fd ["script"] (spT (K w.params))):
  PySem.W.WalkO q loose XP YP l.row.toRowW d [] (λf vs=>GR f vs):=
 L2.pM (n:=63) (k:=k) (x:="script") (CX:=λ_=>iH) (sp:=λw=>spT (K w.params)) hn (by decide) yO hk hY hL F (λw _ a ns hl tb hS=>⟨a,ns,rfl,hS,hl,tb,λ_ sm=>⟨rfl,tb.grow sm⟩⟩) λ_ _ _ _ _ z=>z
section
variable {X:Cx}{a:Expr}{pos p p2:Pos}{fa:En->Option Sl}
def yn(K:aB)(T:String)(x:V)(H:Hp)(b:Bool):Prop:=match x with
 | .aS=>b=false
 | .bl _=>b=(T == "bool" || T == "int")
 | .int _=>b=(T == "int")
 | .str _=>b=(T == "str")
 | .ref p=>(b=(T == "list")/\∃xs,dH K H p xs)\/(b=(T == "tuple")/\∃xs,dR K H p xs)
 | _=>False
theorem Zv(hT:T = "int" \/ T = "bool" \/ T = "str" \/ T = "list" \/ T = "tuple"):
  bH X (.builtin "isinstance") (λxs H Q=>∃x b,xs=[x,.ty T]/\yn X.K T x H b/\Q (.bl b) H):=by
 intro pins s σ H xs us Q I r h
 obtain ⟨x,b,rfl,hx,q⟩:=h
 obtain ⟨u,w',rfl,r1,r2⟩:=vals2 r
 obtain rfl:w'=mH T:=r2
 have yes:∀{Tx:String},s.TypeIs u Tx->isSubtype (.type Tx) (.type T)=pure true->typeOf (.type T)=pure (.type "type")->Q (.bl true) H->wpAny (model X.prog X.w) X.A (call (.builtin "isinstance") [u,.type T]) (EP X pins σ Q) X.xe s:=λh1 h2 h3 hq =>
  uu (isinstance_true h3 h2) ⟨h1,⟨.bl true,H,I,rfl,hq⟩⟩
 have fin:Q (.bl false) H->EP X pins σ Q (.bool false) { s with toks:=s.toks+1 }:=λhq=>⟨.bl false,H,I.tok _,rfl,hq⟩
 have ty:typeOf (.type T)=pure (.type "type"):=by rcases hT with rfl | rfl | rfl | rfl | rfl<;>rfl
 cases x with
 | aS =>
  obtain rfl:u=fV:=r1
  obtain rfl:b=false:=hx
  refine uu (isinstance_false_none ?_ ty ?_) (fin q)
  .rcases hT with rfl | rfl | rfl | rfl | rfl<;>decide +kernel
  .rcases hT with rfl | rfl | rfl | rfl | rfl<;>rfl
 | bl k =>
  obtain rfl:u=ko k:=r1
  rcases hT with rfl | rfl | rfl | rfl | rfl
  .obtain rfl:b=true:=hx
   exact yes (Tx:="bool") rfl rfl ty q
  .obtain rfl:b=true:=hx
   exact yes (Tx:="bool") rfl rfl ty q
  all_goals
   obtain rfl:b=false:=hx
   exact uu (isinstance_false_bool (by decide +kernel) ty (by rfl)) (fin q)
 | int i =>
  obtain ⟨t,rfl⟩:=r1
  rcases hT with rfl | rfl | rfl | rfl | rfl
  .obtain rfl:b=true:=hx
   exact yes (Tx:="int") (typeIs_int s i t) rfl ty q
  all_goals
   obtain rfl:b=false:=hx
   exact uu (isinstance_false_int (by decide +kernel) ty (by rfl)) (fin q)
 | str z =>
  obtain ⟨t,rfl⟩:=r1
  rcases hT with rfl | rfl | rfl | rfl | rfl
  rotate_left 2
  .obtain rfl:b=true:=hx
   exact yes (Tx:="str") (typeIs_str s z t) rfl ty q
  all_goals
   obtain rfl:b=false:=hx
   exact uu (isinstance_false_str (by decide +kernel) ty (by rfl)) (fin q)
 | ref l =>
  cases r1
  rcases hx with ⟨rfl,xs,hq⟩ | ⟨rfl,xs,hq⟩
  .obtain ⟨aq,_,pl,_⟩:=I.list hq
   have tf:=pl.isList.typeIs
   obtain ⟨o,n,e,c,_,_⟩:=pl
   rcases hT with rfl | rfl | rfl | rfl | rfl
   rotate_left 3
   .exact yes (Tx:="list") tf rfl ty q
   all_goals exact uu (isinstance_false_list (by decide +kernel) ty (by rfl)) ⟨⟨o,e,c⟩,fin q⟩
  .obtain ⟨aq,_,pl,_⟩:=I.tuple hq
   have tf:=pl.typeIs
   obtain ⟨o,e,c,_⟩:=pl
   rcases hT with rfl | rfl | rfl | rfl | rfl
   rotate_left 4
   .exact yes (Tx:="tuple") tf rfl ty q
   all_goals exact uu (isinstance_false_tuple (by decide +kernel) ty (by rfl)) ⟨⟨o,e,c⟩,fin q⟩
 | _=>exact gM hx
noncomputable def aY(T:String):D->Bool
 | .aS=>false
 | .bl _=>(T == "bool" || T == "int")
 | .int _=>(T == "int")
 | .str _=>(T == "str")
 | .tup _=>(T == "tuple")
 | .lst _ _=>(T == "list")
 | .exc _=>false
 | .fD _ _=>false
noncomputable def D.isExc:D->Bool
 | .exc _=>true
 | .fD _ _=>true
 | _=>false
noncomputable def iR(T:String)(d:D):Option Sl:=if d.isExc=true then none else some (.sh (.bl (aY T d)))
theorem XF{K:aB}{O:Addr->Prop}{H:Hp}{T:String}{v:V}{d:D}(h:Is K O H v d)(ne:d.isExc=false):yn K T v H (aY T d):=by
 cases h with
 | aS=>rfl
 | bl b=>rfl
 | int i=>rfl
 | str x=>rfl
 | tup ho hp hs=>exact .inr ⟨rfl,_,.inl hp⟩
 | jD hp hs=>exact .inr ⟨rfl,_,AI hp⟩
 | lst ho hp hs=>exact .inl ⟨rfl,_,.inl (.inl hp)⟩
 | jB ho hp hs=>exact .inl ⟨rfl,_,.inl hp⟩
 | jE hp hs=>exact .inl ⟨rfl,_,AH hp⟩
 | exc ho hn hp=>cases ne
 | fD ho hp=>cases ne
 | om ho hp=>cases ne
noncomputable def mE(T:String)(f:En->Option Sl):En->Option Sl:=λenv=>(f env).bind λr=>iR T r.d
theorem Di(hT:T = "int" \/ T = "bool" \/ T = "str" \/ T = "list" \/ T = "tuple")(hg:Gl X "isinstance")(hm:X.mg "isinstance" = none)(tJ:Gl X x)(vk:X.mg x=none)(hv:bootBuiltins x=some (.type T))(ha:EV X a fa)
  (hn:x ≠ "__name__":=by decide)(hd:(x==("__debug__":Str))=false:=by decide)
  (hs:starEach [a,.Name x p2] X.env=[(false,eval a X.env),(false,eval (.Name x p2) X.env)]:=by rfl)(dN:starEach [.Name x p2] X.env=[(false,eval (.Name x p2) X.env)]:=by rfl):
  EV X (.Call (.Name "isinstance" p) [a,.Name x p2] [] pos) (mE T fa):=by
 obtain ⟨t,pt,k⟩:=ha
 refine ⟨_,r8 (Zv hT) hg hm (by decide +kernel) (lI pt (lI (Yl (v:=.ty T) tJ vk hv rfl hn hd) md dN) (by rw [hs,dN])) (by decide) (by decide) (by rw [hs,dN]) (by rw [dN];rfl),λO B σ H env s Q R e q=>?_⟩
 obtain ⟨r,e1,e2⟩:=bind_some e
 unfold iR at e2
 split at e2
 .cases e2
 .rename_i ne
  cases e2
  exact k O B σ H env r _ R e1 λv H1 s1 r1=>⟨v,_,rfl,XF (r1.is λq=>R.oo) (by simpa using ne),q _ H1 s1 (Is.bl _)⟩
end
section
variable {X:Cx}{a b c e:Expr}{fa fb:En->Option Sl}{pos:Pos}
noncomputable def iL(i:Nat)(f:En->Option Sl):SF:=λenv=>match env[i]? with
 | some (.ow ds)=>(f env).bind λr=>match r.d with
  | .lst false es=>if ds.length+es.length<=16777216 then some (.nx,env.set i (.ow (ds++es))) else none
  | _=>none
 | _=>none
theorem a9u{i:Nat}{x:Str}{p1 p2 aR:Pos}(ha:EV X e fa)(hN:X.N[i]?=some x:=by rfl)(hv:gU X.env.scope x:=by first | exact bY rfl | exact be (bY rfl) | exact be (be rfl))(hd:(x==("__debug__":Str))=false:=by decide)
  (cM:(x==("__classdict__":Str))=false:=by decide)(hs:starEach [e] X.env=[(false,eval e X.env)]:=by rfl)
  (bP:attributeBase (.Name x p1) "extend" X.env (eval (.Name x p1) X.env)=eval (.Name x p1) X.env:=by rfl)
  (gr:((backTo aR (starEach [e] X.env)).all (λx=>!x.1)&&(backToKw aR (keywordEach [] X.env)).all (λx=>x.1.isSome)
   && decide ([e].length+([]:List Keyword).length+(if ([]:List Keyword).isEmpty then 0 else 1)<30))=true:=by rfl)
  (bO:(p2.endLine==aR.line)=true:=by rfl)
  (p8:swapsWith (.Call (.Attribute (.Name x p1) "extend" p2) [e] [] aR) none pos.line X.env=pure false:=by rfl):
  SV X (.Expr (.Call (.Attribute (.Name x p1) "extend" p2) [e] [] aR) pos) (iL i fa):=by
 obtain ⟨t,p,k⟩:=ha
 refine ⟨_,Ou (M0 HH Mw PySem.F.type_list_extend a92 (rT hN hv hd cM) (lI p md hs) bP gr bO hs rfl) p8,λO B σ H env fl ak D R e q=>?_⟩
 unfold iL at e
 cases h:env[i]? with
 | none=>rw [h] at e;cases e
 | some s =>
  rw [h] at e
  cases s with
  | no=>cases e
  | sh d=>cases e
  | dw ds=>cases e
  | ow ds =>
   obtain ⟨r,e1,e2⟩:=bind_some e
   obtain ⟨l,xs,f1,f2,f3,f4⟩:=R.ow i ds h
   refine ⟨_,f1,.inl ⟨rfl,_,dH.of f3⟩,?_⟩
   refine k O B σ H env r _ R e1 λv H1 s1 r1=>?_
   have hi:=r1.is λq=>R.oo
   cases hd:r.d with
   | lst ro es =>
    rw [hd] at hi e2
    cases ro with
    | true=>cases e2
    | false =>
     obtain ⟨hl,e3⟩:=il (show (if ds.length+es.length<=16777216 then some (Fl.nx,env.set i (.ow (ds++es))) else none)=some (fl,ak) from e2)
     cases e3
     obtain ⟨b,zs,rfl,hb,g1,g2⟩:=Ih hi
     refine ⟨l,b,xs,zs,rfl,rfl,s1 _ _ f3,g1,by rw [f4.length,g2.length,fW];exact hl,?_⟩
     obtain ⟨R',g'⟩:=(R.grow s1).wr h f1 ((f4.grow s1).append g2)
     exact q _ _ R' (g'.from s1)
   | _=>rw [hd] at e2;cases e2
noncomputable def kJ(i j:Nat):SF:=λenv=>match env[j]? with
 | some (.ow ds)=>(ds[ds.length-1]?).bind λd=>if i<env.length/\i≠j then some (.nx,(env.set j (.ow ds.dropLast)).set i (.sh d)) else none
 | _=>none
theorem a9s{i j:Nat}{x y:Str}{pos' p1 p2 aR:Pos}(hN:X.N.Nodup)(hi:X.N[i]?=some x)(hx:Loc X.env.scope x)
  (FY:X.N[j]?=some y:=by rfl)(hv:gU X.env.scope y:=by first | exact bY rfl | exact be (bY rfl) | exact be (be rfl))(hd:(y==("__debug__":Str))=false:=by decide)
  (cM:(y==("__classdict__":Str))=false:=by decide)
  (bP:attributeBase (.Name y p1) "pop" X.env (eval (.Name y p1) X.env)=eval (.Name y p1) X.env:=by rfl)
  (bO:(p2.endLine==aR.line)=true:=by rfl)
  (hs:swapsWith (.Call (.Attribute (.Name y p1) "pop" p2) [] [] aR) (some (.Name x pos')) pos.line X.env=pure false:=by rfl)(hf:X.fn x=true\/X.env.scope.names.lookup x=some .local:=by first | exact .inl rfl | exact .inr rfl | assumption):
  SV X (.Assign [.Name x pos'] (.Call (.Attribute (.Name y p1) "pop" p2) [] [] aR) pos) (kJ i j):=by
 refine ⟨_,IB hN hi hx (Xi HH L9 PySem.F.type_list_pop XT (rT FY hv hd cM) bP bO) hs hf,λO B σ H env fl ak D R e q=>?_⟩
 unfold kJ at e
 cases h:env[j]? with
 | none=>rw [h] at e;cases e
 | some s =>
  rw [h] at e
  cases s with
  | no=>cases e
  | sh d=>cases e
  | dw ds=>cases e
  | ow ds =>
   obtain ⟨d,e1,e2⟩:=bind_some e
   obtain ⟨⟨hl,eG⟩,e3⟩:=Po e2
   cases e3
   obtain ⟨l,xs,f1,f2,f3,f4⟩:=R.ow j ds h
   obtain ⟨v,yw,Fk⟩:=f4.get e1
   obtain ⟨R',g'⟩:=R.wr h f1 f4.dropLast
   refine ⟨_,f1,.inl ⟨rfl,_,dH.of f3⟩,l,xs,v,rfl,rfl,f3,by rw [f4.length];exact yw,?_⟩
   have Fj:aI X.K (OO O σ (env.set j (.ow ds.dropLast))) (upd H l (.lst xs.dropLast)) [v] [d]:=g'.BE (.cons Fk .nil)
   cases Fj with
   | cons Fj _ =>
    obtain ⟨R2,g2⟩:=R'.set (r:=.sh d) (i:=i) (ar.refl _) Fj (by simp;exact hl)
    exact q _ _ R2 (g'.trans g2)
noncomputable def vX(i:Nat)(f g:En->Option Sl):SF:=λenv=>match env[i]? with
 | some (.ow ds)=>(f env).bind λr=>(g env).bind λk=>match k.d with
  | .int n=>(iQ ds.length n).bind λj=>some (.nx,env.set i (.ow (ds.set j r.d)))
  | _=>none
 | _=>none
theorem YW{i:Nat}{x:Str}{p1 p2:Pos}(ha:EV X e fa)(hb:EV X b fb)(hN:X.N[i]?=some x:=by rfl)(hv:gU X.env.scope x:=by first | exact bY rfl | exact be (bY rfl) | exact be (be rfl))(hd:(x==("__debug__":Str))=false:=by decide)
  (cM:(x==("__classdict__":Str))=false:=by decide)
  (h8:∀v,assign (.Subscript (.Name x p1) b p2) X.env v=(do
   let ov <-holding [v] (eval (.Name x p1) X.env)
   let iv <-holding [v,ov] (eval b X.env)
   standAt p2
   holding [v,ov,iv] (setItem ov iv v)
   release [v,ov,iv] []):=by intro _;rfl)
  (hs:swapsWithSole [.Subscript (.Name x p1) b p2] e pos.line X.env=pure false:=by rfl)(hw:swappedStores [.Subscript (.Name x p1) b p2] e X.env=pure none:=by rfl)
  (h1:(assignEach [.Subscript (.Name x p1) b p2] X.env).map (·.2)=[assign (.Subscript (.Name x p1) b p2) X.env]:=by rfl):
  SV X (.Assign [.Subscript (.Name x p1) b p2] e pos) (vX i fa fb):=by
 obtain ⟨t,p,k⟩:=ha
 obtain ⟨t',p',k'⟩:=hb
 refine ⟨_,Xt p (Xp (rT hN hv hd cM) p' Zz h8) hs hw h1,λO B σ H env fl ak D R e q=>?_⟩
 unfold vX at e
 cases h:env[i]? with
 | none=>rw [h] at e;cases e
 | some s =>
  rw [h] at e
  cases s with
  | no=>cases e
  | sh d=>cases e
  | dw ds=>cases e
  | ow ds =>
   obtain ⟨r,e1,e2⟩:=bind_some e
   obtain ⟨kk,e2,e3⟩:=bind_some e2
   obtain ⟨l,xs,f1,f2,f3,f4⟩:=R.ow i ds h
   refine k O B σ H env r _ R e1 λv H1 s1 r1=>⟨_,f1,?_⟩
   refine k' O B σ H1 env kk _ (R.grow s1) e2 λw H2 s2 r2=>?_
   have hi:=r2.is λq=>(R.grow s1).oo
   cases hd:kk.d with
   | int n =>
    rw [hd] at hi e3
    obtain rfl:=fZ hi
    obtain ⟨j,e4,e5⟩:=bind_some (show (iQ ds.length n).bind (λj=>some (Fl.nx,env.set i (.ow (ds.set j r.d))))=some (fl,ak) from e3)
    cases e5
    have iM:=s1.trans s2
    refine ⟨l,xs,n,j,rfl,rfl,iM _ _ f3,by rw [f4.length];exact e4,?_⟩
    obtain ⟨R',g'⟩:=(R.grow iM).wr h f1 ((f4.grow iM).set ((r1.is λq=>R.oo).grow s2) j)
    exact q _ _ R' (g'.from iM)
   | _=>rw [hd] at e3;cases e3
def PP(X:Cx)(e:Option Expr)(f:En->Option (Option Int)):Prop:=
 ∃t:TO,PO X e t/\∀(O:Addr->Prop) (B:Hp) (σ:L2.St) (H:Hp) (env:En) (o:Option Int) (Q:Option Int->Hp->Prop),Rel X.K O B σ H env->f env=some o->(∀H',ar H H'->Q o H')->t σ H Q
noncomputable def kP:En->Option (Option Int):=λ_=>some none
noncomputable def kf(f:En->Option Sl):En->Option (Option Int):=λenv=>(f env).bind λr=>match r.d with
 | .int i=>some (some i)
 | _=>none
theorem oJ:PP X none kP:=⟨_,Yr,λO B σ H env o Q R e q=>by
 obtain rfl:=cF e
 exact q H (ar.refl _)⟩
theorem oK(h:EV X e fa):PP X (some e) (kf fa):=by
 obtain ⟨t,p,k⟩:=h
 refine ⟨_,Yt p,λO B σ H env o Q R e q=>?_⟩
 obtain ⟨r,e1,e2⟩:=bind_some e
 refine k O B σ H env r _ R e1 λv H1 s1 r1=>?_
 have hi:=r1.is λq=>R.oo
 cases hd:r.d with
 | int i =>
  rw [hd] at hi e2
  obtain rfl:=cF e2
  exact ⟨i,fZ hi,q H1 s1⟩
 | _=>rw [hd] at e2;cases e2
noncomputable def cutD(xs:List D)(lo hi:Option Int):List D:=(xs.drop (HT.aX xs.length 0 lo)).take (HT.aX xs.length xs.length hi-HT.aX xs.length 0 lo)
theorem aI.cut{K:aB}{O:Addr->Prop}{H:Hp}{xs:List V}{ds:List D}(h:aI K O H xs ds)(lo hi:Option Int):aI K O H (jJ xs lo hi) (cutD ds lo hi):=by
 unfold jJ cutD
 rw [h.length]
 exact (h.drop _).take _
noncomputable def lh(f:En->Option (Bool×List D))(lo hi:En->Option (Option Int)):En->Option Sl:=λenv=>(f env).bind λx=>(lo env).bind λl=>(hi env).bind λh =>
 if x.1=true then some (.ow (cutD x.2 l h)) else if ¬(HT.aX x.2.length 0 l=0/\HT.aX x.2.length x.2.length h=x.2.length) then some (.sh (.tup (cutD x.2 l h))) else none
theorem pE{ba:En->Option (Bool×List D)}{lo hi:Option Expr}{fl fh:En->Option (Option Int)}{p2:Pos}(ha:BV X a ba)(hl:PP X lo fl)(hh:PP X hi fh):EV X (.Subscript a (.Slice lo hi none p2) pos) (lh ba fl fh):=by
 obtain ⟨t,p,k⟩:=ha
 obtain ⟨tl,pl,kl⟩:=hl
 obtain ⟨th,ph,kh⟩:=hh
 refine ⟨_,OM (pT.or NC) p pl ph,λO B σ H env r Q R e q=>?_⟩
 obtain ⟨⟨kk,ds⟩,e1,e2⟩:=bind_some e
 obtain ⟨l,e2,e3⟩:=bind_some e2
 obtain ⟨h,e3,e4⟩:=bind_some e3
 refine k O B σ H env kk ds _ R e1 λpp xs H1 s1 hq hx=>?_
 refine kl O B σ H1 env l _ (R.grow s1) e2 λH2 s2=>?_
 refine kh O B σ H2 env h _ ((R.grow s1).grow s2) e3 λH3 s3=>?_
 have iM:=s1.trans (s2.trans s3)
 have dt:=hq.grow (s2.trans s3)
 have js:=hx.grow (s2.trans s3)
 dsimp only at e4
 cases kk with
 | true =>
  rw [if_pos rfl] at e4
  obtain rfl:=cF e4
  exact .inl ⟨pp,xs,rfl,dt,λp hp=>q _ _ (iM.trans (jl hp _)) ((rY hp (js.cut l h)).from iM)⟩
 | false =>
  rw [if_neg lx] at e4
  obtain ⟨hw,rfl⟩:=il e4
  exact .inr ⟨pp,xs,rfl,dt,by rw [js.length];exact hw,λp hp=>q _ _ (iM.trans (jl hp _)) ((Az (O:=OO O σ env) (H:=H3) (λ_ z=>(R.grow iM).oo z) hp (js.cut l h)).from iM)⟩
noncomputable def qm(f:En->Option Sl)(lo hi:En->Option (Option Int)):En->Option Sl:=λenv=>(f env).bind λx=>(lo env).bind λl=>(hi env).bind λh=>match x.d with
 | .tup ds=>some (.sh (.tup (cutD ds l h)))
 | _=>none
theorem Zf(hw:HT.aX ds.length 0 l=0/\HT.aX ds.length ds.length h=ds.length):cutD ds l h=ds:=by
 unfold cutD
 rw [hw.1,hw.2]
 simp
theorem b0z{lo hi:Option Expr}{fl fh:En->Option (Option Int)}{p2:Pos}(ha:EV X a fa)(hl:PP X lo fl)(hh:PP X hi fh):EV X (.Subscript a (.Slice lo hi none p2) pos) (qm fa fl fh):=by
 obtain ⟨t,p,k⟩:=ha
 obtain ⟨tl,pl,kl⟩:=hl
 obtain ⟨th,ph,kh⟩:=hh
 refine ⟨_,OM (sH.or NC) p pl ph,λO B σ H env r Q R e q=>?_⟩
 obtain ⟨x,e1,e2⟩:=bind_some e
 obtain ⟨l,e2,e3⟩:=bind_some e2
 obtain ⟨h,e3,e4⟩:=bind_some e3
 refine k O B σ H env x _ R e1 λv H1 s1 r1=>?_
 refine kl O B σ H1 env l _ (R.grow s1) e2 λH2 s2=>?_
 refine kh O B σ H2 env h _ ((R.grow s1).grow s2) e3 λH3 s3=>?_
 have iM:=s1.trans (s2.trans s3)
 have hi:=(r1.is λq=>R.oo).grow (s2.trans s3)
 cases hd:x.d with
 | tup ds =>
  rw [hd] at e4 hi
  obtain rfl:=cF (show some (Sl.sh (.tup (cutD ds l h)))=some r from e4)
  obtain ⟨pp,xs,rfl,hq,hx⟩:=As hi
  by_cases hw:HT.aX ds.length 0 l=0/\HT.aX ds.length ds.length h=ds.length
  .refine .inl ⟨pp,xs,rfl,hq,by rw [hx.length];exact hw,q _ _ iM ?_⟩
   rw [Zf hw]
   exact hi
  .exact .inr ⟨pp,xs,rfl,hq,by rw [hx.length];exact hw,λp hp=>q _ _ (iM.trans (jl hp _)) ((Az (O:=OO O σ env) (H:=H3) (λ_ z=>(R.grow iM).oo z) hp (hx.cut l h)).from iM)⟩
 | _=>rw [hd] at e4;cases e4
end
structure Def(K:aB)(mg:Str->Option Value)(x:Str)(st:Stmt)(ps:List Str)(f:Addr)(fd:FuncData):Prop where
 fn:sv K x x st f fd
 bd:Binds K fd ps []
 m:mg x=some (.ref f)
end DL
namespace DL
open PySem PySem.Spec PyProof.Rows L2
structure Fx(X:Cx)(N:List Str)(sc:Scope)(k:Nat)(full:Bool:=true):Prop where
 n:X.N=N
 sc:X.env.scope=sc
 calm:X.calm=true
 fn:full=true->∀x,X.fn x=true
 own:PassesOwn (model X.prog X.w) X.A X.env X.xe
 room:bC k X.A
 nd:N.Nodup
 top:full=true->X.stack=X.env::X.outer/\X.env.frame=some X.env.locals/\X.ex=[]
section
variable {X:Cx}{N:List Str}{sc:Scope}{k:Nat}{full:Bool}{pos p p1 p2 pos' aR:Pos}{e a b:Expr}{fa fb:En->Option Sl}
theorem Fx.pN(h:Fx X N sc k full)(hv:gU sc x):gU X.env.scope x:=by rw [h.sc];exact hv
theorem Fx.loc(h:Fx X N sc k full)(hv:Loc sc x):Loc X.env.scope x:=by rw [h.sc];exact hv
theorem Fx.ix(h:Fx X N sc k full){i:Nat}{x:Str}(hN:N[i]?=some x):X.N[i]?=some x:=by rw [h.n];exact hN
theorem Fx.u5(h:Fx X N sc k full)(hf:full=true\/sc.names.lookup x=some .local):X.fn x=true\/X.env.scope.names.lookup x=some .local:=hf.elim (λe=>.inl (h.fn e x)) λe=>.inr (by rw [h.sc];exact e)
theorem Fx.ve(h:Fx X N sc k full):X.N.Nodup:=by rw [h.n];exact h.nd
theorem Fx.g(h:Fx X N sc k full)(hg:sc.names.lookup x=some .globalImplicit:=by rfl):Gl X x:=by
 show X.env.kindOf x=some .globalImplicit
 unfold Env.kindOf
 rw [h.sc]
 exact hg
theorem Fx.v(h:Fx X N sc k full)(i:Nat)(hN:N[i]?=some x:=by rfl)(hv:gU sc x:=by first | exact bY rfl | exact be (bY rfl) | exact be (be rfl))(hd:(x==("__debug__":Str))=false:=by rfl)
  (cM:(x==("__classdict__":Str))=false:=by rfl):EV X (.Name x pos) (eV i):=NR i (h.ix hN) (h.pN hv) hd cM
theorem Fx.bv(h:Fx X N sc k full)(i:Nat)(hN:N[i]?=some x:=by rfl)(hv:gU sc x:=by first | exact bY rfl | exact be (bY rfl) | exact be (be rfl))(hd:(x==("__debug__":Str))=false:=by rfl)
  (cM:(x==("__classdict__":Str))=false:=by rfl):BV X (.Name x pos) (bV i):=W9 i (h.ix hN) (h.pN hv) hd cM
theorem Fx.tg(h:Fx X N sc k full)(i:Nat)(hN:N[i]?=some x:=by rfl)(hv:Loc sc x:=by first | exact bY rfl | exact be rfl)(hf:full=true\/sc.names.lookup x=some .local:=by first | exact bY rfl | exact be rfl):GV X (.Name x pos) (gN i):=YL h.ve (h.ix hN) (h.loc hv) (h.u5 hf)
theorem Fx.set(h:Fx X N sc k full)(i:Nat)(he:EV X e fa)(hN:N[i]?=some x:=by rfl)(hv:Loc sc x:=by first | exact bY rfl | exact be rfl)
  (hs:swapsWith e (some (.Name x pos')) pos.line X.env=pure false:=by rfl)(hf:full=true\/sc.names.lookup x=some .local:=by first | exact bY rfl | exact be rfl):SV X (.Assign [.Name x pos'] e pos) (df i fa):=NH h.ve (h.ix hN) (h.loc hv) he hs (h.u5 hf)
theorem Fx.aJ(h:Fx X N sc k full)(i:Nat)(he:EV X e fa)(hN:N[i]?=some x:=by rfl)(hv:Loc sc x:=by first | exact bY rfl | exact be rfl)
  (hs:swapsWith e (some (.Name x pos')) pos.line X.env=pure false:=by rfl)(hf:full=true\/sc.names.lookup x=some .local:=by first | exact bY rfl | exact be rfl):SV X (.Assign [.Name x pos'] e pos) (bD i fa):=Og h.ve (h.ix hN) (h.loc hv) he hs (h.u5 hf)
theorem Fx.kN(h:Fx X N sc k full)(i:Nat)(hN:N[i]?=some x:=by rfl)(hv:gU sc x:=by first | exact bY rfl | exact be (bY rfl) | exact be (be rfl))(hd:(x==("__debug__":Str))=false:=by rfl)
  (cM:(x==("__classdict__":Str))=false:=by rfl):SV X (.Return (some (.Name x p2)) pos) (nF i):=YX i (h.ix hN) (h.pN hv) hd cM
theorem Fx.app(h:Fx X N sc k full)(i:Nat)(ha:EV X e fa)(hN:N[i]?=some x:=by rfl)(hv:gU sc x:=by first | exact bY rfl | exact be (bY rfl) | exact be (be rfl))(hd:(x==("__debug__":Str))=false:=by rfl)
  (cM:(x==("__classdict__":Str))=false:=by rfl)(hs:starEach [e] X.env=[(false,eval e X.env)]:=by rfl)
  (bP:attributeBase (.Name x p1) "append" X.env (eval (.Name x p1) X.env)=eval (.Name x p1) X.env:=by rfl)
  (gr:((backTo aR (starEach [e] X.env)).all (λx=>!x.1)&&(backToKw aR (keywordEach [] X.env)).all (λx=>x.1.isSome)
   && decide ([e].length+([]:List Keyword).length+(if ([]:List Keyword).isEmpty then 0 else 1)<30))=true:=by rfl)
  (bO:(p2.endLine==aR.line)=true:=by rfl)
  (p8:swapsWith (.Call (.Attribute (.Name x p1) "append" p2) [e] [] aR) none pos.line X.env=pure false:=by rfl):
  SV X (.Expr (.Call (.Attribute (.Name x p1) "append" p2) [e] [] aR) pos) (cL i fa):=Pl ha (h.ix hN) (h.pN hv) hd cM hs bP gr bO p8
theorem Fx.ext(h:Fx X N sc k full)(i:Nat)(ha:EV X e fa)(hN:N[i]?=some x:=by rfl)(hv:gU sc x:=by first | exact bY rfl | exact be (bY rfl) | exact be (be rfl))(hd:(x==("__debug__":Str))=false:=by rfl)
  (cM:(x==("__classdict__":Str))=false:=by rfl)(hs:starEach [e] X.env=[(false,eval e X.env)]:=by rfl)
  (bP:attributeBase (.Name x p1) "extend" X.env (eval (.Name x p1) X.env)=eval (.Name x p1) X.env:=by rfl)
  (gr:((backTo aR (starEach [e] X.env)).all (λx=>!x.1)&&(backToKw aR (keywordEach [] X.env)).all (λx=>x.1.isSome)
   && decide ([e].length+([]:List Keyword).length+(if ([]:List Keyword).isEmpty then 0 else 1)<30))=true:=by rfl)
  (bO:(p2.endLine==aR.line)=true:=by rfl)
  (p8:swapsWith (.Call (.Attribute (.Name x p1) "extend" p2) [e] [] aR) none pos.line X.env=pure false:=by rfl):
  SV X (.Expr (.Call (.Attribute (.Name x p1) "extend" p2) [e] [] aR) pos) (iL i fa):=a9u ha (h.ix hN) (h.pN hv) hd cM hs bP gr bO p8
theorem Fx.pop(h:Fx X N sc k full)(i j:Nat){x y:Str}(hN:N[i]?=some x:=by rfl)(hx:Loc sc x:=by first | exact bY rfl | exact be rfl)(FY:N[j]?=some y:=by rfl)(hv:gU sc y:=by first | exact bY rfl | exact be (bY rfl) | exact be (be rfl))
  (hd:(y==("__debug__":Str))=false:=by rfl)(cM:(y==("__classdict__":Str))=false:=by rfl)
  (bP:attributeBase (.Name y p1) "pop" X.env (eval (.Name y p1) X.env)=eval (.Name y p1) X.env:=by rfl)
  (bO:(p2.endLine==aR.line)=true:=by rfl)
  (hs:swapsWith (.Call (.Attribute (.Name y p1) "pop" p2) [] [] aR) (some (.Name x pos')) pos.line X.env=pure false:=by rfl)(hf:full=true\/sc.names.lookup x=some .local:=by first | exact bY rfl | exact be rfl):
  SV X (.Assign [.Name x pos'] (.Call (.Attribute (.Name y p1) "pop" p2) [] [] aR) pos) (kJ i j):=a9s h.ve (h.ix hN) (h.loc hx) (h.ix FY) (h.pN hv) hd cM bP bO hs (h.u5 hf)
theorem Fx.item(h:Fx X N sc k full)(i:Nat){x:Str}(ha:EV X e fa)(hb:EV X b fb)(hN:N[i]?=some x:=by rfl)(hv:gU sc x:=by first | exact bY rfl | exact be (bY rfl) | exact be (be rfl))(hd:(x==("__debug__":Str))=false:=by rfl)
  (cM:(x==("__classdict__":Str))=false:=by rfl)
  (h8:∀v,assign (.Subscript (.Name x p1) b p2) X.env v=(do
   let ov <-holding [v] (eval (.Name x p1) X.env)
   let iv <-holding [v,ov] (eval b X.env)
   standAt p2
   holding [v,ov,iv] (setItem ov iv v)
   release [v,ov,iv] []):=by intro _;rfl)
  (hs:swapsWithSole [.Subscript (.Name x p1) b p2] e pos.line X.env=pure false:=by rfl)(hw:swappedStores [.Subscript (.Name x p1) b p2] e X.env=pure none:=by rfl)
  (h1:(assignEach [.Subscript (.Name x p1) b p2] X.env).map (·.2)=[assign (.Subscript (.Name x p1) b p2) X.env]:=by rfl):
  SV X (.Assign [.Subscript (.Name x p1) b p2] e pos) (vX i fa fb):=YW ha hb (h.ix hN) (h.pN hv) hd cM h8 hs hw h1
end
theorem ye{us:List Value}(h:us.length=0):us=[]:=by
 exact CC.mp h
theorem M6{us:List Value}(h:us.length=1):∃a0,us=[a0]:=by
 cases us with
 | nil=>cases h
 | cons a r =>
  have:=ye (us:=r) (by simpa using h)
  exact ⟨a,by rw [this]⟩
theorem M7{us:List Value}(h:us.length=2):∃a0 a1,us=[a0,a1]:=by
 cases us with
 | nil=>cases h
 | cons a r =>
  have:=M6 (us:=r) (by simpa using h)
  obtain ⟨b0,e⟩:=this
  exact ⟨a,b0,by rw [e]⟩
theorem M8{us:List Value}(h:us.length=3):∃a0 a1 a2,us=[a0,a1,a2]:=by
 cases us with
 | nil=>cases h
 | cons a r =>
  have:=M7 (us:=r) (by simpa using h)
  obtain ⟨b0,b1,e⟩:=this
  exact ⟨a,b0,b1,by rw [e]⟩
theorem yd{us:List Value}(h:us.length=4):∃a0 a1 a2 a3,us=[a0,a1,a2,a3]:=by
 cases us with
 | nil=>cases h
 | cons a r =>
  have:=M8 (us:=r) (by simpa using h)
  obtain ⟨b0,b1,b2,e⟩:=this
  exact ⟨a,b0,b1,b2,by rw [e]⟩
section
variable {P:Program}{w:World}{K:aB}{mg:Str->Option Value}{base:Heap}
theorem Ge{x qual:Str}{st:Stmt}{f:Addr}{fd:FuncData}{N ps:List Str}{k:Nat}{F:SF}(Fn:sv K x qual st f fd)(S:c8 N ps (fm st))
  (dC:∀X:Cx,X.prog=P->X.w=w->X.K=K->X.mg=mg->X.base=base->Fx X N (fm st) k->jY X (ip st) F):bM P w K mg base iH (k+1) f fd ps (mo K ps.length (aP F N.length)):=
 Gf Fn S λcY A outer s H E hr=>dC _ rfl rfl rfl rfl rfl ⟨rfl,rfl,rfl,λ_ _=>rfl,G',hr,S.nd,λ_=>⟨rfl,rfl,rfl⟩⟩
end
def Oz(P:Program)(w:World)(K:aB)(mg:Str->Option Value)(base:Heap)(x:Str)(st:Stmt)(ps:List Str)(j:Nat)(φ:List D->Option Sl):Prop:=∃f fd,Def K mg x st ps f fd/\bM P w K mg base iH j f fd ps (mo K ps.length φ)
inductive Sx:Cx->Program->World->aB->(Str->Option Value)->Heap->Prop
 | mk (X:Cx):Sx X X.prog X.w X.K X.mg X.base
theorem y7{P:Program}{w:World}{K:aB}{mg:Str->Option Value}{base:Heap}{x:Str}{st:Stmt}{f:Addr}{fd:FuncData}{N ps:List Str}{k:Nat}{F:SF}(D':Def K mg x st ps f fd)
  (dC:∀X:Cx,Sx X P w K mg base->Fx X N (fm st) k->jY X (ip st) F)(S:c8 N ps (fm st):=by exact ⟨rfl,rfl,rfl,by decide +kernel,rfl,by decide +kernel,by decide +kernel⟩):bM P w K mg base iH (k+1) f fd ps (mo K ps.length (aP F N.length)):=
 Ge D'.fn S λX e1 e2 e3 e4 e5=>by subst e1 e2 e3 e4 e5;exact dC X (.mk X)
theorem aW{P:Program}{w:World}{K:aB}{mg:Str->Option Value}{base:Heap}{x:Str}{st:Stmt}{f:Addr}{fd:FuncData}{N ps:List Str}{k:Nat}{F:SF}(D':Def K mg x st ps f fd)
  (dC:∀X:Cx,Sx X P w K mg base->Fx X N (fm st) k->jY X (ip st) F)(S:c8 N ps (fm st):=by exact ⟨rfl,rfl,rfl,by decide +kernel,rfl,by decide +kernel,by decide +kernel⟩):Oz P w K mg base x st ps (k+1) (aP F N.length):=
 ⟨f,fd,D',y7 D' dC S⟩
theorem nV{X X':Cx}{x:Str}{st:Stmt}{ps:List Str}{j:Nat}{φ:List D->Option Sl}(e1:X'.prog=X.prog)(e2:X'.w=X.w)(e3:X'.K=X.K)(e4:X'.mg=X.mg)(e5:X'.base=X.base)(O:Oz X.prog X.w X.K X.mg X.base x st ps j φ):Oz X'.prog X'.w X'.K X'.mg X'.base x st ps j φ:=by
 rw [e1,e2,e3,e4,e5];exact O
theorem Fx.cl{X:Cx}{N:List Str}{sc:Scope}{k j:Nat}{full:Bool}{x:Str}{st:Stmt}{ps:List Str}{φ:List D->Option Sl}{e:Expr}{es:List Expr}{fs:En->Option (List D)}{p pos:Pos}(h:Fx X N sc k full)(O:Oz X.prog X.w X.K X.mg X.base x st ps j φ)(ha:AV X (e::es) fs)(hj:j<=k:=by decide)(hg:sc.names.lookup x=some .globalImplicit:=by rfl)(jF:(x==("__debug__":Str))=false:=by decide)(he:starEach (e::es) X.env=(false,eval e X.env)::starEach es X.env:=by rfl)(dO:(backTo pos (starEach es X.env)).any (·.1)=false:=by rfl):
  EV X (.Call (.Name x p) (e::es) [] pos) (aU ps.length φ fs):=by
 obtain ⟨f,fd,D',F⟩:=O
 exact YD F (h.room.mono hj) (h.g hg) D'.m D'.fn.kp D'.bd ha jF he dO
structure FI(K:aB)(n:Str)(t:Stmt)(f:Addr)(od an:Option Addr)(sl:Array (Option Value))(oc kV dc pm cd ct:Value):Prop where
 a:ju K mainGlobals n=some (some (.ref f))
 l:K.lookup f=some ⟨oc,od,.func (jv n n (kE t) (ip t) (fm t) .none kV dc pm an cd ct),sl⟩
 c:Cp K cd n=true
 k:t7 K (.ref f)=true
section
variable {K:aB}{mg:Str->Option Value}{h:Heap}{n:Str}{t:Stmt}{f:Addr}{od an:Option Addr}{sl:Array (Option Value)}{oc kV dc pm cd ct:Value}{ps:List Str}
theorem BB(X:K.In h)(G:h.Ns mainGlobals mg)(i:FI K n t f od an sl oc kV dc pm cd ct)(hb:∀(kV doc pm:Value) (an:Option Addr) (cY ct:Value) (us:List Value),us.length=ps.length->bindArgs (jv n n (kE t) (ip t) (fm t) .none kV doc pm an cY ct) ⟨us,[]⟩=pure (ps.zip us)):Def K mg n t ps f (jv n n (kE t) (ip t) (fm t) .none kV dc pm an cd ct):=
 ⟨Nh i.l i.c i.k,(Nh i.l i.c i.k).binds hb,GO X G i.a⟩
theorem cV(X:K.In h)(G:h.Ns mainGlobals mg)(i:FI K n t f od an sl oc kV dc pm cd ct)(hb:∀(kV doc pm:Value) (an:Option Addr) (cY ct a0:Value),bindArgs (jv n n (kE t) (ip t) (fm t) .none kV doc pm an cY ct) ⟨[a0],[]⟩=pure (ps.zip [a0]):=by intros;rfl)(hl:ps.length=1:=by rfl):Def K mg n t ps f (jv n n (kE t) (ip t) (fm t) .none kV dc pm an cd ct):=
 BB X G i λ_ _ _ _ _ _ us hu=>by obtain ⟨_,rfl⟩:=M6 (hu.trans hl);exact hb ..
theorem dh(X:K.In h)(G:h.Ns mainGlobals mg)(i:FI K n t f od an sl oc kV dc pm cd ct)(hb:∀(kV doc pm:Value) (an:Option Addr) (cY ct a0 a1:Value),bindArgs (jv n n (kE t) (ip t) (fm t) .none kV doc pm an cY ct) ⟨[a0,a1],[]⟩=pure (ps.zip [a0,a1]):=by intros;rfl)(hl:ps.length=2:=by rfl):Def K mg n t ps f (jv n n (kE t) (ip t) (fm t) .none kV dc pm an cd ct):=
 BB X G i λ_ _ _ _ _ _ us hu=>by obtain ⟨_,_,rfl⟩:=M7 (hu.trans hl);exact hb ..
theorem sT(X:K.In h)(G:h.Ns mainGlobals mg)(i:FI K n t f od an sl oc kV dc pm cd ct)(hb:∀(kV doc pm:Value) (an:Option Addr) (cY ct a0 a1 a2:Value),bindArgs (jv n n (kE t) (ip t) (fm t) .none kV doc pm an cY ct) ⟨[a0,a1,a2],[]⟩=pure (ps.zip [a0,a1,a2]):=by intros;rfl)(hl:ps.length=3:=by rfl):Def K mg n t ps f (jv n n (kE t) (ip t) (fm t) .none kV dc pm an cd ct):=
 BB X G i λ_ _ _ _ _ _ us hu=>by obtain ⟨_,_,_,rfl⟩:=M8 (hu.trans hl);exact hb ..
theorem sS(X:K.In h)(G:h.Ns mainGlobals mg)(i:FI K n t f od an sl oc kV dc pm cd ct)(hb:∀(kV doc pm:Value) (an:Option Addr) (cY ct a0 a1 a2 a3:Value),bindArgs (jv n n (kE t) (ip t) (fm t) .none kV doc pm an cY ct) ⟨[a0,a1,a2,a3],[]⟩=pure (ps.zip [a0,a1,a2,a3]):=by intros;rfl)(hl:ps.length=4:=by rfl):Def K mg n t ps f (jv n n (kE t) (ip t) (fm t) .none kV dc pm an cd ct):=
 BB X G i λ_ _ _ _ _ _ us hu=>by obtain ⟨_,_,_,_,rfl⟩:=yd (hu.trans hl);exact hb ..
end
end DL
namespace DL
open PySem L2
theorem XA(i j:Int):bI (.int i) (.int j)=some (.sh (.int (i-j))):=rfl
end DL
namespace DL
open PySem PySem.Spec PyProof.Rows L2
def v7(K:aB)(O:Addr->Prop)(J:It)(H:Hp)(ds:List D):Prop:=
 ∀(O':Addr->Prop) (H2:Hp),(∀q u,H q=some u->¬O q->H2 q=some u/\¬O' q)->(∀q,O' q->H2 q≠none) ->
  ∀i:Nat,(∀d,ds[i]?=some d->J.go i H2/\∀x H3,J.sy i H2 x H3->ar H2 H3/\Is K O' H3 x d)/\(ds.length<=i->J.stop i H2)
def IV(X:Cx)(tg it:Expr)(f:En->Option (List D)):Prop:=
 ∃wi:TI,PI X tg it wi/\∀(O:Addr->Prop) (B:Hp) (σ:L2.St) (H:Hp) (env:En) (ds:List D) (R:It->Hp->Prop),Rel X.K O B σ H env->f env=some ds ->
  (∀J H',ar H H'->v7 X.K (OO O σ env) J H' ds->R J H')->wi σ H R
theorem Oc{K:aB}{O:Addr->Prop}{H H2:Hp}{k:Bool}{p:Addr}{xs:List V}(kp:∀q u,H q=some u->¬O q->H2 q=some u)(h:Sq K H k p xs)(hp:¬O p):Sq K H2 k p xs:=by
 cases k with
 | true =>
  rcases h with (h | ⟨o,h⟩) | h
  .exact .inl (.inl (kp _ _ h hp))
  .exact .inl (.inr ⟨o,kp _ _ h hp⟩)
  .exact .inr h
 | false =>
  rcases h with (h | ⟨o,h⟩) | h
  .exact .inl (.inl (kp _ _ h hp))
  .exact .inl (.inr ⟨o,kp _ _ h hp⟩)
  .exact .inr h
noncomputable def ic(f:En->Option Sl):En->Option (List D):=λenv=>(f env).bind λr=>(d9 r.d).map (·.2)
section
variable {X:Cx}{tg it:Expr}{fa:En->Option Sl}
theorem uE(hi:EV X it fa):IV X tg it (ic fa):=by
 obtain ⟨ti,pi,ki⟩:=hi
 refine ⟨_,Nv pi,λO B σ H env ds R Rl e q=>?_⟩
 obtain ⟨r,e1,e2⟩:=bind_some e
 obtain ⟨⟨k,fH⟩,e4,e5⟩:=map_some e2
 cases e5
 refine ki O B σ H env r _ Rl e1 λv H1 s1 r1=>?_
 obtain ⟨p,xs,rfl,h1,h2,h3⟩:=(r1.is λq=>Rl.oo).pU e4
 refine ⟨p,rfl,?_⟩
 have key:∀(O':Addr->Prop) (H2:Hp),(∀q u,H1 q=some u->¬OO O σ env q->H2 q=some u/\¬O' q)->Sq X.K H2 k p xs/\aI X.K O' H2 xs fH:=λO' H2 kp=>by
  refine ⟨?_,h2.map (λq hq hn=>?_) λq u e n=>(kp q u e n).1⟩
  .rcases h3 with h3 | h3
   .exact Oc (λq u e n=>(kp q u e n).1) h1 h3
   .exact h3 H2
  .cases e:H1 q with
   | none=>exact (hq e).elim
   | some u=>exact (kp q u e hn).2
 cases k with
 | true =>
  refine .inl ⟨⟨xs,h1⟩,q _ H1 s1 λO' H2 kp hO i=>⟨λd hd=>?_,λhl=>?_⟩⟩
  .obtain ⟨hq,hs⟩:=key O' H2 kp
   obtain ⟨x,hx,vo⟩:=hs.get hd
   refine ⟨⟨xs,x,hq,hx⟩,λy H3 hy=>?_⟩
   obtain ⟨rfl,hy⟩:=hy
   have:=hy xs hq
   rw [hx] at this
   cases this
   exact ⟨ar.refl _,vo⟩
  .obtain ⟨hq,hs⟩:=key O' H2 kp
   exact ⟨xs,hq,by rw [hs.length];exact hl⟩
 | false =>
  refine .inr ⟨⟨xs,h1⟩,q _ H1 s1 λO' H2 kp hO i=>⟨λd hd=>?_,λhl=>?_⟩⟩
  .obtain ⟨hq,hs⟩:=key O' H2 kp
   obtain ⟨x,hx,vo⟩:=hs.get hd
   refine ⟨⟨xs,x,hq,hx⟩,λy H3 hy=>?_⟩
   obtain ⟨rfl,hy⟩:=hy
   have:=hy xs hq
   rw [hx] at this
   cases this
   exact ⟨ar.refl _,vo⟩
  .obtain ⟨hq,hs⟩:=key O' H2 kp
   exact ⟨xs,hq,by rw [hs.length];exact hl⟩
theorem Z3{K:aB}{O:Addr->Prop}{H:Hp}(lo:Int)(n:Nat):v7 K O (mY lo n) H (dB lo n):=λO' H2 _ _ i=>by
 refine ⟨λd hd=>?_,λhl=>show n<=i by simpa [dB] using hl⟩
 unfold dB at hd
 rw [l9] at hd
 obtain ⟨k,hk,rfl⟩:=map_some hd
 obtain ⟨hi,rfl⟩:=kr.mp hk
 rw [vR] at hi
 refine ⟨hi,λx H3 hy=>?_⟩
 obtain ⟨rfl,rfl⟩:=hy
 rw [L8]
 exact ⟨ar.refl _,Is.int _⟩
noncomputable def jG(h:List D->Option (List D))(f:En->Option (List D)):En->Option (List D):=λenv=>(f env).bind h
noncomputable def Ia(f:En->Option (List D))(g:GF)(F:SF):SF:=λenv=>(f env).bind λds=>forL g F ds env
theorem YV(hp:PassesOwn (model X.prog X.w) X.A X.env X.xe)(hc:X.calm=true)(hi:IV X tg it fi)(hg:GV X tg g)(hb:jY X body F)
  (hs:∀x,foldedSetIterable it X.env x=pure x:=by intro _;rfl):SV X (.For tg it body [] pos) (Ia fi g F):=by
 obtain ⟨wi,pi,ki⟩:=hi
 obtain ⟨pO,pg,kg⟩:=hg
 obtain ⟨tb,pb,kb⟩:=hb
 refine ⟨_,IA hp hc pi pg pb hs,λO B σ H env fl ak D R e q=>?_⟩
 obtain ⟨ds,e1,e2⟩:=bind_some e
 refine ki O B σ H env ds _ R e1 λJ H1 s1 wk=>?_
 have q':de X.K O B σ H1 env D fl ak:=q.from (Gd.refl s1)
 refine ⟨λi m cu H2=>m=ds.length-i/\i<=ds.length/\Left X.K O B σ H1 env g F ds fl ak i cu H2,⟨ds.length,by simp,jM _,⟨env,R.grow s1,Gd.refl (ar.refl _),e2⟩⟩,?_⟩
 rintro i m cu H2 ⟨rfl,hi,L⟩
 obtain ⟨bh,R2,gd,ee⟩:=id L
 have w:=wk (OO O cu bh) H2 (λa u ea na=>by
  obtain ⟨h1,h2⟩:=gd a u ea λz=>na (.inr z)
  exact ⟨h1,λz=>z.elim (λz=>na (.inl z)) h2⟩) (λa=>R2.oo) i
 by_cases bg:i<ds.length
 .obtain ⟨go,yl⟩:=w.1 ds[i] (by simp [bg])
  refine .inr ⟨go,Left X.K O B σ H1 env g F ds fl ak (i+1),λaE H' p'=>⟨ds.length-(i+1),by ext bg,rfl,bg,p'⟩,λx H3 hy=>?_⟩
  obtain ⟨s3,hx⟩:=yl x H3 hy
  have kZ:ds.drop i=ds[i]::ds.drop (i+1):=mK bg
  rw [kZ,forL] at ee
  cases FH:g ds[i] bh with
  | none=>rw [FH] at ee;cases ee
  | some lg =>
   rw [FH] at ee
   refine kg O B cu H3 bh lg x ds[i] _ (R2.grow s3) hx FH λQx H4 R4 g4=>?_
   dsimp only at ee
   cases hF:F lg with
   | none=>rw [hF] at ee;cases ee
   | some y =>
    obtain ⟨f2,fC⟩:=y
    rw [hF] at ee
    have F8:=gd.trans ((Gd.refl s3).trans g4)
    refine kb O B Qx H4 lg f2 fC _ R4 hF ?_
    cases f2 with
    | nx=>exact λD9 H5 R5 g5=>⟨fC,R5,F8.trans g5,ee⟩
    | ct=>exact λD9 H5 R5 g5=>⟨fC,R5,F8.trans g5,ee⟩
    | bk=>cases ee;exact λD9 H5 R5 g5=>q' D9 H5 R5 (F8.trans g5)
    | rt r=>cases ee;exact q'
 .exact .inl ⟨w.2 (by ext bg),DC (by ext bg) q' L⟩
end
noncomputable def rl(cH sc:Scope):Scope:=
 { cH with names:=cH.names.map λ(n,k)=>if (k==.free&&sc.kind==.function&&sc.names.lookup n==some .cell) then (n,.cell) else (n,k) }
theorem JD{sc:Scope}:∀{names:List (Str×NameKind)} {x:Str} {k:NameKind},names.lookup x=some k ->
  (names.map λ(n,k)=>if (k==mG&&sc.kind==.function&&sc.names.lookup n==some .cell) then (n,uc) else (n,k)).lookup x=some (if (k==mG&&sc.kind==.function&&sc.names.lookup x==some .cell) then uc else k)
 | [],_,_,h=>by simp at h
 | (n,k')::r,x,k,h=>by
  have ih:=@JD sc r x k
  show List.lookup x ((if (k'==mG&&sc.kind==.function&&sc.names.lookup n==some .cell)=true then (n,uc) else (n,k'))::_)=_
  cases hx:x==n with
  | true =>
   simp only [mN,hx] at h
   cases h
   have e:x=n:=by simpa using hx
   subst e
   split<;>simp [mN]
  | false =>
   simp only [mN,hx] at h
   split
   .simp only [mN,hx];exact ih h
   .simp only [mN,hx];exact ih h
theorem a87{sc:Scope}:∀{names:List (Str×NameKind)} {x:Str} {k:NameKind},
  (names.map λ(n,k)=>if (k==mG&&sc.kind==.function&&sc.names.lookup n==some .cell) then (n,uc) else (n,k)).lookup x=some k->∃k',names.lookup x=some k'/\k=if (k'==mG&&sc.kind==.function&&sc.names.lookup x==some .cell) then uc else k'
 | names,x,k,h=>by
  cases e:names.lookup x with
  | some k'=>have:=JD (sc:=sc) e;rw [h] at this;exact ⟨k',rfl,cF this⟩
  | none =>
   exfalso
   induction names with
   | nil=>simp at h
   | cons y r ih =>
    obtain ⟨n,k'⟩:=y
    have h':List.lookup x ((if (k'==mG&&sc.kind==.function&&sc.names.lookup n==some .cell)=true then (n,uc) else (n,k'))::(r.map λ(n,k)=>if (k==mG&&sc.kind==.function&&sc.names.lookup n==some .cell) then (n,uc) else (n,k)))=some k:=h
    cases hx:x==n with
    | true=>simp [mN,hx] at e
    | false =>
     simp only [mN,hx] at e
     apply ih _ e
     split at h'
     .simpa only [mN,hx] using h'
     .simpa only [mN,hx] using h'
noncomputable def ej(cells:List (Str×Addr)):List (Str×NameKind)->List (Str×Addr)->List (Str×Addr)
 | [],acc=>acc
 | (n,k)::r,acc=>ej cells r (if k==.free then (n,(cells.lookup n).getD 0)::acc else acc)
theorem Kb:∀(names:List (Str×NameKind)) (acc:List (Str×Addr)),(∀y∈names,y.2=.free->∃c,env.cells.lookup y.1=some c) ->
  (forIn names acc λ(x:Str×NameKind) r=>(if (x.2==.free)=true then do let a <-cellOf env x.1;pure (o8 ((x.1,a)::r)) else pure (o8 r):Sem (ForInStep (List (Str×Addr)))))=pure (ej env.cells names acc)
 | [],acc,_=>rfl
 | (n,k)::r,acc,h=>by
  rw [Ce]
  have hr:∀y∈r,y.2=.free->∃c,env.cells.lookup y.1=some c:=λy hy=>h y (cG _ hy)
  cases hk:k==mG with
  | true =>
   have ek:k=.free:=by simpa using hk
   obtain ⟨c,hc⟩:=h (n,k) cm ek
   replace hc:env.cells.lookup n=some c:=hc
   have tL:cellOf env n=pure c:=by unfold cellOf;rw [hc]
   simp only [if_true]
   rw [tL]
   simp only [pure_bind]
   rw [Kb r _ hr]
   conv=>rhs;unfold ej
   rw [hk,hc]
   rfl
  | false =>
   simp only [oB,if_false,pure_bind]
   rw [Kb r _ hr]
   conv=>rhs;unfold ej
   rw [hk]
   rfl
theorem a6g(h:∀y∈sc.names,y.2=.free->∃c,env.cells.lookup y.1=some c):closureFor sc env=pure (ej env.cells sc.names []):=by
 unfold closureFor
 rw [<-Kb sc.names [] h]
 show (forIn sc.names [] _ >>= λcs=>pure cs)=_
 rw [bind_pure]
theorem O6:∀(names:List (Str×NameKind)) (acc:List (Str×Addr)) {c:Addr},(ej cells names acc).lookup x=some c->acc.lookup x=some c\/((x,mG)∈names/\c=(cells.lookup x).getD 0)
 | [],acc,c,h=>.inl h
 | (n,k)::r,acc,c,h=>by
  unfold ej at h
  rcases O6 r _ h with h1 | ⟨h,e⟩
  .clear h
   have h:=h1
   clear h1
   cases hk:k==mG with
   | false=>rw [hk] at h;exact .inl (by simpa using h)
   | true =>
    rw [hk] at h
    simp only [if_true] at h
    have ek:k=.free:=by simpa using hk
    cases hx:x==n with
    | true =>
     simp only [mN,hx] at h
     have e:x=n:=by simpa using hx
     subst e ek
     exact .inr ⟨cm,(cF h).symm⟩
    | false =>
     simp only [mN,hx] at h
     exact .inl h
  .exact .inr ⟨cG _ h,e⟩
theorem Pf:∀(names:List (Str×NameKind)) (acc:List (Str×Addr)),((∃c,acc.lookup x=some c)\/(x,mG)∈names)->∃c,(ej cells names acc).lookup x=some c
 | [],acc,h=>h.elim id λz=>nomatch z
 | (n,k)::r,acc,h=>by
  unfold ej
  refine Pf r _ ?_
  cases hk:k==mG with
  | false =>
   rcases h with h | h
   .exact .inl (by simpa using h)
   .rcases bx.mp h with e | h
    .cases e;simp at hk
    .exact .inr h
  | true =>
   simp only [if_true]
   cases hx:x==n with
   | true=>exact .inl ⟨_,by simp only [mN,hx];rfl⟩
   | false =>
    rcases h with ⟨c,h⟩ | h
    .exact .inl ⟨c,by simp only [mN,hx];exact h⟩
    .rcases bx.mp h with e | h
     .cases e;simp at hx
     .exact .inr h
structure cX(N:List Str)(sc:Scope)(N':List Str)(caps:List Nat)(nt:Nat)(cH:Scope):Prop where
 kind:cH.kind=.function
 loc:∀y∈cH.names,y.2=.local->cH.names.lookup y.1=some .local
 nY:∀y∈cH.names,y.2≠.cell
 free:∀y∈cH.names,y.2=.free->sc.names.lookup y.1=some .cell\/sc.names.lookup y.1=some .free
 nd:N'.Nodup
 len:N'.length=nt+caps.length
 W6:caps.map (λi=>N[i]?)=(N'.drop nt).map some
 fr:∀x∈N'.drop nt,cH.names.lookup x=some .free
theorem JQ{names:List (Str×NameKind)}{x:Str}(h:names.lookup x=some k):(x,k)∈names:=vQ h
noncomputable def ig:List Nat->En->Option En
 | [],_=>some []
 | i::is,env=>match env[i]? with
  | some (.sh d)=>(ig is env).map (Sl.sh d::·)
  | _=>none
noncomputable def lG(g:GF)(fc:En->Option Bool)(fe:En->Option Sl):List D->En->Option (List D)
 | [],_=>some []
 | d::ds,e=>(g d e).bind λe1=>(fc e1).bind λb=>if b=true then (fe e1).bind λr=>(lG g fc fe ds e1).bind λrs=>some (r.d::rs) else lG g fc fe ds e1
noncomputable def lH(fi:En->Option (List D))(caps:List Nat)(nt:Nat)(g:GF)(fc:En->Option Bool)(fe:En->Option Sl):En->Option Sl:=λenv =>
 (fi env).bind λds=>(ig caps env).bind λcs=>if ds.length<=16777216 then (lG g fc fe ds (iB nt Sl.no++cs)).map Sl.ow else none
noncomputable def di:List Nat->L2.St->L2.St
 | [],_=>[]
 | i::is,σ=>(σ[i]?).getD none::di is σ
theorem N4{K:aB}{O:Addr->Prop}{B:Hp}{σ:L2.St}{H:Hp}{env:En}(R:Rel K O B σ H env):∀{caps:List Nat} {cs:En},ig caps env=some cs->cs.length=caps.length/\(di caps σ).length=caps.length /\
  ∀(j:Nat) (s:Sl),cs[j]?=some s->∃(d:D) (v:V) (i:Nat),s=Sl.sh d/\(di caps σ)[j]?=some (some v)/\Is K (OO O σ env) H v d/\caps[j]?=some i/\σ[i]?=some (some v)
 | [],cs,e=>by cases e;exact ⟨rfl,rfl,λj s h=>by simp at h⟩
 | i::is,cs,e=>by
  unfold ig at e
  cases h:env[i]? with
  | none=>rw [h] at e;cases e
  | some s =>
   rw [h] at e
   cases s with
   | no=>cases e
   | ow ds=>cases e
   | dw ds=>cases e
   | sh d =>
    obtain ⟨cs',e1,rfl⟩:=map_some (show (ig is env).map (Sl.sh d::·)=some cs from e)
    obtain ⟨l1,l2,ih⟩:=N4 R e1
    obtain ⟨v,hv,hi⟩:=R.sh i d h
    refine ⟨by simp [l1],by simp [di,l2],λj s hj=>?_⟩
    cases j with
    | zero=>simp at hj;subst hj;exact ⟨d,v,i,rfl,by simp [di,hv],hi,rfl,hv⟩
    | succ j =>
     obtain ⟨d',v',i',a1,a2,a3,a4,a5⟩:=ih j s (by simpa using hj)
     exact ⟨d',v',i',a1,by simpa [di] using a2,a3,by simpa using a4,a5⟩
def KS(X:Cx)(ifs:List Expr)(f:En->Option Bool):Prop:=
 ∃t:TT,(∀(pins:List (Addr×Obj)) (s:Shared) (σ:L2.St) (H:Hp) (Q:Bool->Hp->Prop),Inv X pins σ H s->t σ H Q ->
   wpAny (model X.prog X.w) X.A (forIn ifs true λc r=>if r=true then do let ok <-isTrue c X.env (eval c X.env);pure (o8 ok) else pure (o8 r)) (TP X pins σ Q) X.xe s) /\
  ∀(O:Addr->Prop) (B:Hp) (σ:L2.St) (H:Hp) (env:En) (b:Bool) (Q:Bool->Hp->Prop),Rel X.K O B σ H env->f env=some b->(∀H',ar H H'->Q b H')->t σ H Q
noncomputable def mR:En->Option Bool:=λ_=>some true
theorem pB:KS X [] mR:=⟨λ_ H Q=>Q true H,λpins s σ H Q I h=>wpAny_tests_nil ⟨H,I,h⟩,λO B σ H env b Q R e q=>by cases e;exact q H (ar.refl _)⟩
section
variable {prog:Program}{w:World}{A:Around}{R:Result->Shared->Prop}{s:Shared}
theorem a73{elt target iter:Expr}{ifs:List Expr}{scope:Scope}{pos:Pos}{it acc:Value}{env:Env}(I:Nat->Shared->Prop){N:Value->Shared->Prop}(hN:∀x s',N x s'->False)
  (turn:∀n s,I n s->wpAny (model prog w) A (pyNext it) (λr aG=>match r with
   | none=>R (.ok .next) aG
   | some v=>wpAny (model prog w) A (letOwnedTupleGo target it v) (λ_ qM=>wpAny (model prog w) A (assign target env v) (λ_ dY =>
     wpAny (model prog w) A (forIn ifs true λc r=>if r=true then do let ok <-isTrue c env (eval c env);pure (o8 ok) else pure (o8 r)) (λok nO =>
      if ok=true then wpAny (model prog w) A (eval elt env) (λx xf =>
       wpAny (model prog w) A (call (.builtin "list.append") [acc,x]) (λ_ xc=>∃m,m<n/\I m xc) N xf) N nO
      else ∃m,m<n/\I m nO) N dY) N qM) N aG) N s)
  (n:Nat)(h:I n s):
  codeAny (model prog w) A (.compLoop (.ListComp elt [⟨target,iter,ifs,0⟩] scope pos) 0 it acc env) R s:=by
 refine codeAny_loop rfl I (λn s hI=>?_) n h
 show wpAny _ A ((compTurn (.ListComp elt [⟨target,iter,ifs,0⟩] scope pos) 0 it acc env).onRaise (λx=>do noteFrame x env;theTreesLotGoes x)) _ _ s
 refine wpAny_noted ?_
 rw [compTurn_list]
 have no:∀{P:Value->Shared->Prop} (x:Value) (s':Shared),N x s'->P x s':=λx s' z=>(hN x s' z).elim
 refine ah (wpAny_standAt (ah (je (turn n s hI) (λr aG h₁=>?_) no)))
 cases r with
 | none=>exact aH h₁
 | some v =>
  refine ah (je h₁ (λ_ qM yt=>?_) no)
  refine ah (je yt (λ_ dY Fc=>ah (je Fc (λok nO yr=>?_) no)) no)
  cases ok with
  | false=>exact aH ⟨rfl,yr⟩
  | true =>
   exact ah (ah (je yr (λx xf E'=>ah (je E' (λ_ xc E9=>aH (aH ⟨rfl,E9⟩)) no)) no))
end
section
variable {X:Cx}{N N':List Str}{sc cH:Scope}{k:Nat}{full:Bool}{elt iter tg:Expr}{ifs:List Expr}{pos:Pos}{fi:En->Option (List D)}{caps:List Nat}{nt:Nat}{g:GF}{fc:En->Option Bool}{fe:En->Option Sl}
noncomputable def rj(X:Cx)(N':List Str)(cH:Scope)(ex:List Addr)(s:Shared)(H:Hp):Cx where
 prog:=X.prog
 w:=X.w
 K:=X.K
 mg:=X.mg
 base:=X.base
 A:=X.A
 N:=N'
 cC:=s
 oP:=H
 env:=compEnvC cH (ej X.env.cells cH.names []) s.heap.objs.size X.env
 outer:=X.stack
 stack:=X.stack
 ex:=ex
 fn:=λ_=>false
 calm:=true
 pn:=[]
 xe:=λ_ _=>False
theorem rQ(C:cX N sc N' caps nt cH)(m7:X.env.scope=sc){pins:List (Addr×Obj)}{σ:L2.St}{H:Hp}{s:Shared}(I:Inv X pins σ H s){x:Str}{c:Addr}(h:(ej X.env.cells cH.names []).lookup x=some c):X.env.cells.lookup x=some c:=by
 rcases O6 _ _ h with h | ⟨h,e⟩
 .simp at h
 .obtain ⟨c',rf⟩:=I.ok.has x (by
   show X.env.scope.names.lookup x=_\/X.env.scope.names.lookup x=_
   rw [m7]
   exact C.free _ h rfl)
  rw [rf] at e
  rw [e];exact rf
theorem NJ(h:cH.names.lookup x=some .free):∃c,(ej X.env.cells cH.names []).lookup x=some c:=Pf _ _ (.inr (JQ h))
theorem Zu(C:cX N sc N' caps nt cH)(m7:X.env.scope=sc)(hc:X.calm=true){pins:List (Addr×Obj)}{σ:L2.St}{H:Hp}{s s3:Shared}{fp:List Addr}(I:Inv X pins σ H s)(I3:Inv X pins σ H s3)
  (hf:∀b∈fp,cP X pins H b)(yL:∀b∈fp,∃o,s3.heap.get? b=some o)(hs:s3.heap.objs.size=s.heap.objs.size+1):(rj X N' cH (s.heap.objs.size::fp) s3 H).Ok:=by
 have small:∀x c,X.env.cells.lookup x=some c->c<s.heap.objs.size:=λx c e=>by
  obtain ⟨v,z⟩:=I.cell x c e
  exact z.lt
 have kd:∀x,((rj X N' cH (s.heap.objs.size::fp) s3 H).env.kindOf x=some .cell\/(rj X N' cH (s.heap.objs.size::fp) s3 H).env.kindOf x=some .free)->cH.names.lookup x=some .free:=λx h=>by
  have h':∃k,(rl cH X.env.scope).names.lookup x=some k/\(k=.cell\/k=.free):=h.elim (λz=>⟨_,z,.inl rfl⟩) λz=>⟨_,z,.inr rfl⟩
  obtain ⟨k,e,hk⟩:=h'
  obtain ⟨k',e1,e2⟩:=a87 e
  have nc:k'≠.cell:=C.nY _ (JQ e1)
  by_cases q9:(k'==mG&&X.env.scope.kind==.function&&X.env.scope.names.lookup x==some .cell)=true
  .have:k'=.free:=by
    have:=(qt _ _▸(qt _ _▸q9).1).1
    simpa using this
   rw [e1,this]
  .rw [if_neg q9] at e2
   subst e2
   rcases hk with rfl | rfl
   .exact (nc rfl).elim
   .exact e1
 refine ⟨I.ok.mod,C.kind,I.ok.glob,I.ok.blt,aV _,λx y c h1 h2=>I.ok.inj x y c (rQ C m7 I h1) (rQ C m7 I h2),λx h=>NJ (kd x h),λ_ _ (z:false=true) _=>(nomatch z),λ_=>I.ok.hd hc,I.ok.frames,.inl rfl,λb hb=>⟨?_,λx c e=>?_⟩,λb o e=>?_,?_,λb o e hb=>?_,λb hb vm=>?_,I3.stack,λb hb=>I.lT b hb⟩
 .show b≠s3.heap.objs.size
  rcases bx.mp hb with rfl | hb
  .rw [hs];exact cI (jK _)
  .obtain ⟨o,e⟩:=yL b hb
   exact cI (bF e)
 .have e':=rQ C m7 I e
  rcases bx.mp hb with rfl | hb
  .exact cI (small x c e')
  .exact (hf b hb).2.2.2.2.1 x c e'
 .exact I3.bs b o e
 .exact dE I.ok.ni I3.sz
 .have lt:b<X.base.objs.size:=bF e
  have h0:=I.ok.ni
  have h1:=I.sz
  rcases bx.mp hb with rfl | hb
  .exact absurd (jg lt (dE h0 h1)) (o6 _)
  .rcases (hf b hb).2.2.2.1 with z | z
   .exact I.ok.nX b o e z
   .exact absurd (jg lt (dE h0 z)) (o6 _)
 .rcases bx.mp hb with rfl | hb
  .obtain ⟨_,o,ho,_⟩:=I.stack.mem vm
   exact absurd (bF ho) (o6 _)
  .rcases bx.mp (I.gg b vm) with z | z
   .exact (hf b hb).2.1 z
   .exact (hf b hb).2.2.1 z
theorem Dv{α:Type}{n j:Nat}{x y:α}{l:List α}(h:(iB n x++l)[j]?=some y):y=x\/(n<=j/\l[j-n]?=some y):=by
 by_cases hj:j<n
 .rw [uz (by simpa using hj),CD,if_pos hj] at h
  exact .inl (cF h).symm
 .rw [qv (by simpa using hj),Cz] at h
  exact .inr ⟨by ext hj,h⟩
theorem b01(C:cX N sc N' caps nt cH)(m7:X.env.scope=sc)(hN:X.N=N)(hc:X.calm=true){pins:List (Addr×Obj)}{σ:L2.St}{H:Hp}{s s3 s4:Shared}{fp:List Addr}(I:Inv X pins σ H s)(I3:Inv X pins σ H s3)
  (hf:∀b∈fp,cP X pins H b)(yL:∀b∈fp,∃o,s3.heap.get? b=some o)(hs:s3.heap.objs.size=s.heap.objs.size+1)
  (p9:s4.os=s3.os)(hg:s4.gens=s3.gens)(hk:∀b o,s3.heap.get? b=some o->s4.heap.get? b=some o)(vj:s4.heap.Ns s3.heap.objs.size λ_=>none):
  Inv (rj X N' cH (s.heap.objs.size::fp) s3 H) [] (iB nt none++di caps σ) H s4:=by
 have sl:∀(caps:List Nat) (σ:L2.St),(di caps σ).length=caps.length:=λcaps σ=>by
  induction caps with
  | nil=>rfl
  | cons i r ih=>simp [di,ih]
 have sg:∀(caps:List Nat) (σ:L2.St) (j:Nat) (v:V),(di caps σ)[j]?=some (some v)->∃i,caps[j]?=some i/\σ[i]?=some (some v):=λcaps σ=>by
  induction caps with
  | nil=>intro j v h;simp [di] at h
  | cons i r ih =>
   intro j v h
   cases j with
   | zero =>
    have h':(σ[i]?).getD none=some v:=by simpa [di] using h
    refine ⟨i,rfl,?_⟩
    cases e:σ[i]? with
    | none=>rw [e] at h';cases h'
    | some o=>rw [e] at h';exact congrArg some h'
   | succ j =>
    obtain ⟨i',e1,e2⟩:=ih j v (by simpa [di] using h)
    exact ⟨i',by simpa using e1,e2⟩
 refine ⟨Zu C m7 hc I I3 hf yL hs,p9,by rw [hg];exact I3.bare,Un.kept hk,⟨_,vj,λi x v h1 h2 h3=>?_⟩,λx c e=>?_,I3.bb.fresh (aV _),λx c e=>I3.dD x c (rQ C m7 I e),λp hp=>absurd (show p∈([]:List (Addr×Obj)) from hp) (by simp),I3.bb.kept hk,?_⟩
 .have h1:N'[i]?=some x:=h1
  rcases Dv h2 with z | ⟨hi,h2⟩
  .cases z
  .obtain ⟨i',e1,e2⟩:=sg caps σ _ v h2
   have hd:(N'.drop nt)[i-nt]?=some x:=by rw [List.getElem?_drop,Nat.add_sub_cancel' hi];exact h1
   have hm:=congrArg (λl=>l[i-nt]?) C.W6
   simp only [l9,e1,hd,Option.map_some] at hm
   have Vn:X.N[i']?=some x:=by rw [hN];exact cF hm
   have FJ:=C.fr x (Mt hd)
   have eJ:=C.free _ (JQ FJ) rfl
   obtain ⟨m,hn,hl⟩:=I3.loc
   obtain ⟨u,r,l⟩:=hl i' x v Vn e2 (by rw [m7];exact .inr eJ)
   refine ⟨u,r,.inr ⟨?_,?_⟩⟩
   .have e:=JD (sc:=X.env.scope) FJ
    show (rl cH X.env.scope).names.lookup x=_\/(rl cH X.env.scope).names.lookup x=_
    have e':(rl cH X.env.scope).names.lookup x=_:=e
    rw [e']
    split
    .exact .inl rfl
    .exact .inr rfl
   .rcases l with ⟨k,_⟩ | ⟨k,c,e,z⟩
    .exfalso
     have k:X.env.scope.names.lookup x=some .local:=k
     rw [m7] at k
     dsimp only at eJ
     rw [k] at eJ
     rcases eJ with z | z<;>cases z
    .obtain ⟨c',rf⟩:=NJ (X:=X) FJ
     have:=rQ C m7 I rf
     rw [e] at this
     cases this
     exact ⟨c,rf,z.keeps hk⟩
 .obtain ⟨v,z⟩:=I3.cell x c (rQ C m7 I e)
  exact ⟨v,z.keeps hk⟩
 .show (iB nt none++di caps σ).length=N'.length
  rw [bQ,Cz,sl,C.len]
theorem ZI(r:au xs us):xs.length=us.length:=r.length
theorem b00{pins pl:List (Addr×Obj)}{σ aE:L2.St}{H2 H':Hp}{s2 s3 s1:Shared}{fp:List Addr}{h':Heap}{xs:List V}{ys:List Value}(I2:Inv X pins σ H2 s2)(tm:s3.os=s2.os)(yW:∀b o,s2.heap.get? b=some o->s3.heap.get? b=some o)
  (hsz:s3.heap.objs.size=s2.heap.objs.size+1)(f2:∀b∈fp,cP X pins H2 b)(I':Inv (rj X N' cH (s2.heap.objs.size::fp) s3 H2) pl aE H' s1)(sb:pd s3.heap.objs.size s1.heap h')
  (hn:H' s2.heap.objs.size=none)(hl:∃n,s1.heap.get? s2.heap.objs.size=some { cls:=.type "list",data:=.seq ys.toArray n })(hv:au xs ys)(hz:xs.length<=sizeLine):
  Inv X pins σ (upd H' s2.heap.objs.size (.lst xs)) { s1 with heap:=h' }:=by
 have TZ:∀b,b<s3.heap.objs.size->b≠s3.heap.objs.size:=λb h=>cI h
 have yc:∀b,b<s2.heap.objs.size->b≠s2.heap.objs.size:=λb h=>cI h
 have out:∀b o,s2.heap.get? b=some o->b∉fp->b∉s2.heap.objs.size::fp:=λb o e n z=>(bx.mp z).elim (yc b (bF e)) n
 have hC:H' s3.heap.objs.size=none:=I'.free
 have up:∀b o,s2.heap.get? b=some o->∀o',s1.heap.get? b=some o'->h'.get? b=some o':=λb o e o' e'=>(sb.2 b (TZ b (bF (yW b o e)))).trans e'
 have qR:∀b u,H' b=some u->b≠s2.heap.objs.size:=λb u e z=>by rw [z,hn] at e;cases e
 have u:=I'.base
 refine I2.zp (s':={ s1 with heap:=h' }) (ch:=fp) (I'.os.trans tm) ⟨λb o e n hb hx=>?_,λb o e n hb hx=>?_,λb o e n hx=>?_,λb o e hx=>?_,λb zs e=>?_,λb o v e=>?_,λb ps e=>?_⟩ (λb v e=>?_) I'.bare (λb hb=>?_)
 .exact up b o e o (u.keep b o (yW b o e) n hb (out b o e hx))
 .obtain ⟨sl,e1⟩:=u.slot b o (yW b o e) n hb (out b o e hx)
  exact ⟨sl,up b o e _ e1⟩
 .rw [cR (yc b (bF e))]
  exact u.free b o (yW b o e) n (out b o e hx)
 .obtain ⟨o',e1⟩:=u.there b o (yW b o e) (out b o e hx)
  exact ⟨o',up b o e _ e1⟩
 .have:=u.fq b zs e
  rw [cR (qR b _ this)];exact this
 .have:=u.eN b o v e
  rw [cR (qR b _ this)];exact this
 .obtain ⟨more,this⟩:=u.fu b ps e
  exact ⟨more,by rw [cR (qR b _ this)];exact this⟩
 .by_cases hb:b=s2.heap.objs.size
  .subst hb
   rw [me] at e
   cases e
   obtain ⟨n,e1⟩:=hl
   exact ⟨hz,ys,n,hv,(sb.2 _ (by rw [hsz];exact cI (jK _))).trans e1⟩
  .rw [cR hb] at e
   refine (I'.bb b v e).jA (λc w hc q=>(sb.2 c ?_).trans q) (λc _ _ q=>by rw [cR (qR c _ q)];exact q) λc zs q=>by rw [cR (qR c _ q)];exact q
   rintro rfl
   rcases hc with z | z
   .rw [<-z,hC] at e;cases e
   .rw [hC] at z;cases z
 .obtain ⟨_,g1,_,g3,g4,g5⟩:=f2 b hb
  exact ⟨g3,g1,g4,g5⟩
theorem b0P(h:Fx X N sc k full)(C:cX N sc N' caps nt cH){wi:TI}(pi:PI X tg iter wi)(ki:∀(O:Addr->Prop) (B:Hp) (σ:L2.St) (H:Hp) (env:En) (ds:List D) (R:It->Hp->Prop),Rel X.K O B σ H env->fi env=some ds->(∀J H',ar H H'->v7 X.K (OO O σ env) J H' ds->R J H')->wi σ H R)
  (hb:∀X':Cx,X'.prog=X.prog->X'.w=X.w->X'.K=X.K->X'.mg=X.mg->X'.base=X.base->Fx X' N' (rl cH sc) k false->GV X' tg g/\KS X' ifs fc/\EV X' elt fe)
  (vm:∀x,foldedSetIterable iter X.env x=pure x){pins:List (Addr×Obj)}{s:Shared}{σ:L2.St}{H:Hp}(I:Inv X pins σ H s){O:Addr->Prop}{B:Hp}{env:En}{r:Sl}(R:Rel X.K O B σ H env)(e:lH fi caps nt g fc fe env=some r)
  {use:Option (Value->Sem Unit)}{QQ:Value->Shared->Prop}
  (fin:∀(C0 p:Addr) (H':Hp) (s':Shared),(∃m,s'.heap.Ns C0 m)->cP X pins H' C0->(∀h',pd C0 s'.heap h'->Inv X pins σ H' { s' with heap:=h' })->ar H H'->Res X.K (OO O σ env) H H' (.ref p) r ->
   compPost (model X.prog X.w) X.A X.xe use QQ (.ref p) C0 (.ok .next) s'):
  wpAny (model X.prog X.w) X.A (comprehension (.ListComp elt [⟨tg,iter,ifs,0⟩] cH pos) cH X.env (firstIterPos [⟨tg,iter,ifs,0⟩] pos) (newList []) (firstAsync [⟨tg,iter,ifs,0⟩]) (firstIter [⟨tg,iter,ifs,0⟩] X.env) use) QQ X.xe s:=by
 obtain ⟨ds,e1,e2⟩:=bind_some e
 obtain ⟨cs,e3,e4⟩:=bind_some e2
 by_cases hlen:ds.length<=16777216
 case neg=>rw [if_neg hlen] at e4;cases e4
 rw [if_pos hlen] at e4
 obtain ⟨rs,e5,rfl⟩:=map_some e4
 have yP:closureFor cH X.env=pure (ej X.env.cells cH.names []):=a6g λy hy hf=>I.ok.has y.1 (by
  show X.env.scope.names.lookup y.1=_\/X.env.scope.names.lookup y.1=_
  rw [h.sc]
  exact C.free y hy hf)
 have US:=pi pins s σ H (λJ H'=>ar H H'/\v7 X.K (OO O σ env) J H' ds) I (ki O B σ H env ds _ R e1 λJ H' s' wk=>⟨s',wk⟩)
 refine wpAny_comprehension_free (use:=use) rfl vm yP C.kind C.loc (bz US λxv s1 h1=>bz h1 λE5 s2 h2=>?_)
 obtain ⟨it,fp,tn,J,H2,rfl,I2,T,dr,f2,iM,wk⟩:=h2
 refine nv (wpAny_newFunctionEnv C.nY (by intro y hy;simp at hy) (λh₁ kW kT=>?_) C.kind)
 dsimp only at kW kT ⊢
 generalize F3:s2.heap.push { cls:=.type "list",dict:=none,data:=.seq ([]:List Value).toArray }=H3 at kW kT ⊢
 have hsz:H3.objs.size=s2.heap.objs.size+1:=by rw [<-F3,fM]
 have yj:∀b o,s2.heap.get? b=some o->H3.get? b=some o:=λb o e=>by rw [<-F3];exact aZ _ e
 have BD:∀b o,H3.get? b=some o->h₁.get? b=some o:=λb o e=>kT.extBut b o (cI (bF e)) (aZ _ e)
 have I3:Inv X pins σ H2 { s2 with heap:=H3 }:=I2.kept (t':=s2.toks) yj
 have xR:∀b∈fp,b<s2.heap.objs.size:=λb hb=>by obtain ⟨o,eo,_⟩:=T.obj 0 _ dr b hb;exact bF eo
 have qR:∀b∈fp,b≠s2.heap.objs.size:=λb hb=>cI (xR b hb)
 have yL:∀b∈fp,∃o,H3.get? b=some o:=λb hb=>by obtain ⟨o,eo,_⟩:=T.obj 0 _ dr b hb;exact ⟨o,yj b o eo⟩
 have R2:=R.grow iM
 obtain ⟨lc,ls,cg⟩:=N4 R2 e3
 generalize km:rj X N' cH (s2.heap.objs.size::fp) { s2 with heap:=H3 } H2=X'
 have I4:∀t,Inv X' [] (iB nt none++di caps σ) H2 { s2 with heap:=h₁,toks:=t }:=λt=>by
  rw [<-km]
  exact b01 (s3:={ s2 with heap:=H3 }) (s4:={ s2 with heap:=h₁,toks:=t }) C h.sc h.n h.calm I2 I3 f2 yL hsz rfl rfl BD (by simpa using kW)
 have hP:X'.prog=X.prog:=by rw [<-km];rfl
 have hW:X'.w=X.w:=by rw [<-km];rfl
 have hK:X'.K=X.K:=by rw [<-km];rfl
 have hE:X'.env=compEnvC cH (ej X.env.cells cH.names []) H3.objs.size X.env:=by rw [<-km];rfl
 have hA:X'.A=X.A:=by rw [<-km];rfl
 have hx:X'.xe=λ_ _=>False:=by rw [<-km];rfl
 have FT:X'.calm=true:=by rw [<-km];rfl
 have FW:=hb X' hP hW hK (by rw [<-km];rfl) (by rw [<-km];rfl) ⟨by rw [<-km];rfl,by rw [hE];show rl cH X.env.scope=_;rw [h.sc],FT,λz=>(nomatch z),by rw [hx];exact G',by rw [hA];exact h.room,C.nd,λz=>(nomatch z)⟩
 obtain ⟨⟨pO,pg,kg⟩,⟨tc,pc,kc⟩,te,pe,ke⟩:=FW
 have Gc:∀{H':Hp} {pl:List (Addr×Obj)},(∀b∈fp,H' b=none)->(∀p∈pl,∀b∈fp,p.1≠b)->∀b∈fp,cP X' pl H' b:=λ{H' pl} hn dO b hb=>by
  obtain ⟨_,g1,g2,g3,g4,g5⟩:=f2 b hb
  rw [<-km]
  refine ⟨hn b hb,cI (jg (xR b hb) (by show s2.heap.objs.size<=H3.objs.size;rw [hsz];exact qq _)),λz=>?_,.inl (cG _ hb),λx c e=>g4 x c (rQ C h.sc I2 e),λp hp=>dO p (by simpa [rj] using hp) b hb⟩
  rcases bx.mp (I2.gg b z) with z | z
  .exact g1 z
  .exact g2 z
 have R0:Rel X'.K (OO O σ env) H2 (iB nt none++di caps σ) H2 (iB nt Sl.no++cs):=by
  have pZ:∀(i:Nat) (es:Sl),(iB nt Sl.no++cs)[i]?=some es->es.own->False:=λi es e o=>by
   rcases Dv e with z | ⟨_,z⟩
   .cases z;exact o
   .obtain ⟨d,_,_,z,_⟩:=cg _ _ z
    cases z;exact o
  have noOwn:∀p,¬j6 (iB nt none++di caps σ) (iB nt Sl.no++cs) p:=λp ⟨i,es,e,o,_⟩=>pZ i es e o
  rw [hK]
  refine ⟨ar.refl _,R2.dm,by simp [lc,ls],λi d e=>?_,λi es e=>(pZ i _ e trivial).elim,λi es e=>(pZ i _ e trivial).elim,λi j es fs p e _ _ _ o=>(pZ i es e o).elim⟩
  rcases Dv e with z | ⟨hi,z⟩
  .cases z
  .obtain ⟨d',v,i',z1,z2,z3,_⟩:=cg _ _ z
   cases z1
   refine ⟨v,?_,z3.less λp hp=>hp.elim id λz=>(noOwn p z).elim⟩
   rw [qv (by simpa using hi),Cz]
   exact z2
 have loop:∀t,codeAny (model X.prog X.w) X.A (.compLoop (.ListComp elt [⟨tg,iter,ifs,0⟩] cH pos) 0 (.ref it) (.ref s2.heap.objs.size) (compEnvC cH (ej X.env.cells cH.names []) H3.objs.size X.env))
   (compPost (model X.prog X.w) X.A X.xe use QQ (.ref s2.heap.objs.size) H3.objs.size) { s2 with heap:=h₁,toks:=t }:=λt=>by
  refine a73 (N:=λ_ _=>False) (λn s'=>∃(i:Nat) (aE:L2.St) (H':Hp) (ak:En) (ys:List Value) (xs:List V) (qO Bx:List D),n=ds.length-i/\i<=ds.length/\Inv X' [] aE H' s'/\tn i s'.heap/\(∀b∈fp,H' b=none)/\H' s2.heap.objs.size=none /\
    s'.heap.PlainList s2.heap.objs.size ys.toArray/\au xs ys/\Rel X'.K (OO O σ env) H2 aE H' ak/\Gd (iB nt none++di caps σ) (iB nt Sl.no++cs) H2 aE ak H' /\
    aI X'.K (OO (OO O σ env) aE ak) H' xs qO/\lG g fc fe (ds.drop i) ak=some Bx/\qO++Bx=rs/\qO.length<=i) (λ_ _ z=>z) ?_ ds.length
   ⟨0,_,H2,_,[],[],[],rs,by simp,jM _,I4 t,T.keep _ _ _ dr (λb _ o e=>BD b o (yj b o e)),λb hb=>(f2 b hb).1,I2.bb.fresh (aV _),⟨_,BD _ _ (by rw [<-F3];exact c9 _ rfl)⟩,.nil,R0,Gd.refl (ar.refl _),.nil,by simpa using e5,rfl,aV _⟩
  rintro n s3 ⟨i,iI,wK,lg,ys,xs,qO,Bx,rfl,hi,J3,g9,y4,Vj,K7,vx,R3,LW,yo,zm,oR,Fo⟩
  have xE:Inv X' (qA [s2.heap.objs.size] s3.heap) iI wK s3:=by
   refine J3.eI λp hp=>?_
   obtain ⟨hb,e⟩:=JG hp
   have hb:p.1=s2.heap.objs.size:=by simpa using hb
   obtain ⟨n,en⟩:=K7
   rw [hb,en] at e
   refine ⟨by rw [hb,en];exact e,by rw [hb];exact Vj,?_,λz=>?_,λv z=>?_⟩
   .rw [hb,hE]
    show s2.heap.objs.size≠H3.objs.size
    rw [hsz]
    exact cI (jK _)
   .rw [hb,<-km] at z
    obtain ⟨_,o,ho,_⟩:=I2.stack.mem z
    exact absurd (bF ho) (o6 _)
   .rw [<-cF e] at z;cases z
  have apart:∀p∈qA [s2.heap.objs.size] s3.heap,∀b∈fp,p.1≠b:=λp hp b hb z=>by
   have e:p.1=s2.heap.objs.size:=by simpa using (JG hp).1
   exact qR b hb (z.symm.trans e)
  have oD:∀{pl:List (Addr×Obj)} {aE:L2.St} {H':Hp} {s':Shared},Inv X' pl aE H' s'->(∀p∈qA [s2.heap.objs.size] s3.heap,p∈pl)->s'.heap.PlainList s2.heap.objs.size ys.toArray/\H' s2.heap.objs.size=none:=λ{pl aE H' s'} J h8=>by
   obtain ⟨n,en⟩:=K7
   obtain ⟨q1,q2,_⟩:=J.pin _ (fF _ (h8 _ (AQ (fp:=[s2.heap.objs.size]) (by simp) en)))
   exact ⟨⟨n,q1⟩,q2⟩
  have w:=wk (OO (OO O σ env) iI lg) wK (λa u ea na=>by
   obtain ⟨h1,h2⟩:=LW a u ea λ⟨i,es,e,o,_⟩=>by
    rcases Dv e with z | ⟨_,z⟩
    .cases z;exact o
    .obtain ⟨d,_,_,z,_⟩:=cg _ _ z
     cases z;exact o
   exact ⟨h1,λz=>z.elim na h2⟩) (λa=>R3.oo) i
  by_cases bg:i<ds.length
  .obtain ⟨go,yl⟩:=w.1 ds[i] (by simp [bg])
   have kZ:ds.drop i=ds[i]::ds.drop (i+1):=mK bg
   rw [kZ,lG] at zm
   obtain ⟨fC,c1,c2⟩:=bind_some zm
   obtain ⟨b,c2,c3⟩:=bind_some c2
   have ti:=T.item X' hP hW hK FT i _ s3 iI wK (λ_ _=>False) xE (Gc y4 apart) g9 go
   rw [hA] at ti
   refine bz ti λr s4 ⟨u,hr,h4⟩=>?_
   subst hr
   refine bz h4 λ_ s5 ⟨x,H5,I5,r5,y5,sG,Gb⟩=>?_
   obtain ⟨EC,UJ⟩:=yl x H5 y5
   have KU:=I5.pinned (Gc Gb apart) (T.obj _ _ sG)
   have qS:∀{aE:L2.St} {H':Hp} {s':Shared},Inv X' (qA [s2.heap.objs.size] s3.heap++qA fp s5.heap) aE H' s'->tn (i+1) s'.heap/\∀b∈fp,H' b=none:=λ{aE H' s'} J=>by
    refine ⟨T.keep _ _ _ sG λb hb o e=>(J.pin (b,o) (fF _ (fF _ (AQ hb e)))).1,λb hb=>?_⟩
    obtain ⟨o,e,_⟩:=T.obj _ _ sG b hb
    exact (J.pin (b,o) (fF _ (fF _ (AQ hb e)))).2.1
   have K8:=pg _ s5 iI H5 x u _ KU r5 (kg (OO O σ env) H2 iI H5 lg fC x ds[i] (λj' H6=>Rel X'.K (OO O σ env) H2 j' H6 fC/\Gd iI lg H5 j' fC H6) (R3.grow EC) (hK▸UJ) c1 λj' H6 R6 g6=>⟨R6,g6⟩)
   rw [hP,hW,hA,hE,hx] at K8
   refine bz K8 λ_ s6 ⟨j',H6,I6,R6,g6⟩=>?_
   have K':=pc _ s6 j' H6 (λb' H'=>b'=b/\ar H6 H') I6 (kc (OO O σ env) H2 j' H6 fC b _ R6 c2 λH' s'=>⟨rfl,s'⟩)
   rw [hP,hW,hA,hE,hx] at K'
   refine bz K' λok s7 ⟨H7,I7,bb,EB⟩=>?_
   subst bb
   have R7:=R6.grow EB
   have LV:=LW.trans ((Gd.refl EC).trans (g6.trans (Gd.refl EB)))
   have Ln:aI X'.K (OO (OO O σ env) j' fC) H7 xs qO:=((Gd.refl EC).trans (g6.trans (Gd.refl EB))).BE yo
   cases ok with
   | false =>
    rw [if_neg lx] at c3 ⊢
    obtain ⟨QM,Vw⟩:=qS I7
    obtain ⟨R9,Vi⟩:=oD I7 λp hp=>fU _ hp
    exact ⟨ds.length-(i+1),by ext bg,i+1,j',H7,fC,ys,xs,qO,Bx,rfl,bg,I7.eI (λ_ z=>nomatch z),QM,Vw,Vi,R9,vx,R7,LV,Ln,c3,oR,by ext Fo⟩
   | true =>
    rw [if_pos rfl] at c3 ⊢
    obtain ⟨r,d3,d4⟩:=bind_some c3
    obtain ⟨Rq,d5,d6⟩:=bind_some d4
    clear c3 d4 zm
    obtain rfl:=cF d6
    have K9:=pe _ s7 j' H7 (λv H'=>ar H7 H'/\Is X'.K (OO (OO O σ env) j' fC) H' v r.d) I7 (ke (OO O σ env) H2 j' H7 fC r _ R7 d3 λv H' s' rr=>⟨s',rr.is λp=>R7.oo⟩)
    rw [hP,hW,hA,hE,hx] at K9
    refine bz K9 λy s8 ⟨v,H8,I8,ry,EA,hv⟩=>?_
    obtain ⟨QL,Vv⟩:=qS I8
    obtain ⟨R8,LN⟩:=oD I8 λp hp=>fU _ hp
    have UH:ys.length=qO.length:=by rw [<-ZI vx,yo.length]
    refine wpAny_list_append_plain (hsz:=by rw [cZ,UH,fW];ext hlen Fo bg) R8 λh' RZ K6=>?_
    have J8:Inv X' [] j' H8 s8:=I8.eI λ_ z=>nomatch z
    have J9:Inv X' [] j' H8 { s8 with heap:=h' }:=J8.turned (t':=s8.toks) (it:=s2.heap.objs.size) (λb o hb e=>(K6.2 b hb).trans e) LN
     (by rw [hE];show s2.heap.objs.size≠H3.objs.size;rw [hsz];exact cI (jK _)) (.inl (by rw [<-km];exact cm))
     (λx c e=>by
      rw [hE] at e
      obtain ⟨_,z⟩:=I2.cell x c (rQ C h.sc I2 e)
      exact cI z.lt) (λp hp=>by rw [<-km] at hp;exact absurd hp (by simp [rj]))
    refine ⟨ds.length-(i+1),by ext bg,i+1,j',H8,fC,ys++[y],xs++[v],qO++[r.d],Rq,rfl,bg,J9,T.keep _ _ _ QL λb hb o e=>(K6.2 b (qR b hb)).trans e,Vv,LN,by simpa using RZ,vx.append (.cons ry .nil),R7.grow EA,LV.trans (Gd.refl EA),(Ln.grow EA).append (.cons hv .nil),d5,by rw [<-oR];simp,by simp;assumption⟩
  .have FG:i=ds.length:=by ext hi bg
   have td:=T.done X' hP hW hK FT i _ s3 iI wK (λ_ _=>False) xE (Gc y4 apart) g9 (w.2 (by ext bg))
   rw [hA] at td
   refine bz td λr s4 ⟨hr,Bo⟩=>?_
   subst hr
   obtain ⟨Sb,qd⟩:=oD Bo λp hp=>hp
   rw [pk (by ext bg),lG] at zm
   obtain rfl:=cF zm
   rw [mM] at oR
   subst oR
   obtain ⟨m4,Lz,_⟩:=Bo.loc
   rw [hE] at Lz
   obtain ⟨n4,Vy⟩:=Sb
   rw [<-km] at Bo
   have LL:H2 s2.heap.objs.size=none:=I2.bb.fresh (aV _)
   have oW:s2.heap.objs.size<=H3.objs.size:=by rw [hsz];exact qq _
   have Vp:wK H3.objs.size=none:=Bo.free
   have bo:H3.objs.size≠s2.heap.objs.size:=by rw [hsz];exact Nat.succ_ne_self _
   refine fin H3.objs.size s2.heap.objs.size (upd wK s2.heap.objs.size (.lst xs)) s4 ⟨m4,Lz⟩ (I2.iX oW (by rw [cR bo];exact Vp)) (λh' sb=>b00 (s3:={ s2 with heap:=H3 }) (ys:=ys) I2 rfl yj hsz f2 Bo sb qd ⟨n4,Vy⟩ vx (by rw [yo.length,fW];ext hlen hi Fo)) ?_ ⟨_,xs,rfl,iM.free LL,me,?_⟩
   .intro b o e
    have e2:=iM b o e
    rw [cR (pI e2 LL)]
    exact R3.same b o e2
   .rw [hK] at yo
    refine yo.map (λp hp hn z=>hn (.inl (z.elim id λz=>?_))) λp u e _=>by rw [cR (pI e qd)];exact e
    rw [z,qd] at hp
    exact (hp rfl).elim
 exact codeAny_compStart_list (loop _) (T.self _ 0 _ _ _ (T.keep _ _ _ dr (λb _ o e=>BD b o (yj b o e))) (loop _))
theorem pA(h:Fx X N sc k full)(C:cX N sc N' caps nt cH)(hi:IV X tg iter fi)
  (hb:∀X':Cx,X'.prog=X.prog->X'.w=X.w->X'.K=X.K->X'.mg=X.mg->X'.base=X.base->Fx X' N' (rl cH sc) k false->GV X' tg g/\KS X' ifs fc/\EV X' elt fe)
  (vm:∀x,foldedSetIterable iter X.env x=pure x:=by intro _;rfl):EV X (.ListComp elt [⟨tg,iter,ifs,0⟩] cH pos) (lH fi caps nt g fc fe):=by
 obtain ⟨wi,pi,ki⟩:=hi
 refine ⟨λσ H Q=>∃O B env r,Rel X.K O B σ H env/\lH fi caps nt g fc fe env=some r/\∀v H',ar H H'->Res X.K (OO O σ env) H H' v r->Q v H',?_,λO B σ H env r Q R e q=>⟨O,B,env,r,R,e,q⟩⟩
 rintro pins s σ H Q I ⟨O,B,env,r,R,e,q⟩
 rw [eval_ListComp]
 exact b0P h C pi ki hb vm I R e (use:=none) λC0 p H' s' ⟨m,hn⟩ _ hI sm rr=>⟨m,hn,λh' sb=>⟨.ref p,H',hI h' sb,rfl,q _ H' sm rr⟩⟩
end
end DL
namespace DL
open PySem PySem.Spec PyProof.Rows L2
section
variable {X:Cx}{pins:List (Addr×Obj)}{σ:L2.St}{H:Hp}{s:Shared}
theorem OR(I:Inv X pins σ H s)(hA:A'.handled=none)(hq:Sq X.K H k p xs)
  (h:∀(aq:List Value) (h2:Heap) (St:Nat->Heap->Prop),au xs aq->Walks X.prog X.w A' s.heap.objs.size [s.heap.objs.size,p] [s.heap.objs.size] aq.length (λi v=>aq[i]?=some v) St->St 0 h2 ->
   (∀b o,s.heap.get? b=some o->h2.get? b=some o)->(∀b∈[s.heap.objs.size,p],b<h2.objs.size)->Q (.ref s.heap.objs.size) { s with heap:=h2 }):wpAny (model X.prog X.w) A' (pyIter (.ref p)) Q E s:=by
 cases k with
 | true =>
  obtain ⟨aq,rv,pl,hz⟩:=I.list (show dH X.K H p xs from hq)
  have bg:p<s.heap.objs.size:=by obtain ⟨o,n,e,_⟩:=pl;exact bF e
  refine uq pl.isList ?_
  have W:=Walks.list (prog:=X.prog) (w:=X.w) hA s.heap.objs.size p (cI bg) aq.toArray
  refine h aq _ (λi h=>h.IsListIter s.heap.objs.size p i/\h.IsList p aq.toArray) rv (by simpa using W) ⟨⟨_,c9 _ rfl,rfl,rfl⟩,pl.isList.push _⟩ (λb o e=>aZ _ e) λb hb=>?_
  rw [fM]
  rcases bx.mp hb with rfl | hb
  .exact jK _
  .rw [cJ.mp hb];exact nu bg
 | false =>
  obtain ⟨aq,rv,pl,hz⟩:=I.tuple (show dR X.K H p xs from hq)
  have bj:s.heap.IsTuple p aq.toArray:=pl
  have bg:p<s.heap.objs.size:=by obtain ⟨o,e,_⟩:=pl;exact bF e
  refine vO bj ?_
  have W:=Walks.tuple (prog:=X.prog) (w:=X.w) hA s.heap.objs.size p (cI bg) aq.toArray
  refine h aq _ (λi h=>h.IsTupleIter s.heap.objs.size p i/\h.IsTuple p aq.toArray) rv (by simpa using W) ⟨⟨_,c9 _ rfl,rfl,rfl⟩,?_⟩ (λb o e=>aZ _ e) λb hb=>?_
  .obtain ⟨o,e,r⟩:=bj
   exact ⟨o,aZ _ e,r⟩
  .rw [fM]
   rcases bx.mp hb with rfl | hb
   .exact jK _
   .rw [cJ.mp hb];exact nu bg
theorem PR(I:Inv X pins σ H s){h2 h':Heap}{tk:Nat}(k1:∀b o,s.heap.get? b=some o->h2.get? b=some o)(k2:∀b o,b∉[s.heap.objs.size]->h2.get? b=some o->h'.get? b=some o):Inv X pins σ H { s with heap:=h',toks:=tk }:=
 I.kept λb o e=>k2 b o (λz=>absurd (bF e) (by rw [cJ.mp z];exact o6 _)) (k1 b o e)
end
noncomputable def jQ:List D->Option (List Int)
 | []=>some []
 | .int i::ds=>(jQ ds).map (i::·)
 | _::_=>none
noncomputable def eZ:List D->Option (List Bool)
 | []=>some []
 | .bl i::ds=>(eZ ds).map (i::·)
 | _::_=>none
theorem JA:∀(ns:List Int),jQ (ns.map D.int)=some ns
 | []=>rfl
 | n::r=>by rw [jL,jQ,JA r];rfl
theorem O3:∀(ns:List Bool),eZ (ns.map D.bl)=some ns
 | []=>rfl
 | n::r=>by rw [jL,eZ,O3 r];rfl
theorem JW:∀{ds:List D} {ns:List Int},jQ ds=some ns->ds=ns.map D.int
 | [],ns,e=>by cases e;rfl
 | .int i::ds,ns,e=>by
  obtain ⟨r,e1,rfl⟩:=map_some (show (jQ ds).map (i::·)=some ns from e)
  rw [JW e1];rfl
 | .aS::_,_,e=>by cases e
 | .bl _::_,_,e=>by cases e
 | .str _::_,_,e=>by cases e
 | .tup _::_,_,e=>by cases e
 | .lst _ _::_,_,e=>by cases e
theorem Pe:∀{ds:List D} {ns:List Bool},eZ ds=some ns->ds=ns.map D.bl
 | [],ns,e=>by cases e;rfl
 | .bl i::ds,ns,e=>by
  obtain ⟨r,e1,rfl⟩:=map_some (show (eZ ds).map (i::·)=some ns from e)
  rw [Pe e1];rfl
 | .aS::_,_,e=>by cases e
 | .int _::_,_,e=>by cases e
 | .str _::_,_,e=>by cases e
 | .tup _::_,_,e=>by cases e
 | .lst _ _::_,_,e=>by cases e
theorem JC{K:aB}{O:Addr->Prop}{H:Hp}:∀{xs:List V} {ns:List Int},aI K O H xs (ns.map D.int)->xs=ns.map V.int
 | _,[],.nil=>rfl
 | _,n::r,.cons h t=>by rw [fZ h,JC t];rfl
theorem OI{K:aB}{O:Addr->Prop}{H:Hp}:∀{xs:List V} {ns:List Bool},aI K O H xs (ns.map D.bl)->xs=ns.map V.bl
 | _,[],.nil=>rfl
 | _,n::r,.cons h t=>by rw [uB h,OI t];rfl
theorem ZH{ns:List Int}(r:au (ns.map V.int) aq){i:Nat}(h:aq[i]?=some v):∃t,v=.int (ns.getD i 0) t:=by
 have hl:=r.length
 have hi:=(kr.mp h).1
 have tG:i<ns.length:=by rw [bB] at hl;ext hl hi
 obtain ⟨u,hu,ru⟩:=r.get (show (ns.map V.int)[i]?=some (.int ns[i]) by simp [tG])
 rw [h] at hu
 cases hu
 obtain ⟨t,e⟩:=ru
 exact ⟨t,by rw [e];simp [tG]⟩
theorem Y0{ns:List Bool}(r:au (ns.map V.bl) aq){i:Nat}(h:aq[i]?=some v):v=.bool (ns.getD i false):=by
 have hl:=r.length
 have hi:=(kr.mp h).1
 have tG:i<ns.length:=by rw [bB] at hl;ext hl hi
 obtain ⟨u,hu,ru⟩:=r.get (show (ns.map V.bl)[i]?=some (.bl ns[i]) by simp [tG])
 rw [h] at hu
 cases hu
 obtain rfl:v=ko ns[i]:=ru
 simp [tG]
section
variable {X:Cx}{a:Expr}{p pos:Pos}{ba:En->Option (Bool×List D)}
theorem preSum_eq(ns:List Int):∀j,j<=ns.length->preSum (λi=>ns.getD i 0) j=(ns.take j).sum
 | 0,_=>rfl
 | j+1,h=>by
  have hj:j<ns.length:=h
  rw [preSum,preSum_eq ns j (rz hj),<-List.take_append_getElem hj,t9]
  simp [hj]
theorem Px(ns:List Bool):(jt ns.length).all (λi=>ns.getD i false)=ns.all id:=by
 rw [Bool.eq_iff_iff,GZ,GZ]
 constructor
 .intro h x hx
  obtain ⟨i,hi,rfl⟩:=mI.mp hx
  have:=h i (zA.mpr hi)
  simpa [hi] using this
 .intro h i hi
  have hi:=zA.mp hi
  have:=h ns[i] (nr hi)
  simpa [hi] using this
theorem b0U(hc:X.calm=true):bH X (.builtin "sum") (λxs H Q=>∃p k ns,xs=[.ref p]/\Sq X.K H k p (oq V.int ns)/\Q (.int ns.sum) H):=by
 intro pins s σ H xs us Q I r h
 obtain ⟨p,k,ns,rfl,hq,q⟩:=h
 obtain ⟨u,rfl,ru⟩:=r.one
 cases ru
 refine call_sum_walkAnyS (OR (A':=X.A.in1) I (I.ok.hd hc) hq λaq h2 St rv W Es k1 LI=>?_)
 refine ⟨_,_,_,_,_,_,_,λi=>ns.getD i 0,rfl,W.toS,Es,LI,λi v hv=>ZH rv hv,λs' t' M=>?_⟩
 have hl:aq.length=ns.length:=by rw [<-rv.length];simp
 have e:preSum (λi=>ns.getD i 0) aq.length=ns.sum:=by rw [hl,preSum_eq ns _ (aV _)];simp
 rw [e]
 obtain ⟨h',g',d',t2,o'⟩:=s'
 obtain ⟨m1,m2,m3,m4,m5⟩:=M
 have m2:g'=s.gens:=m2
 have m3:d'=s.drawn:=m3
 have m4:o'=s.os:=m4
 subst m2 m3 m4
 exact ⟨.int ns.sum,H,PR I k1 m1,⟨t',rfl⟩,q⟩
theorem b0Y(hc:X.calm=true):bH X (.builtin "all") (λxs H Q=>∃p k ns,xs=[.ref p]/\Sq X.K H k p (oq V.bl ns)/\Q (.bl (ns.all id)) H):=by
 intro pins s σ H xs us Q I r h
 obtain ⟨p,k,ns,rfl,hq,q⟩:=h
 obtain ⟨u,rfl,ru⟩:=r.one
 cases ru
 refine call_all_walk (OR (A':=X.A.in1) I (I.ok.hd hc) hq λaq h2 St rv W Es k1 LI=>?_)
 refine ⟨_,_,_,_,_,_,λi=>ns.getD i false,rfl,W,Es,λi v s Q E hP hQ=>?_,λh' tk hk=>?_⟩
 .rw [Y0 rv hP]
  exact vS hQ
 .have hl:aq.length=ns.length:=by rw [<-rv.length];simp
  rw [hl,Px]
  exact ⟨.bl _,H,PR I k1 hk,rfl,q⟩
noncomputable def xV:List Int->Int
 | []=>0
 | n::r=>r.foldl (λa b=>if b<a then b else a) n
noncomputable def xY:List Int->Int
 | []=>0
 | n::r=>r.foldl (λa b=>if b>a then b else a) n
noncomputable def oj(f:En->Option (Bool×List D)):En->Option Sl:=λenv=>(f env).bind λx=>(jQ x.2).map λns=>.sh (.int ns.sum)
noncomputable def mF(f:En->Option (Bool×List D)):En->Option Sl:=λenv=>(f env).bind λx=>(eZ x.2).map λns=>.sh (.bl (ns.all id))
noncomputable def zk(f:En->Option (Bool×List D)):En->Option Sl:=λenv=>(f env).bind λx=>(eZ x.2).map λns=>.sh (.bl (ns.any id))
noncomputable def zi(f:En->Option (Bool×List D)):En->Option Sl:=λenv=>(f env).bind λx=>(jQ x.2).bind λns=>if ns≠[] then some (.sh (.int (xV ns))) else none
noncomputable def zj(f:En->Option (Bool×List D)):En->Option Sl:=λenv=>(f env).bind λx=>(jQ x.2).bind λns=>if ns≠[] then some (.sh (.int (xY ns))) else none
theorem NQ(hg:Gl X "sum")(hm:X.mg "sum" = none)(hc:X.calm=true)(ha:BV X a ba)(hs:starEach [a] X.env=[(false,eval a X.env)]:=by rfl):EV X (.Call (.Name "sum" p) [a] [] pos) (oj ba):=by
 obtain ⟨t,pt,k⟩:=ha
 refine ⟨_,r8 (b0U hc) hg hm (by decide +kernel) (lI pt md hs) (by decide) (by decide) hs rfl,λO B σ H env s Q R e q=>?_⟩
 obtain ⟨⟨kk,ds⟩,e1,e2⟩:=bind_some e
 obtain ⟨ns,e3,rfl⟩:=map_some e2
 have zl:=JW e3
 dsimp only at zl
 subst zl
 refine k O B σ H env kk _ _ R e1 λl xs H1 s1 hq hx=>⟨l,kk,ns,rfl,?_,q _ H1 s1 (Is.int _)⟩
 rw [<-JC hx];exact hq
theorem Ip(hg:Gl X "all")(hm:X.mg "all" = none)(hc:X.calm=true)(ha:BV X a ba)(hs:starEach [a] X.env=[(false,eval a X.env)]:=by rfl):EV X (.Call (.Name "all" p) [a] [] pos) (mF ba):=by
 obtain ⟨t,pt,k⟩:=ha
 refine ⟨_,r8 (b0Y hc) hg hm (by decide +kernel) (lI pt md hs) (by decide) (by decide) hs rfl,λO B σ H env s Q R e q=>?_⟩
 obtain ⟨⟨kk,ds⟩,e1,e2⟩:=bind_some e
 obtain ⟨ns,e3,rfl⟩:=map_some e2
 have zl:=Pe e3
 dsimp only at zl
 subst zl
 refine k O B σ H env kk _ _ R e1 λl xs H1 s1 hq hx=>⟨l,kk,ns,rfl,?_,q _ H1 s1 (Is.bl _)⟩
 rw [<-OI hx];exact hq
end
end DL
namespace DL
open PySem PySem.Spec PyProof.Rows L2
noncomputable def lD:List (Option Bool)->Option (List Bool)
 | []=>some []
 | some b::r=>(lD r).map (b::·)
 | none::_=>none
noncomputable def bp:Nat->D->D->Option Bool
 | _,.int i,.int j=>some (decide (i=j))
 | _,.bl i,.bl j=>some (decide (i=j))
 | _,.str i,.str j=>some (decide (i=j))
 | _,.aS,.aS=>some true
 | _,.bl i,.int j=>some (decide ((if i then 1 else 0)=j))
 | _,.int i,.bl j=>some (decide (i=(if j then 1 else 0)))
 | n+1,.tup a,.tup b=>(lD (oA (bp n) a b)).map λbs=>bs.all id&&decide (a.length=b.length)
 | n+1,.lst _ a,.lst _ b=>if a.length=b.length then (lD (oA (bp n) a b)).map λbs=>bs.all id else some false
 | 0,.tup _,.tup _=>none
 | 0,.lst _ _,.lst _ _=>none
 | _,.exc _,_=>none
 | _,_,.exc _=>none
 | _,.fD _ _,_=>none
 | _,_,.fD _ _=>none
 | _,_,_=>some false
theorem AJ:∀{os:List (Option Bool)} {bs:List Bool},lD os=some bs->os.length=bs.length/\∀(i:Nat) (b:Bool),bs[i]?=some b->os[i]?=some (some b)
 | [],bs,e=>by cases e;exact ⟨rfl,λi b h=>by simp at h⟩
 | some b::r,bs,e=>by
  obtain ⟨bs',e1,rfl⟩:=map_some (show (lD r).map (b::·)=some bs from e)
  obtain ⟨l,ih⟩:=AJ e1
  refine ⟨by simp [l],λi c h=>?_⟩
  cases i with
  | zero=>simpa using h
  | succ i=>simpa using ih i c (by simpa using h)
 | none::_,bs,e=>by cases e
theorem all_range{bs:List Bool}{n:Nat}(h:bs.length=n):(jt n).all (λi=>bs.getD i false)=bs.all id:=by rw [<-h];exact Px bs
section
variable {X:Cx}{pins:List (Addr×Obj)}{σ:L2.St}{H:Hp}{s:Shared}{O O':Addr->Prop}
noncomputable def Bn(K:aB)(O:Addr->Prop)(H:Hp)(v:V):D->Prop
 | .aS=>v=.aS
 | .bl b=>v=.bl b
 | .int i=>v=.int i
 | .str x=>v=.str x
 | .tup ds=>∃p xs,v=.ref p/\dR K H p xs/\aI K O H xs ds
 | .lst _ ds=>∃p xs,v=.ref p/\dH K H p xs/\aI K O H xs ds
 | .exc _=>True
 | .fD _ _=>True
theorem Is.m6{K:aB}{v:V}{d:D}(h:Is K O H v d):Bn K O H v d:=by
 cases d with
 | aS=>exact Ii h
 | bl b=>exact uB h
 | int i=>exact fZ h
 | str x=>exact Ij h
 | tup ds=>exact As h
 | lst r ds =>
  obtain ⟨p,xs,e,h1,h2⟩:=h.seq (k:=true) (ds:=ds) rfl
  exact ⟨p,xs,e,h1,h2⟩
 | exc n=>trivial
 | fD n m=>trivial
theorem DF(I:Inv X pins σ H s)(h:dR X.K H p xs)(h':dH X.K H p ys):False:=by
 obtain ⟨_,_,⟨o,e1,c1,_⟩,_⟩:=I.tuple h
 obtain ⟨_,_,⟨o',_,e2,c2,_⟩,_⟩:=I.list h'
 rw [e1] at e2
 cases e2
 rw [c1] at c2
 injection c2 with c3
 exact absurd c3 (by decide)
theorem zip_get{n:Nat}{i:Nat}{o:Option Bool}(h:(oA (bp n) a b)[i]?=some o):∃x y,a[i]?=some x/\b[i]?=some y/\bp n x y=o:=by
 rw [Hh] at h
 cases ha:a[i]? with
 | none=>rw [ha] at h;simp at h
 | some x =>
  cases hb:b[i]? with
  | none=>rw [ha,hb] at h;simp at h
  | some y=>rw [ha,hb] at h;exact ⟨x,y,rfl,rfl,by simpa using h⟩
theorem O8(I:Inv X pins σ H s):∀(n:Nat) {v:V} {d d':D} {b:Bool},Is X.K O H v d->Is X.K O' H v d'->bp n d d'=some b->b=true:=by
 intro n
 induction n with
 | zero =>
  intro v d d' b h h' e
  have h:=h.m6
  have h':=h'.m6
  cases d<;>cases d'<;>simp only [Bn] at h h'<;>simp only [bp,c7,reduceCtorEq] at e<;>first
   | (subst h;cases h';exact e.symm)
   | (subst h;cases h';rw [<-e];simp;done)
   | (subst h;cases h';done)
   | (subst h;obtain ⟨_,_,h',_⟩:=h';cases h';done)
   | (subst h';obtain ⟨_,_,h,_⟩:=h;cases h;done)
   | (obtain ⟨_,_,rfl,h,_⟩:=h;obtain ⟨_,_,hr,h',_⟩:=h';cases hr;first | exact (DF I h h').elim | exact (DF I h' h).elim)
 | succ n ih =>
  intro v d d' b h h' e
  have key:∀{xs:List V} {ds fH:List D} {bs:List Bool},aI X.K O H xs ds->aI X.K O' H xs fH->lD (oA (bp n) ds fH)=some bs->bs.all id=true:=λ{xs ds fH bs} a1 a2 ea=>by
   obtain ⟨_,g⟩:=AJ ea
   rw [GZ]
   intro c hc
   obtain ⟨i,hi,rfl⟩:=mI.mp hc
   obtain ⟨x,y,ex,ey,Vx⟩:=zip_get (g i _ (gO hi))
   obtain ⟨z,ez,iz⟩:=a1.get ex
   obtain ⟨z',LX,Uz⟩:=a2.get ey
   rw [ez] at LX
   cases LX
   exact ih iz Uz Vx
  have h:=h.m6
  have h':=h'.m6
  cases d<;>cases d'<;>simp only [Bn] at h h'<;>simp only [bp,c7,reduceCtorEq] at e<;>first
   | (subst h;cases h';exact e.symm)
   | (subst h;cases h';rw [<-e];simp;done)
   | (subst h;cases h';done)
   | (subst h;obtain ⟨_,_,h',_⟩:=h';cases h';done)
   | (subst h';obtain ⟨_,_,h,_⟩:=h;cases h;done)
   | (obtain ⟨_,_,rfl,h,_⟩:=h;obtain ⟨_,_,hr,h',_⟩:=h';cases hr;first | exact (DF I h h').elim | exact (DF I h' h).elim)
   | skip
  .obtain ⟨_,xs,rfl,h,a1⟩:=h
   obtain ⟨_,ys,hr,h',a2⟩:=h'
   cases hr
   cases I.ft h h'
   obtain ⟨bs,e1,rfl⟩:=map_some e
   rw [key a1 a2 e1,<-a1.length,<-a2.length]
   simp
  .obtain ⟨_,xs,rfl,h,a1⟩:=h
   obtain ⟨_,ys,hr,h',a2⟩:=h'
   cases hr
   cases I.gm h h'
   rw [if_pos (by rw [<-a1.length,<-a2.length])] at e
   obtain ⟨bs,e1,rfl⟩:=map_some e
   exact key a1 a2 e1
theorem Om{xs:List V}{aq:List Value}{O:Addr->Prop}{K:aB}{ds:List D}(r:au xs aq)(a:aI K O H xs ds){j:Nat}(h:j<aq.toArray.size):∃d v,ds[j]?=some d/\Is K O H v d/\RelV v aq.toArray[j]:=by
 have hj:j<aq.length:=by simpa using h
 have hl:=r.length
 obtain ⟨d,hd,hv⟩:=a.tS (i:=j) (x:=xs[j]'(by ext hj hl)) (gO (by ext hj hl))
 obtain ⟨u,hu,ru⟩:=r.get (i:=j) (x:=xs[j]'(by ext hj hl)) (gO (by ext hj hl))
 rw [gO hj] at hu
 refine ⟨d,_,hd,hv,?_⟩
 rw [List.getElem_toArray,cF hu]
 exact ru
open PySem.SeqAt in
theorem NT(I:Inv X pins σ H s)(hu:A.units<cLine)(h:Bn X.K O H v d)(h':Bn X.K O' H v' d')(r:RelV v u)(r':RelV v' u')(e:bp n d d'=some b)
  (hn:(∀a c,d=.tup a->d'=.tup c->False)/\∀a c r r',d=.lst r a->d'=.lst r' c->False):EqAt A s u u' b/\RcAt A s u u' b/\RcNeAt A s u u' (!b):=by
 cases d with
 | aS =>
  cases d' with
  | aS =>
   subst h;obtain rfl:u=fV:=r
   subst h';obtain rfl:u'=fV:=r'
   simp only [bp,c7] at e
   subst e
   exact ⟨EqAt.same _,RcAt.none_none,RcNeAt.none_none⟩
  | bl k' =>
   subst h;obtain rfl:u=fV:=r
   subst h';obtain rfl:u'=ko k':=r'
   simp only [bp,c7] at e
   subst e
   exact ⟨EqAt.none_bool k',RcAt.none_bool k',RcNeAt.none_bool k'⟩
  | int k' =>
   subst h;obtain rfl:u=fV:=r
   subst h';obtain ⟨t',rfl⟩:=r'
   simp only [bp,c7] at e
   subst e
   exact ⟨EqAt.none_int k' t',RcAt.none_int k' t',RcNeAt.none_int k' t'⟩
  | str k' =>
   subst h;obtain rfl:u=fV:=r
   subst h';obtain ⟨t',rfl⟩:=r'
   simp only [bp,c7] at e
   subst e
   exact ⟨EqAt.none_str k' t',RcAt.none_str k' t',RcNeAt.none_str k' t'⟩
  | tup fH =>
   subst h;obtain rfl:u=fV:=r
   obtain ⟨p',iJ,rfl,dt,_⟩:=h';obtain ⟨its',_,bj,_⟩:=I.tuple dt;obtain rfl:u'=dj p':=r';replace bj:s.heap.IsTuple p' its'.toArray:=bj
   simp only [bp,c7] at e
   subst e
   exact ⟨EqAt.none_tuple bj hu,RcAt.none_tuple bj hu,RcNeAt.none_tuple bj hu⟩
  | lst nQ fH =>
   subst h;obtain rfl:u=fV:=r
   obtain ⟨p',iJ,rfl,dt,_⟩:=h';obtain ⟨its',_,bj,_⟩:=I.list dt;obtain rfl:u'=dj p':=r';replace bj:=bj.isList
   simp only [bp,c7] at e
   subst e
   exact ⟨EqAt.none_list bj hu,RcAt.none_list bj hu,RcNeAt.none_list bj hu⟩
  | exc n'=>simp [bp] at e
  | fD n' m'=>simp [bp] at e
 | bl k =>
  cases d' with
  | aS =>
   subst h;obtain rfl:u=ko k:=r
   subst h';obtain rfl:u'=fV:=r'
   simp only [bp,c7] at e
   subst e
   exact ⟨EqAt.bool_none k,RcAt.bool_none k,RcNeAt.bool_none k⟩
  | bl k' =>
   subst h;obtain rfl:u=ko k:=r
   subst h';obtain rfl:u'=ko k':=r'
   simp only [bp,c7] at e
   subst e
   exact ⟨EqAt.bool_bool k k',RcAt.bool_bool k k',RcNeAt.bool_bool k k'⟩
  | int k' =>
   subst h;obtain rfl:u=ko k:=r
   subst h';obtain ⟨t',rfl⟩:=r'
   simp only [bp,c7] at e
   subst e
   exact ⟨EqAt.bool_int k k' t',RcAt.bool_int k k' t',RcNeAt.bool_int k k' t'⟩
  | str k' =>
   subst h;obtain rfl:u=ko k:=r
   subst h';obtain ⟨t',rfl⟩:=r'
   simp only [bp,c7] at e
   subst e
   exact ⟨EqAt.bool_str k k' t',RcAt.bool_str k k' t',RcNeAt.bool_str k k' t'⟩
  | tup fH =>
   subst h;obtain rfl:u=ko k:=r
   obtain ⟨p',iJ,rfl,dt,_⟩:=h';obtain ⟨its',_,bj,_⟩:=I.tuple dt;obtain rfl:u'=dj p':=r';replace bj:s.heap.IsTuple p' its'.toArray:=bj
   simp only [bp,c7] at e
   subst e
   exact ⟨EqAt.bool_tuple k bj hu,RcAt.bool_tuple k bj hu,RcNeAt.bool_tuple k bj hu⟩
  | lst nQ fH =>
   subst h;obtain rfl:u=ko k:=r
   obtain ⟨p',iJ,rfl,dt,_⟩:=h';obtain ⟨its',_,bj,_⟩:=I.list dt;obtain rfl:u'=dj p':=r';replace bj:=bj.isList
   simp only [bp,c7] at e
   subst e
   exact ⟨EqAt.bool_list k bj hu,RcAt.bool_list k bj hu,RcNeAt.bool_list k bj hu⟩
  | exc n'=>simp [bp] at e
  | fD n' m'=>simp [bp] at e
 | int k =>
  cases d' with
  | aS =>
   subst h;obtain ⟨t,rfl⟩:=r
   subst h';obtain rfl:u'=fV:=r'
   simp only [bp,c7] at e
   subst e
   exact ⟨EqAt.int_none k t,RcAt.int_none k t,RcNeAt.int_none k t⟩
  | bl k' =>
   subst h;obtain ⟨t,rfl⟩:=r
   subst h';obtain rfl:u'=ko k':=r'
   simp only [bp,c7] at e
   subst e
   exact ⟨EqAt.int_bool k t k',RcAt.int_bool k t k',RcNeAt.int_bool k t k'⟩
  | int k' =>
   subst h;obtain ⟨t,rfl⟩:=r
   subst h';obtain ⟨t',rfl⟩:=r'
   simp only [bp,c7] at e
   subst e
   exact ⟨EqAt.int_int k t k' t',RcAt.int_int k t k' t',RcNeAt.int_int k t k' t'⟩
  | str k' =>
   subst h;obtain ⟨t,rfl⟩:=r
   subst h';obtain ⟨t',rfl⟩:=r'
   simp only [bp,c7] at e
   subst e
   exact ⟨EqAt.int_str k t k' t',RcAt.int_str k t k' t',RcNeAt.int_str k t k' t'⟩
  | tup fH =>
   subst h;obtain ⟨t,rfl⟩:=r
   obtain ⟨p',iJ,rfl,dt,_⟩:=h';obtain ⟨its',_,bj,_⟩:=I.tuple dt;obtain rfl:u'=dj p':=r';replace bj:s.heap.IsTuple p' its'.toArray:=bj
   simp only [bp,c7] at e
   subst e
   exact ⟨EqAt.int_tuple k t bj hu,RcAt.int_tuple k t bj hu,RcNeAt.int_tuple k t bj hu⟩
  | lst nQ fH =>
   subst h;obtain ⟨t,rfl⟩:=r
   obtain ⟨p',iJ,rfl,dt,_⟩:=h';obtain ⟨its',_,bj,_⟩:=I.list dt;obtain rfl:u'=dj p':=r';replace bj:=bj.isList
   simp only [bp,c7] at e
   subst e
   exact ⟨EqAt.int_list k t bj hu,RcAt.int_list k t bj hu,RcNeAt.int_list k t bj hu⟩
  | exc n'=>simp [bp] at e
  | fD n' m'=>simp [bp] at e
 | str k =>
  cases d' with
  | aS =>
   subst h;obtain ⟨t,rfl⟩:=r
   subst h';obtain rfl:u'=fV:=r'
   simp only [bp,c7] at e
   subst e
   exact ⟨EqAt.str_none k t,RcAt.str_none k t,RcNeAt.str_none k t⟩
  | bl k' =>
   subst h;obtain ⟨t,rfl⟩:=r
   subst h';obtain rfl:u'=ko k':=r'
   simp only [bp,c7] at e
   subst e
   exact ⟨EqAt.str_bool k t k',RcAt.str_bool k t k',RcNeAt.str_bool k t k'⟩
  | int k' =>
   subst h;obtain ⟨t,rfl⟩:=r
   subst h';obtain ⟨t',rfl⟩:=r'
   simp only [bp,c7] at e
   subst e
   exact ⟨EqAt.str_int k t k' t',RcAt.str_int k t k' t',RcNeAt.str_int k t k' t'⟩
  | str k' =>
   subst h;obtain ⟨t,rfl⟩:=r
   subst h';obtain ⟨t',rfl⟩:=r'
   simp only [bp,c7] at e
   subst e
   exact ⟨EqAt.str_str k t k' t',RcAt.str_str k t k' t',RcNeAt.str_str k t k' t'⟩
  | tup fH =>
   subst h;obtain ⟨t,rfl⟩:=r
   obtain ⟨p',iJ,rfl,dt,_⟩:=h';obtain ⟨its',_,bj,_⟩:=I.tuple dt;obtain rfl:u'=dj p':=r';replace bj:s.heap.IsTuple p' its'.toArray:=bj
   simp only [bp,c7] at e
   subst e
   exact ⟨EqAt.str_tuple k t bj hu,RcAt.str_tuple k t bj hu,RcNeAt.str_tuple k t bj hu⟩
  | lst nQ fH =>
   subst h;obtain ⟨t,rfl⟩:=r
   obtain ⟨p',iJ,rfl,dt,_⟩:=h';obtain ⟨its',_,bj,_⟩:=I.list dt;obtain rfl:u'=dj p':=r';replace bj:=bj.isList
   simp only [bp,c7] at e
   subst e
   exact ⟨EqAt.str_list k t bj hu,RcAt.str_list k t bj hu,RcNeAt.str_list k t bj hu⟩
  | exc n'=>simp [bp] at e
  | fD n' m'=>simp [bp] at e
 | tup ds =>
  cases d' with
  | aS =>
   obtain ⟨p,xs,rfl,hq,_⟩:=h;obtain ⟨aq,_,pl,_⟩:=I.tuple hq;obtain rfl:u=dj p:=r;replace pl:s.heap.IsTuple p aq.toArray:=pl
   subst h';obtain rfl:u'=fV:=r'
   simp only [bp,c7] at e
   subst e
   exact ⟨EqAt.tuple_none pl hu,RcAt.tuple_none pl hu,RcNeAt.tuple_none pl hu⟩
  | bl k' =>
   obtain ⟨p,xs,rfl,hq,_⟩:=h;obtain ⟨aq,_,pl,_⟩:=I.tuple hq;obtain rfl:u=dj p:=r;replace pl:s.heap.IsTuple p aq.toArray:=pl
   subst h';obtain rfl:u'=ko k':=r'
   simp only [bp,c7] at e
   subst e
   exact ⟨EqAt.tuple_bool k' pl hu,RcAt.tuple_bool k' pl hu,RcNeAt.tuple_bool k' pl hu⟩
  | int k' =>
   obtain ⟨p,xs,rfl,hq,_⟩:=h;obtain ⟨aq,_,pl,_⟩:=I.tuple hq;obtain rfl:u=dj p:=r;replace pl:s.heap.IsTuple p aq.toArray:=pl
   subst h';obtain ⟨t',rfl⟩:=r'
   simp only [bp,c7] at e
   subst e
   exact ⟨EqAt.tuple_int k' t' pl hu,RcAt.tuple_int k' t' pl hu,RcNeAt.tuple_int k' t' pl hu⟩
  | str k' =>
   obtain ⟨p,xs,rfl,hq,_⟩:=h;obtain ⟨aq,_,pl,_⟩:=I.tuple hq;obtain rfl:u=dj p:=r;replace pl:s.heap.IsTuple p aq.toArray:=pl
   subst h';obtain ⟨t',rfl⟩:=r'
   simp only [bp,c7] at e
   subst e
   exact ⟨EqAt.tuple_str k' t' pl hu,RcAt.tuple_str k' t' pl hu,RcNeAt.tuple_str k' t' pl hu⟩
  | tup fH=>exact (hn.1 _ _ rfl rfl).elim
  | lst nQ fH =>
   obtain ⟨p,xs,rfl,hq,_⟩:=h;obtain ⟨aq,_,pl,_⟩:=I.tuple hq;obtain rfl:u=dj p:=r;replace pl:s.heap.IsTuple p aq.toArray:=pl
   obtain ⟨p',iJ,rfl,dt,_⟩:=h';obtain ⟨its',_,bj,_⟩:=I.list dt;obtain rfl:u'=dj p':=r';replace bj:=bj.isList
   simp only [bp,c7] at e
   subst e
   exact ⟨EqAt.tuple_list pl bj hu,RcAt.tuple_list pl bj hu,RcNeAt.tuple_list pl bj hu⟩
  | exc n'=>simp [bp] at e
  | fD n' m'=>simp [bp] at e
 | lst ro ds =>
  cases d' with
  | aS =>
   obtain ⟨p,xs,rfl,hq,_⟩:=h;obtain ⟨aq,_,pl,_⟩:=I.list hq;obtain rfl:u=dj p:=r;replace pl:=pl.isList
   subst h';obtain rfl:u'=fV:=r'
   simp only [bp,c7] at e
   subst e
   exact ⟨EqAt.list_none pl hu,RcAt.list_none pl hu,RcNeAt.list_none pl hu⟩
  | bl k' =>
   obtain ⟨p,xs,rfl,hq,_⟩:=h;obtain ⟨aq,_,pl,_⟩:=I.list hq;obtain rfl:u=dj p:=r;replace pl:=pl.isList
   subst h';obtain rfl:u'=ko k':=r'
   simp only [bp,c7] at e
   subst e
   exact ⟨EqAt.list_bool k' pl hu,RcAt.list_bool k' pl hu,RcNeAt.list_bool k' pl hu⟩
  | int k' =>
   obtain ⟨p,xs,rfl,hq,_⟩:=h;obtain ⟨aq,_,pl,_⟩:=I.list hq;obtain rfl:u=dj p:=r;replace pl:=pl.isList
   subst h';obtain ⟨t',rfl⟩:=r'
   simp only [bp,c7] at e
   subst e
   exact ⟨EqAt.list_int k' t' pl hu,RcAt.list_int k' t' pl hu,RcNeAt.list_int k' t' pl hu⟩
  | str k' =>
   obtain ⟨p,xs,rfl,hq,_⟩:=h;obtain ⟨aq,_,pl,_⟩:=I.list hq;obtain rfl:u=dj p:=r;replace pl:=pl.isList
   subst h';obtain ⟨t',rfl⟩:=r'
   simp only [bp,c7] at e
   subst e
   exact ⟨EqAt.list_str k' t' pl hu,RcAt.list_str k' t' pl hu,RcNeAt.list_str k' t' pl hu⟩
  | tup fH =>
   obtain ⟨p,xs,rfl,hq,_⟩:=h;obtain ⟨aq,_,pl,_⟩:=I.list hq;obtain rfl:u=dj p:=r;replace pl:=pl.isList
   obtain ⟨p',iJ,rfl,dt,_⟩:=h';obtain ⟨its',_,bj,_⟩:=I.tuple dt;obtain rfl:u'=dj p':=r';replace bj:s.heap.IsTuple p' its'.toArray:=bj
   simp only [bp,c7] at e
   subst e
   exact ⟨EqAt.list_tuple pl bj hu,RcAt.list_tuple pl bj hu,RcNeAt.list_tuple pl bj hu⟩
  | lst nQ fH=>exact (hn.2 _ _ _ _ rfl rfl).elim
  | exc n'=>simp [bp] at e
  | fD n' m'=>simp [bp] at e
 | exc n=>cases d'<;>simp [bp] at e
 | fD n m=>cases d'<;>simp [bp] at e
open PySem.SeqAt in
theorem NN(I:Inv X pins σ H s):∀(n:Nat) {A:Around} {u u':Value} {v v':V} {d d':D} {b:Bool},A.units+n<cLine->Is X.K O H v d->Is X.K O' H v' d'->RelV v u->RelV v' u'->bp n d d'=some b ->
  EqAt A s u u' b/\RcAt A s u u' b/\RcNeAt A s u u' (!b):=by
 intro n
 induction n with
 | zero =>
  intro A u u' v v' d d' b hu h h' r r' e
  refine NT I ‹_› h.m6 h'.m6 r r' e ⟨?_,?_⟩
  .rintro a c rfl rfl;simp [bp] at e
  .rintro a c ro nQ rfl rfl;simp [bp] at e
 | succ n ih =>
  intro A u u' v v' d d' b hu h h' r r' e
  have elems:∀{xs ys:List V} {aq bW:List Value} {ds es:List D} {bs:List Bool},au xs aq->au ys bW->aI X.K O H xs ds->aI X.K O' H ys es->lD (oA (bp n) ds es)=some bs ->
    ∀j (h1:j<aq.toArray.size) (h2:j<bW.toArray.size),EqAt A.in1 s aq.toArray[j] bW.toArray[j] (bs.getD j false):=λ{xs ys aq bW ds es bs} rx ry ax ay ea j h1 h2=>by
   obtain ⟨d1,v1,e1,i1,r1⟩:=Om rx ax h1
   obtain ⟨d2,v2,e2,i2,r2⟩:=Om ry ay h2
   obtain ⟨hl,g⟩:=AJ ea
   have hz:(oA (bp n) ds es)[j]?=some (bp n d1 d2):=by rw [Hh,e1,e2]
   have hj:j<bs.length:=by rw [<-hl];exact (kr.mp hz).1
   have:=g j bs[j] (gO hj)
   rw [hz] at this
   have e3:bs.getD j false=bs[j]:=by simp [hj]
   rw [e3]
   exact (ih (A:=A.in1) (by show A.units+1+n<_;ext hu) i1 i2 r1 r2 (cF this)).1
  by_cases ht:∃a c,d=.tup a/\d'=.tup c
  .obtain ⟨ds,es,rfl,rfl⟩:=ht
   simp only [bp] at e
   obtain ⟨bs,e1,rfl⟩:=map_some e
   obtain ⟨p,xs,rfl,hq,ax⟩:=h.m6
   obtain ⟨p',ys,rfl,dt,ay⟩:=h'.m6
   obtain ⟨aq,rx,pl,_⟩:=I.tuple hq
   obtain ⟨bW,ry,bj,_⟩:=I.tuple dt
   obtain rfl:u=dj p:=r
   obtain rfl:u'=dj p':=r'
   have pl:s.heap.IsTuple p aq.toArray:=pl
   have bj:s.heap.IsTuple p' bW.toArray:=bj
   have hlen:bs.length=min ds.length es.length:=by rw [<-(AJ e1).1,Hq]
   have l1:aq.toArray.size=ds.length:=by rw [cZ,<-rx.length,ax.length]
   have l2:bW.toArray.size=es.length:=by rw [cZ,<-ry.length,ay.length]
   have val:((jt (min aq.toArray.size bW.toArray.size)).all (λj=>bs.getD j false)&&aq.toArray.size==bW.toArray.size)=(bs.all id&&decide (ds.length=es.length)):=by
    rw [l1,l2,all_range hlen]
    rfl
   have rc:=RcAt.tuples pl bj (by ext hu) (elems rx ry ax ay e1)
   have rn:=RcNeAt.tuples pl bj (by ext hu) (elems rx ry ax ay e1)
   rw [val] at rc rn
   refine ⟨?_,rc,rn⟩
   by_cases hp:p=p'
   .subst hp
    have:=O8 I (n+1) h h' (show bp (n+1) (.tup ds) (.tup es)=some (bs.all id&&decide (ds.length=es.length)) by simp only [bp];rw [e1];rfl)
    rw [this]
    exact EqAt.same _
   .exact .of_refs hp rc
  by_cases hl:∃a c ro nQ,d=.lst ro a/\d'=.lst nQ c
  .obtain ⟨ds,es,ro,nQ,rfl,rfl⟩:=hl
   have e0:=e
   simp only [bp] at e
   obtain ⟨p,xs,rfl,hq,ax⟩:=h.m6
   obtain ⟨p',ys,rfl,dt,ay⟩:=h'.m6
   obtain ⟨aq,rx,pl,_⟩:=I.list hq
   obtain ⟨bW,ry,bj,_⟩:=I.list dt
   obtain rfl:u=dj p:=r
   obtain rfl:u'=dj p':=r'
   have l1:aq.toArray.size=ds.length:=by rw [cZ,<-rx.length,ax.length]
   have l2:bW.toArray.size=es.length:=by rw [cZ,<-ry.length,ay.length]
   have fin:RcAt A s (.ref p) (.ref p') b->RcNeAt A s (.ref p) (.ref p') (!b)->EqAt A s (.ref p) (.ref p') b/\RcAt A s (.ref p) (.ref p') b/\RcNeAt A s (.ref p) (.ref p') (!b):=λrc rn=>by
    refine ⟨?_,rc,rn⟩
    by_cases hp:p=p'
    .subst hp
     rw [O8 I (n+1) h h' e0]
     exact EqAt.same _
    .exact .of_refs hp rc
   by_cases hlen:ds.length=es.length
   .rw [if_pos hlen] at e
    obtain ⟨bs,e1,rfl⟩:=map_some e
    have yR:bs.length=ds.length:=by rw [<-(AJ e1).1,Hq];ext hlen
    have rc:=RcAt.lists pl.isList bj.isList (by ext l1 l2 hlen) (by ext hu) (elems rx ry ax ay e1)
    have rn:=RcNeAt.lists pl.isList bj.isList (by ext l1 l2 hlen) (by ext hu) (elems rx ry ax ay e1)
    rw [l1,all_range yR] at rc rn
    exact fin rc rn
   .rw [if_neg hlen] at e
    cases e
    have bo:(aq.toArray.size != bW.toArray.size)=true:=by rw [l1,l2];simpa using hlen
    exact fin (RcAt.lists_lengths pl.isList bj.isList bo (by ext hu)) (RcNeAt.lists_lengths pl.isList bj.isList bo (by ext hu))
  refine NT I (by ext hu) h.m6 h'.m6 r r' e ⟨λa c e1 e2=>ht ⟨a,c,e1,e2⟩,λa c ro nQ e1 e2=>hl ⟨a,c,ro,nQ,e1,e2⟩⟩
noncomputable def ei:D->D->Option Sl:=λa b=>(bp 8 a b).map λk=>.sh (.bl k)
noncomputable def ec:D->D->Option Sl:=λa b=>(bp 8 a b).map λk=>.sh (.bl !k)
theorem rS(hu:X.A.units+8<cLine):jy X (compareOp .Eq) ei:=by
 refine ⟨λx y H Q=>∃O O' a b k,Is X.K O H x a/\Is X.K O' H y b/\bp 8 a b=some k/\Q (.bl k) H,?_,λO H x y a b s Q hO hx hy e q=>?_⟩
 .intro pins s σ H x y v u Q I rx ry h
  obtain ⟨O,O',a,b,k,hx,hy,e,q⟩:=h
  exact (NN I 8 hu hx hy rx ry e).2.1 _ _ _ _ ⟨.bl k,H,I,rfl,q⟩
 .obtain ⟨k,e1,rfl⟩:=map_some e
  exact ⟨O,O,a,b,k,hx,hy,e1,q _ H (ar.refl _) (Is.bl _)⟩
theorem Av(hu:X.A.units+8<cLine):jy X (compareOp .NotEq) ec:=by
 refine ⟨λx y H Q=>∃O O' a b k,Is X.K O H x a/\Is X.K O' H y b/\bp 8 a b=some k/\Q (.bl !k) H,?_,λO H x y a b s Q hO hx hy e q=>?_⟩
 .intro pins s σ H x y v u Q I rx ry h
  obtain ⟨O,O',a,b,k,hx,hy,e,q⟩:=h
  exact (NN I 8 hu hx hy rx ry e).2.2 _ _ _ _ ⟨.bl _,H,I,rfl,q⟩
 .obtain ⟨k,e1,rfl⟩:=map_some e
  exact ⟨O,O,a,b,k,hx,hy,e1,q _ H (ar.refl _) (Is.bl _)⟩
end
theorem Fx.u8{X:Cx}{N:List Str}{sc:Scope}{k:Nat}{full:Bool}(h:Fx X N sc k full):X.A.units+8<cLine:=by have:=h.room.un;ext this
end DL
namespace DL
open PySem PySem.Spec PyProof.Rows L2
theorem a9m{P:Program}{w:World}{K:aB}{tg:Expr}(it:Addr)(lo:Int)(n:Nat):Turn P w K tg (mY lo n) [it] it (λi h=>IsLongIter h it (lo+(i:Nat)*1) ((n:Int)-(i:Nat)) 1) where
 mem:=by simp
 obj:=λi h st b hb=>by
  have e:b=it:=by simpa using hb
  subst e
  exact ⟨_,st,λv z=>by
   have z':B6 _=vy v:=z
   cases z'⟩
 keep:=λi h h' st k=>k it (by simp) _ st
 item:=by
  intro X hP hw hK hc i pins s σ H E I hf st hg
  subst hP hw hK
  obtain ⟨f0,f1,f2,f3,f4,f5⟩:=hf it (by simp)
  have W:=Walks.longrange (prog:=X.prog) (w:=X.w) (I.ok.hd hc) it lo 1 n
  refine W.item i s _ _ hg st λv h' tk hv ag kk=>?_
  obtain ⟨t,rfl⟩:=hv
  have I1:Inv X pins σ H { s with heap:=h',toks:=tk }:=I.turned (λb o hb e=>kk b o (by simpa using hb) e) f0 f1 f3 f4 f5
  refine ⟨_,rfl,Ae (s:={ s with heap:=h',toks:=tk }) (n:="longrange_iterator") ag rfl rfl (by decide) ⟨.int (lo+i),H,I1,⟨t,?_⟩,⟨rfl,rfl⟩,ag,λb hb=>(hf b hb).1⟩⟩
  rw [rD]
 done:=by
  intro X hP hw hK hc i pins s σ H E I hf st hg
  subst hP hw hK
  obtain ⟨f0,f1,f2,f3,f4,f5⟩:=hf it (by simp)
  exact wpAny_pyNext_long_end (I.ok.hd hc) st (by have:n<=i:=hg;ext this) λh' eb=>⟨rfl,I.turned (t':=s.toks) (λb o hb e=>eb b o hb e) f0 f1 f3 f4 f5⟩
 self:=λ_ _ _ _ _ st h=>wpAny_pyIter_longiter st h
section
variable {X:Cx}{tg:Expr}
theorem a9Q{pins:List (Addr×Obj)}{σ:L2.St}{H:Hp}{s:Shared}{R:It->Hp->Prop}{E:Value->Shared->Prop}{lo hi:Int}{t u v:Tok}{tk:Nat}(I:Inv X pins σ H s)
  (q:R (mY lo (hi-lo).toNat) H):wpAny (model X.prog X.w) X.A (pyIter (.ref s.heap.objs.size)) (D4 X pins σ tg R) E { s with heap:=s.heap.push { cls:=.type "range",data:=.fields #[.int lo t,.int hi u,.int 1 v] },toks:=tk }:=by
 have I1:Inv X pins σ H { s with heap:=s.heap.push { cls:=.type "range",data:=.fields #[.int lo t,.int hi u,.int 1 v] },toks:=tk }:=I.kept λb o e=>aZ _ e
 have e1:lo+((0:Nat):Int)*1=lo:=by simp
 have e2:(((hi-lo).toNat:Nat):Int)-((0:Nat):Int)=zP lo hi 1:=by rw [rangeSize_one];split<;>lia
 have fin:∀b∈[(s.heap.push { cls:=.type "range",data:=.fields #[.int lo t,.int hi u,.int 1 v] }).objs.size],cP X pins H b:=λb hb=>by
  have e:b=(s.heap.push { cls:=.type "range",data:=.fields #[.int lo t,.int hi u,.int 1 v] }).objs.size:=by simpa using hb
  subst e
  exact I1.iX (aV _) (I1.bb.fresh (aV _))
 by_cases Lw:Ho lo hi 1=true
 .refine Hn (B5 ..) Lw ?_
  refine ⟨_,[(s.heap.push { cls:=.type "range",data:=.fields #[.int lo t,.int hi u,.int 1 v] }).objs.size],_,_,H,rfl,I1.kept (t':=tk) λb o e=>aZ _ e,PQ _ lo (hi-lo).toNat,?_,fin,q⟩
  show IsRangeIter _ _ (lo+((0:Nat):Int)*1) ((((hi-lo).toNat:Nat):Int)-((0:Nat):Int)) 1
  rw [e1,e2]
  exact c9 _ rfl
 .refine wpAny_pyIter_longrange (B5 ..) (by simpa using Lw) ?_
  refine ⟨_,[(s.heap.push { cls:=.type "range",data:=.fields #[.int lo t,.int hi u,.int 1 v] }).objs.size],_,_,H,rfl,I1.kept (t':=tk) λb o e=>aZ _ e,a9m _ lo (hi-lo).toNat,?_,fin,q⟩
  show IsLongIter _ _ (lo+((0:Nat):Int)*1) ((((hi-lo).toNat:Nat):Int)-((0:Nat):Int)) 1
  rw [e1,e2]
  exact c9 _ rfl
noncomputable def XB(ta:TA):TI:=λσ H R=>ta σ H λvs H1=>∃i j:Int,vs=[.int i,.int j]/\R (mY i (j-i).toNat) H1
theorem a8X{a b:Expr}{ta:TA}{p pos:Pos}(hg:Gl X "range")(hm:X.mg "range" = none)(ha:PA X [a,b] ta)(hs:starEach [a,b] X.env=[(false,eval a X.env),(false,eval b X.env)]:=by rfl)(dN:starEach [b] X.env=[(false,eval b X.env)]:=by rfl):
  PI X tg (.Call (.Name "range" p) [a,b] [] pos) (XB ta):=by
 intro pins s σ H R I h
 refine Call_ (rR I hg hm boot_range (zS (bz (ha pos pins s σ H _ I h) λus s1 ⟨vs,H1,I1,r1,q1⟩=>?_) (by rw [hs,dN]) (by rw [dN];rfl)))
 obtain ⟨i,j,e,q⟩:=q1
 subst e
 cases r1 with
 | cons r rr =>
  cases rr with
  | cons r' rr =>
   cases rr
   obtain ⟨t,rfl⟩:=r
   obtain ⟨t',rfl⟩:=r'
   exact call_range_2 (a9Q I1 q)
noncomputable def xq:List D->Option (List D)
 | [.int j]=>some (dB 0 j.toNat)
 | _=>none
noncomputable def C4:List D->Option (List D)
 | [.int i,.int j]=>some (dB i (j-i).toNat)
 | _=>none
theorem Z8{a b:Expr}{fs:En->Option (List D)}{p pos:Pos}(tH:Gl X "range")(hm:X.mg "range" = none)(ha:AV X [a,b] fs)(h1:starEach [a,b] X.env=[(false,eval a X.env),(false,eval b X.env)]:=by rfl)
  (h2:starEach [b] X.env=[(false,eval b X.env)]:=by rfl):IV X tg (.Call (.Name "range" p) [a,b] [] pos) (jG C4 fs):=by
 obtain ⟨ti,pi,ki⟩:=ha
 refine ⟨_,a8X tH hm pi h1 h2,λO B σ H env ds R Rl e q=>?_⟩
 obtain ⟨as,e1,e2⟩:=bind_some e
 refine ki O B σ H env as _ Rl e1 λvs H1 s1 r1=>?_
 unfold C4 at e2
 split at e2
 .cases e2
  exact ⟨_,_,JB r1,q _ H1 s1 (Z3 _ _)⟩
 .cases e2
end
end DL
namespace DL
open PySem PySem.Spec PyProof.Rows L2
noncomputable def sI(b:Bool):String:=if b then "list_iterator" else "tuple_iterator"
def gh(b:Bool)(h:Heap)(it l:Addr)(k:Nat):Prop:=match b with
 | true=>h.IsListIter it l k
 | false=>h.IsTupleIter it l k
def jq(b:Bool)(h:Heap)(l:Addr)(items:Array Value):Prop:=match b with
 | true=>h.IsList l items
 | false=>h.IsTuple l items
theorem gh.keep(x:gh b h it l k)(e:∀o,h.get? it=some o->h'.get? it=some o):gh b h' it l k:=by
 cases b with
 | true=>obtain ⟨o,ho,r⟩:=x;exact ⟨o,e _ ho,r⟩
 | false=>obtain ⟨o,ho,r⟩:=x;exact ⟨o,e _ ho,r⟩
theorem jq.keep(x:jq b h l items)(e:∀o,h.get? l=some o->h'.get? l=some o):jq b h' l items:=by
 cases b with
 | true=>obtain ⟨o,ho,r⟩:=x;exact ⟨o,e _ ho,r⟩
 | false=>obtain ⟨o,ho,r⟩:=x;exact ⟨o,e _ ho,r⟩
theorem gh.lt(x:gh b h it l k):it<h.objs.size:=by
 cases b with
 | true=>obtain ⟨o,ho,r⟩:=x;exact bF ho
 | false=>obtain ⟨o,ho,r⟩:=x;exact bF ho
theorem jq.lt(x:jq b h l items):l<h.objs.size:=by
 cases b with
 | true=>obtain ⟨o,ho,r⟩:=x;exact bF ho
 | false=>obtain ⟨o,ho,r⟩:=x;exact bF ho
theorem gh.nZ(x:gh b h it l k):∃o,h.get? it=some o/\∀v,o.data≠.cell v:=by
 cases b with
 | true=>obtain ⟨o,ho,_,d⟩:=x;exact ⟨o,ho,λv z=>by rw [d] at z;cases z⟩
 | false=>obtain ⟨o,ho,_,d⟩:=x;exact ⟨o,ho,λv z=>by rw [d] at z;cases z⟩
section
variable {prog:Program}{w:World}{A:Around}{E:Value->Shared->Prop}{s:Shared}
theorem Jk(hit:gh b s.heap it l i)(hl:jq b s.heap l items)(hx:items[i]?=some x)
  (hQ:∀h',gh b h' it l (i+1)->pd it s.heap h'->Q x { s with heap:=h' }):wpAny (model prog w) A (rL (.ref it)) Q E s:=by
 cases b with
 | true=>exact wpAny_nextOf_list_item hit hl hx hQ
 | false =>
  have kY:s.heap.IsTupleIter it l i:=hit
  obtain ⟨o,ho,hc,hd⟩:=id kY
  obtain ⟨ol,yA,_,nl,tK⟩:=(show s.heap.IsTuple l items from hl)
  unfold rL
  refine ah (qw (name:=Str.ofString "__next__") kY.typeIs CO (mO CO kY.typeIs MT ?_ (MG _)))
  show wpAny _ _ (field (.ref it) 0 >>= _) _ _ s
  refine ah (lr ho hd (x:=.ref l) rfl ?_)
  show wpAny _ _ (if (dj l==fV)=true then _ else _) _ _ s
  rw [if_neg (show ¬((dj l==fV)=true) from lx)]
  show wpAny _ _ (field (.ref it) 1 >>= _) _ _ s
  refine ah (lr ho hd (x:=.int i 0) rfl ?_)
  show wpAny _ _ (seqItems? (.ref l) >>= _) _ _ s
  refine ah (o7 yA tK ?_)
  simp only [rG,hx]
  refine ah (wpAny_setField ho hd (by simp) (aH ⟨x,rfl,aH (hQ _ ?_ (CF ..))⟩))
  exact ⟨_,zZ _ ho (Obj.isFreed_of_fields (Obj.data_mapFields hd _)),(Obj.cls_mapFields ..).trans hc,by rw [Obj.data_mapFields hd];simp [rawInt]⟩
theorem Oq(hh:A.handled=none)(hit:gh b s.heap it l i)(hl:jq b s.heap l items)(hx:items[i]?=none)
  (hE:∀h' e,zu it s.heap h'->(∃o,h'.get? e=some o/\o.cls=.type "StopIteration")->E (.ref e) { s with heap:=h' }):wpAny (model prog w) A (rL (.ref it)) Q E s:=by
 cases b with
 | true=>exact wpAny_nextOf_list_end hh hit hl hx hE
 | false =>
  have kY:s.heap.IsTupleIter it l i:=hit
  obtain ⟨o,ho,hc,hd⟩:=id kY
  obtain ⟨ol,yA,_,nl,tK⟩:=(show s.heap.IsTuple l items from hl)
  unfold rL
  refine ah (qw (name:=Str.ofString "__next__") kY.typeIs CO (mO CO kY.typeIs MT ?_ (MG _)))
  show wpAny _ _ (field (.ref it) 0 >>= _) _ _ s
  refine ah (lr ho hd (x:=.ref l) rfl ?_)
  show wpAny _ _ (if (dj l==fV)=true then _ else _) _ _ s
  rw [if_neg (show ¬((dj l==fV)=true) from lx)]
  show wpAny _ _ (field (.ref it) 1 >>= _) _ _ s
  refine ah (lr ho hd (x:=.int i 0) rfl ?_)
  show wpAny _ _ (seqItems? (.ref l) >>= _) _ _ s
  refine ah (o7 yA tK ?_)
  simp only [rG,hx]
  refine ah (o5 (ah (wpAny_setField ho hd (by simp) ?_)))
  show wpAny _ _ (newExc (.type "StopIteration") [] >>= _) _ _ _
  refine ah ?_
  simp only [newExc,newTuple]
  refine ah (nv ?_ (by size_fits))
  refine ah (m:=firstArgMember _ _) (rC (a:=fV) (by first | rfl | (simp only [firstArgMember];rfl)) ?_)
  refine nv ?_ (by size_fits)
  simp only [raiseNew]
  refine ah (wpAny_handled ?_)
  first | rw [show A.in1.handled=none from hh] | rw [hh]
  refine ah (aH (wpAny_throw ?_))
  exact hE _ _ (((CF ..).extBut.push _).push _) ⟨_,c9 _ rfl,rfl⟩
structure D3(z TI TO i1 i2 l1 l2:Addr):Prop where
 a1:TI≠z
 a2:TO≠z
 a3:i1≠z
 a4:i2≠z
 a6:TO≠i1
 a7:TO≠i2
 a8:i1≠i2
 b1:l1≠z
 b2:l1≠TO
 b3:l1≠i1
 b4:l1≠i2
 c1:l2≠z
 c2:l2≠TO
 c3:l2≠i1
 c4:l2≠i2
theorem ZJ{b1 b2:Bool}{z TI TO i1 i2 l1 l2:Addr}{k1 k2:Nat}{xs ys:Array Value}{x y a b:Value}{Q:Option Value->Shared->Prop}(D:D3 z TI TO i1 i2 l1 l2)
  (hz:IsZip s.heap z TI TO .none)(mz:IsPair s.heap TI (.ref i1) (.ref i2))(m9:IsPair s.heap TO a b)(h1:gh b1 s.heap i1 l1 k1)(h2:gh b2 s.heap i2 l2 k2)(gH:jq b1 s.heap l1 xs)(gq:jq b2 s.heap l2 ys)(hx:xs[k1]?=some x)(hy:ys[k2]?=some y)
  (hQ:∀h',IsZip h' z TI TO (rawInt s.heap.objs.size)->IsPair h' TO x y->gh b1 h' i1 l1 (k1+1)->gh b2 h' i2 l2 (k2+1)->IsPair h' s.heap.objs.size x y->h'.objs.size=s.heap.objs.size+1 ->
   (∀c o,c≠z->c≠TO->c≠i1->c≠i2->s.heap.get? c=some o->h'.get? c=some o)->Q (some (.ref s.heap.objs.size)) { s with heap:=h' }):wpAny (model prog w) A (pyNext (.ref z)) Q E s:=by
 have hT:s.TypeIs (.ref z) "zip":=⟨_,hz,rfl⟩
 unfold pyNext
 refine ah (ub (qw (name:=Str.ofString "__next__") hT Cu (mO Cu hT F.entry_zip_next ?_ (F.args_zip_next_1 _))))
 show wpAny _ _ (field (.ref z) 2 >>= _) _ _ _
 refine ah (lr hz rfl (x:=.bool false) rfl ?_)
 show wpAny _ _ (field (.ref z) 3 >>= _) _ _ _
 refine ah (lr hz rfl (x:=.ref TI) rfl (ah (o7 mz rfl ?_)))
 show wpAny _ _ (CL (.ref z) >>= _) _ _ _
 refine ah ?_
 unfold CL
 refine ah (lr hz rfl (x:=.none) rfl (aH ?_))
 simp only [if_true]
 refine ah (o5 (ah (lr hz rfl (x:=.ref TO) rfl (ah (nC hz (by simp) λg1 qU s1=>?_)))))
 replace qU:IsZip g1 z TI TO .ellipsis:=qU
 refine ah ?_
 simp only [Ci,G9,Ce,List.forIn_nil]
 refine ah (ah (BZ ?_))
 show wpAny _ _ (rL (.ref i1) >>= _) _ _ _
 refine ah (Jk (h1.keep λo e=>s1.extBut _ _ D.a3 e) (gH.keep λo e=>s1.extBut _ _ D.b1 e) hx λg2 LS s2=>aH ?_)
 have t2:IsPair g2 TO a b:=s2.extBut _ _ D.a6 (s1.extBut _ _ D.a2 m9)
 refine ah (o7 t2 rfl (ah (He t2 λg3 t3 s3=>?_)))
 replace t3:IsPair g3 TO x b:=t3
 refine ah (B4 (aH (ah (ah (BZ ?_)))))
 show wpAny _ _ (rL (.ref i2) >>= _) _ _ _
 refine ah (Jk (h2.keep λo e=>s3.extBut _ _ D.a7.symm (s2.extBut _ _ D.a8.symm (s1.extBut _ _ D.a4 e))) (gq.keep λo e=>s3.extBut _ _ D.c2 (s2.extBut _ _ D.c3 (s1.extBut _ _ D.c1 e))) hy λg4 Vq s4=>aH ?_)
 have t4:IsPair g4 TO x b:=s4.extBut _ _ D.a7 t3
 refine ah (o7 t4 rfl (ah (He t4 λg5 t5 s5=>?_)))
 replace t5:IsPair g5 TO x y:=t5
 refine ah (B4 (aH (aH (ah (o7 t5 rfl (ah (zy ?_)))))))
 have hsz:g5.objs.size=s.heap.objs.size:=by rw [s5.1,s4.1,s3.1,s2.1,s1.1]
 have Lp:IsZip g5 z TI TO .ellipsis:=s5.extBut _ _ D.a2.symm (s4.extBut _ _ D.a4.symm (s3.extBut _ _ D.a2.symm (s2.extBut _ _ D.a3.symm qU)))
 have k5:∀c o,c≠z->c≠TO->c≠i1->c≠i2->s.heap.get? c=some o->g5.get? c=some o:=λc o c1 c2 c3 c4 e=>s5.extBut _ _ c2 (s4.extBut _ _ c4 (s3.extBut _ _ c2 (s2.extBut _ _ c3 (s1.extBut _ _ c1 e))))
 have j1:gh b1 g5 i1 l1 (k1+1):=LS.keep λo e=>s5.extBut _ _ D.a6.symm (s4.extBut _ _ D.a8 (s3.extBut _ _ D.a6.symm e))
 have j2:gh b2 g5 i2 l2 (k2+1):=Vq.keep λo e=>s5.extBut _ _ D.a7.symm e
 have yv:z<g5.objs.size:=bF Lp
 show wpAny _ _ (MW (.ref z) (.ref g5.objs.size) >>= _) _ _ _
 refine ah ?_
 unfold MW
 have UG:IsZip (g5.push { cls:=.type "tuple",data:=.seq #[x,y] }) z TI TO .ellipsis:=aZ _ Lp
 refine ah (nC UG (by simp) λg7 Fd s7=>?_)
 replace Fd:IsZip g7 z TI TO (rawInt g5.objs.size):=Fd
 refine nC Fd (by simp) λg8 BH s8=>?_
 replace BH:IsZip g8 z TI TO (rawInt g5.objs.size):=BH
 have up:∀c o,c≠z->g5.get? c=some o->g8.get? c=some o:=λc o c1 e=>s8.extBut _ _ c1 (s7.extBut _ _ c1 (aZ _ e))
 have t8:IsPair g8 g5.objs.size x y:=s8.extBut _ _ (o9 yv) (s7.extBut _ _ (o9 yv) (c9 _ rfl))
 have z8:g8.objs.size=g5.objs.size+1:=by rw [s8.1,s7.1,fM]
 rw [hsz] at BH t8 z8
 refine aH ⟨_,rfl,aH ?_⟩
 show Q (some (.ref g5.objs.size)) _
 rw [hsz]
 exact hQ g8 BH (up _ _ D.a2 t5) (j1.keep λo e=>up _ o D.a3 e) (j2.keep λo e=>up _ o D.a4 e) t8 z8 λc o c1 c2 c3 c4 e=>up c o c1 (k5 c o c1 c2 c3 c4 e)
theorem Y4{b1 b2:Bool}{z TI TO i1 i2 l1 l2:Addr}{k1 k2:Nat}{xs ys:Array Value}{a b:Value}{Q:Option Value->Shared->Prop}(hh:A.handled=none)(D:D3 z TI TO i1 i2 l1 l2)
  (hz:IsZip s.heap z TI TO .none)(mz:IsPair s.heap TI (.ref i1) (.ref i2))(m9:IsPair s.heap TO a b)(h1:gh b1 s.heap i1 l1 k1)(h2:gh b2 s.heap i2 l2 k2)(gH:jq b1 s.heap l1 xs)(gq:jq b2 s.heap l2 ys)(FO:xs[k1]?=none\/ys[k2]?=none)
  (hQ:∀h',(∀c o,c≠z->c≠TO->c≠i1->c≠i2->s.heap.get? c=some o->h'.get? c=some o)->Q none { s with heap:=h' }):wpAny (model prog w) A (pyNext (.ref z)) Q E s:=by
 have hT:s.TypeIs (.ref z) "zip":=⟨_,hz,rfl⟩
 unfold pyNext
 have fin:∀(h':Heap) (e:Addr),(∀c o,c≠z->c≠TO->c≠i1->c≠i2->s.heap.get? c=some o->h'.get? c=some o)->(∃o,h'.get? e=some o/\o.cls=.type "StopIteration") ->
   wpAny (model prog w) A (isInstance (.ref e) (.type "StopIteration") >>= λb=>if b=true then pure none else throw (.ref e)) Q E { s with heap:=h' }:=λh' e hk ⟨o,ho,hc⟩ =>
  ah (GY (T:="StopIteration") (b:=true) ⟨o,ho,hc⟩ isSubtype_stop (aH (hQ _ hk)))
 refine ah (ub (qw (name:=Str.ofString "__next__") hT Cu (mO Cu hT F.entry_zip_next ?_ (F.args_zip_next_1 _))))
 show wpAny _ _ (field (.ref z) 2 >>= _) _ _ _
 refine ah (lr hz rfl (x:=.bool false) rfl ?_)
 show wpAny _ _ (field (.ref z) 3 >>= _) _ _ _
 refine ah (lr hz rfl (x:=.ref TI) rfl (ah (o7 mz rfl ?_)))
 show wpAny _ _ (CL (.ref z) >>= _) _ _ _
 refine ah ?_
 unfold CL
 refine ah (lr hz rfl (x:=.none) rfl (aH ?_))
 simp only [if_true]
 refine ah (o5 (ah (lr hz rfl (x:=.ref TO) rfl (ah (nC hz (by simp) λg1 qU s1=>?_)))))
 replace qU:IsZip g1 z TI TO .ellipsis:=qU
 refine ah ?_
 simp only [Ci,G9,Ce,List.forIn_nil]
 refine ah (ah (BZ ?_))
 show wpAny _ _ (rL (.ref i1) >>= _) _ _ _
 cases hx:xs[k1]? with
 | none =>
  refine ah (Oq hh (h1.keep λo e=>s1.extBut _ _ D.a3 e) (gH.keep λo e=>s1.extBut _ _ D.b1 e) hx λg2 e s2 he=>?_)
  obtain ⟨oe,tx,tL⟩:=he
  have vh:IsZip g2 z TI TO .ellipsis:=s2 _ _ D.a3.symm qU
  have FN:e≠z:=λx=>by subst x;rw [vh] at tx;cases tx;simp at tL
  exact nC vh (by simp) λg3 _ s3=>fin g3 e (λc o c1 _ c3 _ x=>s3.extBut _ _ c1 (s2 _ _ c3 (s1.extBut _ _ c1 x))) ⟨oe,s3.extBut _ _ FN tx,tL⟩
 | some x =>
  have hy:ys[k2]?=none:=by rcases FO with h | h;rw [hx] at h;cases h;exact h
  refine ah (Jk (h1.keep λo e=>s1.extBut _ _ D.a3 e) (gH.keep λo e=>s1.extBut _ _ D.b1 e) hx λg2 LS s2=>aH ?_)
  have t2:IsPair g2 TO a b:=s2.extBut _ _ D.a6 (s1.extBut _ _ D.a2 m9)
  refine ah (o7 t2 rfl (ah (He t2 λg3 t3 s3=>?_)))
  refine ah (B4 (aH (ah (ah (BZ ?_)))))
  show wpAny _ _ (rL (.ref i2) >>= _) _ _ _
  refine ah (Oq hh (h2.keep λo e=>s3.extBut _ _ D.a7.symm (s2.extBut _ _ D.a8.symm (s1.extBut _ _ D.a4 e))) (gq.keep λo e=>s3.extBut _ _ D.c2 (s2.extBut _ _ D.c3 (s1.extBut _ _ D.c1 e))) hy λg4 e s4 he=>?_)
  obtain ⟨oe,tx,tL⟩:=he
  have Lq:IsZip g4 z TI TO .ellipsis:=s4 _ _ D.a4.symm (s3.extBut _ _ D.a2.symm (s2.extBut _ _ D.a3.symm qU))
  have FN:e≠z:=λx=>by subst x;rw [Lq] at tx;cases tx;simp at tL
  exact nC Lq (by simp) λg5 _ s5=>fin g5 e (λc o c1 c2 c3 c4 x=>s5.extBut _ _ c1 (s4 _ _ c4 (s3.extBut _ _ c2 (s2.extBut _ _ c3 (s1.extBut _ _ c1 x))))) ⟨oe,s5.extBut _ _ FN tx,tL⟩
end
end DL
namespace DL
open PySem PySem.Spec PyProof.Rows L2
section
variable {X:Cx}{pins:List (Addr×Obj)}{σ:L2.St}{H:Hp}{s:Shared}
theorem Dx{t':Nat}{h':Heap}{ch:List Addr}(I:Inv X pins σ H s)(hf:∀b∈ch,cP X pins H b)(k:∀b o,b∉ch->s.heap.get? b=some o->h'.get? b=some o):Inv X pins σ H { s with heap:=h',toks:=t' }:=by
 have xS:∀b u,H b=some u->b∉ch:=λb u e z=>by rw [(hf b z).1] at e;cases e
 refine I.step (g':=s.gens) (d':=s.drawn) (ch:=ch) (λb hb=>?_) (λb o _ _ hc e _=>k b o hc e) (λb o _ _ hc e _=>⟨o.slots,k b o hc e⟩) (λ_ _ _ _ n=>n)
  (λb o hc e=>⟨o,k b o hc e⟩) (λ_ _ e=>e) (λ_ _ _ e=>e) (λb ps e=>⟨#[],by rw [e];simp⟩) (λm hm=>?_) (λb u e=>?_) I.bare
 .obtain ⟨_,h1,_,h3,h4,h5⟩:=hf b hb
  exact ⟨h3,h1,h4,h5⟩
 .obtain ⟨o,es,ep,ho,r⟩:=hm
  exact ⟨o,es,ep,k _ o (λz=>(hf _ z).2.1 rfl) ho,r⟩
 .refine (I.bb b u e).jA (λc v hc q=>k c v ?_ q) (λ_ _ _ q=>q) λ_ _ q=>q
  rcases hc with z | z
  .rw [z];exact xS b u e
  .exact xS c _ z
theorem qy(I:Inv X pins σ H s)(h:Sq X.K H b l xs):∃aq:List Value,au xs aq/\jq b s.heap l aq.toArray:=by
 cases b with
 | true=>obtain ⟨aq,r,p,_⟩:=I.list h;exact ⟨aq,r,p.isList⟩
 | false=>obtain ⟨aq,r,p,_⟩:=I.tuple h;exact ⟨aq,r,p⟩
theorem ND(I:Inv X pins σ H s)(h:Sq X.K H b l xs)(h':Sq X.K H b l ys):xs=ys:=by
 cases b with
 | true=>exact I.gm h h'
 | false=>exact I.ft h h'
end
noncomputable def KR(K:aB)(b1 b2:Bool)(l1 l2:Addr):It:=
 ⟨λi H=>∃xs ys x y,Sq K H b1 l1 xs/\Sq K H b2 l2 ys/\xs[i]?=some x/\ys[i]?=some y,
 λi H v H'=>∃p x y,v=.ref p/\H p=none/\H'=upd H p (.tup [x,y])/\(∀xs,Sq K H b1 l1 xs->xs[i]?=some x)/\(∀ys,Sq K H b2 l2 ys->ys[i]?=some y),
 λi H=>∃xs ys,Sq K H b1 l1 xs/\Sq K H b2 l2 ys/\(xs.length<=i\/ys.length<=i)⟩
theorem a7W{h:Heap}{c:Addr}{o p:Obj}(hc:c<h.objs.size)(e:(h.push p).get? c=some o):h.get? c=some o:=by
 have q:(h.objs.push p)[c]?=h.objs[c]?:=by rw [Array.getElem?_push,if_neg (cI hc)]
 unfold Heap.get? Heap.push at e
 unfold Heap.get?
 rw [<-q];exact e
theorem Y3(h1:l1<n)(h2:l2<n):D3 (n+4) (n+2) (n+3) n (n+1) l1 l2:=by
 have Z:=zipApart_new h1 h2
 exact ⟨Z.1,Z.2,Z.3,Z.4,Z.8,Z.9,Z.10,Z.11,Z.12,Z.13,Z.14,Z.15,Z.16,Z.17,Z.18⟩
theorem ZG{P:Program}{w:World}{K:aB}{elts:List Expr}{kk:Nat}{pos:Pos}{b1 b2:Bool}{z TI TO i1 i2 l1 l2:Addr}(D:D3 z TI TO i1 i2 l1 l2)(d1:TI≠TO)(d2:TI≠i1)(d3:TI≠i2):
  Turn P w K (.Tuple elts kk pos) (KR K b1 b2 l1 l2) [z,TI,TO,i1,i2] z (λi h=>IsZip h z TI TO .none/\IsPair h TI (.ref i1) (.ref i2)/\(∃a b,IsPair h TO a b)/\gh b1 h i1 l1 i/\gh b2 h i2 l2 i) where
 mem:=by simp
 obj:=λi h ⟨hz,mz,⟨a,b,m9⟩,h1,h2⟩ c hc=>by
  simp only [bx,iC,or_false] at hc
  rcases hc with rfl | rfl | rfl | rfl | rfl
  .exact ⟨_,hz,λv q=>nomatch (show B6 _=vy v from q)⟩
  .exact ⟨_,mz,λv q=>nomatch (show Data.seq _ _=vy v from q)⟩
  .exact ⟨_,m9,λv q=>nomatch (show Data.seq _ _=vy v from q)⟩
  .exact h1.nZ
  .exact h2.nZ
 keep:=λi h h' ⟨hz,mz,⟨a,b,m9⟩,h1,h2⟩ k=>⟨k z (by simp) _ hz,k TI (by simp) _ mz,⟨a,b,k TO (by simp) _ m9⟩,h1.keep λo e=>k i1 (by simp) o e,h2.keep λo e=>k i2 (by simp) o e⟩
 item:=by
  intro X hP hw hK hc i pins s σ H E I hf ⟨hz,mz,⟨a,b,m9⟩,h1,h2⟩ hg
  subst hP hw hK
  obtain ⟨xs,ys,x,y,q1,q2,hx,hy⟩:=hg
  obtain ⟨yk,r1,p1⟩:=qy I q1
  obtain ⟨bW,r2,p2⟩:=qy I q2
  obtain ⟨u1,UM,Rp⟩:=r1.get hx
  obtain ⟨u2,UL,Ro⟩:=r2.get hy
  refine ZJ D hz mz m9 h1 h2 p1 p2 (by simpa using UM) (by simpa using UL) λh' z8 t8 j1 j2 nw sz kp=>?_
  refine ⟨_,rfl,wpAny_letOwnedTupleGo_zip (s:={ s with heap:=h' }) z8 λh9 z9 sb=>?_⟩
  have fresh:H s.heap.objs.size=none:=I.bb.fresh (aV _)
  have bg:∀c∈[z,TO,i1,i2],c<s.heap.objs.size:=λc hc=>by
   simp only [bx,iC,or_false] at hc
   rcases hc with rfl | rfl | rfl | rfl
   .exact bF hz
   .exact bF m9
   .exact h1.lt
   .exact h2.lt
  have up:∀c o,c∉[z,TO,i1,i2]->s.heap.get? c=some o->h9.get? c=some o:=λc o hc e=>by
   simp only [bx,iC,or_false,not_or] at hc
   exact sb.extBut _ _ hc.1 (kp c o hc.1 hc.2.1 hc.2.2.1 hc.2.2.2 e)
  have nz:s.heap.objs.size≠z:=o9 (bg z (by simp))
  have TN:IsPair h9 s.heap.objs.size u1 u2:=sb.extBut _ _ nz nw
  have I1:Inv X pins σ (upd H s.heap.objs.size (.tup [x,y])) { s with heap:=s.heap.push { cls:=.type "tuple",data:=.seq #[u1,u2] },toks:=s.toks }:=
   I.laid (λb o e=>aZ _ e) (aV _) ⟨by simp [sizeLine],[u1,u2],.cons Rp (.cons Ro .nil),⟨_,c9 _ rfl,rfl,_,rfl⟩⟩
  have I2:Inv X pins σ (upd H s.heap.objs.size (.tup [x,y])) { s with heap:=h9,toks:=s.toks }:=Dx (s:={ s with heap:=s.heap.push { cls:=.type "tuple",data:=.seq #[u1,u2] },toks:=s.toks }) (ch:=[z,TO,i1,i2]) (t':=s.toks) I1 (λc hc=>by
    obtain ⟨f0,f1,f2,f3,f4,f5⟩:=hf c (by simp only [bx,iC,or_false] at hc ⊢;grind)
    exact ⟨by rw [cR (cI (bg c hc))];exact f0,f1,f2,f3,f4,f5⟩) λc o hc e=>by
   by_cases hs:c<s.heap.objs.size
   .exact up c o hc (a7W hs e)
   .have vq:c=s.heap.objs.size:=by
     have:=bF e
     rw [fM] at this
     exact G8 (Nat.lt_succ_iff.mp this) (G0 hs)
    subst vq
    have e2:(s.heap.push { cls:=.type "tuple",data:=.seq #[u1,u2] }).get? s.heap.objs.size=some _:=c9 _ rfl
    rw [e2] at e;cases e
    exact TN
  refine ⟨.ref s.heap.objs.size,_,I2,rfl,⟨_,x,y,rfl,fresh,rfl,λzs yu=>by rw [ND I yu q1];exact hx,λzs yu=>by rw [ND I yu q2];exact hy⟩,⟨z9,up TI _ (by simp [d1,d2,d3,D.a1]) mz,⟨u1,u2,sb.extBut _ _ D.a2 t8⟩,j1.keep λo e=>sb.extBut _ _ D.a3 e,j2.keep λo e=>sb.extBut _ _ D.a4 e⟩,λc hc=>?_⟩
  rw [cR ?_]
  .exact (hf c hc).1
  .simp only [bx,iC,or_false] at hc
   rcases hc with rfl | rfl | rfl | rfl | rfl
   .exact cI (bg _ (by simp))
   .exact cI (bF mz)
   .exact cI (bg _ (by simp))
   .exact cI (bg _ (by simp))
   .exact cI (bg _ (by simp))
 done:=by
  intro X hP hw hK hc i pins s σ H E I hf ⟨hz,mz,⟨a,b,m9⟩,h1,h2⟩ hg
  subst hP hw hK
  obtain ⟨xs,ys,q1,q2,hl⟩:=hg
  obtain ⟨yk,r1,p1⟩:=qy I q1
  obtain ⟨bW,r2,p2⟩:=qy I q2
  have e1:=r1.length
  have e2:=r2.length
  refine Y4 (I.ok.hd hc) D hz mz m9 h1 h2 p1 p2 ?_ λh' kp=>⟨rfl,Dx (ch:=[z,TO,i1,i2]) (t':=s.toks) I (λc hc=>hf c (by simp only [bx,iC,or_false] at hc ⊢;grind)) λc o hc e=>?_⟩
  .rcases hl with hl | hl
   .exact .inl (by simp;ext e1 hl)
   .exact .inr (by simp;ext e2 hl)
  .simp only [bx,iC,or_false,not_or] at hc
   exact kp c o hc.1 hc.2.1 hc.2.2.1 hc.2.2.2 e
 self:=λ_ _ _ _ _ st h=>wpAny_pyIter_zip st.1 h
noncomputable abbrev Br(b1:Bool)(h:Heap)(l1:Addr):Heap:=h.push { cls:=.type (sI b1),data:=.fields #[.ref l1,.int 0 0] }
noncomputable abbrev Bq(b1 b2:Bool)(h:Heap)(l1 l2:Addr):Heap:=(Br b1 h l1).push { cls:=.type (sI b2),data:=.fields #[.ref l2,.int 0 0] }
noncomputable abbrev Bp(b1 b2:Bool)(h:Heap)(l1 l2:Addr):Heap:=(Bq b1 b2 h l1 l2).push { cls:=.type "tuple",data:=.seq #[.ref h.objs.size,.ref (Br b1 h l1).objs.size] }
noncomputable abbrev qK(b1 b2:Bool)(h:Heap)(l1 l2:Addr):Heap:=(Bp b1 b2 h l1 l2).push { cls:=.type "tuple",data:=.seq #[.none,.none] }
noncomputable abbrev nL(b1 b2:Bool)(h:Heap)(l1 l2:Addr):Heap:=(qK b1 b2 h l1 l2).push { cls:=.type "zip",data:=.fields #[.none,.bool false,.bool false,.ref (Bq b1 b2 h l1 l2).objs.size,.ref (Bp b1 b2 h l1 l2).objs.size] }
theorem a6R(l1 l2:Addr)(xs ys:Array Value):Meets (Builtin.«zip.__new__» ⟨[.type "zip",.ref l1,.ref l2],[]⟩) (λ_ R s=>s.heap.IsList l1 xs/\s.heap.IsList l2 ys/\R (.ok (.ret (.ref (qK true true s.heap l1 l2).objs.size))) { s with heap:=nL true true s.heap l1 l2 }):=
 .of_wp λprog w A R s h=>by
  obtain ⟨hp,g,d,tk,os⟩:=s;obtain ⟨gH,gq,h⟩:=h
  have h8:=sub_zip
  have tQ:B3 (rB ⟨hp,g,d,tk,os⟩) l1 xs:=gH
  have tP:B3 (rB ⟨hp.push { cls:=.type "list_iterator",data:=.fields #[.ref l1,.int 0 0] },g,d,tk,os⟩) l2 ys:=Ma gq _
  wp_walk using uq tQ,uq tP
  exact ⟨_,rfl,h⟩
theorem a6S(l1 l2:Addr)(xs ys:Array Value):Meets (Builtin.«zip.__new__» ⟨[.type "zip",.ref l1,.ref l2],[]⟩) (λ_ R s=>s.heap.IsList l1 xs/\s.heap.IsTuple l2 ys/\R (.ok (.ret (.ref (qK true false s.heap l1 l2).objs.size))) { s with heap:=nL true false s.heap l1 l2 }):=
 .of_wp λprog w A R s h=>by
  obtain ⟨hp,g,d,tk,os⟩:=s;obtain ⟨gH,gq,h⟩:=h
  have h8:=sub_zip
  have tQ:B3 (rB ⟨hp,g,d,tk,os⟩) l1 xs:=gH
  have tP:Cb (rB ⟨hp.push { cls:=.type "list_iterator",data:=.fields #[.ref l1,.int 0 0] },g,d,tk,os⟩) l2 ys:=jq.keep (b:=false) gq λo e=>aZ _ e
  wp_walk using uq tQ,vO tP
  exact ⟨_,rfl,h⟩
theorem a6T(l1 l2:Addr)(xs ys:Array Value):Meets (Builtin.«zip.__new__» ⟨[.type "zip",.ref l1,.ref l2],[]⟩) (λ_ R s=>s.heap.IsTuple l1 xs/\s.heap.IsList l2 ys/\R (.ok (.ret (.ref (qK false true s.heap l1 l2).objs.size))) { s with heap:=nL false true s.heap l1 l2 }):=
 .of_wp λprog w A R s h=>by
  obtain ⟨hp,g,d,tk,os⟩:=s;obtain ⟨gH,gq,h⟩:=h
  have h8:=sub_zip
  have tQ:Cb (rB ⟨hp,g,d,tk,os⟩) l1 xs:=gH
  have tP:B3 (rB ⟨hp.push { cls:=.type "tuple_iterator",data:=.fields #[.ref l1,.int 0 0] },g,d,tk,os⟩) l2 ys:=Ma gq _
  wp_walk using vO tQ,uq tP
  exact ⟨_,rfl,h⟩
theorem a6U(l1 l2:Addr)(xs ys:Array Value):Meets (Builtin.«zip.__new__» ⟨[.type "zip",.ref l1,.ref l2],[]⟩) (λ_ R s=>s.heap.IsTuple l1 xs/\s.heap.IsTuple l2 ys/\R (.ok (.ret (.ref (qK false false s.heap l1 l2).objs.size))) { s with heap:=nL false false s.heap l1 l2 }):=
 .of_wp λprog w A R s h=>by
  obtain ⟨hp,g,d,tk,os⟩:=s;obtain ⟨gH,gq,h⟩:=h
  have h8:=sub_zip
  have tQ:Cb (rB ⟨hp,g,d,tk,os⟩) l1 xs:=gH
  have tP:Cb (rB ⟨hp.push { cls:=.type "tuple_iterator",data:=.fields #[.ref l1,.int 0 0] },g,d,tk,os⟩) l2 ys:=jq.keep (b:=false) gq λo e=>aZ _ e
  wp_walk using vO tQ,vO tP
  exact ⟨_,rfl,h⟩
theorem a83(b1 b2:Bool)(l1 l2:Addr)(xs ys:Array Value):Meets (Builtin.«zip.__new__» ⟨[.type "zip",.ref l1,.ref l2],[]⟩) (λ_ R s=>jq b1 s.heap l1 xs/\jq b2 s.heap l2 ys/\R (.ok (.ret (.ref (qK b1 b2 s.heap l1 l2).objs.size))) { s with heap:=nL b1 b2 s.heap l1 l2 }):=by
 cases b1<;>cases b2
 .exact a6U l1 l2 xs ys
 .exact a6T l1 l2 xs ys
 .exact a6S l1 l2 xs ys
 .exact a6R l1 l2 xs ys
section
variable {prog:Program}{w:World}{A:Around}{E:Value->Shared->Prop}{s:Shared}
theorem Ox(e:h.get? it=some { cls:=.type (sI b),data:=.fields #[.ref l,.int 0 0] }):gh b h it l 0:=by
 cases b with
 | true=>exact ⟨_,e,rfl,rfl⟩
 | false=>exact ⟨_,e,rfl,rfl⟩
theorem b0T(gH:jq b1 s.heap l1 xs)(gq:jq b2 s.heap l2 ys)
  (h:∀h',IsZip h' (s.heap.objs.size+4) (s.heap.objs.size+2) (s.heap.objs.size+3) .none->IsPair h' (s.heap.objs.size+2) (.ref s.heap.objs.size) (.ref (s.heap.objs.size+1)) ->
   IsPair h' (s.heap.objs.size+3) .none .none->gh b1 h' s.heap.objs.size l1 0->gh b2 h' (s.heap.objs.size+1) l2 0->h'.objs.size=s.heap.objs.size+5 ->
   (∀c o,s.heap.get? c=some o->h'.get? c=some o)->Q (.ref (s.heap.objs.size+4)) { s with heap:=h' }):
  wpAny (model prog w) A (call (.type "zip") [.ref l1,.ref l2]) Q E s:=by
 refine callType_new F.called_zip (by decide) (F.typeCall_zip_2 _ _) (F.newCall_zip_2 _ _) (λobj=>F.args_object_init_3 obj _ _) F.entry_zip_new (a83 b1 b2 l1 l2 xs ys) ⟨gH,gq,?_⟩
 have z1:(Br b1 s.heap l1).objs.size=s.heap.objs.size+1:=fM ..
 have z2:(Bq b1 b2 s.heap l1 l2).objs.size=s.heap.objs.size+2:=by rw [fM,z1]
 have z3:(Bp b1 b2 s.heap l1 l2).objs.size=s.heap.objs.size+3:=by rw [fM,z2]
 have z4:(qK b1 b2 s.heap l1 l2).objs.size=s.heap.objs.size+4:=by rw [fM,z3]
 have z5:(nL b1 b2 s.heap l1 l2).objs.size=s.heap.objs.size+5:=by rw [fM,z4]
 have g5:(nL b1 b2 s.heap l1 l2).get? (qK b1 b2 s.heap l1 l2).objs.size=some _:=c9 _ rfl
 have g4:(nL b1 b2 s.heap l1 l2).get? (Bp b1 b2 s.heap l1 l2).objs.size=some _:=aZ _ (c9 _ rfl)
 have g3:(nL b1 b2 s.heap l1 l2).get? (Bq b1 b2 s.heap l1 l2).objs.size=some _:=aZ _ (aZ _ (c9 _ rfl))
 have g2:(nL b1 b2 s.heap l1 l2).get? (Br b1 s.heap l1).objs.size=some _:=aZ _ (aZ _ (aZ _ (c9 _ rfl)))
 have g1:(nL b1 b2 s.heap l1 l2).get? s.heap.objs.size=some _:=aZ _ (aZ _ (aZ _ (aZ _ (c9 _ rfl))))
 show _/\_
 rw [z2,z3,z4] at g5
 rw [z1,z2] at g3
 rw [z3] at g4
 rw [z1] at g2
 rw [z4]
 exact ⟨⟨_,g5,rfl⟩,h _ g5 g3 g4 (Ox g1) (Ox g2) z5 λc o x =>
  aZ _ (aZ _ (aZ _ (aZ _ (aZ _ x))))⟩
end
section
variable {X:Cx}{elts:List Expr}{kk:Nat}{tp:Pos}
noncomputable def E7(K:aB)(ta:TA):TI:=λσ H R=>ta σ H λvs H1=>∃b1 b2 l1 l2 xs ys,vs=[.ref l1,.ref l2]/\Sq K H1 b1 l1 xs/\Sq K H1 b2 l2 ys/\R (KR K b1 b2 l1 l2) H1
theorem Xr{a b:Expr}{ta:TA}{p pos:Pos}(hg:Gl X "zip")(hm:X.mg "zip" = none)(ha:PA X [a,b] ta)(hs:starEach [a,b] X.env=[(false,eval a X.env),(false,eval b X.env)]:=by rfl)(dN:starEach [b] X.env=[(false,eval b X.env)]:=by rfl):
  PI X (.Tuple elts kk tp) (.Call (.Name "zip" p) [a,b] [] pos) (E7 X.K ta):=by
 intro pins s σ H R I h
 refine Call_ (rR I hg hm boot_zip (zS (bz (ha pos pins s σ H _ I h) λus s1 ⟨vs,H1,I1,r1,q1⟩=>?_) (by rw [hs,dN]) (by rw [dN];rfl)))
 obtain ⟨b1,b2,l1,l2,xs,ys,e,q1,q2,q⟩:=q1
 subst e
 cases r1 with
 | cons r rr =>
  cases rr with
  | cons r' rr =>
   cases rr
   cases r
   cases r'
   obtain ⟨yk,rr1,p1⟩:=qy I1 q1
   obtain ⟨bW,rr2,p2⟩:=qy I1 q2
   refine b0T p1 p2 λh' z0 t0 o0 j1 j2 sz kp=>?_
   refine wpAny_pyIter_zip (s:={ s1 with heap:=h' }) z0 ?_
   have Lj:=p1.lt
   have yc:=p2.lt
   have D:=Y3 Lj yc
   have Z:=zipApart_new Lj yc
   have ge:∀c∈[s1.heap.objs.size+4,s1.heap.objs.size+2,s1.heap.objs.size+3,s1.heap.objs.size,s1.heap.objs.size+1],s1.heap.objs.size<=c:=λc hc=>by
    simp only [bx,iC,or_false] at hc
    rcases hc with rfl | rfl | rfl | rfl | rfl
    .exact um _ _
    .exact um _ _
    .exact um _ _
    .exact aV _
    .exact um _ _
   exact ⟨_,_,_,_,H1,rfl,I1.kept (t':=s1.toks) kp,ZG D Z.5 Z.6 Z.7,⟨z0,t0,⟨_,_,o0⟩,j1,j2⟩,λc hc=>I1.iX (ge c hc) (I1.bb.fresh (ge c hc)),q⟩
noncomputable def gW(a b:List D):List D:=oA (λd e=>D.tup [d,e]) a b
noncomputable def kG:List D->Option (List D)
 | [a,b]=>(d9 a).bind λp=>(d9 b).map λq=>gW p.2 q.2
 | _=>none
theorem ZK{K:aB}{O:Addr->Prop}{H:Hp}{b1 b2:Bool}{l1 l2:Addr}{xs ys:List V}{as bs:List D}(h1:Sq K H b1 l1 xs)(i1:aI K O H xs as)(n1:¬O l1\/∀H',Sq K H' b1 l1 xs)(h2:Sq K H b2 l2 ys)(i2:aI K O H ys bs)(n2:¬O l2\/∀H',Sq K H' b2 l2 ys):
  v7 K O (KR K b1 b2 l1 l2) H (gW as bs):=λO' H2 kp hO i=>by
 have key:∀{b:Bool} {l:Addr} {zs:List V} {cs:List D},Sq K H b l zs->aI K O H zs cs->(¬O l\/∀H',Sq K H' b l zs)->Sq K H2 b l zs/\aI K O' H2 zs cs:=λ{b l zs cs} h1 i1 n1=>by
  refine ⟨?_,i1.map (λq hq hn=>?_) λq u e n=>(kp q u e n).1⟩
  .rcases n1 with h3 | h3
   .exact Oc (λq u e n=>(kp q u e n).1) h1 h3
   .exact h3 H2
  .cases e:H q with
   | none=>exact (hq e).elim
   | some u=>exact (kp q u e hn).2
 obtain ⟨p1,s1⟩:=key h1 i1 n1
 obtain ⟨p2,s2⟩:=key h2 i2 n2
 refine ⟨λd hd=>?_,λhl=>⟨xs,ys,p1,p2,?_⟩⟩
 .unfold gW at hd
  rw [Hh] at hd
  cases ea:as[i]? with
  | none=>simp [ea] at hd
  | some da =>
   cases eb:bs[i]? with
   | none=>simp [ea,eb] at hd
   | some db =>
    simp only [ea,eb] at hd
    cases hd
    obtain ⟨x,hx,dx⟩:=s1.get ea
    obtain ⟨y,hy,dy⟩:=s2.get eb
    refine ⟨⟨xs,ys,x,y,p1,p2,hx,hy⟩,λv H3 hv=>?_⟩
    obtain ⟨p,x',y',rfl,hp,rfl,f1,f2⟩:=hv
    have e1:=f1 xs p1
    have e2:=f2 ys p2
    rw [hx] at e1;cases e1
    rw [hy] at e2;cases e2
    have sm:ar H2 (upd H2 p (.tup [x,y])):=λq u e=>by rw [cR (pI e hp)];exact e
    exact ⟨sm,.tup (λz=>hO p z hp) (.inl me) (.cons (dx.grow sm) (.cons (dy.grow sm) .nil))⟩
 .have e1:=s1.length
  have e2:=s2.length
  simp only [gW,Hq] at hl
  ext e1 e2 hl
theorem XG{a b:Expr}{fs:En->Option (List D)}{p pos:Pos}(tH:Gl X "zip")(hm:X.mg "zip" = none)(ha:AV X [a,b] fs)(h1:starEach [a,b] X.env=[(false,eval a X.env),(false,eval b X.env)]:=by rfl)
  (h2:starEach [b] X.env=[(false,eval b X.env)]:=by rfl):IV X (.Tuple elts kk tp) (.Call (.Name "zip" p) [a,b] [] pos) (jG kG fs):=by
 obtain ⟨ti,pi,ki⟩:=ha
 refine ⟨_,Xr tH hm pi h1 h2,λO B σ H env ds R Rl e q=>?_⟩
 obtain ⟨as,e1,e2⟩:=bind_some e
 refine ki O B σ H env as _ Rl e1 λvs H1 s1 r1=>?_
 unfold kG at e2
 split at e2
 .rename_i da db
  obtain ⟨⟨k1,as⟩,ea,e2⟩:=bind_some e2
  obtain ⟨⟨k2,bs⟩,eb,e2⟩:=map_some e2
  cases e2
  cases r1 with
  | cons ra rr =>
   cases rr with
   | cons rb rr =>
    cases rr
    obtain ⟨l1,xs,rfl,g1,i1,n1⟩:=ra.pU ea
    obtain ⟨l2,ys,rfl,g2,i2,n2⟩:=rb.pU eb
    exact ⟨k1,k2,l1,l2,xs,ys,rfl,g1,g2,q _ H1 s1 (ZK g1 i1 n1 g2 i2 n2)⟩
 .cases e2
end
end DL
namespace SO
section pure
variable {α:Type}
def dG(κ:α->Int)(l:List α):Prop:=l.Pairwise λx y=>κ x<κ y
structure Inv(κ:α->Int)(la lb out:List α)(ia ib:Nat):Prop where
 perm:out.Perm (la.take ia++lb.take ib)
 mn:dG κ out
 lo:∀x∈out,(∀y∈la.drop ia,κ x<κ y)/\∀y∈lb.drop ib,κ x<κ y
variable {κ:α->Int}{la lb out:List α}{ia ib:Nat}
theorem Inv.sym(h:Inv κ la lb out ia ib):Inv κ lb la out ib ia:=⟨h.perm.trans zW,h.mn,λx hx=>⟨(h.lo x hx).2,(h.lo x hx).1⟩⟩
theorem wj(h:dG κ l)(i:Nat):dG κ (l.drop i):=h.sublist (List.drop_sublist ..)
theorem Jo(h:dG κ l)(i:Nat):dG κ (l.take i):=h.sublist (List.take_sublist ..)
theorem JI(h:dG κ l)(i:Nat):∀x∈l.take i,∀y∈l.drop i,κ x<κ y:=by
 have:dG κ (l.take i++l.drop i):=by rw [mJ];exact h
 exact (fI.mp this).2.2
theorem Inv.a(h:Inv κ la lb out ia ib)(sa:dG κ la)(k:Nat)(hk:∀x∈(la.drop ia).take k,∀y∈lb.drop ib,κ x<κ y):Inv κ la lb (out++(la.drop ia).take k) (ia+k) ib:=by
 refine ⟨?_,fI.mpr ⟨h.mn,Jo (wj sa ia) k,λx hx y hy=>(h.lo x hx).1 y (ug hy)⟩,λx hx=>?_⟩
 .rw [List.take_add,e9]
  refine (h.perm.append_right _).trans ?_
  rw [e9]
  exact zW.append_left _
 .rw [<-List.drop_drop]
  rcases bK.mp hx with hx | hx
  .exact ⟨λy hy=>(h.lo x hx).1 y (rM hy),(h.lo x hx).2⟩
  .exact ⟨λy hy=>JI (wj sa ia) k x hx y hy,hk x hx⟩
theorem Inv.b(h:Inv κ la lb out ia ib)(sb:dG κ lb)(k:Nat)(hk:∀x∈(lb.drop ib).take k,∀y∈la.drop ia,κ x<κ y):Inv κ la lb (out++(lb.drop ib).take k) ia (ib+k):=(h.sym.a sb k hk).sym
theorem Inv.last(h:Inv κ la lb out ia ib)(sa:dG κ la)(sb:dG κ lb)(hm:∀x∈lb.drop ib,∀y∈la.drop ia,κ x<κ y):dG κ (out++lb.drop ib++la.drop ia)/\(out++lb.drop ib++la.drop ia).Perm (la++lb):=by
 refine ⟨fI.mpr ⟨fI.mpr ⟨h.mn,wj sb ib,λx hx=>(h.lo x hx).2⟩,wj sa ia,λx hx y hy=>?_⟩,?_⟩
 .rcases bK.mp hx with hx | hx
  .exact (h.lo x hx).1 y hy
  .exact hm x hx y hy
 .have e:la++lb=(la.take ia++la.drop ia)++(lb.take ib++lb.drop ib):=by rw [mJ,mJ]
  rw [e,e9]
  refine (h.perm.append_right _).trans ?_
  simp only [e9]
  refine Cy _ ?_
  refine zW.trans ?_
  simp only [e9]
  refine (zW).trans ?_
  simp only [e9]
  refine Cy _ ?_
  exact qu _
theorem Inv.done(h:Inv κ la lb out ia ib)(sa:dG κ la)(sb:dG κ lb)(hm:∀x∈la.drop ia,∀y∈lb.drop ib,κ x<κ y):dG κ (out++la.drop ia++lb.drop ib)/\(out++la.drop ia++lb.drop ib).Perm (la++lb):=
 have q:=h.sym.last sb sa hm
 ⟨q.1,q.2.trans zW⟩
theorem yp:Inv κ la lb [] 0 0:=⟨by simp,ur,λx hx=>nomatch hx⟩
theorem XJ(sa:dG κ A)(sb:dG κ B)(h1:∀x∈A.take k,∀y∈B,κ x<κ y)(h2:∀x∈B.drop m,∀y∈A,κ y<κ x)(sm:dG κ M)(pm:M.Perm (A.drop k++B.take m)):
  dG κ (A.take k++M++B.drop m)/\(A.take k++M++B.drop m).Perm (A++B):=by
 constructor
 .refine fI.mpr ⟨fI.mpr ⟨Jo sa k,sm,λx hx y hy=>?_⟩,wj sb m,λx hx y hy=>?_⟩
  .rcases bK.mp (pm.mem_iff.mp hy) with hy | hy
   .exact JI sa k x hx y hy
   .exact h1 x hx y (ug hy)
  .rcases bK.mp hx with hx | hx
   .exact h1 x hx y (rM hy)
   .rcases bK.mp (pm.mem_iff.mp hx) with hx | hx
    .exact h2 y hy x (rM hx)
    .exact JI sb m x hx y hy
 .have e:A++B=(A.take k++A.drop k)++(B.take m++B.drop m):=by rw [mJ,mJ]
  rw [e,e9]
  simp only [e9]
  refine Cy _ ?_
  rw [<-e9]
  exact pm.append_right _
theorem iV(m:List α):∀(xs:Array α) (o n:Nat) (k:Nat),o+n+m.length<=xs.size->((m.zipIdx n).foldl (λa p=>a.setIfInBounds (o+p.2) p.1) xs)[k]?=if o+n<=k/\k<o+n+m.length then m[k-(o+n)]? else xs[k]?:=by
 induction m with
 | nil=>intro xs o n k h;simp only [G9,List.foldl_nil,List.length_nil];rw [if_neg (by ext)]
 | cons x m ih =>
  intro xs o n k h
  simp only [iD] at h
  rw [Ci,List.foldl_cons,ih _ o (n+1) k (by simp only [Array.size_setIfInBounds];ext h)]
  simp only [iD]
  by_cases c:o+(n+1)<=k/\k<o+(n+1)+m.length
  .rw [if_pos c,if_pos (by ext c),show k-(o+n)=(k-(o+(n+1)))+1 by ext c,List.getElem?_cons_succ]
  .rw [if_neg c,Array.getElem?_setIfInBounds]
   by_cases c2:o+n=k
   .subst c2
    rw [if_pos rfl,if_pos (by ext h),if_pos (by ext)]
    simp
   .rw [if_neg c2,if_neg (by ext c c2)]
theorem a8O{P A S m:List α}{xs:Array α}(e:xs.toList=P++A++S)(hl:m.length=A.length):(m.zipIdx.foldl (λa p=>a.setIfInBounds (P.length+p.2) p.1) xs).toList=P++m++S:=by
 have hs:xs.size=P.length+A.length+S.length:=by rw [<-et,e];simp;ext
 refine Hu λk=>?_
 rw [pj,iV m xs P.length 0 k (by ext hl hs),Nat.add_zero,<-pj,e]
 by_cases h1:k<P.length
 .rw [if_neg (by ext h1),e9,e9,uz h1,uz h1]
 .by_cases h2:k<P.length+m.length
  .rw [if_pos ⟨by ext h1,h2⟩,e9,qv (by ext h1),uz (by ext h1 h2)]
  .rw [if_neg (by ext h2),qv (by simp;ext hl h2),qv (by simp;ext h2)]
   simp [hl]
noncomputable def j0:Nat->List (List α)->List (Nat×Nat×Nat)->Prop
 | _,[],[]=>True
 | o,R::Rs,p::ps=>p.1=o/\p.2.1=R.length/\j0 (o+R.length) Rs ps
 | _,_,_=>False
theorem j0.len:∀{o:Nat} {Rs:List (List α)} {ps:List (Nat×Nat×Nat)},j0 o Rs ps->ps.length=Rs.length
 | _,[],[],_=>rfl
 | _,R::Rs,p::ps,h=>by simp [h.2.2.len]
theorem j0.app:∀{o:Nat} {Rs Ss:List (List α)} {ps qs:List (Nat×Nat×Nat)},j0 o Rs ps->j0 (o+Rs.flatten.length) Ss qs->j0 o (Rs++Ss) (ps++qs)
 | o,[],Ss,[],qs,_,h=>by simpa using h
 | o,R::Rs,Ss,p::ps,qs,h,k=>⟨h.1,h.2.1,h.2.2.app (by rw [Ck,bQ,<-GN] at k;exact k)⟩
theorem j0.split:∀{o:Nat} {Rs Ss:List (List α)} {ps:List (Nat×Nat×Nat)},j0 o (Rs++Ss) ps->j0 o Rs (ps.take Rs.length)/\j0 (o+Rs.flatten.length) Ss (ps.drop Rs.length)
 | o,[],Ss,ps,h=>⟨trivial,by simpa using h⟩
 | o,R::Rs,Ss,p::ps,h=>by
  obtain ⟨k1,k2⟩:=j0.split (Rs:=Rs) h.2.2
  refine ⟨⟨h.1,h.2.1,k1⟩,?_⟩
  rw [Ck,bQ,<-GN]
  exact k2
end pure
open PySem PyProof.Rows
noncomputable def a7X:Bool → Keyed → Array Keyed → Nat → Nat → Nat → StateT SortSt Sem (Option Nat):=sortPriv% PySem.Builtin.gallop
noncomputable def b1W:Array Keyed → Array Keyed → StateT SortSt Sem (Array Keyed):=sortPriv% PySem.Builtin.mergeLo
noncomputable def b1X:Array Keyed → Array Keyed → StateT SortSt Sem (Array Keyed):=sortPriv% PySem.Builtin.mergeHi
noncomputable def setG':Nat → StateT SortSt Sem Unit:=sortPriv% PySem.Builtin.setMinGallop
section
variable {prog:Program}{w:World}{A:Around}{E:Value->Shared->Prop}{s:Shared}
theorem v3{σ α:Type}{M:Model}{m:StateT σ Sem α}{Q:α->σ->Prop}{st:σ}(h:wpS M A E s m Q st):wpAny M A (m st) (λr s'=>s'=s/\Q r.1 r.2) E s:=h
structure Ask(prog:Program)(w:World)(s:Shared)(kd:SortKind)(κ:Keyed->Int)(C:Keyed->Prop):Prop where
 lt:∀{x y:Keyed},C x->C y->κ x≠κ y->∀{A:Around} {E:Value->Shared->Prop} {Q:Bool->Shared->Prop},Q (decide (κ x<κ y)) s->wpAny (model prog w) A (keyLt' kd x.1 y.1) Q E s
variable {kd:SortKind}{κ:Keyed->Int}{C:Keyed->Prop}
theorem yb(hk:Ask prog w s kd κ C){st:SortSt}{Q:Option Bool->SortSt->Prop}(hd:kindOf st=kd)(hx:C x)(hy:C y)(bo:κ x≠κ y)(h:Q (some (decide (κ x<κ y))) st):wpS (model prog w) A E s (lt' x y) Q st:=by
 rw [lt'_eq]
 refine aM (kn ?_)
 rw [hd]
 exact aM (wpS_lift (ub (hk.lt hx hy bo ⟨rfl,aT h⟩)))
theorem gz{Q:Keyed->SortSt->Prop}{st:SortSt}(hi:i<arr.size)(h:Q arr[i] st):wpS (model prog w) A E s (elem' arr i) Q st:=by
 rw [elem'_eq,getElem?_pos arr i hi]
 exact aT h
noncomputable def kv(κ:Keyed->Int)(arr:Array Keyed)(i:Nat):Int:=match arr[i]? with
 | some p=>κ p
 | none=>0
theorem gR(h:i<arr.size):kv κ arr i=κ arr[i]:=by unfold kv;rw [getElem?_pos arr i h]
theorem Ao(h:xs[i]?=ys[j]?):kv κ xs i=kv κ ys j:=by unfold kv;rw [h]
theorem W7(hk:Ask prog w s kd κ C){st:SortSt}(hd:kindOf st=kd){Q:Option Bool->SortSt->Prop}(hC:C key)(hj:j<arr.size)(hx:C arr[j])(bo:κ arr[j]≠κ key)(h:Q (some (decide (kv κ arr j<κ key))) st):
  wpS (model prog w) A E s (elem' arr j >>= λx=>if left=true then lt' x key else lt' key x >>= λr=>pure (GQ (λx=>!x) r)) Q st:=by
 refine aM (gz hj ?_)
 rw [gR hj] at h
 cases left with
 | true =>
  rw [if_pos rfl]
  exact yb hk hd hx hC bo h
 | false =>
  rw [if_neg (by decide)]
  refine aM (yb hk hd hC hx (gJ bo) (aT ?_))
  have e:(!decide (κ key<κ arr[j]))=decide (κ arr[j]<κ key):=by
   by_cases c:κ key<κ arr[j]
   .rw [decide_eq_true c,decide_eq_false (by ext hj c)];rfl
   .rw [decide_eq_false c,decide_eq_true (by ext hj bo c)];rfl
  rw [Option.map_some,e]
  exact h
theorem BR(hk:Ask prog w s kd κ C){st:SortSt}(hd:kindOf st=kd){Q:Option Nat->SortSt->Prop}(hC:C key)(hn:base+n<=arr.size)(hh:hint<n)
  (hA:∀j (h:j<arr.size),base<=j->j<base+n->C arr[j]/\κ arr[j]≠κ key)(hs:∀i j,i<j->j<n->kv κ arr (base+i)<kv κ arr (base+j))
  (h:∀k,k<=n->(∀i,i<k->kv κ arr (base+i)<κ key)->(∀i,k<=i->i<n->κ key<kv κ arr (base+i))->Q (some k) st):wpS (model prog w) A E s (a7X left key arr base n hint) Q st:=by
 have ask:∀i,i<n->∀{Q:Option Bool->SortSt->Prop},Q (some (decide (kv κ arr (base+i)<κ key))) st->wpS (model prog w) A E s (elem' arr (base+i) >>= λx=>if left=true then lt' x key else lt' key x >>= λr=>pure (GQ (λx=>!x) r)) Q st:=λi hi Q hQ =>
  have hj:base+i<arr.size:=by ext hn hi
  W7 hk hd hC hj (hA _ hj (by ext) (by ext hi)).1 (hA _ hj (by ext) (by ext hi)).2 hQ
 have ne:∀i,i<n->kv κ arr (base+i)≠κ key:=λi hi=>by
  have hj:base+i<arr.size:=by ext hn hi
  rw [gR hj]
  exact (hA _ hj (by ext) (by ext hi)).2
 have dn:∀i j,i<=j->j<n->kv κ arr (base+j)<κ key->kv κ arr (base+i)<κ key:=λi j h1 h2 h3=>by
  by_cases c:i=j
  .subst c;exact h3
  .have:=hs i j (by ext h1 c) h2;ext h3 this
 have up:∀i j,i<=j->j<n->κ key<kv κ arr (base+i)->κ key<kv κ arr (base+j):=λi j h1 h2 h3=>by
  by_cases c:i=j
  .subst c;exact h3
  .have:=hs i j (by ext h1 c) h2;ext h3 this
 unfold wpS
 wp_delta
 wp_delta
 wp_delta
 refine v3 (Q:=Q) (aM (ask hint hh ?_))
 dsimp only
 have tail:∀lo hi:Nat,lo<=hi->hi<=n->(∀i,i<lo->kv κ arr (base+i)<κ key)->(∀i,hi<=i->i<n->κ key<kv κ arr (base+i)) ->
   wpS (model prog w) A E s (forIn [0:n] ((none,lo,hi):Option (Option Nat)×Nat×Nat) (λx q=>if q.2.1≥q.2.2 then pure (Co (none,q.2.1,q.2.2)) else
    (elem' arr (base+(q.2.1+(q.2.2-q.2.1)/2)) >>= λx=>if left=true then lt' x key else lt' key x >>= λr=>pure (GQ (λx=>!x) r)) >>= λr=>match r with
     | some more=>if more=true then pure (o8 (none,q.2.1+(q.2.2-q.2.1)/2+1,q.2.2)) else pure (o8 (none,q.2.1,q.2.1+(q.2.2-q.2.1)/2))
     | x=>pure (Co (some none,q.2.1,q.2.2)))) (λq ag=>ag=st/\∃k,q.1=none/\q.2.2=k/\k<=n/\(∀i,i<k->kv κ arr (base+i)<κ key)/\∀i,k<=i->i<n->κ key<kv κ arr (base+i)) st:=λlo hi h1 h2 h3 h4=>by
  refine iG (λx q ag=>ag=st/\∃l r,q=(none,l,r)/\l<=r/\r<=n/\r-l<=n-x/\(∀i,i<l->kv κ arr (base+i)<κ key)/\∀i,r<=i->i<n->κ key<kv κ arr (base+i)) (λx q ag _ hx hI=>?_) (λq ag hI=>?_) ⟨rfl,lo,hi,rfl,h1,h2,by ext h2,h3,h4⟩
  .obtain ⟨rfl,l,r,rfl,j1,j2,j3,j4,j5⟩:=hI
   dsimp only
   by_cases c:l≥r
   .rw [if_pos c]
    obtain rfl:l=r:=by ext j1 c
    exact aT ⟨rfl,l,rfl,rfl,j2,j4,j5⟩
   .rw [if_neg c]
    refine aM (ask _ (by lia) ?_)
    dsimp only
    by_cases c2:kv κ arr (base+(l+(r-l)/2))<κ key
    .rw [if_pos (decide_eq_true c2)]
     exact aT ⟨rfl,_,_,rfl,by lia,‹_›,by ext j3,λi hi=>dn i _ (by ext hi) (by lia) c2,j5⟩
    .rw [if_neg (by simpa using c2)]
     have:=ne (l+(r-l)/2) (by lia)
     exact aT ⟨rfl,_,_,rfl,by ext,by lia,by lia,j4,λi hi h'=>up _ i hi h' (by ext c2 this)⟩
  .obtain ⟨rfl,l,r,rfl,j1,j2,j3,j4,j5⟩:=hI
   obtain rfl:l=r:=by ext j1 j3
   exact ⟨rfl,l,rfl,rfl,j2,j4,j5⟩
 by_cases c:kv κ arr (base+hint)<κ key
 .rw [if_pos (decide_eq_true c)]
  refine aM (jf (iG (λx q ag=>ag=st/\∃l o,q=(none,l,o)/\l<o/\x+1<=o/\hint+l<n/\kv κ arr (base+(hint+l))<κ key) (Q:=λq ag=>ag=st/\∃l o,q=(none,l,o)/\l<o/\hint+l<n/\kv κ arr (base+(hint+l))<κ key/\(o<n-hint->κ key<kv κ arr (base+(hint+o)))) (λx q ag _ hx hI=>?_) (λq ag hI=>?_) ⟨rfl,0,1,rfl,by decide,by decide,‹_›,c⟩) λq ag hI=>?_)
  .obtain ⟨rfl,l,o,rfl,j1,j2,j3,j4⟩:=hI
   dsimp only
   by_cases c1:o≥n-hint
   .rw [if_pos c1]
    exact aT ⟨rfl,l,o,rfl,j1,j3,j4,λz=>absurd z (by ext c1)⟩
   .rw [if_neg c1]
    refine aM (ask (hint+o) (by ext c1) ?_)
    dsimp only
    by_cases c2:kv κ arr (base+(hint+o))<κ key
    .rw [if_neg (by simpa using c2)]
     exact aT ⟨rfl,o,2*o+1,rfl,by ext,by ext j2,by ext c1,c2⟩
    .rw [if_pos (by simpa using c2)]
     have:=ne (hint+o) (by ext c1)
     exact aT ⟨rfl,l,o,rfl,j1,j3,j4,λ_=>by ext c2 this⟩
  .obtain ⟨rfl,l,o,rfl,j1,j2,j3,j4⟩:=hI
   exact ⟨rfl,l,o,rfl,j1,j3,j4,λz=>absurd z (by ext j2)⟩
  .obtain ⟨rfl,l,o,rfl,j1,j3,j4,j5⟩:=hI
   dsimp only
   refine aM (jf (tail (hint+l+1) (hint+min o (n-hint)) (by ext j1 j3) (by ext hh) (λi hi=>dn i _ (by ext hi) j3 j4) λi hi h'=>?_) λq ag hI=>?_)
   .by_cases c1:o<n-hint
    .exact up (hint+o) i (by ext hi c1) h' (j5 c1)
    .ext hi h' c1
   .obtain ⟨rfl,k,e1,rfl,k1,k2,k3⟩:=hI
    rw [e1]
    exact aT (h _ k1 k2 k3)
 .rw [if_neg (by simpa using c)]
  have c0:=ne hint hh
  refine aM (jf (iG (λx q ag=>ag=st/\∃l o,q=(none,l,o)/\l<o/\x+1<=o/\l<=hint/\κ key<kv κ arr (base+(hint-l))) (Q:=λq ag=>ag=st/\∃l o,q=(none,l,o)/\l<o/\l<=hint/\κ key<kv κ arr (base+(hint-l))/\(o<hint+1->kv κ arr (base+(hint-o))<κ key)) (λx q ag _ hx hI=>?_) (λq ag hI=>?_) ⟨rfl,0,1,rfl,by decide,by decide,by ext,by rw [GH];ext c c0⟩) λq ag hI=>?_)
  .obtain ⟨rfl,l,o,rfl,j1,j2,j3,j4⟩:=hI
   dsimp only
   by_cases c1:o≥hint+1
   .rw [if_pos c1]
    exact aT ⟨rfl,l,o,rfl,j1,j3,j4,λz=>absurd z (by ext c1)⟩
   .rw [if_neg c1]
    refine aM (ask (hint-o) (by ext hh) ?_)
    dsimp only
    by_cases c2:kv κ arr (base+(hint-o))<κ key
    .rw [if_pos (decide_eq_true c2)]
     exact aT ⟨rfl,l,o,rfl,j1,j3,j4,λ_=>c2⟩
    .rw [if_neg (by simpa using c2)]
     have:=ne (hint-o) (by ext hh)
     exact aT ⟨rfl,o,2*o+1,rfl,by ext,by ext j2,by ext c1,by ext c2 this⟩
  .obtain ⟨rfl,l,o,rfl,j1,j2,j3,j4⟩:=hI
   exact ⟨rfl,l,o,rfl,j1,j3,j4,λz=>absurd z (by ext hh j2)⟩
  .obtain ⟨rfl,l,o,rfl,j1,j3,j4,j5⟩:=hI
   dsimp only
   refine aM (jf (tail (hint+1-min o (hint+1)) (hint-l) (by ext j1) (by ext hh) (λi hi=>?_) λi hi h'=>up _ i hi h' j4) λq ag hI=>?_)
   .by_cases c1:o<hint+1
    .exact dn i (hint-o) (by ext hi) (by ext hh) (j5 c1)
    .ext hi c1
   .obtain ⟨rfl,k,e1,rfl,k1,k2,k3⟩:=hI
    rw [e1]
    exact aT (h _ k1 k2 k3)
end
section
variable {κ:Keyed->Int}
theorem IT{a:Array Keyed}{i k:Nat}(h:x∈(a.toList.drop i).take k):∃j,∃hj:j<a.size,i<=j/\j<i+k/\x=a[j]:=by
 obtain ⟨n,hn,e⟩:=mI.mp h
 simp only [iE,l8,et] at hn
 refine ⟨i+n,by ext hn:1,by ext:1,by ext hn:1,?_⟩
 rw [<-e]
 simp
theorem AL{a:Array Keyed}{i:Nat}(h:x∈a.toList.drop i):∃j,∃hj:j<a.size,i<=j/\x=a[j]:=by
 obtain ⟨n,hn,e⟩:=mI.mp h
 simp only [l8,et] at hn
 refine ⟨i+n,by ext hn:1,by ext:1,?_⟩
 rw [<-e]
 simp
theorem dZ(h:dG κ a.toList)(h1:i<j)(h2:j<a.size):kv κ a i<kv κ a j:=by
 rw [gR (by ext h1 h2:1),gR h2]
 have:=zQ.mp h i j (by simp;ext h1 h2:1) (by simpa using h2) h1
 simpa using this
theorem OQ(a:Array Keyed)(i k:Nat):(a.extract i (i+k)).toList=(a.toList.drop i).take k:=by
 rw [CI,CM,HG]
theorem DM(a:Array Keyed)(i:Nat):(a.extract i a.size).toList=a.toList.drop i:=by
 rw [CI,CM]
 exact z6 (by simp)
theorem Jl{a:Array Keyed}{i:Nat}(h:i<a.size):(a.toList.drop i).take 1=[a[i]]:=by
 rw [mK (by simpa using h)]
 simp
end
noncomputable abbrev sg(st:SortSt)(g:Nat):SortSt:=qr (kindOf st) (arrOf st) (pendingOf st) g (failedOf st)
section
variable {prog:Program}{w:World}{A:Around}{E:Value->Shared->Prop}{s:Shared}{kd:SortKind}{κ:Keyed->Int}{C:Keyed->Prop}
theorem CZ{st:SortSt}{Q:Unit->SortSt->Prop}(h:Q () (sg st g)):wpS (model prog w) A E s (setG' g) Q st:=by
 show wpS _ _ _ _ (modify _) _ _
 exact ou h
theorem vW{st:SortSt}{Q:Unit->SortSt->Prop}(h:Q () st):wpS (model prog w) A E s (liftM (rule t):StateT SortSt Sem Unit) Q st:=wpS_lift (o5 ⟨rfl,h⟩)
structure fJ(κ:Keyed->Int)(C:Keyed->Prop)(a b:Array Keyed):Prop where
 sa:dG κ a.toList
 sb:dG κ b.toList
 ca:∀x∈a.toList,C x
 cb:∀x∈b.toList,C x
 ne:∀x∈a.toList,∀y∈b.toList,κ x≠κ y
variable {a b:Array Keyed}
theorem fJ.BG(T:fJ κ C a b)(h:i<a.size):C a[i]:=T.ca _ (by simp)
theorem fJ.BF(T:fJ κ C a b)(h:i<b.size):C b[i]:=T.cb _ (by simp)
theorem fJ.vf(T:fJ κ C a b)(hi:i<a.size)(hj:j<b.size):κ a[i]≠κ b[j]:=T.ne _ (by simp) _ (by simp)
theorem yZ(hk:Ask prog w s kd κ C)(T:fJ κ C a b){st:SortSt}(hd:kindOf st=kd){Q:Option Nat->SortSt->Prop}(hi:i<a.size)(hj:j<b.size)
  (h:∀k,i+k<=a.size->(∀x∈(a.toList.drop i).take k,∀y∈b.toList.drop j,κ x<κ y)->(∀y∈a.toList.drop (i+k),κ b[j]<κ y)->Q (some k) st):wpS (model prog w) A E s (a7X l b[j] a i (a.size-i) 0) Q st:=by
 refine BR hk hd (T.BF hj) (by ext hi) (by ext hi) (λn hn _ _=>⟨T.BG hn,T.vf hn hj⟩) (λx y h1 h2=>dZ T.sa (by ext h1) (by ext h2)) λk k1 k2 k3=>h k (by ext hi k1) (λx hx y hy=>?_) λy hy=>?_
 .obtain ⟨n,hn,n1,n2,rfl⟩:=IT hx
  obtain ⟨m,hm,m1,rfl⟩:=AL hy
  have e:=k2 (n-i) (by ext n1 n2)
  rw [show i+(n-i)=n by ext n1,gR hn] at e
  by_cases c:j=m
  .subst c;exact e
  .have:=dZ T.sb (show j<m by ext m1 c) hm
   rw [gR hj,gR hm] at this
   ext hn hm hj e this
 .obtain ⟨n,hn,n1,rfl⟩:=AL hy
  have e:=k3 (n-i) (by ext n1) (by ext hn n1)
  rw [show i+(n-i)=n by ext n1,gR hn] at e
  exact e
theorem fJ.sym(T:fJ κ C a b):fJ κ C b a:=⟨T.sb,T.sa,T.cb,T.ca,λx hx y hy z=>T.ne y hy x hx z.symm⟩
theorem Inv.nS{out:Array Keyed}{ia ib:Nat}(h:Inv κ a.toList b.toList out.toList ia ib)(T:fJ κ C a b)(hi:ia<a.size)(hk:∀y∈b.toList.drop ib,κ a[ia]<κ y):Inv κ a.toList b.toList (out.push a[ia]).toList (ia+1) ib:=by
 rw [rF,<-Jl hi]
 refine h.a T.sa 1 λx hx y hy=>?_
 rw [Jl hi,cJ] at hx
 rw [hx]
 exact hk y hy
theorem Inv.nR{out:Array Keyed}{ia ib:Nat}(h:Inv κ a.toList b.toList out.toList ia ib)(T:fJ κ C a b)(hi:ib<b.size)(hk:∀y∈a.toList.drop ia,κ b[ib]<κ y):Inv κ a.toList b.toList (out.push b[ib]).toList ia (ib+1):=(h.sym.nS T.sym hi hk).sym
theorem Inv.xj(h:Inv κ a.toList b.toList out.toList ia ib)(T:fJ κ C a b)(k:Nat)(hk:∀x∈(a.toList.drop ia).take k,∀y∈b.toList.drop ib,κ x<κ y):Inv κ a.toList b.toList (out++a.extract ia (ia+k)).toList (ia+k) ib:=by
 rw [oC,OQ]
 exact h.a T.sa k hk
theorem Inv.Ey(h:Inv κ a.toList b.toList out.toList ia ib)(T:fJ κ C a b)(k:Nat)(hk:∀x∈(b.toList.drop ib).take k,∀y∈a.toList.drop ia,κ x<κ y):Inv κ a.toList b.toList (out++b.extract ib (ib+k)).toList ia (ib+k):=(h.sym.xj T.sym k hk).sym
theorem Dy(T:fJ κ C a b)(hi:i<a.size)(hj:j<b.size)(h:κ b[j]<κ a[i]):∀y∈a.toList.drop i,κ b[j]<κ y:=λy hy=>by
 obtain ⟨n,hn,n1,rfl⟩:=AL hy
 by_cases c:i=n
 .subst c;exact h
 .have:=dZ T.sa (show i<n by ext n1 c) hn
  rw [gR hi,gR hn] at this
  ext hj hn hi h this
def Mg(κ:Keyed->Int)(a b r:Array Keyed):Prop:=dG κ r.toList/\r.toList.Perm (a.toList++b.toList)
theorem Inv.gj(h:Inv κ a.toList b.toList out.toList ia ib)(T:fJ κ C a b)(hm:ia=a.size\/ib=b.size):Mg κ a b (out++a.extract ia a.size++b.extract ib b.size):=by
 unfold Mg
 rw [oC,oC,DM,DM]
 refine h.done T.sa T.sb λx hx y hy=>?_
 obtain ⟨n,hn,n1,rfl⟩:=AL hx
 obtain ⟨m,hm,m1,rfl⟩:=AL hy
 lia
theorem Inv.iP(h:Inv κ a.toList b.toList out.toList ia ib)(T:fJ κ C a b)(hm:∀x∈b.toList,∀y∈a.toList.drop (a.size-1),κ x<κ y)(hi:ia+1=a.size):Mg κ a b (out++b.extract ib b.size++a.extract ia a.size):=by
 unfold Mg
 rw [oC,oC,DM,DM]
 exact h.last T.sa T.sb λx hx y hy=>hm x (rM hx) y (by rw [<-hi];exact hy)
theorem Df{n:Nat}(h:2<=n)(h':¬n-1=1):2<=n-1:=by ext h h'
theorem Ya(h:¬m=1)(h':¬m=0):2<=m:=by ext h h'
theorem ym{β γ:Type}{M:Model}{c:γ->Prop}[∀v,Decidable (c v)]{x y:γ->StateT SortSt Sem β}{Q:β->SortSt->Prop}{st:SortSt}(u:γ->γ)(hx:∀v,x v=y (u v))(h:∀u,wpS M A E s (y u) Q st):∀v,wpS M A E s (if c v then x v else y v) Q st:=λv=>by
 rw [hx]
 split<;>exact h _
theorem C7{β γ δ:Type}{M:Model}{c:Prop}[Decidable c]{R:γ->δ->Prop}{x y:γ->δ->StateT SortSt Sem β}{Q:β->SortSt->Prop}{st:SortSt}(P:γ->δ->Prop)(hF:∀u v,P u v->wpS M A E s (y u v) Q st)
  (h1:∀u v,R u v->(∀u v,P u v->wpS M A E s (y u v) Q st)->c->wpS M A E s (x u v) Q st)(h2:∀u v,R u v->¬c->P u v):∀u v,R u v->wpS M A E s (if c then x u v else y u v) Q st:=λu v hR=>by
 by_cases hc:c
 .rw [if_pos hc];exact h1 u v hR hF hc
 .rw [if_neg hc];exact hF u v (h2 u v hR hc)
structure J(κ:Keyed->Int)(a b out:Array Keyed)(ia ib:Nat):Prop where
 inv:Inv κ a.toList b.toList out.toList ia ib
 la:ia+1<a.size
 lb:ib<b.size
theorem TU(hk:Ask prog w s kd κ C)(T:fJ κ C a b){st:SortSt}(hd:kindOf st=kd){Q:Array Keyed->SortSt->Prop}(ha:0<a.size)(hb:0<b.size)(h0:κ b[0]<κ a[0])(hm:∀x∈b.toList,∀y∈a.toList.drop (a.size-1),κ x<κ y)
  (h:∀r g,Mg κ a b r->Q r (sg st g)):wpS (model prog w) A E s (b1W a b) Q st:=by
 unfold wpS
 wp_delta
 wp_delta
 wp_delta
 refine v3 (Q:=Q) (aM (vW (aM (gz hb ?_))))
 dsimp only
 have i0:Inv κ a.toList b.toList (#[b[0]]:Array Keyed).toList 0 1:=(yp (κ:=κ) (la:=a.toList) (lb:=b.toList)).nR (out:=#[]) T hb (Dy T ha hb h0)
 by_cases c1:1=b.size
 .rw [if_pos (by simpa using c1)]
  exact aT (h _ (gallopOf st) (i0.gj T (.inr c1)))
 rw [if_neg (by simpa using c1)]
 by_cases c2:0+1=a.size
 .rw [if_pos (by simpa using c2)]
  exact aT (h _ (gallopOf st) (i0.iP T hm c2))
 rw [if_neg (by simpa using c2)]
 refine aM (kn ?_)
 refine aM (jf (iG (λx q ag=>(∃g,ag=sg st g)/\∃out ia ib mg,q=(none,out,ia,ib,mg)/\J κ a b out ia ib/\x+1<=ia+ib) (Q:=λq ag=>(∃g,ag=sg st g)/\∃r,q.1=some r/\Mg κ a b r) (λx q ag _ hx hI=>?_) (λq ag hI=>?_) ⟨⟨gallopOf st,rfl⟩,_,_,_,_,rfl,⟨i0,by ext ha c2,by ext hb c1⟩,by decide⟩) λq ag hI=>?_)
 .obtain ⟨⟨g,rfl⟩,out,ia,ib,mg,rfl,hJ,hp⟩:=hI
  dsimp only
  refine aM (jf (iG (λx q ag=>(∃g,ag=sg st g)/\∃fw jr kR ac bc,q=(none,fw,jr,kR,ac,bc)/\J κ a b fw jr kR/\ia+ib+x<=jr+kR) (Q:=λq ag=>(∃g,ag=sg st g)/\((∃r,q.1=some r/\Mg κ a b r)\/∃fw jr kR ac bc,q=(none,fw,jr,kR,ac,bc)/\J κ a b fw jr kR/\ia+ib+1<=jr+kR)) (λx q ag _ hx hI=>?_) (λq ag hI=>?_) ⟨⟨_,rfl⟩,_,_,_,_,_,rfl,hJ,by ext⟩) λq ag hI=>?_)
  .obtain ⟨⟨g,rfl⟩,out,ia,ib,ac,bc,rfl,hJ,hp⟩:=hI
   dsimp only
   refine aM (gz hJ.lb (aM (gz (uo hJ.la) (aM (yb hk hd (T.BF hJ.lb) (T.BG _) (gJ (T.vf _ hJ.lb)) ?_)))))
   dsimp only
   have la:=hJ.la
   have lb:=hJ.lb
   by_cases c:κ b[ib]<κ a[ia]
   .rw [if_pos (decide_eq_true c)]
    refine aM (gz hJ.lb ?_)
    have i2:=hJ.inv.nR T hJ.lb (Dy T (by ext la) lb c)
    by_cases d1:ib+1=b.size
    .rw [if_pos (by simpa using d1)]
     exact aT ⟨⟨_,rfl⟩,.inl ⟨_,rfl,i2.gj T (.inr d1)⟩⟩
    rw [if_neg (by simpa using d1)]
    by_cases d2:bc+1≥mg
    .rw [if_pos d2]
     exact aT ⟨⟨_,rfl⟩,.inr ⟨_,_,_,_,_,rfl,⟨i2,la,by ext lb d1⟩,by ext hp⟩⟩
    .rw [if_neg d2]
     exact aT ⟨⟨_,rfl⟩,_,_,_,_,_,rfl,⟨i2,la,by ext lb d1⟩,by ext hp⟩
   .rw [if_neg (by simpa using c)]
    refine aM (gz (uo hJ.la) ?_)
    have bo:=T.vf (uo hJ.la) hJ.lb
    have i2:=hJ.inv.nS T (uo hJ.la) (Dy T.sym lb (by ext la) (by ext la lb ha hb c bo))
    by_cases d1:ia+1+1=a.size
    .rw [if_pos (by simpa using d1)]
     exact aT ⟨⟨_,rfl⟩,.inl ⟨_,rfl,i2.iP T hm d1⟩⟩
    rw [if_neg (by simpa using d1)]
    by_cases d2:ac+1≥mg
    .rw [if_pos d2]
     exact aT ⟨⟨_,rfl⟩,.inr ⟨_,_,_,_,_,rfl,⟨i2,by ext la d1,lb⟩,by ext hp⟩⟩
    .rw [if_neg d2]
     exact aT ⟨⟨_,rfl⟩,_,_,_,_,_,rfl,⟨i2,by ext la d1,lb⟩,by ext hp⟩
  .obtain ⟨hg,out,ia,ib,ac,bc,rfl,hJ,hp⟩:=hI
   exact ⟨hg,.inr ⟨_,_,_,_,_,rfl,hJ,by ext hb hp⟩⟩
  .obtain ⟨⟨g,rfl⟩,⟨r,e,hr⟩ | ⟨fw,jr,kR,ac,bc,rfl,FZ,Fw⟩⟩:=hI
   .obtain ⟨q1,q2⟩:=q
    dsimp only at e
    rw [e]
    exact aT ⟨⟨_,rfl⟩,_,rfl,hr⟩
   dsimp only
   refine aM (vW ?_)
   refine aM (jf (iG (λx q ag=>(∃g,ag=sg st g)/\∃out ja jb mg ac bc,q=(none,out,ja,jb,mg,ac,bc)/\J κ a b out ja jb/\jr+kR<=ja+jb) (Q:=λq ag=>(∃g,ag=sg st g)/\((∃r,q.1=some r/\Mg κ a b r)\/∃out ja jb mg ac bc,q=(none,out,ja,jb,mg,ac,bc)/\J κ a b out ja jb/\jr+kR<=ja+jb)) (λx q ag _ hx hI=>?_) (λq ag hI=>?_) ⟨⟨_,rfl⟩,_,_,_,_,_,_,rfl,FZ,by ext⟩) λq ag hI=>?_)
   .obtain ⟨⟨g,rfl⟩,out,ja,jb,mg,ac,bc,rfl,hJ,hp⟩:=hI
    dsimp only
    have la:=hJ.la
    have lb:=hJ.lb
    revert mg
    refine ym (λmg=>mg-1) (λ_=>rfl) λmg=>?_
    refine aM (CZ (aM (gz lb (aM ?_))))
    refine yZ hk T ?_ (uo la) lb λk k1 k2 k3=>?_
    .exact hd
    dsimp only
    have hR:Inv κ a.toList b.toList out.toList ja jb/\(k=0->∀y∈a.toList.drop ja,κ b[jb]<κ y)/\(k=0->ja+1<a.size)/\jr+kR<=ja+jb/\ja+k<=a.size/\(∀x∈(a.toList.drop ja).take k,∀y∈b.toList.drop jb,κ x<κ y)/\∀y∈a.toList.drop (ja+k),κ b[jb]<κ y:=⟨hJ.inv,λz=>by rw [z] at k3;exact k3,λ_=>la,hp,k1,k2,k3⟩
    clear hJ la hp k1 k2 k3
    revert out ja
    refine C7 (λo j=>Inv κ a.toList b.toList o.toList j jb/\j+1<a.size/\(∀y∈a.toList.drop j,κ b[jb]<κ y)/\jr+kR<=j+jb) ?_ (λout ja hR hF d0=>?_) λout ja hR d0=>⟨hR.1,hR.2.2.1 (uh d0),hR.2.1 (uh d0),hR.2.2.2.1⟩
    .rintro o j ⟨i1,hj,k3,hp⟩
     have qb:=uo hj
     refine aM (gz lb ?_)
     have i2:=i1.nR T lb k3
     by_cases d3:jb+1=b.size
     .rw [if_pos (by simpa using d3)]
      exact aT ⟨⟨_,rfl⟩,.inl ⟨_,rfl,i2.gj T (.inr d3)⟩⟩
     rw [if_neg (by simpa using d3)]
     have l2:jb+1<b.size:=zE lb d3
     refine aM (gz qb (aM ?_))
     refine yZ hk T.sym ?_ l2 qb λm m1 m2 m3=>?_
     .exact hd
     dsimp only
     have hR:Inv κ a.toList b.toList (o.push b[jb]).toList j (jb+1)/\(m=0->∀y∈b.toList.drop (jb+1),κ a[j]<κ y)/\jb+1<b.size/\jr+kR<=j+(jb+1)/\jb+1+m<=b.size/\(∀x∈(b.toList.drop (jb+1)).take m,∀y∈a.toList.drop j,κ x<κ y)/\∀y∈b.toList.drop (jb+1+m),κ a[j]<κ y:=⟨i2,λz=>by rw [z] at m3;exact m3,l2,Nat.le_succ_of_le hp,m1,m2,m3⟩
     clear i2 l2 m1 m2 m3
     generalize o.push b[jb]=o2 at hR ⊢
     generalize jb+1=j2 at hR ⊢
     revert o2 j2
     refine C7 (λp q=>Inv κ a.toList b.toList p.toList j q/\q<b.size/\(∀y∈b.toList.drop q,κ a[j]<κ y)/\jr+kR<=j+q) ?_ (λo2 j2 hR hF d4=>?_) λout ja hR d0=>⟨hR.1,hR.2.2.1,hR.2.1 (uh d0),hR.2.2.2.1⟩
     .rintro p q ⟨i3,hq,m3,hp⟩
      refine aM (gz qb ?_)
      have i4:=i3.nS T qb m3
      by_cases d6:j+1+1=a.size
      .rw [if_pos (by simpa using d6)]
       exact aT ⟨⟨_,rfl⟩,.inl ⟨_,rfl,i4.iP T hm d6⟩⟩
      rw [if_neg (by simpa using d6)]
      have hJ:J κ a b (p.push a[j]) (j+1) q:=⟨i4,zE hj d6,hq⟩
      have vi:jr+kR<=j+1+q:=dE hp (Hd (qq j) q)
      by_cases d7:(decide (k<7)&&decide (m<7))=true
      .rw [if_pos d7]
       exact aT ⟨⟨_,rfl⟩,.inr ⟨_,_,_,_,_,_,rfl,hJ,vi⟩⟩
      .rw [if_neg d7]
       exact aT ⟨⟨_,rfl⟩,_,_,_,_,_,_,rfl,hJ,vi⟩
     .obtain ⟨i2,_,l2,hp,m1,m2,m3⟩:=hR
      have i3:=i2.Ey T m m2
      by_cases d5:j2+m=b.size
      .rw [if_pos (by simpa using d5)]
       exact aT ⟨⟨_,rfl⟩,.inl ⟨_,rfl,i3.gj T (.inr d5)⟩⟩
      rw [if_neg (by simpa using d5)]
      exact hF _ _ ⟨i3,zE m1 d5,m3,dE hp (Nat.add_le_add_left (um j2 m) j)⟩
    .obtain ⟨i0,_,la,hp,k1,k2,k3⟩:=hR
     have i1:=i0.xj T k k2
     by_cases d1:ja+k+1=a.size
     .rw [if_pos (by simpa using d1)]
      exact aT ⟨⟨_,rfl⟩,.inl ⟨_,rfl,i1.iP T hm d1⟩⟩
     rw [if_neg (by simpa using d1)]
     by_cases d2:ja+k=a.size
     .rw [if_pos (by simpa using d2)]
      exact aT ⟨⟨_,rfl⟩,.inl ⟨_,rfl,i1.gj T (.inl d2)⟩⟩
     rw [if_neg (by simpa using d2)]
     exact hF _ _ ⟨i1,zE (zE k1 d2) d1,k3,dE hp (Hd (um ja k) jb)⟩
   .obtain ⟨hg,out,ja,jb,mg,ac,bc,rfl,hJ,hp⟩:=hI
    exact ⟨hg,.inr ⟨_,_,_,_,_,_,rfl,hJ,‹_›⟩⟩
   .obtain ⟨⟨g,rfl⟩,⟨r,e,hr⟩ | ⟨out,ja,jb,mg,ac,bc,rfl,hJ,hp⟩⟩:=hI
    .obtain ⟨q1,q2⟩:=q
     dsimp only at e
     rw [e]
     exact aT ⟨⟨_,rfl⟩,_,rfl,hr⟩
    .dsimp only
     exact aM (CZ (aT ⟨⟨_,rfl⟩,_,_,_,_,rfl,hJ,by lia⟩))
 .obtain ⟨_,out,ia,ib,mg,rfl,hJ,hp⟩:=hI
  have la:=hJ.la
  have lb:=hJ.lb
  ext _ hb hp la lb
 .obtain ⟨⟨g,rfl⟩,r,e,hr⟩:=hI
  rw [e]
  exact aT (h _ _ hr)
end
section
variable {prog:Program}{w:World}{A:Around}{E:Value->Shared->Prop}{s:Shared}{kd:SortKind}{κ:Keyed->Int}{C:Keyed->Prop}{a b:Array Keyed}
noncomputable def ng(κ:Keyed->Int)(x:Keyed):Int:=-κ x
theorem c6:dG (ng κ) l.reverse↔dG κ l:=by
 unfold dG
 rw [List.pairwise_reverse]
 constructor<;>exact λh=>h.imp λz=>by unfold ng at *;ext z
theorem pq(l:List Keyed)(h:n<=l.length):l.reverse.drop (l.length-n)=(l.take n).reverse:=by
 rw [List.reverse_take]
theorem M1(l:List Keyed)(h:n<=l.length)(hk:k<=n):(l.reverse.drop (l.length-n)).take (n-k)=((l.take n).drop k).reverse:=by
 rw [pq l h,List.reverse_drop,iE,Ct h]
theorem DK(a:Array Keyed)(n:Nat):(a.extract 0 n).toList=a.toList.take n:=by
 rw [CI,CM]
 rfl
theorem Jd(a:Array Keyed)(i n:Nat):(a.extract i n).toList=(a.toList.take n).drop i:=by
 rw [CI,CM,G5]
structure H(κ:Keyed->Int)(a b out:Array Keyed)(na nb:Nat):Prop where
 inv:Inv (ng κ) a.toList.reverse b.toList.reverse out.toList (a.toList.length-na) (b.toList.length-nb)
 la:na<=a.toList.length
 lb:nb<=b.toList.length
variable {out:Array Keyed}{na nb:Nat}
theorem H.sym(h:H κ a b out na nb):H κ b a out nb na:=⟨h.inv.sym,h.lb,h.la⟩
theorem H.seg(h:H κ a b out na nb)(T:fJ κ C a b)(hk:k<=na)(hx:∀x∈(a.toList.take na).drop k,∀y∈b.toList.take nb,κ y<κ x):H κ a b (out++(a.extract k na).reverse) k nb:=by
 have la:=h.la
 refine ⟨?_,by ext hk la,h.lb⟩
 have i:=h.inv.a (c6.mpr T.sa) (na-k) λx js y hy=>?_
 .rw [M1 _ h.la hk,show a.toList.length-na+(na-k)=a.toList.length-k by ext hk la] at i
  rw [oC,CH,Jd]
  exact i
 .rw [M1 _ h.la hk] at js
  rw [pq _ h.lb] at hy
  have:=hx x (vG.mp js) y (vG.mp hy)
  unfold ng
  ext this
theorem H.push(h:H κ a b out na nb)(T:fJ κ C a b)(h0:0<na)(hn:na-1<a.size)(hx:∀y∈b.toList.take nb,κ y<κ a[na-1]):H κ a b (out.push a[na-1]) (na-1) nb:=by
 have la:=h.la
 rw [et] at la
 have e:(a.toList.take na).drop (na-1)=[a[na-1]]:=by
  rw [G5,show na-(na-1)=1 by ext h0,Jl hn]
 have:=h.seg T (k:=na-1) (by ext) λx js y hy=>by
  rw [e,cJ] at js
  rw [js]
  exact hx y hy
 have e2:out++(a.extract (na-1) na).reverse=out.push a[na-1]:=by
  apply GX.mp
  rw [oC,CH,Jd,e,rF]
  rfl
 rw [e2] at this
 exact this
theorem H.xW(h:H κ a b out na nb)(T:fJ κ C a b)(hm:na=0\/nb=0):Mg κ a b (a.extract 0 na++b.extract 0 nb++out.reverse):=by
 have q:=h.inv.last (c6.mpr T.sa) (c6.mpr T.sb) λx hx y hy=>by
  rw [pq _ h.lb,vG] at hx
  rw [pq _ h.la,vG] at hy
  rcases hm with rfl | rfl
  .rw [List.take_zero] at hy;cases hy
  .rw [List.take_zero] at hx;cases hx
 have e:(a.extract 0 na++b.extract 0 nb++out.reverse).toList=(out.toList++b.toList.reverse.drop (b.toList.length-nb)++a.toList.reverse.drop (a.toList.length-na)).reverse:=by
  rw [pq _ h.lb,pq _ h.la,oC,oC,CH,DK,DK]
  simp
 unfold Mg
 rw [e]
 refine ⟨?_,?_⟩
 .have:=q.1
  rw [<-Mr (as:=out.toList++_++_)] at this
  exact c6.mp this
 .refine (vJ _).trans (q.2.trans ?_)
  exact (vJ _).append (vJ _)
theorem H.BC(h:H κ a b out na nb)(T:fJ κ C a b)(hm:∀x∈b.toList.take nb,∀y∈a.toList,κ x<κ y):Mg κ a b (b.extract 0 nb++a.extract 0 na++out.reverse):=by
 have q:=h.inv.done (c6.mpr T.sa) (c6.mpr T.sb) λx hx y hy=>by
  rw [pq _ h.la,vG] at hx
  rw [pq _ h.lb,vG] at hy
  have:=hm y hy x (ug hx)
  unfold ng
  ext this
 have e:(b.extract 0 nb++a.extract 0 na++out.reverse).toList=(out.toList++a.toList.reverse.drop (a.toList.length-na)++b.toList.reverse.drop (b.toList.length-nb)).reverse:=by
  rw [pq _ h.lb,pq _ h.la,oC,oC,CH,DK,DK]
  simp
 unfold Mg
 rw [e]
 refine ⟨?_,?_⟩
 .have:=q.1
  rw [<-Mr (as:=out.toList++_++_)] at this
  exact c6.mp this
 .refine (vJ _).trans (q.2.trans ?_)
  exact (vJ _).append (vJ _)
theorem IF(h:x∈a.toList.take n):∃j,∃hj:j<a.size,j<n/\x=a[j]:=by
 obtain ⟨j,hj,_,j2,e⟩:=IT (i:=0) (k:=n) (by rw [Cm];exact h)
 exact ⟨j,hj,by ext j2,e⟩
theorem HP(T:fJ κ C a b)(hi:i<a.size)(hj:j<b.size)(h:κ b[j]<κ a[i]):∀y∈b.toList.take (j+1),κ y<κ a[i]:=λy hy=>by
 obtain ⟨m,hm,m1,rfl⟩:=IF hy
 by_cases c:m=j
 .subst c;exact h
 .have:=dZ T.sb (show m<j by ext m1 c) hj
  rw [gR hm,gR hj] at this
  ext hm hi hj h this
theorem yY(hk:Ask prog w s kd κ C)(T:fJ κ C a b){st:SortSt}(hd:kindOf st=kd){Q:Option Nat->SortSt->Prop}(hn:n<=a.size)(h0:0<n)(hj:j<b.size)
  (h:∀k,k<=n->(∀x∈(a.toList.take n).drop k,∀y∈b.toList.take (j+1),κ y<κ x)->(∀y∈a.toList.take k,κ y<κ b[j])->Q (some k) st):wpS (model prog w) A E s (a7X l b[j] a 0 n (n-1)) Q st:=by
 refine BR hk hd (T.BF hj) (by ext hn) (by ext h0) (λn hn _ _=>⟨T.BG hn,T.vf hn hj⟩) (λx y h1 h2=>dZ T.sa (by ext h1) (by ext hn h2)) λk k1 k2 k3=>h k ‹_› (λx hx=>?_) λy hy=>?_
 .rw [G5] at hx
  obtain ⟨m,hm,m1,m2,rfl⟩:=IT hx
  have e:=k3 m ‹_› (by ext k1 m2)
  rw [rp,gR hm] at e
  exact HP T hm hj e
 .obtain ⟨m,hm,m1,rfl⟩:=IF hy
  have e:=k2 m ‹_›
  rw [rp,gR hm] at e
  exact e
theorem TX(hk:Ask prog w s kd κ C)(T:fJ κ C a b){st:SortSt}(hd:kindOf st=kd){Q:Array Keyed->SortSt->Prop}(ha:0<a.size)(hb:0<b.size)(h0:κ b[0]<κ a[0])(hm:∀x∈b.toList,κ x<κ a[a.size-1])
  (h:∀r g,Mg κ a b r->Q r (sg st g)):wpS (model prog w) A E s (b1X a b) Q st:=by
 unfold wpS
 wp_delta
 wp_delta
 wp_delta
 refine v3 (Q:=Q) (aM (vW (aM (gz (show a.size-1<a.size by ext ha) ?_))))
 dsimp only
 have hz:H κ a b #[] a.size b.size:=⟨by rw [et,et,zB,zB];exact yp,by simp,by simp⟩
 have i0:H κ a b #[a[a.size-1]] (a.size-1) b.size:=hz.push T ha (by ext ha) λy hy=>hm y (ug hy)
 have hf:∀x∈b.toList.take 1,∀y∈a.toList,κ x<κ y:=λx hx y hy=>by
  obtain ⟨m,hm,m1,rfl⟩:=IF hx
  obtain rfl:m=0:=by ext m1
  exact Dy T ha hb h0 y (by rw [Cm];exact hy)
 by_cases c1:a.size-1=0
 .rw [if_pos (by simpa using c1)]
  exact aT (h _ (gallopOf st) (i0.xW T (.inl c1)))
 rw [if_neg (by simpa using c1)]
 by_cases c2:b.size=1
 .rw [if_pos (by simpa using c2)]
  exact aT (h _ (gallopOf st) (i0.BC T (by rw [c2];exact hf)))
 rw [if_neg (by simpa using c2)]
 refine aM (kn ?_)
 refine aM (jf (iG (λx q ag=>(∃g,ag=sg st g)/\∃na nb out mg,q=(none,na,nb,out,mg)/\H κ a b out na nb/\1<=na/\2<=nb/\na+nb+x+1<=a.size+b.size) (Q:=λq ag=>(∃g,ag=sg st g)/\∃r,q.1=some r/\Mg κ a b r) (λx q ag _ hx hI=>?_) (λq ag hI=>?_) ⟨⟨gallopOf st,rfl⟩,_,_,_,_,rfl,i0,by ext ha c1,by ext hb c2,by ext ha⟩) λq ag hI=>?_)
 .obtain ⟨⟨g,rfl⟩,na,nb,out,mg,rfl,hJ,ga,gb,hp⟩:=hI
  dsimp only
  refine aM (jf (iG (λx q ag=>(∃g,ag=sg st g)/\∃lW lV fw ac bc,q=(none,lW,lV,fw,ac,bc)/\H κ a b fw lW lV/\1<=lW/\2<=lV/\lW+lV+x<=na+nb) (Q:=λq ag=>(∃g,ag=sg st g)/\((∃r,q.1=some r/\Mg κ a b r)\/∃lW lV fw ac bc,q=(none,lW,lV,fw,ac,bc)/\H κ a b fw lW lV/\1<=lW/\2<=lV/\lW+lV+1<=na+nb)) (λx q ag _ hx hI=>?_) (λq ag hI=>?_) ⟨⟨_,rfl⟩,_,_,_,_,_,rfl,hJ,ga,gb,by ext⟩) λq ag hI=>?_)
  .obtain ⟨⟨g,rfl⟩,na,nb,out,ac,bc,rfl,hJ,ga,gb,hp⟩:=hI
   dsimp only
   have la:=hJ.la
   have lb:=hJ.lb
   rw [et] at la lb
   have xa:na-1<a.size:=by ext ga la
   have xb:nb-1<b.size:=by ext gb lb
   refine aM (gz xb (aM (gz xa (aM (yb hk hd (T.BF xb) (T.BG xa) (gJ (T.vf xa xb)) ?_)))))
   dsimp only
   by_cases c:κ b[nb-1]<κ a[na-1]
   .rw [if_pos (decide_eq_true c)]
    refine aM (gz xa ?_)
    have i2:=hJ.push T ‹_› xa (by have:=HP T xa xb c;rw [show nb-1+1=nb by ext gb] at this;exact this)
    by_cases d1:na-1=0
    .rw [if_pos (by simpa using d1)]
     exact aT ⟨⟨_,rfl⟩,.inl ⟨_,rfl,i2.xW T (.inl d1)⟩⟩
    rw [if_neg (by simpa using d1)]
    by_cases d2:ac+1≥mg
    .rw [if_pos d2]
     exact aT ⟨⟨_,rfl⟩,.inr ⟨_,_,_,_,_,rfl,i2,by ext d1,‹_›,by ext hp d1⟩⟩
    .rw [if_neg d2]
     exact aT ⟨⟨_,rfl⟩,_,_,_,_,_,rfl,i2,by ext d1,‹_›,by ext hp d1⟩
   .rw [if_neg (by simpa using c)]
    refine aM (gz xb ?_)
    have bo:=T.vf xa xb
    have i2:=(hJ.sym.push T.sym (by ext gb) xb (by have:=HP T.sym xb xa (by ext xa xb c bo);rw [show na-1+1=na by ext ga] at this;exact this)).sym
    by_cases d1:nb-1=1
    .rw [if_pos (by simpa using d1)]
     exact aT ⟨⟨_,rfl⟩,.inl ⟨_,rfl,i2.BC T (by rw [d1];exact hf)⟩⟩
    rw [if_neg (by simpa using d1)]
    by_cases d2:bc+1≥mg
    .rw [if_pos d2]
     exact aT ⟨⟨_,rfl⟩,.inr ⟨_,_,_,_,_,rfl,i2,‹_›,by ext gb d1,by ext gb hp⟩⟩
    .rw [if_neg d2]
     exact aT ⟨⟨_,rfl⟩,_,_,_,_,_,rfl,i2,‹_›,by ext gb d1,by ext gb hp⟩
  .obtain ⟨hg,na,nb,out,ac,bc,rfl,hJ,ga,gb,hp⟩:=hI
   exact ⟨hg,.inr ⟨_,_,_,_,_,rfl,hJ,ga,gb,by ext ha hb hp⟩⟩
  .obtain ⟨⟨g,rfl⟩,⟨r,e,hr⟩ | ⟨lW,lV,fw,ac,bc,rfl,FZ,Vt,Vs,Fw⟩⟩:=hI
   .obtain ⟨q1,q2⟩:=q
    dsimp only at e
    rw [e]
    exact aT ⟨⟨_,rfl⟩,_,rfl,hr⟩
   dsimp only
   refine aM (vW ?_)
   refine aM (jf (iG (λx q ag=>(∃g,ag=sg st g)/\∃ja jb out mg ac bc,q=(none,ja,jb,out,mg,ac,bc)/\H κ a b out ja jb/\1<=ja/\2<=jb/\ja+jb<=lW+lV) (Q:=λq ag=>(∃g,ag=sg st g)/\((∃r,q.1=some r/\Mg κ a b r)\/∃ja jb out mg ac bc,q=(none,ja,jb,out,mg,ac,bc)/\H κ a b out ja jb/\1<=ja/\2<=jb/\ja+jb<=lW+lV)) (λx q ag _ hx hI=>?_) (λq ag hI=>?_) ⟨⟨_,rfl⟩,_,_,_,_,_,_,rfl,FZ,Vt,Vs,by ext⟩) λq ag hI=>?_)
   .obtain ⟨⟨g,rfl⟩,ja,jb,out,mg,ac,bc,rfl,hJ,ga,gb,hp⟩:=hI
    dsimp only
    have la:=hJ.la
    have lb:=hJ.lb
    rw [et] at la lb
    have xb:jb-1<b.size:=by ext gb lb
    revert mg
    refine ym (λmg=>mg-1) (λ_=>rfl) λmg=>?_
    refine aM (CZ (aM (gz xb (aM ?_))))
    refine yY hk T ?_ la ga xb λk k1 k2 k3=>?_
    .exact hd
    dsimp only
    have jj:jb-1+1=jb:=Nat.sub_add_cancel (Ht gb)
    rw [jj] at k2
    have hR:H κ a b out ja jb/\(ja-k=0->1<=ja/\ja<=k)/\k<=ja/\(∀x∈(a.toList.take ja).drop k,∀y∈b.toList.take jb,κ y<κ x):=⟨hJ,λz=>⟨ga,Mu z⟩,k1,k2⟩
    have U7:k<=a.size:=dE k1 la
    have UR:k+jb<=lW+lV:=dE (Hd k1 jb) hp
    clear hJ k2 la ga hp k1
    generalize ja-k=cnt at hR ⊢
    revert out ja
    refine C7 (λn o=>H κ a b o n jb/\n=k/\1<=n) ?_ (λja out hR hF d0=>?_) λja out hR d0=>⟨hR.1,G8 (hR.2.1 (uh d0)).2 hR.2.2.1,(hR.2.1 (uh d0)).1⟩
    .rintro n o ⟨i1,rfl,hn⟩
     have xa:n-1<a.size:=jg (Nat.sub_lt hn Nat.one_pos) U7
     refine aM (gz xb ?_)
     have i2:=(i1.sym.push T.sym (Nat.lt_of_succ_le (Ht gb)) xb k3).sym
     by_cases d3:jb-1=1
     .rw [if_pos (by simpa using d3)]
      exact aT ⟨⟨_,rfl⟩,.inl ⟨_,rfl,i2.BC T (by rw [d3];exact hf)⟩⟩
     rw [if_neg (by simpa using d3)]
     have g2:2<=jb-1:=Df gb d3
     have g3:jb-1<=b.size:=rz xb
     refine aM (gz xa (aM ?_))
     refine yY hk T.sym ?_ g3 (uo g2) xa λm m1 m2 m3=>?_
     .exact hd
     dsimp only
     rw [Nat.sub_add_cancel hn] at m2
     have hR:H κ a b (o.push b[jb-1]) n (jb-1)/\(jb-1-m=0->2<=jb-1/\jb-1<=m)/\m<=jb-1/\(∀x∈(b.toList.take (jb-1)).drop m,∀y∈a.toList.take n,κ y<κ x):=⟨i2,λz=>⟨g2,Mu z⟩,m1,m2⟩
     have BJ:n-1+m<=lW+lV:=dE (Nat.add_le_add (Nat.sub_le n 1) (dE m1 (Nat.sub_le jb 1))) UR
     clear i2 g2 g3 m1 m2
     generalize jb-1-m=Gx at hR ⊢
     generalize o.push b[jb-1]=o2 at hR ⊢
     generalize jb-1=j2 at hR ⊢
     revert o2 j2
     refine C7 (λp q=>H κ a b p n q/\q=m/\2<=q) ?_ (λo2 j2 hR hF d4=>?_) λout ja hR d0=>⟨hR.1,G8 (hR.2.1 (uh d0)).2 hR.2.2.1,(hR.2.1 (uh d0)).1⟩
     .rintro p q ⟨i3,rfl,hq⟩
      refine aM (gz xa ?_)
      have i4:=i3.push T hn xa m3
      by_cases d6:n-1=0
      .rw [if_pos (by simpa using d6)]
       exact aT ⟨⟨_,rfl⟩,.inl ⟨_,rfl,i4.xW T (.inl d6)⟩⟩
      rw [if_neg (by simpa using d6)]
      have h6:1<=n-1:=Hl d6
      by_cases d7:(decide (cnt<7)&&decide (Gx<7))=true
      .rw [if_pos d7]
       exact aT ⟨⟨_,rfl⟩,.inr ⟨_,_,_,_,_,_,rfl,i4,h6,hq,BJ⟩⟩
      .rw [if_neg d7]
       exact aT ⟨⟨_,rfl⟩,_,_,_,_,_,_,rfl,i4,h6,hq,BJ⟩
     .obtain ⟨i2,_,m1,m2⟩:=hR
      have i3:=(i2.sym.seg T.sym m1 m2).sym
      by_cases d5:m=1
      .rw [if_pos (by simpa using d5)]
       exact aT ⟨⟨_,rfl⟩,.inl ⟨_,rfl,i3.BC T (by rw [d5];exact hf)⟩⟩
      rw [if_neg (by simpa using d5)]
      by_cases d8:m=0
      .rw [if_pos (by simpa using d8)]
       exact aT ⟨⟨_,rfl⟩,.inl ⟨_,rfl,i3.xW T (.inr d8)⟩⟩
      rw [if_neg (by simpa using d8)]
      exact hF _ _ ⟨i3,rfl,Ya d5 d8⟩
    .obtain ⟨hJ,_,k1,k2⟩:=hR
     have i1:=hJ.seg T k1 k2
     by_cases d1:k=0
     .rw [if_pos (by simpa using d1)]
      exact aT ⟨⟨_,rfl⟩,.inl ⟨_,rfl,i1.xW T (.inl d1)⟩⟩
     rw [if_neg (by simpa using d1)]
     exact hF _ _ ⟨i1,rfl,Hl d1⟩
   .obtain ⟨hg,ja,jb,out,mg,ac,bc,rfl,hJ,ga,gb,hp⟩:=hI
    exact ⟨hg,.inr ⟨_,_,_,_,_,_,rfl,hJ,ga,gb,‹_›⟩⟩
   .obtain ⟨⟨g,rfl⟩,⟨r,e,hr⟩ | ⟨ja,jb,out,mg,ac,bc,rfl,hJ,ga,gb,hp⟩⟩:=hI
    .obtain ⟨q1,q2⟩:=q
     dsimp only at e
     rw [e]
     exact aT ⟨⟨_,rfl⟩,_,rfl,hr⟩
    .dsimp only
     exact aM (CZ (aT ⟨⟨_,rfl⟩,_,_,_,_,rfl,hJ,ga,gb,by lia⟩))
 .obtain ⟨_,na,nb,out,mg,rfl,hJ,ga,gb,hp⟩:=hI
  ext _ hp
 .obtain ⟨⟨g,rfl⟩,r,e,hr⟩:=hI
  rw [e]
  exact aT (h _ _ hr)
end
section
variable {prog:Program}{w:World}{A:Around}{E:Value->Shared->Prop}{s:Shared}{kd:SortKind}{κ:Keyed->Int}{C:Keyed->Prop}
theorem Y1{σ:Type}{M:Model}{Q:PUnit->σ->Prop}{st ag:σ}(h:Q ⟨⟩ ag):wpS M A E s (set ag:StateT σ Sem PUnit) Q st:=by
 unfold wpS
 rw [StateT.run_set]
 exact aH ⟨rfl,h⟩
theorem N3(e:arr.toList=P++R++S)(h:i<R.length):kv κ arr (P.length+i)=κ R[i]:=by
 unfold kv
 have:arr[P.length+i]?=some R[i]:=by
  rw [<-pj,e,e9,qv (by ext),uz (by ext h)]
  simp [h]
 rw [this]
def sx(κ:Keyed->Int)(l:List Keyed):Prop:=(l.map κ).Nodup
theorem sx.ne{arr:Array Keyed}(h:sx κ arr.toList){i j:Nat}(hi:i<arr.size)(hj:j<arr.size)(eG:i≠j):κ arr[i]≠κ arr[j]:=λz=>by
 refine eG ((List.getElem_inj (h₀:=by simpa using hi) (h₁:=by simpa using hj) h).mp ?_)
 simpa using z
theorem sx.app(h:sx κ (l++m)):∀x∈l,∀y∈m,κ x≠κ y:=λx hx y hy z=>by
 unfold sx at h
 rw [e8,List.nodup_append] at h
 exact h.2.2 _ (e7.mpr ⟨x,hx,rfl⟩) _ (e7.mpr ⟨y,hy,rfl⟩) z
theorem Dw{R:List Keyed}(h:dG κ R){i j:Nat}(eG:i<j)(hj:j<R.length):κ (R[i]'(by ext eG hj))<κ R[j]:=zQ.mp h i j (by ext eG hj) hj eG
theorem TY(hk:Ask prog w s kd κ C){st:SortSt}(hd:kindOf st=kd)(hf:failedOf st=none){Q:Bool->SortSt->Prop}(e:(arrOf st).toList=P++R1++R2++S)(hC:∀x∈(arrOf st).toList,C x)(hD:sx κ (arrOf st).toList)
  (s1:dG κ R1)(s2:dG κ R2)(n1:R1≠[])(n2:R2≠[])(e1:(pendingOf st)[i]?=some (P.length,R1.length,pw))(e2:(pendingOf st)[i+1]?=some (P.length+R1.length,R2.length,p2))
  (h:∀ag R,kindOf ag=kd->failedOf ag=none->(arrOf ag).toList=P++R++S->dG κ R->R.Perm (R1++R2)->pendingOf ag=((pendingOf st).setIfInBounds i (P.length,R1.length+R2.length,pw)).eraseIdxIfInBounds (i+1)->Q true ag):wpS (model prog w) A E s (mergeAt' i) Q st:=by
 have l1:=pf.mpr n1
 have l2:=pf.mpr n2
 have hz:(arrOf st).size=P.length+R1.length+R2.length+S.length:=by rw [<-et,e];simp only [bQ]
 have eA:(arrOf st).toList=P++R1++(R2++S):=by rw [e,e9]
 have eB:(arrOf st).toList=(P++R1)++R2++S:=e
 have lB:(P++R1).length=P.length+R1.length:=bQ ..
 have kA:∀j (hj:j<R1.length),kv κ (arrOf st) (P.length+j)=κ R1[j]:=λj hj=>N3 eA hj
 have kB:∀j (hj:j<R2.length),kv κ (arrOf st) (P.length+R1.length+j)=κ R2[j]:=λj hj=>by rw [<-lB];exact N3 eB hj
 have b0:P.length+R1.length<(arrOf st).size:=by ext l2 hz:1
 have Ll:κ (arrOf st)[P.length+R1.length]=κ R2[0]:=by rw [<-gR (κ:=κ) b0,<-kB 0 l2];rfl
 have aL:P.length+R1.length-1<(arrOf st).size:=by ext b0:1
 have Lm:κ (arrOf st)[P.length+R1.length-1]=κ R1[R1.length-1]:=by rw [<-gR (κ:=κ) aL,<-kA _ (by ext l1:1)];congr 1;ext l1:1
 have BQ:∀j (hj:j<(arrOf st).size),C (arrOf st)[j]:=λj hj=>hC _ (by simp)
 have z1:P.length+R1.length<=(arrOf st).size:=by ext b0:1
 have z2:P.length+R1.length+R2.length<=(arrOf st).size:=by ext hz:1
 have plain:(∀x∈R1,∀y∈R2,κ x<κ y)->dG κ (R1++R2):=λz=>fI.mpr ⟨s1,s2,z⟩
 unfold wpS
 wp_delta
 wp_delta
 wp_delta
 refine v3 (Q:=Q) (aM (kn ?_))
 rw [e1,e2]
 dsimp only
 refine aM (Y1 (aM (gz b0 (aM ?_))))
 refine BR hk ?_ (BQ _ b0) z1 l1 (λj hj h1 h2=>⟨BQ j hj,hD.ne hj b0 (by ext h2:1)⟩) (λx y hx hy=>by rw [kA _ (by ext hx hy:1),kA _ hy];exact Dw s1 hx hy) λk k1 k2 k3=>?_
 .exact hd
 dsimp only
 have c2:∀x∈R1.take k,∀y∈R2,κ x<κ y:=λx hx y hy=>by
  obtain ⟨j,hj,rfl⟩:=mI.mp hx
  obtain ⟨m,hm,rfl⟩:=mI.mp hy
  rw [iE] at hj
  have:=k2 j (by ext hj:1)
  rw [kA j (by ext hj:1),Ll] at this
  rw [Cj]
  by_cases c:m=0
  .subst c;exact this
  .have:=Dw s2 (show 0<m by ext c:1) hm
   lia
 by_cases d1:R1.length-k=0
 .rw [if_pos (by simpa using d1)]
  refine aT (h _ (R1++R2) hd hf (by show (arrOf st).toList=_;rw [e];simp) (plain ?_) (qu _) rfl)
  rw [z6 (by ext d1:1)] at c2
  exact c2
 rw [if_neg (by simpa using d1)]
 have ek:P.length+k+(R1.length-k)-1=P.length+R1.length-1:=by ext k1:1
 rw [ek]
 refine aM (gz aL (aM ?_))
 refine BR hk ?_ (BQ _ aL) z2 (by ext l2:1) (λj hj h1 h2=>⟨BQ j hj,hD.ne hj aL (by ext l1 h1:1)⟩) (λx y hx hy=>by rw [kB _ (by ext hx hy:1),kB _ hy];exact Dw s2 hx hy) λm m1 m2 m3=>?_
 .exact hd
 dsimp only
 have c3:∀x∈R2.drop m,∀y∈R1,κ y<κ x:=λx hx y hy=>by
  obtain ⟨j,hj,rfl⟩:=mI.mp hx
  obtain ⟨n,hn,rfl⟩:=mI.mp hy
  rw [l8] at hj
  have:=m3 (m+j) (by ext:1) (by ext hj:1)
  rw [kB _ (by ext hj:1),Lm] at this
  rw [Hr]
  by_cases c:n=R1.length-1
  .subst c;exact this
  .have:=Dw s1 (show n<R1.length-1 by ext hn c:1) (by ext l1:1)
   lia
 by_cases d2:m=0
 .rw [if_pos (by simpa using d2)]
  refine aT (h _ (R1++R2) hd hf (by show (arrOf st).toList=_;rw [e];simp) (plain λx hx y hy=>c3 y (by rw [d2];exact hy) x hx) (qu _) rfl)
 rw [if_neg (by simpa using d2)]
 have eX:((arrOf st).extract (P.length+k) (P.length+R1.length)).toList=R1.drop k:=by
  rw [Jd,eA,MI (by simp),<-lB,List.take_length,List.drop_append,pk (by ext:1),Cr]
  congr 1
  ext:1
 have eY:((arrOf st).extract (P.length+R1.length) (P.length+R1.length+m)).toList=R2.take m:=by
  rw [OQ,eB,e9,<-lB,List.drop_append,List.drop_length,Cr,zB,Cm,MI m1]
 have zX:((arrOf st).extract (P.length+k) (P.length+R1.length)).size=R1.length-k:=by rw [<-et,eX,l8]
 have zY:((arrOf st).extract (P.length+R1.length) (P.length+R1.length+m)).size=m:=by rw [<-et,eY,iE];ext m1:1
 have F5:∀x∈R1,C x:=λx hx=>hC x (by rw [e];simp [hx])
 have Vo:∀x∈R2,C x:=λx hx=>hC x (by rw [e];simp [hx])
 have bo:∀x∈R1,∀y∈R2,κ x≠κ y:=λx hx y hy=>by
  rw [eA] at hD
  exact hD.app x (by simp [hx]) y (by simp [hy])
 have T:fJ κ C ((arrOf st).extract (P.length+k) (P.length+R1.length)) ((arrOf st).extract (P.length+R1.length) (P.length+R1.length+m)):=by
  refine ⟨?_,?_,?_,?_,?_⟩
  .rw [eX];exact wj s1 k
  .rw [eY];exact Jo s2 m
  .rw [eX];exact λx hx=>F5 x (rM hx)
  .rw [eY];exact λx hx=>Vo x (ug hx)
  .rw [eX,eY];exact λx hx y hy=>bo x (rM hx) y (ug hy)
 have gX:∀j (hj:j<((arrOf st).extract (P.length+k) (P.length+R1.length)).size),κ ((arrOf st).extract (P.length+k) (P.length+R1.length))[j]=κ (R1[k+j]'(by ext zX hj:1)):=λj hj=>by
  rw [<-Ab]
  simp only [eX,Hr]
 have gY:∀j (hj:j<((arrOf st).extract (P.length+R1.length) (P.length+R1.length+m)).size),κ ((arrOf st).extract (P.length+R1.length) (P.length+R1.length+m))[j]=κ (R2[j]'(by ext m1 zY hj:1)):=λj hj=>by
  rw [<-Ab]
  simp only [eY,Cj]
 have pX:0<((arrOf st).extract (P.length+k) (P.length+R1.length)).size:=by ext d1 zX:1
 have pY:0<((arrOf st).extract (P.length+R1.length) (P.length+R1.length+m)).size:=by ext d2 zY:1
 have h0:κ ((arrOf st).extract (P.length+R1.length) (P.length+R1.length+m))[0]<κ ((arrOf st).extract (P.length+k) (P.length+R1.length))[0]:=by
  rw [gX 0 pX,gY 0 pY]
  have:=k3 k (aV _) (by ext zX pX:1)
  rw [kA k (by ext zX pX:1),Ll] at this
  exact this
 have lZ:∀x∈((arrOf st).extract (P.length+R1.length) (P.length+R1.length+m)).toList,κ x<κ R1[R1.length-1]:=λx hx=>by
  rw [eY] at hx
  obtain ⟨j,hj,rfl⟩:=mI.mp hx
  rw [iE] at hj
  have:=m2 j (by ext m1 zY hj:1)
  rw [kB j (by ext m1 zY hj:1),Lm] at this
  rw [Cj]
  exact this
 have rest:∀(r:Array Keyed) (g:Nat),Mg κ ((arrOf st).extract (P.length+k) (P.length+R1.length)) ((arrOf st).extract (P.length+R1.length) (P.length+R1.length+m)) r->Q true (qr (kindOf st) (r.toList.zipIdx.foldl (λa x=>match x with | (p,j)=>a.setIfInBounds (P.length+k+j) p) (arrOf st)) (((pendingOf st).setIfInBounds i (P.length,R1.length+R2.length,pw)).eraseIdxIfInBounds (i+1)) g (failedOf st)):=λr g hM=>by
  unfold Mg at hM
  rw [eX,eY] at hM
  obtain ⟨q1,q2⟩:=XJ s1 s2 c2 c3 hM.1 hM.2
  refine h _ (R1.take k++r.toList++R2.drop m) hd hf ?_ q1 q2 rfl
  have hl:r.toList.length=(R1.drop k++R2.take m).length:=hM.2.length_eq
  have eP:(arrOf st).toList=(P++R1.take k)++(R1.drop k++R2.take m)++(R2.drop m++S):=by
   rw [e]
   have x1:R1=R1.take k++R1.drop k:=(mJ ..).symm
   have x2:R2=R2.take m++R2.drop m:=(mJ ..).symm
   generalize R1.take k=u at *
   generalize R1.drop k=u2 at *
   generalize R2.take m=v at *
   generalize R2.drop m=v2 at *
   rw [x1,x2]
   simp only [e9]
  have lP:(P++R1.take k).length=P.length+k:=by rw [bQ,iE];ext hz lB k1:1
  have:=a8O eP hl
  rw [lP] at this
  show (r.toList.zipIdx.foldl (λa x=>a.setIfInBounds (P.length+k+x.2) x.1) (arrOf st)).toList=_
  rw [this]
  simp only [e9]
 by_cases d3:R1.length-k<=m
 .rw [if_pos d3]
  refine aM ?_
  refine TU hk T ?_ pX pY h0 (λx hx y hy=>?_) λr g hM=>?_
  .exact hd
  .rw [eX,zX,List.drop_drop,show k+(R1.length-k-1)=R1.length-1 by ext l1 hz lB zX pX:1,mK (by ext l1 hz lB:1),show R1.length-1+1=R1.length by ext l1 hz lB:1,List.drop_length,cJ] at hy
   rw [hy]
   exact lZ x hx
  .refine aM (ou (aM (kn (aT ?_))))
   have:=rest r g hM
   show Q (failedOf st).isNone _
   rw [hf]
   exact this
 .rw [if_neg d3]
  refine aM ?_
  refine TX hk T ?_ pX pY h0 (λx hx=>?_) λr g hM=>?_
  .exact hd
  .rw [gX _ (by ext zX pX:1)]
   have:=lZ x hx
   simp only [zX,show k+(R1.length-k-1)=R1.length-1 by ext l1 hz lB zX pX:1]
   exact this
  .refine aM (ou (aM (kn (aT ?_))))
   have:=rest r g hM
   show Q (failedOf st).isNone _
   rw [hf]
   exact this
end
section
variable {prog:Program}{w:World}{A:Around}{E:Value->Shared->Prop}{s:Shared}{kd:SortKind}{κ:Keyed->Int}{C:Keyed->Prop}
structure Bs(κ:Keyed->Int)(C:Keyed->Prop)(kd:SortKind)(st:SortSt)(lo:Nat)(ag:SortSt):Prop where
 perm:(arrOf ag).Perm (arrOf st)
 ahead:∀k,k<lo->(arrOf ag)[k]?=(arrOf st)[k]?
 rest:ag=setArr st (arrOf ag)
theorem Bs.refl{st:SortSt}{lo:Nat}:Bs κ C kd st lo st:=⟨zN _,λ_ _=>rfl,rfl⟩
theorem Bs.put{st ag:SortSt}{lo:Nat}(h:Bs κ C kd st lo ag){xs:Array Keyed}(hp:xs.Perm (arrOf ag))(ha:∀k,k<lo->xs[k]?=(arrOf ag)[k]?):Bs κ C kd st lo (setArr ag xs):=
 ⟨hp.trans h.perm,λk hk=>(ha k hk).trans (h.ahead k hk),by rw [h.rest]⟩
structure Al(κ:Keyed->Int)(C:Keyed->Prop)(kd:SortKind)(st:SortSt):Prop where
 kind:kindOf st=kd
 all:∀x∈(arrOf st).toList,C x
 dst:sx κ (arrOf st).toList
theorem Al.of{st ag:SortSt}(h:Al κ C kd st)(hp:(arrOf ag).Perm (arrOf st))(hk:kindOf ag=kd):Al κ C kd ag:=
 have p:=zR.mp hp
 ⟨hk,λx hx=>h.all x (p.mem_iff.mp hx),(p.map κ).nodup_iff.mpr h.dst⟩
theorem Al.bs{st ag:SortSt}{lo:Nat}(h:Al κ C kd st)(b:Bs κ C kd st lo ag):Al κ C kd ag:=h.of b.perm (by rw [b.rest];exact h.kind)
theorem Al.ne{st:SortSt}(h:Al κ C kd st)(hi:i<(arrOf st).size)(hj:j<(arrOf st).size)(eG:i≠j):kv κ (arrOf st) i≠kv κ (arrOf st) j:=by
 rw [gR hi,gR hj]
 exact h.dst.ne hi hj eG
theorem Ap(hk:Ask prog w s kd κ C){st:SortSt}(hA:Al κ C kd st){Q:Option Bool->SortSt->Prop}(hi:i<(arrOf st).size)(hj:j<(arrOf st).size)(eG:i≠j)(h:Q (some (decide (kv κ (arrOf st) i<kv κ (arrOf st) j))) st):wpS (model prog w) A E s (ltAt' i j) Q st:=by
 rw [ltAt'_eq]
 refine aM (kn ?_)
 show wpS _ _ _ _ (do let p <-elem' (arrOf st) i;let q <-elem' (arrOf st) j;lt' p q) Q st
 refine aM (gz hi (aM (gz hj ?_)))
 rw [gR hi,gR hj] at h
 exact yb hk hA.kind (hA.all _ (by simp)) (hA.all _ (by simp)) (hA.dst.ne hi hj eG) h
def Up(κ:Keyed->Int)(xs:Array Keyed)(lo k:Nat):Prop:=∀i j,i<j->j<k->kv κ xs (lo+i)<kv κ xs (lo+j)
def Dn(κ:Keyed->Int)(xs:Array Keyed)(lo k:Nat):Prop:=∀i j,i<j->j<k->kv κ xs (lo+j)<kv κ xs (lo+i)
theorem Up.next{lo x:Nat}(h:Up κ xs lo x)(hx:1<=x)(hl:kv κ xs (lo+(x-1))<kv κ xs (lo+x)):Up κ xs lo (x+1):=λi j eG hj=>by
 by_cases c:j<x
 .exact h i j eG c
 .obtain rfl:j=x:=by ext hj c
  by_cases d:i=j-1
  .subst d;exact hl
  .have:=h i (j-1) (by ext eG d) (by ext hx);ext hl this
theorem Dn.next{lo x:Nat}(h:Dn κ xs lo x)(hx:1<=x)(hl:kv κ xs (lo+x)<kv κ xs (lo+(x-1))):Dn κ xs lo (x+1):=λi j eG hj=>by
 by_cases c:j<x
 .exact h i j eG c
 .obtain rfl:j=x:=by ext hj c
  by_cases d:i=j-1
  .subst d;exact hl
  .have:=h i (j-1) (by ext eG d) (by ext hx);ext hl this
theorem Ak(hk:Ask prog w s kd κ C){st:SortSt}(hA:Al κ C kd st){lo a cU:Nat}{Q:Option (Option Nat)×Nat->SortSt->Prop}(hn:lo+cU<=(arrOf st).size)(ha:1<=a)(LM:a<=cU)(hu:Up κ (arrOf st) lo a)
  (h:∀n,a<=n->n<=cU->Up κ (arrOf st) lo n->(n=cU\/n<cU/\kv κ (arrOf st) (lo+n)<kv κ (arrOf st) (lo+(n-1)))->Q (none,n) st):
  wpS (model prog w) A E s (forIn [a:cU] ((none,a):Option (Option Nat)×Nat) λ_ q=>ltAt' (lo+q.2) (lo+q.2-1) >>= λr=>match r with
   | some b=>if b=true then pure (Co (none,q.2)) else pure (o8 (none,q.2+1))
   | x=>pure (Co (some none,q.2))) Q st:=by
 refine iG (λx c ag=>ag=st/\c=(none,x)/\Up κ (arrOf st) lo x) (λx c ag h1 h2 hI=>?_) (λc ag hI=>?_) ⟨rfl,rfl,hu⟩
 .obtain ⟨rfl,rfl,yx⟩:=hI
  dsimp only
  rw [show lo+x-1=lo+(x-1) by ext ha h1]
  refine aM (Ap hk hA (by ext h2 hn) (by ext h2 hn) (by ext ha h1) ?_)
  dsimp only
  by_cases c:kv κ (arrOf ag) (lo+x)<kv κ (arrOf ag) (lo+(x-1))
  .rw [if_pos (decide_eq_true c)]
   exact aT (h x h1 (by ext h2) yx (.inr ⟨h2,c⟩))
  .rw [if_neg (by simpa using c)]
   have:=hA.ne (i:=lo+x) (j:=lo+(x-1)) (by ext h2 hn) (by ext h2 hn) (by ext ha h1)
   exact aT ⟨rfl,rfl,yx.next (by ext ha h1) (by ext c this)⟩
 .obtain ⟨rfl,rfl,yx⟩:=hI
  rw [show max a cU=cU by ext LM] at yx ⊢
  exact h cU LM (aV _) yx (.inl rfl)
theorem Nl{xs:Array Keyed}{lo n:Nat}(hn:lo+n<=xs.size)(k:Nat):kv κ (mirror xs lo (lo+n) ((lo+n-lo)/2)) (lo+k)=if k<n then kv κ xs (lo+(n-1-k)) else kv κ xs (lo+k):=by
 have e:=getElem?_mirror_all (i:=lo) hn (lo+k)
 by_cases h:k<n
 .rw [if_pos (by ext h),show lo+(lo+n)-1-(lo+k)=lo+(n-1-k) by ext h] at e
  rw [if_pos h];exact Ao e
 .rw [if_neg (by ext h)] at e
  rw [if_neg h];exact Ao e
theorem Gw(hk:Ask prog w s kd κ C){st:SortSt}(hA:Al κ C kd st){lo cU:Nat}{Q:Option Nat->SortSt->Prop}(hn:lo+cU<=(arrOf st).size)(h1:1<=cU)
  (h:∀m ag,Bs κ C kd st lo ag->1<=m->m<=cU->Up κ (arrOf ag) lo m->Q (some m) ag):wpS (model prog w) A E s (countRun' lo cU) Q st:=by
 unfold wpS
 wp_delta
 wp_delta
 wp_delta
 refine v3 (Q:=Q) (aM ?_)
 refine Ak hk hA hn (aV 1) h1 (λi j _ _=>by lia) λn n1 n2 hu Fy=>?_
 dsimp only
 by_cases c1:n=cU
 .rw [if_pos (by simpa using c1)]
  exact aT (h n st Bs.refl n1 n2 hu)
 rw [if_neg (by simpa using c1)]
 have bg:kv κ (arrOf st) (lo+n)<kv κ (arrOf st) (lo+(n-1)):=by ext Fy c1
 by_cases c2:n>1
 .rw [if_pos c2,show lo+n-1=lo+(n-1) by ext c2]
  refine aM (Ap hk hA (by ext hn h1) (by ext hn n2 c2) (by ext c2) ?_)
  dsimp only
  have h0:=hu 0 (n-1) (by ext c2) (by ext c2)
  rw [Nat.add_zero] at h0
  rw [if_pos (decide_eq_true h0)]
  exact aT (h n st Bs.refl n1 n2 hu)
 rw [if_neg c2]
 obtain rfl:n=1:=by ext n1 c2
 refine aM (vW ?_)
 refine aM (jf (iG (λx c ag=>ag=st/\c=(none,x,0)/\Dn κ (arrOf st) lo x) (Q:=λc ag=>ag=st/\∃x,c=(none,x,0)/\2<=x/\x<=cU/\Dn κ (arrOf st) lo x) (λx c ag g1 g2 hI=>?_) (λc ag hI=>?_) ⟨rfl,rfl,λi j eG hj=>?_⟩) λc ag hI=>?_)
 .obtain ⟨rfl,rfl,hs⟩:=hI
  dsimp only
  rw [show lo+x-1=lo+(x-1) by ext g1]
  have bo:=hA.ne (i:=lo+x) (j:=lo+(x-1)) (by ext g2 hn) (by ext g2 hn) (by ext g1)
  refine aM (Ap hk hA (by ext g2 hn) (by ext g2 hn) (by ext g1) ?_)
  dsimp only
  by_cases c:kv κ (arrOf ag) (lo+x)<kv κ (arrOf ag) (lo+(x-1))
  .rw [if_pos (decide_eq_true c),if_neg (by decide)]
   exact aT ⟨rfl,rfl,hs.next (by ext g1) c⟩
  .rw [if_neg (by simpa using c)]
   refine aM (Ap hk hA (by ext g2 hn) (by ext g2 hn) (by ext g1) ?_)
   dsimp only
   rw [if_pos (decide_eq_true (by ext bo c))]
   exact aT ⟨rfl,x,rfl,‹_›,by ext g2,hs⟩
 .obtain ⟨rfl,rfl,hs⟩:=hI
  rw [show max (1+1) cU=cU by ext c1 Fy] at hs ⊢
  exact ⟨rfl,cU,rfl,by ext c1 Fy,by ext,hs⟩
 .obtain ⟨rfl,rfl⟩:i=0/\j=1:=by ext eG hj
  exact bg
 .obtain ⟨rfl,x,rfl,x1,x2,hs⟩:=hI
  dsimp only
  rw [if_neg (by decide)]
  refine aM (wpS_reverse ?_)
  have hb:Bs κ C kd ag lo (setArr ag (mirror (arrOf ag) lo (lo+x) ((lo+x-lo)/2))):=Bs.refl.put (mirror_perm _ _ _ _) λk hk=>by
   have e:=getElem?_mirror_all (xs:=arrOf ag) (i:=lo) (j:=lo+x) (by ext hn x2) k
   rw [if_neg (by ext hk)] at e
   exact e
  refine aM ?_
  refine Ak hk (hA.bs hb) ?_ (by ext x1) x2 (λi j eG hj=>?_) λm m1 m2 hm _=>aT (h m _ hb (by ext x1 m1) m2 hm)
  .show lo+cU<=(mirror (arrOf ag) lo (lo+x) ((lo+x-lo)/2)).size
   rw [mirror_size]
   exact hn
  .show kv κ (mirror (arrOf ag) lo (lo+x) ((lo+x-lo)/2)) (lo+i)<kv κ (mirror (arrOf ag) lo (lo+x) ((lo+x-lo)/2)) (lo+j)
   rw [Nl (by ext hn x2),Nl (by ext hn x2),if_pos (by ext eG hj),if_pos hj]
   exact hs _ _ (by ext eG hj) (by ext hj)
theorem HJ(hk:Ask prog w s kd κ C){st:SortSt}(hA:Al κ C kd st){lo n ok:Nat}{Q:Bool->SortSt->Prop}(hn:lo+n<=(arrOf st).size)(bb:1<=ok)(UU:ok<=n)(hs:Up κ (arrOf st) lo ok)
  (h:∀ag,Bs κ C kd st lo ag->Up κ (arrOf ag) lo n->Q true ag):wpS (model prog w) A E s (binarySort' lo n ok) Q st:=by
 rw [binarySort'_eq]
 refine aM (jf (iG (λk c ag=>c=(none,())/\Bs κ C kd st lo ag/\Up κ (arrOf ag) lo k) (Q:=λc ag=>c=(none,())/\Bs κ C kd st lo ag/\Up κ (arrOf ag) lo n) (λk c ag g1 g2 hI=>?_) (λc ag hI=>?_) ⟨rfl,Bs.refl,?_⟩) λc ag hI=>?_)
 .obtain ⟨rfl,tR,kj⟩:=hI
  have LR:=hA.bs tR
  have hsz:(arrOf ag).size=(arrOf st).size:=tR.perm.size_eq
  refine aM (jf (iG (λx c dr=>dr=ag/\∃l r,c=(none,l,r)/\l<=r/\r<=k/\r-l<=k-x/\(∀i,i<l->kv κ (arrOf ag) (lo+i)<kv κ (arrOf ag) (lo+k))/\∀i,r<=i->i<k->kv κ (arrOf ag) (lo+k)<kv κ (arrOf ag) (lo+i))
   (Q:=λc dr=>dr=ag/\∃l r,c=(none,l,r)/\l<=k/\(∀i,i<l->kv κ (arrOf ag) (lo+i)<kv κ (arrOf ag) (lo+k))/\∀i,l<=i->i<k->kv κ (arrOf ag) (lo+k)<kv κ (arrOf ag) (lo+i)) (λx c dr f1 f2 hJ=>?_) (λc dr hJ=>?_) ⟨rfl,0,k,rfl,by ext,by ext,by ext,λi z=>by contradiction,λi z1 z2=>by ext z1 z2⟩) λc dr hJ=>?_)
  .obtain ⟨rfl,l,r,rfl,j1,j2,j3,j4,j5⟩:=hJ
   dsimp only
   by_cases oW:l≥r
   .rw [if_pos oW]
    obtain rfl:l=r:=by ext j1 oW
    exact aT ⟨rfl,l,l,rfl,j2,j4,j5⟩
   .rw [if_neg oW]
    refine aM (Ap hk LR (by ext hn g2 hsz) (by lia) (by lia) ?_)
    dsimp only
    have bo:=LR.ne (i:=lo+k) (j:=lo+(l+r)/2) (by ext hn g2 hsz) (by lia) (by lia)
    by_cases hl:kv κ (arrOf dr) (lo+k)<kv κ (arrOf dr) (lo+(l+r)/2)
    .rw [if_pos (decide_eq_true hl)]
     refine aT ⟨rfl,l,(l+r)/2,rfl,by lia,by lia,by lia,j4,λi z1 z2=>?_⟩
     by_cases hi:i=(l+r)/2
     .subst hi;exact hl
     .have:=kj ((l+r)/2) i (by ext z1 hi) z2;ext hl this
    .rw [if_neg (by simpa using hl)]
     refine aT ⟨rfl,(l+r)/2+1,r,rfl,by lia,‹_›,by lia,λi z1=>?_,j5⟩
     by_cases hi:i=(l+r)/2
     .subst hi;ext bo hl
     .have:=kj i ((l+r)/2) (by ext z1 hi) (by lia);ext hl this
  .obtain ⟨rfl,l,r,rfl,j1,j2,j3,j4,j5⟩:=hJ
   obtain rfl:l=r:=by ext j1 j3
   exact ⟨rfl,l,l,rfl,j2,j4,j5⟩
  .obtain ⟨rfl,l,r,rfl,j2,j4,j5⟩:=hJ
   show wpS _ _ _ _ (do moveDown' (lo+k) (lo+l);pure (o8 (none,()))) _ _
   rw [moveDown'_eq]
   have FF:lo+k<(arrOf dr).size:=by ext hn g2 hsz
   have BN:=getElem?_bubble FF (lo+k-(lo+l)) (by ext)
   refine aM (ou (aT ⟨rfl,tR.put (bubble_perm _ _ _) λq hq=>?_,λi j eG hj=>?_⟩))
   .have e:=BN q
    rw [if_neg (by ext hq),if_neg (by ext hq)] at e
    exact e
   have kb:∀m,kv κ (bubble (arrOf dr) (lo+k) (lo+k-(lo+l))) (lo+m)=if m=l then kv κ (arrOf dr) (lo+k) else if l<m/\m<=k then kv κ (arrOf dr) (lo+(m-1)) else kv κ (arrOf dr) (lo+m):=λm=>by
    have e:=BN (lo+m)
    by_cases c1:m=l
    .rw [if_pos (by ext j2 c1)] at e;rw [if_pos c1];exact Ao e
    .rw [if_neg (by ext j2 c1)] at e;rw [if_neg c1]
     by_cases c2:l<m/\m<=k
     .rw [if_pos (by ext c2),show lo+m-1=lo+(m-1) by ext c2] at e;rw [if_pos c2];exact Ao e
     .rw [if_neg (by ext c2)] at e;rw [if_neg c2];exact Ao e
   show kv κ (bubble (arrOf dr) (lo+k) (lo+k-(lo+l))) (lo+i)<kv κ (bubble (arrOf dr) (lo+k) (lo+k-(lo+l))) (lo+j)
   rw [kb,kb]
   repeat' split
   all_goals first
    | (exfalso;lia)
    | exact j4 _ (by lia)
    | exact j5 _ (by lia) (by ext eG hj)
    | exact kj _ _ (by lia) (by lia)
 .obtain ⟨hc,tR,kj⟩:=hI
  rw [show max (max ok 1) n=n by ext bb UU] at kj
  exact ⟨hc,tR,kj⟩
 .rw [show max ok 1=ok by ext bb];exact hs
 .obtain ⟨rfl,tR,kj⟩:=hI
  exact aT (h ag tR kj)
end
section
variable {prog:Program}{w:World}{A:Around}{E:Value->Shared->Prop}{s:Shared}{kd:SortKind}{κ:Keyed->Int}{C:Keyed->Prop}
structure St(κ:Keyed->Int)(C:Keyed->Prop)(kd:SortKind)(a₀:Array Keyed)(st:SortSt)(Rs:List (List Keyed)):Prop where
 perm:(arrOf st).Perm a₀
 kind:kindOf st=kd
 failed:failedOf st=none
 pre:(arrOf st).toList.take Rs.flatten.length=Rs.flatten
 le:Rs.flatten.length<=a₀.size
 qP:j0 0 Rs (pendingOf st).toList
 run:∀R∈Rs,R≠[]/\dG κ R
variable {a₀:Array Keyed}
structure Kn(κ:Keyed->Int)(C:Keyed->Prop)(a₀:Array Keyed):Prop where
 all:∀x∈a₀.toList,C x
 dst:sx κ a₀.toList
theorem St.al{st:SortSt}(h:St κ C kd a₀ st Rs)(k:Kn κ C a₀):Al κ C kd st:=
 have p:=zR.mp h.perm
 ⟨h.kind,λx hx=>k.all x (p.mem_iff.mp hx),(p.map κ).nodup_iff.mpr k.dst⟩
theorem St.cnt{st:SortSt}(h:St κ C kd a₀ st Rs):(pendingOf st).size=Rs.length:=by rw [<-et];exact h.qP.len
theorem C1(hk:Ask prog w s kd κ C)(k:Kn κ C a₀){st:SortSt}(h:St κ C kd a₀ st (Xs++R1::R2::Ys))(hi:i=Xs.length){Q:Bool->SortSt->Prop}
  (hQ:∀ag R,St κ C kd a₀ ag (Xs++R::Ys)->(Xs++R::Ys).flatten.length=(Xs++R1::R2::Ys).flatten.length->(arrOf ag).toList.drop (Xs++R1::R2::Ys).flatten.length=(arrOf st).toList.drop (Xs++R1::R2::Ys).flatten.length->Q true ag):wpS (model prog w) A E s (mergeAt' i) Q st:=by
 have hz:(arrOf st).size=a₀.size:=h.perm.size_eq
 have eF:(Xs++R1::R2::Ys).flatten=Xs.flatten++R1++R2++Ys.flatten:=by simp
 have al:=h.al k
 have r1:=h.run R1 (by simp)
 have r2:=h.run R2 (by simp)
 obtain ⟨q1,q2⟩:=h.qP.split
 rw [rp] at q2
 have UQ:=h.qP.len
 generalize hp:(pendingOf st).toList=ps at *
 obtain ⟨u,v,pv,e3⟩:∃u v pv,ps.drop Xs.length=u::v::pv:=by
  match hd:ps.drop Xs.length,q2 with
  | u::v::pv,_=>exact ⟨u,v,pv,rfl⟩
 rw [e3] at q2
 obtain ⟨u1,u2,v1,v2,q3⟩:=q2
 have Gm:ps=ps.take Xs.length++u::v::pv:=by rw [<-e3,mJ]
 have lt:(ps.take Xs.length).length=Xs.length:=by rw [iE,UQ,bQ];ext
 have g1:(pendingOf st)[i]?=some (Xs.flatten.length,R1.length,u.2.2):=by
  rw [<-pj,hp,Gm,qv (by ext hi lt),lt,hi,zB]
  show some u=_
  rw [<-u1,<-u2]
 have g2:(pendingOf st)[i+1]?=some (Xs.flatten.length+R1.length,R2.length,v.2.2):=by
  rw [<-pj,hp,Gm,qv (by ext hi lt),lt,hi,HG]
  show some v=_
  rw [<-v1,<-v2]
 have eA:(arrOf st).toList=Xs.flatten++R1++R2++(Ys.flatten++(arrOf st).toList.drop (Xs++R1::R2::Ys).flatten.length):=by
  have:=mJ (Xs++R1::R2::Ys).flatten.length (arrOf st).toList
  rw [h.pre] at this
  rw [<-e9,<-eF]
  exact this.symm
 refine TY hk h.kind h.failed eA al.all al.dst r1.2 r2.2 r1.1 r2.1 g1 g2 λag R a1 a2 a3 a4 a5 a6=>?_
 have lR:R.length=R1.length+R2.length:=by rw [a5.length_eq,bQ]
 have Gn:(Xs++R::Ys).flatten=Xs.flatten++R++Ys.flatten:=by simp
 have lF:(Xs++R::Ys).flatten.length=(Xs++R1::R2::Ys).flatten.length:=by rw [eF,Gn];simp only [bQ];ext lR
 refine hQ ag R ⟨?_,a1,a2,?_,by rw [lF];exact h.le,?_,λS hS=>?_⟩ lF ?_
 .refine Array.Perm.trans (zR.mpr ?_) h.perm
  generalize (arrOf st).toList.drop (Xs++R1::R2::Ys).flatten.length=D at *
  rw [a3,eA]
  refine List.Perm.append_right _ ?_
  rw [e9 Xs.flatten]
  exact a5.append_left _
 .rw [a3,Gn,<-e9,List.take_left]
 .have e6:(pendingOf ag).toList=ps.take Xs.length++(Xs.flatten.length,R1.length+R2.length,u.2.2)::pv:=by
   rw [a6,Array.toList_eraseIdxIfInBounds,Array.toList_setIfInBounds,hp,hi]
   conv=>lhs;rw [Gm]
   rw [List.set_append_right _ _ (by ext lt),lt,zB,List.set_cons_zero,List.eraseIdx_append_of_length_le (by ext lt),lt,HG]
   rfl
  rw [e6]
  refine q1.app ?_
  rw [rp]
  refine ⟨rfl,lR.symm,?_⟩
  rw [lR,<-GN]
  exact q3
 .rcases bK.mp hS with hS | hS
  .exact h.run S (fU _ hS)
  .rcases bx.mp hS with rfl | hS
   .refine ⟨λz=>?_,a4⟩
    rw [z] at lR
    have:=pf.mpr r1.1
    simp at lR
    ext lR this
   .exact h.run S (fF _ (by simp [hS]))
 .generalize (arrOf st).toList.drop (Xs++R1::R2::Ys).flatten.length=D at *
  rw [<-lF,a3,Gn,<-e9,List.drop_left]
theorem IE{Rs:List (List Keyed)}(h:2<=Rs.length):∃Xs R1 R2,Rs=Xs++R1::R2::[]/\Xs.length=Rs.length-2:=by
 refine ⟨Rs.take (Rs.length-2),Rs[Rs.length-2],Rs[Rs.length-1],?_,by rw [iE];ext:1⟩
 conv=>lhs;rw [<-mJ (Rs.length-2) Rs]
 congr 1
 rw [mK (by ext h:1),mK (by ext h:1),pk (by ext:1)]
 simp only [show Rs.length-2+1=Rs.length-1 by ext h:1]
theorem X5{Rs:List (List Keyed)}(h:3<=Rs.length):∃Xs R1 R2 R3,Rs=Xs++R1::R2::[R3]/\Xs.length=Rs.length-3:=by
 refine ⟨Rs.take (Rs.length-3),Rs[Rs.length-3],Rs[Rs.length-2],Rs[Rs.length-1],?_,by rw [iE];ext:1⟩
 conv=>lhs;rw [<-mJ (Rs.length-3) Rs]
 congr 1
 rw [mK (by ext h:1),mK (by ext h:1),mK (by ext h:1),pk (by ext:1)]
 simp only [show Rs.length-3+1=Rs.length-2 by ext h:1,show Rs.length-2+1=Rs.length-1 by ext h:1]
theorem Oj{xs:Array Keyed}{lo n:Nat}(h:Up κ xs lo n)(hn:lo+n<=xs.size):dG κ ((xs.toList.drop lo).take n):=by
 refine zQ.mpr λi j hi hj eG=>?_
 simp only [iE,l8,et] at hi hj
 have:=h i j eG (by ext hj:1)
 rw [gR (by ext hi:1),gR (by ext hj:1)] at this
 simpa using this
theorem a9e{xs ys:Array Keyed}{n:Nat}(h:∀k,k<n->xs[k]?=ys[k]?):xs.toList.take n=ys.toList.take n:=by
 refine Hu λk=>?_
 rw [L7,L7,pj,pj]
 split
 .exact h k ‹_›
 .rfl
theorem b2i{Rs:List (List Keyed)}(h:∀R∈Rs,R≠[]):Rs.length<=Rs.flatten.length:=by
 induction Rs with
 | nil=>exact aV _
 | cons R Rs ih =>
  have:=ih λS hS=>h S (by simp [hS])
  have:=pf.mpr (h R (by simp))
  rw [Ck,bQ,iD]
  lia
theorem St.push{st:SortSt}(h:St κ C kd a₀ st Rs){ag:SortSt}(e1:arrOf ag=arrOf st)(e2:kindOf ag=kindOf st)(e3:failedOf ag=failedOf st)(hq:j0 0 Rs q)(e4:(pendingOf ag).toList=q++[(Rs.flatten.length,n,0)])
  (hn:1<=n)(hl:Rs.flatten.length+n<=a₀.size)(hs:dG κ (((arrOf st).toList.drop Rs.flatten.length).take n)):St κ C kd a₀ ag (Rs++[((arrOf st).toList.drop Rs.flatten.length).take n]):=by
 have hz:(arrOf st).toList.length=a₀.size:=by rw [et];exact h.perm.size_eq
 have ln:(((arrOf st).toList.drop Rs.flatten.length).take n).length=n:=by rw [iE,l8];ext hl hz
 have eF:(Rs++[((arrOf st).toList.drop Rs.flatten.length).take n]).flatten=Rs.flatten++((arrOf st).toList.drop Rs.flatten.length).take n:=by simp
 have lF:(Rs++[((arrOf st).toList.drop Rs.flatten.length).take n]).flatten.length=Rs.flatten.length+n:=by rw [eF,bQ,ln]
 refine ⟨by rw [e1];exact h.perm,by rw [e2];exact h.kind,by rw [e3];exact h.failed,?_,by rw [lF];exact hl,?_,λR hR=>?_⟩
 .rw [lF,e1,List.take_add,h.pre,eF]
 .rw [e4]
  refine hq.app ⟨?_,ln.symm,trivial⟩
  exact (rp _).symm
 .rcases bK.mp hR with hR | hR
  .exact h.run R hR
  .rw [cJ.mp hR]
   refine ⟨λz=>?_,hs⟩
   rw [z] at ln
   simp at ln
   ext hn ln
theorem j0.mod{α:Type}(f:Nat×Nat×Nat->Nat×Nat×Nat)(hf:∀x,(f x).1=x.1/\(f x).2.1=x.2.1):∀{o:Nat} {Rs:List (List α)} {ps:List (Nat×Nat×Nat)} (i:Nat),j0 o Rs ps->j0 o Rs (ps.modify i f)
 | _,[],[],i,_=>by cases i<;>exact trivial
 | o,R::Rs,p::ps,0,h=>⟨by rw [(hf p).1];exact h.1,by rw [(hf p).2];exact h.2.1,h.2.2⟩
 | o,R::Rs,p::ps,i+1,h=>⟨h.1,h.2.1,h.2.2.mod f hf i⟩
theorem St.weigh{st:SortSt}(h:St κ C kd a₀ st Rs){ag:SortSt}(hb:Bs κ C kd st Rs.flatten.length ag):St κ C kd a₀ ag Rs:=
 ⟨hb.perm.trans h.perm,by rw [hb.rest];exact h.kind,by rw [hb.rest];exact h.failed,by rw [a9e hb.ahead];exact h.pre,h.le,by rw [hb.rest];exact h.qP,h.run⟩
theorem qN(hk:Ask prog w s kd κ C)(k:Kn κ C a₀){st:SortSt}{Q:Unit->SortSt->Prop}(h:St κ C kd a₀ st [])(h2:2<=a₀.size)
  (hQ:∀ag,(arrOf ag).Perm a₀->failedOf ag=none->dG κ (arrOf ag).toList->Q () ag):wpS (model prog w) A E s sortRuns' Q st:=by
 unfold wpS
 wp_delta
 wp_delta
 wp_delta
 refine v3 (Q:=Q) (aM (kn ?_))
 dsimp only
 have hz:(arrOf st).size=a₀.size:=h.perm.size_eq
 simp only [hz]
 refine aM (jf (iG (λx c ag=>∃Rs:List (List Keyed),c=(none,Rs.flatten.length)/\St κ C kd a₀ ag Rs/\x<=Rs.flatten.length) (Q:=λc ag=>∃Rs:List (List Keyed),c=(none,Rs.flatten.length)/\St κ C kd a₀ ag Rs/\Rs.flatten.length=a₀.size) (λx c ag _ hx hI=>?_) (λc ag hI=>?_) ⟨[],rfl,h,aV _⟩) λc ag hI=>?_)
 .obtain ⟨Rs,rfl,hS,hp⟩:=hI
  dsimp only
  have hle:=hS.le
  by_cases c1:Rs.flatten.length≥a₀.size
  .rw [if_pos c1]
   exact aT ⟨Rs,rfl,hS,by ext hle c1⟩
  rw [if_neg c1]
  have Ff:(arrOf ag).size=a₀.size:=hS.perm.size_eq
  refine aM ?_
  refine Gw hk (hS.al k) (by ext c1 Ff) (by ext c1) λm dr hb m1 m2 hu=>?_
  dsimp only
  have S2:=hS.weigh hb
  have vh:(arrOf dr).size=a₀.size:=S2.perm.size_eq
  generalize (sortPriv% PySem.Builtin.minRun) a₀.size a₀.size 0 = mr
  by_cases c2:m<mr
  .rw [if_pos c2]
   refine aM (vW (aM ?_))
   generalize hF:min (a₀.size-Rs.flatten.length) mr=n
   refine HJ hk (S2.al k) (by ext c1 vh hF) m1 (by ext m2 c2 hF) hu λg9 Vg Fm=>?_
   rw [if_neg (by decide)]
   have S3:=S2.weigh Vg
   have n1:1<=n:=by ext m1 m2 c2 hF
   have n2:Rs.flatten.length+n<=a₀.size:=by ext c1 hF
   have Fe:(arrOf g9).size=a₀.size:=S3.perm.size_eq
   have tm:=Oj Fm (by ext n2 Fe)
   have l3:(((arrOf g9).toList.drop Rs.flatten.length).take n).length=n:=by rw [iE,l8,et];ext n2 Fe
   refine aM (kn ?_)
   cases Vf:(pendingOf g9).back? with
   | none =>
    dsimp only
    refine aM (ou (aT ⟨Rs++[((arrOf g9).toList.drop Rs.flatten.length).take n],?_,S3.push rfl rfl rfl S3.qP (rF ..) n1 n2 tm,?_⟩))
    .rw [rJ,bQ,rN,l3]
    .rw [rJ,bQ,rN,l3]
     ext hp n1
   | some p =>
    obtain ⟨s1,sR,p3⟩:=p
    dsimp only
    refine aM (jf (iG (λx c ag=>c=(none,())/\∃Ts:List (List Keyed),St κ C kd a₀ ag Ts/\Ts.flatten.length=Rs.flatten.length/\(arrOf ag).toList.drop Rs.flatten.length=(arrOf g9).toList.drop Rs.flatten.length) (Q:=λc ag=>c=(none,())/\∃Ts:List (List Keyed),St κ C kd a₀ ag Ts/\Ts.flatten.length=Rs.flatten.length/\(arrOf ag).toList.drop Rs.flatten.length=(arrOf g9).toList.drop Rs.flatten.length) (λx c ag _ hx hI=>?_) (λc ag hI=>hI) ⟨rfl,Rs,S3,rfl,rfl⟩) λc ag hI=>?_)
    .obtain ⟨rfl,Ts,hT,hl,ha⟩:=hI
     refine aM (kn ?_)
     have hc:=hT.cnt
     simp only [hc]
     by_cases c3:Ts.length>1
     .rw [if_pos c3]
      cases hg:(pendingOf ag)[Ts.length-2]? with
      | none=>exact aT ⟨rfl,Ts,hT,hl,ha⟩
      | some p =>
       obtain ⟨p1,p2,p3⟩:=p
       dsimp only
       split
       .exact aT ⟨rfl,Ts,hT,hl,ha⟩
       .obtain ⟨Xs,R1,R2,rfl,hX⟩:=IE (Rs:=Ts) ‹_›
        refine aM ?_
        refine C1 hk k hT hX.symm λu6 R tO tE qd=>?_
        rw [if_neg (by decide)]
        exact aT ⟨rfl,_,tO,tE.trans hl,by rw [hl] at qd;exact qd.trans ha⟩
     .rw [if_neg c3]
      exact aT ⟨rfl,Ts,hT,hl,ha⟩
    .obtain ⟨rfl,Ts,hT,hl,ha⟩:=hI
     dsimp only
     refine aM (ou (aM (ou (aT ⟨Ts++[((arrOf ag).toList.drop Ts.flatten.length).take n],?_,hT.push rfl rfl rfl (hT.qP.mod (λx=>(x.1,x.2.1,power' a₀.size (2*s1+sR) (2*s1+sR+sR+n) a₀.size)) (λ_=>⟨rfl,rfl⟩) ((pendingOf ag).size-1)) (by rw [hl];exact (rF ..).trans (by rw [Mo];rfl)) n1 (by ext n2 hl) (by rw [hl,ha];exact tm),?_⟩))))
     .rw [rJ,bQ,rN,hl,ha,l3]
     .rw [rJ,bQ,rN,hl,ha,l3]
      ext hp n1
  .rw [if_neg c2]
   obtain ⟨n,rfl⟩:∃n,n=m:=⟨_,rfl⟩
   obtain ⟨g9,rfl⟩:∃g9,g9=dr:=⟨_,rfl⟩
   have S3:=S2
   have Fm:=hu
   have n1:1<=n:=by assumption
   have n2:Rs.flatten.length+n<=a₀.size:=by ext c1 m2
   have Fe:(arrOf g9).size=a₀.size:=S3.perm.size_eq
   have tm:=Oj Fm (by ext vh n2)
   have l3:(((arrOf g9).toList.drop Rs.flatten.length).take n).length=n:=by rw [iE,l8,et];ext vh n2
   refine aM (kn ?_)
   cases Vf:(pendingOf g9).back? with
   | none =>
    dsimp only
    refine aM (ou (aT ⟨Rs++[((arrOf g9).toList.drop Rs.flatten.length).take n],?_,S3.push rfl rfl rfl S3.qP (rF ..) n1 n2 tm,?_⟩))
    .rw [rJ,bQ,rN,l3]
    .rw [rJ,bQ,rN,l3]
     ext hp m1
   | some p =>
    obtain ⟨s1,sR,p3⟩:=p
    dsimp only
    refine aM (jf (iG (λx c ag=>c=(none,())/\∃Ts:List (List Keyed),St κ C kd a₀ ag Ts/\Ts.flatten.length=Rs.flatten.length/\(arrOf ag).toList.drop Rs.flatten.length=(arrOf g9).toList.drop Rs.flatten.length) (Q:=λc ag=>c=(none,())/\∃Ts:List (List Keyed),St κ C kd a₀ ag Ts/\Ts.flatten.length=Rs.flatten.length/\(arrOf ag).toList.drop Rs.flatten.length=(arrOf g9).toList.drop Rs.flatten.length) (λx c ag _ hx hI=>?_) (λc ag hI=>hI) ⟨rfl,Rs,S3,rfl,rfl⟩) λc ag hI=>?_)
    .obtain ⟨rfl,Ts,hT,hl,ha⟩:=hI
     refine aM (kn ?_)
     have hc:=hT.cnt
     simp only [hc]
     by_cases c3:Ts.length>1
     .rw [if_pos c3]
      cases hg:(pendingOf ag)[Ts.length-2]? with
      | none=>exact aT ⟨rfl,Ts,hT,hl,ha⟩
      | some p =>
       obtain ⟨p1,p2,p3⟩:=p
       dsimp only
       split
       .exact aT ⟨rfl,Ts,hT,hl,ha⟩
       .obtain ⟨Xs,R1,R2,rfl,hX⟩:=IE (Rs:=Ts) ‹_›
        refine aM ?_
        refine C1 hk k hT hX.symm λu6 R tO tE qd=>?_
        rw [if_neg (by decide)]
        exact aT ⟨rfl,_,tO,tE.trans hl,by rw [hl] at qd;exact qd.trans ha⟩
     .rw [if_neg c3]
      exact aT ⟨rfl,Ts,hT,hl,ha⟩
    .obtain ⟨rfl,Ts,hT,hl,ha⟩:=hI
     dsimp only
     refine aM (ou (aM (ou (aT ⟨Ts++[((arrOf ag).toList.drop Ts.flatten.length).take n],?_,hT.push rfl rfl rfl (hT.qP.mod (λx=>(x.1,x.2.1,power' a₀.size (2*s1+sR) (2*s1+sR+sR+n) a₀.size)) (λ_=>⟨rfl,rfl⟩) ((pendingOf ag).size-1)) (by rw [hl];exact (rF ..).trans (by rw [Mo];rfl)) n1 (by ext n2 hl) (by rw [hl,ha];exact tm),?_⟩))))
     .rw [rJ,bQ,rN,hl,ha,l3]
     .rw [rJ,bQ,rN,hl,ha,l3]
      ext hp m1
 .obtain ⟨Rs,rfl,hS,hp⟩:=hI
  have hle:=hS.le
  exact ⟨Rs,rfl,hS,by ext hp hle⟩
 .obtain ⟨Rs,rfl,hS,hp⟩:=hI
  dsimp only
  have hr:Rs.length<=a₀.size:=by rw [<-hp];exact b2i λR hR=>(hS.run R hR).1
  refine aM (jf (iG (λx c ag=>c=(none,())/\∃Rs:List (List Keyed),St κ C kd a₀ ag Rs/\Rs.flatten.length=a₀.size/\Rs.length<=max 1 (a₀.size-x)) (Q:=λc ag=>c=(none,())/\∃Rs:List (List Keyed),St κ C kd a₀ ag Rs/\Rs.flatten.length=a₀.size/\Rs.length<=1) (λx c ag _ hx hI=>?_) (λc ag hI=>?_) ⟨rfl,Rs,hS,hp,by ext hr⟩) λc ag hI=>?_)
  .obtain ⟨rfl,Rs,hS,hp,hl⟩:=hI
   refine aM (kn ?_)
   have hc:=hS.cnt
   simp only [hc]
   by_cases c1:Rs.length<=1
   .rw [if_pos c1]
    exact aT ⟨rfl,Rs,hS,hp,c1⟩
   rw [if_neg c1]
   refine aM ?_
   have key:∀j,(j=Rs.length-2\/(3<=Rs.length/\j=Rs.length-3))->∀{Q:Bool->SortSt->Prop},(∀ag Ts,St κ C kd a₀ ag Ts->Ts.flatten.length=Rs.flatten.length->Ts.length+1=Rs.length->Q true ag)->wpS (model prog w) A E s (mergeAt' j) Q ag:=λj hj Q hq=>by
    rcases hj with rfl | ⟨h3,rfl⟩
    .obtain ⟨Xs,R1,R2,rfl,hX⟩:=IE (Rs:=Rs) (by ext c1)
     exact C1 hk k hS hX.symm λu6 R tO tE _=>hq u6 _ tO tE (by simp)
    .obtain ⟨Xs,R1,R2,R3,rfl,hX⟩:=X5 (Rs:=Rs) ‹_›
     exact C1 hk k hS hX.symm λu6 R tO tE _=>hq u6 _ tO tE (by simp)
   refine key _ ?_ λu6 Ts hT h1 h2=>?_
   .by_cases c2:Rs.length-2>0
    .rw [if_pos c2]
     split
     .exact .inr ⟨by ext c2,by ext⟩
     .exact .inl rfl
    .rw [if_neg c2]
     exact .inl rfl
   .rw [if_neg (by decide)]
    exact aT ⟨rfl,Ts,hT,by ext hp h1,by ext hl h2⟩
  .obtain ⟨rfl,Rs,hS,hp,hl⟩:=hI
   exact ⟨rfl,Rs,hS,hp,by ext hl⟩
  .obtain ⟨rfl,Rs,hS,hp,hl⟩:=hI
   refine aT (hQ _ hS.perm hS.failed ?_)
   have e:(arrOf ag).toList=Rs.flatten:=by
    have:=hS.pre
    rw [z6 (by rw [et,hS.perm.size_eq];ext hp)] at this
    exact this
   rw [e]
   match Rs,hl,hS.run,hp with
   | [],_,_,hp=>exact ur
   | [R],_,hr,_ =>
    rw [Ck,List.flatten_nil,mM]
    exact (hr R (by simp)).2
end
end SO
noncomputable def lE:Nat:=1600000
namespace TS
open PySem PyProof.Rows
noncomputable abbrev kTup:Bool → SortKind:=sortPriv% PySem.Builtin.KeyKind.tuples
theorem YN(x y:Value):keyLt' (kTup true) x y=(do
  let us <-CA x
  let vs <-CA y
  for ((p,q),i) in (us.toList.zip vs.toList).zipIdx do
   if !(<-eqBool p q) then return <-oneLt' (true&&i==0) p q
  return decide (us.size<vs.size)):=rfl
section
variable {prog:Program}{w:World}{A:Around}{E:Value->Shared->Prop}{s:Shared}
theorem ZM(hx:s.heap.get? x=some ox)(dx:ox.data=.seq (gy a t::us).toArray n)
  (hy:s.heap.get? y=some oy)(dy:oy.data=.seq (gy b u::vs).toArray m)(bo:a≠b)(h:Q (decide (a<b)) s):wpAny (model prog w) A (keyLt' (kTup true) (.ref x) (.ref y)) Q E s:=by
 rw [YN]
 refine ah (ua hx dx (ah (ua hy dy ?_)))
 dsimp only
 rw [List.zip_cons_cons,Ci,Ce]
 refine ah (ah ?_)
 dsimp only
 refine ah (wpAny_eqBool_int ?_)
 rw [if_pos (by simp [bo])]
 exact ah (oneLt_int (aH (aH (aH h))))
noncomputable def kI(ky:Value->Int)(xs:Array Keyed)(i:Nat):Int:=match xs[i]? with
 | some p=>ky p.1
 | none=>0
structure TB(a₀:Array Keyed)(st:SortSt):Prop where
 perm:(arrOf st).Perm a₀
 kind:kindOf st=kTup true
 failed:failedOf st=none
 pend:pendingOf st=#[]
def Bj(s:Shared)(ky:Value->Int)(a₀:Array Keyed):Prop:=∀p∈a₀.toList,∃x o t us n,p.1=.ref x/\s.heap.get? x=some o/\o.data=.seq (gy (ky p.1) t::us).toArray n
def u4(ky:Value->Int)(a₀:Array Keyed):Prop:=(a₀.toList.map λp=>ky p.1).Nodup
variable {ky:Value->Int}{a₀:Array Keyed}
def D6(ky:Value->Int)(xs:Array Keyed)(k:Nat):Prop:=∀i j,i<j->j<k->kI ky xs i<kI ky xs j
theorem xp{st:SortSt}{Q:Unit->SortSt->Prop}(hk:Bj s ky a₀)(hd:u4 ky a₀)(hB:TB a₀ st)(h2:2<=a₀.size)(fA:a₀.size<lE)
  (h:∀ag,(arrOf ag).Perm a₀->failedOf ag=none->D6 ky (arrOf ag) a₀.size->Q () ag):wpS (model prog w) A E s sortRuns' Q st:=by
 refine SO.qN (kd:=kTup true) (κ:=λp=>ky p.1) (C:=λp=>∃x o t us n,p.1=.ref x/\s.heap.get? x=some o/\o.data=.seq (gy (ky p.1) t::us).toArray n) ⟨λ{x y} cx cy bo=>?_⟩ ⟨hk,hd⟩ ⟨hB.perm,hB.kind,hB.failed,rfl,jM _,by rw [hB.pend];trivial,λR hR=>nomatch hR⟩ h2 λag p f i=>h ag p f λa b l4 hb=>?_
 .obtain ⟨x1,o,t,us,n,e1,e2,e3⟩:=cx
  obtain ⟨y1,o',t',us',n',f1,f2,f3⟩:=cy
  intro A E Q hQ
  generalize ky x.1=kx at *
  generalize ky y.1=kz at *
  rw [e1,f1]
  exact ZM e2 e3 f2 f3 bo hQ
 .exact SO.dZ i l4 (by rw [p.size_eq];exact hb)
def TupAt(s:Shared)(ky:Value->Int)(v:Value):Prop:=∃x o t us n,v=.ref x/\s.heap.get? x=some o/\o.cls=.type "tuple" /\ o.data=.seq (gy (ky v) t::us).toArray n
theorem Xz(vs:List Value)(hv:∀v∈vs,TupAt s ky v)(h:∀ts:List Tok,ts.length=vs.length->Q (oA (λv t=>some (gy (ky v) t)) vs ts) s):wpAny (model prog w) A (vs.mapM firstOfTuple') Q E s:=by
 induction vs generalizing Q with
 | nil=>rw [List.mapM_nil];exact aH (h [] rfl)
 | cons v vs ih =>
  rw [List.mapM_cons]
  obtain ⟨x,o,t,us,n,e1,e2,e3,e4⟩:=hv v cm
  have ht:s.TypeIs v "tuple":=by rw [e1];exact ⟨o,e2,e3⟩
  have one:wpAny (model prog w) A (firstOfTuple' v) (λr s'=>s'=s/\r=some (gy (ky v) t)) E s:=by
   show wpAny _ _ (typeOf v >>= λT=>if (T != mH "tuple")=true then pure none else CA v >>= λus=>pure us[0]?) _ _ _
   refine ah (vz ht ?_)
   rw [if_neg (by simp)]
   have li:wpAny (model prog w) A (CA (.ref x)) (λus s'=>wpAny (model prog w) A (pure us[0]?) (λr s'=>s'=s/\r=some (gy (ky v) t)) E s') E s:=ua e2 e4 (aH ⟨rfl,rfl⟩)
   rw [<-e1] at li
   exact ah li
  refine ah (je one (λr s' hr=>?_) λ_ _ z=>z)
  obtain ⟨rfl,rfl⟩:=hr
  exact ah (ih (λu hu=>hv u (cG _ hu)) λts hl=>aH (h (t::ts) (by simp [hl])))
theorem yh(vs:List Value){Q:SortKind->Shared->Prop}(bo:vs≠[])(hv:∀v∈vs,TupAt s ky v)(h:Q (kTup true) s):wpAny (model prog w) A (keyKind' vs.toArray) Q E s:=by
 rw [keyKind'_eq,List.mapM_toArray,map_eq_pure_bind]
 refine ah (ah (Xz vs hv λts hl=>aH ?_))
 have hi:∀(us:List Value) (ts:List Tok),ts.length=us.length->(oA (λv t=>some (gy (ky v) t)) us ts).all (·.isSome)=true/\∃ws ns,(oA (λv t=>some (gy (ky v) t)) us ts).filterMap id=ws/\IntsAre ws ns/\ws.length=us.length:=λus=>by
  induction us with
  | nil=>intro ts _;exact ⟨by simp,[],[],by simp,.nil,rfl⟩
  | cons u us ih =>
   intro ts hl
   cases ts with
   | nil=>simp at hl
   | cons t ts =>
    obtain ⟨h1,ws,ns,h2,h3,h4⟩:=ih ts (by simpa using hl)
    exact ⟨by simpa using h1,_::ws,_::ns,by simp [h2],.cons (ky u) t h3,by simp [h4]⟩
 obtain ⟨h1,ws,ns,h2,h3,h4⟩:=hi vs ts hl
 rw [if_pos (by simpa using h1)]
 refine ah (o5 (ah ?_))
 have e:(oA (λv t=>some (gy (ky v) t)) vs ts).toArray.filterMap id=ws.toArray:=by simp [h2]
 rw [e,oneTypeOnly'_eq,List.mapM_toArray,mapM_typeOf_ints h3]
 have FA:ws≠[]:=λz=>by rw [z] at h4;exact bo (CC.mp h4.symm)
 cases ws with
 | nil=>exact absurd rfl FA
 | cons a ws =>
  simp only [map_pure,pure_bind]
  have n9:((oq (λ_=>mH "int") (a::ws)).toArray.all λx=>x==mH "int")=true:=by simp
  have h0:(oq (λ_=>mH "int") (a::ws)).toArray[0]?=some (mH "int"):=by simp
  rw [h0]
  simp only [n9,if_true]
  exact aH (aH h)
theorem nU{vs:List Value}{xs:Array Keyed}(hp:xs.Perm (pairsOf vs))(hi:D6 ky xs (pairsOf vs).size):(xs.map (·.2)).toList.Perm vs/\(xs.map (·.2)).toList.Pairwise λx y=>ky x<ky y:=by
 have dO:=zR.mp hp
 have hz:(vs.zip vs).map (·.2)=vs:=by rw [List.map_snd_zip];exact aV _
 have gp:∀p∈xs.toList,p.1=p.2:=λp Fw=>by
  have:=dO.mem_iff.mp Fw
  rw [rK] at this
  have key:∀(us:List Value) (p:Value×Value),p∈us.zip us->p.1=p.2:=λus=>by
   induction us with
   | nil=>intro p z;cases z
   | cons u us ih =>
    intro p z
    rcases bx.mp z with rfl | z
    .rfl
    .exact ih p z
  exact key vs p this
 rw [Array.toList_map]
 refine ⟨by have:=dO.map (·.2);rw [rK,hz] at this;exact this,?_⟩
 rw [rE,zQ]
 intro i j h1 h2 eG
 have hsz:xs.size=(pairsOf vs).size:=hp.size_eq
 have g:∀k (hk:k<xs.toList.length),kI ky xs k=ky (xs.toList[k]).2:=λk hk=>by
  have qZ:k<xs.size:=by simpa using hk
  unfold kI
  rw [getElem?_pos _ k qZ]
  have:=gp xs.toList[k] (nr hk)
  show ky (xs[k]).1=_
  rw [<-this]
  simp
 rw [<-g i h1,<-g j h2]
 exact hi i j eG (by rw [<-hsz];simpa using h2)
theorem xg(oU:s.heap.get? l0=some (seqObj "list" vs.toArray n))(hv:∀v∈vs,TupAt s ky v)(hd:(vs.map ky).Nodup)(fA:vs.length<lE)
  (h:∀out:Array Value,out.toList.Perm vs->(out.toList.Pairwise λx y=>ky x<ky y)->P (.done (.ret .none)) { s with heap:=sortedHeap s.heap l0 vs out }):wpAny (model prog w) A (Builtin.«list.sort» ⟨[.ref l0],[]⟩) P E s:=by
 have bg:l0<s.heap.objs.size:=bF oU
 obtain ⟨k1,oV⟩:∃k1,(s.heap.update l0 (cW λ_=>#[])).get? l0=some (seqObj "list" #[] k1):=⟨_,zM oU λ_=>#[]⟩
 rw [list_sort_plain]
 have hZ:vs.length<=sizeLine:=by rw [fW];unfold lE at fA;ext fA
 have yV:vs.toArray.size<=sizeLine:=by rw [cZ];exact hZ
 have FX:vs.toArray.toList.length<=sizeLine:=yV
 refine ah (ua oU rfl (ah (rA (hsz:=yV) oU rfl (ah (vC oV rfl (ah (zy (hsz:=FX) (ah (vM (lz ?_))))))))))
 have gH:(((s.heap.update l0 (cW λ_=>#[])).push (seqObj "tuple" vs.toArray 0)).push (seqObj "list" #[] 0)).get? l0=some (seqObj "list" #[] k1):=aZ _ (aZ _ oV)
 have up:∀b o,b≠l0->s.heap.get? b=some o->(((s.heap.update l0 (cW λ_=>#[])).push (seqObj "tuple" vs.toArray 0)).push (seqObj "list" #[] 0)).get? b=some o:=λb o hb e =>
  aZ _ (aZ _ ((ui _ _ (gJ hb)).trans e))
 have yw:∀v∈vs,TupAt { s with heap:=((s.heap.update l0 (cW λ_=>#[])).push (seqObj "tuple" vs.toArray 0)).push (seqObj "list" #[] 0) } ky v:=λv s9=>by
  obtain ⟨x,o,t,us,m,e1,e2,e3,e4⟩:=hv v s9
  have hx:x≠l0:=λz=>by
   rw [z,oU] at e2
   cases e2
   have:("list":String) = "tuple":=Value.type.inj e3
   exact absurd this (by decide)
  exact ⟨x,o,t,us,m,e1,up x o hx e2,e3,e4⟩
 dsimp only
 show wpAny _ _ _ _ _ { s with heap:=((s.heap.update l0 (cW λ_=>#[])).push (seqObj "tuple" vs.toArray 0)).push (seqObj "list" #[] 0) }
 generalize hS:({ s with heap:=((s.heap.update l0 (cW λ_=>#[])).push (seqObj "tuple" vs.toArray 0)).push (seqObj "list" #[] 0) }:Shared)=S at yw ⊢
 have BO:S.heap=((s.heap.update l0 (cW λ_=>#[])).push (seqObj "tuple" vs.toArray 0)).push (seqObj "list" #[] 0):=by rw [<-hS]
 have gq:S.heap.get? l0=some (seqObj "list" #[] k1):=by rw [BO];exact gH
 have ends:∀st:SortSt,(arrOf st).Perm (pairsOf vs)->failedOf st=none->D6 ky (arrOf st) (pairsOf vs).size ->
   wpAny (model prog w) A (do
    let touched:=(<-seqEpoch l0) != k1
    Ml (.ref l0) λ_=>(arrOf st).map (·.2)
    if let some e:=failedOf st then rule "list.sort.comparison-raised";throw e
    if touched then rule "list.sort.modified";raiseError "ValueError" "list modified during sort"
    ret .none) P E S:=λst hp hf hi=>by
  obtain ⟨o1,o2⟩:=nU hp hi
  refine ah (vC gq rfl (ah (rA gq rfl ?_ (hsz2:=?_))))
  .rw [hf]
   simp only [bne_self_eq_false,oB,if_false]
   refine aH ?_
   have:=h _ o1 o2
   rw [<-hS]
   exact this
  .rw [Array.size_map,hp.size_eq,Ca,fW];unfold lE at fA;ext fA
 have yH:Bj S ky (pairsOf vs):=λp hp=>by
  rw [rK] at hp
  obtain ⟨x,o,t,us,m,e1,e2,e3,e4⟩:=yw p.1 (uv hp).1
  exact ⟨x,o,t,us,m,e1,e2,e4⟩
 have yN:u4 ky (pairsOf vs):=by
  unfold u4
  rw [rK,show (vs.zip vs).map (λp=>ky p.1)=((vs.zip vs).map (·.1)).map ky by rw [jh];rfl,List.map_fst_zip (aV _)]
  exact hd
 have hsz:vs.toArray.size=vs.length:=by simp
 by_cases h2:vs.toArray.size<2
 .rw [if_pos h2]
  refine ah (aH ?_)
  rw [if_pos h2,StateT.run_pure]
  refine ah (aH ?_)
  exact ends (qr general' (pairsOf vs) #[] 7 none) (zN _) rfl λi j eG hj=>by rw [Ca] at hj;ext hsz h2 eG hj
 .rw [if_neg h2]
  refine ah (yh vs (λz=>by rw [z] at hsz;simp at h2;simp [z] at h2) yw ?_)
  rw [if_neg h2]
  refine ah (je (xp (a₀:=pairsOf vs) (st:=qr (kTup true) (pairsOf vs) #[] 7 none) (Q:=λ_ ag=>(arrOf ag).Perm (pairsOf vs)/\failedOf ag=none/\D6 ky (arrOf ag) (pairsOf vs).size) yH yN ⟨zN _,rfl,rfl,rfl⟩ (by rw [Ca];ext hsz h2) (by rw [Ca];exact fA) λag a b c=>⟨a,b,c⟩) (λr s' hr=>?_) λ_ _ z=>z)
  obtain ⟨rfl,p1,p2,p3⟩:=hr
  exact ends r.2 p1 p2 p3
theorem pS(hl:s.heap.IsList l vs.toArray)(hv:∀v∈vs,TupAt s ky v)(hd:(vs.map ky).Nodup)(fA:vs.length<lE)
  (h:∀out:Array Value,out.toList.Perm vs->(out.toList.Pairwise λx y=>ky x<ky y)->Q (.ref (s.heap.objs.size+1)) { s with heap:=sortedAll s.heap vs out }):wpAny (model prog w) A (call (.builtin "sorted") [.ref l]) Q E s:=by
 refine MK kind_sorted plain_sorted entry_sorted (args_sorted1 _) ?_
 unfold Builtin.«sorted»
 have hZ:vs.length<=sizeLine:=by rw [fW];unfold lE at fA;ext fA
 refine ah (m:=checkCount "sorted" 1 1 _) (aH (ah (collect_list (hsz:=hZ) hl (ah (vM (hsz:=hZ) ?_)))))
 have z1:((s.heap.push (seqObj "list" #[] 0)).update s.heap.objs.size (cW (·++vs.toArray))).objs.size=s.heap.objs.size+1:=(GW ..).trans (BW _ _)
 have z2:(((s.heap.push (seqObj "list" #[] 0)).update s.heap.objs.size (cW (·++vs.toArray))).push (seqObj "list" vs.toArray 0)).get? (s.heap.objs.size+1)=some (seqObj "list" vs.toArray 0):=by
  rw [<-z1]
  exact c9 _ rfl
 have up:∀b o,s.heap.get? b=some o->(((s.heap.push (seqObj "list" #[] 0)).update s.heap.objs.size (cW (·++vs.toArray))).push (seqObj "list" vs.toArray 0)).get? b=some o:=λb o e =>
  aZ _ ((ui _ _ (o9 (bF e))).trans (aZ _ e))
 show wpAny _ _ _ _ _ { s with heap:=((s.heap.push (seqObj "list" #[] 0)).update s.heap.objs.size (cW (·++vs.toArray))).push (seqObj "list" vs.toArray 0) }
 rw [z1]
 have Fk:∀v∈vs,TupAt { s with heap:=((s.heap.push (seqObj "list" #[] 0)).update s.heap.objs.size (cW (·++vs.toArray))).push (seqObj "list" vs.toArray 0) } ky v:=λv s9=>by
  obtain ⟨x,o,t,us,m,e1,e2,e3,e4⟩:=hv v s9
  exact ⟨x,o,t,us,m,e1,up x o e2,e3,e4⟩
 refine ah (lz (mO G4 ⟨_,z2,rfl⟩ G7 (xg z2 Fk hd fA λout o1 o2=>⟨_,rfl,?_⟩) (args_list_sort _)))
 exact aH ⟨_,rfl,h out o1 o2⟩
end
end TS
namespace DL
open PySem PySem.Spec PyProof.Rows L2
theorem Pu{α β:Type}{f:α->β}{l:List β}{ts:List α}(h:l.Perm (ts.map f)):∃us:List α,us.Perm ts/\us.map f=l:=by
 generalize e:ts.map f=m at h
 induction h generalizing ts with
 | nil=>exact ⟨[],by rw [MF.mp e],rfl⟩
 | cons x _ ih =>
  cases ts with
  | nil=>cases e
  | cons t ts =>
   cases e
   obtain ⟨us,h1,h2⟩:=ih rfl
   exact ⟨t::us,h1.cons t,by rw [jL,h2]⟩
 | swap x y l =>
  match ts,e with
  | a::b::ts,e =>
   cases e
   exact ⟨b::a::ts,Cw _ _ _,rfl⟩
 | trans _ _ UD UC =>
  obtain ⟨us,h1,h2⟩:=UC e
  obtain ⟨ws,h3,h4⟩:=UD h2
  exact ⟨ws,h3.trans h1,h4⟩
noncomputable def v9(s:Shared):Value->Int
 | .ref x=>match s.heap.get? x with
  | some o=>match o.data with
   | .seq xs _=>match xs[0]? with
    | some (gy a _)=>a
    | _=>0
   | _=>0
  | _=>0
 | _=>0
section
variable {X:Cx}
theorem a76:bH X (.builtin "sorted") (λxs H Q=>∃(p:Addr) (ts:List (Addr×Int×D)),xs=[.ref p]/\Sq X.K H true p (ts.map λt=>V.ref t.1)/\(∀t∈ts,∃zs,dR X.K H t.1 (.int t.2.1::zs))/\(ts.map (·.2.1)).Nodup/\ts.length<lE /\
  ∀(us:List (Addr×Int×D)) (a:Addr),us.Perm ts->(us.Pairwise λx y=>x.2.1<y.2.1)->H a=none->Q (.ref a) (upd H a (.lst (us.map λt=>V.ref t.1)))):=by
 intro pins s σ H xs vs Q I r h
 obtain ⟨p,ts,rfl,hq,Lu,kX,fA,q⟩:=h
 obtain ⟨u,rfl,ru⟩:=r.one
 cases ru
 obtain ⟨aq,rv,pl⟩:=qy (b:=true) I hq
 have hits:aq=ts.map λt=>dj t.1:=by
  clear pl hq Lu kX fA q
  induction ts generalizing aq with
  | nil=>cases rv;rfl
  | cons t ts ih =>
   cases rv with
   | cons a b =>
    cases a
    rw [jL,ih _ b]
 subst hits
 have BL:∀t∈ts,TS.TupAt s (v9 s) (.ref t.1)/\v9 s (.ref t.1)=t.2.1:=λt ht=>by
  obtain ⟨zs,hz⟩:=Lu t ht
  obtain ⟨ws,xo,pt,_⟩:=I.tuple hz
  obtain ⟨o,ho,hc,n,hd⟩:=(show s.heap.IsTuple t.1 ws.toArray from pt)
  cases xo with
  | cons a b =>
   obtain ⟨tk,rfl⟩:=a
   have e:v9 s (.ref t.1)=t.2.1:=by
    unfold v9
    dsimp only
    rw [ho]
    dsimp only
    rw [hd]
    rfl
   exact ⟨⟨t.1,o,tk,_,n,rfl,ho,hc,by rw [e];exact hd⟩,e⟩
 have FD:(ts.map λt=>dj t.1).map (v9 s)=ts.map (·.2.1):=by
  rw [jh]
  exact ME λt ht=>(BL t ht).2
 refine TS.pS (ky:=v9 s) pl (λv hv=>?_) (by rw [FD];exact kX) (by rw [bB];exact fA) λout o1 o2=>?_
 .obtain ⟨t,ht,rfl⟩:=e7.mp hv
  exact (BL t ht).1
 .obtain ⟨us,u1,u2⟩:=Pu o1
  have u3:us.Pairwise λx y=>x.2.1<y.2.1:=by
   rw [<-u2,rE] at o2
   refine o2.imp_of_mem λ{x y} hx hy z=>?_
   rwa [(BL x (u1.subset hx)).2,(BL y (u1.subset hy)).2] at z
  obtain ⟨e,he⟩:=sortedAll_at s.heap (ts.map λt=>dj t.1) out
  have fr:H (s.heap.objs.size+1)=none:=I.bb.fresh (qq _)
  refine ⟨.ref (s.heap.objs.size+1),_,I.laid (o:=.lst (us.map λt=>V.ref t.1)) (t':=s.toks) (λb o e=>sortedAll_old e) (qq _) ⟨?_,out.toList,e,?_,?_⟩,rfl,q us _ u1 u3 fr⟩
  .rw [bB,u1.length_eq,fW];unfold lE at fA;ext fA
  .rw [<-u2]
   clear u1 u3 u2
   induction us with
   | nil=>exact .nil
   | cons t us ih=>exact .cons rfl ih
  .simpa using he
noncomputable def yi:D->Option (Int×D)
 | .tup (.int k::ds)=>some (k,.tup (.int k::ds))
 | _=>none
noncomputable def Af:List D->Option (List (Int×D))
 | []=>some []
 | d::ds=>(yi d).bind λk=>(Af ds).map λks=>k::ks
noncomputable def vY(ds:List D):Option (List D):=(Af ds).bind λks=>if (ks.map (·.1)).Nodup/\ks.length<lE then some ((ks.mergeSort λa b=>decide (a.1<=b.1)).map (·.2)) else none
noncomputable def Dr(f:En->Option Sl):En->Option Sl:=λenv=>(f env).bind λr=>match r.d with
 | .lst _ ds=>(vY ds).map Sl.ow
 | _=>none
theorem PV:∀{l m:List (Int×D)},l.Perm m->(l.map (·.1)).Nodup->(l.Pairwise λa b=>a.1<=b.1)->(m.Pairwise λa b=>a.1<=b.1)->l=m
 | [],m,h,_,_,_=>(List.nil_perm.mp h).symm
 | a::l,[],h,_,_,_=>by have:=h.length_eq;simp at this
 | a::l,b::m,h,hn,hl,hm=>by
  have l4:a=b:=by
   have h1:a∈b::m:=h.subset cm
   have h2:b∈a::l:=h.symm.subset cm
   have e:a.1=b.1:=by
    have k1:b.1<=a.1:=by
     rcases bx.mp h1 with z | z
     .rw [z];exact gx _
     .exact (fE.mp hm).1 a z
    have k2:a.1<=b.1:=by
     rcases bx.mp h2 with z | z
     .rw [z];exact gx _
     .exact (fE.mp hl).1 b z
    ext k1 k2
   rcases bx.mp h2 with z | z
   .exact z.symm
   .have:=(uw.mp hn).1
    exact absurd (e7.mpr ⟨b,z,e.symm⟩) this
  subst l4
  rw [PV (h.cons_inv) (uw.mp hn).2 (fE.mp hl).2 (fE.mp hm).2]
theorem b0y(hg:Gl X "sorted")(hm:X.mg "sorted" = none)(he:EV X e fa)(hs:starEach [e] X.env=[(false,eval e X.env)]:=by rfl):EV X (.Call (.Name "sorted" p) [e] [] pos) (Dr fa):=by
 obtain ⟨t,pt,k⟩:=he
 refine ⟨_,r8 a76 hg hm (by decide +kernel) (lI pt md hs) (by decide) (by decide) hs rfl,λO B σ H env s Q R e q=>?_⟩
 obtain ⟨r,e1,e2⟩:=bind_some e
 refine k O B σ H env r _ R e1 λv H1 s1 r1=>?_
 have hi:=r1.is λq=>R.oo
 cases hd:r.d with
 | lst b ds =>
  rw [hd] at e2 hi
  obtain ⟨rs,e3,rfl⟩:=map_some (show (vY ds).map Sl.ow=some s from e2)
  obtain ⟨ks,e4,e5⟩:=bind_some e3
  obtain ⟨⟨kX,fA⟩,rfl⟩:=il e5
  obtain ⟨a,xs,rfl,h2,h3⟩:=hi.seq (k:=true) rfl
  have lay:∀{xs:List V} {ds:List D} {ks:List (Int×D)},aI X.K (OO O σ env) H1 xs ds->Af ds=some ks->∃ts:List (Addr×Int×D),xs=ts.map (λt=>V.ref t.1)/\ks=ts.map (λt=>t.2)/\∀t∈ts,Is X.K (OO O σ env) H1 (.ref t.1) t.2.2/\∃zs,dR X.K H1 t.1 (.int t.2.1::zs):=λ{xs ds ks} hI=>by
   intro hk
   induction ds generalizing xs ks with
   | nil=>cases hI;cases hk;exact ⟨[],rfl,rfl,λ_ z=>nomatch z⟩
   | cons d ds ih =>
    cases hI with
    | cons i1 i2 =>
     rename_i x iJ
     obtain ⟨kd,f1,f2⟩:=bind_some hk
     obtain ⟨fK,f3,f4⟩:=map_some f2
     obtain ⟨ts,g1,g2,g3⟩:=ih i2 f3
     obtain ⟨kk,rest,rfl,rfl⟩:∃kk rest,d=.tup (.int kk::rest)/\kd=(kk,d):=by
      unfold yi at f1
      split at f1
      .cases f1;exact ⟨_,_,rfl,rfl⟩
      .cases f1
     obtain ⟨ad,zs,rfl,hz,yu⟩:=i1.seq (k:=false) rfl
     cases yu with
     | cons z1 z2 =>
      obtain rfl:=fZ z1
      refine ⟨(ad,kk,.tup (.int kk::rest))::ts,by rw [g1];rfl,by rw [<-f4,g2];rfl,λt ht=>?_⟩
      rcases bx.mp ht with rfl | ht
      .exact ⟨i1,_,hz⟩
      .exact g3 t ht
  obtain ⟨ts,rfl,rfl,g3⟩:=lay h3 e4
  rw [jh] at kX
  rw [bB] at fA
  refine ⟨a,ts,rfl,h2,λt ht=>(g3 t ht).2,kX,fA,λus c u1 u2 hc=>?_⟩
  have gp:us.map (λt=>t.2)=(ts.map λt=>t.2).mergeSort λa b=>decide (a.1<=b.1):=by
   refine PV ((u1.map _).trans (MD _ _).symm) ?_ ?_ ?_
   .rw [jh];exact (u1.map _).nodup_iff.mpr kX
   .rw [rE];exact u2.imp λ{x y} z=>GG z
   .have:=Mj (le:=λa b:Int×D=>decide (a.1<=b.1)) (λa b c h1 h2=>by simp at *;ext h1 h2) (λa b=>by simp;ext) (ts.map λt=>t.2)
    exact this.imp λ{x y} z=>by simpa using z
  rw [<-gp,jh] at q
  refine q _ _ (s1.trans (jl hc _)) ((rY hc ?_).from s1)
  have conv:∀ws:List (Addr×Int×D),(∀t∈ws,Is X.K (OO O σ env) H1 (.ref t.1) t.2.2)->aI X.K (OO O σ env) H1 (ws.map λt=>V.ref t.1) (ws.map λt=>t.2.2):=λws=>by
   induction ws with
   | nil=>exact λ_=>.nil
   | cons w ws ih=>exact λhw=>.cons (hw w cm) (ih λz hz=>hw z (cG _ hz))
  exact conv us λt ht=>(g3 t (u1.subset ht)).1
 | _=>rw [hd] at e2;cases e2
noncomputable def M'(f:En->Option Sl):En->Option Sl:=λenv=>(gP (f env)).map λb=>.sh (.int (if b then 1 else 0))
end
end DL
namespace DL
open PySem PySem.Spec PyProof.Rows L2
section
variable {prog:Program}{w:World}{A:Around}{E:Value->Shared->Prop}{s:Shared}{a₀:Array Keyed}
theorem Y'{st:SortSt}{Q:Unit->SortSt->Prop}(h0:IntKeys a₀)(hB:SBase a₀ st)(ha:arrOf st=a₀)(h2:a₀.size=2)(hle:K a₀ 0<=K a₀ 1)(h:∀ag,arrOf ag=a₀->failedOf ag=none->Q () ag):wpS (model prog w) A E s sortRuns' Q st:=by
 rw [sortRuns'_eq]
 refine aM (kn ?_)
 dsimp only
 have mr:minRun' 2 2 0=2:=rfl
 have hsz:(arrOf st).size=2:=by rw [ha,h2]
 simp only [hsz,mr]
 refine aM (jf (iG (λx c ag=>x=0/\c=(none,0)/\ag=st\/0<x/\c=(none,2)/\arrOf ag=a₀/\failedOf ag=none/\(pendingOf ag).size=1) (Q:=λc ag=>c=(none,2)/\arrOf ag=a₀/\failedOf ag=none/\(pendingOf ag).size=1)
  (λx c ag _ g2 hI=>?_) (λc ag hI=>?_) (.inl ⟨rfl,rfl,rfl⟩)) λc ag hI=>?_)
 .rcases hI with ⟨rfl,rfl,rfl⟩ | ⟨_,rfl,f⟩
  .dsimp only
   rw [if_neg (by decide)]
   simp only [GH,Nat.min_self,rp]
   rw [countRun0_eq]
   refine aM (aM ?_)
   unfold ascLoop
   refine iG (λx c dr=>dr=ag/\c=(none,x)) (λx c dr g1 g3 hJ=>?_) (λc dr hJ=>?_) ⟨rfl,rfl⟩
   .obtain ⟨rfl,rfl⟩:=hJ
    have hx:x=1:=by ext g1 g3
    subst hx
    refine aM (wpS_ltK hB h0 (by ext h2) (by ext h2) ?_)
    dsimp only
    rw [if_neg (by rw [ha];simp;assumption)]
    exact aT ⟨rfl,rfl⟩
   .obtain ⟨rfl,rfl⟩:=hJ
    dsimp only
    rw [show max 1 2=2 from rfl,if_pos (by simp)]
    refine aT ?_
    dsimp only
    rw [if_neg (by decide)]
    refine aM (kn ?_)
    rw [hB.pend]
    refine aM (ou (aT (.inr ⟨Nat.one_pos,rfl,ha,hB.failed,?_⟩)))
    show ((pendingOf dr).push _).size=1
    rw [hB.pend]
    rfl
  .dsimp only
   rw [if_pos (aV _)]
   exact aT ⟨rfl,f⟩
 .rcases hI with ⟨z,_,_⟩ | ⟨_,z,f⟩
  .contradiction
  .exact ⟨z,f⟩
 .obtain ⟨rfl,f1,f2,f3⟩:=hI
  dsimp only
  refine aM (jf (iG (λ_ c dr=>dr=ag/\c=(none,())) (Q:=λc dr=>dr=ag/\c=(none,())) (λx c dr _ _ hJ=>?_) (λ_ _ z=>z) ⟨rfl,rfl⟩) λc dr hJ=>?_)
  .obtain ⟨rfl,rfl⟩:=hJ
   refine aM (kn ?_)
   rw [if_pos (by rw [f3];exact aV 1)]
   exact aT ⟨rfl,rfl⟩
  .obtain ⟨rfl,rfl⟩:=hJ
   exact aT (h _ f1 f2)
theorem Z4{k0 k1:Int}{t0 t1:Tok}{v0 v1:Value}{st:SortSt}{Q:Unit->SortSt->Prop}(tj:st=qr oneType' #[(.int k0 t0,v0),(.int k1 t1,v1)] #[] 7 none)
  (h:∀ag,((arrOf ag).map (·.2))=(if k1<k0 then #[v1,v0] else #[v0,v1])->failedOf ag=none->Q () ag):wpS (model prog w) A E s sortRuns' Q st:=by
 have h0:IntKeys #[((.int k0 t0:Value),v0),(.int k1 t1,v1)]:=λp hp=>by
  simp at hp
  rcases hp with rfl | rfl
  .exact ⟨_,_,rfl⟩
  .exact ⟨_,_,rfl⟩
 have hB:SBase #[((.int k0 t0:Value),v0),(.int k1 t1,v1)] st:=by subst tj;exact ⟨zN _,rfl,rfl,rfl⟩
 by_cases hk:k1<k0
 .refine wpS_sortRuns h0 hB (by simp) (by simp) λag p1 p2 p3=>h ag ?_ p2
  rw [if_pos hk]
  have hp:=zR.mp p1
  have hl:(arrOf ag).toList=[(.int k0 t0,v0),(.int k1 t1,v1)]\/(arrOf ag).toList=[(.int k1 t1,v1),(.int k0 t0,v0)]:=by
   match e:(arrOf ag).toList,hp with
   | [],hp=>exact absurd hp.length_eq (by simp)
   | [_],hp=>exact absurd hp.length_eq (by simp)
   | _::_::_::_,hp=>exact absurd hp.length_eq (by simp)
   | [x,y],hp =>
    have hx:x∈[((.int k0 t0:Value),v0),(.int k1 t1,v1)]:=hp.subset (by simp)
    simp at hx
    rcases hx with rfl | rfl
    .left
     have:=hp.cons_inv
     rw [MC.mp this]
    .right
     have h3:[(gy k1 t1,v1),y].Perm [(gy k1 t1,v1),(gy k0 t0,v0)]:=hp.trans (Cw _ _ _)
     rw [MC.mp h3.cons_inv]
  have hs:=p3 0 1 (by decide) (by simp)
  have ha:arrOf ag=(arrOf ag).toList.toArray:=by simp
  rcases hl with z | z
  .exfalso
   rw [ha,z] at hs
   have:k0<=k1:=hs
   ext hk this
  .rw [ha,z]
   simp
 .refine Y' h0 hB (by subst tj;rfl) rfl (show k0<=k1 by ext hk) λag p1 p2=>h ag ?_ p2
  rw [if_neg hk,p1]
  simp
end
section
variable {X:Cx}{pins:List (Addr×Obj)}{s:Shared}{σ:L2.St}{H:Hp}
theorem wO(I:Inv X pins σ H s)(hf:cP X pins H a)(new:bZ X.prog X.w (upd H a o) s.heap a o):Inv X pins σ (upd H a o) s:=by
 have ne:∀b u,H b=some u->b≠a:=λb u e z=>by rw [z,hf.1] at e;cases e
 refine I.step (g':=s.gens) (t':=s.toks) (d':=s.drawn) (ch:=[a]) (h':=s.heap) (H':=upd H a o) (λb hb=>?_) (λb o _ _ _ e _=>e) (λb o _ _ _ e _=>⟨o.slots,e⟩) (λb o hc e n=>by rw [cR (by simpa using hc)];exact n) (λb o _ e=>⟨o,e⟩)
  (λb xs e=>by rw [cR (ne b _ e)];exact e) (λb o u e=>by rw [cR (ne b _ e)];exact e) (λb ps e=>⟨#[],by rw [cR (ne b _ e),e];simp⟩) (λm hm=>hm) (λb u e=>?_) I.bare
 .obtain rfl:b=a:=by simpa using hb
  exact ⟨hf.2.2.2.1,hf.2.1,hf.2.2.2.2.1,hf.2.2.2.2.2⟩
 .by_cases hb:b=a
  .subst hb
   rw [me] at e
   cases e
   exact new
  .rw [cR hb] at e
   exact (I.bb b u e).jA (λ_ _ _ q=>q) (λc _ _ q=>by rw [cR (ne c _ q)];exact q) λc xs q=>by rw [cR (ne c _ q)];exact q
theorem Zw(F:bM X.prog X.w X.K X.mg X.base iH k f fd ps (mo X.K ps.length φ))(h1:ps.length=1)(hr:bC k A')(hA:A'.frames=X.A.frames)(hb:Binds X.K fd ps [])
  (I:Inv X pins σ H s)(rx:RelV x v)(hO:pJ X.K O H)(hx:Is X.K O H x d)(e:φ [d]=some (.sh (.int n))):
  wpAny (model X.prog X.w) A' (call (.ref f) [v]) (λu s'=>∃t H',u=.int n t/\Inv X pins σ H' s'/\ar H H'/\∀b o,s.heap.get? b=some o->cP X pins H b->s'.heap.get? b=some o/\cP X pins H' b) E s:=by
 have e0:=I.fL
 have E0:gF X.prog X.w X.K X.mg X.base A' X.stack s H:=⟨hA.trans e0.frames,e0.mod,e0.bs,e0.ni,e0.eM,e0.qi,e0.bb,e0.bare⟩
 refine wpAny_call (rq (F.run A' X.stack s H ⟨[v],[]⟩ [v] [x] (λu H'=>u=.int n/\ar H H') (λ_ _ _=>False) hr E0 (hb s [v] I.sX (by simp [h1])) (.cons rx .nil) ⟨O,[d],.sh (.int n),hO,.cons hx .nil,by simp [h1],e,λv' H' sm r=>⟨fZ r,sm⟩⟩) λr s' hq=>?_)
 cases r with
 | error e=>exact gM hq
 | ok fl =>
  cases fl with
  | ret u =>
   obtain ⟨v',H',os,bare,un,bb,rv,rfl,sm⟩:=hq
   obtain ⟨t,rfl⟩:=rv
   obtain ⟨hh,g,d',t',xM⟩:=s'
   obtain rfl:xM=s.os:=os
   refine ⟨t,H',rfl,I.call (h':=hh) (g':=g) (d':=d') (t':=t') (ch:=[]) un bb bare (λb z=>absurd z (by simp)),sm,λb o eb hf=>?_⟩
   have TQ:b∉mC X.stack:=λz=>by
    rcases bx.mp (I.gg b z) with z | z
    .exact hf.2.1 z
    .exact hf.2.2.1 z
   exact ⟨un.keep b o eb hf.1 TQ (by simp),un.free b o eb hf.1 (by simp),hf.2⟩
  | next=>exact gM hq
  | brk=>exact gM hq
  | cont=>exact gM hq
theorem a9K(F:bM X.prog X.w X.K X.mg X.base iH k f fd ps (mo X.K ps.length φ))(h1:ps.length=1)(hr:bC (k+1) X.A)(hb:Binds X.K fd ps [])
  (I:Inv X pins σ H s)(hq:Sq X.K H true p [x0,x1])(hO:pJ X.K O H)(i0:Is X.K O H x0 d0)(i1:Is X.K O H x1 d1)(e0:φ [d0]=some (.sh (.int k0)))(e1:φ [d1]=some (.sh (.int k1)))(q:∀a H',ar H H'->H' a=none->Q (.ref a) (upd H' a (.lst (if k1<k0 then [x1,x0] else [x0,x1])))):
  wpAny (model X.prog X.w) X.A (call (.builtin "sorted") [.ref p] [(Str.ofString "key",.ref f)]) (EP X pins σ Q) X.xe s:=by
 obtain ⟨aq,rv,pl⟩:=qy (b:=true) I hq
 obtain ⟨v0,v1,rfl,r0,r1⟩:∃v0 v1,aq=[v0,v1]/\RelV x0 v0/\RelV x1 v1:=by
  cases rv with
  | cons a b =>
   cases b with
   | cons c d=>cases d;exact ⟨_,_,rfl,a,c⟩
 have tq:bC k X.A.in1.in1:=⟨hr.hd,by have:=hr.dp;show X.A.depth+3*k+5<_;ext this,by have:=hr.un;show X.A.units+1+1+16*k+200<_;ext this⟩
 refine call_function_entry_kw kind_sorted plain_sorted entry_sorted (ksk_s1 _ _) ?_
 unfold Builtin.«sorted»
 refine ah (m:=checkCount "sorted" 1 1 _) (aH (ah (collect_list pl (ah (vM ?_)) (by rw [fW];simp))))
 have hz:((s.heap.push (seqObj "list" #[] 0)).update s.heap.objs.size (cW (·++[v0,v1].toArray))).objs.size=s.heap.objs.size+1:=by rw [GW,BW]
 obtain ⟨hL,zc⟩:∃hL,hL=((s.heap.push (seqObj "list" #[] 0)).update s.heap.objs.size (cW (·++[v0,v1].toArray))).push (seqObj "list" [v0,v1].toArray 0):=⟨_,rfl⟩
 have gL:hL.get? (s.heap.objs.size+1)=some (seqObj "list" [v0,v1].toArray 0):=by rw [zc,<-hz];exact c9 _ rfl
 have zL:hL.objs.size=s.heap.objs.size+2:=by rw [zc,BW,hz]
 have kL:∀b o,s.heap.get? b=some o->hL.get? b=some o:=λb o e=>by
  have bg:b<s.heap.objs.size:=bF e
  rw [zc]
  refine aZ _ ?_
  rw [vP _ _ _ _ (cI bg)]
  exact aZ _ e
 show wpAny _ _ _ _ _ { s with heap:=((s.heap.push (seqObj "list" #[] 0)).update s.heap.objs.size (cW (·++[v0,v1].toArray))).push (seqObj "list" [v0,v1].toArray 0) }
 rw [hz,<-zc]
 clear zc hz
 generalize ha:s.heap.objs.size+1=a at *
 refine ah (lz (wpAny_call_entry_kw G4 ⟨_,gL,rfl⟩ G7 ?_ (ksk_l1 _ _)))
 show wpAny (model X.prog X.w) X.A.in1.in1 (Builtin.«list.sort» ⟨[.ref a],[(Str.ofString "key",.ref f)]⟩) _ _ _
 rw [ksk_t1]
 unfold ksk_tree
 have fa:cP X pins H a:=I.iX (by ext ha) (I.bb.fresh (by ext ha))
 refine ah (ua gL rfl (ah (rA gL rfl ?_ (by rw [fW];simp) (jM _))))
 obtain ⟨c1,g1⟩:∃c1,(hL.update a (cW λ_=>(#[]:Array Value))).get? a=some (seqObj "list" #[] c1):=⟨_,zM gL λ_=>#[]⟩
 obtain ⟨hU,eU⟩:∃hU,hU=hL.update a (cW λ_=>(#[]:Array Value)):=⟨_,rfl⟩
 rw [<-eU] at g1
 have zU:hU.objs.size=s.heap.objs.size+2:=by rw [eU,GW,zL]
 have kU:∀b o,s.heap.get? b=some o->hU.get? b=some o:=λb o e=>by
  have bg:b<s.heap.objs.size:=bF e
  rw [eU,vP _ _ _ _ (cI (GD bg (by rw [<-ha];exact jK _)))]
  exact kL b o e
 show wpAny _ _ _ _ _ { s with heap:=hL.update a (cW λ_=>(#[]:Array Value)) }
 rw [<-eU]
 clear eU kL gL zL
 refine ah (vC g1 rfl (ah (zy (ah (vM (lz ?_) (jM _))) (by show 2<=_;rw [fW];decide))))
 obtain ⟨hK,eK⟩:∃hK,hK=(hU.push (seqObj "tuple" [v0,v1].toArray 0)).push (seqObj "list" #[] 0):=⟨_,rfl⟩
 have zT:(hU.push (seqObj "tuple" [v0,v1].toArray 0)).objs.size=s.heap.objs.size+3:=by rw [BW,zU]
 have gK:hK.get? (s.heap.objs.size+3)=some (seqObj "list" #[] 0):=by rw [eK,<-zT];exact c9 _ rfl
 have gA:hK.get? a=some (seqObj "list" #[] c1):=by rw [eK];exact aZ _ (aZ _ g1)
 have kK:∀b o,s.heap.get? b=some o->hK.get? b=some o:=λb o e=>by rw [eK];exact aZ _ (aZ _ (kU b o e))
 show wpAny _ _ _ _ _ { s with heap:=(hU.push (seqObj "tuple" [v0,v1].toArray 0)).push (seqObj "list" #[] 0) }
 rw [<-eK]
 show wpAny _ _ (ksk_rest a (.ref f) false [v0,v1].toArray c1 (.ref (hU.push (seqObj "tuple" [v0,v1].toArray 0)).objs.size)) _ _ _
 rw [zT]
 clear eK zT g1 kU zU
 generalize hk:s.heap.objs.size+3=kS at *
 have fk:cP X pins H kS:=I.iX (by ext hk) (I.bb.fresh (by ext hk))
 have Le:kS≠a:=o9 (by rw [<-hk,<-ha];ext)
 have I3:Inv X pins σ H { s with heap:=hK }:=I.kept (t':=s.toks) kK
 unfold ksk_rest
 refine ah (o5 ?_)
 rw [List.forIn_toArray]
 refine ah (ksk_fold (λi s'=>∃H' kA c,Inv X pins σ H' s'/\ar H H'/\cP X pins H' kS/\cP X pins H' a/\s'.heap.get? kS=some (seqObj "list" kA c)/\s'.heap.get? a=some (seqObj "list" #[] c1)/\IntsAre kA.toList ([k0,k1].take i)) [v0,v1] 0 _ ⟨H,#[],0,I3,ar.refl _,fk,fa,gK,gA,.nil⟩ (λj x s' hj hI=>?_) λs' hI=>?_)
 .obtain ⟨H1,kA,c,I1,sm,f1,f2,g3,g4,ia⟩:=hI
  rw [rp] at ia ⊢
  obtain ⟨xv,dv,kv,rx,ix,ev,ek⟩:∃xv dv kv,RelV xv x/\Is X.K O H xv dv/\φ [dv]=some (.sh (.int kv))/\[k0,k1].take (j+1)=[k0,k1].take j++[kv]:=by
   match j,hj with
   | 0,hj=>cases hj;exact ⟨x0,d0,k0,r0,i0,e0,rfl⟩
   | 1,hj=>cases hj;exact ⟨x1,d1,k1,r1,i1,e1,rfl⟩
  have ck:=Zw F h1 tq rfl hb I1 (O:=O) rx (hO.grow sm) (ix.grow sm) ev (E:=λ_ _=>False)
  refine ah (ub (je ck (λu s2 he=>?_) λ_ _ z=>z.elim))
  .obtain ⟨t,H2,rfl,I2,QO,kp⟩:=he
   dsimp only
   obtain ⟨g5,f5⟩:=kp kS _ g3 f1
   obtain ⟨g6,f6⟩:=kp a _ g4 f2
   have hz:kA.size<=1:=by
    have:=ia.length
    rw [et] at this
    rw [this,iE]
    match j,hj with
    | 0,_=>simp
    | 1,_=>simp
   refine ah (rA g5 rfl (aH ⟨rfl,?_⟩) (by rw [fW];ext hz) (by rw [Array.size_push,fW];ext hz))
   obtain ⟨c2,g7⟩:∃c2,(s2.heap.update kS (cW (·.push (.int kv t)))).get? kS=some (seqObj "list" (kA.push (.int kv t)) c2):=⟨_,zM g5 (·.push (.int kv t))⟩
   have Lk:∀b o,b∉[kS]->s2.heap.get? b=some o->(s2.heap.update kS (cW (·.push (.int kv t)))).get? b=some o:=λb o hb e=>by
    rw [vP _ _ _ _ (by simpa using hb)]
    exact e
   refine ⟨H2,kA.push (.int kv t),c2,Dx (ch:=[kS]) (t':=s2.toks) I2 (λb hb=>by rw [cJ.mp hb];exact f5) Lk,sm.trans QO,f5,f6,g7,Lk a _ (by simpa using Le.symm) g6,?_⟩
   rw [ek,show (kA.push (gy kv t)).toList=kA.toList++[gy kv t] by simp]
   exact ksk_snoc ia
 .obtain ⟨H1,kA,c,I1,sm,f1,f2,g3,g4,ia⟩:=hI
  have jr:IntsAre kA.toList [k0,k1]:=ia
  obtain ⟨t0,t1,rfl⟩:∃t0 t1,kA=#[.int k0 t0,.int k1 t1]:=by
   obtain ⟨l⟩:=kA
   cases jr with
   | cons _ t0 h =>
    cases h with
    | cons _ t1 h=>cases h;exact ⟨t0,t1,rfl⟩
  refine ah (ua g3 rfl ?_)
  unfold ksk_end
  dsimp only
  rw [if_neg (by decide),if_neg (by simp),if_neg (by simp),ksk_kind jr (by simp)]
  refine ah (aH ?_)
  refine ah (je (Z4 (k0:=k0) (k1:=k1) (t0:=t0) (t1:=t1) (v0:=v0) (v1:=v1) (st:=qr oneType' (if false=true then (#[gy k0 t0,gy k1 t1].zip #[v0,v1]).reverse else #[gy k0 t0,gy k1 t1].zip #[v0,v1]) #[] 7 none) (Q:=λ_ ag=>((arrOf ag).map (·.2))=(if k1<k0 then #[v1,v0] else #[v0,v1])/\failedOf ag=none) (by rw [if_neg (by decide)];simp) λag z1 z2=>⟨z1,z2⟩) ?_ λ_ _ e=>e)
  rintro ⟨⟨⟩,ag⟩ s2 ⟨rfl,hp,hf⟩
  dsimp only
  unfold ksk_tail
  dsimp only
  rw [hp,hf]
  have iT:(if k1<k0 then #[v1,v0] else #[v0,v1]:Array Value).size=2:=by split<;>rfl
  generalize Vm:(if k1<k0 then #[v1,v0] else #[v0,v1]:Array Value)=out at *
  have T3:∀b o,b∉[kS,a]->s2.heap.get? b=some o->(s2.heap.update kS (cW λ_=>(#[]:Array Value))).get? b=some o:=λb o hb e=>by
   rw [vP _ _ _ _ (by simp at hb;exact hb.1)]
   exact e
  have g5:(s2.heap.update kS (cW λ_=>(#[]:Array Value))).get? a=some (seqObj "list" #[] c1):=by
   rw [vP _ _ _ _ Le.symm]
   exact g4
  refine ah (rA g3 rfl (ah (B4 (ah (vC g5 rfl (ah (rA g5 rfl ?_ (jM _) ?_)))))) (by rw [fW];simp) (jM _))
  .simp only [bne_self_eq_false,oB,if_false]
   obtain ⟨c2,g6⟩:∃c2,((s2.heap.update kS (cW λ_=>(#[]:Array Value))).update a (cW λ_=>out)).get? a=some (seqObj "list" out c2):=⟨_,zM g5 λ_=>out⟩
   refine aH ⟨_,rfl,aH ⟨_,rfl,?_⟩⟩
   have I5:Inv X pins σ H1 { s2 with heap:=(s2.heap.update kS (cW λ_=>(#[]:Array Value))).update a (cW λ_=>out),toks:=s2.toks }:=Dx (ch:=[kS,a]) (t':=s2.toks) I1 (λb hb=>by
    rcases bx.mp hb with rfl | hb
    .exact f1
    .rw [cJ.mp hb];exact f2) λb o hb e=>by
     rw [vP _ _ _ _ (by simp at hb;exact hb.2)]
     exact T3 b o hb e
   refine ⟨.ref a,_,wO (o:=.lst (if k1<k0 then [x1,x0] else [x0,x1])) I5 f2 ⟨by split<;>(rw [fW];simp),out.toList,c2,?_,by simpa using g6⟩,rfl,q a H1 sm f2.1⟩
   rw [<-Vm]
   by_cases hk:k1<k0
   .rw [if_pos hk,if_pos hk];exact .cons r1 (.cons r0 .nil)
   .rw [if_neg hk,if_neg hk];exact .cons r0 (.cons r1 .nil)
  .simp only [oB,if_false]
   rw [iT,fW]
   decide
noncomputable def X7(K:aB)(φ:List D->Option Sl)(te:TE):TE:=λσ H Q=>te σ H λxv H1=>∃(O:Addr->Prop) (p:Addr) (x0 x1:V) (d0 d1:D) (k0 k1:Int),xv=.ref p/\Sq K H1 true p [x0,x1]/\pJ K O H1/\Is K O H1 x0 d0/\Is K O H1 x1 d1/\φ [d0]=some (.sh (.int k0))/\φ [d1]=some (.sh (.int k1)) /\
 ∀a H',ar H1 H'->H' a=none->Q (.ref a) (upd H' a (.lst (if k1<k0 then [x1,x0] else [x0,x1])))
theorem ZT{k:Nat}{f:Addr}{fd:FuncData}{ps:List Str}{φ:List D->Option Sl}{e:Expr}{te:TE}{x:Str}{p pos kp np:Pos}(F:bM X.prog X.w X.K X.mg X.base iH k f fd ps (mo X.K ps.length φ))(h1:ps.length=1)(hr:bC (k+1) X.A)(yJ:Gl X x)(FC:X.mg x=some (.ref f))(hb:Binds X.K fd ps [])
  (hg:Gl X "sorted")(hm:X.mg "sorted" = none)(he:PE X e te)(hs:starEach [e] X.env=[(false,eval e X.env)]:=by rfl)(jF:(x==("__debug__":Str))=false:=by decide):PE X (.Call (.Name "sorted" p) [e] [⟨some "key",.Name x np,kp⟩] pos) (X7 X.K φ te):=by
 intro pins s σ H Q I h
 refine CJ (rR I hg hm boot_sorted ?_)
 refine callWith_builtin_kwB (first:=[]) (by rw [hs];rfl) rfl ?_
 rw [hs]
 refine evalArgs_kwB rfl ?_
 refine Mx (bz (he pins s σ H _ I h) λu s1 ⟨xv,H1,I1,r1,q1⟩=>L5 ?_)
 refine kws_cons (IS I1 yJ FC (kws_nil ?_) jF)
 obtain ⟨O,p,x0,x1,d0,d1,k0,k1,rfl,hq,hO,i0,i1,e0,e1,q⟩:=q1
 cases r1
 exact a9K F h1 hr hb I1 hq hO i0 i1 e0 e1 q
noncomputable def pR(φ:List D->Option Sl)(d0 d1:D):Option Sl:=match φ [d0],φ [d1] with
 | some (.sh (.int k0)),some (.sh (.int k1))=>some (.ow (if k1<k0 then [d1,d0] else [d0,d1]))
 | _,_=>none
noncomputable def pP(φ:List D->Option Sl):D->Option Sl
 | .lst _ [d0,d1]=>pR φ d0 d1
 | _=>none
noncomputable def Dh(φ:List D->Option Sl)(f:En->Option Sl):En->Option Sl:=λenv=>(f env).bind λr=>pP φ r.d
theorem Zo{k:Nat}{f:Addr}{fd:FuncData}{ps:List Str}{φ:List D->Option Sl}{e:Expr}{fa:En->Option Sl}{x:Str}{p pos kp np:Pos}(F:bM X.prog X.w X.K X.mg X.base iH k f fd ps (mo X.K ps.length φ))(h1:ps.length=1)(hr:bC (k+1) X.A)(yJ:Gl X x)(FC:X.mg x=some (.ref f))(hb:Binds X.K fd ps [])
  (hg:Gl X "sorted")(hm:X.mg "sorted" = none)(he:EV X e fa)(hs:starEach [e] X.env=[(false,eval e X.env)]:=by rfl)(jF:(x==("__debug__":Str))=false:=by decide):EV X (.Call (.Name "sorted" p) [e] [⟨some "key",.Name x np,kp⟩] pos) (Dh φ fa):=by
 obtain ⟨t,pt,kk⟩:=he
 refine ⟨_,ZT F h1 hr yJ FC hb hg hm pt hs jF,λO B σ H env s Q R e q=>?_⟩
 obtain ⟨r,e1,e2⟩:=bind_some e
 refine kk O B σ H env r _ R e1 λv H1 s1 r1=>?_
 have hi:=r1.is λq=>R.oo
 unfold pP at e2
 split at e2
 .rename_i ro d0 d1 hd
  rw [hd] at hi
  unfold pR at e2
  split at e2
  .rename_i k0 k1 f0 f1
   cases e2
   obtain ⟨a,xs,rfl,h2,h3⟩:=hi.seq (k:=true) rfl
   obtain ⟨x0,x1,rfl,i0,i1⟩:∃x0 x1,xs=[x0,x1]/\Is X.K (OO O σ env) H1 x0 d0/\Is X.K (OO O σ env) H1 x1 d1:=by
    cases h3 with
    | cons a b =>
     cases b with
     | cons c d=>cases d;exact ⟨_,_,rfl,a,c⟩
   refine ⟨OO O σ env,a,x0,x1,d0,d1,k0,k1,rfl,h2,(R.grow s1).dm,i0,i1,f0,f1,λc H2 s2 hc=>?_⟩
   refine q _ _ ((s1.trans s2).trans (jl hc _)) ((rY hc ?_).from (s1.trans s2))
   by_cases hk:k1<k0
   .rw [if_pos hk,if_pos hk];exact .cons (i1.grow s2) (.cons (i0.grow s2) .nil)
   .rw [if_neg hk,if_neg hk];exact .cons (i0.grow s2) (.cons (i1.grow s2) .nil)
  .cases e2
 .cases e2
end
theorem Fx.Et{X:Cx}{N:List Str}{sc:Scope}{k j:Nat}{full:Bool}{x:Str}{st:Stmt}{ps:List Str}{φ:List D->Option Sl}{e:Expr}{fa:En->Option Sl}{p pos kp np:Pos}(h:Fx X N sc k full)(O:Oz X.prog X.w X.K X.mg X.base x st ps j φ)(hm:X.mg "sorted" = none)(he:EV X e fa)(hj:j+1<=k:=by decide)(h1:ps.length=1:=by rfl)(yJ:sc.names.lookup x=some .globalImplicit:=by rfl)(hg:sc.names.lookup ("sorted":Str)=some .globalImplicit:=by rfl)
  (hs:starEach [e] X.env=[(false,eval e X.env)]:=by rfl)(jF:(x==("__debug__":Str))=false:=by decide):EV X (.Call (.Name "sorted" p) [e] [⟨some "key",.Name x np,kp⟩] pos) (Dh φ fa):=by
 obtain ⟨f,fd,D',F⟩:=O
 exact Zo F h1 (h.room.mono hj) (h.g yJ) D'.m D'.bd (h.g hg) hm he hs jF
end DL
namespace DL
open PySem PySem.Spec PyProof.Rows L2
section
variable {X:Cx}{N:List Str}{sc:Scope}{k:Nat}{full:Bool}{pos pos' p1 p2 p3 p4:Pos}{e c:Expr}{fa:En->Option Sl}{ga:En->Option Bool}
noncomputable def h7(i:Nat)(f:En->Option Sl):SF:=λenv=>match env[i]? with
 | some (.sh (.int m))=>match f env with
  | some (.sh (.int n))=>some (.nx,env.set i (.sh (.int (m+n))))
  | _=>none
 | _=>none
theorem Pz(h:h7 i f env=some y):∃m n,env[i]?=some (.sh (.int m))/\f env=some (.sh (.int n))/\y=(.nx,env.set i (.sh (.int (m+n)))):=by
 unfold h7 at h
 split at h
 .rename_i m e1
  split at h
  .rename_i n e2
   cases h
   exact ⟨m,n,e1,e2,rfl⟩
  .cases h
 .cases h
theorem Fx.aug(h:Fx X N sc k full)(i:Nat)(he:EV X e fa)(hN:N[i]?=some x:=by rfl)(hv:Loc sc x:=by first | exact bY rfl | exact be rfl)
  (hf:full=true\/sc.names.lookup x=some .local:=by first | exact bY rfl | exact be rfl):SV X (.AugAssign (.Name x pos') .Add e pos) (h7 i fa):=by
 obtain ⟨t,p,kk⟩:=he
 refine ⟨_,Nx h.ve (h.ix hN) (h.loc hv) p XD (h.u5 hf),λO B σ H env fl ak D R e q=>?_⟩
 obtain ⟨m,n,hi,e1,e2⟩:=Pz e
 cases e2
 obtain ⟨v,e3,hv⟩:=R.sh i _ hi
 obtain rfl:=fZ hv
 refine ⟨_,e3,kk O B σ H env _ _ R e1 λv H1 s1 r1=>?_⟩
 obtain rfl:=fZ r1
 refine ⟨m,n,rfl,rfl,?_⟩
 obtain ⟨R',g'⟩:=R.set (v:=.int (m+n)) (r:=.sh (.int (m+n))) s1 (Is.int (m+n)) (kr.mp hi).1
 exact q _ H1 R' g'
noncomputable def M2(i j:Nat)(c:En->Option Bool)(f:En->Option Sl):SF:=λenv=>match env[i]? with
 | some (.ow ds)=>forL (gN j) (cc c (aD f) cK) ds env
 | _=>none
end
end DL
namespace DL
open PySem L2
def Wo{α:Type}(o:Option α)(Q:α->Prop):Prop:=∃a,o=some a/\Q a
section
variable {α β:Type}
theorem a0g{a:α}{Q:α->Prop}:Wo (some a) Q↔Q a:=⟨λ⟨_,e,h⟩=>by cases e;exact h,λh=>⟨a,rfl,h⟩⟩
theorem a0n:Wo (none:Option α) Q↔False:=⟨λ⟨_,e,_⟩=>(nomatch e),gM⟩
theorem a0j{o:Option α}{f:α->Option β}{Q:β->Prop}:Wo (o.bind f) Q↔Wo o λa=>Wo (f a) Q:=by
 cases o with
 | none=>simp [Wo]
 | some a=>simp [Wo]
theorem a1t{o:Option α}{f:α->β}{Q:β->Prop}:Wo (o.map f) Q↔Wo o λa=>Q (f a):=by
 cases o with
 | none=>simp [Wo]
 | some a=>simp [Wo]
theorem gS{c:Prop}[Decidable c]{a:α}{Q:α->Prop}:Wo (if c then some a else none) Q↔c/\Q a:=by
 by_cases h:c
 .rw [if_pos h,a0g];exact ⟨λz=>⟨h,z⟩,λz=>z.2⟩
 .rw [if_neg h,a0n];exact ⟨gM,λz=>h z.1⟩
theorem Wo.mono{o:Option α}{P Q:α->Prop}(h:Wo o P)(k:∀a,P a->Q a):Wo o Q:=let ⟨a,e,p⟩:=h;⟨a,e,k a p⟩
theorem Wo.eq{o:Option α}{a:α}(h:Wo o λx=>x=a):o=some a:=let ⟨_,e,p⟩:=h;by rw [e,p]
theorem lK{o:Option α}{P Q:α->Prop}(k:∀a,P a↔Q a):Wo o P↔Wo o Q:=⟨λh=>h.mono λa=>(k a).mp,λh=>h.mono λa=>(k a).mpr⟩
end
noncomputable def mq(G:SF)(Q:Fl×En->Prop):Fl×En->Prop
 | (.nx,e)=>Wo (G e) Q
 | p=>Q p
theorem a7v:mq G Q (.nx,e)↔Wo (G e) Q:=dP
theorem a9G:mq G Q (.bk,e)↔Q (.bk,e):=dP
theorem a9F:mq G Q (.ct,e)↔Q (.ct,e):=dP
theorem a9E:mq G Q (.rt r,e)↔Q (.rt r,e):=dP
theorem Wo_seq:Wo (aj F G env) Q↔Wo (F env) (mq G Q):=by
 unfold aj
 cases h:F env with
 | none=>simp [Wo]
 | some p =>
  obtain ⟨fl,e⟩:=p
  rw [a0g]
  cases fl with
  | nx=>exact dP
  | bk=>rw [a9G];exact a0g
  | ct=>rw [a9F];exact a0g
  | rt r=>rw [a9E];exact a0g
theorem a2b:Wo (cc c F G env) Q↔Wo (c env) λb=>(b=true->Wo (F env) Q)/\(b=false->Wo (G env) Q):=by
 unfold cc
 cases h:c env with
 | none=>simp [Wo]
 | some b=>cases b<;>simp [a0g]
theorem b5j:Wo (cK env) Q↔Q (.nx,env):=a0g
theorem Wo_bk:Wo (Ez env) Q↔Q (.bk,env):=a0g
theorem Wo_ct:Wo (Rn env) Q↔Q (.ct,env):=a0g
theorem b3M:Wo (aD f env) Q↔Wo (f env) λr=>Q (.rt r,env):=a1t
theorem b5i:Wo (xk env) Q↔Q (.rt (.sh .aS),env):=a0g
theorem b7p:Wo (df i f env) Q↔Wo (f env) λr=>i<env.length/\Q (.nx,env.set i r):=by
 unfold df;rw [a0j];simp only [gS]
theorem b04:Wo (bD i f env) Q↔Wo (f env) λr=>i<env.length/\Q (.nx,env.set i (.sh r.d)):=by
 unfold bD;rw [a0j];simp only [gS]
theorem b5O{f:En->Option Sl}{env:En}{Q:Fl×En->Prop}:Wo (xl f env) Q↔Wo (f env) λ_=>Q (.nx,env):=a1t
noncomputable def jO:Option Sl->(Sl->Prop)->Prop
 | some (.sh d),Q=>Q (.sh d)
 | _,_=>False
theorem b42:jO (some (.sh d)) Q↔Q (.sh d):=dP
theorem b2Z:Wo (eV i env) Q↔jO env[i]? Q:=by
 unfold eV
 cases env[i]? with
 | none=>simp [Bw,jO,Wo]
 | some s=>cases s<;>simp [Bw,jO,Wo]
theorem Wo_eC:Wo (eC d env) Q↔Q (.sh d):=a0g
theorem b7G:Wo (aa g fa fb env) Q↔Wo (fa env) λx=>Wo (fb env) λy=>Wo (g x.d y.d) Q:=by
 unfold aa;rw [a0j];simp only [a0j]
theorem b7t:Wo (iY f env) Q↔Wo (f env) λx=>Wo (tT x.d) Q:=a0j
theorem b5q:Wo (tT (.int i)) Q↔Q (.sh (.int (-i))):=a0g
theorem b5w:Wo (aQ (.int i) (.int j)) Q↔Q (.sh (.int (i+j))):=a0g
theorem b5o:Wo (bI (.int i) (.int j)) Q↔Q (.sh (.int (i-j))):=by rw [XA,a0g]
theorem b5s:Wo (eh (.int i) (.int j)) Q↔MulC i j/\Q (.sh (.int (i*j))):=gS
theorem b5v:Wo (cN (.int i) (.int j)) Q↔DivC i j/\Q (.sh (.int (i/j))):=gS
theorem b5t:Wo (cj (.int i) (.int j)) Q↔0<j/\Q (.sh (.int (i%j))):=gS
theorem b5p:Wo (fB (.int i) (.int j)) Q↔PowC i j/\Q (.sh (.int (i^j.toNat))):=gS
theorem b7w:Wo (gu (.int i) (.int j)) Q↔Q (.sh (.bl (decide (i<j)))):=a0g
theorem b7x:Wo (oZ (.int i) (.int j)) Q↔Q (.sh (.bl (decide (i<=j)))):=a0g
theorem b7y:Wo (qh (.int i) (.int j)) Q↔Q (.sh (.bl (decide (j<i)))):=a0g
theorem b7z:Wo (Vu (.int i) (.int j)) Q↔Q (.sh (.bl (decide (j<=i)))):=a0g
theorem b7A:Wo (ei (.int i) (.int j)) Q↔Q (.sh (.bl (decide (i=j)))):=a0g
theorem b7v:Wo (ec (.int i) (.int j)) Q↔Q (.sh (.bl (!decide (i=j)))):=a0g
theorem b5u:Wo (ei (.bl i) (.bl j)) Q↔Q (.sh (.bl (decide (i=j)))):=a0g
theorem b5r:Wo (ec (.bl i) (.bl j)) Q↔Q (.sh (.bl (!decide (i=j)))):=a0g
theorem b2V:Wo (ei (.int i) .aS) Q↔Q (.sh (.bl false)):=a0g
theorem b2S:Wo (ec (.int i) .aS) Q↔Q (.sh (.bl true)):=a0g
theorem b2U:Wo (ei .aS (.int i)) Q↔Q (.sh (.bl false)):=a0g
theorem b2R:Wo (ec .aS (.int i)) Q↔Q (.sh (.bl true)):=a0g
theorem b2T:Wo (ei .aS .aS) Q↔Q (.sh (.bl true)):=a0g
theorem b2Q:Wo (ec .aS .aS) Q↔Q (.sh (.bl false)):=a0g
theorem b7u:Wo (qg a .aS) Q↔Q (.sh (.bl a.cE)):=a0g
theorem b5k:Wo (HU a .aS) Q↔Q (.sh (.bl (!a.cE))):=a0g
theorem b7m:Wo (bR f env) Q↔Wo (f env) λr=>Wo (gP (some r)) Q:=by
 unfold bR
 cases f env with
 | none=>simp [gP,Wo]
 | some r=>rw [a0g]
theorem b7K:Wo (gP (some (.sh (.bl b)))) Q↔Q b:=a0g
theorem b5c:Wo (dz f env) Q↔Wo (f env) λr=>Wo (g0 r.d) Q:=a0j
theorem b5b:Wo (g0 (.bl b)) Q↔Q b:=a0g
theorem b5a:Wo (g0 (.int b)) Q↔Q (b != 0):=a0g
theorem b47:Wo (g0 (.tup ds)) Q↔Q (!ds.isEmpty):=a0g
theorem b49:Wo (g0 (.lst r ds)) Q↔Q (!ds.isEmpty):=a0g
theorem b48:Wo (g0 .aS) Q↔Q false:=a0g
theorem b2K:Wo (Am f env) Q↔Wo (f env) λr=>Q (!r.2.isEmpty):=by
 unfold Am;rw [a0j];simp only [a0g]
theorem b5e:Wo (mQ f g env) Q↔Wo (f env) λb=>(b=true->Wo (g env) Q)/\(b=false->Q false):=by
 unfold mQ
 cases f env with
 | none=>simp [Wo]
 | some b=>cases b<;>simp [a0g]
theorem b7l:Wo (jz f g env) Q↔Wo (f env) λb=>(b=true->Q true)/\(b=false->Wo (g env) Q):=by
 unfold jz
 cases f env with
 | none=>simp [Wo]
 | some b=>cases b<;>simp [a0g]
theorem b5d:Wo (rO f env) Q↔Wo (f env) λb=>Q (!b):=a1t
theorem b5M:Wo (lj f g env) Q↔Wo (f env) λr=>Wo (gP (some r)) λb=>(b=true->Wo (g env) Q)/\(b=false->Q (.sh (.bl false))):=by
 unfold lj
 cases f env with
 | none=>simp [Wo,gP]
 | some r =>
  rw [a0g]
  cases gP (some r) with
  | none=>simp [Wo]
  | some b=>cases b<;>simp [a0g]
theorem b7D:Wo (zh f g env) Q↔Wo (f env) λr=>Wo (gP (some r)) λb=>(b=true->Q (.sh (.bl true)))/\(b=false->Wo (g env) Q):=by
 unfold zh
 cases f env with
 | none=>simp [Wo,gP]
 | some r =>
  rw [a0g]
  cases gP (some r) with
  | none=>simp [Wo]
  | some b=>cases b<;>simp [a0g]
theorem b5F:Wo (mD f env) Q↔Wo (f env) λr=>Wo (gP (some r)) λb=>Q (.sh (.bl !b)):=by
 unfold mD
 cases f env with
 | none=>simp [Wo,gP]
 | some r=>rw [a0g,a1t]
theorem b7F:Wo (l5 c f g env) Q↔Wo (c env) λb=>(b=true->Wo (f env) Q)/\(b=false->Wo (g env) Q):=by
 unfold l5
 cases c env with
 | none=>simp [Wo]
 | some b=>cases b<;>simp [a0g]
theorem b5U:Wo (ae env) Q↔Q []:=a0g
theorem b29:Wo (af f g env) Q↔Wo (f env) λr=>Wo (g env) λds=>Q (r.d::ds):=by
 unfold af;rw [a0j];simp only [a0j,a0g]
theorem b5C:Wo (bA f env) Q↔Wo (f env) λds=>ds.length<=16777216/\Q (.sh (.tup ds)):=by
 unfold bA;rw [a0j];simp only [gS]
theorem b5I:Wo (bw f env) Q↔Wo (f env) λds=>ds.length<=16777216/\Q (.ow ds):=by
 unfold bw;rw [a0j];simp only [gS]
noncomputable def ji:Option Sl->(Bool×List D->Prop)->Prop
 | some (.sh (.tup ds)),Q=>Q (false,ds)
 | some (.sh (.lst _ ds)),Q=>Q (true,ds)
 | some (.ow ds),Q=>Q (true,ds)
 | _,_=>False
theorem b7g:ji (some (.sh (.tup ds))) Q↔Q (false,ds):=dP
theorem b7i:ji (some (.sh (.lst r ds))) Q↔Q (true,ds):=dP
theorem b7h:ji (some (.ow ds)) Q↔Q (true,ds):=dP
theorem Wo_bV:Wo (bV i env) Q↔ji env[i]? Q:=by
 unfold bV
 cases env[i]? with
 | none=>simp [u9,ji,Wo]
 | some s=>cases s with
  | no=>simp [u9,ji,Wo]
  | dw ds=>simp [u9,ji,Wo]
  | ow ds=>simp [u9,ji,Wo]
  | sh d=>cases d<;>simp [u9,ji,Wo,d9]
theorem b7H:Wo (jd f env) Q↔Wo (f env) λr=>Wo (d9 r.d) Q:=a0j
theorem b7n:Wo (d9 (.tup ds)) Q↔Q (false,ds):=a0g
theorem b7o:Wo (d9 (.lst r ds)) Q↔Q (true,ds):=a0g
theorem b5J:Wo (bX f env) Q↔Wo (f env) λx=>Q (.sh (.int x.2.length)):=a1t
theorem b22:Wo (HS f env) Q↔Wo (f env) λx=>Q (.ow x.2):=a1t
theorem b08:Wo (Ar f env) Q↔Wo (f env) λx=>x.1=true/\Q (.sh (.tup x.2)):=by
 unfold Ar;rw [a0j];simp only [gS]
def E4(xs:List D)(d:D)(Q:Sl->Prop):Prop:=match d with
 | .int i=>Wo (dQ xs i) λd=>Q (.sh d)
 | _=>False
theorem ixQ_i:E4 xs (.int i) Q↔Wo (dQ xs i) λd=>Q (.sh d):=dP
theorem b7E:Wo (av f g env) Q↔Wo (f env) λx=>Wo (g env) λy=>E4 x.2 y.d Q:=by
 unfold av
 rw [a0j]
 refine lK λx=>?_
 rw [a0j]
 refine lK λy=>?_
 unfold E4
 cases y.d<;>simp [a1t,a0n]
theorem cn{α:Type}{xs:List α}{n:Nat}:dQ xs (n:Int)=xs[n]?:=by
 unfold dQ iQ
 rw [if_pos (by ext)]
 by_cases h:n<xs.length
 .rw [if_pos (by ext h)];simp
 .rw [if_neg (by ext h),zV (by ext h)];rfl
theorem atI_0{α:Type}{x:α}{xs:List α}:dQ (x::xs) 0=some x:=cn (n:=0)
theorem atI_1{α:Type}{x y:α}{xs:List α}:dQ (x::y::xs) 1=some y:=cn (n:=1)
theorem atI_2{α:Type}{x y z:α}{xs:List α}:dQ (x::y::z::xs) 2=some z:=cn (n:=2)
theorem atI_3{α:Type}{x y z u:α}{xs:List α}:dQ (x::y::z::u::xs) 3=some u:=cn (n:=3)
theorem b24:Wo (aU n φ fs env) Q↔Wo (fs env) λds=>ds.length=n/\Wo (φ ds) Q:=by
 unfold aU
 rw [a0j]
 have h:∀ds:List D,Wo (if ds.length=n then φ ds else none) Q↔ds.length=n/\Wo (φ ds) Q:=λds=>by
  by_cases h:ds.length=n<;>simp [h,a0n]
 simp only [h]
theorem b1a:Wo (uF g fs env) Q↔Wo (fs env) λds=>Wo (g ds) Q:=a0j
theorem b27:Wo (Ag [.int i,.int j]) Q↔Q (.sh (.int (min i j))):=by
 have:(if j<i then j else i)=min i j:=by simp only [Int.min_def];split<;>split<;>lia
 unfold Ag;rw [a0g,this]
theorem b28:Wo (vT [.int i,.int j]) Q↔Q (.sh (.int (max i j))):=by
 have:(if j>i then j else i)=max i j:=by simp only [Int.max_def];split<;>split<;>lia
 unfold vT;rw [a0g,this]
theorem b5K:Wo (mE T f env) Q↔Wo (f env) λr=>Wo (iR T r.d) Q:=a0j
theorem b2b:Wo (iR T (.aS)) Q↔Q (.sh (.bl (aY T (.aS)))):=a0g
theorem b4G:Wo (iR T (.bl b)) Q↔Q (.sh (.bl (aY T (.bl b)))):=a0g
theorem b2d:Wo (iR T (.int i)) Q↔Q (.sh (.bl (aY T (.int i)))):=a0g
theorem b2a:Wo (iR T (.str x)) Q↔Q (.sh (.bl (aY T (.str x)))):=a0g
theorem b19:Wo (iR T (.tup ds)) Q↔Q (.sh (.bl (aY T (.tup ds)))):=a0g
theorem b2c:Wo (iR T (.lst r ds)) Q↔Q (.sh (.bl (aY T (.lst r ds)))):=a0g
noncomputable def aN(Q:Sl->Prop):Fl×En->Prop
 | (.rt r,_)=>Q r
 | (.nx,_)=>Q (.sh .aS)
 | _=>False
theorem b4T:aN Q (.rt r,e)↔Q r:=dP
theorem b4U:aN Q (.nx,e)↔Q (.sh .aS):=dP
theorem cO:Wo (aP F N ds) Q↔Wo (F (oI N ds)) (aN Q):=by
 unfold aP
 cases F (oI N ds) with
 | none=>simp [Wo]
 | some p =>
  obtain ⟨fl,e⟩:=p
  rw [a0g]
  cases fl<;>simp [a0g,a0n,aN]
theorem b07:Wo (dg f g F env) Q↔Wo (f env) λr=>Wo (d9 r.d) λx=>Wo (forL g F x.2 env) Q:=by
 unfold dg;rw [a0j];simp only [a0j]
theorem b5x:Wo (CY h f g F env) Q↔Wo (f env) λds=>Wo (h ds) λis=>Wo (forL g F is env) Q:=by
 unfold CY;rw [a0j];simp only [a0j]
theorem b5g:Wo (pV [.int j]) Q↔R62 j/\Q (dB 0 j.toNat):=gS
theorem b5f:Wo (EE [.int i,.int j]) Q↔(R62 i/\R62 j)/\Q (dB i (j-i).toNat):=gS
noncomputable def qz(I:En->Prop)(Q:Fl×En->Prop):Fl×En->Prop
 | (.nx,e)=>I e
 | (.ct,e)=>I e
 | (.bk,e)=>Q (.nx,e)
 | (.rt r,e)=>Q (.rt r,e)
theorem b1n:qz I Q (.nx,e)↔I e:=dP
theorem b1o:qz I Q (.ct,e)↔I e:=dP
theorem b1p:qz I Q (.bk,e)↔Q (.nx,e):=dP
theorem b1m:qz I Q (.rt r,e)↔Q (.rt r,e):=dP
theorem nI{α:Type}(enc:α->D)(I:List α->En->Prop)(xs:List α)(turn:∀pre a post env,xs=pre++a::post->I pre env->Wo (g (enc a) env) λe=>Wo (F e) (qz (I (pre++[a])) Q))
  (done:∀env,I xs env->Q (.nx,env)):∀{env:En},I [] env->Wo (forL g F (xs.map enc) env) Q:=by
 have key:∀(post pre:List α) (env:En),xs=pre++post->I pre env->Wo (forL g F (post.map enc) env) Q:=by
  intro post
  induction post with
  | nil =>
   intro pre env e h
   rw [mM] at e
   subst e
   exact ⟨_,rfl,done env h⟩
  | cons a post ih =>
   intro pre env e h
   obtain ⟨e1,h1,p,h2,h3⟩:=turn pre a post env e h
   rw [jL]
   unfold forL
   rw [h1]
   dsimp only
   rw [h2]
   obtain ⟨fl,e2⟩:=p
   cases fl with
   | nx=>exact ih (pre++[a]) e2 (by rw [e,e9];rfl) h3
   | ct=>exact ih (pre++[a]) e2 (by rw [e,e9];rfl) h3
   | bk=>exact ⟨_,rfl,h3⟩
   | rt r=>exact ⟨_,rfl,h3⟩
 exact λ{env} h=>key xs [] env rfl h
theorem Ow(lo:Int)(n:Nat)(I:Nat->En->Prop)(turn:∀(k:Nat) env,k<n->I k env->Wo (g (.int (lo+k)) env) λe=>Wo (F e) (qz (I (k+1)) Q))
  (done:∀env,I n env->Q (.nx,env))(h:I 0 env):Wo (forL g F (dB lo n) env) Q:=by
 unfold dB
 refine nI (λ(k:Nat)=>D.int (lo+(k:Int))) (λpre env=>I pre.length env) (jt n) (λpre a post env e h=>?_) (λenv h=>done env (by simpa using h)) h
 have hl:=congrArg nk e
 have ha:(jt n)[pre.length]?=some a:=by rw [e];simp
 simp at hl
 rw [List.getElem?_range (by ext hl)] at ha
 cases ha
 simpa using turn pre.length env (by ext hl) h
theorem Wo_gN:Wo (gN i d env) Q↔i<env.length/\Q (env.set i (.sh d)):=gS
theorem Wo_gT:Wo (gT n u (.tup ds) env) Q↔ds.length=n/\Wo (u ds env) Q:=by
 unfold gT
 by_cases h:ds.length=n<;>simp [h,a0n]
theorem b2P:Wo (vU [] env) Q↔Q env:=a0g
theorem b06:Wo (kF g u (d::ds) env) Q↔Wo (g d env) λe=>Wo (u ds e) Q:=a0j
theorem b7J:Wo (xm f g env) Q↔Wo (f env) λr=>Wo (g r.d env) λe=>Q (.nx,e):=by
 unfold xm;rw [a0j];simp only [a1t]
noncomputable def bG:Option Sl->(List D->Prop)->Prop
 | some (.ow ds),Q=>Q ds
 | _,_=>False
theorem b7j:bG (some (.ow ds)) Q↔Q ds:=dP
theorem b7L:Wo (cL i f env) Q↔bG env[i]? λds=>Wo (f env) λr=>ds.length<16777216/\Q (.nx,env.set i (.ow (ds++[r.d]))):=by
 unfold cL
 cases env[i]? with
 | none=>simp [a0n,bG]
 | some s=>cases s with
  | no=>simp [a0n,bG]
  | dw d=>simp [a0n,bG]
  | sh d=>simp [a0n,bG]
  | ow ds=>dsimp only [bG];rw [a0j];simp only [gS]
def tU(env:En)(i:Nat)(ds:List D)(d:D)(Q:Fl×En->Prop):Prop:=match d with
 | .lst false es=>ds.length+es.length<=16777216/\Q (.nx,env.set i (.ow (ds++es)))
 | _=>False
theorem b6Z:tU env i ds (.lst false es) Q↔ds.length+es.length<=16777216/\Q (.nx,env.set i (.ow (ds++es))):=dP
theorem b7B:Wo (iL i f env) Q↔bG env[i]? λds=>Wo (f env) λr=>tU env i ds r.d Q:=by
 unfold iL
 cases env[i]? with
 | none=>simp [a0n,bG]
 | some s=>cases s with
  | no=>simp [a0n,bG]
  | dw d=>simp [a0n,bG]
  | sh d=>simp [a0n,bG]
  | ow ds =>
   dsimp only [bG];rw [a0j]
   refine lK λr=>?_
   unfold tU
   cases r.d with
   | lst ro es=>cases ro<;>simp [gS,a0n]
   | _=>simp [a0n]
theorem b7q:Wo (kJ i j env) Q↔bG env[j]? λds=>Wo ds[ds.length-1]? λd=>(i<env.length/\i≠j)/\Q (.nx,(env.set j (.ow ds.dropLast)).set i (.sh d)):=by
 unfold kJ
 cases env[j]? with
 | none=>simp [a0n,bG]
 | some s=>cases s with
  | no=>simp [a0n,bG]
  | dw d=>simp [a0n,bG]
  | sh d=>simp [a0n,bG]
  | ow ds=>dsimp only [bG];rw [a0j];simp only [gS]
def HW(env:En)(i:Nat)(ds:List D)(d:D)(k:D)(Q:Fl×En->Prop):Prop:=match k with
 | .int n=>Wo (iQ ds.length n) λj=>Q (.nx,env.set i (.ow (ds.set j d)))
 | _=>False
theorem b4E:HW env i ds d (.int n) Q↔Wo (iQ ds.length n) λj=>Q (.nx,env.set i (.ow (ds.set j d))):=dP
theorem b5m:Wo (vX i f g env) Q↔bG env[i]? λds=>Wo (f env) λr=>Wo (g env) λk=>HW env i ds r.d k.d Q:=by
 unfold vX
 cases env[i]? with
 | none=>simp [a0n,bG]
 | some s=>cases s with
  | no=>simp [a0n,bG]
  | dw d=>simp [a0n,bG]
  | sh d=>simp [a0n,bG]
  | ow ds =>
   dsimp only [bG];rw [a0j]
   refine lK λr=>?_
   rw [a0j]
   refine lK λk=>?_
   unfold HW
   cases k.d<;>simp [a0j,a0g,a0n]
theorem Aq:Wo (kM i F env) Q↔Wo (F (og i env)) Q:=dP
theorem Ad(h:env[i]?=some (.ow ds)):og i env=env.set i (.sh (.lst false ds)):=by unfold og;rw [h]
noncomputable def Ai(env:En):Option Sl->(Fl×En->Prop)->Prop
 | some (.ow ds),Q=>Q (.rt (.ow ds),env)
 | some (.dw ds),Q=>Q (.rt (.dw ds),env)
 | some (.sh d),Q=>Q (.rt (.sh d),env)
 | _,_=>False
theorem b44:Ai env (some (.ow ds)) Q↔Q (.rt (.ow ds),env):=dP
theorem b43:Ai env (some (.sh d)) Q↔Q (.rt (.sh d),env):=dP
theorem b5h:Wo (nF i env) Q↔Ai env env[i]? Q:=by
 unfold nF
 cases env[i]? with
 | none=>simp [a0n,Ai]
 | some s=>cases s<;>simp [a0n,a0g,Ai]
theorem b7s:Wo (kP env) Q↔Q none:=a0g
def pQ(d:D)(Q:Option Int->Prop):Prop:=match d with
 | .int i=>Q (some i)
 | _=>False
theorem pQ_i:pQ (.int i) Q↔Q (some i):=dP
theorem b7r:Wo (kf f env) Q↔Wo (f env) λr=>pQ r.d Q:=by
 unfold kf
 rw [a0j]
 refine lK λr=>?_
 unfold pQ
 cases r.d<;>simp [a0g,a0n]
theorem b7C:Wo (lh f lo hi env) Q↔Wo (f env) λx=>Wo (lo env) λl=>Wo (hi env) λh =>
  (x.1=true->Q (.ow (cutD x.2 l h)))/\(x.1=false->¬(HT.aX x.2.length 0 l=0/\HT.aX x.2.length x.2.length h=x.2.length)/\Q (.sh (.tup (cutD x.2 l h)))):=by
 unfold lh
 rw [a0j]
 simp only [a0j]
 have h:∀(x:Bool×List D) (l h:Option Int),Wo (if x.1=true then some (Sl.ow (cutD x.2 l h)) else if ¬(HT.aX x.2.length 0 l=0/\HT.aX x.2.length x.2.length h=x.2.length) then some (.sh (.tup (cutD x.2 l h))) else none) Q ↔
   (x.1=true->Q (.ow (cutD x.2 l h)))/\(x.1=false->¬(HT.aX x.2.length 0 l=0/\HT.aX x.2.length x.2.length h=x.2.length)/\Q (.sh (.tup (cutD x.2 l h)))):=λx l h=>by
  obtain ⟨k,ds⟩:=x
  cases k
  .simp only [oB,if_false,gS];simp
  .simp [a0g]
 simp only [h]
theorem Sl_sh:Sl.d (.sh d)=d:=rfl
theorem Sl_ow:Sl.d (.ow ds)=.lst false ds:=rfl
theorem b2Y:Wo (aQ (.lst false a) (.lst false b)) Q↔a.length+b.length<=16777216/\Q (.ow (a++b)):=gS
theorem b2W:Wo (aQ (.tup a) (.tup b)) Q↔a.length+b.length<=16777216/\Q (.sh (.tup (a++b))):=gS
theorem b2X:Wo (aQ (.str a) (.str b)) Q↔a.length+b.length<=16777216/\Q (.sh (.str (a++b))):=gS
theorem a7P :aY "int" .aS=false:=rfl
theorem a89:aY "int" (.bl b)=true:=rfl
theorem a7R:aY "int" (.int i)=true:=rfl
theorem a7O:aY "int" (.str x)=false:=rfl
theorem a7N:aY "int" (.tup ds)=false:=rfl
theorem a7Q:aY "int" (.lst r ds)=false:=rfl
theorem a69 :aY "bool" .aS=false:=rfl
theorem a7S:aY "bool" (.bl b)=true:=rfl
theorem a7b:aY "bool" (.int i)=false:=rfl
theorem a68:aY "bool" (.str x)=false:=rfl
theorem a67:aY "bool" (.tup ds)=false:=rfl
theorem a7a:aY "bool" (.lst r ds)=false:=rfl
theorem a7J :aY "str" .aS=false:=rfl
theorem a88:aY "str" (.bl b)=false:=rfl
theorem a7L:aY "str" (.int i)=false:=rfl
theorem a7I:aY "str" (.str x)=true:=rfl
theorem a7H:aY "str" (.tup ds)=false:=rfl
theorem a7K:aY "str" (.lst r ds)=false:=rfl
theorem a64 :aY "list" .aS=false:=rfl
theorem a7M:aY "list" (.bl b)=false:=rfl
theorem a66:aY "list" (.int i)=false:=rfl
theorem a63:aY "list" (.str x)=false:=rfl
theorem a62:aY "list" (.tup ds)=false:=rfl
theorem a65:aY "list" (.lst r ds)=true:=rfl
theorem a56 :aY "tuple" .aS=false:=rfl
theorem a61:aY "tuple" (.bl b)=false:=rfl
theorem a58:aY "tuple" (.int i)=false:=rfl
theorem a55:aY "tuple" (.str x)=false:=rfl
theorem a54:aY "tuple" (.tup ds)=true:=rfl
theorem a57:aY "tuple" (.lst r ds)=false:=rfl
theorem DB{α β:Type}{f:α->β}{xs:List α}{i:Int}(z:α)(h0:0<=i)(h:i<xs.length):dQ (xs.map f) i=some (f (xs.getD i.toNat z)):=by
 unfold dQ iQ
 rw [bB,if_pos h0,if_pos h]
 have:i.toNat<xs.length:=by ext h0 h
 simp [this]
theorem a78:Wo (forL g F [] env) Q↔Q (.nx,env):=a0g
theorem a7p:Wo (forL g F (d::ds) env) Q↔Wo (g d env) λe=>Wo (F e) (qz (λe=>Wo (forL g F ds e) Q) Q):=by
 rw [forL]
 cases g d env with
 | none=>simp [a0n]
 | some e =>
  rw [a0g]
  dsimp only
  cases F e with
  | none=>simp [a0n]
  | some p =>
   obtain ⟨fl,e2⟩:=p
   rw [a0g]
   cases fl<;>simp [qz,a0g]
theorem b0k:D.cE .aS=true:=rfl
theorem b2e:D.cE (.bl b)=false:=rfl
theorem b0m:D.cE (.int i)=false:=rfl
theorem b0j:D.cE (.str x)=false:=rfl
theorem b0i:D.cE (.tup ds)=false:=rfl
theorem b0l:D.cE (.lst r ds)=false:=rfl
theorem AB(xs:List Int){i:Int}(h0:0<=i)(h1:i<xs.length)(h:∀v∈xs,Q (.int v))(e:ds=xs.map D.int:=by rfl):Wo (dQ ds i) Q:=by
 have hi:i.toNat<xs.length:=by ext h0 h1
 rw [e,DB 0 h0 h1,a0g,show xs.getD i.toNat 0=xs[i.toNat] by simp [hi]]
 exact h _ (nr hi)
theorem b5P:Wo (lH fi caps nt g fc fe env) Q↔Wo (fi env) λds=>Wo (ig caps env) λcs=>ds.length<=16777216/\Wo (lG g fc fe ds (iB nt Sl.no++cs)) λrs=>Q (.ow rs):=by
 unfold lH
 rw [a0j]
 refine lK λds=>?_
 rw [a0j]
 refine lK λcs=>?_
 by_cases h:ds.length<=16777216
 .rw [if_pos h,a1t];exact ⟨λz=>⟨h,z⟩,λz=>z.2⟩
 .rw [if_neg h,a0n];exact ⟨gM,λz=>h z.1⟩
theorem b5R:Wo (ig [] env) Q↔Q []:=a0g
theorem b5Q:Wo (ig (i::is) env) Q↔jO env[i]? λs=>Wo (ig is env) λcs=>Q (s::cs):=by
 rw [ig]
 cases h:env[i]? with
 | none=>simp [a0n,jO]
 | some s=>cases s<;>simp [a0n,jO,a1t]
theorem rep0{l:En}:iB 0 Sl.no++l=l:=rfl
theorem rep1{l:En}:iB 1 Sl.no++l=Sl.no::l:=rfl
theorem rep2{l:En}:iB 2 Sl.no++l=Sl.no::Sl.no::l:=rfl
theorem rep3{l:En}:iB 3 Sl.no++l=Sl.no::Sl.no::Sl.no::l:=rfl
theorem rep4{l:En}:iB 4 Sl.no++l=Sl.no::Sl.no::Sl.no::Sl.no::l:=rfl
theorem b2J:Wo (mR env) Q↔Q true:=a0g
theorem b25:Wo (lG g fc fe [] e) Q↔Q []:=a0g
theorem b26:Wo (lG g fc fe (d::ds) e) Q↔Wo (g d e) λe1=>Wo (fc e1) λb =>
  (b=true->Wo (fe e1) λr=>Wo (lG g fc fe ds e1) λrs=>Q (r.d::rs))/\(b=false->Wo (lG g fc fe ds e1) Q):=by
 rw [lG,a0j]
 refine lK λe1=>?_
 rw [a0j]
 refine lK λb=>?_
 cases b
 .rw [if_neg lx];simp
 .rw [if_pos rfl,a0j];simp only [a0j,a0g];simp
theorem b5A:Wo (ic f env) Q↔Wo (f env) λr=>Wo (d9 r.d) λx=>Q x.2:=by
 unfold ic;rw [a0j];simp only [a1t]
theorem b5B:Wo (jG h f env) Q↔Wo (f env) λds=>Wo (h ds) Q:=a0j
theorem b5z:Wo (Ia f g F env) Q↔Wo (f env) λds=>Wo (forL g F ds env) Q:=a0j
theorem uJ{α:Type}(enc:α->D)(f:α->D)(P:En->Prop)(xs:List α)
  (h:∀a∈xs,∀e,P e->Wo (g (enc a) e) λe1=>P e1/\Wo (fc e1) λb=>b=true/\Wo (fe e1) λr=>r.d=f a):∀{e:En},P e->lG g fc fe (xs.map enc) e=some (xs.map f):=by
 induction xs with
 | nil=>intro e _;rfl
 | cons a xs ih =>
  intro e he
  obtain ⟨e1,g1,p1,b,c1,rfl,r,f1,f2⟩:=h a cm e he
  rw [jL,lG,g1,uk,c1,uk,if_pos rfl,f1,uk,ih (λb hb=>h b (cG _ hb)) p1,f2]
  rfl
theorem b5D:Wo (oj f env) Q↔Wo (f env) λx=>Wo (jQ x.2) λns=>Q (.sh (.int ns.sum)):=by
 unfold oj;rw [a0j];simp only [a1t]
theorem b5N:Wo (mF f env) Q↔Wo (f env) λx=>Wo (eZ x.2) λns=>Q (.sh (.bl (ns.all id))):=by
 unfold mF;rw [a0j];simp only [a1t]
theorem b5L:Wo (zk f env) Q↔Wo (f env) λx=>Wo (eZ x.2) λns=>Q (.sh (.bl (ns.any id))):=by
 unfold zk;rw [a0j];simp only [a1t]
theorem b5G:Wo (zi f env) Q↔Wo (f env) λx=>Wo (jQ x.2) λns=>ns≠[]/\Q (.sh (.int (xV ns))):=by
 unfold zi;rw [a0j];simp only [a0j,gS]
theorem b5H:Wo (zj f env) Q↔Wo (f env) λx=>Wo (jQ x.2) λns=>ns≠[]/\Q (.sh (.int (xY ns))):=by
 unfold zj;rw [a0j];simp only [a0j,gS]
theorem b5n:Wo (jQ (ns.map D.int)) Q↔Q ns:=by rw [JA,a0g]
theorem b1b:Wo (eZ (ns.map D.bl)) Q↔Q ns:=by rw [O3,a0g]
theorem b2N:Wo (jQ []) Q↔Q []:=a0g
theorem b2O:Wo (jQ (.int i::ds)) Q↔Wo (jQ ds) λns=>Q (i::ns):=by
 show Wo ((jQ ds).map (i::·)) Q↔_
 rw [a1t]
theorem b5S:Wo (eZ []) Q↔Q []:=a0g
theorem b5T:Wo (eZ (.bl i::ds)) Q↔Wo (eZ ds) λns=>Q (i::ns):=by
 show Wo ((eZ ds).map (i::·)) Q↔_
 rw [a1t]
theorem X2(P:D->Prop)(hi:i<env.length)
  (hc:Wo (c env) λb=>(b=true->Wo (f env) λr=>P r.d)/\(b=false->∃d,env[i]?=some (.sh d)/\P d))(h:∀d,P d->Q (.nx,env.set i (.sh d))):Wo (cc c (bD i f) cK env) Q:=by
 rw [a2b]
 refine hc.mono λb hb=>⟨λe=>?_,λe=>?_⟩
 .rw [b04]
  exact (hb.1 e).mono λr hr=>⟨hi,h _ hr⟩
 .obtain ⟨d,e1,e2⟩:=hb.2 e
  rw [b5j]
  have:=h d e2
  rwa [show env.set i (.sh d)=env by
   obtain ⟨h1,h2⟩:=kr.mp e1
   rw [<-h2,List.set_getElem_self]] at this
theorem fg{α:Type}{xs:List α}{x:α}:dQ (xs++[x]) (-1)=some x:=by
 unfold dQ iQ
 rw [if_neg (by decide),if_pos (by rw [bQ,Hi];ext),bQ,Hi]
 have:(-1+((xs.length+1:Nat):Int)).toNat=xs.length:=by ext
 rw [this]
 simp
theorem DH(I:Nat->En->Prop)(turn:∀n env,I n env->Wo (c env) λb=>(b=true->Wo (F env) (qz (λe=>∃m,m<n/\I m e) Q))/\(b=false->Q (.nx,env))):
  ∀(fuel n:Nat) {env:En},n<fuel->I n env->Wo (pL c F fuel env) Q
 | 0,n,env,h,_=>absurd h (Cq _)
 | fuel+1,n,env,h,hI=>by
  obtain ⟨b,e1,h1,h2⟩:=turn n env hI
  rw [pL,e1]
  cases b with
  | false=>exact ⟨_,rfl,h2 rfl⟩
  | true =>
   obtain ⟨⟨fl,e2⟩,e3,h3⟩:=h1 rfl
   dsimp only
   rw [e3]
   cases fl with
   | nx=>obtain ⟨m,hm,F0⟩:=h3;exact DH I turn fuel m (by ext h hm) F0
   | ct=>obtain ⟨m,hm,F0⟩:=h3;exact DH I turn fuel m (by ext h hm) F0
   | bk=>exact ⟨_,rfl,h3⟩
   | rt r=>exact ⟨_,rfl,h3⟩
theorem O0:Wo (Dd m c F env) Q↔Wo (pL c F (m env) env) Q:=dP
noncomputable def iZ{α:Type}(xs:List α)(lo hi:Option Int):List α:=(xs.drop (HT.aX xs.length 0 lo)).take (HT.aX xs.length xs.length hi-HT.aX xs.length 0 lo)
theorem Jc{α:Type}{f:α->D}(xs:List α)(lo hi:Option Int):cutD (xs.map f) lo hi=(iZ xs lo hi).map f:=by
 unfold cutD iZ
 rw [bB,<-List.map_drop,<-List.map_take]
theorem b0N{α:Type}(xs:List α){n:Nat}:iZ xs (some (n:Int)) none=xs.drop n:=by
 unfold iZ
 rw [HT.iK,HT.nP]
 by_cases h:n<=xs.length
 .rw [Ct h,z6 (by simp)]
 .rw [Nat.min_eq_right (by ext h),pk (aV _),pk (by ext h)];simp
theorem b2M:Wo (xq [.int j]) Q↔Q (dB 0 j.toNat):=a0g
theorem b2L:Wo (C4 [.int i,.int j]) Q↔Q (dB i (j-i).toNat):=a0g
def Ew(d:D)(l h:Option Int)(Q:Sl->Prop):Prop:=match d with
 | .tup ds=>Q (.sh (.tup (cutD ds l h)))
 | _=>False
theorem slQ_t:Ew (.tup ds) l h Q↔Q (.sh (.tup (cutD ds l h))):=dP
theorem b5E:Wo (qm f lo hi env) Q↔Wo (f env) λx=>Wo (lo env) λl=>Wo (hi env) λh=>Ew x.d l h Q:=by
 unfold qm
 simp only [a0j]
 refine lK λx=>lK λl=>lK λh=>?_
 unfold Ew
 cases x.d<;>simp [a0g,a0n]
theorem b2F:Wo (kG [.tup a,.tup b]) Q↔Q (gW a b):=a0g
theorem b2G:Wo (kG [.tup a,.lst r b]) Q↔Q (gW a b):=a0g
theorem b2H:Wo (kG [.lst r a,.tup b]) Q↔Q (gW a b):=a0g
theorem b2I:Wo (kG [.lst r a,.lst r' b]) Q↔Q (gW a b):=a0g
def Aj(i:Nat)(env:En)(a b:Sl)(Q:Fl×En->Prop):Prop:=match a,b with
 | .sh (.int m),.sh (.int n)=>Q (.nx,env.set i (.sh (.int (m+n))))
 | _,_=>False
theorem b7f:Aj i env (.sh (.int m)) (.sh (.int n)) Q↔Q (.nx,env.set i (.sh (.int (m+n)))):=dP
theorem b7I:Wo (h7 i f env) Q↔jO env[i]? λa=>Wo (f env) λr=>Aj i env a r Q:=by
 constructor
 .rintro ⟨y,e,h⟩
  obtain ⟨m,n,e1,e2,rfl⟩:=Pz e
  rw [e1];exact ⟨_,e2,h⟩
 .intro h
  cases hi:env[i]? with
  | none=>rw [hi] at h;exact h.elim
  | some s =>
   rw [hi] at h
   cases s with
   | no=>exact h.elim
   | ow ds=>exact h.elim
   | dw ds=>exact h.elim
   | sh d =>
    obtain ⟨r,e1,h⟩:=h
    cases d with
    | int m =>
     cases r with
     | sh d2 =>
      cases d2 with
      | int n=>exact ⟨_,by unfold h7;rw [hi,e1],h⟩
      | _=>exact h.elim
     | _=>exact h.elim
    | _=>exact h.elim
theorem b5y:Wo (M2 i j c f env) Q↔bG env[i]? λds=>Wo (forL (gN j) (cc c (aD f) cK) ds env) Q:=by
 unfold M2
 cases h:env[i]? with
 | none=>simp [a0n,bG]
 | some s=>cases s<;>simp [a0n,bG]
theorem b09:Wo (Dh φ f env) Q↔Wo (f env) λr=>Wo (pP φ r.d) Q:=a0j
def Eu(d:D)(Q:Sl->Prop):Prop:=match d with
 | .lst _ ds=>Wo (vY ds) λrs=>Q (.ow rs)
 | _=>False
theorem srQ_l:Eu (.lst r ds) Q↔Wo (vY ds) λrs=>Q (.ow rs):=dP
theorem a9g:Wo (Dr f env) Q↔Wo (f env) λr=>Eu r.d Q:=by
 unfold Dr
 rw [a0j]
 refine lK λr=>?_
 cases r.d<;>simp [Eu,a0n,a1t]
theorem b23:Wo (M' f env) Q↔Wo (f env) λr=>Wo (gP (some r)) λb=>Q (.sh (.int (if b=true then 1 else 0))):=by
 unfold M'
 cases f env with
 | none=>simp [Wo,gP]
 | some r=>rw [a0g,a1t]
end DL
namespace DL
theorem M9(h1:-A<=a)(h2:a<=A)(h3:-B<=b)(h4:b<=B):-(A*B)<=a*b/\a*b<=A*B:=by
 have hA:0<=A:=by ext h1 h2
 have hB:0<=B:=by ext h3 h4
 have e1:(A-a)*(B+b)=A*B+A*b-a*B-a*b:=by grind
 have e2:(A+a)*(B-b)=A*B-A*b+a*B-a*b:=by grind
 have e3:(A-a)*(B-b)=A*B-A*b-a*B+a*b:=by grind
 have e4:(A+a)*(B+b)=A*B+A*b+a*B+a*b:=by grind
 have f1:=vK (show 0<=A-a by ext h2) (show 0<=B+b by ext h3)
 have f2:=vK (show 0<=A+a by ext h1) (show 0<=B-b by ext h4)
 have f3:=vK (show 0<=A-a by ext h2) (show 0<=B-b by ext h4)
 have f4:=vK (show 0<=A+a by ext h1) (show 0<=B+b by ext h3)
 ext e1 e2 e3 e4 f1 f2 f3 f4
theorem Ay(h:-(10^250)<=i)(h2:i<=10^250)(h3:-(10^250)<=j)(h4:j<=10^250):MulC i j:=.inr (.inr ⟨⟨h,h2⟩,h3,h4⟩)
theorem AE(h:0<j)(h2:j<=10^250):DivC i j:=⟨h,h2⟩
theorem OF{a b:Int}(hb:0<b):a/b*b<=a/\a<(a/b+1)*b:=by
 have h1:=Int.emod_add_mul_ediv a b
 have h2:=nD a (Int.ne_of_gt hb)
 have h3:=ny a hb
 generalize a/b=q at *
 exact ⟨by grind,by grind⟩
end DL
namespace DL
open PySem PySem.Spec PyProof.Rows L2
def Tr(h:Heap)(e T:Addr)(c:Value):Prop:=∃oe vs a0 oT ts,h.get? e=some oe/\(oe.cls=c/\vs[0]?=some a0)/\oe.data=.fields vs/\vs[1]?=some (.ref T)/\T≠e/\h.get? T=some oT/\oT.data=.fields ts/\ts[3]?=some .none
structure Lies(h0:Heap)(H:Hp)(h:Heap)(e:Addr)(c:Value):Prop where
 new:h0.get? e=none
 un:H e=none
 tr:∃T,h0.get? T=none/\H T=none/\Tr h e T c
structure Moved(H:Hp)(l:List Env)(ex:List Addr)(h h':Heap):Prop where
 un:Un (mC l) ex H H h h'
section
variable {P:Program}{w:World}{K:aB}{mg:Str->Option Value}{base:Heap}{N:List Str}{qual:Str}{scope:Scope}{f:Addr}{cd:Value}{A:Around}{outer:List Env}{s:Shared}{H:Hp}{E:XK}
end
end DL
namespace DL
open PySem PySem.Spec PyProof.Rows L2
noncomputable abbrev RF:=En->Option (Str×En)
section
variable {X:Cx}{W:L2.St->Hp->Value->Prop}{e a b c:Expr}{es:List Expr}{st:Stmt}{rest sa sb:List Stmt}{F G:SF}{r r':RF}{re:En->Option Str}{fa:En->Option Sl}{ga:En->Option Bool}{fs:En->Option (List D)}{pos p aR np:Pos}
noncomputable def IC:SF:=λ_=>none
theorem ZE:SV X st IC:=⟨λ_ _ _=>False,λ_ _ _ _ _ _ h=>h.elim,λ_ _ _ _ _ _ _ _ _ e _=>by cases e⟩
theorem EV.fR(h:EV X.fR e fa):EV X e fa:=let ⟨t,p,k⟩:=h;⟨t,p.fR,k⟩
theorem TV.fR(h:TV X.fR e ga):TV X e ga:=let ⟨t,p,k⟩:=h;⟨t,p.fR,k⟩
theorem jY.fR(h:jY X.fR rest F):jY X rest F:=let ⟨t,p,k⟩:=h;⟨t,p.fR,k⟩
theorem SV.fR(h:SV X.fR st F):SV X st F:=let ⟨t,p,k⟩:=h;⟨t,λpins s σ H D I hw=>je (p pins s σ H D (I.eH _) hw) (λ_ _ q=>q.bT) λ_ _ z=>gM z,k⟩
theorem AV.fR(h:AV X.fR es fs):AV X es fs:=let ⟨t,p,k⟩:=h;⟨t,λpo pins s σ H Q I hw=>je (p po pins s σ H Q (I.eH _) hw) (λ_ _ ⟨v,H',I',r,q⟩=>⟨v,H',I'.bT,r,q⟩) λ_ _ z=>gM z,k⟩
end
noncomputable abbrev wN:List Value:=[.type "ValueError",.type "Exception",.type "BaseException",.type "object"]
structure ExcC(K:aB)(C:Addr):Prop where
 ob:∃(bm:List Value) (N:Addr) (nm q:Str) (bs:List Value) (FQ:Bool) (sn:List Str) (sub:List Value) (ab:Bool) (col:Option Bool) (dd:Option Addr) (k0 k1 k2 k3 k5:Option Value),K.lookup C=some (excClassObj nm q C N bs bm FQ sn sub ab col dd k0 k1 k2 k3 k5 "ValueError.__new__") /\
  PySem.W.nsOkIn K N=true/\ju K N "__init__" = some none/\PySem.W.tailIn K wN bm=true
section
variable {X:Cx}{W:L2.St->Hp->Value->Prop}{e:Expr}{es:List Expr}{fs:En->Option (List D)}{pos p aR np:Pos}{x:Str}{C:Addr}
end
section
variable {P:Program}{w:World}{K:aB}{mg:Str->Option Value}{base:Heap}
end
end DL
namespace DL
open PySem PySem.Spec PyProof.Rows L2
section
variable {X:Cx}{pins:List (Addr×Obj)}{σ:L2.St}{H:Hp}{s:Shared}{h':Heap}
end
theorem Rel.drop{K:aB}{O:Addr->Prop}{B H:Hp}{σ:L2.St}{env:En}(R:Rel K O B σ H env)(i:Nat):Rel K O B (σ.set i none) H (env.set i .no)/\Gd σ env H (σ.set i none) (env.set i .no) H:=by
 have own:∀q,j6 (σ.set i none) (env.set i .no) q->j6 σ env q:=λq ⟨j,ds,e1,o,e2⟩=>by
  by_cases hj:j=i
  .subst hj
   rw [Hv] at e1
   simp at e1
   rw [<-e1.2] at o
   exact o.elim
  .rw [eD (gJ hj)] at e1 e2
   exact ⟨j,ds,e1,o,e2⟩
 have oo:∀q,OO O (σ.set i none) (env.set i .no) q->OO O σ env q:=λq z=>z.elim .inl λz=>.inr (own q z)
 have at_:∀{j:Nat} {x:Sl},(env.set i .no)[j]?=some x->x≠.no->j≠i/\env[j]?=some x:=λ{j x} e hx=>by
  by_cases hj:j=i
  .subst hj
   rw [Hv] at e
   simp at e
   exact absurd e.2.symm hx
  .rw [eD (gJ hj)] at e
   exact ⟨hj,e⟩
 refine ⟨⟨R.same,R.nh,by simp [R.len],λj d e=>?_,λj ds e=>?_,λj ds e=>?_,λj k ds es p e1 e2 e3 e4 o1 o2=>?_⟩,λq u e n=>⟨e,λz=>n (own q z)⟩⟩
 .obtain ⟨hj,e⟩:=at_ e (λz=>nomatch z)
  obtain ⟨v,e1,h⟩:=R.sh j d e
  exact ⟨v,by rw [eD (gJ hj)];exact e1,h.less oo⟩
 .obtain ⟨hj,e⟩:=at_ e (λz=>nomatch z)
  obtain ⟨p,xs,e1,e2,e3,h⟩:=R.ow j ds e
  exact ⟨p,xs,by rw [eD (gJ hj)];exact e1,e2,e3,h.less oo⟩
 .obtain ⟨hj,e⟩:=at_ e (λz=>nomatch z)
  obtain ⟨p,e1,e2,e3⟩:=R.dw j ds e
  exact ⟨p,by rw [eD (gJ hj)];exact e1,e2,e3⟩
 .obtain ⟨hj,e1⟩:=at_ e1 (λz=>by rw [z] at o1;exact o1)
  obtain ⟨hk,e2⟩:=at_ e2 (λz=>by rw [z] at o2;exact o2)
  rw [eD (gJ hj)] at e3
  rw [eD (gJ hk)] at e4
  exact R.sep j k ds es p e1 e2 e3 e4 o1 o2
end DL
namespace DL
open PySem PySem.Spec PyProof.Rows L2
structure Hx(X:Cx)(N:List Str)(sc:Scope):Prop where
 n:X.N=N
 sc:X.env.scope=sc
 fn:∀x,X.fn x=true
 nd:N.Nodup
section
variable {X:Cx}{N:List Str}{sc:Scope}{k i:Nat}{n Cn:Str}{hc:Value}{body K2:List Stmt}{b0:Stmt}{Fb Fh:SF}{rb:RF}{hit:Str->Bool}{np Fq pos:Pos}
end
end DL
namespace DL
open PySem PySem.W PySem.Spec PySem.Calls PyProof.Rows L2 PySem.Builtin.ObjectAttr PySem.Builtin PySem.Builtin.Getset_descriptor
section
variable {prog:Program}{w:World}{A:Around}{E:Value->Shared->Prop}{s:Shared}{K:Frag}{x C:Addr}
structure KY(K:Frag)(C:Addr):Prop where
 ga:findIn K (.ref C) "__getattribute__" = some (some (.builtin "BaseException.__getattribute__"))
 no:findIn K (.ref C) "__getattr__" = some none
 at_:findIn K (.ref C) "__class__" = some (some (.builtin "object.__class__"))
 get:specialIn K (.builtin "object.__class__") "__get__" = some (some (.builtin "getset_descriptor.__get__"))
 tk:takesIn K (.builtin "object.__class__")=some true
 mro:mroIn K C (.type "object")=some true
 mrB:mroIn K C (.type "BaseException")=some true
end
section
variable {X:Cx}{a:Expr}{pos p p2:Pos}{fa:En->Option Sl}
end
section
variable {X:Cx}{N:List Str}{sc:Scope}{pos p p1 p2 pos' aR:Pos}{e a b:Expr}{fa fb:En->Option Sl}
theorem Hx.v(h:Hx X N sc)(i:Nat)(hN:N[i]?=some x:=by rfl)(hv:gU sc x:=by first | exact bY rfl | exact be (bY rfl) | exact be (be rfl))(hd:(x==("__debug__":Str))=false:=by rfl)
  (cM:(x==("__classdict__":Str))=false:=by rfl):EV X (.Name x pos) (eV i):=NR i (by rw [h.n];exact hN) (by rw [h.sc];exact hv) hd cM
theorem Hx.g(h:Hx X N sc)(hg:sc.names.lookup x=some .globalImplicit:=by rfl):Gl X x:=by
 show X.env.kindOf x=some .globalImplicit
 unfold Env.kindOf
 rw [h.sc]
 exact hg
theorem Hx.set(h:Hx X N sc)(i:Nat)(he:EV X e fa)(hN:N[i]?=some x:=by rfl)(hv:Loc sc x:=by first | exact bY rfl | exact be rfl)
  (hs:swapsWith e (some (.Name x pos')) pos.line X.env=pure false:=by rfl):SV X (.Assign [.Name x pos'] e pos) (df i fa):=NH (by rw [h.n];exact h.nd) (by rw [h.n];exact hN) (by rw [h.sc];exact hv) he hs (.inl (h.fn x))
theorem Hx.app(h:Hx X N sc)(i:Nat)(ha:EV X e fa)(hN:N[i]?=some x:=by rfl)(hv:gU sc x:=by first | exact bY rfl | exact be (bY rfl) | exact be (be rfl))(hd:(x==("__debug__":Str))=false:=by rfl)
  (cM:(x==("__classdict__":Str))=false:=by rfl)(hs:starEach [e] X.env=[(false,eval e X.env)]:=by rfl)
  (bP:attributeBase (.Name x p1) "append" X.env (eval (.Name x p1) X.env)=eval (.Name x p1) X.env:=by rfl)
  (gr:((backTo aR (starEach [e] X.env)).all (λx=>!x.1)&&(backToKw aR (keywordEach [] X.env)).all (λx=>x.1.isSome)
   && decide ([e].length+([]:List Keyword).length+(if ([]:List Keyword).isEmpty then 0 else 1)<30))=true:=by rfl)
  (bO:(p2.endLine==aR.line)=true:=by rfl)
  (p8:swapsWith (.Call (.Attribute (.Name x p1) "append" p2) [e] [] aR) none pos.line X.env=pure false:=by rfl):
  SV X (.Expr (.Call (.Attribute (.Name x p1) "append" p2) [e] [] aR) pos) (cL i fa):=Pl ha (by rw [h.n];exact hN) (by rw [h.sc];exact hv) hd cM hs bP gr bO p8
end
structure Cl(K:Frag)(mg:Str->Option Value)(x:Str)(C:Addr):Prop where
 ns:nsIn K mainGlobals x=some (some (.ref C))
 m:mg x=some (.ref C)
 ck:KY K C
 cd:(clsIn K C).isSome=true
theorem Fx.fR{X:Cx}{N:List Str}{sc:Scope}{k:Nat}{full:Bool}(h:Fx X N sc k full):Fx X.fR N sc k full:=⟨h.n,h.sc,h.calm,h.fn,G',h.room,h.nd,h.top⟩
theorem Hx.aJ{X:Cx}{N:List Str}{sc:Scope}{pos pos':Pos}{e:Expr}{fa:En->Option Sl}(h:Hx X N sc)(i:Nat){x:Str}(he:EV X e fa)(hN:N[i]?=some x:=by rfl)(hv:Loc sc x:=by first | exact bY rfl | exact be rfl)
  (hs:swapsWith e (some (.Name x pos')) pos.line X.env=pure false:=by rfl):SV X (.Assign [.Name x pos'] e pos) (bD i fa):=Og (by rw [h.n];exact h.nd) (by rw [h.n];exact hN) (by rw [h.sc];exact hv) he hs (.inl (h.fn x))
theorem b05:Wo (IC env) Q↔False:=a0n
end DL
namespace DL
open PySem PySem.Spec PyProof.Rows L2
theorem YH{P:Program}{w:World}{K:aB}{mg:Str->Option Value}{base:Heap}{k n:Nat}{f:Addr}{fd:FuncData}{ps:List Str}{φ:List D->Option Sl}(h:∀ds r,φ ds=some r->False):bM P w K mg base iH k f fd ps (mo K n φ):=
 ⟨λvs H Q E q=>by obtain ⟨O,ds,r,_,_,_,e,_⟩:=q;exact (h ds r e).elim,λA outer s H args us vs Q E _ _ _ _ q=>by obtain ⟨O,ds,r,_,_,_,e,_⟩:=q;exact (h ds r e).elim⟩
section
variable {X:Cx}{W:L2.St->Hp->Value->Prop}{it tg:Expr}{re:En->Option Str}{pos:Pos}
end
theorem Yk{P:Program}{w:World}{K:aB}{mg:Str->Option Value}{base:Heap}{x:Str}{st:Stmt}{ps:List Str}{j:Nat}{f:Addr}{fd:FuncData}(D':Def K mg x st ps f fd):Oz P w K mg base x st ps j λ_=>none:=⟨f,fd,D',YH λ_ _ z=>nomatch z⟩
end DL
namespace DL
open PySem PySem.Spec PyProof.Rows L2
mutual
noncomputable def nE:D->Bool
 | .tup ds=>Dc ds
 | .lst _ _=>false
 | .exc _=>false
 | .fD _ _=>false
 | .aS=>true
 | .bl _=>true
 | .int _=>true
 | .str _=>true
noncomputable def Dc:List D->Bool
 | []=>true
 | d::r=>nE d&&Dc r
end
section
variable {K:aB}{O O':Addr->Prop}{H:Hp}{p:Addr}{ys:List V}
theorem xt(hp:H p=some (.lst ys))(h:Rd H q (.tup xs)):q≠p:=λz=>by
 subst z
 rcases h with h | ⟨o,h⟩
 .rw [hp] at h;cases h
 .rw [hp] at h;cases h
mutual
theorem N1(hp:H p=some (.lst ys))(hO:∀q,O q->O' q\/q=p):∀{v:V} {d:D},Is K O' H v d->nE d=true->Is K O H v d
 | _,_,.aS,_=>.aS
 | _,_,.bl b,_=>.bl b
 | _,_,.int i,_=>.int i
 | _,_,.str x,_=>.str x
 | _,_,.tup ho h1 hs,f=>.tup (λz=>(hO _ z).elim ho (xt hp h1)) h1 (Js hp hO hs (by simpa [nE] using f))
 | _,_,.jD h1 hs,f=>.jD h1 (Js hp hO hs (by simpa [nE] using f))
 | _,_,.lst _ _ _,f=>by simp [nE] at f
 | _,_,.jB _ _ _,f=>by simp [nE] at f
 | _,_,.jE _ _,f=>by simp [nE] at f
 | _,_,.exc _ _ _,f=>by simp [nE] at f
 | _,_,.fD _ _,f=>by simp [nE] at f
 | _,_,.om _ _,f=>by simp [nE] at f
theorem Js(hp:H p=some (.lst ys))(hO:∀q,O q->O' q\/q=p):∀{v:List V} {d:List D},aI K O' H v d->Dc d=true->aI K O H v d
 | _,_,.nil,_=>.nil
 | _,_,.cons h t,f=>by
  simp only [Dc,qt] at f
  exact .cons (N1 hp hO h f.1) (Js hp hO t f.2)
end
end
noncomputable def Ah(i:Nat)(f:En->Option Sl):En->Option Sl:=λenv=>match env[i]? with
 | some (.ow ds)=>(match f (env.set i (.sh (.lst false ds))) with
  | some (.sh d)=>if nE d=true then some (.sh d) else none
  | _=>none)
 | _=>none
theorem YF(i:Nat)(h:EV X e f):EV X e (Ah i f):=by
 obtain ⟨t,pt,k⟩:=h
 refine ⟨t,pt,λO B σ H env r Q R er q=>?_⟩
 unfold Ah at er
 split at er
 .rename_i ds he
  obtain ⟨R',_⟩:=R.iW he
  split at er
  .rename_i d hf
   split at er
   .rename_i yK
    cases er
    obtain ⟨p,xs,hs,hB,hp,hi⟩:=R.ow i ds he
    refine k O B σ H _ _ Q R' hf λv H' sm rv=>q v H' sm ?_
    refine N1 (p:=p) (ys:=xs) (sm _ _ hp) (λz hz=>?_) rv yK
    rcases hz with hz | ⟨j,es,hj,ho,hz⟩
    .exact .inl (.inl hz)
    .by_cases LF:j=i
     .subst LF
      rw [hs] at hz
      cases hz
      exact .inr rfl
     .exact .inl (.inr ⟨j,es,by rw [eD (λw=>LF w.symm)];exact hj,ho,hz⟩)
   .cases er
  .cases er
 .cases er
theorem Zx(he:env[i]?=some (.ow ds))(h:Wo (f (env.set i (.sh (.lst false ds)))) λs=>∃d,s=.sh d/\nE d=true/\Q (.sh d)):Wo (Ah i f env) Q:=by
 obtain ⟨s,e,d,rfl,h1,h2⟩:=h
 refine ⟨.sh d,?_,h2⟩
 unfold Ah
 rw [he]
 dsimp only
 rw [e]
 dsimp only
 rw [if_pos h1]
end DL
namespace DL
open PySem PySem.Spec PyProof.Rows L2
noncomputable def qJ(lo c:Int)(n:Nat):It:=⟨λi _=>i<n,λi H x H'=>H'=H/\x=.int (lo+i*c),λi _=>n<=i⟩
theorem a7q{P:Program}{w:World}{K:aB}{tg:Expr}(it:Addr)(lo c:Int)(n:Nat):Turn P w K tg (qJ lo c n) [it] it (λi h=>IsRangeIter h it (lo+(i:Nat)*c) ((n:Int)-(i:Nat)) c) where
 mem:=by simp
 obj:=λi h st b hb=>by
  have e:b=it:=by simpa using hb
  subst e
  exact ⟨_,st,λv z=>by
   have z':B6 _=vy v:=z
   cases z'⟩
 keep:=λi h h' st k=>k it (by simp) _ st
 item:=by
  intro X hP hw hK hc i pins s σ H E I hf st hg
  subst hP hw hK
  obtain ⟨f0,f1,f2,f3,f4,f5⟩:=hf it (by simp)
  have W:=Walks.range (prog:=X.prog) (w:=X.w) (I.ok.hd hc) it lo c n
  refine W.item i s _ _ hg st λv h' tk hv ag kk=>?_
  obtain ⟨t,rfl⟩:=hv
  have I1:Inv X pins σ H { s with heap:=h',toks:=tk }:=I.turned (λb o hb e=>kk b o (by simpa using hb) e) f0 f1 f3 f4 f5
  exact ⟨_,rfl,Ae (s:={ s with heap:=h',toks:=tk }) (n:="range_iterator") ag rfl rfl (by decide) ⟨.int (lo+i*c),H,I1,⟨t,rfl⟩,⟨rfl,rfl⟩,ag,λb hb=>(hf b hb).1⟩⟩
 done:=by
  intro X hP hw hK hc i pins s σ H E I hf st hg
  subst hP hw hK
  obtain ⟨f0,f1,f2,f3,f4,f5⟩:=hf it (by simp)
  exact wpAny_pyNext_range_end (I.ok.hd hc) st (by have:n<=i:=hg;ext this) λh' eb=>⟨rfl,I.turned (t':=s.toks) (λb o hb e=>eb b o hb e) f0 f1 f3 f4 f5⟩
 self:=λ_ _ _ _ _ st h=>wpAny_pyIter_rangeiter st h
noncomputable def dA(i j c:Int):Nat:=if i<j then ((j-i-1)/c+1).toNat else 0
theorem Py(hc:0<c):(dA i j c:Int)=zP i j c:=by
 unfold dA zP
 rw [if_pos hc]
 split
 .have:0<=(j-i-1)/c:=G6 (by lia) (by ext hc)
  ext this
 .rfl
theorem Y8(hc:0<c):(dA i j c:Int)<=max 0 (j-i):=by
 unfold dA
 split
 .have:(j-i-1)/c<=j-i-1:=Int.ediv_le_self _ (by omega)
  have:0<=(j-i-1)/c:=G6 (by omega) (by ext hc)
  omega
 .ext
def jZ(i j c:Int):Prop:=(0<c/\c<=2^20)/\(-(2^20)<=i/\i<=2^20) /\ -(2^20)<=j/\j<=2^20
noncomputable instance (i j c:Int):Decidable (jZ i j c):=by unfold jZ;infer_instance
theorem AF(h:-(2^30)<=n/\n<=2^30):MS n=true:=by
 unfold MS
 simp
 lia
theorem a8Q(h:jZ i j c):Ho i j c=true:=by
 obtain ⟨h1,h2,h3⟩:=h
 have hm:=Y8 (i:=i) (j:=j) h1.1
 have hs:=Py (i:=i) (j:=j) h1.1
 unfold Ho
 rw [<-hs,AF (by ext h2),AF (by ext h3),AF (by ext h1),AF (by ext h2 h3 hm),if_pos h1.1,AF (by ext h1 h3)]
 simp
section
variable {X:Cx}{tg:Expr}
theorem a9P{pins:List (Addr×Obj)}{σ:L2.St}{H:Hp}{s:Shared}{R:It->Hp->Prop}{E:Value->Shared->Prop}{i j c:Int}{t u v:Tok}{tk:Nat}(I:Inv X pins σ H s)(hc:jZ i j c)
  (q:R (qJ i c (dA i j c)) H):wpAny (model X.prog X.w) X.A (pyIter (.ref s.heap.objs.size)) (D4 X pins σ tg R) E { s with heap:=s.heap.push { cls:=.type "range",data:=.fields #[.int i t,.int j u,.int c v] },toks:=tk }:=by
 have I1:Inv X pins σ H { s with heap:=s.heap.push { cls:=.type "range",data:=.fields #[.int i t,.int j u,.int c v] },toks:=tk }:=I.kept λb o e=>aZ _ e
 have e1:i+((0:Nat):Int)*c=i:=by simp
 have e2:((dA i j c:Nat):Int)-((0:Nat):Int)=zP i j c:=by rw [<-Py hc.1.1];ext
 have fin:∀b∈[(s.heap.push { cls:=.type "range",data:=.fields #[.int i t,.int j u,.int c v] }).objs.size],cP X pins H b:=λb hb=>by
  have e:b=(s.heap.push { cls:=.type "range",data:=.fields #[.int i t,.int j u,.int c v] }).objs.size:=by simpa using hb
  subst e
  exact I1.iX (aV _) (I1.bb.fresh (aV _))
 refine Hn (B5 ..) (a8Q hc) ?_
 refine ⟨_,[(s.heap.push { cls:=.type "range",data:=.fields #[.int i t,.int j u,.int c v] }).objs.size],_,_,H,rfl,I1.kept (t':=tk) λb o e=>aZ _ e,a7q _ i c (dA i j c),?_,fin,q⟩
 show IsRangeIter _ _ (i+((0:Nat):Int)*c) (((dA i j c:Nat):Int)-((0:Nat):Int)) c
 rw [e1,e2]
 exact c9 _ rfl
noncomputable def XC(ta:TA):TI:=λσ H R=>ta σ H λvs H1=>∃i j c:Int,vs=[.int i,.int j,.int c]/\jZ i j c/\R (qJ i c (dA i j c)) H1
theorem a8W{a b c:Expr}{ta:TA}{p pos:Pos}(hg:Gl X "range")(hm:X.mg "range" = none)(ha:PA X [a,b,c] ta)(hs:starEach [a,b,c] X.env=[(false,eval a X.env),(false,eval b X.env),(false,eval c X.env)]:=by rfl)(dN:starEach [b,c] X.env=[(false,eval b X.env),(false,eval c X.env)]:=by rfl):
  PI X tg (.Call (.Name "range" p) [a,b,c] [] pos) (XC ta):=by
 intro pins s σ H R I h
 refine Call_ (rR I hg hm boot_range (zS (bz (ha pos pins s σ H _ I h) λus s1 ⟨vs,H1,I1,r1,q1⟩=>?_) (by rw [hs,dN]) (by rw [dN];rfl)))
 obtain ⟨i,j,c,e,hc,q⟩:=q1
 subst e
 cases r1 with
 | cons r rr =>
  cases rr with
  | cons r' rr =>
   cases rr with
   | cons Ru rr =>
    cases rr
    obtain ⟨t,rfl⟩:=r
    obtain ⟨t',rfl⟩:=r'
    obtain ⟨t'',rfl⟩:=Ru
    exact call_range_3 (by have:=hc.1.1;ext this) (a9P I1 hc q) (.inl (PyProof.noPylong_small (by have:=hc.1;omega)))
noncomputable def iN(lo c:Int)(n:Nat):List D:=(jt n).map λ(k:Nat)=>D.int (lo+(k:Int)*c)
theorem a9M{K:aB}{O:Addr->Prop}{H:Hp}(lo c:Int)(n:Nat):v7 K O (qJ lo c n) H (iN lo c n):=λO' H2 _ _ i=>by
 refine ⟨λd hd=>?_,λhl=>show n<=i by simpa [iN] using hl⟩
 unfold iN at hd
 rw [l9] at hd
 obtain ⟨k,hk,rfl⟩:=map_some hd
 obtain ⟨hi,rfl⟩:=kr.mp hk
 rw [vR] at hi
 refine ⟨hi,λx H3 hy=>?_⟩
 obtain ⟨rfl,rfl⟩:=hy
 rw [L8]
 exact ⟨ar.refl _,Is.int _⟩
noncomputable def vV:List D->Option (List D)
 | [.int i,.int j,.int c]=>if jZ i j c then some (iN i c (dA i j c)) else none
 | _=>none
theorem b0d{K:aB}{O:Addr->Prop}{H:Hp}{xs:List V}{i j k:Int}(h:aI K O H xs [.int i,.int j,.int k]):xs=[.int i,.int j,.int k]:=by
 cases h with
 | cons h t=>cases t with
  | cons h' t=>cases t with
   | cons Vr t=>cases t;rw [fZ h,fZ h',fZ Vr]
theorem OJ{a b c:Expr}{fs:En->Option (List D)}{p pos:Pos}(tH:Gl X "range")(hm:X.mg "range" = none)(ha:AV X [a,b,c] fs)(h1:starEach [a,b,c] X.env=[(false,eval a X.env),(false,eval b X.env),(false,eval c X.env)]:=by rfl)
  (h2:starEach [b,c] X.env=[(false,eval b X.env),(false,eval c X.env)]:=by rfl):IV X tg (.Call (.Name "range" p) [a,b,c] [] pos) (jG vV fs):=by
 obtain ⟨ti,pi,ki⟩:=ha
 refine ⟨_,a8W tH hm pi h1 h2,λO B σ H env ds R Rl e q=>?_⟩
 obtain ⟨as,e1,e2⟩:=bind_some e
 refine ki O B σ H env as _ Rl e1 λvs H1 s1 r1=>?_
 unfold vV at e2
 split at e2
 .obtain ⟨h1,rfl⟩:=il e2
  exact ⟨_,_,_,b0d r1,h1,q _ H1 s1 (a9M _ _ _)⟩
 .cases e2
theorem OZ:Wo (vV [.int i,.int j,.int c]) Q↔jZ i j c/\Q (iN i c (dA i j c)):=by
 unfold vV
 exact gS
end
end DL
namespace DL
open PySem PySem.Spec PyProof.Rows L2
section
variable {X X':Cx}
def KW(mg:Str->Option Value)(x:Str)(n:Int):Prop:=∃t,mg x=some (.int n t)
theorem Zn(hg:Gl X x)(hm:KW X.mg x n)(hd:(x==("__debug__":Str))=false:=by decide):EV X (.Name x pos) (eC (.int n)):=by
 obtain ⟨t,hm⟩:=hm
 refine ⟨_,Yo (v:=.int n) hg hm ⟨t,rfl⟩ hd,λO B σ H env s Q R e q=>?_⟩
 cases e
 exact q _ H (ar.refl _) (Is.int _)
end
section
variable {X:Cx}{N:List Str}{sc:Scope}{k:Nat}{full:Bool}{pos pos':Pos}{e:Expr}{fa:En->Option Sl}
noncomputable def C5(C:Int->Int->Prop)[∀i j,Decidable (C i j)](g:Int->Int->Int)(i:Nat)(f:En->Option Sl):SF:=λenv=>match env[i]? with
 | some (.sh (.int m))=>match f env with
  | some (.sh (.int n))=>if C m n then some (.nx,env.set i (.sh (.int (g m n)))) else none
  | _=>none
 | _=>none
theorem a8S{C:Int->Int->Prop}[∀i j,Decidable (C i j)]{g:Int->Int->Int}{i:Nat}{f:En->Option Sl}{env:En}{y:Fl×En}(h:C5 C g i f env=some y):∃m n,env[i]?=some (.sh (.int m))/\f env=some (.sh (.int n))/\C m n/\y=(.nx,env.set i (.sh (.int (g m n)))):=by
 unfold C5 at h
 split at h
 .rename_i m e1
  split at h
  .rename_i n e2
   obtain ⟨hc,h⟩:=il h
   exact ⟨m,n,e1,e2,hc,h.symm⟩
  .cases h
 .cases h
noncomputable instance (i j:Int):Decidable (j9 i j):=by unfold j9;infer_instance
noncomputable def C6:Nat->(En->Option Sl)->SF:=C5 j9 λi j=>i*j
theorem UA:KN X .Mult (λx y H Q=>∃i j,x=.int i/\y=.int j/\j9 i j/\Q (.int (i*j)) H):=λpins s σ H x y v u Q I r1 r2 h=>YM pins s σ H x y v u Q I r1 r2 h
theorem Fx.Ir(h:Fx X N sc k full)(i:Nat)(he:EV X e fa)(hN:N[i]?=some x:=by rfl)(hv:Loc sc x:=by first | exact bY rfl | exact be rfl)
  (hf:full=true\/sc.names.lookup x=some .local:=by first | exact bY rfl | exact be rfl):SV X (.AugAssign (.Name x pos') .Mult e pos) (C6 i fa):=by
 obtain ⟨t,p,kk⟩:=he
 refine ⟨_,Nx h.ve (h.ix hN) (h.loc hv) p UA (h.u5 hf),λO B σ H env fl ak D R e q=>?_⟩
 obtain ⟨m,n,hi,e1,hc,e2⟩:=a8S e
 cases e2
 obtain ⟨v,e3,hv⟩:=R.sh i _ hi
 obtain rfl:=fZ hv
 refine ⟨_,e3,kk O B σ H env _ _ R e1 λv H1 s1 r1=>?_⟩
 obtain rfl:=fZ r1
 refine ⟨m,n,rfl,rfl,hc,?_⟩
 obtain ⟨R',g'⟩:=R.set (v:=.int (m*n)) (r:=.sh (.int (m*n))) s1 (Is.int (m*n)) (kr.mp hi).1
 exact q _ H1 R' g'
end
end DL
namespace TS
open PySem PyProof.Rows
section
variable {prog:Program}{w:World}{A:Around}{E:Value->Shared->Prop}{s:Shared}
theorem xh{l0:Addr}{vs:List Value}{n:Nat}{P:PySem.Fin->Shared->Prop}{κ:SortKind}{R:Array Value->Prop}(oU:s.heap.get? l0=some (seqObj "list" vs.toArray n))(hZ:vs.length<=sizeLine)(hR:vs.length<2->R vs.toArray)(hz:∀out,R out->out.size=vs.length)
  (run:∀S:Shared,(∀b o,b≠l0->s.heap.get? b=some o->S.heap.get? b=some o)->2<=vs.length->(∀{A:Around} {E:Value->Shared->Prop} {Q:SortKind->Shared->Prop},Q κ S->wpAny (model prog w) A (keyKind' vs.toArray) Q E S)/\∀{A:Around} {E:Value->Shared->Prop},wpS (model prog w) A E S sortRuns' (λ_ ag=>R ((arrOf ag).map (·.2))/\failedOf ag=none) (qr κ (pairsOf vs) #[] 7 none))
  (h:∀out:Array Value,R out->P (.done (.ret .none)) { s with heap:=sortedHeap s.heap l0 vs out }):wpAny (model prog w) A (Builtin.«list.sort» ⟨[.ref l0],[]⟩) P E s:=by
 have bg:l0<s.heap.objs.size:=bF oU
 obtain ⟨k1,oV⟩:∃k1,(s.heap.update l0 (cW λ_=>#[])).get? l0=some (seqObj "list" #[] k1):=⟨_,zM oU λ_=>#[]⟩
 rw [list_sort_plain]
 have yV:vs.toArray.size<=sizeLine:=by rw [cZ];exact hZ
 have FX:vs.toArray.toList.length<=sizeLine:=yV
 refine ah (ua oU rfl (ah (rA (hsz:=yV) oU rfl (ah (vC oV rfl (ah (zy (hsz:=FX) (ah (vM (lz ?_))))))))))
 have gH:(((s.heap.update l0 (cW λ_=>#[])).push (seqObj "tuple" vs.toArray 0)).push (seqObj "list" #[] 0)).get? l0=some (seqObj "list" #[] k1):=aZ _ (aZ _ oV)
 have up:∀b o,b≠l0->s.heap.get? b=some o->(((s.heap.update l0 (cW λ_=>#[])).push (seqObj "tuple" vs.toArray 0)).push (seqObj "list" #[] 0)).get? b=some o:=λb o hb e =>
  aZ _ (aZ _ ((ui _ _ (gJ hb)).trans e))
 dsimp only
 show wpAny _ _ _ _ _ { s with heap:=((s.heap.update l0 (cW λ_=>#[])).push (seqObj "tuple" vs.toArray 0)).push (seqObj "list" #[] 0) }
 generalize hS:({ s with heap:=((s.heap.update l0 (cW λ_=>#[])).push (seqObj "tuple" vs.toArray 0)).push (seqObj "list" #[] 0) }:Shared)=S
 have BO:S.heap=((s.heap.update l0 (cW λ_=>#[])).push (seqObj "tuple" vs.toArray 0)).push (seqObj "list" #[] 0):=by rw [<-hS]
 have gq:S.heap.get? l0=some (seqObj "list" #[] k1):=by rw [BO];exact gH
 have ends:∀st:SortSt,R ((arrOf st).map (·.2))->failedOf st=none ->
   wpAny (model prog w) A (do
    let touched:=(<-seqEpoch l0) != k1
    Ml (.ref l0) λ_=>(arrOf st).map (·.2)
    if let some e:=failedOf st then rule "list.sort.comparison-raised";throw e
    if touched then rule "list.sort.modified";raiseError "ValueError" "list modified during sort"
    ret .none) P E S:=λst hr hf=>by
  refine ah (vC gq rfl (ah (rA gq rfl ?_ (hsz2:=?_))))
  .rw [hf]
   simp only [bne_self_eq_false,oB,if_false]
   refine aH ?_
   have:=h _ hr
   rw [<-hS]
   exact this
  .rw [hz _ hr];ext hZ
 have hsz:vs.toArray.size=vs.length:=by simp
 by_cases h2:vs.toArray.size<2
 .rw [if_pos h2]
  refine ah (aH ?_)
  rw [if_pos h2,StateT.run_pure]
  refine ah (aH ?_)
  refine ends (qr general' (pairsOf vs) #[] 7 none) ?_ rfl
  have e:(pairsOf vs).map (·.2)=vs.toArray:=by
   apply GX.mp
   rw [Array.toList_map,rK,List.map_snd_zip (aV _)]
  show R ((pairsOf vs).map (·.2))
  rw [e]
  exact hR (by ext h2)
 .rw [if_neg h2]
  obtain ⟨r1,r2⟩:=run S (λb o hb e=>by rw [BO];exact up b o hb e) (by ext hsz h2)
  refine ah (r1 ?_)
  rw [if_neg h2]
  refine ah (je r2 (λr s' hr=>?_) λ_ _ z=>z)
  obtain ⟨rfl,p1,p2⟩:=hr
  exact ends r.2 p1 p2
end
end TS
namespace SE
open PySem PyProof.Rows
def fN(l:List Nat):Prop:=l.Pairwise (·<·)
theorem fN.lt{xs:Array Nat}(h:fN xs.toList){a b d:Nat}(l4:a<b)(hb:b<xs.size):xs.getD a d<xs.getD b d:=by
 have ha:a<xs.size:=GD l4 hb
 have:=(zQ.mp h) a b (by simpa using ha) (by simpa using hb) l4
 simp only [Ab] at this
 simpa [vD,ha,hb] using this
structure Bl(xs:Array Nat)(j r:Nat):Prop where
 le:r<=xs.size
 lo:∀k,k<r->xs.getD k j<j
 hi:∀k,r<=k->k<xs.size->j<=xs.getD k j
theorem HV{xs:Array Nat}{j:Nat}(hr:fN xs.toList):∀(n lo hi:Nat),hi-lo<=n->lo<=hi->hi<=xs.size->(∀k,k<lo->xs.getD k j<j)->(∀k,hi<=k->k<xs.size->j<=xs.getD k j)->Bl xs j (L4 xs j n lo hi)
 | 0,lo,hi,a,b,c,d,e=>by
  have:lo=hi:=by omega
  subst this
  exact ⟨c,d,e⟩
 | n+1,lo,hi,a,b,c,d,e=>by
  unfold L4
  split
  .rename_i bg
   dsimp only
   split
   .rename_i hm
    refine HV hr n _ _ (by omega) (by omega) c (λk hk=>?_) e
    rcases B9 k ((lo+hi)/2) with q | q
    .exact GD (hr.lt q (by omega)) hm
    .rw [show k=(lo+hi)/2 by omega];exact hm
   .rename_i hm
    refine HV hr n _ _ (by omega) (by omega) (by omega) d (λk hk hs=>?_)
    rcases B9 ((lo+hi)/2) k with q | q
    .exact rz (Nat.lt_of_le_of_lt (Nat.not_lt.mp hm) (hr.lt q hs))
    .rw [show k=(lo+hi)/2 by omega];exact Nat.not_lt.mp hm
  .have:lo=hi:=by omega
   subst this
   exact ⟨c,d,e⟩
theorem O2{xs:Array Nat}(hr:fN xs.toList)(j:Nat):Bl xs j (oz xs j):=
 HV hr _ _ _ (aV _) (jM _) (aV _) (λ_ h=>absurd h (Cq _)) λk h h'=>absurd h' (by omega)
theorem Z2{xs:Array Nat}(hr:fN xs.toList){j:Nat}(hj:(xs[oz xs j]?==some j)=false):fN (SetTable.insertAt xs (oz xs j) j).toList:=by
 have B:=O2 hr j
 generalize oz xs j=r at B hj
 rw [SetTable.toList_insertAt]
 have e1:xs.toList=xs.toList.take r++xs.toList.drop r:=(mJ r _).symm
 have p:=hr
 unfold fN at p
 rw [e1,fI] at p
 have lo:∀a∈xs.toList.take r,a<j:=λa ha=>by
  obtain ⟨k,hk,e⟩:=mI.mp ha
  rw [iE] at hk
  rw [Cj] at e
  have qZ:k<xs.size:=by simp at hk;omega
  have:=B.lo k (by omega)
  simp only [Ab] at e
  simp only [vD,qZ,dif_pos] at this
  rw [<-e];exact this
 have hi:∀a∈xs.toList.drop r,j<a:=λa ha=>by
  obtain ⟨k,hk,e⟩:=mI.mp ha
  rw [l8] at hk
  rw [Hr] at e
  have qZ:r+k<xs.size:=by simp at hk;omega
  have h1:=B.hi (r+k) (by omega) qZ
  simp only [Ab] at e
  simp only [vD,qZ,dif_pos] at h1
  have h1:j<=a:=by rw [<-e];exact h1
  rcases Nat.lt_or_eq_of_le h1 with q | q
  .exact q
  .exfalso
   rcases Hm k with z | z
   .subst z
    rw [vN (by omega:r<xs.size)] at hj
    have e':xs[r]'(by omega)=j:=by rw [q];exact e
    rw [e'] at hj
    simp at hj
   .have:=hr.lt (d:=j) (show r<r+k by omega) qZ
    have h2:=B.hi r (aV _) (by omega)
    have h3:xs.getD (r+k) j=a:=by simp only [vD,qZ,dif_pos];exact e
    omega
 show List.Pairwise _ _
 first
 | (refine fI.mpr ⟨p.1,fE.mpr ⟨hi,p.2.1⟩,λa ha b hb=>?_⟩
    rcases bx.mp hb with q | q
    .rw [q];exact lo a ha
    .exact p.2.2 a ha b q)
structure Tb(bt:Bool)(t:SetTable):Prop where
 led:t.led=true\/bt=true
 Gq:t.dummies=#[]
 rise:t.plain=true->fN t.place.toList
theorem ZF(bt:Bool):Tb bt (.fresh 0 0 (!bt)):=⟨by cases bt<;>simp [SetTable.fresh],rfl,λ_=>ur⟩
theorem Tb.lU{bt:Bool}{t:SetTable}(h:Tb bt t)(n:Nat):Tb bt (t.standIn n):=⟨h.led,rfl,λz=>absurd z (by simp [SetTable.standIn])⟩
theorem Tb.off{bt:Bool}{t:SetTable}(h:Tb bt t):Tb bt { t with plain:=false }:=⟨h.led,h.Gq,λz=>absurd z (by simp)⟩
theorem NY(j:Nat):SetTable.has #[] j=false:=by simp [SetTable.has]
theorem PF{t:SetTable}(hd:t.dummies=#[])(f:Nat->Int)(h:Int):∀(n:Nat) (p:L') (j:Nat) (q:Option Nat),p.dummy=none->G3 t f h n p=some (.empty j q)->q=none/\(t.place[oz t.place j]?==some j)=false
 | 0,p,j,q,_,e=>by simp [G3] at e
 | n+1,p,j,q,hp,e=>by
  have ad:∀p:L',(t.advance p).dummy=p.dummy:=λp=>by unfold SetTable.advance;split<;>rfl
  unfold G3 at e
  unfold SetTable.slot at e
  rw [hd,NY] at e
  dsimp only at e
  by_cases hl:(t.place[oz t.place p.j]?==some p.j)=true
  .rw [if_pos hl] at e
   dsimp only at e
   split at e
   .simp at e
   .exact PF hd f h n _ j q (by rw [ad];exact hp) e
  .rw [if_neg hl] at e
   simp only [oB,if_false,c7,SetTable.Met.empty.injEq] at e
   obtain ⟨rfl,rfl⟩:=e
   exact ⟨hp,Bool.eq_false_iff.mpr hl⟩
theorem Tb.lay{bt:Bool}{t:SetTable}(T:Tb bt t)(es:Array (Int×Value))(h:Int)(x:Value):Tb bt (layNew t es h x).2.1:=by
 unfold layNew
 cases hf:t.freeSlot h with
 | none=>exact T.lU _
 | some z =>
  obtain ⟨slot,wd⟩:=z
  dsimp only
  have key:wd=false/\(t.place[oz t.place slot]?==some slot)=false:=by
   unfold SetTable.freeSlot SetTable.probe at hf
   split at hf
   .rename_i j q e
    obtain ⟨rfl,b⟩:=PF T.Gq _ _ _ _ j q rfl e
    simp only [G1,Option.isSome_none,c7,Prod.mk.injEq] at hf
    obtain ⟨rfl,rfl⟩:=hf
    exact ⟨rfl,b⟩
   .cases hf
  show Tb bt ((t.put slot).1.orStandIn _)
  have hp:Tb bt (t.put slot).1:=by
   unfold SetTable.put
   refine ⟨T.led,?_,λz=>?_⟩
   .dsimp only;rw [T.Gq,NY];rfl
   .exact Z2 (T.rise z) key.2
  unfold SetTable.orStandIn
  split
  .exact hp
  .exact hp.lU _
theorem Tb.xr{bt:Bool}{t:SetTable}(T:Tb bt t)(es:Array (Int×Value))(n:Nat):Tb bt (relayAll t es n).2.1:=by
 unfold relayAll
 cases hf:t.relaid (es.map (·.1)) n with
 | none=>exact T.lU _
 | some z =>
  obtain ⟨t',order⟩:=z
  dsimp only
  split
  .show Tb bt t'
   unfold SetTable.relaid SetTable.laid at hf
   simp only [Option.bind_eq_bind,Option.bind_eq_some_iff] at hf
   obtain ⟨ow,_,e⟩:=hf
   simp only [Option.pure_def,c7,Prod.mk.injEq] at e
   obtain ⟨rfl,_⟩:=e
   refine ⟨T.led,rfl,λ_=>?_⟩
   show fN _
   unfold fN
   dsimp only
   have sub:List.Sublist (((jt (Hk n-1+1)).filterMap λj=>(ow.getD j none).map (j,·)).map (·.1)) (jt (Hk n-1+1)):=by
    generalize jt (Hk n-1+1)=l
    induction l with
    | nil=>exact List.Sublist.slnil
    | cons a l ih =>
     rw [CG]
     cases ow.getD a none with
     | none=>exact ih.cons _
     | some k=>exact ih.cons₂ _
   exact List.Pairwise.sublist sub List.pairwise_lt_range
  .exact T.lU _
end SE
namespace SE
open PySem PyProof.Rows PySem.Calls
theorem DN{α β:Type}{f:α->β}{l m:List β}(h:l.Perm m):∀ts:List α,m=ts.map f->∃us:List α,us.Perm ts/\l=us.map f:=by
 induction h with
 | nil=>intro ts e;exact ⟨[],by rw [MF.mp e.symm],rfl⟩
 | cons a _ ih =>
  intro ts e
  obtain ⟨b,K0,rfl,rfl,rfl⟩:=Hc.mp e.symm
  obtain ⟨us,p,rfl⟩:=ih K0 rfl
  exact ⟨b::us,p.cons _,rfl⟩
 | swap a b l =>
  intro ts e
  obtain ⟨x,K0,rfl,rfl,e'⟩:=Hc.mp e.symm
  obtain ⟨y,Ec,rfl,rfl,rfl⟩:=Hc.mp e'
  exact ⟨y::x::Ec,Cw ..,rfl⟩
 | trans _ _ i1 i2 =>
  intro ts e
  obtain ⟨us,p,e1⟩:=i2 ts e
  obtain ⟨vs,q,e2⟩:=i1 us e1
  exact ⟨vs,q.trans p,e2⟩
section
variable {prog:Program}{w:World}{K:Type}[DecidableEq K]{knd:KeyKind prog w K}{A:Around}{E:Value->Shared->Prop}{s:Shared}
noncomputable def l6(w:World):Bool:=w.params.followText "set-order"
def El(knd:KeyKind prog w K)(q:K×Int×Value):Prop:=knd.is q.1 q.2.2=true/\q.2.1=knd.hash q.1/\q.2.2.scannable=true
structure Sd(knd:KeyKind prog w K)(es:Array (Int×Value))(t:SetTable)(bS:List (K×Int×Value)):Prop where
 ql:es.toList=bS.map (·.2)
 el:∀q∈bS,El knd q
 fits:t.fits es.size=true
 tb:Tb (l6 w) t
 lt:es.size<scanBound
theorem Sd.of{es:Array (Int×Value)}{t:SetTable}{bS:List (K×Int×Value)}(S:Sd knd es t bS):ElemsOf knd es.toList:=by
 rw [S.ql]
 intro e he
 obtain ⟨q,hq,rfl⟩:=e7.mp he
 obtain ⟨a,b,c⟩:=S.el q hq
 exact ⟨⟨q.1,a,b⟩,c⟩
theorem Sd.len{es:Array (Int×Value)}{t:SetTable}{bS:List (K×Int×Value)}(S:Sd knd es t bS):es.size=bS.length:=by
 rw [<-et,S.ql,bB]
def Sa(knd:KeyKind prog w K)(o:Obj)(ks:List K):Prop:=o.ExactSet/\∃es ep t bS,o.data=.set es ep t/\Sd knd es t bS/\ks=bS.map (·.1)
theorem Nz{a:Addr}{o:Obj}{es:Array (Int×Value)}{ep:Nat}{t:SetTable}(ho:s.heap.get? a=some o)(hd:o.data=.set es ep t)(qk:Array (Int×Value))(t':SetTable):
  (s.heap.update a (BU qk t')).get? a=some { o with data:=.set qk (ep+1) t' }:=by
 have:=zZ (BU qk t') ho (by rw [putSet_of qk t' hd];rfl)
 rwa [putSet_of qk t' hd] at this
theorem Oh{g:Bool->Sem Unit}(hg:∀(b:Bool) (aG:Shared) (Q':Unit->Shared->Prop),Q' () aG->wpAny (model prog w) A (g b) Q' E aG)
  {a:Addr}{o:Obj}{es:Array (Int×Value)}{ep:Nat}{t:SetTable}(ho:s.heap.get? a=some o)(hex:o.ExactSet)(hd:o.data=.set es ep t)
  {fS:Array (Int×Value)}{t2:SetTable}{bS:List (K×Int×Value)}(S:Sd knd fS t2 bS){wd:Bool}{R:Option Bool->Shared->Prop}
  (h:∀h' o' fK,pd a s.heap h'->h'.get? a=some o'->Sa knd o' fK->fK.Perm (bS.map (·.1))->R (some true) { s with heap:=h' }):
  wpAny (model prog w) A (storeSet a fS t2 >>= λ_=>if (!wd&&t2.tooFull)=true then (g (relayAll t2 fS (t6 fS.size)).2.2 >>= λ_=>storeSet a (relayAll t2 fS (t6 fS.size)).1 (relayAll t2 fS (t6 fS.size)).2.1 >>= λ_=>pure (some true)) else pure (some true)) R E s:=by
 refine ah (wpAny_storeSet_of ho hd ?_ (vI S.lt))
 have o1:=Nz ho hd fS t2
 have sb:=CF s.heap a (BU fS t2)
 split
 .have p:=relayAll_perm t2 fS (t6 fS.size)
  have f:=relayAll_fits t2 fS (t6 fS.size)
  have T:=S.tb.xr fS (t6 fS.size)
  generalize relayAll t2 fS (t6 fS.size)=rl at p f T ⊢
  obtain ⟨Gg,t3,gv⟩:=rl
  dsimp only at p f T ⊢
  obtain ⟨us,pu,eu⟩:=DN p bS S.ql
  have z:Gg.size=fS.size:=by rw [<-et,p.length_eq,et]
  have S2:Sd knd Gg t3 us:=⟨eu,λq hq=>S.el q (pu.mem_iff.mp hq),f,T,by rw [z];exact S.lt⟩
  refine ah (hg _ _ _ ?_)
  refine ah (wpAny_storeSet_of o1 rfl ?_ (vI S2.lt))
  exact aH (h _ _ _ (sb.trans (CF _ a _)) (Nz (s:={ s with heap:=s.heap.update a (BU fS t2) }) o1 rfl Gg t3) ⟨hex,_,_,_,us,rfl,S2,rfl⟩ (pu.map _))
 .exact aH (h _ _ _ sb o1 ⟨hex,_,_,_,bS,rfl,S,rfl⟩ (qu _))
theorem W8{a:Addr}{o:Obj}{ks:List K}{k:K}{x:Value}{Q:Bool->Shared->Prop}(ho:s.heap.get? a=some o)(S:Sa knd o ks)(hk:knd.is k x=true)(hx:x.scannable=true)(room:ks.length+1<scanBound)
  (h:∀b h' o' fK,pd a s.heap h'->h'.get? a=some o'->Sa knd o' fK->fK.Perm (if k∈ks then ks else ks++[k])->Q b { s with heap:=h' }):
  wpAny (model prog w) A (setAddHashed a x (knd.hash k)) Q E s:=by
 obtain ⟨hex,es,ep,t,bS,hd,D,rfl⟩:=S
 rw [bB] at room
 have LJ:=D.of
 unfold setAddHashed setAddHashedIn
 refine lz (ah (zJ ho hd D.fits ?_))
 dsimp only
 rw [byScan_of hx D.lt LJ,if_pos rfl]
 unfold setAddByScan
 refine ah (ah (o5 (ah (wpAny_setScan_of hk ho hd D.fits LJ ?_))))
 have mem:∀e∈es.toList,knd.is k e.2=true->k∈bS.map (·.1):=λe he hp=>by
  rw [D.ql] at he
  obtain ⟨q,hq,rfl⟩:=e7.mp he
  exact e7.mpr ⟨q,hq,knd.inj _ _ _ (D.el q hq).1 hp⟩
 cases hr:List.findIdx? (λe=>knd.is k e.2) es.toList with
 | some j =>
  obtain ⟨hj,hp,_⟩:=List.findIdx?_eq_some_iff_getElem.mp hr
  have hm:=mem _ (nr hj) hp
  refine aH (aH ?_)
  have:=h false s.heap o (bS.map (·.1)) (Heap.SameBut.refl a s.heap) ho ⟨hex,es,ep,t,bS,hd,D,rfl⟩ (by rw [if_pos hm])
  exact this
 | none =>
  have hm:k∉bS.map (·.1):=λz=>by
   obtain ⟨q,hq,e⟩:=e7.mp z
   have:=List.findIdx?_eq_none_iff.mp hr q.2 (by rw [D.ql];exact e7.mpr ⟨q,hq,rfl⟩)
   rw [<-e,(D.el q hq).1] at this
   exact uj this
  rw [if_neg hm] at h
  have p:=layNew_perm t es (knd.hash k) x
  have f:=layNew_fits t es (knd.hash k) x
  have T:=D.tb.lay es (knd.hash k) x
  dsimp only
  generalize layNew t es (knd.hash k) x=ly at p f T ⊢
  obtain ⟨fS,t1,wd,gv⟩:=ly
  dsimp only at p f T ⊢
  rw [rF] at p
  obtain ⟨us,pu,eu⟩:=DN p (bS++[(k,knd.hash k,x)]) (by rw [D.ql,e8];rfl)
  have z:fS.size=bS.length+1:=by rw [<-et,p.length_eq,bQ,et,D.len];rfl
  have Vz:∀q∈us,El knd q:=λq hq=>by
   rcases bK.mp (pu.mem_iff.mp hq) with m | m
   .exact D.el q m
   .rw [cJ.mp m];exact ⟨hk,rfl,hx⟩
  have mk:∀t2:SetTable,t2.fits fS.size=true->Tb (l6 w) t2->Sd knd fS t2 us:=λt2 a b=>⟨eu,Vz,a,b,by rw [z];exact room⟩
  have fin:∀h' o' fK,pd a s.heap h'->h'.get? a=some o'->Sa knd o' fK->fK.Perm (us.map (·.1))->Q true { s with heap:=h' }:=λh' o' fK c1 c2 c3 c4 =>
   h true h' o' fK c1 c2 c3 (c4.trans (by simpa using pu.map (·.1)))
  have hg:∀(b:Bool) (aG:Shared) (Q':Unit->Shared->Prop),Q' () aG->wpAny (model prog w) A (match b with | true=>rule "set.scan.the-table-gave-way" | false=>pure ()) Q' E aG:=λb aG Q' hq=>by
   cases b
   .exact aH hq
   .exact o5 hq
  refine ah (hg _ _ _ ?_)
  split
  .refine ah ?_
   rw [hashByValue_scannable 8 hx]
   refine aH (Oh hg ho hex hd (mk _ ?_ ?_) λh' o' fK c1 c2 c3 c4=>aH (fin h' o' fK c1 c2 c3 c4))
   .split
    .exact f
    .exact SetTable.fits_plain_off f
   .split
    .exact T
    .exact T.off
  .refine ah (aH ?_)
   rw [if_pos rfl]
   exact Oh hg ho hex hd (mk _ f T) λh' o' fK c1 c2 c3 c4=>aH (fin h' o' fK c1 c2 c3 c4)
end
end SE
namespace SE
open PySem PyProof.Rows PySem.Calls
section
variable {prog:Program}{w:World}{K:Type}[DecidableEq K]{knd:KeyKind prog w K}{A:Around}{E:Value->Shared->Prop}{s:Shared}{R:Result->Shared->Prop}{I:Addr}{fp wr:List Addr}{G:Array GenState->Array GenState->Prop}{n:Nat}{P:Nat->Value->Prop}{St:Nat->Shared->Prop}
structure Kd(val:Nat->K)(i:Nat)(ks:List K):Prop where
 nd:ks.Nodup
 mem:∀x,x∈ks↔∃j,j<i/\val j=x
 len:ks.length<=i
theorem Kd.nil(val:Nat->K):Kd val 0 []:=⟨List.nodup_nil,λx=>⟨λz=>(nomatch z),λ⟨j,hj,_⟩=>absurd hj (Cq _)⟩,aV _⟩
theorem Kd.succ{val:Nat->K}{i:Nat}{ks fK:List K}(D:Kd val i ks)(p:fK.Perm (if val i∈ks then ks else ks++[val i])):Kd val (i+1) fK:=by
 have m:∀x,(∃j,j<i+1/\val j=x)↔x∈ks\/x=val i:=λx=>by
  rw [D.mem]
  constructor
  .rintro ⟨j,hj,e⟩
   rcases Nat.lt_succ_iff_lt_or_eq.mp hj with q | q
   .exact .inl ⟨j,q,e⟩
   .exact .inr (by rw [<-e,q])
  .rintro (⟨j,hj,e⟩ | e)
   .exact ⟨j,nu hj,e⟩
   .exact ⟨i,jK _,e.symm⟩
 by_cases h:val i∈ks
 .rw [if_pos h] at p
  exact ⟨p.nodup_iff.mpr D.nd,λx=>by rw [m,p.mem_iff];exact ⟨.inl,λz=>z.elim id λe=>e▸h⟩,by rw [p.length_eq];exact Nat.le_succ_of_le D.len⟩
 .rw [if_neg h] at p
  refine ⟨p.nodup_iff.mpr (List.nodup_append.mpr ⟨D.nd,by simp,?_⟩),λx=>by rw [m,p.mem_iff,bK,cJ],by rw [p.length_eq,bQ];exact Nat.succ_le_succ D.len⟩
  intro a ha b hb
  rw [cJ.mp hb]
  exact λe=>h (e▸ha)
theorem OY(W:WalksS prog w A.in1 I fp wr G n P St)(S:Addr)(qe:S∉fp)(val:Nat->K)(mx:∀i v,P i v->knd.is (val i) v=true/\v.scannable=true)(hb:n+1<scanBound):
  ∀(m i:Nat) (s:Shared) (o:Obj) (ks:List K),n-i=m->i<=n->St i s->s.heap.get? S=some o->Sa knd o ks->Kd val i ks ->
   (∀s' o' fK,Moved (S::wr) G s s'->s'.heap.get? S=some o'->Sa knd o' fK->Kd val n fK->R (.ok (.ret .none)) s') ->
   codeAny (model prog w) A (.builtin "set.update.loop" ⟨[.ref S,.ref I],[]⟩) R s
 | 0,i,s,o,ks,hm,hi,st,ho,Z,D,hR=>by
  have e:i=n:=by omega
  subst e
  refine vE Mi ?_
  rw [Aa HF _]
  show wpAny _ A.in1 (pyNext (.ref I) >>= _) _ _ s
  exact ah (W.done s _ _ st λs' mv=>aH (hR s' o ks (mv.mono λb hb=>cG _ hb) (mv.heap S _ (λh=>qe (W.sub _ h)) ho) Z D))
 | m+1,i,s,o,ks,hm,hi,st,ho,Z,D,hR=>by
  have bg:i<n:=by omega
  refine vE Mi ?_
  rw [Aa HF _]
  show wpAny _ A.in1 (pyNext (.ref I) >>= _) _ _ s
  refine ah (W.item i s _ _ bg st λv s' hP ag mv=>?_)
  obtain ⟨hv,hs⟩:=mx i v hP
  have my:=mv.heap S _ (λh=>qe (W.sub _ h)) ho
  show wpAny _ A.in1 (holding [v] (setAdd S v) >>= _) _ _ s'
  refine ah (lz ?_)
  unfold setAdd
  refine lz (ah (knd.pyHash (k:=val i) hv ?_))
  have len:=D.len
  refine W8 (s:={ s' with toks:=s'.toks+1 }) my Z hv hs (by omega) λb h' o' fK sb o2 Z' pm=>?_
  refine aH ⟨zw HF _,OY W S qe val mx hb m (i+1) _ o' fK (by omega) bg (W.frame _ s' _ _ ag (qq _) λb hb o e=>?_) o2 Z' (D.succ pm) λxn TL EZ TR=>?_⟩
  .rw [sb.2 b (λh:b=S=>qe (by rw [<-h];exact hb))];exact e
  .refine hR xn TL EZ (Moved.trans W.gtrans ((mv.mono λb hb=>cG _ hb).then_heap (qq _) λb o hb e=>?_) TR)
   rw [sb.2 b (λh:b=S=>hb (by rw [h];exact cm))];exact e
noncomputable def gi(w:World):Obj:={ cls:=.type "set",dict:=none,data:=.set #[] 0 (.fresh 0 0 (!l6 w)) }
theorem Yc:Sa knd (gi w) []:=⟨⟨rfl,rfl,rfl⟩,#[],0,_,[],rfl,⟨rfl,λ_ z=>(nomatch z),by rfl,ZF _,by decide⟩,rfl⟩
theorem Ze(a:Value){Q₁:Value->Shared->Prop}(h:Q₁ (.ref s.heap.objs.size) { s with heap:=s.heap.push (gi w) }):
  codeAny (model prog w) A (.call (.builtin "set.__new__") ⟨[.type "set",a],[]⟩) (wants Q₁ E) s:=by
 refine codeAny_of_tree ?_
 show wpAny _ A.in1 (checkBuiltinCall "set.__new__" ⟨[.type "set",a],[]⟩ >>= λ_=>again (.builtin "set.__new__" ⟨[.type "set",a],[]⟩)) _ _ s
 refine ah (rC (F.newCall_set_1 a) (aH ⟨zw F.plain_set_new _,vE F.entry_set_new ?_⟩))
 rw [Aa F.plain_set_new _]
 unfold Builtin.«set.__new__» Builtin.Frozenset.newClass
 have h8:=sub_set_self
 obtain ⟨hp,g,d,tk,os⟩:=s
 dsimp only
 wp_walk
 refine zI (aH ?_)
 dsimp only
 simp only [newObj]
 exact ah (wpAny_alloc (aH (aH h)))
theorem eW{l:Addr}{items:Array Value}{Q:Value->Shared->Prop}(hh:A.handled=none)(hl:s.heap.IsList l items)(val:Nat->K)(mx:∀(i:Nat) (v:Value),items[i]?=some v->knd.is (val i) v=true/\v.scannable=true)(hb:items.size+1<scanBound)
  (h:∀(h':Heap) (tk:Nat) o ks,(∀b o,b<s.heap.objs.size->s.heap.get? b=some o->h'.get? b=some o)->h'.get? s.heap.objs.size=some o->Sa knd o ks->Kd val items.size ks->Q (.ref s.heap.objs.size) { s with heap:=h',toks:=tk }):
  wpAny (model prog w) A (call (.type "set") [.ref l]) Q E s:=by
 obtain ⟨c,tl,U2⟩:=rm.mro
 have a1:=rm.made
 have a2:=rm.sub
 have a3:=rm.notType
 have a4:=rm.canCreate
 have a5:=F.typeCall_set_1 (.ref l)
 have hS:(s.heap.push (gi w)).get? s.heap.objs.size=some (gi w):=c9 _ rfl
 have hT:({ s with heap:=s.heap.push (gi w) }:Shared).TypeIs (.ref s.heap.objs.size) "set":=⟨_,hS,rfl⟩
 refine wpAny_call (codeAny_of_tree (show wpAny _ _ (callAny (.type "set") _) _ _ _ from aH ⟨Code.quiet_builtin _ (by decide +kernel),vE F.entry_type_call ?_⟩))
 rw [Around.under_plain (weight_type_call_type "set" [.ref l] []) rfl]
 repeat (any_goals (first | assumption | wp_step))
 refine rq (Ze (.ref l) (E:=E) (Q₁:=λobj aG=>obj=.ref s.heap.objs.size/\aG={ s with heap:=s.heap.push (gi w) }) ⟨rfl,rfl⟩) λr aG hr=>?_
 cases r with
 | error e=>exact hr
 | ok fl =>
  cases fl with
  | ret obj =>
   obtain ⟨rfl,rfl⟩:=hr
   have a6:=rm.init.lookup
   have a7:=rm.init.bind (.ref s.heap.objs.size)
   repeat (any_goals (first | assumption | wp_step))
   refine rq (codeAny_call_builtin (R:=wants (λr dY=>r=.none/\Q (.ref s.heap.objs.size) dY) E) rm.init.plain F.entry_set_init (check_set_init_1 hT ?_)) λED dY n5=>?_
   .obtain ⟨ol,yA,hcl,nl,tK⟩:=id hl
    have gH:(s.heap.push (gi w)).IsList l items:=hl.push _
    have hTl:({ s with heap:=s.heap.push (gi w) }:Shared).TypeIs (.ref l) "list":=gH.typeIs
    have lY:l<s.heap.objs.size:=bF yA
    have n1:=F.sub_list_set
    have n2:=F.sub_list_frozenset
    have n3:(mH "list" == mH "dict")=false:=by decide
    unfold Builtin.«set.__init__» noKeywords Builtin.Frozenset.updateFrom
    generalize Vl:pyIter=PI
    wp_walk
    subst Vl
    refine uq gH (ah (wpAny_runValue ?_))
    have bo:l≠(s.heap.push (gi w)).objs.size:=by rw [fM];exact cI (nu lY)
    have qe:s.heap.objs.size∉[(s.heap.push (gi w)).objs.size,l]:=by
     rw [fM];simp only [bx,iC,or_false,not_or]
     exact ⟨cI (jK _),o9 lY⟩
    refine OY (knd:=knd) ((Walks.list (by simp [hh]) _ l bo items).toS) s.heap.objs.size qe val mx hb (items.size-0) 0 _ (gi w) [] (by omega) (jM _) ⟨⟨_,c9 _ rfl,rfl,rfl⟩,(gH.push _)⟩ (aZ _ hS) Yc (Kd.nil val) λs' o' fK hm my Z D=>?_
    obtain ⟨h',g',d',nN,xM⟩:=s'
    have e1:g'=s.gens:=hm.gens
    have e2:d'=s.drawn:=hm.drawn
    have e3:xM=s.os:=hm.os
    subst e1;subst e2;subst e3
    show wpAny _ _ (pure _ >>= _) _ _ _
    refine aH (show wpAny _ _ (ret fV) _ _ _ from aH ⟨rfl,h h' nN o' fK (λb o hb e=>hm.heap b o ?_ (aZ _ (aZ _ e))) my Z D⟩)
    simp only [bx,iC,or_false,not_or]
    exact ⟨cI hb,cI (by rw [fM];exact nu hb)⟩
   .cases ED with
    | error e=>exact n5
    | ok y9 =>
     cases y9 with
     | ret r =>
      obtain ⟨rfl,hq⟩:=n5
      repeat (any_goals (first | assumption | wp_step))
     | _=>exact n5.elim
  | _=>exact hr.elim
end
end SE
namespace SE
open PySem PyProof.Rows PySem.Calls
section
variable {prog:Program}{w:World}{K:Type}[DecidableEq K]{knd:KeyKind prog w K}{A:Around}{E:Value->Shared->Prop}{s:Shared}
noncomputable def nx(w:World)(a:Addr)(es:Array (Int×Value))(ep:Nat)(t:SetTable)(slot given:Nat):Option (Value×Nat):=
 if l6 w=true then ((pickOrder (w.params.setOrder a ep) es)[given]?).map λe=>(e.2,slot)
 else match es[oz t.place slot]?,t.place[oz t.place slot]? with
  | some (_,x),some j=>some (x,j+1)
  | _,_=>none
theorem OD{a:Addr}{o:Obj}{es:Array (Int×Value)}{ep:Nat}{t:SetTable}{bS:List (K×Int×Value)}(ho:s.heap.get? a=some o)(hd:o.data=.set es ep t)(S:Sd knd es t bS)(kZ:l6 w=false->t.plain=true\/es.size<=1){slot given:Nat}
  {Q:Option (Value×Nat)->Shared->Prop}(h:Q (nx w a es ep t slot given) s):wpAny (model prog w) A (setNext a slot given ep) Q E s:=by
 unfold setNext
 refine ah (zJ ho hd S.fits ?_)
 dsimp only
 unfold setsByText
 refine ah (ah (zI (aH ?_)))
 unfold nx at h
 by_cases hb:l6 w=true
 .rw [if_pos hb] at h
  have m8:(model prog w).w.params.followText "set-order" = true:=hb
  dsimp only
  rw [if_pos m8]
  rw [if_neg (by simp)]
  refine ah ?_
  unfold setWalk setsByText
  refine ah (zJ ho hd S.fits ?_)
  dsimp only
  refine ah (ah (zI (aH ?_)))
  dsimp only
  rw [if_pos m8]
  refine ah (zI (aH (aH h)))
 .rw [if_neg hb] at h
  have m8:¬((model prog w).w.params.followText "set-order" = true):=hb
  dsimp only
  rw [if_neg m8]
  have hl:t.led=true:=S.tb.led.resolve_right hb
  refine zK (λhz=>?_) (λ_=>?_)
  .exfalso
   have hz:(!t.plain&&decide (es.size>1))=true:=hz
   simp only [qt,Bool.not_eq_true',decide_eq_true_eq] at hz
   rcases kZ (by simpa using hb) with q | q
   .rw [q] at hz;exact uj hz.1
   .omega
  .show wpAny _ _ ((if (!t.led&&!es.isEmpty)=true then unsupported "set:maker-not-led" else pure ()) >>= _) _ _ _
   rw [hl]
   simp only [GL,Bool.false_and,oB,if_false]
   exact ah (aH (aH h))
noncomputable def oF(first:Value)(i:Nat)(a:Addr)(n ep:Nat):Obj:={ cls:=.type "set_iterator",data:=.fields #[first,rawInt i,.ref a,rawInt n,rawInt ep] }
theorem slot_next:Slot "set_iterator" "__next__" "set_iterator.__next__":=
 .of (owner:="set_iterator") (n:="__next__") (by rw [typeLookup_type,builtinLookup_eq_fast];kernel_rfl) (by decide +kernel) (by decide +kernel) (by decide +kernel)
  (by first | exact .inl (by decide +kernel) | exact .inr (by decide +kernel)) (by rw [isSubtype_type];kernel_rfl)
theorem Ke:entryFor table "set_iterator.__next__" = some Builtin.«set_iterator.__next__»:=entryFor_of_tree (by kernel_rfl)
theorem Nu:Manifest.owners.lookup (String.ofList ['r','o','t','a','r','e','t','i','_','t','e','s'].reverse)=some Manifest.sig_set_iterator:=by kernel_rfl
theorem JJ(a:Value):argsOk "set_iterator.__next__" ⟨[a],[]⟩:=by
 unfold argsOk;rw [signature?_of (id:="set_iterator.__next__") (n:=['_','_','t','x','e','n','_','_']) (o:=['r','o','t','a','r','e','t','i','_','t','e','s']) (by kernel_rfl) Nu];kernel_rfl
theorem MZ{I a:Addr}{i slot:Nat}{o:Obj}{es:Array (Int×Value)}{ep:Nat}{t:SetTable}{bS:List (K×Int×Value)}{Q:Option Value->Shared->Prop}(hI:s.heap.get? I=some (oF (rawInt slot) i a es.size ep))(ho:s.heap.get? a=some o)(hd:o.data=.set es ep t)(S:Sd knd es t bS)(kZ:l6 w=false->t.plain=true\/es.size<=1)
  {x:Value}{j:Nat}(hx:nx w a es ep t slot i=some (x,j))(hQ:∀h',h'.get? I=some (oF (rawInt j) (i+1) a es.size ep)->pd I s.heap h'->Q (some x) { s with heap:=h' }):wpAny (model prog w) A (pyNext (.ref I)) Q E s:=by
 have hT:s.TypeIs (.ref I) "set_iterator":=⟨_,hI,rfl⟩
 unfold pyNext
 refine ah (ub (qw (name:=Str.ofString "__next__") hT slot_next (mO slot_next hT Ke ?_ (JJ _))))
 unfold Builtin.«set_iterator.__next__»
 refine ah (rC (a:=(dj I,[])) rfl ?_)
 dsimp only
 refine ah (Cv hI rfl ?_)
 show wpAny _ _ (setEntries a >>= _) _ _ _
 refine ah (zF ho hd S.fits ?_)
 rw [if_neg (by simp)]
 show wpAny _ _ (setNext a (slot:Int).toNat (i:Int).toNat (ep:Int).toNat >>= _) _ _ _
 simp only [rG]
 refine ah (OD ho hd S kZ ?_)
 rw [hx]
 dsimp only
 refine ah (nC hI (by simp) λh1 e1 b1=>?_)
 refine ah (nC e1 (by simp) λh2 e2 b2=>?_)
 exact aH ⟨x,rfl,aH (hQ _ (by rw [e2];rfl) (b1.trans b2))⟩
end
end SE
namespace SE
open PySem PyProof.Rows PySem.Calls
section
variable {prog:Program}{w:World}{K:Type}[DecidableEq K]{knd:KeyKind prog w K}{A:Around}{E:Value->Shared->Prop}{s:Shared}
theorem Pj{I:Addr}{Q:Option Value->Shared->Prop}(hT:s.TypeIs (.ref I) "set_iterator")(hm:wpAny (model prog w) A.in1 (Builtin.«set_iterator.__next__» ⟨[.ref I],[]⟩) (λ_ _=>False) (λe s'=>∃h',s'={ s with heap:=h' }/\zu I s.heap h'/\s'.TypeIs e "StopIteration") s)
  (hQ:∀h',zu I s.heap h'->Q none { s with heap:=h' }):wpAny (model prog w) A (pyNext (.ref I)) Q E s:=by
 unfold pyNext
 refine ah (ub (qw (name:=Str.ofString "__next__") hT slot_next (mO slot_next hT Ke (je hm (λ_ _ z=>z.elim) λe s' z=>?_) (JJ _))))
 obtain ⟨h',rfl,k,t⟩:=z
 exact ah (GY (T:="StopIteration") (b:=true) t isSubtype_stop (aH (hQ _ k)))
theorem Nf{Q:PySem.Fin->Shared->Prop}(hh:A.handled=none)(h:∀e h',(∀b o,s.heap.get? b=some o->h'.get? b=some o)->({ s with heap:=h' }:Shared).TypeIs e "StopIteration" -> E e { s with heap:=h' }):
  wpAny (model prog w) A (newExc (.type "StopIteration") [] >>= λe=>raiseNew e) Q E s:=by
 refine ah ?_
 simp only [newExc,newTuple]
 refine ah (nv ?_ (by size_fits))
 refine ah (m:=firstArgMember _ _) (rC (a:=fV) (by first | rfl | (simp only [firstArgMember];rfl)) (nv ?_ (by size_fits)))
 simp only [raiseNew]
 refine ah (wpAny_handled ?_)
 rw [hh]
 refine ah (aH (wpAny_throw ?_))
 refine h _ _ (λb o e=>aZ _ (aZ _ e)) ?_
 exact ⟨_,c9 _ rfl,rfl⟩
theorem Nq{I a:Addr}{i slot:Nat}{o:Obj}{es:Array (Int×Value)}{ep:Nat}{t:SetTable}{bS:List (K×Int×Value)}{Q:Option Value->Shared->Prop}(hh:A.handled=none)(hI:s.heap.get? I=some (oF (rawInt slot) i a es.size ep))(ho:s.heap.get? a=some o)(hd:o.data=.set es ep t)(S:Sd knd es t bS)(kZ:l6 w=false->t.plain=true\/es.size<=1)
  (hx:nx w a es ep t slot i=none)(hQ:∀h',zu I s.heap h'->Q none { s with heap:=h' }):wpAny (model prog w) A (pyNext (.ref I)) Q E s:=by
 refine Pj ⟨_,hI,rfl⟩ ?_ hQ
 unfold Builtin.«set_iterator.__next__»
 refine ah (rC (a:=(dj I,[])) rfl ?_)
 dsimp only
 refine ah (Cv hI rfl ?_)
 show wpAny _ _ (setEntries a >>= _) _ _ _
 refine ah (zF ho hd S.fits ?_)
 rw [if_neg (by simp)]
 show wpAny _ _ (setNext a (slot:Int).toNat (i:Int).toNat (ep:Int).toNat >>= _) _ _ _
 simp only [rG]
 refine ah (OD ho hd S kZ ?_)
 rw [hx]
 dsimp only
 refine ah (nC hI (by simp) λh1 e1 b1=>?_)
 exact Nf (by simp [hh]) λe h' k t=>⟨h',rfl,λb o hb eo=>k b o (b1.extBut b o hb eo),t⟩
theorem xT{I a tp:Addr}{i:Nat}{o ot:Obj}{es:Array (Int×Value)}{ep nt:Nat}{t:SetTable}{bS:List (K×Int×Value)}{ps:List Nat}{Q:Option Value->Shared->Prop}(hI:s.heap.get? I=some (oF (.ref tp) i a es.size ep))(ho:s.heap.get? a=some o)(hd:o.data=.set es ep t)(S:Sd knd es t bS)
  (ht:s.heap.get? tp=some ot)(q8:ot.data=.seq (ps.map λ(p:Nat)=>rawInt p).toArray nt){x:Value}{p:Nat}{hv:Int}(hp:ps[i]?=some p)(hx:es[p]?=some (hv,x))(hQ:∀h',h'.get? I=some (oF (.ref tp) (i+1) a es.size ep)->pd I s.heap h'->Q (some x) { s with heap:=h' }):wpAny (model prog w) A (pyNext (.ref I)) Q E s:=by
 have hT:s.TypeIs (.ref I) "set_iterator":=⟨_,hI,rfl⟩
 unfold pyNext
 refine ah (ub (qw (name:=Str.ofString "__next__") hT slot_next (mO slot_next hT Ke ?_ (JJ _))))
 unfold Builtin.«set_iterator.__next__»
 refine ah (rC (a:=(dj I,[])) rfl ?_)
 dsimp only
 refine ah (Cv hI rfl ?_)
 show wpAny _ _ (setEntries a >>= _) _ _ _
 refine ah (zF ho hd S.fits ?_)
 rw [if_neg (by simp)]
 show wpAny _ _ (seqItems? (.ref tp) >>= _) _ _ _
 refine ah (o7 ht q8 ?_)
 dsimp only
 have e1:((ps.map λ(p:Nat)=>rawInt p).toArray)[((i:Int)).toNat]?=some (rawInt p):=by rw [rG,Hg,l9,hp];rfl
 rw [e1]
 show wpAny _ _ (setNextDrawn a (p:Int).toNat (ep:Int).toNat >>= _) _ _ _
 simp only [rG]
 unfold setNextDrawn
 refine ah (ah (zJ ho hd S.fits ?_))
 dsimp only
 rw [if_neg (by simp),hx]
 refine aH (ah (nC hI (by simp) λh2 e2 b2=>?_))
 exact aH ⟨x,rfl,aH (hQ _ (by rw [e2];rfl) b2)⟩
theorem Xc{I a tp:Addr}{i:Nat}{o ot:Obj}{es:Array (Int×Value)}{ep nt:Nat}{t:SetTable}{bS:List (K×Int×Value)}{ps:List Nat}{Q:Option Value->Shared->Prop}(hh:A.handled=none)(hI:s.heap.get? I=some (oF (.ref tp) i a es.size ep))(ho:s.heap.get? a=some o)(hd:o.data=.set es ep t)(S:Sd knd es t bS)
  (ht:s.heap.get? tp=some ot)(q8:ot.data=.seq (ps.map λ(p:Nat)=>rawInt p).toArray nt)(hp:ps[i]?=none)(hQ:∀h',zu I s.heap h'->Q none { s with heap:=h' }):wpAny (model prog w) A (pyNext (.ref I)) Q E s:=by
 refine Pj ⟨_,hI,rfl⟩ ?_ hQ
 unfold Builtin.«set_iterator.__next__»
 refine ah (rC (a:=(dj I,[])) rfl ?_)
 dsimp only
 refine ah (Cv hI rfl ?_)
 show wpAny _ _ (setEntries a >>= _) _ _ _
 refine ah (zF ho hd S.fits ?_)
 rw [if_neg (by simp)]
 show wpAny _ _ (seqItems? (.ref tp) >>= _) _ _ _
 refine ah (o7 ht q8 ?_)
 dsimp only
 have e1:((ps.map λ(p:Nat)=>rawInt p).toArray)[((i:Int)).toNat]?=none:=by rw [rG,Hg,l9,hp];rfl
 rw [e1]
 refine ah (nC hI (by simp) λh1 e1 b1=>?_)
 refine ah (nC e1 (by simp) λh2 e2 b2=>?_)
 exact Nf (by simp [hh]) λe h' k t=>⟨h',rfl,λb o hb eo=>k b o ((b1.trans b2).extBut b o hb eo),t⟩
theorem Oy:Slot "set_iterator" "__iter__" "set_iterator.__iter__":=
 .of (owner:="set_iterator") (n:="__iter__") (by rw [typeLookup_type,builtinLookup_eq_fast];kernel_rfl) (by decide +kernel) (by decide +kernel) (by decide +kernel)
  (by first | exact .inl (by decide +kernel) | exact .inr (by decide +kernel)) (by rw [isSubtype_type];kernel_rfl)
theorem YS(a:Value):argsOk "set_iterator.__iter__" ⟨[a],[]⟩:=by
 unfold argsOk;rw [signature?_of (id:="set_iterator.__iter__") (n:=['_','_','r','e','t','i','_','_']) (o:=['r','o','t','a','r','e','t','i','_','t','e','s']) (by kernel_rfl) Nu];kernel_rfl
theorem Zl:entryFor table "set_iterator.__iter__" = some Builtin.«dict_keyiterator.__iter__»:=
 entryFor_alias (id':="dict_keyiterator.__iter__") (by kernel_rfl) (by first | rfl | decide +kernel | (unfold String.splitOn;simp +decide [L3])) (by decide +kernel) (by kernel_rfl)
theorem Zm:entryFor table "set.__iter__" = some Builtin.«frozenset.__iter__»:=
 entryFor_alias (id':="frozenset.__iter__") (by kernel_rfl) (by first | rfl | decide +kernel | (unfold String.splitOn;simp +decide [L3])) (by decide +kernel) (by kernel_rfl)
theorem IH{I:Addr}{Q:Value->Shared->Prop}(hT:s.TypeIs (.ref I) "set_iterator")(h:Q (.ref I) s):wpAny (model prog w) A (pyIter (.ref I)) Q E s:=by
 refine wpAny_pyIter_slot hT Oy (mO Oy hT Zl ?_ (YS _))
 show wpAny _ _ (ret (.ref I)) _ _ s
 exact aH ⟨_,rfl,"set_iterator",_,hT,slot_next.lookup,h⟩
end
end SE
namespace SE
open PySem PyProof.Rows PySem.Calls
theorem Kc{α:Type}:∀{l:List α} {i:Nat} (h:i<l.length),(l[i]::l.eraseIdx i).Perm l
 | _::_,0,_=>qu _
 | x::l,i+1,h=>by
  have h':i<l.length:=Nat.lt_of_succ_lt_succ h
  show (l[i]::x::l.eraseIdx i).Perm (x::l)
  exact (Cw x _ _).trans ((Kc h').cons x)
theorem Pw{α:Type}(next:Nat->Nat):∀(n k:Nat) (left:List α) (out:Array α),n=left.length->(pickOrder.go next n k left out).toList.Perm (out.toList++left)
 | 0,k,left,out,e=>by
  rw [CC.mp e.symm,mM]
  exact qu _
 | n+1,k,left,out,e=>by
  unfold pickOrder.go
  have hp:0<left.length:=by omega
  have hi:next k%left.length<left.length:=Nat.mod_lt _ hp
  rw [gO hi]
  dsimp only
  refine (Pw next n (k+1) _ _ (by rw [MM hi];omega)).trans ?_
  rw [rF,e9]
  refine Cy _ ?_
  exact Kc hi
section
variable {prog:Program}{w:World}{K:Type}[DecidableEq K]{knd:KeyKind prog w K}{A:Around}{E:Value->Shared->Prop}{s:Shared}
theorem Y2{src:Source}{n:Nat}{Q:Nat->Shared->Prop}(hn:n≠0)(h:∀i d',i<n->Q i { s with drawn:=d' }):wpAny (model prog w) A (choose src n) Q E s:=λΓ p hΓ=>by
 unfold choose
 rw [Sem.wp_choose]
 exact ⟨hn,h _ _ (Nat.mod_lt _ (Hl hn))⟩
theorem Oo{α:Type}:∀(n:Nat) (xs:List α) (s:Shared) (Q:List α->Shared->Prop),n=xs.length->(∀ys d',ys.Perm xs->Q ys { s with drawn:=d' })->wpAny (model prog w) A (drawOrder n xs) Q E s
 | 0,xs,s,Q,e,h=>by
  unfold drawOrder
  rw [CC.mp e.symm] at h
  exact aH (h [] s.drawn (qu _))
 | n+1,[],s,Q,e,h=>by simp at e
 | n+1,x::xs,s,Q,e,h=>by
  unfold drawOrder
  refine ah (Y2 (by simp) λi d' hi=>?_)
  rw [gO hi]
  dsimp only
  refine ah (Oo n _ _ _ (by rw [MM hi,<-e];rfl) λys V4 p=>aH ?_)
  exact h _ V4 ((p.cons _).trans (Kc hi))
def Pv(us:List (K×Int×Value))(i:Nat)(v:Value):Prop:=(us[i]?).map (·.2.2)=some v
theorem CW{es:Array (Int×Value)}{us:List (K×Int×Value)}(e:es.toList=us.map (·.2))(i:Nat):es[i]?=(us[i]?).map (·.2):=by
 rw [<-pj,e,l9]
theorem wM{I a:Addr}{o:Obj}{es:Array (Int×Value)}{ep:Nat}{t:SetTable}{bS:List (K×Int×Value)}(hh:A.handled=none)(bo:a≠I)(hd:o.data=.set es ep t)(S:Sd knd es t bS)(hb:l6 w=false)(kZ:t.plain=true\/es.size<=1):
  Walks prog w A I [I,a] [I] bS.length (Pv bS) (λi h=>h.get? I=some (oF (rawInt ((if i=0 then 0 else t.place.getD (i-1) 0+1:Nat))) i a es.size ep)/\h.get? a=some o):=by
 have hz:t.place.size=es.size:=by
  have:=S.fits
  simp only [SetTable.fits,qt,beq_iff_eq] at this
  exact this.1
 have hr:fN t.place.toList:=by
  rcases kZ with q | q
  .exact S.tb.rise q
  .unfold fN
   have:t.place.toList.length<=1:=by rw [et,hz];exact q
   generalize t.place.toList=l at this
   cases l with
   | nil=>exact ur
   | cons x l=>cases l with
    | nil=>exact nq _ _
    | cons y l=>simp at this
 have key:∀i,i<=es.size->oz t.place (if i=0 then 0 else t.place.getD (i-1) 0+1)=i:=λi hi=>by
  have B:=O2 hr (if i=0 then 0 else t.place.getD (i-1) 0+1)
  generalize oz t.place (if i=0 then 0 else t.place.getD (i-1) 0+1)=r at B
  have le:=B.le
  by_cases LH:i=0
  .subst LH
   rw [if_pos rfl] at B
   rcases Hm r with q | q
   .exact q
   .exact absurd (B.lo 0 q) (Cq _)
  .rw [if_neg LH] at B
   have gd:∀k d d',k<es.size->t.place.getD k d=t.place.getD k d':=λk d d' hk=>by simp [vD,hz,hk]
   rcases Nat.lt_trichotomy r i with q | q | q
   .have:=B.hi r (aV _) (by omega)
    exfalso
    rw [gd r _ 0 (by omega)] at this
    rcases B9 r (i-1) with z | z
    .have:=hr.lt (d:=0) z (by omega);omega
    .rw [show r=i-1 by omega] at this;omega
   .exact q
   .have:=B.lo i q
    rw [gd i _ 0 (by omega)] at this
    have:=hr.lt (d:=0) (show i-1<i by omega) (by omega)
    omega
 have len:=S.len
 have TM:∀i,i<es.size->nx w a es ep t (if i=0 then 0 else t.place.getD (i-1) 0+1) i=(bS[i]?).map λq=>(q.2.2,t.place.getD i 0+1):=λi hi=>by
  unfold nx
  rw [if_neg (by simp [hb]),key i (rz hi),CW S.ql,gO (by omega),vN (by omega)]
  simp [vD,hz,hi]
 exact {
  sub:=λb hb=>by simp at hb;simp [hb]
  frame:=λi h h' st k=>⟨k I (by simp) _ st.1,k a (by simp) _ st.2⟩
  item:=λi s Q E hi st hQ=>by
   have tG:i<es.size:=by omega
   have e:=TM i tG
   rw [gO hi] at e
   refine MZ st.1 st.2 hd S (λ_=>kZ) e λh' g sb=>hQ _ h' s.toks (by unfold Pv;rw [gO hi];rfl) ⟨?_,(sb.2 a bo).trans st.2⟩ λb o hb eo=>sb.extBut b o (λh=>hb (by simp [h])) eo
   rw [g,if_neg (Nat.succ_ne_zero i)];rfl
  done:=λs Q E st hQ=>by
   refine Nq hh st.1 st.2 hd S (λ_=>kZ) ?_ λh' g=>hQ h' s.toks λb o hb eo=>g b o (λh=>hb (by simp [h])) eo
   unfold nx
   rw [if_neg (by simp [hb]),<-len,key es.size (aV _),Array.getElem?_eq_none (aV _)]
  self:=λi s Q E st hQ=>IH ⟨_,st.1,rfl⟩ hQ }
theorem wL{I a:Addr}{o:Obj}{es:Array (Int×Value)}{ep:Nat}{t:SetTable}{bS us:List (K×Int×Value)}(hh:A.handled=none)(bo:a≠I)(hd:o.data=.set es ep t)(S:Sd knd es t bS)(hb:l6 w=true)(hu:(pickOrder (w.params.setOrder a ep) es).toList=us.map (·.2)):
  Walks prog w A I [I,a] [I] us.length (Pv us) (λi h=>h.get? I=some (oF (rawInt (0:Nat)) i a es.size ep)/\h.get? a=some o) where
 sub:=λb hb=>by simp at hb;simp [hb]
 frame:=λi h h' st k=>⟨k I (by simp) _ st.1,k a (by simp) _ st.2⟩
 item:=λi s Q E hi st hQ=>by
  refine MZ st.1 st.2 hd S (λz=>by rw [hb] at z;exact uj z) (x:=(us[i]).2.2) (j:=0) ?_ λh' g sb=>hQ _ h' s.toks (by unfold Pv;rw [gO hi];rfl) ⟨g,(sb.2 a bo).trans st.2⟩ λb o hb eo=>sb.extBut b o (λh=>hb (by simp [h])) eo
  unfold nx
  rw [if_pos hb,CW hu,gO hi];rfl
 done:=λs Q E st hQ=>by
  refine Nq hh st.1 st.2 hd S (λz=>by rw [hb] at z;exact uj z) ?_ λh' g=>hQ h' s.toks λb o hb eo=>g b o (λh=>hb (by simp [h])) eo
  unfold nx
  rw [if_pos hb,CW hu,zV (aV _)];rfl
 self:=λi s Q E st hQ=>IH ⟨_,st.1,rfl⟩ hQ
theorem nM{I a tp:Addr}{o ot:Obj}{es:Array (Int×Value)}{ep nt:Nat}{t:SetTable}{bS:List (K×Int×Value)}{ps:List Nat}(hh:A.handled=none)(bo:a≠I)(UX:tp≠I)(hd:o.data=.set es ep t)(S:Sd knd es t bS)(q8:ot.data=.seq (ps.map λ(p:Nat)=>rawInt p).toArray nt)(hp:∀p∈ps,p<es.size):
  Walks prog w A I [I,a,tp] [I] ps.length (λi v=>((ps[i]?).bind λp=>es[p]?).map (·.2)=some v) (λi h=>h.get? I=some (oF (.ref tp) i a es.size ep)/\h.get? a=some o/\h.get? tp=some ot) where
 sub:=λb hb=>by simp at hb;simp [hb]
 frame:=λi h h' st k=>⟨k I (by simp) _ st.1,k a (by simp) _ st.2.1,k tp (by simp) _ st.2.2⟩
 item:=λi s Q E hi st hQ=>by
  have h1:=hp _ (nr hi)
  refine xT st.1 st.2.1 hd S st.2.2 q8 (gO hi) (vN h1) λh' g sb=>hQ _ h' s.toks ?_ ⟨g,(sb.2 a bo).trans st.2.1,(sb.2 tp UX).trans st.2.2⟩ λb o hb eo=>sb.extBut b o (λh=>hb (by simp [h])) eo
  rw [gO hi,uk,vN h1];rfl
 done:=λs Q E st hQ=>Xc hh st.1 st.2.1 hd S st.2.2 q8 (zV (aV _)) λh' g=>hQ h' s.toks λb o hb eo=>g b o (λh=>hb (by simp [h])) eo
 self:=λi s Q E st hQ=>IH ⟨_,st.1,rfl⟩ hQ
end
end SE
namespace SE
open PySem PyProof.Rows PySem.Calls
theorem M3{α β:Type}{f:α->Option β}:∀(l:List α),(∀x∈l,(f x).isSome=true)->∀i:Nat,(l.filterMap f)[i]?=(l[i]?).bind f
 | [],_,i=>rfl
 | x::l,h,i=>by
  obtain ⟨y,e⟩:=HA.mp (h x cm)
  rw [Mn e]
  cases i with
  | zero=>simp [e]
  | succ i=>simpa using M3 l (λx hx=>h x (cG _ hx)) i
theorem NU{α β:Type}{f:α->Option β}:∀(l:List α),(∀x∈l,(f x).isSome=true)->(l.filterMap f).length=l.length
 | [],_=>rfl
 | x::l,h=>by
  obtain ⟨y,e⟩:=HA.mp (h x cm)
  rw [Mn e,iD,iD,NU l λx hx=>h x (cG _ hx)]
section
variable {prog:Program}{w:World}{K:Type}[DecidableEq K]{knd:KeyKind prog w K}{A A2:Around}{E:Value->Shared->Prop}{s:Shared}
theorem Z7{a:Addr}{o:Obj}{es:Array (Int×Value)}{ep:Nat}{t:SetTable}{bS:List (K×Int×Value)}{Q:Value->Shared->Prop}(hh:A2.handled=none)(ho:s.heap.get? a=some o)(hex:o.ExactSet)(hd:o.data=.set es ep t)(S:Sd knd es t bS)
  (h:∀(h':Heap) d' (I:Addr) (fp:List Addr) St us,s.heap.objs.size<=I->(∀b o,s.heap.get? b=some o->h'.get? b=some o)->us.Perm bS->Walks prog w A2 I fp [I] us.length (Pv us) St->St 0 h'->(∀b∈fp,b=a\/s.heap.objs.size<=b)->(∀b,b=I\/b∈fp->b<h'.objs.size)->Q (.ref I) { s with heap:=h',drawn:=d' }):
  wpAny (model prog w) A (pyIter (.ref a)) Q E s:=by
 have hT:s.TypeIs (.ref a) "set":=⟨o,ho,hex.1⟩
 have ha:a<s.heap.objs.size:=bF ho
 refine wpAny_pyIter_slot hT F.slot_set_iter (mO F.slot_set_iter hT Zm ?_ (F.args_set_iter_1 _))
 unfold Builtin.«frozenset.__iter__»
 refine ah (m:=Builtin.Frozenset.slot0 "__iter__" _) (rC (a:=a) rfl ?_)
 refine ah ?_
 unfold Builtin.Frozenset.sizeOf
 refine ah (zF ho hd S.fits (aH ?_))
 refine ah ?_
 unfold setDrawn setsByText
 refine ah (zJ ho hd S.fits ?_)
 dsimp only
 refine ah (ah (zI (aH (aH ?_))))
 have iA:∀(c:Bool),c=false->(∀us St,us.Perm bS->Walks prog w A2 s.heap.objs.size [s.heap.objs.size,a] [s.heap.objs.size] us.length (Pv us) St->St 0 (s.heap.push (oF (rawInt (0:Nat)) 0 a es.size ep))->Q (.ref s.heap.objs.size) { s with heap:=s.heap.push (oF (rawInt (0:Nat)) 0 a es.size ep) }):=λc _ us St pu W st =>
  h _ s.drawn _ _ St us (aV _) (λb o e=>aZ _ e) pu W st (λb hb=>by
   simp only [bx,iC,or_false] at hb
   rcases hb with q | q
   .exact .inr (by rw [q];exact aV _)
   .exact .inl q) λb hb=>by
    rw [fM]
    simp only [bx,iC,or_false] at hb
    rcases hb with q | q | q
    .rw [q];exact jK _
    .rw [q];exact jK _
    .rw [q];exact nu ha
 refine zK (λhz=>?_) (λhz=>?_)
 .have hz:(!(l6 w)&&(!t.plain&&decide (es.size>1)))=true:=hz
  simp only [qt,Bool.not_eq_true',decide_eq_true_eq] at hz
  refine ah (Oo _ _ _ _ (by simp) λps d' pp=>?_)
  have bg:∀p∈ps,p<es.size:=λp hp=>zA.mp (pp.mem_iff.mp hp)
  have hsz:(ps.map λ(p:Nat)=>rawInt p).length<=sizeLine:=by
   rw [bB,pp.length_eq,vR]
   exact vI S.lt
  refine ah (zy ?_ hsz)
  have len:=S.len
  refine ah (m:=setEpoch a) (wpAny_setEpoch_of (aZ _ ho) hd S.fits ?_)
  refine ah (nv (aH ⟨_,rfl,"set_iterator",_,⟨_,c9 _ rfl,rfl⟩,slot_next.lookup,?_⟩) (by size_fits))
  have K4:∀p∈ps,(bS[p]?).isSome=true:=λp hp=>by
   rw [gO (by have:=bg p hp;omega)];rfl
  have W:=nM (prog:=prog) (w:=w) (A:=A2) (I:=(s.heap.push { cls:=.type "tuple",data:=.seq (ps.map λ(p:Nat)=>rawInt p).toArray }).objs.size) (tp:=s.heap.objs.size) (ot:={ cls:=.type "tuple",data:=.seq (ps.map λ(p:Nat)=>rawInt p).toArray }) (nt:=0) (ps:=ps) hh (by rw [fM];exact cI (nu ha)) (by rw [fM];exact cI (jK _)) hd S rfl bg
  have eP:(λ(i:Nat) (v:Value)=>((ps[i]?).bind λp=>es[p]?).map (·.2)=some v)=Pv (ps.filterMap λp=>bS[p]?):=by
   funext i v
   unfold Pv
   rw [M3 ps K4 i]
   cases ps[i]? with
   | none=>rfl
   | some p=>rw [uk,uk,CW S.ql,Option.map_map];rfl
  rw [eP,<-NU ps K4] at W
  refine h _ d' _ _ _ (ps.filterMap λp=>bS[p]?) (by rw [fM];exact qq _) (λb o e=>aZ _ (aZ _ e)) ?_ W ⟨c9 _ rfl,aZ _ (aZ _ ho),aZ _ (c9 _ rfl)⟩ (λb hb=>?_) λb hb=>?_
  .have:=pp.filterMap λp=>bS[p]?
   rw [len,List.filterMap_getElem?_range_length] at this
   exact this
  .simp only [bx,iC,or_false,fM] at hb
   rcases hb with q | q | q
   .exact .inr (by rw [q];exact qq _)
   .exact .inl q
   .exact .inr (by rw [q];exact aV _)
  .rw [fM,fM]
   simp only [bx,iC,or_false,fM] at hb
   rcases hb with q | q | q | q
   .rw [q];exact jK _
   .rw [q];exact jK _
   .rw [q];exact nu (nu ha)
   .rw [q];exact nu (jK _)
 .have hz:¬((!(l6 w)&&(!t.plain&&decide (es.size>1)))=true):=hz
  rw [Bool.not_eq_true] at hz
  refine ah (aH ?_)
  refine ah (m:=setEpoch a) (wpAny_setEpoch_of ho hd S.fits ?_)
  refine ah (nv (aH ⟨_,rfl,"set_iterator",_,⟨_,c9 _ rfl,rfl⟩,slot_next.lookup,?_⟩) (by size_fits))
  by_cases hb:l6 w=true
  .obtain ⟨us,pu,eu⟩:=DN (f:=λq:K×Int×Value=>q.2) (Pw (w.params.setOrder a ep) es.size 0 es.toList #[] (et).symm) bS (by simpa using S.ql)
   exact iA _ hz us _ pu (wL hh (cI ha) hd S hb eu) ⟨c9 _ rfl,aZ _ ho⟩
  .refine iA _ hz bS _ (qu _) (wM hh (cI ha) hd S (by simpa using hb) ?_) ⟨c9 _ rfl,aZ _ ho⟩
   have m8:l6 w=false:=by simpa using hb
   rw [m8] at hz
   simp only [Bool.not_false,Bool.true_and,Bool.and_eq_false_iff,Bool.not_eq_false',decide_eq_false_iff_not] at hz
   exact hz.imp id λq=>by omega
end
end SE
namespace SE
open PySem PyProof.Rows PySem.Calls PySem.W
section
variable {prog:Program}{w:World}{K:Type}[DecidableEq K]{knd:KeyKind prog w K}{A:Around}{E:Value->Shared->Prop}{s:Shared}
theorem Zr{r:Addr}{Q:Bool->Shared->Prop}(hT:s.TypeIs (.ref r) "set")(h:Q false s):wpAny (model prog w) A (MR (.ref r)) Q E s:=by
 unfold MR
 refine ah (wpAny_specialOf hT F.slot_set_len.lookup ?_)
 generalize LG:("set.__len__":String)=UE
 wp_delta
 rw [show splitId UE=some ("set","__len__") from by subst LG;decide +kernel]
 subst LG
 refine ah (GY (T:="set") (b:=true) hT sub_set_self ?_)
 refine zK (λz=>absurd z (by decide)) (λ_=>zK (λ_=>?_) (λz=>absurd (by decide +kernel) z))
 exact ah (vz hT (aH h))
theorem Z6{us:List (K×Int×Value)}{acc:Array Value}(h:ItemsOf (Pv us) acc us.length):acc.toList=us.map (·.2.2):=by
 refine Hu λi=>?_
 rw [l9]
 rcases B9 i us.length with q | q
 .have hs:i<acc.size:=by rw [h.1];exact q
  have:=h.2 i acc[i] (vN hs)
  unfold Pv at this
  rw [this,pj,vN hs]
 .rw [zV q,zV (by rw [et,h.1];exact q)];rfl
theorem a74{a:Addr}{o:Obj}{ks:List K}{R:List Value->Shared->Prop}(hh:A.handled=none)(ho:s.heap.get? a=some o)(Z:Sa knd o ks)
  (h:∀(h':Heap) d' tk (us:List (K×Int×Value)),(∀b o,s.heap.get? b=some o->h'.get? b=some o)->s.heap.objs.size<=h'.objs.size->(us.map (·.1)).Perm ks->(∀q∈us,knd.is q.1 q.2.2=true)->us.length<scanBound->R (us.map (·.2.2)) { s with heap:=h',drawn:=d',toks:=tk }):
  wpAny (model prog w) A (collect (.ref a)) R E s:=by
 obtain ⟨hex,es,ep,t,bS,hd,S,rfl⟩:=Z
 have ha:a<s.heap.objs.size:=bF ho
 unfold collect
 refine ah (wpAny_runValue (vE entry_proto_collect' ?_))
 rw [Aa F.plain_proto_collect _]
 show wpAny _ A.in1 (newList [] >>= λl=>again (.builtin "list.__iadd__" ⟨[l,.ref a],[]⟩)) _ _ s
 refine ah (nv (aH ⟨zw F.plain_list_iadd _,vE entry_list_iadd' ?_⟩))
 rw [Aa F.plain_list_iadd _]
 show wpAny _ A.in1 (MQ (.ref s.heap.objs.size) (.ref a) (.ref s.heap.objs.size)) _ _ _
 generalize hg:s.heap.push { cls:=.type "list",data:=.seq ([]:List Value).toArray }=g
 have gs:g.objs.size=s.heap.objs.size+1:=by rw [<-hg];exact fM ..
 have gl:g.get? s.heap.objs.size=some { cls:=.type "list",data:=.seq #[] }:=by rw [<-hg];exact c9 _ rfl
 have up:∀b o,s.heap.get? b=some o->g.get? b=some o:=λb o e=>by rw [<-hg];exact aZ _ e
 have ga:=up a o ho
 have hT:({ s with heap:=g }:Shared).TypeIs (.ref a) "set":=⟨o,ga,hex.1⟩
 unfold MQ
 refine ah (vz hT ?_)
 have h1:Mm (.ref s.heap.objs.size) (.ref a)=false:=by simp [Mm,o9 ha]
 have h2:(mH "set" == mH "list")=false:=by decide
 have h3:(mH "set" == mH "tuple")=false:=by decide
 simp only [h1,h2,h3,Bool.or_false,oB,if_false]
 refine ah (Z7 (A2:=A.in1) (s:={ s with heap:=g }) (by simp [hh]) ga hex hd S λh' d' I fp St us hI k pu W st hf yK=>?_)
 have qe:s.heap.objs.size∉fp:=λz=>by
  rcases hf _ z with q | q
  .exact absurd q (o9 ha)
  .simp only [gs] at q;omega
 have hSI:s.heap.objs.size≠I:=by simp only [gs] at hI;omega
 have end_:∀(h1:Heap) (c1 tk:Nat),St 0 h1->(∀b o,b≠s.heap.objs.size->s.heap.get? b=some o->h1.get? b=some o)->h1.get? s.heap.objs.size=some { cls:=.type "list",data:=.seq #[] c1 } ->
   codeAny (model prog w) A (.builtin "list.extend.loop" ⟨[.ref s.heap.objs.size,.ref I,.ref s.heap.objs.size],[]⟩) (λr s'=>∃(h':Heap) (nN:Nat) (acc:Array Value) (c':Nat),r=.ok (.ret (.ref s.heap.objs.size))/\s'={ s with heap:=h',drawn:=d',toks:=nN }/\(∀b o,s.heap.get? b=some o->h'.get? b=some o)/\h'.get? s.heap.objs.size=some { cls:=.type "list",dict:=none,data:=.seq acc c',slots:=#[] }/\acc.toList=us.map (·.2.2)) { s with heap:=h1,drawn:=d',toks:=tk }:=λh1 c1 tk QN k1 g1=>by
  refine codeAny_extend_loopS W.toS ?_ _ qe _ us.length 0 _ #[] c1 rfl (jM _) QN g1 (ItemsOf.nil _) λs' acc c' mv g' it=>?_
  .rw [pu.length_eq,<-S.len];exact vI S.lt
  .have e:=Moved.eq_with mv
   refine ⟨s'.heap,s'.toks,acc,c',rfl,e,λb o eo=>mv.heap b o (λz=>?_) (k1 b o (cI (bF eo)) eo),g',Z6 it⟩
   have hb:=bF eo
   simp only [bx,iC,or_false] at z
   simp only [gs] at hI
   rcases z with z | z
   .exact cI hb z
   .exact cI (jg hb (Ht hI)) z
 refine ah (lz (Zr ⟨o,k a o ga,hex.1⟩ ?_))
 have g1:=k _ _ gl
 have fin:∀(dY:Shared) (h':Heap) (nN:Nat) (acc:Array Value) (c':Nat) (f:Array Value->Sem (List Value)),(∀xs,f xs=pure xs.toList)->dY={ s with heap:=h',drawn:=d',toks:=nN }->(∀b o,s.heap.get? b=some o->h'.get? b=some o)->s.heap.objs.size<h'.objs.size->acc.toList=us.map (·.2.2)->wpAny (model prog w) A (f acc) R E dY:=λdY h' nN acc c' f hf e2 e3 e6 e5=>by
  subst e2
  rw [hf,e5]
  exact aH (h h' d' nN us e3 (rz e6) (pu.map _) (λq hq=>(S.el q (pu.mem_iff.mp hq)).1) (by rw [pu.length_eq,<-S.len];exact S.lt))
 refine zK (λ_=>?_) (λ_=>?_)
 rotate_left
 .refine aH ⟨zw F.plain_extend_loop _,rq (end_ _ 0 s.toks st (λb o hb e=>k b o (up b o e)) g1) λq dY ⟨h',nN,acc,c',e1,e2,e3,e4,e5⟩=>?_⟩
  subst e1;subst e2
  show wpAny _ A (load s.heap.objs.size >>= _) _ _ _
  exact ah (wpAny_load e4 (fin _ h' nN acc c' (λxs=>pure xs.toList) (λ_=>rfl) rfl e3 (bF e4) e5))
 refine ah (o5 (ah ?_))
 show wpAny _ _ (updateSeq s.heap.objs.size (·.push .none) >>= λ_=>updateSeq s.heap.objs.size (·.pop)) _ _ _
 refine ah (wpAny_updateSeq g1 rfl ?_)
 have g2:=zZ (cW (·.push fV)) g1 rfl
 refine wpAny_updateSeq (hz:=by seq_fits) g2 rfl ?_
 have g3:=zZ (cW (·.pop)) g2 rfl
 have La:∀b o,b≠s.heap.objs.size->h'.get? b=some o->((h'.update s.heap.objs.size (cW (·.push fV))).update s.heap.objs.size (cW (·.pop))).get? b=some o:=λb o hb e =>
  (ui _ _ (gJ hb)).trans ((ui _ _ (gJ hb)).trans e)
 refine aH ⟨zw F.plain_extend_loop _,rq (end_ _ _ s.toks (W.frame 0 _ _ st λb hb o e=>La b o (λz=>qe (z▸hb)) e) (λb o hb e=>La b o hb (k b o (up b o e))) g3) λq dY ⟨h',nN,acc,c',e1,e2,e3,e4,e5⟩=>?_⟩
 subst e1;subst e2
 show wpAny _ A (load s.heap.objs.size >>= _) _ _ _
 exact ah (wpAny_load e4 (fin _ h' nN acc c' (λxs=>pure xs.toList) (λ_=>rfl) rfl e3 (bF e4) e5))
end
end SE
namespace SE
open PySem PyProof.Rows PySem.Calls
theorem NK{α:Type}{p q:α->Bool}:∀(l:List α),(∀x∈l,p x=true->q x=true)->(∃x∈l,q x=true/\p x=false)->l.countP p<l.countP q
 | [],_,⟨_,z,_⟩=>nomatch z
 | a::l,h,⟨x,hx,h1,h2⟩=>by
  have mono:l.countP p<=l.countP q:=List.countP_mono_left λy hy=>h y (cG _ hy)
  rcases bx.mp hx with e | hx
  .subst e
   rw [CB h1,HE (by rw [h2];exact lx)]
   exact Nat.lt_succ_of_le mono
  .have ih:=NK l (λy hy=>h y (cG _ hy)) ⟨x,hx,h1,h2⟩
   by_cases ha:p a=true
   .rw [CB ha,CB (h a cm ha)]
    exact Nat.succ_lt_succ ih
   .rw [HE ha]
    by_cases hb:q a=true
    .rw [CB hb];exact nu ih
    .rw [HE hb];exact ih
structure Ol{K:Type}(lt:K->K->Bool):Prop where
 vg:∀a,lt a a=false
 tr:∀{a b c},lt a b=true->lt b c=true->lt a c=true
 oQ:∀{a b},a≠b->lt a b=true\/lt b a=true
section
variable {prog:Program}{w:World}{K:Type}[DecidableEq K]{knd:ud prog w K}{lt:K->K->Bool}{A:Around}{E:Value->Shared->Prop}{s:Shared}
structure Od(knd:ud prog w K)(lt:K->K->Bool):Prop where
 ol:Ol lt
 one:∀{a b:K} {u v:Value} {A:Around} {E:Value->Shared->Prop} {s:Shared} {Q:Bool->Shared->Prop},knd.is a u=true->knd.is b v=true->Q (lt a b) s->wpAny (model prog w) A (oneLt' true u v) Q E s
 kind:∀{us:List (K×Value)},(∀q∈us,knd.is q.1 q.2=true)->2<=us.length->keyKind' (us.map (·.2)).toArray=pure oneType'
noncomputable def rk(lt:K->K->Bool)(ks:List K)(k:K):Int:=(ks.countP λx=>lt x k:Nat)
theorem C3(O:Od knd lt){ks:List K}{a b:K}(ha:a∈ks)(h:lt a b=true):rk lt ks a<rk lt ks b:=by
 unfold rk
 have:=NK (p:=λx=>lt x a) (q:=λx=>lt x b) ks (λx _ z=>O.ol.tr z h) ⟨a,ha,h,O.ol.vg a⟩
 omega
theorem NB(O:Od knd lt){ks:List K}{a b:K}(ha:a∈ks)(hb:b∈ks):rk lt ks a<rk lt ks b↔lt a b=true:=by
 refine ⟨λz=>?_,C3 O ha⟩
 by_cases e:a=b
 .subst e;omega
 .rcases O.ol.oQ e with q | q
  .exact q
  .have:=C3 O hb q;omega
noncomputable def ky(knd:ud prog w K)(lt:K->K->Bool)(ks:List K)(v:Value):Int:=match ks.find? λk=>knd.is k v with
 | some k=>rk lt ks k
 | none=>0
theorem HX{ks:List K}{k:K}{v:Value}(hk:k∈ks)(h:knd.is k v=true):ky knd lt ks v=rk lt ks k:=by
 unfold ky
 cases hf:ks.find? λk=>knd.is k v with
 | none=>exact absurd h (by simpa using List.find?_eq_none.mp hf k hk)
 | some k'=>rw [knd.inj v k' k (List.find?_some (p:=λk=>knd.is k v) hf) h]
theorem Za(O:Od knd lt){ks:List K}{us:List (K×Value)}(FF:ks.Nodup)(hu:(us.map (·.1)).Perm ks)(hi:∀q∈us,knd.is q.1 q.2=true)(S:Shared)(h2:2<=us.length):
  (∀{A:Around} {E:Value->Shared->Prop} {Q:SortKind->Shared->Prop},Q oneType' S->wpAny (model prog w) A (keyKind' (us.map (·.2)).toArray) Q E S) /\
  ∀{A:Around} {E:Value->Shared->Prop},wpS (model prog w) A E S sortRuns' (λ_ ag=>((((arrOf ag).map (·.2)).toList.Perm (us.map (·.2)))/\((arrOf ag).map (·.2)).toList.Pairwise λx y=>ky knd lt ks x<ky knd lt ks y)/\failedOf ag=none) (qr oneType' (pairsOf (us.map (·.2))) #[] 7 none):=by
 have mem:∀q∈us,q.1∈ks:=λq hq=>hu.mem_iff.mp (e7.mpr ⟨q,hq,rfl⟩)
 have kq:∀q∈us,ky knd lt ks q.2=rk lt ks q.1:=λq hq=>HX (mem q hq) (hi q hq)
 have pz:∀p∈(pairsOf (us.map (·.2))).toList,∃q∈us,p.1=q.2:=λp hp=>by
  rw [rK] at hp
  obtain ⟨q,hq,e⟩:=e7.mp (uv hp).1
  exact ⟨q,hq,e.symm⟩
 refine ⟨λ{A E Q} hQ=>by rw [O.kind hi h2];exact aH hQ,λ{A E}=>?_⟩
 have hz:(pairsOf (us.map (·.2))).size=us.length:=by rw [<-et,rK];simp
 refine SO.qN (kd:=oneType') (κ:=λp=>ky knd lt ks p.1) (C:=λp=>∃q∈us,p.1=q.2) (a₀:=pairsOf (us.map (·.2))) ⟨λ{x y} cx cy bo=>?_⟩ ⟨pz,?_⟩ ⟨zN _,rfl,rfl,rfl,jM _,trivial,λR hR=>nomatch hR⟩ (by rw [hz];exact h2) λag p f i=>⟨TS.nU p λa b l4 hb=>SO.dZ i l4 (by rw [p.size_eq];exact hb),f⟩
 .intro A E Q hQ
  obtain ⟨q,hq,e⟩:=cx
  obtain ⟨r,hr,e'⟩:=cy
  rw [keyLt'_oneType]
  rw [e,e',kq q hq,kq r hr] at hQ
  rw [e,e']
  refine O.one (hi q hq) (hi r hr) ?_
  have:decide (rk lt ks q.1<rk lt ks r.1)=lt q.1 r.1:=by
   rw [Bool.eq_iff_iff,decide_eq_true_eq];exact NB O (mem q hq) (mem r hr)
  rwa [this] at hQ
 .have e:((pairsOf (us.map (·.2))).toList.map λp=>ky knd lt ks p.1)=us.map λq=>rk lt ks q.1:=by
   rw [rK]
   have:((us.map (·.2)).zip (us.map (·.2))).map (λp=>ky knd lt ks p.1)=(us.map (·.2)).map (ky knd lt ks):=by
    show ((us.map (·.2)).zip (us.map (·.2))).map (ky knd lt ks∘λp:Value×Value=>p.1)=_
    rw [<-jh,List.map_fst_zip (aV _)]
   rw [this,jh]
   exact ME λq hq=>kq q hq
  show (((pairsOf (us.map (·.2))).toList.map λp=>ky knd lt ks p.1)).Nodup
  rw [e]
  have nd:(us.map (·.1)).Nodup:=hu.nodup_iff.mpr FF
  have:us.map (λq=>rk lt ks q.1)=(us.map (·.1)).map (rk lt ks):=by rw [jh];rfl
  rw [this]
  refine List.Pairwise.map _ (λa b l4=>?_) (nd.imp_of_mem (S:=λa b=>a∈ks/\b∈ks/\a≠b) λ{a b} ha hb bo=>⟨hu.mem_iff.mp ha,hu.mem_iff.mp hb,bo⟩)
  intro e
  rcases O.ol.oQ l4.2.2 with q | q
  .have:=C3 O l4.1 q;omega
  .have:=C3 O l4.2.1 q;omega
theorem kH(O:Od knd lt){a:Addr}{o:Obj}{ks:List K}{Q:Value->Shared->Prop}(hh:A.handled=none)(ho:s.heap.get? a=some o)(Z:Sa knd o ks)(kX:ks.Nodup)
  (h:∀(h':Heap) d' tk D e (us:List (K×Value)),(∀b o,s.heap.get? b=some o->h'.get? b=some o)->s.heap.objs.size<=D->h'.get? D=some (seqObj "list" (us.map (·.2)).toArray e)->(us.map (·.1)).Perm ks->(us.map (·.1)).Pairwise (λx y=>lt x y=true)->(∀q∈us,knd.is q.1 q.2=true)->us.length<scanBound->Q (.ref D) { s with heap:=h',drawn:=d',toks:=tk }):
  wpAny (model prog w) A (call (.builtin "sorted") [.ref a]) Q E s:=by
 refine MK kind_sorted plain_sorted entry_sorted (args_sorted1 _) ?_
 unfold Builtin.«sorted»
 refine ah (m:=checkCount "sorted" 1 1 _) (aH (ah (a74 (by simp [hh]) ho Z λh1 d' tk us k1 sz pu iu lu=>?_)))
 generalize hv:us.map (λq=>(q.1,q.2.2))=vs
 have e1:us.map (·.2.2)=vs.map (·.2):=by rw [<-hv,jh];rfl
 have e2:us.map (·.1)=vs.map (·.1):=by rw [<-hv,jh];rfl
 have iv:∀q∈vs,knd.is q.1 q.2=true:=λq hq=>by
  rw [<-hv] at hq
  obtain ⟨r,hr,rfl⟩:=e7.mp hq
  exact iu r hr
 have lv:vs.length<scanBound:=by rw [<-hv,bB];exact lu
 rw [e2] at pu
 rw [e1]
 have hZ:(vs.map (·.2)).length<=sizeLine:=by rw [bB];exact vI lv
 refine ah (vM (hsz:=hZ) ?_)
 have z2:(h1.push (seqObj "list" (vs.map (·.2)).toArray 0)).get? h1.objs.size=some (seqObj "list" (vs.map (·.2)).toArray 0):=c9 _ rfl
 have mem:∀q∈vs,q.1∈ks:=λq hq=>pu.mem_iff.mp (e7.mpr ⟨q,hq,rfl⟩)
 refine ah (lz (mO G4 ⟨_,z2,rfl⟩ G7 (TS.xh (κ:=oneType') (R:=λout=>out.toList.Perm (vs.map (·.2))/\out.toList.Pairwise λx y=>ky knd lt ks x<ky knd lt ks y) z2 hZ (λhl=>?_) (λout ho=>?_) (λS _ h2=>Za O kX pu iv S (by rwa [bB] at h2)) λout o1=>⟨_,rfl,?_⟩) (args_list_sort _)))
 .refine ⟨qu _,?_⟩
  rw [bB] at hl
  show List.Pairwise _ (vs.map (·.2))
  cases vs with
  | nil=>exact ur
  | cons x l=>cases l with
   | nil=>exact nq _ _
   | cons y l=>simp at hl;omega
 .rw [<-et,ho.1.length_eq]
 .refine aH ⟨_,rfl,?_⟩
  obtain ⟨ws,pw,ew⟩:=DN o1.1 vs rfl
  obtain ⟨e,he⟩:=sortedHeap_at (out:=out) z2
  have k2:∀b o,s.heap.get? b=some o->(sortedHeap (h1.push (seqObj "list" (vs.map (·.2)).toArray 0)) h1.objs.size (vs.map (·.2)) out).get? b=some o:=λb o eb=>by
   have hb:b<h1.objs.size:=bF (k1 b o eb)
   rw [sortedHeap_old (cI hb) (by rw [fM];exact nu hb)]
   exact aZ _ (k1 b o eb)
  refine h _ d' tk _ e ws k2 sz (by rw [he];congr 1;congr 1;rw [<-ew]) ((pw.map _).trans pu) ?_ (λq hq=>iv q (pw.mem_iff.mp hq)) (by rw [pw.length_eq];exact lv)
  have p:=o1.2
  rw [ew,rE] at p
  rw [rE]
  refine p.imp_of_mem λ{x y} hx hy z=>?_
  have js:=pw.mem_iff.mp hx
  have sZ:=pw.mem_iff.mp hy
  rw [HX (mem x js) (iv x js),HX (mem y sZ) (iv y sZ)] at z
  exact (NB O (mem x js) (mem y sZ)).mp z
end
end SE
namespace SE
open PySem PyProof.Rows
noncomputable def ltI:Int->Int->Bool:=λa b=>decide (a<b)
noncomputable def sU:Str->Str->Bool:=λa b=>decide (a.cps.toList<b.cps.toList)
theorem fx:Ol ltI where
 vg:=λa=>by simp [ltI]
 tr:=λh1 h2=>by simp [ltI] at *;omega
 oQ:=λh=>by simp [ltI];omega
theorem sP{prog:Program}{w:World}:Od (intKind prog w) ltI where
 ol:=fx
 one:=λ{a b u v A E s Q} ha hb hQ=>by
  obtain ⟨t,rfl⟩:=zD ha
  obtain ⟨t',rfl⟩:=zD hb
  exact oneLt_int hQ
 kind:=λ{us} h h2=>by
  have key:∀us:List (Int×Value),(∀q∈us,(intKind prog w).is q.1 q.2=true)->IntsAre (us.map (·.2)) (us.map (·.1)):=λus=>by
   induction us with
   | nil=>intro _;exact .nil
   | cons q us ih =>
    intro h
    obtain ⟨t,e⟩:=zD (h q cm)
    rw [jL,jL,e]
    exact .cons _ t (ih λq hq=>h q (cG _ hq))
  have k:=key us h
  match us,h2,k with
  | a::b::us,_,k=>exact keyKind_ints k
theorem P7:∀{a b:List Nat},a≠b->a<b\/b<a
 | [],[],h=>absurd rfl h
 | [],_::_,_=>.inl List.Lex.nil
 | _::_,[],_=>.inr List.Lex.nil
 | x::a,y::b,h=>by
  rcases Nat.lt_trichotomy x y with q | q | q
  .exact .inl (List.Lex.rel q)
  .subst q
   rcases P7 (a:=a) (b:=b) (λe=>h (by rw [e])) with z | z
   .exact .inl (List.Lex.cons z)
   .exact .inr (List.Lex.cons z)
  .exact .inr (List.Lex.rel q)
theorem iO:Ol sU where
 vg:=λa=>by simp [sU,List.lt_irrefl]
 tr:=λh1 h2=>by
  unfold sU at *
  rw [decide_eq_true_eq] at *
  exact List.lt_trans h1 h2
 oQ:=λ{a b} h=>by
  unfold sU
  rw [decide_eq_true_eq,decide_eq_true_eq]
  refine P7 λe=>h ?_
  obtain ⟨x⟩:=a
  obtain ⟨y⟩:=b
  have e':x=y:=GX.mp e
  rw [e']
theorem sO{prog:Program}{w:World}:Od (BY prog w) sU where
 ol:=iO
 one:=λ{a b u v A E s Q} ha hb hQ=>by
  obtain ⟨t,rfl⟩:=zG ha
  obtain ⟨t',rfl⟩:=zG hb
  exact oneLt_str hQ
 kind:=λ{us} h h2=>by
  have key:∀us:List (Str×Value),(∀q∈us,(BY prog w).is q.1 q.2=true)->StrsAre (us.map (·.2)) (us.map (·.1)):=λus=>by
   induction us with
   | nil=>intro _;exact .nil
   | cons q us ih =>
    intro h
    obtain ⟨t,e⟩:=zG (h q cm)
    rw [jL,jL,e]
    exact .cons _ t (ih λq hq=>h q (cG _ hq))
  have k:=key us h
  match us,h2,k with
  | a::b::us,_,k=>exact keyKind_strs k
noncomputable def ins{K:Type}(lt:K->K->Bool)(x:K):List K->List K
 | []=>[x]
 | y::l=>if lt x y=true then x::y::l else if lt y x=true then y::ins lt x l else y::l
noncomputable def mn{K:Type}(lt:K->K->Bool):List K->List K
 | []=>[]
 | x::l=>ins lt x (mn lt l)
section
variable {K:Type}[DecidableEq K]{lt:K->K->Bool}
theorem IQ(O:Ol lt)(x z:K):∀l:List K,z∈ins lt x l↔z=x\/z∈l
 | []=>by simp [ins]
 | y::l=>by
  unfold ins
  split
  .simp
  .split
   .rw [bx,IQ O x z l,bx]
    constructor
    .rintro (q | q | q)
     .exact .inr (.inl q)
     .exact .inl q
     .exact .inr (.inr q)
    .rintro (q | q | q)
     .exact .inr (.inl q)
     .exact .inl q
     .exact .inr (.inr q)
   .rename_i h1 h2
    have e:x=y:=MV λz=>(O.oQ z).elim h1 h2
    subst e
    simp
theorem NZ(O:Ol lt)(x:K):∀l:List K,l.Pairwise (λa b=>lt a b=true)->(ins lt x l).Pairwise (λa b=>lt a b=true)
 | [],_=>nq _ _
 | y::l,h=>by
  obtain ⟨h1,h2⟩:=fE.mp h
  unfold ins
  split
  .rename_i q
   refine fE.mpr ⟨λz hz=>?_,h⟩
   rcases bx.mp hz with e | e
   .rw [e];exact q
   .exact O.tr q (h1 z e)
  .split
   .rename_i q
    refine fE.mpr ⟨λz hz=>?_,NZ O x l h2⟩
    rcases (IQ O x z l).mp hz with e | e
    .rw [e];exact q
    .exact h1 z e
   .exact h
theorem fP(O:Ol lt)(z:K):∀l:List K,z∈mn lt l↔z∈l
 | []=>dP
 | x::l=>by unfold mn;rw [IQ O,fP O z l,bx]
theorem fQ(O:Ol lt):∀l:List K,(mn lt l).Pairwise (λa b=>lt a b=true)
 | []=>ur
 | x::l=>NZ O x _ (fQ O l)
theorem lC(O:Ol lt):∀{l m:List K},l.Pairwise (λa b=>lt a b=true)->m.Pairwise (λa b=>lt a b=true)->(∀z,z∈l↔z∈m)->l=m
 | [],[],_,_,_=>rfl
 | [],b::m,_,_,h=>absurd ((h b).mpr cm) (λz=>nomatch z)
 | a::l,[],_,_,h=>absurd ((h a).mp cm) (λz=>nomatch z)
 | a::l,b::m,hl,hm,h=>by
  obtain ⟨l1,l2⟩:=fE.mp hl
  obtain ⟨m1,m2⟩:=fE.mp hm
  have no:∀{x y:K},lt x y=true->lt y x=true->False:=λ{x y} p q=>by
   have:=O.tr p q
   rw [O.vg] at this
   exact uj this
  have e:a=b:=by
   rcases bx.mp ((h a).mp cm) with q | q
   .exact q
   .rcases bx.mp ((h b).mpr cm) with r | r
    .exact r.symm
    .exact (no (m1 a q) (l1 b r)).elim
  subst e
  rw [lC O l2 m2 λz=>?_]
  constructor
  .intro hz
   rcases bx.mp ((h z).mp (cG _ hz)) with q | q
   .subst q
    have:=l1 z hz
    rw [O.vg] at this
    exact uj this
   .exact q
  .intro hz
   rcases bx.mp ((h z).mpr (cG _ hz)) with q | q
   .subst q
    have:=m1 z hz
    rw [O.vg] at this
    exact uj this
   .exact q
end
end SE
namespace DL
open PySem PySem.Spec PyProof.Rows L2
theorem _root_.L2.Inv.drawn{X:Cx}{pins:List (Addr×Obj)}{σ:List (Option V)}{H:Hp}{s:Shared}(I:Inv X pins σ H s)(d':Drawn):Inv X pins σ H { s with drawn:=d' }:=
 ⟨I.ok,I.os,I.bare,I.base,I.loc,I.cell,I.free,I.dD,I.pin,I.bb,I.len⟩
section
variable {X:Cx}{K:Type}[DecidableEq K]{knd:ud X.prog X.w K}{lt:K->K->Bool}{mk:K->V}
structure Kv(knd:ud X.prog X.w K)(mk:K->V):Prop where
 to:∀{k:K} {u:Value},RelV (mk k) u->knd.is k u=true/\u.scannable=true
 of:∀{k:K} {u:Value},knd.is k u=true->RelV (mk k) u
noncomputable def sE(knd:ud X.prog X.w K)(a:Addr)(ks:List K):HO:=.ext λh=>∃o,h.get? a=some o/\SE.Sa knd o ks
theorem eW(T:Kv knd mk)(dk:K)(hc:X.calm=true):bH X (.type "set") (λxs H Q=>∃(p:Addr) (ns:List K),xs=[.ref p]/\Sq X.K H true p (ns.map mk)/\ns.length+1<scanBound /\
  ∀(a:Addr) (ks:List K),ks.Nodup->(∀x,x∈ks↔x∈ns)->H a=none->Q (.ref a) (upd H a (sE knd a ks))):=by
 intro pins s σ H xs us Q I r h
 obtain ⟨p,ns,rfl,hq,hb,q⟩:=h
 obtain ⟨u,rfl,ru⟩:=r.one
 cases ru
 obtain ⟨aq,rv,pl⟩:=qy (b:=true) I hq
 have hl:aq.length=ns.length:=by rw [<-rv.length,bB]
 refine SE.eW (knd:=knd) (items:=aq.toArray) (I.ok.hd hc) pl (λi=>ns.getD i dk) (λi v hv=>?_) (by rw [cZ,hl];exact hb) λh' tk o ks k ho Z D=>?_
 .rw [Hg] at hv
  have hi:i<ns.length:=by
   have:=(kr.mp hv).1
   omega
  obtain ⟨u,e1,e2⟩:=au.get (x:=mk ns[i]) rv (i:=i) (by rw [l9,gO hi];rfl)
  rw [hv] at e1
  cases e1
  rw [HD,gO hi]
  exact T.to e2
 .have fr:H s.heap.objs.size=none:=I.bb.fresh (aV _)
  refine ⟨.ref s.heap.objs.size,_,I.laid (o:=sE knd s.heap.objs.size ks) (t':=tk) (λb o e=>k b o (bF e) e) (aV _) ⟨⟨o,ho,Z⟩,⟨o,ho⟩,λh1 h2 ⟨o,e,z⟩ kk=>⟨o,kk _ e,z⟩⟩,rfl,q _ ks D.nd (λx=>?_) fr⟩
  rw [D.mem,cZ,hl]
  constructor
  .rintro ⟨j,hj,e⟩
   rw [<-e,HD,gO hj]
   exact nr hj
  .intro hx
   obtain ⟨j,hj,e⟩:=mI.mp hx
   exact ⟨j,hj,by rw [HD,gO hj];exact e⟩
theorem PX(T:Kv knd mk)(O:SE.Od knd lt)(hc:X.calm=true):bH X (.builtin "sorted") (λxs H Q=>∃(p:Addr) (ks:List K),xs=[.ref p]/\H p=some (sE knd p ks)/\ks.Nodup /\
  ∀(ms:List K) (a:Addr),ms.Perm ks->ms.Pairwise (λx y=>lt x y=true)->H a=none->Q (.ref a) (upd H a (.lst (ms.map mk)))):=by
 intro pins s σ H xs vs Q I r h
 obtain ⟨p,ks,rfl,hp,kX,q⟩:=h
 obtain ⟨u,rfl,ru⟩:=r.one
 cases ru
 obtain ⟨⟨o,ho,Z⟩,_⟩:=I.bb p _ hp
 refine SE.kH O (I.ok.hd hc) ho Z kX λh' d' tk D e us k sz hD pu dq iu lu=>?_
 have fr:H D=none:=I.bb.fresh sz
 refine ⟨.ref D,_,(I.laid (o:=.lst ((us.map (·.1)).map mk)) (t':=tk) k sz ⟨?_,us.map (·.2),e,?_,hD⟩).drawn d',rfl,q _ D pu dq fr⟩
 .rw [bB,bB];exact vI lu
 .clear hD pu dq lu
  induction us with
  | nil=>exact .nil
  | cons x us ih=>exact .cons (T.of (iu x cm)) (ih λq hq=>iu q (cG _ hq))
theorem Nk:Kv (intKind X.prog X.w) V.int:=⟨λ{k u} ⟨t,e⟩=>by subst e;exact ⟨by simp [intKind,Value.isInt],rfl⟩,λh=>zD h⟩
theorem Nm:Kv (BY X.prog X.w) V.str:=⟨λ{k u} ⟨t,e⟩=>by subst e;exact ⟨by simp [BY,Value.isStrOf],rfl⟩,λh=>zG h⟩
theorem HR{e:Expr}{t1 t2:TE}(h1:PE X e t1)(h2:PE X e t2):PE X e (λσ H Q=>t1 σ H Q\/t2 σ H Q):=λpins s σ H Q I h=>h.elim (h1 pins s σ H Q I) (h2 pins s σ H Q I)
theorem Ni{K:aB}{O:Addr->Prop}{H:Hp}:∀ws:List Int,aI K O H (ws.map V.int) (ws.map D.int)
 | []=>.nil
 | _::ws=>.cons (Is.int _) (Ni ws)
theorem Nj{K:aB}{O:Addr->Prop}{H:Hp}:∀ws:List Str,aI K O H (ws.map V.str) (ws.map D.str)
 | []=>.nil
 | _::ws=>.cons (Is.str _) (Nj ws)
noncomputable def C2:List D->Option (List Str)
 | []=>some []
 | .str x::ds=>(C2 ds).map (x::·)
 | _::_=>none
theorem PN:∀{ds:List D} {ss:List Str},C2 ds=some ss->ds=ss.map D.str
 | [],ss,h=>by cases h;rfl
 | .str x::ds,ss,h=>by
  obtain ⟨s',h1,rfl⟩:=map_some (show (C2 ds).map (x::·)=some ss from h)
  rw [PN h1];rfl
theorem PC{K:aB}{O:Addr->Prop}{H:Hp}:∀{xs:List V} {ns:List Str},aI K O H xs (ns.map D.str)->xs=ns.map V.str
 | _,[],h=>by cases h;rfl
 | _,n::ns,h=>by
  cases h with
  | cons a t =>
   cases a
   rw [PC t];rfl
noncomputable def sset(ds:List D):Option (List D):=match jQ ds with
 | some ns=>if ns.length+1<4096 then some ((SE.mn SE.ltI ns).map D.int) else none
 | none=>(C2 ds).bind λss=>if ss.length+1<4096 then some ((SE.mn SE.sU ss).map D.str) else none
noncomputable def CS(f:En->Option Sl):En->Option Sl:=λenv=>(f env).bind λr=>match r.d with
 | .lst _ ds=>(sset ds).map Sl.ow
 | _=>none
theorem YG{e:Expr}{fa:En->Option Sl}{p pos p2 kO:Pos}(hc:X.calm=true)(hg:Gl X "sorted")(hm:X.mg "sorted" = none)(tJ:Gl X "set")(vk:X.mg "set" = none)(he:EV X e fa)(hs:starEach [e] X.env=[(false,eval e X.env)]:=by rfl)
  (dN:starEach [.Call (.Name "set" p2) [e] [] kO] X.env=[(false,eval (.Call (.Name "set" p2) [e] [] kO) X.env)]:=by rfl):EV X (.Call (.Name "sorted" p) [.Call (.Name "set" p2) [e] [] kO] [] pos) (CS fa):=by
 obtain ⟨t,pt,k⟩:=he
 have P1:=r8 (p:=p) (pos:=pos) (PX Nk SE.sP hc) hg hm (by decide +kernel) (lI (DG (p:=p2) (pos:=kO) (eW Nk (0:Int) hc) tJ vk (by decide +kernel) (lI pt md hs) (by decide) (by decide) hs rfl) md dN) (by decide) (by decide) dN rfl
 have P2:=r8 (p:=p) (pos:=pos) (PX Nm SE.sO hc) hg hm (by decide +kernel) (lI (DG (p:=p2) (pos:=kO) (eW Nm ("":Str) hc) tJ vk (by decide +kernel) (lI pt md hs) (by decide) (by decide) hs rfl) md dN) (by decide) (by decide) dN rfl
 refine ⟨_,HR P1 P2,λO B σ H env s Q R e q=>?_⟩
 obtain ⟨r,e1,e2⟩:=bind_some e
 cases hd:r.d with
 | lst b ds =>
  rw [hd] at e2
  obtain ⟨rs,e3,rfl⟩:=map_some (show (sset ds).map Sl.ow=some s from e2)
  unfold sset at e3
  split at e3
  .rename_i ns e4
   obtain ⟨fA,rfl⟩:=il e3
   refine .inl (k O B σ H env r _ R e1 λv H1 s1 r1=>?_)
   have hi:=r1.is λq=>R.oo
   rw [hd] at hi
   have Gp:=JW e4
   subst Gp
   obtain ⟨a,xs,rfl,h2,h3⟩:=hi.seq (k:=true) rfl
   have ex:=JC h3
   subst ex
   refine ⟨a,ns,rfl,h2,fA,λc ks nd mem hc=>⟨c,ks,rfl,me,nd,λms d pm dq hd=>?_⟩⟩
   have gp:ms=SE.mn SE.ltI ns:=SE.lC SE.fx dq (SE.fQ SE.fx ns) λz=>by rw [pm.mem_iff,mem,SE.fP SE.fx]
   have vo:H1 d=none:=by
    by_cases z:d=c
    .rw [z,me] at hd;cases hd
    .rwa [cR z] at hd
   rw [<-gp] at q
   refine q _ _ ((s1.trans (jl hc _)).trans (jl hd _)) ((rY hd ?_).from (s1.trans (jl hc _)))
   exact Ni _
  .rename_i e4
   obtain ⟨ss,e5,e6⟩:=bind_some e3
   obtain ⟨fA,rfl⟩:=il e6
   refine .inr (k O B σ H env r _ R e1 λv H1 s1 r1=>?_)
   have hi:=r1.is λq=>R.oo
   rw [hd] at hi
   have Gp:=PN e5
   subst Gp
   obtain ⟨a,xs,rfl,h2,h3⟩:=hi.seq (k:=true) rfl
   have ex:=PC h3
   subst ex
   refine ⟨a,ss,rfl,h2,fA,λc ks nd mem hc=>⟨c,ks,rfl,me,nd,λms d pm dq hd=>?_⟩⟩
   have gp:ms=SE.mn SE.sU ss:=SE.lC SE.iO dq (SE.fQ SE.iO ss) λz=>by rw [pm.mem_iff,mem,SE.fP SE.iO]
   rw [<-gp] at q
   refine q _ _ ((s1.trans (jl hc _)).trans (jl hd _)) ((rY hd ?_).from (s1.trans (jl hc _)))
   exact Nj _
 | _=>rw [hd] at e2;cases e2
end
end DL
namespace DL
open PySem L2
def K5(d:D)(Q:Sl->Prop):Prop:=match d with
 | .lst _ ds=>Wo (sset ds) λrs=>Q (.ow rs)
 | _=>False
theorem Zy{f:En->Option Sl}{env:En}{Q:Sl->Prop}:Wo (CS f env) Q↔Wo (f env) λr=>K5 r.d Q:=by
 unfold CS
 rw [a0j]
 refine lK λr=>?_
 cases r.d<;>simp [K5,a0n,a1t]
theorem a9y(ns:List Int)(h:ns.length+1<4096):∃ms:List Int,sset (ns.map D.int)=some (ms.map D.int)/\ms.Pairwise (·<·)/\(∀x,x∈ms↔x∈ns):=by
 refine ⟨SE.mn SE.ltI ns,?_,(SE.fQ SE.fx ns).imp λ{a b} z=>by simpa [SE.ltI] using z,λx=>SE.fP SE.fx x ns⟩
 unfold sset
 rw [JA]
 dsimp only
 rw [if_pos h]
end DL
namespace My
open PySem L2 DL
noncomputable def top(i:Nat):Stmt:=PySem.Challenge.pw_offerhouse_k50_whole_at_every_amount.main.body.getD i (.Pass ⟨0,0,0,0⟩)
noncomputable abbrev Qa:Stmt:=top 45
noncomputable abbrev JZ{α:Type}(Y:Str->Stmt->List Str->α):α:=Y "_law_cost" Qa ["rows","x"]
noncomputable def J6:SF:=
 (aj (dg (eV 0) (gT 4 (kF (gN 2) (kF (gN 3) (kF (gN 4) (kF (gN 5) vU)))))
 (cc (mQ (bR (aa oZ (eV 2) (eV 1))) (bR (aa oZ (eV 1) (eV 3))))
 (aD (aa aQ (eV 4) (aa eh (eV 5) (aa bI (eV 1) (eV 2))))) cK))
 (aD (eC .aS)))
noncomputable def uS:List D->Option Sl:=aP J6 6
theorem lO:Wo (uS [a0,a1]) Q↔Wo (J6 [.sh a0,.sh a1,.no,.no,.no,.no]) (aN Q):=cO
noncomputable abbrev P0:Stmt:=top 47
noncomputable abbrev JT{α:Type}(Y:Str->Stmt->List Str->α):α:=Y "_law_least" P0 ["chains","x"]
noncomputable def JM:SF:=
 (aj (bD 2 (eC .aS))
 (aj (dg (eV 0) (gN 3)
 (aj (bD 4 (aU 2 uS (af (eV 3) (af (eV 1) ae))))
 (cc (mQ (bR (aa HU (eV 4) (eC .aS))) (jz (bR (aa qg (eV 2) (eC .aS))) (bR (aa gu (eV 4) (eV 2)))))
 (bD 2 (eV 4)) cK)))
 (aD (eV 2))))
noncomputable def wq:List D->Option Sl:=aP JM 5
theorem jV:Wo (wq [a0,a1]) Q↔Wo (JM [.sh a0,.sh a1,.no,.no,.no]) (aN Q):=cO
noncomputable abbrev Qb:Stmt:=top 48
noncomputable abbrev J0{α:Type}(Y:Str->Stmt->List Str->α):α:=Y "_law_cuts" Qb ["chains","form"]
noncomputable def J7:SF:=
 (aj (df 2 (bw ae))
 (aj (dg (aa aQ (eV 0) (bw (af (HS (bV 1)) ae))) (gN 3)
 (dg (eV 3) (gN 4)
 (aj (cL 2 (av (bV 4) (eC (.int 0))))
 (cL 2 (aa aQ (av (bV 4) (eC (.int 1))) (eC (.int 1)))))))
 (kM 2 (aD (CS (eV 2))))))
noncomputable def wm:List D->Option Sl:=aP J7 5
theorem lN:Wo (wm [a0,a1]) Q↔Wo (J7 [.sh a0,.sh a1,.no,.no,.no]) (aN Q):=cO
noncomputable abbrev PZ:Stmt:=top 46
noncomputable abbrev JS{α:Type}(Y:Str->Stmt->List Str->α):α:=Y "_law_chain" PZ ["one","other"]
noncomputable def JL:SF:=
 (aj (bD 2 (eV 0))
 (aj (bD 3 (eV 1))
 (aj (cc (bR (aa gu (av (bV 1) (eC (.int 3))) (av (bV 0) (eC (.int 3)))))
 (aj (bD 2 (eV 1))
 (bD 3 (eV 0))) cK)
 (aj (bD 4 (aa aQ (av (bV 0) (eC (.int 0))) (av (bV 1) (eC (.int 0)))))
 (aj (bD 5 (aa bI (av (bV 2) (eC (.int 1))) (av (bV 2) (eC (.int 0)))))
 (aj (bD 6 (aa aQ (av (bV 0) (eC (.int 2))) (av (bV 1) (eC (.int 2)))))
 (aj (df 7 (bw (af (bA (af (eV 4) (af (aa aQ (eV 4) (eV 5)) (af (eV 6) (af (av (bV 2) (eC (.int 3))) ae))))) ae)))
 (aj (cc (bR (aa gu (av (bV 3) (eC (.int 0))) (av (bV 3) (eC (.int 1)))))
 (aj (bD 8 (aa aQ (aa aQ (eV 6) (aa eh (av (bV 2) (eC (.int 3))) (eV 5))) (av (bV 3) (eC (.int 3)))))
 (cL 7 (bA (af (aa aQ (aa aQ (eV 4) (eV 5)) (eC (.int 1))) (af (aa aQ (av (bV 0) (eC (.int 1))) (av (bV 1) (eC (.int 1)))) (af (eV 8) (af (av (bV 3) (eC (.int 3))) ae))))))) cK)
 (nF 7)))))))))
noncomputable def wo:List D->Option Sl:=aP JL 9
theorem jW:Wo (wo [a0,a1]) Q↔Wo (JL [.sh a0,.sh a1,.no,.no,.no,.no,.no,.no,.no]) (aN Q):=cO
noncomputable abbrev PK:Stmt:=top 6
noncomputable abbrev Jx{α:Type}(Y:Str->Stmt->List Str->α):α:=Y "line_at" PK ["line","low","x"]
noncomputable def Jg:SF:=
 (aD (aa aQ (av (bV 0) (eC (.int 0))) (aa eh (av (bV 0) (eC (.int 1))) (aa bI (eV 2) (eV 1)))))
noncomputable def si:List D->Option Sl:=aP Jg 3
theorem mW:Wo (si [a0,a1,a2]) Q↔Wo (Jg [.sh a0,.sh a1,.sh a2]) (aN Q):=cO
noncomputable abbrev P9:Stmt:=top 17
noncomputable abbrev JX{α:Type}(Y:Str->Stmt->List Str->α):α:=Y "drawn_to" P9 ["row","x"]
noncomputable def J4:SF:=
 (aD (aU 3 si (af (bA (af (av (bV 0) (eC (.int 2))) (af (av (bV 0) (eC (.int 3))) ae))) (af (av (bV 0) (eC (.int 0))) (af (eV 1) ae)))))
noncomputable def uR:List D->Option Sl:=aP J4 2
theorem lS:Wo (uR [a0,a1]) Q↔Wo (J4 [.sh a0,.sh a1]) (aN Q):=cO
noncomputable abbrev PY:Stmt:=top 16
noncomputable abbrev JR{α:Type}(Y:Str->Stmt->List Str->α):α:=Y "holds_one" PY ["row"]
noncomputable def JK:SF:=
 (aD (aa ei (av (bV 0) (eC (.int 0))) (av (bV 0) (eC (.int 1)))))
noncomputable def qD:List D->Option Sl:=aP JK 1
theorem jX:Wo (qD [a0]) Q↔Wo (JK [.sh a0]) (aN Q):=cO
noncomputable abbrev Qi:Stmt:=top 15
noncomputable abbrev Kr{α:Type}(Y:Str->Stmt->List Str->α):α:=Y "may_follow" Qi ["ahead","row"]
noncomputable def Ko:SF:=
 (aj (cc (bR (aa ec (av (bV 1) (eC (.int 0))) (aa aQ (av (bV 0) (eC (.int 1))) (eC (.int 1)))))
 (aD (aa qh (av (bV 1) (eC (.int 0))) (av (bV 0) (eC (.int 1))))) cK)
 (aD (lj (mD (aU 1 qD (af (eV 0) ae))) (aa ec (av (bV 1) (eC (.int 2))) (aU 2 uR (af (eV 0) (af (av (bV 1) (eC (.int 0))) ae)))))))
noncomputable def A3:List D->Option Sl:=aP Ko 2
theorem jn:Wo (A3 [a0,a1]) Q↔Wo (Ko [.sh a0,.sh a1]) (aN Q):=cO
noncomputable abbrev P':Stmt:=top 14
noncomputable abbrev JY{α:Type}(Y:Str->Stmt->List Str->α):α:=Y "is_whole" P' ["part"]
noncomputable def J5:SF:=
 (aD (lj (mE "int" (eV 0)) (mD (mE "bool" (eV 0)))))
noncomputable def A4:List D->Option Sl:=aP J5 1
theorem lQ:Wo (A4 [a0]) Q↔Wo (J5 [.sh a0]) (aN Q):=cO
noncomputable abbrev Qv:Stmt:=top 13
noncomputable abbrev KC{α:Type}(Y:Str->Stmt->List Str->α):α:=Y "is_plain_stretch" Qv ["row"]
noncomputable def KG:SF:=
 (aj (cc (jz (rO (dz (mE "tuple" (eV 0)))) (bR (aa ec (bX (bV 0)) (eC (.int 4)))))
 (aD (eC (.bl false))) cK)
 (aj (cc (rO (dz (mF (jd (lH (ic (eV 0)) [] 1 (gN 0) mR (aU 1 A4 (af (eV 0) ae)))))))
 (aD (eC (.bl false))) cK)
 (aD (zh (aa gu (av (bV 0) (eC (.int 0))) (av (bV 0) (eC (.int 1)))) (lj (aa ei (av (bV 0) (eC (.int 0))) (av (bV 0) (eC (.int 1)))) (aa ei (av (bV 0) (eC (.int 3))) (eC (.int 0))))))))
noncomputable def A8:List D->Option Sl:=aP KG 1
theorem eE:Wo (A8 [a0]) Q↔Wo (KG [.sh a0]) (aN Q):=cO
noncomputable abbrev PJ:Stmt:=top 12
noncomputable abbrev Jw{α:Type}(Y:Str->Stmt->List Str->α):α:=Y "is_form" PJ ["value"]
noncomputable def Jf:SF:=
 (aj (cc (rO (dz (mE "tuple" (eV 0))))
 (aD (eC (.bl false))) cK)
 (aj (cc (rO (dz (mF (jd (lH (ic (eV 0)) [] 1 (gN 0) mR (aU 1 A8 (af (eV 0) ae)))))))
 (aD (eC (.bl false))) cK)
 (aD (mF (jd (lH (jG kG (af (eV 0) (af (qm (eV 0) (kf (eC (.int 1))) kP) ae))) [] 2 (gT 2 (kF (gN 0) (kF (gN 1) vU))) mR (aU 2 A3 (af (eV 0) (af (eV 1) ae)))))))))
noncomputable def A7:List D->Option Sl:=aP Jf 1
theorem mX:Wo (A7 [a0]) Q↔Wo (Jf [.sh a0]) (aN Q):=cO
noncomputable abbrev OV:Stmt:=top 20
noncomputable abbrev IK{α:Type}(Y:Str->Stmt->List Str->α):α:=Y "plain" OV ["row"]
noncomputable def IW:SF:=
 (aD (l5 (dz (aU 1 qD (af (eV 0) ae))) (bA (af (av (bV 0) (eC (.int 0))) (af (av (bV 0) (eC (.int 1))) (af (av (bV 0) (eC (.int 2))) (af (eC (.int 0)) ae))))) (eV 0)))
noncomputable def qB:List D->Option Sl:=aP IW 1
theorem qE:Wo (qB [a0]) Q↔Wo (IW [.sh a0]) (aN Q):=cO
noncomputable abbrev Qr:Stmt:=top 19
noncomputable abbrev Kf{α:Type}(Y:Str->Stmt->List Str->α):α:=Y "laid_beside" Qr ["ahead","row"]
noncomputable def Ku:SF:=
 (aj (bD 2 (l5 (dz (aU 1 qD (af (eV 0) ae))) (aa bI (av (bV 1) (eC (.int 2))) (av (bV 0) (eC (.int 2)))) (av (bV 0) (eC (.int 3)))))
 (aj (cc (bR (aa ec (av (bV 1) (eC (.int 2))) (aU 3 si (af (bA (af (av (bV 0) (eC (.int 2))) (af (eV 2) ae))) (af (av (bV 0) (eC (.int 0))) (af (av (bV 1) (eC (.int 0))) ae))))))
 (aD (bw (af (eV 0) (af (aU 1 qB (af (eV 1) ae)) ae)))) cK)
 (aj (cc (jz (dz (aU 1 qD (af (eV 1) ae))) (bR (aa ei (av (bV 1) (eC (.int 3))) (eV 2))))
 (aD (bw (af (bA (af (av (bV 0) (eC (.int 0))) (af (av (bV 1) (eC (.int 1))) (af (av (bV 0) (eC (.int 2))) (af (eV 2) ae))))) ae))) cK)
 (aj (bD 3 (aU 1 qB (af (bA (af (aa aQ (av (bV 1) (eC (.int 0))) (eC (.int 1))) (af (av (bV 1) (eC (.int 1))) (af (aa aQ (av (bV 1) (eC (.int 2))) (av (bV 1) (eC (.int 3)))) (af (av (bV 1) (eC (.int 3))) ae))))) ae)))
 (aD (bw (af (bA (af (av (bV 0) (eC (.int 0))) (af (av (bV 1) (eC (.int 0))) (af (av (bV 0) (eC (.int 2))) (af (eV 2) ae))))) (af (eV 3) ae))))))))
noncomputable def Ba:List D->Option Sl:=aP Ku 4
theorem iy:Wo (Ba [a0,a1]) Q↔Wo (Ku [.sh a0,.sh a1,.no,.no]) (aN Q):=cO
noncomputable abbrev Of:Stmt:=top 18
noncomputable abbrev Iy{α:Type}(Y:Str->Stmt->List Str->α):α:=Y "laid" Of ["rows"]
noncomputable def Ic:SF:=
 (aj (df 1 (bw ae))
 (aj (dg (eV 0) (gN 2)
 (cc (mQ (Am (bV 1)) (bR (aa ei (aa aQ (av (jd (av (bV 1) (iY (eC (.int 1))))) (eC (.int 1))) (eC (.int 1))) (av (bV 2) (eC (.int 0))))))
 (aj (kJ 3 1)
 (iL 1 (aU 2 Ba (af (eV 3) (af (eV 2) ae))))) (cL 1 (aU 1 qB (af (eV 2) ae)))))
 (aD (Ar (bV 1)))))
noncomputable def pG:List D->Option Sl:=aP Ic 4
theorem uU:Wo (pG [a0]) Q↔Wo (Ic [.sh a0,.no,.no,.no]) (aN Q):=cO
noncomputable abbrev Qj:Stmt:=top 10
noncomputable abbrev Kt{α:Type}(Y:Str->Stmt->List Str->α):α:=Y "stretch_on" Qj ["line","low","first","last"]
noncomputable def Kp:SF:=
 (aD (bA (af (eV 2) (af (eV 3) (af (aU 3 si (af (eV 0) (af (eV 1) (af (eV 2) ae)))) (af (av (bV 0) (eC (.int 1))) ae))))))
noncomputable def se:List D->Option Sl:=aP Kp 4
theorem jm:Wo (se [a0,a1,a2,a3]) Q↔Wo (Kp [.sh a0,.sh a1,.sh a2,.sh a3]) (aN Q):=cO
noncomputable abbrev Qq:Stmt:=top 8
noncomputable abbrev Kl{α:Type}(Y:Str->Stmt->List Str->α):α:=Y "span_or_none" Qq ["first","last"]
noncomputable def Kj:SF:=
 (aD (l5 (bR (aa oZ (eV 0) (eV 1))) (bA (af (eV 0) (af (eV 1) ae))) (eC .aS)))
noncomputable def wH:List D->Option Sl:=aP Kj 2
theorem gC:Wo (wH [a0,a1]) Q↔Wo (Kj [.sh a0,.sh a1]) (aN Q):=cO
noncomputable abbrev Nd:Stmt:=top 4
noncomputable abbrev sC{α:Type}(Y:Str->Stmt->List Str->α):α:=Y "up" Nd ["a","b"]
noncomputable def uY:SF:=
 (aD (iY (aa cN (iY (eV 0)) (eV 1))))
noncomputable def Aw:List D->Option Sl:=aP uY 2
theorem KH:Wo (Aw [a0,a1]) Q↔Wo (uY [.sh a0,.sh a1]) (aN Q):=cO
noncomputable abbrev Oe:Stmt:=top 5
noncomputable abbrev Iw{α:Type}(Y:Str->Stmt->List Str->α):α:=Y "down" Oe ["a","b"]
noncomputable def Ib:SF:=
 (aD (aa cN (eV 0) (eV 1)))
noncomputable def AG:List D->Option Sl:=aP Ib 2
theorem uV:Wo (AG [a0,a1]) Q↔Wo (Ib [.sh a0,.sh a1]) (aN Q):=cO
noncomputable abbrev P6:Stmt:=top 7
noncomputable abbrev KA{α:Type}(Y:Str->Stmt->List Str->α):α:=Y "no_dearer" P6 ["one","other","low","high"]
noncomputable def JP:SF:=
 (aj (bD 4 (aa bI (av (bV 0) (eC (.int 0))) (av (bV 1) (eC (.int 0)))))
 (aj (bD 5 (aa bI (av (bV 0) (eC (.int 1))) (av (bV 1) (eC (.int 1)))))
 (aj (cc (bR (aa qh (eV 5) (eC (.int 0))))
 (aD (aU 2 wH (af (eV 2) (af (uF Ag (af (eV 3) (af (aa aQ (eV 2) (aU 2 AG (af (iY (eV 4)) (af (eV 5) ae)))) ae))) ae)))) cK)
 (aj (cc (bR (aa gu (eV 5) (eC (.int 0))))
 (aD (aU 2 wH (af (uF vT (af (eV 2) (af (aa aQ (eV 2) (aU 2 Aw (af (eV 4) (af (iY (eV 5)) ae)))) ae))) (af (eV 3) ae)))) cK)
 (aD (l5 (bR (aa qh (eV 4) (eC (.int 0)))) (eC .aS) (bA (af (eV 2) (af (eV 3) ae)))))))))
noncomputable def AY:List D->Option Sl:=aP JP 6
theorem jS:Wo (AY [a0,a1,a2,a3]) Q↔Wo (JP [.sh a0,.sh a1,.sh a2,.sh a3,.no,.no]) (aN Q):=cO
noncomputable abbrev Qh:Stmt:=top 9
noncomputable abbrev Kq{α:Type}(Y:Str->Stmt->List Str->α):α:=Y "lower_line" Qh ["one","other","low","high"]
noncomputable def Km:SF:=
 (aj (bD 4 (aU 4 AY (af (eV 0) (af (eV 1) (af (eV 2) (af (eV 3) ae))))))
 (aj (cc (bR (aa qg (eV 4) (eC .aS)))
 (aD (bw (af (aU 4 se (af (eV 1) (af (eV 2) (af (eV 2) (af (eV 3) ae))))) ae))) cK)
 (aj (df 5 (bw ae))
 (aj (cc (bR (aa gu (eV 2) (av (bV 4) (eC (.int 0)))))
 (cL 5 (aU 4 se (af (eV 1) (af (eV 2) (af (eV 2) (af (aa bI (av (bV 4) (eC (.int 0))) (eC (.int 1))) ae)))))) cK)
 (aj (cL 5 (aU 4 se (af (eV 0) (af (eV 2) (af (av (bV 4) (eC (.int 0))) (af (av (bV 4) (eC (.int 1))) ae))))))
 (aj (cc (bR (aa gu (av (bV 4) (eC (.int 1))) (eV 3)))
 (cL 5 (aU 4 se (af (eV 1) (af (eV 2) (af (aa aQ (av (bV 4) (eC (.int 1))) (eC (.int 1))) (af (eV 3) ae)))))) cK)
 (nF 5)))))))
noncomputable def A0:List D->Option Sl:=aP Km 6
theorem jo:Wo (A0 [a0,a1,a2,a3]) Q↔Wo (Km [.sh a0,.sh a1,.sh a2,.sh a3,.no,.no]) (aN Q):=cO
noncomputable abbrev P5:Stmt:=top 24
noncomputable abbrev JV{α:Type}(Y:Str->Stmt->List Str->α):α:=Y "line_from" P5 ["row","low"]
noncomputable def JO:SF:=
 (aD (bA (af (aU 2 uR (af (eV 0) (af (eV 1) ae))) (af (av (bV 0) (eC (.int 3))) ae))))
noncomputable def wt:List D->Option Sl:=aP JO 2
theorem jT:Wo (wt [a0,a1]) Q↔Wo (JO [.sh a0,.sh a1]) (aN Q):=cO
noncomputable abbrev NG:Stmt:=top 23
noncomputable abbrev HZ{α:Type}(Y:Str->Stmt->List Str->α):α:=Y "met" NG ["one","other"]
noncomputable def Np:En->Nat:=λ_=>1000000
noncomputable def HN:SF:=
 (aj (df 2 (bw ae))
 (aj (bD 3 (eC (.int 0)))
 (aj (bD 4 (eC (.int 0)))
 (aj (Dd Np (mQ (bR (aa gu (eV 3) (bX (bV 0)))) (bR (aa gu (eV 4) (bX (bV 1)))))
 (aj (bD 5 (av (bV 0) (eV 3)))
 (aj (bD 6 (av (bV 1) (eV 4)))
 (aj (bD 7 (uF vT (af (av (bV 5) (eC (.int 0))) (af (av (bV 6) (eC (.int 0))) ae))))
 (aj (bD 8 (uF Ag (af (av (bV 5) (eC (.int 1))) (af (av (bV 6) (eC (.int 1))) ae))))
 (aj (cc (bR (aa oZ (eV 7) (eV 8)))
 (cL 2 (bA (af (eV 7) (af (eV 8) (af (aU 2 wt (af (eV 5) (af (eV 7) ae))) (af (aU 2 wt (af (eV 6) (af (eV 7) ae))) ae)))))) cK)
 (cc (bR (aa gu (av (bV 5) (eC (.int 1))) (av (bV 6) (eC (.int 1)))))
 (h7 3 (eC (.int 1))) (h7 4 (eC (.int 1))))))))))
 (nF 2)))))
noncomputable def AA:List D->Option Sl:=aP HN 9
theorem Bd:Wo (AA [a0,a1]) Q↔Wo (HN [.sh a0,.sh a1,.no,.no,.no,.no,.no,.no,.no]) (aN Q):=cO
noncomputable abbrev Qu:Stmt:=top 30
noncomputable abbrev Ki{α:Type}(Y:Str->Stmt->List Str->α):α:=Y "lesser_rows" Qu ["one","other"]
noncomputable def Kz:SF:=
 (aj (df 2 (bw ae))
 (aj (dg (aU 2 AA (af (eV 0) (af (eV 1) ae))) (gT 4 (kF (gN 3) (kF (gN 4) (kF (gN 5) (kF (gN 6) vU)))))
 (iL 2 (aU 4 A0 (af (eV 5) (af (eV 6) (af (eV 3) (af (eV 4) ae)))))))
 (nF 2)))
noncomputable def Bc:List D->Option Sl:=aP Kz 7
theorem iq:Wo (Bc [a0,a1]) Q↔Wo (Kz [.sh a0,.sh a1,.no,.no,.no,.no,.no]) (aN Q):=cO
noncomputable abbrev NF:Stmt:=top 25
noncomputable abbrev HY{α:Type}(Y:Str->Stmt->List Str->α):α:=Y "cut" NF ["row","low","high"]
noncomputable def HL:SF:=
 (aD (bA (af (eV 1) (af (eV 2) (af (aU 2 uR (af (eV 0) (af (eV 1) ae))) (af (av (bV 0) (eC (.int 3))) ae))))))
noncomputable def wb:List D->Option Sl:=aP HL 3
theorem Bf:Wo (wb [a0,a1,a2]) Q↔Wo (HL [.sh a0,.sh a1,.sh a2]) (aN Q):=cO
noncomputable abbrev PL:Stmt:=top 26
noncomputable abbrev Jy{α:Type}(Y:Str->Stmt->List Str->α):α:=Y "outside" PL ["form","spans"]
noncomputable def PD:En->Nat:=λ_=>1000000
noncomputable def Jh:SF:=
 (aj (df 2 (bw ae))
 (aj (bD 3 (eC (.int 0)))
 (aj (dg (eV 0) (gN 4)
 (aj (bD 5 (av (bV 4) (eC (.int 0))))
 (aj (Dd PD (mQ (bR (aa gu (eV 3) (bX (bV 1)))) (bR (aa oZ (av (jd (av (bV 1) (eV 3))) (eC (.int 0))) (av (bV 4) (eC (.int 1))))))
 (aj (cc (bR (aa gu (eV 5) (av (jd (av (bV 1) (eV 3))) (eC (.int 0)))))
 (cL 2 (aU 3 wb (af (eV 4) (af (eV 5) (af (aa bI (av (jd (av (bV 1) (eV 3))) (eC (.int 0))) (eC (.int 1))) ae))))) cK)
 (aj (bD 5 (uF vT (af (eV 5) (af (aa aQ (av (jd (av (bV 1) (eV 3))) (eC (.int 1))) (eC (.int 1))) ae))))
 (aj (cc (bR (aa qh (av (jd (av (bV 1) (eV 3))) (eC (.int 1))) (av (bV 4) (eC (.int 1)))))
 Ez cK)
 (h7 3 (eC (.int 1)))))))
 (cc (bR (aa oZ (eV 5) (av (bV 4) (eC (.int 1)))))
 (cL 2 (aU 3 wb (af (eV 4) (af (eV 5) (af (av (bV 4) (eC (.int 1))) ae))))) cK))))
 (nF 2))))
noncomputable def wx:List D->Option Sl:=aP Jh 6
theorem mV:Wo (wx [a0,a1]) Q↔Wo (Jh [.sh a0,.sh a1,.no,.no,.no,.no]) (aN Q):=cO
noncomputable abbrev Qe:Stmt:=top 21
noncomputable abbrev J2{α:Type}(Y:Str->Stmt->List Str->α):α:=Y "spans_of" Qe ["form"]
noncomputable def Ka:SF:=
 (aj (df 1 (bw ae))
 (aj (dg (eV 0) (gN 2)
 (cc (mQ (Am (bV 1)) (bR (aa ei (aa aQ (av (jd (av (bV 1) (iY (eC (.int 1))))) (eC (.int 1))) (eC (.int 1))) (av (bV 2) (eC (.int 0))))))
 (aj (kJ 3 1)
 (cL 1 (bA (af (av (bV 3) (eC (.int 0))) (af (av (bV 2) (eC (.int 1))) ae))))) (cL 1 (bA (af (av (bV 2) (eC (.int 0))) (af (av (bV 2) (eC (.int 1))) ae))))))
 (aD (Ar (bV 1)))))
noncomputable def uT:List D->Option Sl:=aP Ka 4
theorem lL:Wo (uT [a0]) Q↔Wo (Ka [.sh a0,.no,.no,.no]) (aN Q):=cO
noncomputable abbrev OT:Stmt:=top 28
noncomputable abbrev II{α:Type}(Y:Str->Stmt->List Str->α):α:=Y "least" OT ["one","other"]
noncomputable def IG:SF:=
 (aj (bD 2 (aa aQ (aU 2 wx (af (eV 0) (af (aU 1 uT (af (eV 1) ae)) ae))) (aU 2 wx (af (eV 1) (af (aU 1 uT (af (eV 0) ae)) ae)))))
 (aD (aU 1 pG (af (Dr (aa aQ (aU 2 Bc (af (eV 0) (af (eV 1) ae))) (eV 2))) ae))))
noncomputable def pD:List D->Option Sl:=aP IG 3
theorem qF:Wo (pD [a0,a1]) Q↔Wo (IG [.sh a0,.sh a1,.no]) (aN Q):=cO
noncomputable abbrev Qd:Stmt:=top 29
noncomputable abbrev jx{α:Type}(Y:Str->Stmt->List Str->α):α:=Y "least_of" Qd ["forms"]
noncomputable def Bb:List D->Option Sl:=λ_=>none
noncomputable def Qk:SF:=
 (aj (cc (bR (aa gu (bX (bV 0)) (eC (.int 2))))
 (aD (l5 (dz (eV 0)) (av (bV 0) (eC (.int 0))) (bA ae))) cK)
 (aj (bD 1 (aa cN (bX (bV 0)) (eC (.int 2))))
 (aD (aU 2 pD (af (aU 1 Bb (af (lh (bV 0) kP (kf (eV 1))) ae)) (af (aU 1 Bb (af (lh (bV 0) (kf (eV 1)) kP) ae)) ae))))))
noncomputable def wB:List D->Option Sl:=aP Qk 2
theorem a6o:Wo (wB [a0]) Q↔Wo (Qk [.sh a0,.no]) (aN Q):=cO
noncomputable def Ql:SF:=
 (aj (cc (bR (aa gu (bX (bV 0)) (eC (.int 2))))
 (aD (l5 (dz (eV 0)) (av (bV 0) (eC (.int 0))) (bA ae))) cK)
 (aj (bD 1 (aa cN (bX (bV 0)) (eC (.int 2))))
 (aD (aU 2 pD (af (aU 1 wB (af (lh (bV 0) kP (kf (eV 1))) ae)) (af (aU 1 wB (af (lh (bV 0) (kf (eV 1)) kP) ae)) ae))))))
noncomputable def wC:List D->Option Sl:=aP Ql 2
theorem a6n:Wo (wC [a0]) Q↔Wo (Ql [.sh a0,.no]) (aN Q):=cO
noncomputable def Qm:SF:=
 (aj (cc (bR (aa gu (bX (bV 0)) (eC (.int 2))))
 (aD (l5 (dz (eV 0)) (av (bV 0) (eC (.int 0))) (bA ae))) cK)
 (aj (bD 1 (aa cN (bX (bV 0)) (eC (.int 2))))
 (aD (aU 2 pD (af (aU 1 wC (af (lh (bV 0) kP (kf (eV 1))) ae)) (af (aU 1 wC (af (lh (bV 0) (kf (eV 1)) kP) ae)) ae))))))
noncomputable def wD:List D->Option Sl:=aP Qm 2
theorem a6m:Wo (wD [a0]) Q↔Wo (Qm [.sh a0,.no]) (aN Q):=cO
noncomputable def Qn:SF:=
 (aj (cc (bR (aa gu (bX (bV 0)) (eC (.int 2))))
 (aD (l5 (dz (eV 0)) (av (bV 0) (eC (.int 0))) (bA ae))) cK)
 (aj (bD 1 (aa cN (bX (bV 0)) (eC (.int 2))))
 (aD (aU 2 pD (af (aU 1 wD (af (lh (bV 0) kP (kf (eV 1))) ae)) (af (aU 1 wD (af (lh (bV 0) (kf (eV 1)) kP) ae)) ae))))))
noncomputable def wF:List D->Option Sl:=aP Qn 2
theorem a6l:Wo (wF [a0]) Q↔Wo (Qn [.sh a0,.no]) (aN Q):=cO
noncomputable def Ky:SF:=
 (aj (cc (bR (aa gu (bX (bV 0)) (eC (.int 2))))
 (aD (l5 (dz (eV 0)) (av (bV 0) (eC (.int 0))) (bA ae))) cK)
 (aj (bD 1 (aa cN (bX (bV 0)) (eC (.int 2))))
 (aD (aU 2 pD (af (aU 1 wF (af (lh (bV 0) kP (kf (eV 1))) ae)) (af (aU 1 wF (af (lh (bV 0) (kf (eV 1)) kP) ae)) ae))))))
noncomputable def r9:List D->Option Sl:=aP Ky 2
theorem dX:Wo (r9 [a0]) Q↔Wo (Ky [.sh a0,.no]) (aN Q):=cO
noncomputable abbrev Qo:Stmt:=top 38
noncomputable abbrev KE{α:Type}(Y:Str->Stmt->List Str->α):α:=Y "how_many_picks" Qo ["forms"]
noncomputable def KD:SF:=
 (aj (bD 1 (eC (.int 1)))
 (aj (dg (eV 0) (gN 2)
 (C6 1 (bX (bV 2))))
 (aD (eV 1))))
noncomputable def wy:List D->Option Sl:=aP KD 3
theorem fG:Wo (wy [a0]) Q↔Wo (KD [.sh a0,.no,.no]) (aN Q):=cO
noncomputable abbrev OU:Stmt:=top 37
noncomputable abbrev IJ{α:Type}(Y:Str->Stmt->List Str->α):α:=Y "picks" OU ["forms"]
noncomputable def Dj:SF:=
 (aj (cc (bR (aa qh (aU 1 wy (af (eV 0) ae)) (eC (.int 100))))
 IC cK)
 (aj (cc (bR (aa ei (aU 1 wy (af (eV 0) ae)) (eC (.int 0))))
 (aD (bw ae)) cK)
 (aj (bD 1 (bw (af (bw ae) ae)))
 (aj (dg (eV 0) (gN 2)
 (aj (df 3 (bw ae))
 (aj (dg (eV 1) (gN 4)
 (iL 3 (lH (ic (eV 2)) [4] 1 (gN 0) mR (aa aQ (eV 1) (bw (af (eV 0) ae))))))
 (kM 3 (bD 1 (eV 3))))))
 (aD (eV 1))))))
noncomputable def we:List D->Option Sl:=aP Dj 5
theorem mi:Wo (we [a0]) Q↔Wo (Dj [.sh a0,.no,.no,.no,.no]) (aN Q):=cO
noncomputable abbrev PM:Stmt:=top 35
noncomputable abbrev Jz{α:Type}(Y:Str->Stmt->List Str->α):α:=Y "step_of" PM ["row"]
noncomputable def Ji:SF:=
 (aD (av (bV 0) (eC (.int 3))))
noncomputable def uL:List D->Option Sl:=aP Ji 1
theorem mU:Wo (uL [a0]) Q↔Wo (Ji [.sh a0]) (aN Q):=cO
noncomputable abbrev Ph:Stmt:=top 34
noncomputable abbrev Jq{α:Type}(Y:Str->Stmt->List Str->α):α:=Y "poured" Ph ["rows"]
noncomputable def Ja:SF:=
 (aj (bD 1 (oj (jd (lH (ic (eV 0)) [] 1 (gN 0) mR (av (bV 0) (eC (.int 0)))))))
 (aj (bD 2 (oj (jd (lH (ic (eV 0)) [] 1 (gN 0) mR (av (bV 0) (eC (.int 2)))))))
 (aj (df 3 (bw (af (bA (af (eV 1) (af (eV 1) (af (eV 2) (af (eC (.int 0)) ae))))) ae)))
 (aj (dg (Dh uL (eV 0)) (gN 4)
 (aj (bD 5 (aa bI (av (bV 4) (eC (.int 1))) (av (bV 4) (eC (.int 0)))))
 (aj (cc (bR (aa qh (eV 5) (eC (.int 0))))
 (cL 3 (bA (af (aa aQ (eV 1) (eC (.int 1))) (af (aa aQ (eV 1) (eV 5)) (af (aa aQ (eV 2) (av (bV 4) (eC (.int 3)))) (af (av (bV 4) (eC (.int 3))) ae)))))) cK)
 (aj (h7 1 (eV 5))
 (h7 2 (aa eh (av (bV 4) (eC (.int 3))) (eV 5)))))))
 (kM 3 (aD (aU 1 pG (af (eV 3) ae))))))))
noncomputable def uP:List D->Option Sl:=aP Ja 6
theorem oN:Wo (uP [a0]) Q↔Wo (Ja [.sh a0,.no,.no,.no,.no,.no]) (aN Q):=cO
noncomputable abbrev Qp:Stmt:=top 36
noncomputable abbrev Kk{α:Type}(Y:Str->Stmt->List Str->α):α:=Y "least_poured" Qp ["forms"]
noncomputable def D0:SF:=
 (aD (aU 1 r9 (af (lH (ic (aU 1 we (af (eV 0) ae))) [] 1 (gN 0) mR (aU 1 uP (af (eV 0) ae))) ae)))
noncomputable def wG:List D->Option Sl:=aP D0 1
theorem dF:Wo (wG [a0]) Q↔Wo (D0 [.sh a0]) (aN Q):=cO
noncomputable abbrev OW:Stmt:=top 33
noncomputable abbrev IL{α:Type}(Y:Str->Stmt->List Str->α):α:=Y "split" OW ["one","other"]
noncomputable def Dk:SF:=
 (aD (aU 1 wG (af (bw (af (eV 0) (af (eV 1) ae))) ae)))
noncomputable def rZ:List D->Option Sl:=aP Dk 2
theorem mh:Wo (rZ [a0,a1]) Q↔Wo (Dk [.sh a0,.sh a1]) (aN Q):=cO
noncomputable abbrev P4:Stmt:=top 42
noncomputable abbrev JU{α:Type}(Y:Str->Stmt->List Str->α):α:=Y "_law_mixed" P4 ["number","factor"]
noncomputable def JN:SF:=
 (aD (aa cj (aa eh (aa cj (eV 0) (eC (.int 2147483629))) (eV 1)) (eC (.int 2147483629))))
noncomputable def uQ:List D->Option Sl:=aP JN 2
theorem jU:Wo (uQ [a0,a1]) Q↔Wo (JN [.sh a0,.sh a1]) (aN Q):=cO
noncomputable abbrev Qt:Stmt:=top 43
noncomputable abbrev Kh{α:Type}(Y:Str->Stmt->List Str->α):α:=Y "_law_stretch" Qt ["number","ahead"]
noncomputable def Kx:SF:=
 (aj (bD 2 (aa cj (aa eh (eV 0) (aa fB (eC (.int 48271)) (eC (.int 12)))) (aa fB (eC (.int 10)) (eC (.int 50)))))
 (aj (bD 3 (aa cj (aa eh (eV 0) (aa fB (eC (.int 69621)) (eC (.int 12)))) (aa fB (eC (.int 10)) (eC (.int 40)))))
 (aj (bD 4 (aU 2 uQ (af (eV 0) (af (eC (.int 1583458089)) ae))))
 (aj (bD 5 (aU 2 uQ (af (eV 0) (af (eC (.int 784588716)) ae))))
 (aj (bD 6 (aU 2 uQ (af (eV 0) (af (eC (.int 950706376)) ae))))
 (aj (bD 7 (av (jd (bw (af (eC (.int 0)) (af (aa bI (aa cj (aa cN (eV 4) (eC (.int 7))) (eC (.int 41))) (eC (.int 20))) (af (aa bI (eV 2) (aa eh (eC (.int 5)) (aa fB (eC (.int 10)) (eC (.int 49))))) ae))))) (aa cj (eV 4) (eC (.int 3)))))
 (aj (bD 8 (av (jd (bw (af (aa bI (aa cj (aa cN (eV 5) (eC (.int 5))) (eC (.int 61))) (eC (.int 30))) (af (aa bI (eV 3) (aa eh (eC (.int 5)) (aa fB (eC (.int 10)) (eC (.int 39))))) ae)))) (aa cj (eV 5) (eC (.int 2)))))
 (aj (bD 9 (av (jd (bw (af (eC (.int 0)) (af (aa bI (aa cj (aa cN (eV 6) (eC (.int 9))) (eC (.int 7))) (eC (.int 3))) (af (aa bI (aa cj (aa cN (eV 6) (eC (.int 9))) (eC (.int 7))) (eC (.int 3))) (af (aa bI (aa cN (eV 2) (aa fB (eC (.int 10)) (eC (.int 9)))) (aa eh (eC (.int 5)) (aa fB (eC (.int 10)) (eC (.int 40))))) ae)))))) (aa cj (eV 6) (eC (.int 4)))))
 (aj (bD 10 (av (jd (bw (af (eC (.int 1)) (af (eC (.int 2)) (af (aa aQ (eC (.int 1)) (aa cj (aa cN (eV 4) (eC (.int 300))) (eC (.int 9)))) (af (aa aQ (eC (.int 1)) (eV 3)) ae)))))) (aa cj (aa cN (eV 5) (eC (.int 400))) (eC (.int 4)))))
 (aj (cc (bR (aa qh (bX (bV 1)) (eC (.int 0))))
 (aj (bD 11 (av (bV 1) (iY (eC (.int 1)))))
 (aj (bD 7 (aa aQ (aa aQ (av (bV 11) (eC (.int 1))) (eC (.int 1))) (av (jd (bw (af (eC (.int 0)) (af (eC (.int 0)) (af (aa aQ (eC (.int 1)) (aa cj (aa cN (eV 5) (eC (.int 3000))) (eC (.int 5)))) (af (aa cj (eV 2) (aa fB (eC (.int 10)) (eC (.int 40)))) ae)))))) (aa cj (aa cN (eV 6) (eC (.int 70))) (eC (.int 4))))))
 (cc (bR (aa ei (aa cj (aa cN (eV 4) (eC (.int 3000))) (eC (.int 2))) (eC (.int 1))))
 (bD 8 (aa bI (aa aQ (aa aQ (av (bV 11) (eC (.int 2))) (aa eh (av (bV 11) (eC (.int 3))) (aa aQ (aa bI (av (bV 11) (eC (.int 1))) (av (bV 11) (eC (.int 0)))) (eC (.int 1))))) (aa cj (aa cN (eV 6) (eC (.int 300))) (eC (.int 3)))) (eC (.int 1)))) cK))) cK)
 (aD (bA (af (eV 7) (af (aa bI (aa aQ (eV 7) (eV 10)) (eC (.int 1))) (af (eV 8) (af (eV 9) ae))))))))))))))))
noncomputable def wA:List D->Option Sl:=aP Kx 12
theorem ir:Wo (wA [a0,a1]) Q↔Wo (Kx [.sh a0,.sh a1,.no,.no,.no,.no,.no,.no,.no,.no,.no,.no]) (aN Q):=cO
noncomputable abbrev Qc:Stmt:=top 44
noncomputable abbrev J1{α:Type}(Y:Str->Stmt->List Str->α):α:=Y "_law_rows" Qc ["numbers"]
noncomputable def J':SF:=
 (aj (df 1 (bw ae))
 (aj (dg (eV 0) (gN 2)
 (cL 1 (Ah 1 (aU 2 wA (af (eV 2) (af (eV 1) ae))))))
 (nF 1)))
noncomputable def sd:List D->Option Sl:=aP J' 3
theorem lM:Wo (sd [a0]) Q↔Wo (J' [.sh a0,.no,.no]) (aN Q):=cO
noncomputable abbrev Qs:Stmt:=top 41
noncomputable abbrev Kg{α:Type}(Y:Str->Stmt->List Str->α):α:=Y "_law_numbers" Qs ["script","first","most"]
noncomputable def Kw:SF:=
 (aj (df 3 (bw ae))
 (aj (Ia (jG C4 (af (eV 1) (af (bX (bV 0)) ae))) (gN 4)
 (aj (bD 5 (aa cj (av (bV 0) (eV 4)) (aa fB (eC (.int 10)) (eC (.int 18)))))
 (cc (bR (aa gu (bX (bV 3)) (eV 2)))
 (cL 3 (eV 5)) (vX 3 (aa cj (aa aQ (aa eh (av (bV 3) (aa cj (eV 4) (eV 2))) (eC (.int 10007))) (eV 5)) (aa fB (eC (.int 10)) (eC (.int 18)))) (aa cj (eV 4) (eV 2))))))
 (nF 3)))
noncomputable def wz:List D->Option Sl:=aP Kw 6
theorem iw:Wo (wz [a0,a1,a2]) Q↔Wo (Kw [.sh a0,.sh a1,.sh a2,.no,.no,.no]) (aN Q):=cO
noncomputable abbrev Ax:Stmt:=top 49
noncomputable abbrev wR{α:Type}(Y:Str->Stmt->List Str->α):α:=Y "law" Ax ["script"]
noncomputable def HM:SF:=
 (aj (bD 1 (aU 3 wz (af (eV 0) (af (eC (.int 0)) (af (eC (.int 6)) ae)))))
 (aj (bD 2 (aU 1 sd (af (lH (jG vV (af (eC (.int 0)) (af (bX (bV 1)) (af (eC (.int 2)) ae)))) [1] 1 (gN 0) mR (av (bV 1) (eV 0))) ae)))
 (aj (bD 3 (aU 1 sd (af (lH (jG vV (af (eC (.int 1)) (af (bX (bV 1)) (af (eC (.int 2)) ae)))) [1] 1 (gN 0) mR (av (bV 1) (eV 0))) ae)))
 (aj (bD 4 (aU 2 rZ (af (aU 1 pG (af (eV 2) ae)) (af (aU 1 pG (af (eV 3) ae)) ae))))
 (aj (cc (rO (dz (aU 1 A7 (af (eV 4) ae))))
 (aD (eC (.bl false))) cK)
 (aj (df 5 (bw ae))
 (aj (dg (eV 2) (gN 6)
 (iL 5 (lH (ic (eV 3)) [6] 1 (gN 0) mR (aU 2 wo (af (eV 1) (af (eV 0) ae))))))
 (aj (kM 5 (bD 7 (aU 2 wm (af (eV 5) (af (eV 4) ae)))))
 (aj (CY pV (af (aa bI (bX (bV 7)) (eC (.int 1))) ae) (gN 8)
 (dg (bw (af (av (bV 7) (eV 8)) (af (aa aQ (av (bV 7) (eV 8)) (eC (.int 1))) (af (aa bI (av (bV 7) (aa aQ (eV 8) (eC (.int 1)))) (eC (.int 1))) ae)))) (gN 9)
 (cc (mQ (bR (aa gu (eV 9) (av (bV 7) (aa aQ (eV 8) (eC (.int 1)))))) (bR (aa ec (aU 2 uS (af (eV 4) (af (eV 9) ae))) (aU 2 wq (af (eV 5) (af (eV 9) ae))))))
 (aD (eC (.bl false))) cK)))
 (aD (eC (.bl true))))))))))))
noncomputable def Du:List D->Option Sl:=aP HM 10
theorem Be:Wo (Du [a0]) Q↔Wo (HM [.sh a0,.no,.no,.no,.no,.no,.no,.no,.no,.no]) (aN Q):=cO
section
variable {P:Program}{w:World}{K:aB}{mg:Str->Option Value}{base:Heap}
variable (z_max:mg "max" = none)
variable (z_min:mg "min" = none)
variable (z_all:mg "all" = none)
variable (z_zip:mg "zip" = none)
variable (z_isinstance:mg "isinstance" = none)
variable (z_tuple:mg "tuple" = none)
variable (z_len:mg "len" = none)
variable (z_bool:mg "bool" = none)
variable (z_int:mg "int" = none)
variable (z_sorted:mg "sorted" = none)
variable (z_sum:mg "sum" = none)
variable (z_MOST_PICKS:KW mg "MOST_PICKS" 100)
variable (z_range:mg "range" = none)
variable (z_set:mg "set" = none)
variable (z_list:mg "list" = none)
theorem a7A(D':JZ (Def K mg) a d):JZ (Oz P w K mg base) 1 uS:=aW (N:=["rows","x","low","high","price","step"]) D' λX r h=>by
 cases r
 exact (aK (lJ h.own h.calm (h.v 0) (Ig (n:=4) h.calm (pF (h.tg 2) (pF (h.tg 3) (pF (h.tg 4) (pF (h.tg 5) IP))))) (aO (du (gZ (uD (cQ vZ (h.v 2) (h.v 1)) (uK (cQ vZ (h.v 1) (h.v 3))))) (aO (bL (aF c5 (h.v 4) (aF nG (h.v 5) (aF ik (h.v 1) (h.v 2)))))) dW))) (aO (bL uH)))
variable (uO:JZ (Oz P w K mg base) 1 uS)
include uO in
theorem a6N(D':JT (Def K mg) a d):JT (Oz P w K mg base) 2 wq:=aW (N:=["chains","x","told","rows","cost"]) D' λX r h=>by
 cases r
 exact (aK (h.aJ 2 uH) (aK (lJ h.own h.calm (h.v 0) (h.tg 3) (aK (h.aJ 4 (h.cl uO (ai (h.v 3) (ai (h.v 1) aA)))) (aO (du (gZ (uD (cQ Yd (h.v 4) uH) (uK (gZ (H9 (cQ Nt (h.v 2) uH) (Iz (cQ jk (h.v 4) (h.v 2)))))))) (aO (h.aJ 2 (h.v 4))) dW)))) (aO (bL (h.v 2)))))
variable (DP:JT (Oz P w K mg base) 2 wq)
include z_sorted z_set z_list in
theorem a7z(D':J0 (Def K mg) a d):J0 (Oz P w K mg base) 1 wm:=aW (N:=["chains","form","cuts","rows","row"]) D' λX r h=>by
 cases r
 exact (aK (h.set 2 (fj aA)) (aK (lJ h.own h.calm (aF c5 (h.v 0) (fj (ai (YE h.g z_list (h.bv 1)) aA))) (h.tg 3) (aO (lJ h.own h.calm (h.v 3) (h.tg 4) (aK (h.app 2 (aC (h.bv 4) ao)) (aO (h.app 2 (aF c5 (aC (h.bv 4) ao) ao))))))) (aO (De 2 (bL (YG h.calm h.g z_sorted h.g z_set (h.v 2)))))))
variable (DU:J0 (Oz P w K mg base) 1 wm)
theorem a6O(D':JS (Def K mg) a d):JS (Oz P w K mg base) 1 wo:=aW (N:=["one","other","first","second","low","lasts","price","rows","begin"]) D' λX r h=>by
 cases r
 exact (aK (h.aJ 2 (h.v 0)) (aK (h.aJ 3 (h.v 1)) (aK (du (cQ jk (aC (h.bv 1) ao) (aC (h.bv 0) ao)) (aK (h.aJ 2 (h.v 1)) (aO (h.aJ 3 (h.v 0)))) dW) (aK (h.aJ 4 (aF c5 (aC (h.bv 0) ao) (aC (h.bv 1) ao))) (aK (h.aJ 5 (aF ik (aC (h.bv 2) ao) (aC (h.bv 2) ao))) (aK (h.aJ 6 (aF c5 (aC (h.bv 0) ao) (aC (h.bv 1) ao))) (aK (h.set 7 (fj (ai (fY (ai (h.v 4) (ai (aF c5 (h.v 4) (h.v 5)) (ai (h.v 6) (ai (aC (h.bv 2) ao) aA))))) aA))) (aK (du (cQ jk (aC (h.bv 3) ao) (aC (h.bv 3) ao)) (aK (h.aJ 8 (aF c5 (aF c5 (h.v 6) (aF nG (aC (h.bv 2) ao) (h.v 5))) (aC (h.bv 3) ao))) (aO (h.app 7 (fY (ai (aF c5 (aF c5 (h.v 4) (h.v 5)) ao) (ai (aF c5 (aC (h.bv 0) ao) (aC (h.bv 1) ao)) (ai (h.v 8) (ai (aC (h.bv 3) ao) aA)))))))) dW) (aO (h.kN 7))))))))))
variable (DO:JS (Oz P w K mg base) 1 wo)
theorem a80(D':Jx (Def K mg) a d):Jx (Oz P w K mg base) 1 si:=aW (N:=["line","low","x"]) D' λX r h=>by
 cases r
 exact (aO (bL (aF c5 (aC (h.bv 0) ao) (aF nG (aC (h.bv 0) ao) (aF ik (h.v 2) (h.v 1))))))
variable (pC:Jx (Oz P w K mg base) 1 si)
include pC in
theorem a7C(D':JX (Def K mg) a d):JX (Oz P w K mg base) 2 uR:=aW (N:=["row","x"]) D' λX r h=>by
 cases r
 exact (aO (bL (h.cl pC (ai (fY (ai (aC (h.bv 0) ao) (ai (aC (h.bv 0) ao) aA))) (ai (aC (h.bv 0) ao) (ai (h.v 1) aA))))))
variable (pH:JX (Oz P w K mg base) 2 uR)
theorem a6P(D':JR (Def K mg) a d):JR (Oz P w K mg base) 1 qD:=aW (N:=["row"]) D' λX r h=>by
 cases r
 exact (aO (bL (v8 (rS h.u8) (aC (h.bv 0) ao) (aC (h.bv 0) ao))))
variable (oM:JR (Oz P w K mg base) 1 qD)
include pH oM in
theorem a5W(D':Kr (Def K mg) a d):Kr (Oz P w K mg base) 3 A3:=aW (N:=["ahead","row"]) D' λX r h=>by
 cases r
 exact (aK (du (cQ (Av h.u8) (aC (h.bv 1) ao) (aF c5 (aC (h.bv 0) ao) ao)) (aO (bL (v8 uC (aC (h.bv 1) ao) (aC (h.bv 0) ao)))) dW) (aO (bL (Iq (NP (h.cl oM (ai (h.v 0) aA))) (C9 (v8 (Av h.u8) (aC (h.bv 1) ao) (h.cl pH (ai (h.v 0) (ai (aC (h.bv 1) ao) aA)))))))))
variable (DS:Kr (Oz P w K mg base) 3 A3)
include z_isinstance z_bool z_int in
theorem a7B(D':JY (Def K mg) a d):JY (Oz P w K mg base) 1 A4:=aW (N:=["part"]) D' λX r h=>by
 cases r
 exact (aO (bL (Iq (Di (bY rfl) h.g z_isinstance h.g z_int (by decide +kernel) (h.v 0)) (C9 (NP (Di (be (bY rfl)) h.g z_isinstance h.g z_bool (by decide +kernel) (h.v 0)))))))
variable (DT:JY (Oz P w K mg base) 1 A4)
include z_all z_isinstance z_tuple z_len DT in
theorem a3f(D':KC (Def K mg) a d):KC (Oz P w K mg base) 2 A8:=aW (N:=["row"]) D' λX r h=>by
 cases r
 exact (aK (du (gZ (H9 (Au (mT (Di (be (be (be (be rfl)))) h.g z_isinstance h.g z_tuple (by decide +kernel) (h.v 0)))) (Iz (cQ (Av h.u8) (ij h.g z_len (h.bv 0)) ao)))) (aO (bL uA)) dW) (aK (du (Au (mT (Ip h.g z_all h.calm (jP (pA (N':=["part"]) (caps:=[]) (nt:=1) h ⟨rfl,by decide +kernel,by decide +kernel,by decide +kernel,by decide +kernel,rfl,rfl,by decide +kernel⟩ (uE (h.v 0)) (λX1 eT eS eR eQ eO h1=>⟨(h1.tg 0),pB,(h1.cl (nV eT eS eR eQ eO DT) (ai (h1.v 0) aA))⟩)))))) (aO (bL uA)) dW) (aO (bL (zb (v8 jk (aC (h.bv 0) ao) (aC (h.bv 0) ao)) (C9 (Iq (v8 (rS h.u8) (aC (h.bv 0) ao) (aC (h.bv 0) ao)) (C9 (v8 (rS h.u8) (aC (h.bv 0) ao) ao)))))))))
variable (D2:KC (Oz P w K mg base) 2 A8)
include z_all z_zip z_isinstance z_tuple DS D2 in
theorem a81(D':Jw (Def K mg) a d):Jw (Oz P w K mg base) 4 A7:=aW (N:=["value"]) D' λX r h=>by
 cases r
 exact (aK (du (Au (mT (Di (be (be (be (be rfl)))) h.g z_isinstance h.g z_tuple (by decide +kernel) (h.v 0)))) (aO (bL uA)) dW) (aK (du (Au (mT (Ip h.g z_all h.calm (jP (pA (N':=["row"]) (caps:=[]) (nt:=1) h ⟨rfl,by decide +kernel,by decide +kernel,by decide +kernel,by decide +kernel,rfl,rfl,by decide +kernel⟩ (uE (h.v 0)) (λX1 eT eS eR eQ eO h1=>⟨(h1.tg 0),pB,(h1.cl (nV eT eS eR eQ eO D2) (ai (h1.v 0) aA))⟩)))))) (aO (bL uA)) dW) (aO (bL (Ip h.g z_all h.calm (jP (pA (N':=["ahead","row"]) (caps:=[]) (nt:=2) h ⟨rfl,by decide +kernel,by decide +kernel,by decide +kernel,by decide +kernel,rfl,rfl,by decide +kernel⟩ (XG h.g z_zip (ai (h.v 0) (ai (b0z (h.v 0) (oK ao) oJ) aA))) (λX1 eT eS eR eQ eO h1=>⟨(Ig (n:=2) h1.calm (pF (h1.tg 0) (pF (h1.tg 1) IP))),pB,(h1.cl (nV eT eS eR eQ eO DS) (ai (h1.v 0) (ai (h1.v 1) aA)))⟩))))))))
variable (DI:Jw (Oz P w K mg base) 4 A7)
include oM in
theorem ZQ(D':IK (Def K mg) a d):IK (Oz P w K mg base) 2 qB:=aW (N:=["row"]) D' λX r h=>by
 cases r
 exact (aO (bL (qx (mT (h.cl oM (ai (h.v 0) aA))) (fY (ai (aC (h.bv 0) ao) (ai (aC (h.bv 0) ao) (ai (aC (h.bv 0) ao) (ai ao aA))))) (h.v 0))))
variable (rW:IK (Oz P w K mg base) 2 qB)
include pC oM rW in
theorem a5p(D':Kf (Def K mg) a d):Kf (Oz P w K mg base) 3 Ba:=aW (N:=["ahead","row","step","rest"]) D' λX r h=>by
 cases r
 exact (aK (h.aJ 2 (qx (mT (h.cl oM (ai (h.v 0) aA))) (aF ik (aC (h.bv 1) ao) (aC (h.bv 0) ao)) (aC (h.bv 0) ao))) (aK (du (cQ (Av h.u8) (aC (h.bv 1) ao) (h.cl pC (ai (fY (ai (aC (h.bv 0) ao) (ai (h.v 2) aA))) (ai (aC (h.bv 0) ao) (ai (aC (h.bv 1) ao) aA))))) (aO (bL (fj (ai (h.v 0) (ai (h.cl rW (ai (h.v 1) aA)) aA))))) dW) (aK (du (gZ (H9 (mT (h.cl oM (ai (h.v 1) aA))) (Iz (cQ (rS h.u8) (aC (h.bv 1) ao) (h.v 2))))) (aO (bL (fj (ai (fY (ai (aC (h.bv 0) ao) (ai (aC (h.bv 1) ao) (ai (aC (h.bv 0) ao) (ai (h.v 2) aA))))) aA)))) dW) (aK (h.aJ 3 (h.cl rW (ai (fY (ai (aF c5 (aC (h.bv 1) ao) ao) (ai (aC (h.bv 1) ao) (ai (aF c5 (aC (h.bv 1) ao) (aC (h.bv 1) ao)) (ai (aC (h.bv 1) ao) aA))))) aA))) (aO (bL (fj (ai (fY (ai (aC (h.bv 0) ao) (ai (aC (h.bv 1) ao) (ai (aC (h.bv 0) ao) (ai (h.v 2) aA))))) (ai (h.v 3) aA)))))))))
variable (DV:Kf (Oz P w K mg base) 3 Ba)
include z_tuple rW DV in
theorem Yg(D':Iy (Def K mg) a d):Iy (Oz P w K mg base) 4 pG:=aW (N:=["rows","made","row","ahead"]) D' λX r h=>by
 cases r
 exact (aK (h.set 1 (fj aA)) (aK (lJ h.own h.calm (h.v 0) (h.tg 2) (aO (du (gZ (uD (Oi (h.bv 1)) (uK (cQ (rS h.u8) (aF c5 (aC (jP (aC (h.bv 1) (uG ao))) ao) ao) (aC (h.bv 2) ao))))) (aK (h.pop 3 1) (aO (h.ext 1 (h.cl DV (ai (h.v 3) (ai (h.v 2) aA)))))) (aO (h.app 1 (h.cl rW (ai (h.v 2) aA))))))) (aO (bL (OE h.g z_tuple (h.bv 1))))))
variable (oG:Iy (Oz P w K mg base) 4 pG)
include pC in
theorem a5V(D':Kt (Def K mg) a d):Kt (Oz P w K mg base) 2 se:=aW (N:=["line","low","first","last"]) D' λX r h=>by
 cases r
 exact (aO (bL (fY (ai (h.v 2) (ai (h.v 3) (ai (h.cl pC (ai (h.v 0) (ai (h.v 1) (ai (h.v 2) aA)))) (ai (aC (h.bv 0) ao) aA)))))))
variable (uM:Kt (Oz P w K mg base) 2 se)
theorem a4L(D':Kl (Def K mg) a d):Kl (Oz P w K mg base) 1 wH:=aW (N:=["first","last"]) D' λX r h=>by
 cases r
 exact (aO (bL (qx (cQ vZ (h.v 0) (h.v 1)) (fY (ai (h.v 0) (ai (h.v 1) aA))) uH)))
variable (AZ:Kl (Oz P w K mg base) 1 wH)
theorem xQ(D':sC (Def K mg) a d):sC (Oz P w K mg base) 1 Aw:=aW (N:=["a","b"]) D' λX r h=>by
 cases r
 exact (aO (bL (uG (aF jw (uG (h.v 0)) (h.v 1)))))
variable (O_up:sC (Oz P w K mg base) 1 Aw)
theorem Yf(D':Iw (Def K mg) a d):Iw (Oz P w K mg base) 1 AG:=aW (N:=["a","b"]) D' λX r h=>by
 cases r
 exact (aO (bL (aF jw (h.v 0) (h.v 1))))
variable (Dg:Iw (Oz P w K mg base) 1 AG)
include z_max z_min AZ O_up Dg in
theorem a6K(D':KA (Def K mg) a d):KA (Oz P w K mg base) 2 AY:=aW (N:=["one","other","low","high","above","slope"]) D' λX r h=>by
 cases r
 exact (aK (h.aJ 4 (aF ik (aC (h.bv 0) ao) (aC (h.bv 1) ao))) (aK (h.aJ 5 (aF ik (aC (h.bv 0) ao) (aC (h.bv 1) ao))) (aK (du (cQ uC (h.v 5) ao) (aO (bL (h.cl AZ (ai (h.v 2) (ai (AK (N5 h.calm) h.g z_min (by decide +kernel) (ai (h.v 3) (ai (aF c5 (h.v 2) (h.cl Dg (ai (uG (h.v 4)) (ai (h.v 5) aA)))) aA))) aA))))) dW) (aK (du (cQ jk (h.v 5) ao) (aO (bL (h.cl AZ (ai (AK (IY h.calm) h.g z_max (by decide +kernel) (ai (h.v 2) (ai (aF c5 (h.v 2) (h.cl O_up (ai (h.v 4) (ai (uG (h.v 5)) aA)))) aA))) (ai (h.v 3) aA))))) dW) (aO (bL (qx (cQ uC (h.v 4) ao) uH (fY (ai (h.v 2) (ai (h.v 3) aA))))))))))
variable (DQ:KA (Oz P w K mg base) 2 AY)
include uM DQ in
theorem a5X(D':Kq (Def K mg) a d):Kq (Oz P w K mg base) 3 A0:=aW (N:=["one","other","low","high","span","rows"]) D' λX r h=>by
 cases r
 exact (aK (h.aJ 4 (h.cl DQ (ai (h.v 0) (ai (h.v 1) (ai (h.v 2) (ai (h.v 3) aA)))))) (aK (du (cQ Nt (h.v 4) uH) (aO (bL (fj (ai (h.cl uM (ai (h.v 1) (ai (h.v 2) (ai (h.v 2) (ai (h.v 3) aA))))) aA)))) dW) (aK (h.set 5 (fj aA)) (aK (du (cQ jk (h.v 2) (aC (h.bv 4) ao)) (aO (h.app 5 (h.cl uM (ai (h.v 1) (ai (h.v 2) (ai (h.v 2) (ai (aF ik (aC (h.bv 4) ao) ao) aA))))))) dW) (aK (h.app 5 (h.cl uM (ai (h.v 0) (ai (h.v 2) (ai (aC (h.bv 4) ao) (ai (aC (h.bv 4) ao) aA)))))) (aK (du (cQ jk (aC (h.bv 4) ao) (h.v 3)) (aO (h.app 5 (h.cl uM (ai (h.v 1) (ai (h.v 2) (ai (aF c5 (aC (h.bv 4) ao) ao) (ai (h.v 3) aA))))))) dW) (aO (h.kN 5))))))))
variable (DR:Kq (Oz P w K mg base) 3 A0)
include pH in
theorem a6L(D':JV (Def K mg) a d):JV (Oz P w K mg base) 3 wt:=aW (N:=["row","low"]) D' λX r h=>by
 cases r
 exact (aO (bL (fY (ai (h.cl pH (ai (h.v 0) (ai (h.v 1) aA))) (ai (aC (h.bv 0) ao) aA)))))
variable (A6:JV (Oz P w K mg base) 3 wt)
include z_max z_min z_len A6 in
theorem Xf(D':HZ (Def K mg) a d):HZ (Oz P w K mg base) 4 AA:=aW (N:=["one","other","parts","first","second","mine","yours","low","high"]) D' λX r h=>by
 cases r
 exact (aK (h.set 2 (fj aA)) (aK (h.aJ 3 ao) (aK (h.aJ 4 ao) (aK (OX Np h.own (gZ (uD (cQ jk (h.v 3) (ij h.g z_len (h.bv 0))) (uK (cQ jk (h.v 4) (ij h.g z_len (h.bv 1)))))) (aK (h.aJ 5 (aC (h.bv 0) (h.v 3))) (aK (h.aJ 6 (aC (h.bv 1) (h.v 4))) (aK (h.aJ 7 (AK (IY h.calm) h.g z_max (by decide +kernel) (ai (aC (h.bv 5) ao) (ai (aC (h.bv 6) ao) aA)))) (aK (h.aJ 8 (AK (N5 h.calm) h.g z_min (by decide +kernel) (ai (aC (h.bv 5) ao) (ai (aC (h.bv 6) ao) aA)))) (aK (du (cQ vZ (h.v 7) (h.v 8)) (aO (h.app 2 (fY (ai (h.v 7) (ai (h.v 8) (ai (h.cl A6 (ai (h.v 5) (ai (h.v 7) aA))) (ai (h.cl A6 (ai (h.v 6) (ai (h.v 7) aA))) aA))))))) dW) (aO (du (cQ jk (aC (h.bv 5) ao) (aC (h.bv 6) ao)) (aO (h.aug 3 ao)) (aO (h.aug 4 ao)))))))))) (aO (h.kN 2))))))
variable (CQ:HZ (Oz P w K mg base) 4 AA)
include DR CQ in
theorem a5g(D':Ki (Def K mg) a d):Ki (Oz P w K mg base) 5 Bc:=aW (N:=["one","other","rows","low","high","mine","yours"]) D' λX r h=>by
 cases r
 exact (aK (h.set 2 (fj aA)) (aK (lJ h.own h.calm (h.cl CQ (ai (h.v 0) (ai (h.v 1) aA))) (Ig (n:=4) h.calm (pF (h.tg 3) (pF (h.tg 4) (pF (h.tg 5) (pF (h.tg 6) IP))))) (aO (h.ext 2 (h.cl DR (ai (h.v 5) (ai (h.v 6) (ai (h.v 3) (ai (h.v 4) aA)))))))) (aO (h.kN 2))))
variable (DZ:Ki (Oz P w K mg base) 5 Bc)
include pH in
theorem Xd(D':HY (Def K mg) a d):HY (Oz P w K mg base) 3 wb:=aW (N:=["row","low","high"]) D' λX r h=>by
 cases r
 exact (aO (bL (fY (ai (h.v 1) (ai (h.v 2) (ai (h.cl pH (ai (h.v 0) (ai (h.v 1) aA))) (ai (aC (h.bv 0) ao) aA)))))))
variable (Ac:HY (Oz P w K mg base) 3 wb)
include z_max z_len Ac in
theorem a8Z(D':Jy (Def K mg) a d):Jy (Oz P w K mg base) 4 wx:=aW (N:=["form","spans","rows","place","row","low"]) D' λX r h=>by
 cases r
 exact (aK (h.set 2 (fj aA)) (aK (h.aJ 3 ao) (aK (lJ h.own h.calm (h.v 0) (h.tg 4) (aK (h.aJ 5 (aC (h.bv 4) ao)) (aK (OX PD h.own (gZ (uD (cQ jk (h.v 3) (ij h.g z_len (h.bv 1))) (uK (cQ vZ (aC (jP (aC (h.bv 1) (h.v 3))) ao) (aC (h.bv 4) ao))))) (aK (du (cQ jk (h.v 5) (aC (jP (aC (h.bv 1) (h.v 3))) ao)) (aO (h.app 2 (h.cl Ac (ai (h.v 4) (ai (h.v 5) (ai (aF ik (aC (jP (aC (h.bv 1) (h.v 3))) ao) ao) aA)))))) dW) (aK (h.aJ 5 (AK (IY h.calm) h.g z_max (by decide +kernel) (ai (h.v 5) (ai (aF c5 (aC (jP (aC (h.bv 1) (h.v 3))) ao) ao) aA)))) (aK (du (cQ uC (aC (jP (aC (h.bv 1) (h.v 3))) ao) (aC (h.bv 4) ao)) (aO ZC) dW) (aO (h.aug 3 ao)))))) (aO (du (cQ vZ (h.v 5) (aC (h.bv 4) ao)) (aO (h.app 2 (h.cl Ac (ai (h.v 4) (ai (h.v 5) (ai (aC (h.bv 4) ao) aA)))))) dW))))) (aO (h.kN 2)))))
variable (AR:Jy (Oz P w K mg base) 4 wx)
include z_tuple in
theorem a7x(D':J2 (Def K mg) a d):J2 (Oz P w K mg base) 1 uT:=aW (N:=["form","spans","row","ahead"]) D' λX r h=>by
 cases r
 exact (aK (h.set 1 (fj aA)) (aK (lJ h.own h.calm (h.v 0) (h.tg 2) (aO (du (gZ (uD (Oi (h.bv 1)) (uK (cQ (rS h.u8) (aF c5 (aC (jP (aC (h.bv 1) (uG ao))) ao) ao) (aC (h.bv 2) ao))))) (aK (h.pop 3 1) (aO (h.app 1 (fY (ai (aC (h.bv 3) ao) (ai (aC (h.bv 2) ao) aA)))))) (aO (h.app 1 (fY (ai (aC (h.bv 2) ao) (ai (aC (h.bv 2) ao) aA)))))))) (aO (bL (OE h.g z_tuple (h.bv 1))))))
variable (AO:J2 (Oz P w K mg base) 1 uT)
include z_sorted oG DZ AR AO in
theorem ZO(D':II (Def K mg) a d):II (Oz P w K mg base) 6 pD:=aW (N:=["one","other","alone"]) D' λX r h=>by
 cases r
 exact (aK (h.aJ 2 (aF c5 (h.cl AR (ai (h.v 0) (ai (h.cl AO (ai (h.v 1) aA)) aA))) (h.cl AR (ai (h.v 1) (ai (h.cl AO (ai (h.v 0) aA)) aA))))) (aO (bL (h.cl oG (ai (b0y h.g z_sorted (aF c5 (h.cl DZ (ai (h.v 0) (ai (h.v 1) aA))) (h.v 2))) aA)))))
variable (kC:II (Oz P w K mg base) 6 pD)
theorem a5m(D':jx (Def K mg) a d):jx (Oz P w K mg base) 1 Bb:=Yk D'
variable (O_least_of__0:jx (Oz P w K mg base) 1 Bb)
include z_len kC O_least_of__0 in
theorem a5l(D':jx (Def K mg) a d):jx (Oz P w K mg base) 7 wB:=aW (N:=["forms","half"]) D' λX r h=>by
 cases r
 exact (aK (du (cQ jk (ij h.g z_len (h.bv 0)) ao) (aO (bL (qx (mT (h.v 0)) (aC (h.bv 0) ao) (fY aA)))) dW) (aK (h.aJ 1 (aF jw (ij h.g z_len (h.bv 0)) ao)) (aO (bL (h.cl kC (ai (h.cl O_least_of__0 (ai (pE (h.bv 0) oJ (oK (h.v 1))) aA)) (ai (h.cl O_least_of__0 (ai (pE (h.bv 0) (oK (h.v 1)) oJ) aA)) aA)))))))
variable (A5:jx (Oz P w K mg base) 7 wB)
include z_len kC A5 in
theorem a5k(D':jx (Def K mg) a d):jx (Oz P w K mg base) 8 wC:=aW (N:=["forms","half"]) D' λX r h=>by
 cases r
 exact (aK (du (cQ jk (ij h.g z_len (h.bv 0)) ao) (aO (bL (qx (mT (h.v 0)) (aC (h.bv 0) ao) (fY aA)))) dW) (aK (h.aJ 1 (aF jw (ij h.g z_len (h.bv 0)) ao)) (aO (bL (h.cl kC (ai (h.cl A5 (ai (pE (h.bv 0) oJ (oK (h.v 1))) aA)) (ai (h.cl A5 (ai (pE (h.bv 0) (oK (h.v 1)) oJ) aA)) aA)))))))
variable (AU:jx (Oz P w K mg base) 8 wC)
include z_len kC AU in
theorem a5j(D':jx (Def K mg) a d):jx (Oz P w K mg base) 9 wD:=aW (N:=["forms","half"]) D' λX r h=>by
 cases r
 exact (aK (du (cQ jk (ij h.g z_len (h.bv 0)) ao) (aO (bL (qx (mT (h.v 0)) (aC (h.bv 0) ao) (fY aA)))) dW) (aK (h.aJ 1 (aF jw (ij h.g z_len (h.bv 0)) ao)) (aO (bL (h.cl kC (ai (h.cl AU (ai (pE (h.bv 0) oJ (oK (h.v 1))) aA)) (ai (h.cl AU (ai (pE (h.bv 0) (oK (h.v 1)) oJ) aA)) aA)))))))
variable (AW:jx (Oz P w K mg base) 9 wD)
include z_len kC AW in
theorem a5i(D':jx (Def K mg) a d):jx (Oz P w K mg base) 10 wF:=aW (N:=["forms","half"]) D' λX r h=>by
 cases r
 exact (aK (du (cQ jk (ij h.g z_len (h.bv 0)) ao) (aO (bL (qx (mT (h.v 0)) (aC (h.bv 0) ao) (fY aA)))) dW) (aK (h.aJ 1 (aF jw (ij h.g z_len (h.bv 0)) ao)) (aO (bL (h.cl kC (ai (h.cl AW (ai (pE (h.bv 0) oJ (oK (h.v 1))) aA)) (ai (h.cl AW (ai (pE (h.bv 0) (oK (h.v 1)) oJ) aA)) aA)))))))
variable (AX:jx (Oz P w K mg base) 10 wF)
include z_len kC AX in
theorem a5h(D':jx (Def K mg) a d):jx (Oz P w K mg base) 11 r9:=aW (N:=["forms","half"]) D' λX r h=>by
 cases r
 exact (aK (du (cQ jk (ij h.g z_len (h.bv 0)) ao) (aO (bL (qx (mT (h.v 0)) (aC (h.bv 0) ao) (fY aA)))) dW) (aK (h.aJ 1 (aF jw (ij h.g z_len (h.bv 0)) ao)) (aO (bL (h.cl kC (ai (h.cl AX (ai (pE (h.bv 0) oJ (oK (h.v 1))) aA)) (ai (h.cl AX (ai (pE (h.bv 0) (oK (h.v 1)) oJ) aA)) aA)))))))
variable (DY:jx (Oz P w K mg base) 11 r9)
include z_len in
theorem a3Y(D':KE (Def K mg) a d):KE (Oz P w K mg base) 1 wy:=aW (N:=["forms","many","form"]) D' λX r h=>by
 cases r
 exact (aK (h.aJ 1 ao) (aK (lJ h.own h.calm (h.v 0) (h.tg 2) (aO (h.Ir 1 (ij h.g z_len (h.bv 2))))) (aO (bL (h.v 1)))))
variable (A9:KE (Oz P w K mg base) 1 wy)
include z_MOST_PICKS A9 in
theorem ZP(D':IJ (Def K mg) a d):IJ (Oz P w K mg base) 2 we:=aW (N:=["forms","ways","form","longer","rows"]) D' λX r h=>by
 cases r
 exact (aK (du (cQ uC (h.cl A9 (ai (h.v 0) aA)) (Zn h.g z_MOST_PICKS)) (aO ZE) dW) (aK (du (cQ (rS h.u8) (h.cl A9 (ai (h.v 0) aA)) ao) (aO (bL (fj aA))) dW) (aK (h.aJ 1 (fj (ai (fj aA) aA))) (aK (lJ h.own h.calm (h.v 0) (h.tg 2) (aK (h.set 3 (fj aA)) (aK (lJ h.own h.calm (h.v 1) (h.tg 4) (aO (h.ext 3 (pA (N':=["row","rows"]) (caps:=[4]) (nt:=1) h ⟨rfl,by decide +kernel,by decide +kernel,by decide +kernel,by decide +kernel,rfl,rfl,by decide +kernel⟩ (uE (h.v 2)) (λX1 eT eS eR eQ eO h1=>⟨(h1.tg 0),pB,(aF c5 (h1.v 1) (fj (ai (h1.v 0) aA)))⟩))))) (aO (De 3 (h.aJ 1 (h.v 3))))))) (aO (bL (h.v 1)))))))
variable (Dl:IJ (Oz P w K mg base) 2 we)
theorem a8Y(D':Jz (Def K mg) a d):Jz (Oz P w K mg base) 1 uL:=aW (N:=["row"]) D' λX r h=>by
 cases r
 exact (aO (bL (aC (h.bv 0) ao)))
variable (DJ:Jz (Oz P w K mg base) 1 uL)
include z_sorted z_sum oG DJ in
theorem a9Y(D':Jq (Def K mg) a d):Jq (Oz P w K mg base) 6 uP:=aW (N:=["rows","low","price","made","row","more"]) D' λX r h=>by
 cases r
 exact (aK (h.aJ 1 (NQ h.g z_sum h.calm (jP (pA (N':=["row"]) (caps:=[]) (nt:=1) h ⟨rfl,by decide +kernel,by decide +kernel,by decide +kernel,by decide +kernel,rfl,rfl,by decide +kernel⟩ (uE (h.v 0)) (λX1 eT eS eR eQ eO h1=>⟨(h1.tg 0),pB,(aC (h1.bv 0) ao)⟩))))) (aK (h.aJ 2 (NQ h.g z_sum h.calm (jP (pA (N':=["row"]) (caps:=[]) (nt:=1) h ⟨rfl,by decide +kernel,by decide +kernel,by decide +kernel,by decide +kernel,rfl,rfl,by decide +kernel⟩ (uE (h.v 0)) (λX1 eT eS eR eQ eO h1=>⟨(h1.tg 0),pB,(aC (h1.bv 0) ao)⟩))))) (aK (h.set 3 (fj (ai (fY (ai (h.v 1) (ai (h.v 1) (ai (h.v 2) (ai ao aA))))) aA))) (aK (lJ h.own h.calm (h.Et DJ z_sorted (h.v 0)) (h.tg 4) (aK (h.aJ 5 (aF ik (aC (h.bv 4) ao) (aC (h.bv 4) ao))) (aK (du (cQ uC (h.v 5) ao) (aO (h.app 3 (fY (ai (aF c5 (h.v 1) ao) (ai (aF c5 (h.v 1) (h.v 5)) (ai (aF c5 (h.v 2) (aC (h.bv 4) ao)) (ai (aC (h.bv 4) ao) aA))))))) dW) (aK (h.aug 1 (h.v 5)) (aO (h.aug 2 (aF nG (aC (h.bv 4) ao) (h.v 5)))))))) (aO (De 3 (bL (h.cl oG (ai (h.v 3) aA)))))))))
variable (Dz:Jq (Oz P w K mg base) 6 uP)
include DY Dl Dz in
theorem a4M(D':Kk (Def K mg) a d):Kk (Oz P w K mg base) 12 wG:=aW (N:=["forms"]) D' λX r h=>by
 cases r
 exact (aO (bL (h.cl DY (ai (pA (N':=["rows"]) (caps:=[]) (nt:=1) h ⟨rfl,by decide +kernel,by decide +kernel,by decide +kernel,by decide +kernel,rfl,rfl,by decide +kernel⟩ (uE (h.cl Dl (ai (h.v 0) aA))) (λX1 eT eS eR eQ eO h1=>⟨(h1.tg 0),pB,(h1.cl (nV eT eS eR eQ eO Dz) (ai (h1.v 0) aA))⟩)) aA))))
variable (D1:Kk (Oz P w K mg base) 12 wG)
include D1 in
theorem ZR(D':IL (Def K mg) a d):IL (Oz P w K mg base) 13 rZ:=aW (N:=["one","other"]) D' λX r h=>by
 cases r
 exact (aO (bL (h.cl D1 (ai (fj (ai (h.v 0) (ai (h.v 1) aA))) aA))))
variable (Dm:IL (Oz P w K mg base) 13 rZ)
theorem a6M(D':JU (Def K mg) a d):JU (Oz P w K mg base) 1 uQ:=aW (N:=["number","factor"]) D' λX r h=>by
 cases r
 exact (aO (bL (aF gQ (aF nG (aF gQ (h.v 0) ao) (h.v 1)) ao)))
variable (wu:JU (Oz P w K mg base) 1 uQ)
include z_len wu in
theorem a5n(D':Kh (Def K mg) a d):Kh (Oz P w K mg base) 2 wA:=aW (N:=["number","ahead","far","wide","one","two","three","low","price","step","size","last"]) D' λX r h=>by
 cases r
 exact (aK (h.aJ 2 (aF gQ (aF nG (h.v 0) (aF oH ao ao)) (aF oH ao ao))) (aK (h.aJ 3 (aF gQ (aF nG (h.v 0) (aF oH ao ao)) (aF oH ao ao))) (aK (h.aJ 4 (h.cl wu (ai (h.v 0) (ai ao aA)))) (aK (h.aJ 5 (h.cl wu (ai (h.v 0) (ai ao aA)))) (aK (h.aJ 6 (h.cl wu (ai (h.v 0) (ai ao aA)))) (aK (h.aJ 7 (aC (jP (fj (ai ao (ai (aF ik (aF gQ (aF jw (h.v 4) ao) ao) ao) (ai (aF ik (h.v 2) (aF nG ao (aF oH ao ao))) aA))))) (aF gQ (h.v 4) ao))) (aK (h.aJ 8 (aC (jP (fj (ai (aF ik (aF gQ (aF jw (h.v 5) ao) ao) ao) (ai (aF ik (h.v 3) (aF nG ao (aF oH ao ao))) aA)))) (aF gQ (h.v 5) ao))) (aK (h.aJ 9 (aC (jP (fj (ai ao (ai (aF ik (aF gQ (aF jw (h.v 6) ao) ao) ao) (ai (aF ik (aF gQ (aF jw (h.v 6) ao) ao) ao) (ai (aF ik (aF jw (h.v 2) (aF oH ao ao)) (aF nG ao (aF oH ao ao))) aA)))))) (aF gQ (h.v 6) ao))) (aK (h.aJ 10 (aC (jP (fj (ai ao (ai ao (ai (aF c5 ao (aF gQ (aF jw (h.v 4) ao) ao)) (ai (aF c5 ao (h.v 3)) aA)))))) (aF gQ (aF jw (h.v 5) ao) ao))) (aK (du (cQ uC (ij h.g z_len (h.bv 1)) ao) (aK (h.aJ 11 (aC (h.bv 1) (uG ao))) (aK (h.aJ 7 (aF c5 (aF c5 (aC (h.bv 11) ao) ao) (aC (jP (fj (ai ao (ai ao (ai (aF c5 ao (aF gQ (aF jw (h.v 5) ao) ao)) (ai (aF gQ (h.v 2) (aF oH ao ao)) aA)))))) (aF gQ (aF jw (h.v 6) ao) ao)))) (aO (du (cQ (rS h.u8) (aF gQ (aF jw (h.v 4) ao) ao) ao) (aO (h.aJ 8 (aF ik (aF c5 (aF c5 (aC (h.bv 11) ao) (aF nG (aC (h.bv 11) ao) (aF c5 (aF ik (aC (h.bv 11) ao) (aC (h.bv 11) ao)) ao))) (aF gQ (aF jw (h.v 6) ao) ao)) ao))) dW)))) dW) (aO (bL (fY (ai (h.v 7) (ai (aF ik (aF c5 (h.v 7) (h.v 10)) ao) (ai (h.v 8) (ai (h.v 9) aA)))))))))))))))))
variable (DX:Kh (Oz P w K mg base) 2 wA)
include DX in
theorem a7y(D':J1 (Def K mg) a d):J1 (Oz P w K mg base) 3 sd:=aW (N:=["numbers","rows","number"]) D' λX r h=>by
 cases r
 exact (aK (h.set 1 (fj aA)) (aK (lJ h.own h.calm (h.v 0) (h.tg 2) (aO (h.app 1 (YF 1 (h.cl DX (ai (h.v 2) (ai (h.v 1) aA))))))) (aO (h.kN 1))))
variable (AN:J1 (Oz P w K mg base) 3 sd)
include z_len z_range in
theorem a5o(D':Kg (Def K mg) a d):Kg (Oz P w K mg base) 1 wz:=aW (N:=["script","first","most","told","k","cell"]) D' λX r h=>by
 cases r
 exact (aK (h.set 3 (fj aA)) (aK (YV h.own h.calm (Z8 h.g z_range (ai (h.v 1) (ai (ij h.g z_len (h.bv 0)) aA))) (h.tg 4) (aK (h.aJ 5 (aF gQ (aC (h.bv 0) (h.v 4)) (aF oH ao ao))) (aO (du (cQ jk (ij h.g z_len (h.bv 3)) (h.v 2)) (aO (h.app 3 (h.v 5))) (aO (h.item 3 (aF gQ (aF c5 (aF nG (aC (h.bv 3) (aF gQ (h.v 4) (h.v 2))) ao) (h.v 5)) (aF oH ao ao)) (aF gQ (h.v 4) (h.v 2)))))))) (aO (h.kN 3))))
variable (DW:Kg (Oz P w K mg base) 1 wz)
include z_len z_range uO DP DU DO DI oG Dm AN DW in
theorem Xe(D':wR (Def K mg) a d):bM P w K mg base iH 14 a d ["script"] (mo K 1 Du):=y7 (N:=["script","numbers","ones","others","found","chains","one","cuts","k","x"]) D' λX r h=>by
 cases r
 exact (aK (h.aJ 1 (h.cl DW (ai (h.v 0) (ai ao (ai ao aA))))) (aK (h.aJ 2 (h.cl AN (ai (pA (N':=["k","numbers"]) (caps:=[1]) (nt:=1) h ⟨rfl,by decide +kernel,by decide +kernel,by decide +kernel,by decide +kernel,rfl,rfl,by decide +kernel⟩ (OJ h.g z_range (ai ao (ai (ij h.g z_len (h.bv 1)) (ai ao aA)))) (λX1 eT eS eR eQ eO h1=>⟨(h1.tg 0),pB,(aC (h1.bv 1) (h1.v 0))⟩)) aA))) (aK (h.aJ 3 (h.cl AN (ai (pA (N':=["k","numbers"]) (caps:=[1]) (nt:=1) h ⟨rfl,by decide +kernel,by decide +kernel,by decide +kernel,by decide +kernel,rfl,rfl,by decide +kernel⟩ (OJ h.g z_range (ai ao (ai (ij h.g z_len (h.bv 1)) (ai ao aA)))) (λX1 eT eS eR eQ eO h1=>⟨(h1.tg 0),pB,(aC (h1.bv 1) (h1.v 0))⟩)) aA))) (aK (h.aJ 4 (h.cl Dm (ai (h.cl oG (ai (h.v 2) aA)) (ai (h.cl oG (ai (h.v 3) aA)) aA)))) (aK (du (Au (mT (h.cl DI (ai (h.v 4) aA)))) (aO (bL uA)) dW) (aK (h.set 5 (fj aA)) (aK (lJ h.own h.calm (h.v 2) (h.tg 6) (aO (h.ext 5 (pA (N':=["other","one"]) (caps:=[6]) (nt:=1) h ⟨rfl,by decide +kernel,by decide +kernel,by decide +kernel,by decide +kernel,rfl,rfl,by decide +kernel⟩ (uE (h.v 3)) (λX1 eT eS eR eQ eO h1=>⟨(h1.tg 0),pB,(h1.cl (nV eT eS eR eQ eO DO) (ai (h1.v 1) (ai (h1.v 0) aA)))⟩))))) (aK (De 5 (h.aJ 7 (h.cl DU (ai (h.v 5) (ai (h.v 4) aA))))) (aK (ZD h.own h.calm h.g z_range (ai (aF ik (ij h.g z_len (h.bv 7)) ao) aA) (h.tg 8) (aO (lJ h.own h.calm (fj (ai (aC (h.bv 7) (h.v 8)) (ai (aF c5 (aC (h.bv 7) (h.v 8)) ao) (ai (aF ik (aC (h.bv 7) (aF c5 (h.v 8) ao)) ao) aA)))) (h.tg 9) (aO (du (gZ (uD (cQ jk (h.v 9) (aC (h.bv 7) (aF c5 (h.v 8) ao))) (uK (cQ (Av h.u8) (h.cl uO (ai (h.v 4) (ai (h.v 9) aA))) (h.cl DP (ai (h.v 5) (ai (h.v 9) aA))))))) (aO (bL uA)) dW))))) (aO (bL uA)))))))))))
end
theorem all_mk{l:Ha}{w:World}{K:aB}{h:Heap}{mg:Str->Option Value}{fa:Addr}(X:K.In h)(G:h.Ns mainGlobals mg)(Vc:mg "law" = some (.ref fa))
  (i1:FI K "_law_cost" Qa f1 od1 an1 sl1 oc1 kV1 dc1 pm1 cd1 ct1)
  (i2:FI K "_law_least" P0 f2 od2 an2 xi oc2 kV2 dc2 pm2 cd2 ct2)
  (i3:FI K "_law_cuts" Qb f3 od3 an3 sl3 oc3 kV3 dc3 pm3 cd3 ct3)
  (i4:FI K "_law_chain" PZ f4 od4 an4 sl4 oc4 kV4 dc4 pm4 cd4 ct4)
  (i5:FI K "line_at" PK f5 od5 an5 sl5 oc5 kV5 dc5 pm5 cd5 ct5)
  (i6:FI K "drawn_to" P9 f6 od6 an6 sl6 oc6 kV6 dc6 pm6 cd6 ct6)
  (i7:FI K "holds_one" PY f7 od7 an7 sl7 oc7 kV7 dc7 pm7 cd7 ct7)
  (i8:FI K "may_follow" Qi f8 od8 an8 sl8 oc8 kV8 dc8 pm8 cd8 ct8)
  (i9:FI K "is_whole" P' f9 od9 an9 sl9 oc9 kV9 dc9 pm9 cd9 ct9)
  (i10:FI K "is_plain_stretch" Qv f10 S0 an10 Rm TK Uy V3 RY W5 Wz)
  (i11:FI K "is_form" PJ f11 SY an11 Rk TJ Ux V2 RX W4 Wy)
  (i12:FI K "plain" OV f12 SX an12 Rj TH Uw V1 RW W3 Wx)
  (i13:FI K "laid_beside" Qr f13 SW an13 Ri TF Uv V0 RV W2 Ww)
  (i14:FI K "laid" Of f14 SU an14 Rh TC Uu VZ RU W1 Wv)
  (i15:FI K "stretch_on" Qj f15 SS an15 Rg Tz Ut VY RT W0 Wu)
  (i16:FI K "span_or_none" Qq f16 SR an16 Rf Tw Us VX RS WZ Wt)
  (i17:FI K "up" Nd f17 SQ an17 Rc Tv Ur VW RR WY Ws)
  (i18:FI K "down" Oe f18 SN an18 Rb Tu Uq VV RQ WX Wr)
  (i19:FI K "no_dearer" P6 f19 SM an19 Ra Tt Uo VU RP WW Wq)
  (i20:FI K "lower_line" Qh f20 SK an20 Q9 Tq Um VT RO WU Wp)
  (i21:FI K "line_from" P5 f21 SJ an21 Q8 Tp Ul VS RN WT Wn)
  (i22:FI K "met" NG f22 SI an22 Q7 To Uk VR RM WS Wm)
  (i23:FI K "lesser_rows" Qu f23 SH an23 Q6 Tn Uj VQ RL WR Wl)
  (i24:FI K "cut" NF f24 SG an24 Q5 Tj Ui VP RK WQ Wk)
  (i25:FI K "outside" PL f25 SD an25 Q4 Ti Uh VO RJ WO Wj)
  (i26:FI K "spans_of" Qe f26 Sz an26 Q3 Th Ug VN RI WN Wi)
  (i27:FI K "least" OT f27 Sy an27 Q2 Tg Ue VM RH WM Wh)
  (i28:FI K "least_of" Qd f28 Sw an28 Q1 Tf Ud VL RG WL Wg)
  (i29:FI K "how_many_picks" Qo f29 Sv an29 Q0 Te Uc VJ RE WK Wf)
  (i30:FI K "picks" OU f30 Su an30 QZ Td Ub VI RD WJ We)
  (i31:FI K "step_of" PM f31 Sr an31 QY Tc Ua VH RC WI Wd)
  (i32:FI K "poured" Ph f32 So an32 QX Ta T' VG RB WH Wc)
  (i33:FI K "least_poured" Qp f33 Sn an33 QW S9 T9 VF RA WG Wb)
  (i34:FI K "split" OW f34 Sm an34 QV S8 T8 VE Rz WE Wa)
  (i35:FI K "_law_mixed" P4 f35 Sk an35 QU S7 T7 VD Ry WD V9)
  (i36:FI K "_law_stretch" Qt f36 Sj an36 QT S6 T6 VC Rx WC V8)
  (i37:FI K "_law_rows" Qc f37 Si an37 QS S5 T5 VB Rw WB V7)
  (i38:FI K "_law_numbers" Qs f38 Sh an38 QR S4 T4 VA Rv WA V6)
  (i39:FI K "law" Ax f39 Se Iu QP S1 E3 Gu EM GA Gv)
  (zmax:ju K mainGlobals "max" = some none)
  (zmin:ju K mainGlobals "min" = some none)
  (zall:ju K mainGlobals "all" = some none)
  (zzip:ju K mainGlobals "zip" = some none)
  (zisinstance:ju K mainGlobals "isinstance" = some none)
  (ztuple:ju K mainGlobals "tuple" = some none)
  (zlen:ju K mainGlobals "len" = some none)
  (zbool:ju K mainGlobals "bool" = some none)
  (zint:ju K mainGlobals "int" = some none)
  (zsorted:ju K mainGlobals "sorted" = some none)
  (zsum:ju K mainGlobals "sum" = some none)
  (zMOST_PICKS:∃t,ju K mainGlobals "MOST_PICKS" = some (some (.int 100 t)))
  (zrange:ju K mainGlobals "range" = some none)
  (zset:ju K mainGlobals "set" = some none)
  (zlist:ju K mainGlobals "list" = some none)
  (fin:∀ns:List Int,ns.length<=63->Du [.lst true (ns.map D.int)]=some (.sh (.bl true))):
  ∃fd:FuncData,(∀(s:Shared) (v:Value),BindsTo s fd ⟨[v],[]⟩ [("script",v)])/\∀base:Heap,K.In base->base.Ns mainGlobals mg->bM l.prog w K mg base iH 14 fa fd ["script"] (spT K):=by
 have e:=Vc.symm.trans (GO X G i39.a)
 cases e
 have z_max:=l7 X G zmax
 have z_min:=l7 X G zmin
 have z_all:=l7 X G zall
 have z_zip:=l7 X G zzip
 have z_isinstance:=l7 X G zisinstance
 have z_tuple:=l7 X G ztuple
 have z_len:=l7 X G zlen
 have z_bool:=l7 X G zbool
 have z_int:=l7 X G zint
 have z_sorted:=l7 X G zsorted
 have z_sum:=l7 X G zsum
 have z_MOST_PICKS:KW mg "MOST_PICKS" 100:=zMOST_PICKS.imp λ_ q=>GO X G q
 have z_range:=l7 X G zrange
 have z_set:=l7 X G zset
 have z_list:=l7 X G zlist
 refine ⟨jv "law" "law" (kE Ax) (ip Ax) (fm Ax) .none E3 Gu EM Iu GA Gv,λs v=>.of_eq rfl,λbase _ _=>?_⟩
 have uO:=a7A (P:=l.prog) (w:=w) (base:=base) (dh X G i1)
 have DP:=a6N uO (dh X G i2)
 have DU:=a7z (P:=l.prog) (w:=w) (base:=base) z_sorted z_set z_list (dh X G i3)
 have DO:=a6O (P:=l.prog) (w:=w) (base:=base) (dh X G i4)
 have pC:=a80 (P:=l.prog) (w:=w) (base:=base) (sT X G i5)
 have pH:=a7C pC (dh X G i6)
 have oM:=a6P (P:=l.prog) (w:=w) (base:=base) (cV X G i7)
 have DS:=a5W pH oM (dh X G i8)
 have DT:=a7B (P:=l.prog) (w:=w) (base:=base) z_isinstance z_bool z_int (cV X G i9)
 have D2:=a3f z_all z_isinstance z_tuple z_len DT (cV X G i10)
 have DI:=a81 z_all z_zip z_isinstance z_tuple DS D2 (cV X G i11)
 have rW:=ZQ oM (cV X G i12)
 have DV:=a5p pC oM rW (dh X G i13)
 have oG:=Yg z_tuple rW DV (cV X G i14)
 have uM:=a5V pC (sS X G i15)
 have AZ:=a4L (P:=l.prog) (w:=w) (base:=base) (dh X G i16)
 have O_up:=xQ (P:=l.prog) (w:=w) (base:=base) (dh X G i17)
 have Dg:=Yf (P:=l.prog) (w:=w) (base:=base) (dh X G i18)
 have DQ:=a6K z_max z_min AZ O_up Dg (sS X G i19)
 have DR:=a5X uM DQ (sS X G i20)
 have A6:=a6L pH (dh X G i21)
 have CQ:=Xf z_max z_min z_len A6 (dh X G i22)
 have DZ:=a5g DR CQ (dh X G i23)
 have Ac:=Xd pH (sT X G i24)
 have AR:=a8Z z_max z_len Ac (dh X G i25)
 have AO:=a7x (P:=l.prog) (w:=w) (base:=base) z_tuple (cV X G i26)
 have kC:=ZO z_sorted oG DZ AR AO (dh X G i27)
 have O_least_of__0:=a5m (P:=l.prog) (w:=w) (base:=base) (cV X G i28)
 have A5:=a5l z_len kC O_least_of__0 (cV X G i28)
 have AU:=a5k z_len kC A5 (cV X G i28)
 have AW:=a5j z_len kC AU (cV X G i28)
 have AX:=a5i z_len kC AW (cV X G i28)
 have DY:=a5h z_len kC AX (cV X G i28)
 have A9:=a3Y (P:=l.prog) (w:=w) (base:=base) z_len (cV X G i29)
 have Dl:=ZP z_MOST_PICKS A9 (cV X G i30)
 have DJ:=a8Y (P:=l.prog) (w:=w) (base:=base) (cV X G i31)
 have Dz:=a9Y z_sorted z_sum oG DJ (cV X G i32)
 have D1:=a4M DY Dl Dz (cV X G i33)
 have Dm:=ZR D1 (dh X G i34)
 have wu:=a6M (P:=l.prog) (w:=w) (base:=base) (dh X G i35)
 have DX:=a5n z_len wu (dh X G i36)
 have AN:=a7y DX (cV X G i37)
 have DW:=a5o (P:=l.prog) (w:=w) (base:=base) z_len z_range (sT X G i38)
 have O_law:=Xe z_len z_range uO DP DU DO DI oG Dm AN DW (cV X G i39)
 exact XR O_law fin
end My
open PySem L2 DL
def vcNames:String:="a0g a0n a0j a1t a7v a9G a9F a9E Wo_seq b5j Wo_bk Wo_ct b3M b5i b7p b04 b7I b7f b5y b5O b42 b2Z Wo_eC b7G b7t b5q b5w b5o b5s b5v b09 b5t b5p b7w b7x b7y b7z b7A b7v b5u b5r b2V b2S b2U b2R b2T b2Q b5P b5R b5Q rep0 rep1 rep2 rep3 rep4 b2J b25 b26 b5A b5B b5z b5D b5N b5L b5G b5H b5n b1b b2N b2O b5S b5T b7u b5k b0k b2e b0m b0j b0i b0l b7m b7K b5c b5b b5a b47 b49 b48 b2K b5e b7l b5d b5M b7D b5F b7F b5U b29 b5C b5I b7g b7i b7h Wo_bV b7H b7n b7o b5J b22 b08 ixQ_i b7E atI_0 atI_1 atI_2 atI_3 b24 b1a b27 b28 b5K b4T b4U b07 b5x a78 a7p b5g b5f b2M b2L b1n b1o b1p b1m Wo_gN Wo_gT b2P b06 b7J b7j b7L b6Z b7B b7q b4E b5m b44 b43 b5h b7s pQ_i b7r b7C b5E slQ_t b2F b2G b2H b2I srQ_l a9g b23 b2W b2Y Sl_sh Sl_ow b2X List.getElem?_cons_zero List.getElem?_cons_succ List.set_cons_zero List.set_cons_succ List.length_cons List.length_nil a7P a89 a7R a7O a7N a7Q a69 a7S a7b a68 a67 a7a a7J a88 a7L a7I a7H a7K a64 a7M a66 a63 a62 a65 a56 a61 a58 a55 a54 a57 decide_eq_true_eq decide_eq_false_iff_not Bool.not_eq_true' Bool.not_eq_false' Bool.not_true Bool.not_false true_and and_true forall_const Bool.true_eq_false Bool.false_eq_true false_implies reduceCtorEq implies_true true_implies Int.reduceToNat Nat.reduceAdd Nat.reduceLT Nat.reduceLeDiff Nat.reduceSub Int.reduceLT Int.reduceLE Int.reduceEq Int.cast_ofNat_Int not_true_eq_false not_false_eq_true"
local macro_rules | `(tactic| walk_at "vc")=>do
 let ls ← ((vcNames.splitOn " ") ++ ["a2b","b05","b2b","b4G","b2d","b2a","b19","b2c"]).toArray.mapM fun s=>`(Lean.Parser.Tactic.simpLemma| $(Lean.mkIdent s.toName):ident)
 `(tactic| first | simp only [$ls,*] | dsimp only | skip)
local macro_rules | `(tactic| walk_at "v1")=>do
 let ls ← (vcNames.splitOn " ").toArray.mapM fun s=>`(Lean.Parser.Tactic.simpLemma| $(Lean.mkIdent s.toName):ident)
 `(tactic| first | simp only [$ls,*] | dsimp only | skip)
local macro_rules | `(tactic| walk_at "sc")=>`(tactic| first | omega | (simp only [DivC,PowC,MulC,LIM,R62]; omega) | rfl | decide)
local macro_rules | `(tactic| walk_at "go")=>`(tactic| (walk_at "vc"; repeat' first | apply c3c | intro _); all_goals try (walk_at "sc"))
local macro_rules | `(tactic| walk_at "sp")=>`(tactic| (repeat' first | apply And.intro | intro _); all_goals first | (exfalso; omega) | walk_at "sc" | ((repeat apply Exists.intro); rfl) | skip)
local macro_rules | `(tactic| walk_at "st")=>`(tactic| repeat (refine And.intro ?_ ?_; · first | (simp only [DivC,PowC,MulC,LIM,R62]; omega) | omega))
namespace My
theorem b0F(ns:List Int)(hl:ns.length<=63)(start most:Int)(h0:0<=start)(h1:0<most)(h2:most<=1000)(h3:start<=1000){r:Bool}:∃l:List Int,wz [.lst r (ns.map D.int),.int start,.int most]=some (.ow (l.map D.int))/\(l.length:Int)<=most/\((l.length:Int)<most->l.length=((ns.length:Int)-start).toNat)/\∀v∈l,0<=v/\v<10^18:=by
 have key:Wo (wz [.lst r (ns.map D.int),.int start,.int most]) λs=>∃l:List Int,s=.ow (l.map D.int)/\(l.length:Int)<=most/\((l.length:Int)<most->l.length=((ns.length:Int)-start).toNat)/\∀v∈l,0<=v/\v<10^18:=by
  refine iw.mpr ?_
  unfold Kw
  walk_at "vc"
  rw [bB]
  refine Ow _ _ (λk env=>∃x4 x5,∃l:List Int,env=[.sh (.lst r (ns.map D.int)),.sh (.int start),.sh (.int most),.ow (l.map D.int),x4,x5]/\(l.length:Int)<=most/\(l.length<most->l.length=k)/\∀v∈l,0<=v/\v<10^18) (λk env hk h=>?_) (λenv h=>?_) ⟨_,_,[],rfl,by simp;ext h1,λ_=>rfl,by simp⟩
  .obtain ⟨x4,x5,l,rfl,hm,oS,hv⟩:=h
   walk_at "vc"
   rw [DB 0 (by ext h0) (by ext hk),a0g]
   walk_at "vc"
   rw [bB]
   generalize ns.getD _ 0=c
   have c1:=nD c (show (10^18:Int)≠0 by decide)
   have c2:=ny c (show (0:Int)<10^18 by decide)
   refine ⟨by walk_at "sc",by decide,λbg=>?_,λoW=>?_⟩
   .refine ⟨by ext h2 bg,_,_,l++[c%10^18],by rw [e8];rfl,by simp;ext bg,λ_=>by simp;exact oS bg,λv s9=>?_⟩
    rcases bK.mp s9 with h | h
    .exact hv v h
    .obtain rfl:=cJ.mp h
     exact ⟨c1,c2⟩
   .have m1:=nD (start+k) (show most≠0 by ext h1)
    have m2:=ny (start+k) h1
    have LA:(l.length:Int)=most:=by ext hm oW
    generalize c%10^18=c at *
    rw [DB 0 m1 (by ext oW m2)]
    walk_at "vc"
    generalize hx:l.getD _ 0=x
    generalize (start+(k:Int))%most=j at *
    have hj:iQ (l.map D.int).length j=some j.toNat:=by
     unfold iQ
     rw [if_pos m1,bB,if_pos (by ext oW m2)]
    rw [bB] at hj
    rw [hj]
    walk_at "vc"
    refine ⟨by ext h1,.inr (.inl (by decide)),by walk_at "sc",by decide,by ext h1,?_⟩
    refine ⟨_,_,l.set j.toNat ((x*10007+c)%10^18),by rw [List.map_set],by rw [GU];ext hm,λh=>absurd h (by rw [GU];ext oW),λv s9=>?_⟩
    rcases List.mem_or_eq_of_mem_set s9 with h | h
    .exact hv v h
    .rw [h]
     exact ⟨nD _ (by decide),ny _ (by decide)⟩
  .obtain ⟨x4,x5,l,rfl,hm,hq,hv⟩:=h
   walk_at "vc"
   exact ⟨l,rfl,hm,hq,hv⟩
 obtain ⟨s,e,l,rfl,h⟩:=key
 exact ⟨l,e,h⟩
noncomputable abbrev Row:=Int×Int×Int×Int
noncomputable def Row.d(r:Row):D:=.tup [.int r.1,.int r.2.1,.int r.2.2.1,.int r.2.2.2]
theorem cq(r:Row):Row.d r=.tup [.int r.1,.int r.2.1,.int r.2.2.1,.int r.2.2.2]:=rfl
noncomputable def Row.at(r:Row)(x:Int):Int:=r.2.2.1+r.2.2.2*(x-r.1)
def oE(r:Row):Prop:=r.1<=r.2.1/\(r.1=r.2.1->r.2.2.2=0)
def v5(a r:Row):Prop:=a.2.1<r.1/\(r.1=a.2.1+1->a.1<a.2.1/\r.2.2.1≠a.at r.1)
noncomputable def a9(R:Row->Row->Prop):List Row->Prop
 | a::b::rs=>R a b/\a9 R (b::rs)
 | _=>True
theorem a9.snoc{R:Row->Row->Prop}{r:Row}:∀{rs:List Row},a9 R rs->(∀a,rs.getLast?=some a->R a r)->a9 R (rs++[r])
 | [],_,_=>trivial
 | [a],_,h=>⟨h a rfl,trivial⟩
 | a::b::rs,h,k=>⟨h.1,h.2.snoc (rs:=b::rs) λc hc=>k c (by simpa using hc)⟩
theorem a9.tail{R:Row->Row->Prop}{r:Row}{rs:List Row}(h:a9 R (r::rs)):a9 R rs:=by
 cases rs with
 | nil=>trivial
 | cons q rs=>exact h.2
def Canon(rs:List Row):Prop:=(∀r∈rs,oE r)/\a9 v5 rs
def aw(B:Int)(r:Row):Prop:=(-B<=r.1/\r.1<=B)/\(-B<=r.2.1/\r.2.1<=B)/\(-B<=r.2.2.1/\r.2.2.1<=B)/\(-B<=r.2.2.2/\r.2.2.2<=B)
noncomputable def look:List Row->Int->Option Int
 | [],_=>none
 | r::rs,x=>if r.1<=x/\x<=r.2.1 then some (r.at x) else look rs x
noncomputable def jH:Option Int->D
 | none=>.aS
 | some i=>.int i
def dU(rs:List Row):Prop:=(∀r∈rs,r.1<=r.2.1)/\rs.Pairwise λa b=>a.2.1<b.1
theorem Canon.dq:∀{rs:List Row},Canon rs->dU rs
 | [],_=>⟨λ_ z=>(nomatch z),.nil⟩
 | [r],h=>⟨λq hq=>(h.1 q hq).1,nq _ _⟩
 | r::q::rs,h=>by
  obtain ⟨i1,i2⟩:=Canon.dq (rs:=q::rs) ⟨λa ha=>h.1 a (cG _ ha),h.2.2⟩
  refine ⟨λa ha=>(h.1 a ha).1,fE.mpr ⟨λa ha=>?_,i2⟩⟩
  have h1:=h.2.1.1
  rcases bx.mp ha with rfl | ha
  .exact h1
  .have:=(fE.mp i2).1 a ha
   have:=i1 q cm
   lia
theorem Pq{x:Int}{post:List Row}:∀{pre:List Row},(∀q∈pre,q.2.1<x)->look (pre++post) x=look post x
 | [],_=>rfl
 | r::pre,h=>by
  have:=h r cm
  rw [List.cons_append,look,if_neg (by ext this)]
  exact Pq λq hq=>h q (cG _ hq)
theorem wg{x c:Int}:∀{rs:List Row},look rs x=some c->∃r∈rs,r.1<=x/\x<=r.2.1/\c=r.at x
 | [],h=>by cases h
 | r::rs,h=>by
  rw [look] at h
  split at h
  .exact ⟨r,cm,by lia,by lia,(cF h).symm⟩
  .obtain ⟨q,hq,k⟩:=wg h
   exact ⟨q,cG _ hq,k⟩
theorem jR{rs:List Row}(h:dU rs){r:Row}(hr:r∈rs){x:Int}(h1:r.1<=x)(h2:x<=r.2.1):look rs x=some (r.at x):=by
 obtain ⟨pre,post,rfl⟩:=List.append_of_mem hr
 rw [Pq λq hq=>?_,look,if_pos ⟨h1,h2⟩]
 have:=(fI.mp h.2).2.2 q hq r cm
 ext h1 this
def Val(rs:List Row)(x c:Int):Prop:=∃r∈rs,r.1<=x/\x<=r.2.1/\c=r.at x
theorem r6{rs:List Row}(h:dU rs){x c:Int}:look rs x=some c↔Val rs x c:=
 ⟨wg,λ⟨r,hr,h1,h2,e⟩=>by rw [jR h hr h1 h2,e]⟩
theorem Val.app{rs qs:List Row}{x c:Int}:Val (rs++qs) x c↔Val rs x c\/Val qs x c:=by
 unfold Val
 constructor
 .rintro ⟨r,hr,h⟩
  rcases bK.mp hr with hr | hr
  .exact .inl ⟨r,hr,h⟩
  .exact .inr ⟨r,hr,h⟩
 .rintro (⟨r,hr,h⟩ | ⟨r,hr,h⟩)
  .exact ⟨r,fU _ hr,h⟩
  .exact ⟨r,fF _ hr,h⟩
theorem Val.one{r:Row}{x c:Int}:Val [r] x c↔r.1<=x/\x<=r.2.1/\c=r.at x:=by
 unfold Val
 simp
theorem Val.two{r q:Row}{x c:Int}:Val [r,q] x c↔(r.1<=x/\x<=r.2.1/\c=r.at x)\/(q.1<=x/\x<=q.2.1/\c=q.at x):=by
 unfold Val
 simp
noncomputable def total(rs:List Row):Int:=(rs.map λr=>r.2.1-r.1+1).sum
theorem uN(rs qs:List Row):total (rs++qs)=total rs+total qs:=by unfold total;rw [e8,t9]
theorem a9.append{R:Row->Row->Prop}:∀{rs qs:List Row},a9 R rs->a9 R qs->(∀a b,rs.getLast?=some a->qs.head?=some b->R a b)->a9 R (rs++qs)
 | [],_,_,h,_=>h
 | [a],[],_,_,_=>trivial
 | [a],b::qs,_,h,k=>⟨k a b rfl rfl,h⟩
 | a::b::rs,qs,h,h',k=>⟨h.1,a9.append (rs:=b::rs) h.2 h' λc d hc hd=>k c d (by simpa using hc) hd⟩
theorem a9.left{R:Row->Row->Prop}:∀{rs qs:List Row},a9 R (rs++qs)->a9 R rs
 | [],_,_=>trivial
 | [a],_,_=>trivial
 | a::b::rs,qs,h=>⟨h.1,a9.left (rs:=b::rs) h.2⟩
theorem a9.mid{R:Row->Row->Prop}{b:Row}:∀{rs:List Row},a9 R (rs++[b])->∀a,rs.getLast?=some a->R a b
 | [],_,a,h=>by cases h
 | [a],h,c,hc=>by cases hc;exact h.1
 | a::c::rs,h,d,hd=>a9.mid (rs:=c::rs) h.2 d (by simpa using hd)
theorem a9.get{R:Row->Row->Prop}:∀{rs:List Row},a9 R rs->∀(k:Nat) (h:k+1<rs.length),R (rs[k]'(by ext h:1)) rs[k+1]
 | [],_,k,h=>absurd h (by simp)
 | [a],_,k,h=>absurd h (by simp)
 | a::b::rs,h,0,_=>h.1
 | a::b::rs,h,k+1,hk=>a9.get (rs:=b::rs) h.2 k (by simpa using hk)
theorem O1{rs:List Row}{n:Nat}(h:n<rs.length):dQ (rs.map Row.d) (n:Int)=some (Row.d rs[n]):=by
 rw [DL.cn];simp [h]
theorem aw.mono{A B:Int}{r:Row}(h:aw A r)(l4:A<=B):aw B r:=by unfold aw at *;ext h l4
theorem Il{p s l x:Int}(h1:-(10^250)<=s)(h2:s<=10^250)(h3:-(10^250)<=x-l)(h4:x-l<=10^250):si [.tup [.int p,.int s],.int l,.int x]=some (.sh (.int (p+s*(x-l)))):=by
 refine Wo.eq (mW.mpr ?_)
 unfold Jg
 walk_at "go"
theorem I9{r:Row}{x:Int}(h1:-(10^250)<=r.2.2.2)(h2:r.2.2.2<=10^250)(h3:-(10^250)<=x-r.1)(h4:x-r.1<=10^250):uR [r.d,.int x]=some (.sh (.int (r.at x))):=by
 refine Wo.eq (lS.mpr ?_)
 unfold J4
 rw [cq r]
 walk_at "vc"
 rw [Il h1 h2 h3 h4]
 walk_at "vc"
 rfl
theorem XW{a b:Int}(h:0<b)(h2:b<=10^250):AG [.int a,.int b]=some (.sh (.int (a/b))):=by
 refine Wo.eq (uV.mpr ?_)
 unfold Ib
 walk_at "go"
theorem Gi{a b:Int}(h:0<b)(h2:b<=10^250):Aw [.int a,.int b]=some (.sh (.int (-(-a/b)))):=by
 refine Wo.eq (KH.mpr ?_)
 unfold uY
 walk_at "go"
noncomputable def oh:Option (Int×Int)->D
 | none=>.aS
 | some (a,b)=>.tup [.int a,.int b]
noncomputable def u7(a b:Int):Option (Int×Int):=if a<=b then some (a,b) else none
theorem Nb(a b:Int):wH [.int a,.int b]=some (.sh (oh (u7 a b))):=by
 refine Wo.eq (gC.mpr ?_)
 unfold Kj
 walk_at "go"
 all_goals simp [u7,oh, *]
noncomputable def nd(a s low high:Int):Option (Int×Int):=if 0<s then u7 low (min high (low+(-a)/s)) else if s<0 then u7 (max low (low + -((-a)/(-s)))) high else if 0<a then none else some (low,high)
theorem Gj{p1 s1 p2 s2 low high:Int}(h:-(10^250)<=s1-s2)(h2:s1-s2<=10^250):
  AY [.tup [.int p1,.int s1],.tup [.int p2,.int s2],.int low,.int high]=some (.sh (oh (nd (p1-p2) (s1-s2) low high))):=by
 refine Wo.eq (jS.mpr ?_)
 unfold JP
 walk_at "vc"
 refine ⟨λhs=>?_,λhs=>⟨λdN=>?_,λdN=>⟨λha=>?_,λha=>?_⟩⟩⟩
 .rw [XW hs h2]
  walk_at "vc"
  rw [Nb]
  walk_at "vc"
  rw [nd,if_pos hs]
 .rw [Gi (by ext dN) (by ext h)]
  walk_at "vc"
  rw [Nb]
  walk_at "vc"
  rw [nd,if_neg hs,if_pos dN]
 .rw [nd,if_neg hs,if_neg dN,if_pos ha];rfl
 .rw [nd,if_neg hs,if_neg dN,if_neg ha];rfl
theorem OC{a s low high:Int}(yF:low<=high):match nd a s low high with
  | none=>∀x,low<=x->x<=high->0<a+s*(x-low)
  | some (f,l)=>(low<=f/\f<=l/\l<=high/\(f=low\/l=high))/\∀x,low<=x->x<=high->(a+s*(x-low)<=0↔f<=x/\x<=l):=by
 unfold nd
 by_cases hs:0<s
 .rw [if_pos hs]
  obtain ⟨f1,f2⟩:=OF (a:=-a) hs
  generalize (-a)/s=q at *
  have key:∀x,a+s*(x-low)<=0↔x-low<=q:=λx=>by
   constructor
   .intro h
    rcases Int.lt_or_le q (x-low) with h' | h'
    .have:=CK (show q+1<=x-low by ext h') (GG hs)
     grind
    .exact h'
   .intro h
    have:=CK h (GG hs)
    grind
  unfold u7
  by_cases hm:low<=min high (low+q)
  .rw [if_pos hm]
   refine ⟨⟨by ext,by ext hm,by ext,.inl rfl⟩,λx h1 h2=>?_⟩
   rw [key]
   ext h1 h2
  .rw [if_neg hm]
   intro x h1 h2
   have:=not_congr (key x)
   ext yF hm h1 this
 .rw [if_neg hs]
  by_cases dN:s<0
  .rw [if_pos dN]
   obtain ⟨f1,f2⟩:=OF (a:=-a) (b:=-s) (by ext dN)
   generalize (-a)/(-s)=q at *
   have key:∀x,a+s*(x-low)<=0 ↔ -q<=x-low:=λx=>by
    constructor
    .intro h
     rcases Int.lt_or_le (x-low) (-q) with h' | h'
     .have:=CK (show x-low+1 <= -q by ext h') (show 0 <= -s by ext dN)
      grind
     .exact h'
    .intro h
     have:=CK h (show 0 <= -s by ext dN)
     grind
   unfold u7
   by_cases hm:max low (low + -q)<=high
   .rw [if_pos hm]
    refine ⟨⟨by ext,by ext hm,by ext,.inr rfl⟩,λx h1 h2=>?_⟩
    rw [key]
    ext h1 h2
   .rw [if_neg hm]
    intro x h1 h2
    have:=not_congr (key x)
    ext yF hm h2 this
  .rw [if_neg dN]
   have:s=0:=by ext hs dN
   subst this
   by_cases ha:0<a
   .rw [if_pos ha];intro x _ _;ext ha
   .rw [if_neg ha];exact ⟨⟨by ext,by ext yF,by ext,.inl rfl⟩,λx h1 h2=>by ext ha h1 h2⟩
theorem CV{p s l f g:Int}(h1:-(10^250)<=s)(h2:s<=10^250)(h3:-(10^250)<=f-l)(h4:f-l<=10^250):se [.tup [.int p,.int s],.int l,.int f,.int g]=some (.sh (.tup [.int f,.int g,.int (p+s*(f-l)),.int s])):=by
 refine Wo.eq (jm.mpr ?_)
 unfold Kp
 walk_at "vc"
 rw [Il h1 h2 h3 h4]
 walk_at "go"
noncomputable def gf(p s l f g:Int):Row:=(f,g,p+s*(f-l),s)
noncomputable def n0(p1 s1 p2 s2 low high:Int):List Row:=match nd (p1-p2) (s1-s2) low high with
 | none=>[gf p2 s2 low low high]
 | some (f,l)=>(if low<f then [gf p2 s2 low low (f-1)] else [])++[gf p1 s1 low f l]++(if l<high then [gf p2 s2 low (l+1) high] else [])
theorem XX{p1 s1 p2 s2 low high:Int}(yF:low<=high)(hw:high-low<=10^200)(h1:-(10^200)<=s1)(h2:s1<=10^200)(h3:-(10^200)<=s2)(h4:s2<=10^200):
  A0 [.tup [.int p1,.int s1],.tup [.int p2,.int s2],.int low,.int high]=some (.ow ((n0 p1 s1 p2 s2 low high).map Row.d)):=by
 refine Wo.eq (jo.mpr ?_)
 unfold Km
 walk_at "vc"
 rw [Gj (by ext h1 h4) (by ext h2 h3)]
 have sp:=OC (a:=p1-p2) (s:=s1-s2) (low:=low) (high:=high) yF
 unfold n0
 cases kX:nd (p1-p2) (s1-s2) low high with
 | none =>
  dsimp only [oh]
  walk_at "vc"
  rw [CV (by ext h3) (by ext h4) (by ext) (by ext)]
  walk_at "vc"
  rfl
 | some fl =>
  obtain ⟨f,l⟩:=fl
  rw [kX] at sp
  obtain ⟨⟨q1,q2,q3,q4⟩,q5⟩:=sp
  dsimp only [oh]
  walk_at "vc"
  rw [CV (by ext h3) (by ext h4) (by ext) (by ext),CV (by ext h1) (by ext h2) (by ext q1) (by ext hw q2 q3),CV (by ext h3) (by ext h4) (by ext q1 q2) (by ext hw q3)]
  walk_at "vc"
  refine ⟨λa=>?_,λa=>?_⟩<;>(repeat' first | apply c3c | intro _)<;>simp [*,Row.d,gf]
theorem CU(r:Row):qD [r.d]=some (.sh (.bl (decide (r.1=r.2.1)))):=by
 refine Wo.eq (jX.mpr ?_)
 unfold JK
 rw [cq r]
 walk_at "go"
noncomputable def fo(r:Row):Row:=if r.1=r.2.1 then (r.1,r.2.1,r.2.2.1,0) else r
theorem Dt(r:Row):qB [r.d]=some (.sh (fo r).d):=by
 refine Wo.eq (qE.mpr ?_)
 unfold IW
 walk_at "vc"
 rw [CU]
 walk_at "vc"
 unfold fo
 refine ⟨λh=>?_,λh=>?_⟩
 .rw [if_pos h,cq]
  walk_at "vc"
  rfl
 .rw [if_neg h]
noncomputable def ku(a r:Row):Int:=if a.1=a.2.1 then r.2.2.1-a.2.2.1 else a.2.2.2
noncomputable def kD(a r:Row):List Row:=if r.2.2.1≠a.2.2.1+ku a r*(r.1-a.1) then [a,fo r] else if r.1=r.2.1\/r.2.2.2=ku a r then [(a.1,r.2.1,a.2.2.1,ku a r)] else
 [(a.1,r.1,a.2.2.1,ku a r),fo (r.1+1,r.2.1,r.2.2.1+r.2.2.2,r.2.2.2)]
theorem Zg{a r:Row}(ha:aw (3*10^140) a)(hr:aw (10^140) r):Ba [a.d,r.d]=some (.ow ((kD a r).map Row.d)):=by
 refine Wo.eq (iy.mpr ?_)
 unfold Ku
 walk_at "v1"
 rw [CU]
 unfold aw at ha hr
 have tj:Wo (some (Sl.sh (D.bl (decide (a.1=a.2.1))))) λRr=>Wo (g0 Rr.d) λb=>True:=⟨_,rfl,_,rfl,trivial⟩
 have Lx:-(10^200)<=ku a r/\ku a r<=10^200:=by unfold ku;split<;>omega
 rw [cq a,cq r]
 walk_at "v1"
 have fin:∀{st:Int},st=ku a r->Wo (aj (cc (bR (aa ec (av (bV 1) (eC (.int 2))) (aU 3 si (af (bA (af (av (bV 0) (eC (.int 2))) (af (eV 2) ae))) (af (av (bV 0) (eC (.int 0))) (af (av (bV 1) (eC (.int 0))) ae))))))
   (aD (bw (af (eV 0) (af (aU 1 qB (af (eV 1) ae)) ae)))) cK)
   (aj (cc (jz (dz (aU 1 qD (af (eV 1) ae))) (bR (aa ei (av (bV 1) (eC (.int 3))) (eV 2))))
   (aD (bw (af (bA (af (av (bV 0) (eC (.int 0))) (af (av (bV 1) (eC (.int 1))) (af (av (bV 0) (eC (.int 2))) (af (eV 2) ae))))) ae))) cK)
   (aj (bD 3 (aU 1 qB (af (bA (af (aa aQ (av (bV 1) (eC (.int 0))) (eC (.int 1))) (af (av (bV 1) (eC (.int 1))) (af (aa aQ (av (bV 1) (eC (.int 2))) (av (bV 1) (eC (.int 3)))) (af (av (bV 1) (eC (.int 3))) ae))))) ae)))
   (aD (bw (af (bA (af (av (bV 0) (eC (.int 0))) (af (av (bV 1) (eC (.int 0))) (af (av (bV 0) (eC (.int 2))) (af (eV 2) ae))))) (af (eV 3) ae)))))) [.sh (.tup [.int a.1,.int a.2.1,.int a.2.2.1,.int a.2.2.2]),.sh (.tup [.int r.1,.int r.2.1,.int r.2.2.1,.int r.2.2.2]),.sh (.int st),.no])
   (aN λx=>x=.ow ((kD a r).map Row.d)):=by
  rintro st rfl
  walk_at "vc"
  rw [Il (by ext Lx) (by ext Lx) (by ext ha hr) (by ext ha hr),<-cq r,Dt,CU]
  have e2:=Dt (r.1+1,r.2.1,r.2.2.1+r.2.2.2,r.2.2.2)
  rw [cq] at e2
  dsimp only at e2
  rw [e2]
  walk_at "vc"
  unfold kD
  refine ⟨λh=>?_,λh=>⟨λh1=>?_,λh1=>⟨λh2=>?_,λh2=>?_⟩⟩⟩
  .rw [if_pos h];rfl
  .rw [if_neg (by simpa using h),if_pos (.inl h1)];rfl
  .rw [if_neg (by simpa using h),if_pos (.inr h2)];rfl
  .rw [if_neg (by simpa using h),if_neg (by simp [h1,h2])];rfl
 refine ⟨λh=>?_,λh=>?_⟩
 .exact Wo_seq.mp (fin (by unfold ku;rw [if_pos h]))
 .exact Wo_seq.mp (fin (by unfold ku;rw [if_neg h]))
theorem O9{a r:Row}(ha:oE a)(hr:r.1<=r.2.1)(hn:r.1=a.2.1+1):(∀q∈kD a r,oE q)/\a9 v5 (kD a r)/\(∀x c,Val (kD a r) x c↔(a.1<=x/\x<=a.2.1/\c=a.at x)\/(r.1<=x/\x<=r.2.1/\c=r.at x)) /\
  total (kD a r)=(a.2.1-a.1+1)+(r.2.1-r.1+1)/\(∃q,(kD a r).head?=some q/\q.1=a.1/\q.2.2.1=a.2.2.1)/\(∃q,(kD a r).getLast?=some q/\q.2.1=r.2.1)/\(kD a r).length<=2:=by
 obtain ⟨a0,a1,a2,a3⟩:=a
 obtain ⟨r0,r1,r2,r3⟩:=r
 unfold oE at ha
 dsimp only at ha hr hn
 have dO:∀r:Row,r.1<=r.2.1->oE (fo r)/\(fo r).1=r.1/\(fo r).2.1=r.2.1/\(fo r).2.2.1=r.2.2.1/\∀x,r.1<=x->x<=r.2.1->(fo r).at x=r.at x:=λr h=>by
  unfold fo
  split
  .rename_i e
   refine ⟨⟨by dsimp only;ext h,λ_=>rfl⟩,rfl,rfl,rfl,λx h1 h2=>?_⟩
   have:x=r.1:=by ext e h1 h2
   unfold Row.at
   dsimp only
   rw [this];simp
  .rename_i e
   exact ⟨⟨h,λz=>absurd z e⟩,rfl,rfl,rfl,λ_ _ _=>rfl⟩
 generalize hs:ku (a0,a1,a2,a3) (r0,r1,r2,r3)=s
 have yy:a0=a1->s=r2-a2:=λe=>by rw [<-hs];unfold ku;dsimp only;rw [if_pos e]
 have dN:a0≠a1->s=a3:=λe=>by rw [<-hs];unfold ku;dsimp only;rw [if_neg e]
 unfold kD
 dsimp only
 rw [hs]
 by_cases bo:r2≠a2+s*(r0-a0)
 .rw [if_pos bo]
  have LU:a0≠a1:=λe=>bo (by rw [yy e,hn,<-e];grind)
  have hs:=dN LU
  obtain ⟨p1,p2,p3,p4,p5⟩:=dO (r0,r1,r2,r3) hr
  dsimp only at p2 p3 p4 p5
  refine ⟨λq hq=>?_,⟨⟨by rw [p2];dsimp only;ext hn,λ_=>⟨by dsimp only;ext ha LU,?_⟩⟩,trivial⟩,λx c=>?_,?_,⟨_,rfl,rfl,rfl⟩,⟨_,rfl,p3⟩,by simp⟩
  .simp at hq
   rcases hq with rfl | rfl
   .exact ha
   .exact p1
  .rw [p4,p2]
   unfold Row.at
   dsimp only
   rw [<-hs];exact bo
  .rw [Val.two,p2,p3]
   constructor
   .rintro (h | ⟨h1,h2,h3⟩)
    .exact .inl h
    .exact .inr ⟨h1,h2,by rw [h3,p5 x h1 h2]⟩
   .rintro (h | ⟨h1,h2,h3⟩)
    .exact .inl h
    .exact .inr ⟨h1,h2,by rw [h3,p5 x h1 h2]⟩
  .unfold total
   simp [p2,p3]
 .have he:r2=a2+s*(r0-a0):=Classical.not_not.mp bo
  rw [if_neg bo]
  have va:∀x,a0<=x->x<=a1->a2+s*(x-a0)=a2+a3*(x-a0):=λx h1 h2=>by
   by_cases e:a0=a1
   .have:x=a0:=by ext h1 h2 e
    rw [this];simp
   .rw [dN e]
  by_cases hj:r0=r1\/r3=s
  .rw [if_pos hj]
   have vr:∀x,r0<=x->x<=r1->a2+s*(x-a0)=r2+r3*(x-r0):=λx h1 h2=>by
    have e1:a2+s*(x-a0)=r2+s*(x-r0):=by rw [he];grind
    rw [e1]
    rcases hj with e | e
    .have:x=r0:=by ext h1 h2 e
     rw [this];simp
    .rw [e]
   refine ⟨λq hq=>?_,trivial,λx c=>?_,?_,⟨_,rfl,rfl,rfl⟩,⟨_,rfl,rfl⟩,by simp⟩
   .simp at hq
    subst hq
    exact ⟨by dsimp only;ext ha hr hn,λz=>by dsimp only at z;ext ha hr hn z⟩
   .rw [Val.one]
    unfold Row.at
    dsimp only
    constructor
    .rintro ⟨h1,h2,h3⟩
     by_cases hx:x<=a1
     .exact .inl ⟨h1,hx,by rw [h3];exact va x h1 hx⟩
     .exact .inr ⟨by ext hn hx,h2,by rw [h3];exact vr x (by ext hn hx) h2⟩
    .rintro (⟨h1,h2,h3⟩ | ⟨h1,h2,h3⟩)
     .exact ⟨h1,by ext hr hn h2,by rw [h3];exact (va x h1 h2).symm⟩
     .exact ⟨by ext ha hn h1,h2,by rw [h3];exact (vr x h1 h2).symm⟩
   .unfold total
    simp
    ext hn
  .rw [if_neg hj]
   have U9:r0≠r1:=λe=>hj (.inl e)
   have U8:r3≠s:=λe=>hj (.inr e)
   obtain ⟨p1,p2,p3,p4,p5⟩:=dO (r0+1,r1,r2+r3,r3) (by dsimp only;ext hr U9)
   dsimp only at p2 p3 p4 p5
   have vp:∀x,Row.at (r0+1,r1,r2+r3,r3) x=r2+r3*(x-r0):=λx=>by unfold Row.at;dsimp only;grind
   refine ⟨λq hq=>?_,⟨⟨by rw [p2];dsimp only;ext,λ_=>⟨by dsimp only;ext ha hn,?_⟩⟩,trivial⟩,λx c=>?_,?_,⟨_,rfl,rfl,rfl⟩,⟨_,rfl,p3⟩,by simp⟩
   .simp at hq
    rcases hq with rfl | rfl
    .exact ⟨by dsimp only;ext ha hn,λz=>by dsimp only at z;ext ha hn z⟩
    .exact p1
   .rw [p4,p2]
    unfold Row.at
    dsimp only
    have:a2+s*(r0+1-a0)=r2+s:=by rw [he];grind
    rw [this]
    ext U8
   .rw [Val.two,p2,p3]
    unfold Row.at at vp p5 ⊢
    dsimp only at vp p5 ⊢
    constructor
    .rintro (⟨h1,h2,h3⟩ | ⟨h1,h2,h3⟩)
     .by_cases hx:x<=a1
      .exact .inl ⟨h1,hx,by rw [h3];exact va x h1 hx⟩
      .have:x=r0:=by ext hn h2 hx
       exact .inr ⟨by ext hn hx,by ext hr h2,by rw [h3,this,<-he];simp⟩
     .refine .inr ⟨by ext h1,h2,?_⟩
      rw [p5 x h1 h2,vp] at h3
      exact h3
    .rintro (⟨h1,h2,h3⟩ | ⟨h1,h2,h3⟩)
     .exact .inl ⟨h1,by ext hn h2,by rw [h3];exact (va x h1 h2).symm⟩
     .by_cases hx:x=r0
      .exact .inl ⟨by ext ha hn hx,by ext hx,by rw [h3,hx,<-he];simp⟩
      .refine .inr ⟨by ext h1 hx,h2,?_⟩
       rw [p5 x (by ext h1 hx) h2,vp]
       exact h3
   .unfold total
    simp [p2,p3]
    ext hn
theorem b02{a r:Row}(ha:aw (3*10^140) a/\(-(2*10^140)<=a.2.2.1/\a.2.2.1<=2*10^140))(hr:aw (10^140) r):∀q∈kD a r,aw (3*10^140) q/\(-(2*10^140)<=q.2.2.1/\q.2.2.1<=2*10^140):=by
 unfold aw at *
 have hs:-(3*10^140)<=ku a r/\ku a r<=3*10^140:=by unfold ku;split<;>omega
 have hp:∀z:Row,((fo z).1=z.1/\(fo z).2.1=z.2.1/\(fo z).2.2.1=z.2.2.1/\((fo z).2.2.2=z.2.2.2\/(fo z).2.2.2=0)):=λz=>by unfold fo;split<;>simp
 intro q hq
 unfold kD at hq
 split at hq
 .simp at hq
  rcases hq with rfl | rfl
  .exact ha
  .have:=hp r;ext hr this
 .split at hq
  .simp at hq
   subst hq
   dsimp only
   ext ha hr hs
  .simp at hq
   rcases hq with rfl | rfl
   .dsimp only;ext ha hr hs
   .have:=hp (r.1+1,r.2.1,r.2.2.1+r.2.2.2,r.2.2.2)
    dsimp only at this
    ext hr this
theorem ZW{r:Row}(h:r.1<=r.2.1):oE (fo r)/\(fo r).1=r.1/\(fo r).2.1=r.2.1/\(fo r).2.2.1=r.2.2.1/\∀x,r.1<=x->x<=r.2.1->(fo r).at x=r.at x:=by
 unfold fo
 split
 .rename_i e
  refine ⟨⟨by dsimp only;ext h,λ_=>rfl⟩,rfl,rfl,rfl,λx h1 h2=>?_⟩
  have:x=r.1:=by ext e h1 h2
  unfold Row.at
  dsimp only
  rw [this];simp
 .rename_i e
  exact ⟨⟨h,λz=>absurd z e⟩,rfl,rfl,rfl,λ_ _ _=>rfl⟩
structure Laid(pre ms:List Row):Prop where
 canon:Canon ms
 val:∀x c,Val ms x c↔Val pre x c
 total:total ms=total pre
 last:∀a r,ms.getLast?=some a->pre.getLast?=some r->a.2.1=r.2.1
 none:ms=[]↔pre=[]
 len:ms.length<=pre.length
 bd:∀q∈ms,aw (3*10^140) q/\(-(2*10^140)<=q.2.2.1/\q.2.2.1<=2*10^140)
theorem Laid.append{pre ms:List Row}{r:Row}(h:Laid pre ms)(hr:r.1<=r.2.1)(hb:aw (10^140) r)(hf:∀a,ms.getLast?=some a->a.2.1<r.1/\a.2.1+1≠r.1):Laid (pre++[r]) (ms++[fo r]):=by
 obtain ⟨p1,p2,p3,p4,p5⟩:=ZW hr
 refine ⟨⟨λq hq=>?_,h.canon.2.snoc λa ha=>?_⟩,λx c=>?_,?_,λa q ha hq=>?_,by simp,by simp;exact h.len,λq hq=>?_⟩
 .rcases bK.mp hq with hq | hq
  .exact h.canon.1 q hq
  .rw [cJ.mp hq];exact p1
 .have:=hf a ha
  exact ⟨by rw [p2];ext this,λz=>by rw [p2] at z;ext this z⟩
 .rw [Val.app,Val.app,h.val x c,Val.one,Val.one,p2,p3]
  constructor
  .rintro (h | ⟨h1,h2,h3⟩)
   .exact .inl h
   .exact .inr ⟨h1,h2,by rw [h3,p5 x h1 h2]⟩
  .rintro (h | ⟨h1,h2,h3⟩)
   .exact .inl h
   .exact .inr ⟨h1,h2,by rw [h3,p5 x h1 h2]⟩
 .rw [uN,uN,h.total]
  unfold My.total
  simp [p2,p3]
 .simp at ha hq
  subst ha hq
  exact p3
 .rcases bK.mp hq with hq | hq
  .exact h.bd q hq
  .rw [cJ.mp hq]
   have:(fo r).2.2.2=r.2.2.2\/(fo r).2.2.2=0:=by unfold fo;split<;>simp
   unfold aw at *
   ext hb p2 p3 p4 this
theorem Laid.uf{pre ms:List Row}{a r:Row}(h:Laid pre (ms++[a]))(hr:r.1<=r.2.1)(hb:aw (10^140) r)(hn:a.2.1+1=r.1):Laid (pre++[r]) (ms++kD a r):=by
 obtain ⟨b1,b2,b3,b4,⟨q1,b5,b6,b7⟩,⟨q2,b8,b9⟩,b10⟩:=O9 (h.canon.1 a (by simp)) hr hn.symm
 have bo:kD a r≠[]:=λz=>by rw [z] at b5;cases b5
 refine ⟨⟨λq hq=>?_,h.canon.2.left.append b2 λc d hc hd=>?_⟩,λx c=>?_,?_,λc q hc hq=>?_,by simp [bo],?_,λq hq=>?_⟩
 .rcases bK.mp hq with hq | hq
  .exact h.canon.1 q (by simp [hq])
  .exact b1 q hq
 .rw [b5] at hd
  cases hd
  have:=h.canon.2.mid c hc
  unfold v5 at this ⊢
  rw [b6,b7]
  exact this
 .rw [Val.app,Val.app,Val.one,b3,<-h.val,Val.app,Val.one,or_assoc]
 .have e:=h.total
  rw [uN] at e
  rw [uN,uN,b4,<-e]
  unfold My.total
  simp
  ext
 .rw [List.getLast?_append,b8] at hc
  simp at hc hq
  subst hc hq
  exact b9
 .have:=h.len
  simp at this ⊢
  ext b10 this
 .rcases bK.mp hq with hq | hq
  .exact h.bd q (by simp [hq])
  .exact b02 (h.bd a (by simp)) hb q hq
theorem Ik{rows:List Row}(ha:dU rows)(hb:∀r∈rows,aw (10^140) r)(hl:rows.length<=8000000){ro:Bool}:∃fs:List Row,pG [.lst ro (rows.map Row.d)]=some (.sh (.tup (fs.map Row.d)))/\Laid rows fs:=by
 have key:Wo (pG [.lst ro (rows.map Row.d)]) λs=>∃fs:List Row,s=.sh (.tup (fs.map Row.d))/\Laid rows fs:=by
  refine uU.mpr ?_
  unfold Ic
  walk_at "vc"
  refine nI Row.d (λpre env=>∃x2 x3,∃ms:List Row,env=[.sh (.lst ro (rows.map Row.d)),.ow (ms.map Row.d),x2,x3]/\Laid pre ms) rows (λpre r post env e h=>?_) (λenv h=>?_)
   ⟨_,_,[],rfl,⟨⟨λ_ z=>(nomatch z),trivial⟩,λ_ _=>dP,rfl,λ_ _ z=>(nomatch z),dP,aV _,λ_ z=>(nomatch z)⟩⟩
  .obtain ⟨x2,x3,ms,rfl,h⟩:=h
   have hr:r∈rows:=by rw [e];simp
   have qY:=ha.1 r hr
   have BI:=hb r hr
   have hlen:ms.length<=8000000:=dE h.len (dE (by rw [e];simp) hl)
   have iS:∀q,pre.getLast?=some q->q.2.1<r.1:=λq hq=>by
    have:=ha.2
    rw [e] at this
    exact (fI.mp this).2.2 q (Hb hq) r cm
   rcases Hf ms with rfl | ⟨ns,a,e2⟩
   .walk_at "vc"
    simp only [zC,List.isEmpty_nil,GL,oB,false_implies,true_implies,true_and]
    rw [Dt]
    walk_at "vc"
    have:=h.append qY BI (λ_ z=>nomatch z)
    exact ⟨_,_,[fo r],rfl,this⟩
   .have e2:ms=ns++[a]:=by simpa using e2
    subst e2
    have yz:pre≠[]:=λz=>by have:=h.none.mpr z;simp at this
    obtain ⟨q,hq⟩:∃q,pre.getLast?=some q:=⟨pre.getLast yz,MH yz⟩
    have lZ:=h.last a q (by simp) hq
    have bg:=iS q hq
    walk_at "vc"
    have em:(oq Row.d (ns++[a])).isEmpty=false:=by simp
    rw [em,e8,jL,zC,DL.fg,cq a,cq r]
    walk_at "vc"
    refine ⟨λhe=>?_,λhe=>?_⟩
    .have ed:(oq Row.d ns++[D.tup [D.int a.1,D.int a.2.1,D.int a.2.2.1,D.int a.2.2.2]])[(oq Row.d ns++[D.tup [D.int a.1,D.int a.2.1,D.int a.2.2.1,D.int a.2.2.2]]).length-1]?=some (D.tup [D.int a.1,D.int a.2.1,D.int a.2.2.1,D.int a.2.2.2]):=by simp
     rw [ed,Mq]
     walk_at "vc"
     rw [<-cq a,<-cq r,Zg (h.bd a (by simp)).1 BI]
     walk_at "vc"
     have hb2:=(O9 (h.canon.1 a (by simp)) qY he.symm).2.2.2.2.2.2
     simp at hlen
     refine ⟨by decide,by simp;lia,_,_,ns++kD a r,by rw [e8],h.uf qY BI he⟩
    .rw [<-cq a,<-cq r,Dt]
     walk_at "vc"
     simp at hlen
     refine ⟨by simp;lia,_,_,ns++[a]++[fo r],by rw [e8,e8];rfl,h.append qY BI λc hc=>?_⟩
     simp at hc
     subst hc
     exact ⟨by ext lZ bg,he⟩
  .obtain ⟨x2,x3,ms,rfl,h⟩:=h
   walk_at "vc"
   exact ⟨ms,rfl,h⟩
 obtain ⟨s,e,fs,rfl,h⟩:=key
 exact ⟨fs,e,h⟩
theorem Canon.tail{r:Row}{rs:List Row}(h:Canon (r::rs)):Canon rs:=⟨λq hq=>h.1 q (cG _ hq),h.2.tail⟩
structure Met where
 lo:Int
 hi:Int
 a:Row
 b:Row
noncomputable def bN:List Row->List Row->List Met
 | a::as,b::bs=>(if max a.1 b.1<=min a.2.1 b.2.1 then [⟨max a.1 b.1,min a.2.1 b.2.1,a,b⟩] else [])++(if a.2.1<b.2.1 then bN as (b::bs) else bN (a::as) bs)
 | _,_=>[]
termination_by as bs=>as.length+bs.length
theorem AM{bs:List Row}:bN [] bs=[]:=by rw [bN];simp
theorem AS{as:List Row}:bN as []=[]:=by rw [bN];simp
theorem wc{a b:Row}{as bs:List Row}:bN (a::as) (b::bs)=(if max a.1 b.1<=min a.2.1 b.2.1 then [⟨max a.1 b.1,min a.2.1 b.2.1,a,b⟩] else [])++(if a.2.1<b.2.1 then bN as (b::bs) else bN (a::as) bs):=by rw [bN]
theorem nH{m:Met}:∀{n:Nat} {A B:List Row},A.length+B.length<=n->m∈bN A B->m.a∈A/\m.b∈B/\m.lo=max m.a.1 m.b.1/\m.hi=min m.a.2.1 m.b.2.1/\m.lo<=m.hi
 | n,[],B,_,h=>by rw [AM] at h;cases h
 | n,a::as,[],_,h=>by rw [AS] at h;cases h
 | 0,a::as,b::bs,hn,_=>absurd hn (by simp)
 | n+1,a::as,b::bs,hn,h=>by
  rw [wc] at h
  rcases bK.mp h with h | h
  .split at h
   .simp at h;subst h;simp;lia
   .cases h
  .split at h
   .obtain ⟨h1,h2,h3⟩:=nH (n:=n) (by simp at hn ⊢;ext hn) h
    exact ⟨cG _ h1,h2,h3⟩
   .obtain ⟨h1,h2,h3⟩:=nH (n:=n) (by simp at hn ⊢;ext hn) h
    exact ⟨h1,cG _ h2,h3⟩
theorem Ju:∀{n:Nat} {A B:List Row},A.length+B.length<=n->dU A->dU B->(bN A B).Pairwise λm k=>m.hi<k.lo
 | n,[],B,_,_,_=>by rw [AM];exact .nil
 | n,a::as,[],_,_,_=>by rw [AS];exact .nil
 | 0,a::as,b::bs,hn,_,_=>absurd hn (by simp)
 | n+1,a::as,b::bs,hn,ha,hb=>by
  have ta:dU as:=⟨λq hq=>ha.1 q (cG _ hq),(fE.mp ha.2).2⟩
  have tb:dU bs:=⟨λq hq=>hb.1 q (cG _ hq),(fE.mp hb.2).2⟩
  rw [wc]
  refine fI.mpr ⟨?_,?_,λm hm k hk=>?_⟩
  .split<;>simp
  .split
   .exact Ju (n:=n) (by simp at hn ⊢;ext hn) ta hb
   .exact Ju (n:=n) (by simp at hn ⊢;ext hn) ha tb
  .have em:m.hi=min a.2.1 b.2.1:=by
    split at hm
    .simp at hm;subst hm;rfl
    .cases hm
   split at hk
   .obtain ⟨h1,h2,h3,_⟩:=nH (aV _) hk
    have:=(fE.mp ha.2).1 _ h1
    ext em h3 this
   .obtain ⟨h1,h2,h3,_⟩:=nH (aV _) hk
    have:=(fE.mp hb.2).1 _ h2
    ext em h3 this
theorem Jv{x:Int}{a' b':Row}:∀{n:Nat} {A B:List Row},A.length+B.length<=n->dU A->dU B->a'∈A->b'∈B->a'.1<=x->x<=a'.2.1->b'.1<=x->x<=b'.2.1->∃m∈bN A B,m.a=a'/\m.b=b'/\m.lo<=x/\x<=m.hi
 | n,[],B,_,_,_,h,_,_,_,_,_=>by cases h
 | n,a::as,[],_,_,_,_,h,_,_,_,_=>by cases h
 | 0,a::as,b::bs,hn,_,_,_,_,_,_,_,_=>absurd hn (by simp)
 | n+1,a::as,b::bs,hn,ha,hb,h1,h2,x1,x2,x3,x4=>by
  have ta:dU as:=⟨λq hq=>ha.1 q (cG _ hq),(fE.mp ha.2).2⟩
  have tb:dU bs:=⟨λq hq=>hb.1 q (cG _ hq),(fE.mp hb.2).2⟩
  rw [wc]
  by_cases hh:a'=a/\b'=b
  .obtain ⟨rfl,rfl⟩:=hh
   refine ⟨⟨max a'.1 b'.1,min a'.2.1 b'.2.1,a',b'⟩,?_,rfl,rfl,by dsimp only;ext x1 x3,by dsimp only;ext x2 x4⟩
   rw [if_pos (by ext x1 x2 x3 x4)];simp
  .have rest:∃m∈(if a.2.1<b.2.1 then bN as (b::bs) else bN (a::as) bs),m.a=a'/\m.b=b'/\m.lo<=x/\x<=m.hi:=by
    split
    .rename_i bg
     have qf:a'∈as:=by
      rcases bx.mp h1 with e | e
      .rcases bx.mp h2 with e2 | e2
       .exact absurd ⟨e,e2⟩ hh
       .have:=(fE.mp hb.2).1 _ e2
        subst e;ext _ x2 x3 this bg
      .exact e
     exact Jv (n:=n) (by simp at hn ⊢;ext hn) ta hb qf h2 x1 x2 x3 x4
    .rename_i bg
     have yX:b'∈bs:=by
      rcases bx.mp h2 with e | e
      .rcases bx.mp h1 with e2 | e2
       .exact absurd ⟨e2,e⟩ hh
       .have:=(fE.mp ha.2).1 _ e2
        subst e;ext _ x1 x4 this bg
      .exact e
     exact Jv (n:=n) (by simp at hn ⊢;ext hn) ha tb h1 yX x1 x2 x3 x4
   obtain ⟨m,hm,k⟩:=rest
   exact ⟨m,fF _ hm,k⟩
theorem Jj:∀{n:Nat} {A B:List Row},A.length+B.length<=n->(bN A B).length<=A.length+B.length
 | n,[],B,_=>by rw [AM];simp
 | n,a::as,[],_=>by rw [AS];simp
 | 0,a::as,b::bs,hn=>absurd hn (by simp)
 | n+1,a::as,b::bs,hn=>by
  rw [wc,bQ]
  have h1:(if max a.1 b.1<=min a.2.1 b.2.1 then [(⟨max a.1 b.1,min a.2.1 b.2.1,a,b⟩:Met)] else []).length<=1:=by split<;>simp
  by_cases hc:a.2.1<b.2.1
  .have:=Jj (n:=n) (A:=as) (B:=b::bs) (by simp at hn ⊢;ext hn)
   rw [if_pos hc]
   simp at this ⊢;ext h1 this
  .have:=Jj (n:=n) (A:=a::as) (B:=bs) (by simp at hn ⊢;ext hn)
   rw [if_neg hc]
   simp at this ⊢;ext h1 this
theorem YQ{rs:List Row}(h:dU rs){x:Int}{o:Option Int}(k:∀c,Val rs x c↔o=some c):look rs x=o:=by
 cases o with
 | some c=>exact (r6 h).mpr ((k c).mpr rfl)
 | none =>
  cases e:look rs x with
  | none=>rfl
  | some c=>exact nomatch (k c).mp ((r6 h).mp e)
theorem Jr{rs:List Row}(h:dU rs){x c:Int}:Val rs x c↔look rs x=some c:=(r6 h).symm
noncomputable def rP(r:Row)(x:Int):D:=.tup [.int (r.at x),.int r.2.2.2]
theorem Nn(r:Row)(x:Int):rP r x=.tup [.int (r.at x),.int r.2.2.2]:=rfl
noncomputable def Met.d(m:Met):D:=.tup [.int m.lo,.int m.hi,rP m.a m.lo,rP m.b m.lo]
theorem xX(m:Met):Met.d m=.tup [.int m.lo,.int m.hi,rP m.a m.lo,rP m.b m.lo]:=rfl
theorem NM{r:Row}{x:Int}(h1:-(10^250)<=r.2.2.2)(h2:r.2.2.2<=10^250)(h3:-(10^250)<=x-r.1)(h4:x-r.1<=10^250):wt [r.d,.int x]=some (.sh (rP r x)):=by
 refine Wo.eq (jT.mpr ?_)
 unfold JO
 walk_at "vc"
 rw [I9 h1 h2 h3 h4,cq]
 walk_at "vc"
 rfl
theorem ze{A B:List Row}(ha:∀r∈A,aw (10^200) r)(hb:∀r∈B,aw (10^200) r)(l1:A.length<=400000)(l2:B.length<=400000):AA [.tup (A.map Row.d),.tup (B.map Row.d)]=some (.ow ((bN A B).map Met.d)):=by
 refine Wo.eq (Bd.mpr ?_)
 unfold HN
 walk_at "v1"
 rw [O0]
 refine DH (λn env=>∃x5 x6 x7 x8,∃(f s:Nat) (ms:List Met),env=[.sh (.tup (A.map Row.d)),.sh (.tup (B.map Row.d)),.ow (ms.map Met.d),.sh (.int f),.sh (.int s),x5,x6,x7,x8]/\n=(A.length-f)+(B.length-s)/\f<=A.length/\s<=B.length/\ms.length<=f+s/\ms++bN (A.drop f) (B.drop s)=bN A B) (λn env h=>?_) _ (A.length+B.length) (show A.length+B.length<1000000 by ext l1 l2) ⟨_,_,_,_,0,0,[],rfl,by simp,by simp,by simp,by simp,rfl⟩
 obtain ⟨x5,x6,x7,x8,f,s,ms,rfl,rfl,hf,hs,tD,e⟩:=h
 walk_at "v1"
 rw [bB,bB]
 refine ⟨λh1=>⟨λh2=>?_,λh2=>?_⟩,λh1=>?_⟩
 .have qf:f<A.length:=by ext h1
  have yX:s<B.length:=by ext h2
  have d1:A.drop f=A[f]::A.drop (f+1):=mK qf
  have d2:B.drop s=B[s]::B.drop (s+1):=mK yX
  have b1:=ha A[f] (nr qf)
  have b2:=hb B[s] (nr yX)
  rw [O1 qf,O1 yX]
  generalize A[f]=a at *
  generalize B[s]=b at *
  rw [d1,d2,wc] at e
  unfold aw at b1 b2
  have ea:=NM (r:=a) (x:=max a.1 b.1) (by ext b1) (by ext b1) (by ext) (by ext b1 b2)
  have eb:=NM (r:=b) (x:=max a.1 b.1) (by ext b2) (by ext b2) (by ext) (by ext b1 b2)
  rw [cq] at ea eb
  rw [cq,cq]
  walk_at "v1"
  rw [a2b]
  walk_at "v1"
  rw [ea,eb]
  walk_at "v1"
  rw [bB]
  refine ⟨λhc=>⟨by ext l1 l2 tD h1 h2,?_⟩,λhc=>?_⟩
  .rw [if_pos hc] at e
   rw [a2b]
   walk_at "vc"
   refine ⟨λh3=>?_,λh3=>?_⟩
   .rw [if_pos h3,<-d2] at e
    exact ⟨(A.length-(f+1))+(B.length-s),by ext h1,_,_,_,_,f+1,s,ms++[⟨max a.1 b.1,min a.2.1 b.2.1,a,b⟩],by rw [e8];rfl,rfl,by ext h1,hs,by simp;ext tD,by rw [e9];exact e⟩
   .rw [if_neg h3,<-d1] at e
    exact ⟨(A.length-f)+(B.length-(s+1)),by ext h2,_,_,_,_,f,s+1,ms++[⟨max a.1 b.1,min a.2.1 b.2.1,a,b⟩],by rw [e8];rfl,rfl,hf,by ext h2,by simp;ext tD,by rw [e9];exact e⟩
  .rw [if_neg hc,Cr] at e
   rw [a2b]
   walk_at "vc"
   refine ⟨λh3=>?_,λh3=>?_⟩
   .rw [if_pos h3,<-d2] at e
    exact ⟨(A.length-(f+1))+(B.length-s),by ext h1,_,_,_,_,f+1,s,ms,rfl,rfl,by ext h1,hs,by ext tD,e⟩
   .rw [if_neg h3,<-d1] at e
    exact ⟨(A.length-f)+(B.length-(s+1)),by ext h2,_,_,_,_,f,s+1,ms,rfl,rfl,hf,by ext h2,by ext tD,e⟩
 .have:B.drop s=[]:=pk (by ext h2)
  rw [this,AS,mM] at e
  rw [e]
 .have:A.drop f=[]:=pk (by ext h1)
  rw [this,AM,mM] at e
  rw [e]
noncomputable abbrev Span:=Int×Int
def fO(ss:List Span)(x:Int):Prop:=∃s∈ss,s.1<=x/\x<=s.2
noncomputable def Span.d(s:Span):D:=.tup [.int s.1,.int s.2]
theorem ID(s:Span):Span.d s=.tup [.int s.1,.int s.2]:=rfl
structure bf(pre:List Row)(ss:List Span):Prop where
 ok:∀s∈ss,s.1<=s.2
 apart:ss.Pairwise λa b=>a.2+1<b.1
 tW:∀x,fO ss x↔∃r∈pre,r.1<=x/\x<=r.2.1
 last:ss.getLast?.map (·.2)=pre.getLast?.map (·.2.1)
 head:ss.head?.map (·.1)=pre.head?.map (·.1)
 sum:(ss.map λs=>s.2-s.1+1).sum=total pre
 sub:∀r∈pre,∃s∈ss,s.1<=r.1/\r.2.1<=s.2
 len:ss.length<=pre.length
 ends:∀s∈ss,(∃r∈pre,r.1=s.1)/\∃r∈pre,r.2.1=s.2
theorem bf.nil:bf [] []:=⟨λ_ z=>(nomatch z),.nil,λx=>⟨λ⟨_,z,_⟩=>(nomatch z),λ⟨_,z,_⟩=>(nomatch z)⟩,rfl,rfl,rfl,λ_ z=>(nomatch z),aV _,λ_ z=>(nomatch z)⟩
theorem fO.app{a b:List Span}{x:Int}:fO (a++b) x↔fO a x\/fO b x:=by
 unfold fO
 constructor
 .rintro ⟨s,hs,h⟩
  rcases bK.mp hs with hs | hs
  .exact .inl ⟨s,hs,h⟩
  .exact .inr ⟨s,hs,h⟩
 .rintro (⟨s,hs,h⟩ | ⟨s,hs,h⟩)
  .exact ⟨s,fU _ hs,h⟩
  .exact ⟨s,fF _ hs,h⟩
theorem fO.one{s:Span}{x:Int}:fO [s] x↔s.1<=x/\x<=s.2:=by unfold fO;simp
theorem NW{pre:List Row}{r:Row}{x:Int}:(∃q∈pre++[r],q.1<=x/\x<=q.2.1)↔(∃q∈pre,q.1<=x/\x<=q.2.1)\/(r.1<=x/\x<=r.2.1):=by
 constructor
 .rintro ⟨q,hq,h⟩
  rcases bK.mp hq with hq | hq
  .exact .inl ⟨q,hq,h⟩
  .rw [cJ.mp hq] at h;exact .inr h
 .rintro (⟨q,hq,h⟩ | h)
  .exact ⟨q,fU _ hq,h⟩
  .exact ⟨r,by simp,h⟩
theorem bf.more{pre:List Row}{ss:List Span}{r:Row}(h:bf pre ss)(hr:r.1<=r.2.1)(hf:∀a,ss.getLast?=some a->a.2+1<r.1):bf (pre++[r]) (ss++[(r.1,r.2.1)]):=by
 have hb:∀s∈ss,s.2+1<r.1:=λs hs=>by
  rcases Hf ss with rfl | ⟨ts,t,e⟩
  .cases hs
  .have e:ss=ts++[t]:=by simpa using e
   subst e
   have h1:=hf t (by simp)
   rcases bK.mp hs with hs | hs
   .have:=(fI.mp h.apart).2.2 s hs t (by simp)
    have:=h.ok t (by simp)
    omega
   .rw [cJ.mp hs];exact h1
 refine ⟨λs hs=>?_,fI.mpr ⟨h.apart,nq _ _,λa ha b m8=>?_⟩,λx=>?_,by simp,?_,?_,λq hq=>?_,by have:=h.len;simp;ext this,λs hs=>?_⟩
 .rcases bK.mp hs with hs | hs
  .exact h.ok s hs
  .rw [cJ.mp hs];exact hr
 .rw [cJ.mp m8];exact hb a ha
 .rw [fO.app,fO.one,NW,h.tW]
 .have:=h.head
  cases ss with
  | nil=>cases pre with
   | nil=>rfl
   | cons q qs=>simp at this
  | cons s ts=>cases pre with
   | nil=>simp at this
   | cons q qs=>simpa using this
 .rw [e8,t9,h.sum,uN];unfold total;simp
 .rcases bK.mp hq with hq | hq
  .obtain ⟨s,hs,k⟩:=h.sub q hq
   exact ⟨s,fU _ hs,k⟩
  .rw [cJ.mp hq];exact ⟨_,fF _ cm,gx _,gx _⟩
 .rcases bK.mp hs with hs | hs
  .obtain ⟨⟨a,ha,e1⟩,⟨b,hb,e2⟩⟩:=h.ends s hs
   exact ⟨⟨a,fU _ ha,e1⟩,⟨b,fU _ hb,e2⟩⟩
  .rw [cJ.mp hs];exact ⟨⟨r,by simp,rfl⟩,⟨r,by simp,rfl⟩⟩
theorem bf.glue{pre:List Row}{ss:List Span}{s:Span}{r:Row}(h:bf pre (ss++[s]))(hr:r.1<=r.2.1)(hn:s.2+1=r.1):bf (pre++[r]) (ss++[(s.1,r.2.1)]):=by
 have hs:=h.ok s (by simp)
 have hp:=(fI.mp h.apart)
 refine ⟨λt ht=>?_,fI.mpr ⟨hp.1,nq _ _,λa ha b m8=>?_⟩,λx=>?_,by simp,?_,?_,λq hq=>?_,by have:=h.len;simp at this ⊢;ext this,λt ht=>?_⟩
 .rcases bK.mp ht with ht | ht
  .exact h.ok t (by simp [ht])
  .rw [cJ.mp ht];show s.1<=r.2.1;ext hr hn hs
 .rw [cJ.mp m8];exact hp.2.2 a ha s (by simp)
 .have:=h.tW x
  rw [fO.app,fO.one] at this ⊢
  rw [NW,<-this]
  dsimp only
  constructor
  .rintro (h | h)
   .exact .inl (.inl h)
   .by_cases hx:x<=s.2
    .exact .inl (.inr ⟨h.1,hx⟩)
    .exact .inr ⟨by ext hn hx,h.2⟩
  .rintro ((h | h) | h)
   .exact .inl h
   .exact .inr ⟨h.1,by ext hr hn h⟩
   .exact .inr ⟨by ext hn hs h,h.2⟩
 .have:=h.head
  cases pre with
  | nil=>cases ss<;>simp at this
  | cons q qs=>cases ss with
   | nil=>simpa using this
   | cons t ts=>simpa using this
 .have:=h.sum
  rw [e8,t9] at this ⊢
  rw [uN,<-this]
  unfold total
  simp
  ext hn
 .rcases bK.mp hq with hq | hq
  .obtain ⟨t,ht,k1,k2⟩:=h.sub q hq
   rcases bK.mp ht with ht | ht
   .exact ⟨t,fU _ ht,k1,k2⟩
   .rw [cJ.mp ht] at k1 k2
    exact ⟨_,fF _ cm,k1,by dsimp only;ext hr hn k2⟩
  .rw [cJ.mp hq];exact ⟨_,fF _ cm,by dsimp only;ext hn hs,gx _⟩
 .rcases bK.mp ht with ht | ht
  .obtain ⟨⟨a,ha,e1⟩,⟨b,hb,e2⟩⟩:=h.ends t (by simp [ht])
   exact ⟨⟨a,fU _ ha,e1⟩,⟨b,fU _ hb,e2⟩⟩
  .rw [cJ.mp ht]
   obtain ⟨⟨a,ha,e1⟩,_⟩:=h.ends s (by simp)
   exact ⟨⟨a,fU _ ha,e1⟩,⟨r,by simp,rfl⟩⟩
theorem Oa{rs:List Row}(ha:dU rs)(hl:rs.length<=8000000):∃ss:List Span,uT [.tup (rs.map Row.d)]=some (.sh (.tup (ss.map Span.d)))/\bf rs ss:=by
 have key:Wo (uT [.tup (rs.map Row.d)]) λs=>∃ss:List Span,s=.sh (.tup (ss.map Span.d))/\bf rs ss:=by
  refine lL.mpr ?_
  unfold Ka
  walk_at "vc"
  refine nI Row.d (λpre env=>∃x2 x3,∃ss:List Span,env=[.sh (.tup (rs.map Row.d)),.ow (ss.map Span.d),x2,x3]/\bf pre ss) rs (λpre r post env e h=>?_) (λenv h=>?_) ⟨_,_,[],rfl,bf.nil⟩
  .obtain ⟨x2,x3,ss,rfl,h⟩:=h
   have hr:r∈rs:=by rw [e];simp
   have qY:=ha.1 r hr
   have hlen:ss.length<=8000000:=dE h.len (dE (by rw [e];simp) hl)
   rcases Hf ss with rfl | ⟨ts,a,e2⟩
   .rw [cq r]
    walk_at "vc"
    simp only [zC,List.isEmpty_nil,GL,oB,false_implies,true_implies,true_and]
    walk_at "vc"
    exact ⟨_,_,[(r.1,r.2.1)],rfl,h.more qY (λ_ z=>nomatch z)⟩
   .have e2:ss=ts++[a]:=by simpa using e2
    subst e2
    have bg:a.2<r.1:=by
     have lY:=h.last
     cases hq:pre.getLast? with
     | none=>rw [hq] at lY;simp at lY
     | some q =>
      rw [hq] at lY
      simp at lY
      have:=ha.2
      rw [e] at this
      have:=(fI.mp this).2.2 q (Hb hq) r cm
      ext lY this
    walk_at "vc"
    have em:(oq Span.d (ts++[a])).isEmpty=false:=by simp
    rw [em,e8,jL,zC,DL.fg,ID a,cq r]
    walk_at "vc"
    simp at hlen
    refine ⟨λhe=>?_,λhe=>?_⟩
    .have ed:(oq Span.d ts++[D.tup [D.int a.1,D.int a.2]])[(oq Span.d ts++[D.tup [D.int a.1,D.int a.2]]).length-1]?=some (D.tup [D.int a.1,D.int a.2]):=by simp
     rw [ed,Mq]
     walk_at "vc"
     refine ⟨by decide,by simp;lia,_,_,ts++[(a.1,r.2.1)],by rw [e8];rfl,h.glue qY he⟩
    .refine ⟨by simp;lia,_,_,ts++[a]++[(r.1,r.2.1)],by rw [e8,e8];rfl,h.more qY λc hc=>?_⟩
     simp at hc
     subst hc
     ext bg he
  .obtain ⟨x2,x3,ss,rfl,h⟩:=h
   walk_at "vc"
   exact ⟨ss,rfl,h⟩
 obtain ⟨s,e,fs,rfl,h⟩:=key
 exact ⟨fs,e,h⟩
noncomputable def ie(r:Row)(lo hi:Int):Row:=(lo,hi,r.at lo,r.2.2.2)
theorem AD{r:Row}{lo hi x:Int}:(ie r lo hi).at x=r.at x:=by unfold ie Row.at;dsimp only;grind
def oO(ss:List Span):Prop:=(∀s∈ss,s.1<=s.2)/\ss.Pairwise λa b=>a.2<b.1
noncomputable def ma(r:Row)(low:Int):List Row:=if low<=r.2.1 then [ie r low r.2.1] else []
noncomputable def mS(r:Row)(low to:Int):List Row:=if low<to then [ie r low (to-1)] else []
noncomputable def cD(r:Row)(low:Int):List Span->List Row×List Span
 | []=>(ma r low,[])
 | s::ss=>if s.1<=r.2.1 then
   (if s.2>r.2.1 then (mS r low s.1++ma r (max low (s.2+1)),s::ss) else (mS r low s.1++(cD r (max low (s.2+1)) ss).1,(cD r (max low (s.2+1)) ss).2))
  else (ma r low,s::ss)
noncomputable def cT:List Row->List Span->List Row
 | [],_=>[]
 | r::rs,ss=>(cD r r.1 ss).1++cT rs (cD r r.1 ss).2
theorem Pr{r:Row}:∀{ss:List Span} {low:Int},r.1<=low->oO ss ->
  (∀q∈(cD r low ss).1,low<=q.1/\q.1<=q.2.1/\q.2.1<=r.2.1/\∀x,q.at x=r.at x)/\((cD r low ss).1.Pairwise λa b=>a.2.1<b.1) /\
  (∀x,(∃q∈(cD r low ss).1,q.1<=x/\x<=q.2.1)↔low<=x/\x<=r.2.1/\¬fO ss x)/\(cD r low ss).2 <:+ ss/\(∀x,r.2.1<x->(fO ss x↔fO (cD r low ss).2 x))/\(cD r low ss).1.length+(cD r low ss).2.length<=ss.length+1
 | [],low,hl,_=>by
  unfold cD ma
  dsimp only
  have hI:∀x,¬fO [] x:=λx ⟨s,h,_⟩=>nomatch h
  split
  .refine ⟨λq hq=>?_,nq _ _,λx=>?_,Cg _,λ_ _=>dP,by simp⟩
   .simp at hq;subst hq;exact ⟨gx _,by unfold ie;dsimp only;lia,gx _,λx=>AD⟩
   .simp [ie,hI]
  .refine ⟨λq hq=>(nomatch hq),.nil,λx=>?_,Cg _,λ_ _=>dP,by simp⟩
   simp;lia
 | s::ss,low,hl,hs=>by
  have yy:=hs.1 s cm
  have ht:oO ss:=⟨λq hq=>hs.1 q (cG _ hq),(fE.mp hs.2).2⟩
  have hp:=(fE.mp hs.2).1
  have hI:∀x,fO (s::ss) x↔(s.1<=x/\x<=s.2)\/fO ss x:=λx=>by unfold fO;simp
  have n8:∀x,x<=s.2->¬fO ss x:=λx hx ⟨t,UO,h1,h2⟩=>by have:=hp t UO;ext hx h1 this
  have lp:∀lo,(∀q∈ma r lo,q.1=lo/\q.2.1=r.2.1/\lo<=r.2.1/\∀x,q.at x=r.at x)/\(ma r lo).length<=1/\(∀x,(∃q∈ma r lo,q.1<=x/\x<=q.2.1)↔lo<=x/\x<=r.2.1):=λlo=>by
   unfold ma
   split
   .refine ⟨λq hq=>?_,by simp,λx=>by simp [ie]⟩
    simp at hq;subst hq;exact ⟨rfl,rfl,by assumption,λx=>AD⟩
   .exact ⟨λq hq=>(nomatch hq),by simp,λx=>by simp;lia⟩
  have fp:(∀q∈mS r low s.1,q.1=low/\q.2.1=s.1-1/\low<s.1/\∀x,q.at x=r.at x)/\(mS r low s.1).length<=1/\(∀x,(∃q∈mS r low s.1,q.1<=x/\x<=q.2.1)↔low<=x/\x<s.1):=by
   unfold mS
   split
   .refine ⟨λq hq=>?_,by simp,λx=>by simp [ie];ext⟩
    simp at hq;subst hq;exact ⟨rfl,rfl,by assumption,λx=>AD⟩
   .exact ⟨λq hq=>(nomatch hq),by simp,λx=>by simp;lia⟩
  have pw:∀(L:List Row),L.length<=1->L.Pairwise λa b=>a.2.1<b.1:=λL hL=>by
   match L,hL with
   | [],_=>exact .nil
   | [_],_=>exact nq _ _
  obtain ⟨f1,f2,f3⟩:=fp
  have app:∀(L M:List Row) x,(∃q∈L++M,q.1<=x/\x<=q.2.1)↔(∃q∈L,q.1<=x/\x<=q.2.1)\/(∃q∈M,q.1<=x/\x<=q.2.1):=λL M x=>by
   constructor
   .rintro ⟨q,hq,k⟩
    rcases bK.mp hq with h | h
    .exact .inl ⟨q,h,k⟩
    .exact .inr ⟨q,h,k⟩
   .rintro (⟨q,hq,k⟩ | ⟨q,hq,k⟩)
    .exact ⟨q,fU _ hq,k⟩
    .exact ⟨q,fF _ hq,k⟩
  unfold cD
  by_cases c1:s.1<=r.2.1
  .rw [if_pos c1]
   by_cases c2:s.2>r.2.1
   .rw [if_pos c2]
    dsimp only
    obtain ⟨l1,l2,l3⟩:=lp (max low (s.2+1))
    refine ⟨λq hq=>?_,fI.mpr ⟨pw _ f2,pw _ l2,λa ha b hb=>?_⟩,λx=>?_,Cg _,λ_ _=>dP,?_⟩
    .rcases bK.mp hq with h | h
     .obtain ⟨e1,e2,e3,e4⟩:=f1 q h;exact ⟨by ext e1,by ext e1 e2 e3,by ext c1 e2,e4⟩
     .obtain ⟨e1,e2,e3,e4⟩:=l1 q h;ext _ c2 e3
    .obtain ⟨e1,e2,e3,e4⟩:=l1 b hb;ext c2 e3
    .rw [app,f3,l3,hI]
     have:=n8 x
     constructor
     .rintro (h | h)
      .exact ⟨by ext h,by ext c1 h,λz=>z.elim (by ext h) (this (by ext c1 c2 h))⟩
      .ext _ c2 h
     .intro ⟨h1,h2,h3⟩
      by_cases hx:x<s.1
      .exact .inl ⟨h1,hx⟩
      .exact absurd (.inl ⟨by ext hx,by ext c2 h2⟩) h3
    .have e:((mS r low s.1++ma r (max low (s.2+1)))).length<=1:=by
      have:ma r (max low (s.2+1))=[]:=by unfold ma;rw [if_neg (by ext c2)]
      rw [this];simpa using f2
     simp at e ⊢;ext e
   .rw [if_neg c2]
    dsimp only
    obtain ⟨i1,i2,i3,i4,i5,i6⟩:=Pr (r:=r) (ss:=ss) (low:=max low (s.2+1)) (by ext hl) ht
    refine ⟨λq hq=>?_,fI.mpr ⟨pw _ f2,i2,λa ha b hb=>?_⟩,λx=>?_,i4.trans (List.suffix_cons _ _),λx hx=>?_,?_⟩
    .rcases bK.mp hq with h | h
     .obtain ⟨e1,e2,e3,e4⟩:=f1 q h;exact ⟨by ext e1,by ext e1 e2 e3,by ext c1 e2,e4⟩
     .obtain ⟨e1,e2,e3,e4⟩:=i1 q h;exact ⟨by ext e1,e2,e3,e4⟩
    .obtain ⟨e1,e2,e3,e4⟩:=f1 a ha;have g1:=(i1 b hb).1;show a.2.1<b.1;ext yy e2 g1
    .rw [app,f3,i3,hI]
     have:=n8 x
     constructor
     .rintro (h | ⟨h1,h2,h3⟩)
      .exact ⟨by ext h,by ext c1 h,λz=>z.elim (by ext h) (this (by ext yy h))⟩
      .exact ⟨by ext h1,h2,λz=>z.elim (by ext h1) h3⟩
     .intro ⟨h1,h2,h3⟩
      by_cases hx:x<s.1
      .exact .inl ⟨h1,hx⟩
      .have h4:¬x<=s.2:=λz=>h3 (.inl ⟨by ext hx,z⟩)
       exact .inr ⟨by ext h1 h4,h2,λz=>h3 (.inr z)⟩
    .rw [hI,<-i5 x hx]
     exact ⟨λz=>z.elim (by lia) id,.inr⟩
    .simp at i6 ⊢;ext f2 i6
  .rw [if_neg c1]
   dsimp only
   obtain ⟨l1,l2,l3⟩:=lp low
   refine ⟨λq hq=>?_,pw _ l2,λx=>?_,Cg _,λ_ _=>dP,by simp;ext l2⟩
   .obtain ⟨e1,e2,e3,e4⟩:=l1 q hq;exact ⟨by ext e1,by ext e1 e2 e3,by ext e2,e4⟩
   .rw [l3,hI]
    have:=n8 x
    constructor
    .intro h
     exact ⟨h.1,h.2,λz=>z.elim (by ext c1 h) (this (by ext yy c1 h))⟩
    .intro h;exact ⟨h.1,h.2.1⟩
theorem JH:∀{rs:List Row} {ss:List Span},dU rs->oO ss->dU (cT rs ss)/\(∀q∈cT rs ss,∃r∈rs,r.1<=q.1/\q.2.1<=r.2.1/\q.2.2.1=r.at q.1/\q.2.2.2=r.2.2.2)/\(∀x c,Val (cT rs ss) x c↔Val rs x c/\¬fO ss x)/\(cT rs ss).length<=rs.length+ss.length
 | [],ss,_,_=>⟨⟨λ_ z=>(nomatch z),.nil⟩,λ_ z=>(nomatch z),λx c=>⟨λ⟨_,z,_⟩=>(nomatch z),λ⟨⟨_,z,_⟩,_⟩=>(nomatch z)⟩,by simp [cT]⟩
 | r::rs,ss,ha,hs=>by
  have ta:dU rs:=⟨λq hq=>ha.1 q (cG _ hq),(fE.mp ha.2).2⟩
  have hp:=(fE.mp ha.2).1
  obtain ⟨i1,i2,i3,i4,i5,i6⟩:=Pr (r:=r) (ss:=ss) (gx _) hs
  unfold cT
  generalize (cD r r.1 ss).1=P at *
  generalize (cD r r.1 ss).2=tt at *
  have kj:oO tt:=⟨λq hq=>hs.1 q (i4.subset hq),hs.2.sublist i4.sublist⟩
  obtain ⟨j1,j2,j3,j4⟩:=JH ta kj
  refine ⟨⟨λq hq=>?_,fI.mpr ⟨i2,j1.2,λa Vh b hb=>?_⟩⟩,λq hq=>?_,λx c=>?_,?_⟩
  .rcases bK.mp hq with h | h
   .exact (i1 q h).2.1
   .exact j1.1 q h
  .obtain ⟨q,hq,k1,k2,_⟩:=j2 b hb
   have:=hp q hq
   have:=i1 a Vh
   show a.2.1<b.1
   lia
  .rcases bK.mp hq with h | h
   .obtain ⟨k1,k2,k3,k4⟩:=i1 q h
    refine ⟨r,cm,k1,k3,?_,?_⟩
    .rw [<-k4];unfold Row.at;rw [GC,B8,B7]
    .have e1:=k4 q.1
     have e2:=k4 (q.1+1)
     unfold Row.at at e1 e2
     grind
   .obtain ⟨r',tu,k⟩:=j2 q h
    exact ⟨r',cG _ tu,k⟩
  .rw [Val.app,j3]
   have e0:Val (r::rs) x c↔(r.1<=x/\x<=r.2.1/\c=r.at x)\/Val rs x c:=by unfold Val;simp
   have eP:Val P x c↔(r.1<=x/\x<=r.2.1/\¬fO ss x)/\c=r.at x:=by
    rw [<-i3 x]
    constructor
    .rintro ⟨q,hq,h1,h2,h3⟩
     exact ⟨⟨q,hq,h1,h2⟩,by rw [h3,(i1 q hq).2.2.2]⟩
    .rintro ⟨⟨q,hq,h1,h2⟩,h3⟩
     exact ⟨q,hq,h1,h2,by rw [h3,(i1 q hq).2.2.2]⟩
   rw [eP,e0]
   have yf:Val rs x c->r.2.1<x:=λ⟨q,hq,h1,_⟩=>by have:=hp q hq;ext h1 this
   constructor
   .rintro (⟨⟨h1,h2,h3⟩,h4⟩ | ⟨h1,h2⟩)
    .exact ⟨.inl ⟨h1,h2,h4⟩,h3⟩
    .exact ⟨.inr h1,λz=>h2 ((i5 x (yf h1)).mp z)⟩
   .rintro ⟨⟨h1,h2,h3⟩ | h1,h4⟩
    .exact .inl ⟨⟨h1,h2,h4⟩,h3⟩
    .exact .inr ⟨h1,λz=>h4 ((i5 x (yf h1)).mpr z)⟩
  .simp at i6 j4 ⊢;ext i6 j4
theorem Na{r:Row}{lo hi:Int}(h1:-(10^250)<=r.2.2.2)(h2:r.2.2.2<=10^250)(h3:-(10^250)<=lo-r.1)(h4:lo-r.1<=10^250):wb [r.d,.int lo,.int hi]=some (.sh (ie r lo hi).d):=by
 refine Wo.eq (Bf.mpr ?_)
 unfold HL
 walk_at "vc"
 rw [I9 h1 h2 h3 h4,cq]
 walk_at "vc"
 rfl
theorem Zt{ss:List Span}{n:Nat}(h:n<ss.length):dQ (ss.map Span.d) (n:Int)=some (Span.d ss[n]):=by
 rw [DL.cn];simp [h]
def D8(s:Span):Prop:=(-(10^200)<=s.1/\s.1<=10^200)/\(-(10^200)<=s.2/\s.2<=10^200)
theorem Pg{rs:List Row}{ss:List Span}(hb:∀r∈rs,aw (10^200) r)(hs:∀s∈ss,D8 s)(l1:rs.length<=400000)(l2:ss.length<=400000):wx [.tup (rs.map Row.d),.tup (ss.map Span.d)]=some (.ow ((cT rs ss).map Row.d)):=by
 refine Wo.eq (mV.mpr ?_)
 unfold Jh
 walk_at "v1"
 refine nI Row.d (λpre env=>∃x4 x5,∃(done post:List Row) (pl:Nat),env=[.sh (.tup (rs.map Row.d)),.sh (.tup (ss.map Span.d)),.ow (done.map Row.d),.sh (.int pl),x4,x5]/\rs=pre++post/\pl<=ss.length/\done.length<=2*pre.length+pl/\done++cT post (ss.drop pl)=cT rs ss) rs (λpre r post env e h=>?_) (λenv h=>?_) ⟨_,_,[],rs,0,rfl,rfl,by simp,by simp,rfl⟩
 .obtain ⟨x4,x5,done,nT,pl,rfl,e0,dO,tK,iT⟩:=h
  obtain rfl:nT=r::post:=Mh (e0.symm.trans e)
  have iS:pre.length<=400000:=by have:=congrArg nk e;simp at this;ext l1 this
  have oY:=hb r (by rw [e];simp)
  unfold aw at oY
  rw [cq r]
  walk_at "v1"
  rw [O0,<-cq r]
  refine Wo.mono (P:=λy=>y.1=.nx/\∃(d3:List Row) (p3:Nat) (lw:Int),y.2=[.sh (.tup (rs.map Row.d)),.sh (.tup (ss.map Span.d)),.ow (d3.map Row.d),.sh (.int p3),.sh r.d,.sh (.int lw)]/\p3<=ss.length/\d3.length<=2*pre.length+p3+1/\(-(10^200)<=lw/\lw<=10^200+1)/\d3++ma r lw=done++(cD r r.1 (ss.drop pl)).1/\ss.drop p3=(cD r r.1 (ss.drop pl)).2) ?_ (λy hy=>?_)
  .refine DH (λn env=>∃(d2:List Row) (p2:Nat) (lw:Int),env=[.sh (.tup (rs.map Row.d)),.sh (.tup (ss.map Span.d)),.ow (d2.map Row.d),.sh (.int p2),.sh r.d,.sh (.int lw)]/\n=ss.length-p2/\p2<=ss.length/\d2.length<=2*pre.length+p2/\(-(10^200)<=lw/\lw<=10^200+1)/\d2++(cD r lw (ss.drop p2)).1=done++(cD r r.1 (ss.drop pl)).1/\(cD r lw (ss.drop p2)).2=(cD r r.1 (ss.drop pl)).2) (λn env h=>?_) _ (ss.length-pl) (show ss.length-pl<1000000 by ext l2) ⟨done,pl,r.1,rfl,rfl,dO,tK,by ext oY,rfl,rfl⟩
   obtain ⟨d2,p2,lw,rfl,rfl,Fv,hd2,qa,o1,o2⟩:=h
   have oi:=λhi=>Na (r:=r) (lo:=lw) (hi:=hi) (by ext oY) (by ext oY) (by ext oY qa) (by ext oY qa)
   rw [cq] at oi ⊢
   walk_at "v1"
   rw [bB]
   refine ⟨λh1=>?_,λh1=>?_⟩
   .have qf:p2<ss.length:=by ext h1
    have dd:ss.drop p2=ss[p2]::ss.drop (p2+1):=mK qf
    have yR:=hs ss[p2] (nr qf)
    have yT:=Zt qf
    rw [yT]
    generalize ss[p2]=s at *
    unfold D8 at yR
    rw [dd,cD] at o1 o2
    rw [ID]
    walk_at "v1"
    refine ⟨λh2=>?_,λh2=>?_⟩
    .rw [if_pos h2] at o1 o2
     walk_at "v1"
     rw [ID] at yT
     refine Wo.mono (P:=λy=>y=(.nx,[.sh (.tup (rs.map Row.d)),.sh (.tup (ss.map Span.d)),.ow ((d2++mS r lw s.1).map Row.d),.sh (.int p2),.sh (.tup [.int r.1,.int r.2.1,.int r.2.2.1,.int r.2.2.2]),.sh (.int lw)])) ?_ (λy hy=>?_)
     .walk_at "vc"
      rw [yT]
      walk_at "vc"
      rw [oi]
      walk_at "vc"
      rw [bB]
      unfold mS
      refine ⟨λh=>⟨by ext l2 iS hd2 h1,?_⟩,λh=>?_⟩
      .rw [if_pos h,e8];rfl
      .rw [if_neg h,mM]
     .subst hy
      have yK:(mS r lw s.1).length<=1:=by unfold mS;split<;>simp
      walk_at "v1"
      rw [yT]
      walk_at "v1"
      rw [a2b]
      walk_at "vc"
      rw [yT]
      walk_at "vc"
      refine ⟨λh3=>?_,λh3=>?_⟩
      .rw [if_pos h3] at o1 o2
       exact ⟨d2++mS r lw s.1,p2,max lw (s.2+1),rfl,Fv,by simp;ext hd2 yK,by ext qa yR,by rw [e9];exact o1,by rw [dd];exact o2⟩
      .rw [if_neg h3] at o1 o2
       exact ⟨ss.length-(p2+1),by ext h1,d2++mS r lw s.1,p2+1,max lw (s.2+1),rfl,rfl,by ext h1,by simp;ext hd2 yK,by ext qa yR,by rw [e9];exact o1,o2⟩
    .rw [if_neg h2] at o1 o2
     exact ⟨d2,p2,lw,rfl,Fv,by ext hd2,qa,o1,by rw [dd];exact o2⟩
   .have dd:ss.drop p2=[]:=pk (by ext h1)
    rw [dd,cD] at o1 o2
    exact ⟨d2,p2,lw,rfl,Fv,by ext hd2,qa,o1,by rw [dd];exact o2⟩
  .obtain ⟨fl,ak⟩:=y
   obtain ⟨h1,d3,p3,lw,h2,vi,FR,qa,o1,o2⟩:=hy
   dsimp only at h1 h2
   subst h1 h2
   have oi:=Na (r:=r) (lo:=lw) (hi:=r.2.1) (by ext oY) (by ext oY) (by ext oY qa) (by ext oY qa)
   rw [cq] at oi ⊢
   walk_at "vc"
   rw [oi]
   walk_at "vc"
   rw [bB]
   rw [cT,<-o2,<-e9,<-o1] at iT
   refine ⟨λh=>⟨by ext l2 iS vi FR,_,_,d3++[ie r lw r.2.1],post,p3,by rw [e8];rfl,by rw [e];simp,vi,by simp;ext FR,?_⟩,λh=>⟨_,_,d3,post,p3,rfl,by rw [e];simp,vi,by simp;ext FR,?_⟩⟩
   .rw [ma,if_pos h] at iT
    exact iT
   .rw [ma,if_neg h,mM] at iT
    exact iT
 .obtain ⟨x4,x5,done,nT,pl,rfl,e0,dO,tK,iT⟩:=h
  have:nT=[]:=by simpa using e0
  subst this
  walk_at "vc"
  rw [<-iT];simp [cT]
theorem px{c:En->Option Bool}{F:SF}{env:En}{Q:Fl×En->Prop}(hc:Wo (c env) λb=>b=false)(h:Q (.nx,env)):Wo (cc c F cK env) Q:=by
 rw [a2b]
 exact hc.mono λb hb=>⟨λz=>(by rw [hb] at z;cases z),λ_=>(by rw [b5j];exact h)⟩
noncomputable abbrev j8:=Int×Int
noncomputable def j8.at(l:j8)(low x:Int):Int:=l.1+l.2*(x-low)
noncomputable def dI:Int->List Row->Int->Prop
 | at_,[],e=>at_=e
 | at_,r::rs,e=>r.1=at_/\at_<=r.2.1/\dI (r.2.1+1) rs e
theorem dI.le:∀{rs:List Row} {a e:Int},dI a rs e->a<=e
 | [],_,_,h=>Int.le_of_eq h
 | r::rs,a,e,h=>by have:=h.2.2.le;have:=h.2.1;lia
theorem dI.mem:∀{rs:List Row} {a e:Int} {r:Row},dI a rs e->r∈rs->a<=r.1/\r.1<=r.2.1/\r.2.1<e
 | [],_,_,_,_,h=>nomatch h
 | r::rs,a,e,q,h,k=>by
  obtain ⟨h1,h2,h3⟩:=h
  have:=h3.le
  rcases bx.mp k with rfl | k
  .ext h1 h2 this
  .have:=h3.mem k;ext h2 this
noncomputable def jC(l:j8)(low:Int)(r:Row):List Row:=n0 r.2.2.1 r.2.2.2 (l.at low r.1) l.2 r.1 r.2.1
theorem Yy{l:j8}{low:Int}{r:Row}(h:r.1<=r.2.1):dI r.1 (jC l low r) (r.2.1+1)/\(∀q∈jC l low r,(q.2.2.2=r.2.2.2\/q.2.2.2=l.2)/\r.1<=q.1/\q.2.1<=r.2.1/\∀x,q.1<=x->x<=q.2.1->q.at x=min (r.at x) (l.at low x)) /\
  (jC l low r).length<=2/\((∀x,r.1<=x->x<=r.2.1->r.at x<=l.at low x)->(jC l low r).length=1)/\((∀x,r.1<=x->x<=r.2.1->l.at low x<r.at x)->(jC l low r).length=1):=by
 obtain ⟨f,g,c,s⟩:=r
 dsimp only at h
 have sp:=OC (a:=c-l.at low f) (s:=s-l.2) (low:=f) (high:=g) h
 have gap:∀x,c-l.at low f+(s-l.2)*(x-f)=Row.at (f,g,c,s) x-l.at low x:=λx=>by unfold Row.at j8.at;dsimp only;grind
 have v1:∀a b x,Row.at (gf c s f a b) x=Row.at (f,g,c,s) x:=λa b x=>by unfold Row.at gf;dsimp only;grind
 have v2:∀a b x,Row.at (gf (l.at low f) l.2 f a b) x=l.at low x:=λa b x=>by unfold Row.at gf j8.at;dsimp only;grind
 simp only [gap] at sp
 unfold jC n0
 dsimp only
 cases kX:nd (c-l.at low f) (s-l.2) f g with
 | none =>
  rw [kX] at sp
  refine ⟨⟨rfl,h,rfl⟩,λq hq=>?_,by simp,λ_=>rfl,λ_=>rfl⟩
  obtain rfl:=cJ.mp hq
  refine ⟨.inr rfl,gx _,gx _,λx h1 h2=>?_⟩
  rw [v2]
  have:=sp x h1 h2
  ext this
 | some fl =>
  obtain ⟨a,b⟩:=fl
  rw [kX] at sp
  obtain ⟨⟨q1,q2,q3,q4⟩,q5⟩:=sp
  have A:∀x,a<=x->x<=b->Row.at (gf c s f a b) x=min (Row.at (f,g,c,s) x) (l.at low x):=λx h1 h2=>by
   rw [v1];have:=(q5 x (by ext q1 h1) (by ext q3 h2)).mpr ⟨h1,h2⟩;ext this
  have B:∀a' b' x,f<=x->x<=g->¬(a<=x/\x<=b)->Row.at (gf (l.at low f) l.2 f a' b') x=min (Row.at (f,g,c,s) x) (l.at low x):=λa' b' x h1 h2 h3=>by
   rw [v2];have:=(not_congr (q5 x h1 h2)).mpr h3;ext this
  dsimp only
  by_cases hf:f<a
  .have hl:¬b<g:=by ext q4 hf
   rw [if_pos hf,if_neg hl]
   refine ⟨⟨rfl,by show f<=a-1;ext hf,⟨by show a=a-1+1;ext,by show a-1+1<=b;ext q2,by show b+1=g+1;ext q3 hl⟩⟩,λq hq=>?_,by simp,λz=>?_,λz=>?_⟩
   .simp at hq
    rcases hq with rfl | rfl
    .exact ⟨.inr rfl,gx _,by show a-1<=g;ext q2 q3,λx h1 h2=>B _ _ x h1 (by have:x<=a-1:=h2;ext q2 q3 this) (by have:x<=a-1:=h2;ext this)⟩
    .exact ⟨.inl rfl,by show f<=a;ext q1,by show b<=g;ext q3,λx h1 h2=>A x h1 h2⟩
   .exfalso;have:=(not_congr (q5 f (by ext) (by ext h))).mpr (by ext hf);have:=z f (by ext) (by ext h);lia
   .exfalso;have:=(q5 a (by ext q1) (by ext q2 q3)).mpr (by ext q2);have:=z a (by ext q1) (by ext q2 q3);lia
  .have LB:a=f:=by ext q1 hf
   rw [if_neg hf]
   by_cases hl:b<g
   .rw [if_pos hl]
    refine ⟨⟨LB,by show f<=b;ext q1 q2,⟨rfl,by show b+1<=g;ext hl,rfl⟩⟩,λq hq=>?_,by simp,λz=>?_,λz=>?_⟩
    .simp at hq
     rcases hq with rfl | rfl
     .exact ⟨.inl rfl,by show f<=a;ext q1,by show b<=g;ext q3,λx h1 h2=>A x h1 h2⟩
     .exact ⟨.inr rfl,by show f<=b+1;ext q1 q2,gx _,λx h1 h2=>B _ _ x (by have:b+1<=x:=h1;ext q1 q2 this) h2 (by have:b+1<=x:=h1;ext this)⟩
    .exfalso;have:=(not_congr (q5 g (by ext h) (by ext))).mpr (by ext hl);have:=z g (by ext h) (by ext);lia
    .exfalso;have:=(q5 a (by ext q1) (by ext h hf)).mpr (by ext q2);have:=z a (by ext q1) (by ext h hf);lia
   .rw [if_neg hl]
    refine ⟨⟨LB,by show f<=b;ext h hl,by show b+1=g+1;ext q3 hl⟩,λq hq=>?_,by simp,λ_=>rfl,λ_=>rfl⟩
    simp at hq
    subst hq
    exact ⟨.inl rfl,by show f<=a;ext q1,by show b<=g;ext q3,λx h1 h2=>A x h1 h2⟩
theorem dI.tW:∀{rs:List Row} {a e x:Int},dI a rs e->a<=x->x<e->∃q∈rs,q.1<=x/\x<=q.2.1
 | [],a,e,x,h,h1,h2=>by have:a=e:=h;ext _ h1 h2 this
 | r::rs,a,e,x,⟨h1,h2,h3⟩,k1,k2=>by
  by_cases hx:x<=r.2.1
  .exact ⟨r,cm,by ext h1 k1,hx⟩
  .obtain ⟨q,hq,k⟩:=h3.tW (x:=x) (by ext hx) k2
   exact ⟨q,cG _ hq,k⟩
theorem dI.dq:∀{rs:List Row} {a e:Int},dI a rs e->rs.Pairwise λp q=>p.2.1<q.1
 | [],_,_,_=>.nil
 | r::rs,a,e,⟨h1,h2,h3⟩=>fE.mpr ⟨λq hq=>by have:=h3.mem hq;ext this,h3.dq⟩
def jI(a b:Row):Prop:=a.2.1<b.1\/b.2.1<a.1
theorem Pp:∀rs:List Row,Af (rs.map Row.d)=some (rs.map λr=>(r.1,Row.d r))
 | []=>rfl
 | r::rs=>by
  rw [jL,Af,Pp rs]
  rfl
theorem a9C{rs:List Row}(hv:∀r∈rs,r.1<=r.2.1)(hd:rs.Pairwise jI)(fA:rs.length<lE):∃ts:List Row,vY (rs.map Row.d)=some (ts.map Row.d)/\dU ts/\(∀x c,Val ts x c↔Val rs x c)/\ts.Perm rs:=by
 have bo:(rs.map (·.1)).Nodup:=by
  rw [List.Nodup,rE]
  refine hd.imp_of_mem λ{a b} ha hb h=>?_
  have:=hv a ha;have:=hv b hb
  unfold jI at h
  lia
 obtain ⟨ts,t1,t2⟩:=Pu (MD (rs.map λr=>(r.1,Row.d r)) λa b=>decide (a.1<=b.1))
 have hle:ts.Pairwise λa b=>a.1<=b.1:=by
  have:=Mj (le:=λa b:Int×D=>decide (a.1<=b.1)) (λa b c h1 h2=>by simp at *;ext h1 h2) (λa b=>by simp;ext) (rs.map λr=>(r.1,Row.d r))
  rw [<-t2,rE] at this
  exact this.imp λ{x y} z=>by simpa using z
 have q8:ts.Pairwise jI:=(t1.pairwise_iff (λ{a b} h=>by unfold jI at *;ext h)).mpr hd
 have Fi:∀r∈ts,r.1<=r.2.1:=λr hr=>hv r (t1.subset hr)
 refine ⟨ts,?_,⟨Fi,?_⟩,λx c=>?_,t1⟩
 .unfold vY
  rw [Pp,uk,if_pos ⟨by rw [jh];exact bo,by rw [bB];exact fA⟩,<-t2,jh]
  rfl
 .refine (hle.and q8).imp_of_mem λ{a b} ha hb h=>?_
  have:=Fi a ha;have:=Fi b hb
  obtain ⟨h1,h2⟩:=h
  unfold jI at h2
  ext this h1 h2
 .unfold Val
  exact ⟨λ⟨r,hr,k⟩=>⟨r,t1.subset hr,k⟩,λ⟨r,hr,k⟩=>⟨r,t1.symm.subset hr,k⟩⟩
noncomputable def fy(m:Met):List Row:=n0 (m.a.at m.lo) m.a.2.2.2 (m.b.at m.lo) m.b.2.2.2 m.lo m.hi
theorem rX{m:Met}(h:m.lo<=m.hi):dI m.lo (fy m) (m.hi+1)/\(∀q∈fy m,(q.2.2.2=m.a.2.2.2\/q.2.2.2=m.b.2.2.2)/\m.lo<=q.1/\q.2.1<=m.hi/\∀x,q.1<=x->x<=q.2.1->q.at x=min (m.a.at x) (m.b.at x))/\(fy m).length<=2:=by
 obtain ⟨h1,h2,h3,_⟩:=Yy (l:=(m.b.at m.lo,m.b.2.2.2)) (low:=m.lo) (r:=(m.lo,m.hi,m.a.at m.lo,m.a.2.2.2)) h
 have e0:jC (m.b.at m.lo,m.b.2.2.2) m.lo (m.lo,m.hi,m.a.at m.lo,m.a.2.2.2)=fy m:=by
  unfold jC fy j8.at
  dsimp only
  rw [GC,B8,B7]
 rw [e0] at h1 h2 h3
 refine ⟨h1,λq hq=>?_,h3⟩
 obtain ⟨k1,k2,k3,k4⟩:=h2 q hq
 refine ⟨k1,k2,k3,λx x1 x2=>?_⟩
 rw [k4 x x1 x2]
 have e1:Row.at (m.lo,m.hi,m.a.at m.lo,m.a.2.2.2) x=m.a.at x:=AD (r:=m.a) (lo:=m.lo) (hi:=m.hi)
 have e2:j8.at (m.b.at m.lo,m.b.2.2.2) m.lo x=m.b.at x:=AD (r:=m.b) (lo:=m.lo) (hi:=m.hi)
 rw [e1,e2]
noncomputable def gn(A B:List Row):List Row:=(bN A B).flatMap fy
theorem Jt{A B:List Row}{q:Row}(h:q∈gn A B):∃m∈bN A B,q∈fy m/\m.a∈A/\m.b∈B/\m.lo=max m.a.1 m.b.1/\m.hi=min m.a.2.1 m.b.2.1/\m.lo<=q.1/\q.1<=q.2.1/\q.2.1<=m.hi/\(q.2.2.2=m.a.2.2.2\/q.2.2.2=m.b.2.2.2)/\∀x,q.1<=x->x<=q.2.1->q.at x=min (m.a.at x) (m.b.at x):=by
 obtain ⟨m,hm,hq⟩:=zH.mp h
 obtain ⟨k1,k2,k3,k4,k5⟩:=nH (aV _) hm
 obtain ⟨c1,c2,_⟩:=rX k5
 have:=c1.mem hq
 obtain ⟨d1,d2,d3,d4⟩:=c2 q hq
 exact ⟨m,hm,hq,k1,k2,k3,k4,d2,this.2.1,d3,d1,d4⟩
theorem ZL{A B:List Row}(ha:dU A)(hb:dU B):dU (gn A B)/\∀x c,Val (gn A B) x c↔∃p q,look A x=some p/\look B x=some q/\c=min p q:=by
 refine ⟨⟨λq hq=>?_,?_⟩,λx c=>⟨λ⟨q,hq,h1,h2,h3⟩=>?_,λ⟨p,q,h1,h2,h3⟩=>?_⟩⟩
 .obtain ⟨m,_,_,_,_,_,_,_,k,_⟩:=Jt hq;exact k
 .unfold gn
  rw [List.pairwise_flatMap]
  refine ⟨λm hm=>?_,?_⟩
  .exact (rX (nH (aV _) hm).2.2.2.2).1.dq
  .refine (Ju (aV _) ha hb).imp_of_mem λ{m k} hm hk h x hx y hy=>?_
   have c1:=(rX (nH (aV _) hm).2.2.2.2).1.mem hx
   have c2:=(rX (nH (aV _) hk).2.2.2.2).1.mem hy
   show x.2.1<y.1
   ext h c1 c2
 .obtain ⟨m,hm,_,k1,k2,k3,k4,k5,k6,k7,_,k8⟩:=Jt hq
  exact ⟨_,_,jR ha k1 (by ext h1 k3 k5) (by ext h2 k4 k7),jR hb k2 (by ext h1 k3 k5) (by ext h2 k4 k7),by rw [h3,k8 x h1 h2]⟩
 .obtain ⟨a,Vk,a1,a2,rfl⟩:=wg h1
  obtain ⟨b,m8,b1,b2,rfl⟩:=wg h2
  obtain ⟨m,hm,rfl,rfl,m1,m2⟩:=Jv (x:=x) (aV _) ha hb Vk m8 a1 a2 b1 b2
  obtain ⟨c1,c2,_⟩:=rX (nH (aV _) hm).2.2.2.2
  obtain ⟨q,hq,q1,q2⟩:=c1.tW (x:=x) m1 (by ext m2)
  exact ⟨q,zH.mpr ⟨m,hm,hq⟩,q1,q2,by rw [h3,(c2 q hq).2.2.2 x q1 q2]⟩
theorem b11(A B:List Row):(gn A B).length<=2*(bN A B).length:=by
 unfold gn
 have:∀ms:List Met,(∀m∈ms,m.lo<=m.hi)->(ms.flatMap fy).length<=2*ms.length:=λms=>by
  induction ms with
  | nil=>intro _;simp
  | cons m ms ih =>
   intro h
   have:=ih λk hk=>h k (cG _ hk)
   have:=(rX (h m cm)).2.2
   rw [vH,bQ,iD]
   lia
 exact this _ λm hm=>(nH (aV _) hm).2.2.2.2
theorem JE:∀{n:Nat} {A B:List Row},A.length+B.length<=n->(bN A B).length=0\/(bN A B).length+1<=A.length+B.length
 | n,[],B,_=>by rw [AM];exact .inl rfl
 | n,a::as,[],_=>by rw [AS];exact .inl rfl
 | 0,a::as,b::bs,hn=>absurd hn (by simp)
 | n+1,a::as,b::bs,hn=>by
  rw [wc,bQ]
  have h1:(if max a.1 b.1<=min a.2.1 b.2.1 then [(⟨max a.1 b.1,min a.2.1 b.2.1,a,b⟩:Met)] else []).length<=1:=by split<;>simp
  by_cases hc:a.2.1<b.2.1
  .have:=JE (n:=n) (A:=as) (B:=b::bs) (by simp at hn ⊢;ext hn)
   rw [if_pos hc]
   simp only [iD] at this ⊢;ext h1 this
  .have:=JE (n:=n) (A:=a::as) (B:=bs) (by simp at hn ⊢;ext hn)
   rw [if_neg hc]
   simp only [iD] at this ⊢;ext h1 this
theorem Zi{A B:List Row}(ha:∀r∈A,aw (10^140) r)(hb:∀r∈B,aw (10^140) r)(l1:A.length<=400000)(l2:B.length<=400000):Bc [.tup (A.map Row.d),.tup (B.map Row.d)]=some (.ow ((gn A B).map Row.d)):=by
 refine Wo.eq (iq.mpr ?_)
 unfold Kz
 walk_at "v1"
 rw [ze (λr hr=>(ha r hr).mono (by decide)) (λr hr=>(hb r hr).mono (by decide)) (by ext l1) (by ext l2)]
 walk_at "v1"
 have tD:=Jj (A:=A) (B:=B) (aV _)
 refine nI Met.d (λpre env=>∃x3 x4 x5 x6,env=[.sh (.tup (A.map Row.d)),.sh (.tup (B.map Row.d)),.ow ((pre.flatMap fy).map Row.d),x3,x4,x5,x6]) (bN A B) (λpre m post env e h=>?_) (λenv h=>?_) ⟨_,_,_,_,rfl⟩
 .obtain ⟨x3,x4,x5,x6,rfl⟩:=h
  have hm:m∈bN A B:=by rw [e];simp
  obtain ⟨k1,k2,k3,k4,k5⟩:=nH (aV _) hm
  have b1:=ha _ k1
  have b2:=hb _ k2
  unfold aw at b1 b2
  have dO:(pre.flatMap fy).length<=2*pre.length:=by
   have:∀ms:List Met,(∀m∈ms,m.lo<=m.hi)->(ms.flatMap fy).length<=2*ms.length:=λms=>by
    induction ms with
    | nil=>intro _;simp
    | cons m ms ih =>
     intro h
     have:=ih λk hk=>h k (cG _ hk)
     have:=(rX (h m cm)).2.2
     rw [vH,bQ,iD]
     omega
   exact this _ λk hk=>(nH (A:=A) (B:=B) (aV _) (by rw [e];simp [hk])).2.2.2.2
  have Ft:pre.length<=800000:=by have:=congrArg nk e;simp at this;ext l1 l2 tD this
  have el:=XX (p1:=m.a.at m.lo) (s1:=m.a.2.2.2) (p2:=m.b.at m.lo) (s2:=m.b.2.2.2) k5 (by ext k3 k4 b2) (by ext b1) (by ext b1) (by ext b2) (by ext b2)
  rw [xX,Nn,Nn]
  walk_at "v1"
  rw [el]
  walk_at "v1"
  have gq:=(rX k5).2.2
  refine ⟨?_,.sh (.int m.lo),.sh (.int m.hi),.sh (rP m.a m.lo),.sh (rP m.b m.lo),?_⟩
  .rw [bB,bB]
   show (pre.flatMap fy).length+(fy m).length<=_
   ext dO Ft gq
  .rw [MB,e8]
   simp only [vH,List.flatMap_nil,mM]
   rfl
 .obtain ⟨x3,x4,x5,x6,rfl⟩:=h
  walk_at "vc"
  rfl
noncomputable def bU:Option Int->Option Int->Option Int
 | some a,some b=>some (min a b)
 | some a,none=>some a
 | none,b=>b
theorem OS{A:List Row}(ha:dU A){x:Int}:(∃r∈A,r.1<=x/\x<=r.2.1)↔look A x≠none:=by
 constructor
 .rintro ⟨r,hr,h1,h2⟩
  rw [jR ha hr h1 h2];exact λz=>nomatch z
 .intro h
  cases e:look A x with
  | none=>exact absurd e h
  | some c=>obtain ⟨r,hr,h1,h2,_⟩:=wg e;exact ⟨r,hr,h1,h2⟩
theorem YA{A B:List Row}{V C:Int}(ca:dU A)(cb:dU B)(ha:∀r∈A,aw (10^140) r)(hb:∀r∈B,aw (10^140) r)(hV:V<=10^140)(hC:C<=10^140)
  (va:∀x c,look A x=some c->(-V<=x/\x<=V)/\(-C<=c/\c<=C))(vb:∀x c,look B x=some c->(-V<=x/\x<=V)/\(-C<=c/\c<=C))(hl:4*(A.length+B.length)<=lE):
  ∃fs:List Row,pD [.tup (A.map Row.d),.tup (B.map Row.d)]=some (.sh (.tup (fs.map Row.d)))/\Canon fs/\(∀x,look fs x=bU (look A x) (look B x))/\fs.length<=4*(A.length+B.length):=by
 have hN:lE<=1600000/\0<lE:=by decide
 obtain ⟨sa,ea,SA⟩:=Oa ca (by ext hl hN)
 obtain ⟨sb,eb,SB⟩:=Oa cb (by ext hl hN)
 have MX:∀{L:List Row} {ss:List Span},bf L ss->(∀r∈L,aw (10^140) r)->∀s∈ss,D8 s:=λ{L ss} S hL s hs=>by
  obtain ⟨⟨r1,h1,e1⟩,⟨r2,h2,e2⟩⟩:=S.ends s hs
  have k1:=hL r1 h1
  have k2:=hL r2 h2
  unfold aw at k1 k2
  unfold D8
  ext e1 e2 k1 k2
 have Ob:∀{L:List Row} {ss:List Span},bf L ss->oO ss:=λ{L ss} S=>⟨S.ok,S.apart.imp λ{a b} h=>by ext h⟩
 have oa:=Pg (rs:=A) (ss:=sb) (λr hr=>(ha r hr).mono (by decide)) (MX SB hb) (by ext hl hN) (by have:=SB.len;ext hl hN this)
 have ob:=Pg (rs:=B) (ss:=sa) (λr hr=>(hb r hr).mono (by decide)) (MX SA ha) (by ext hl hN) (by have:=SA.len;ext hl hN this)
 obtain ⟨a1,a2,a3,a4⟩:=JH ca (Ob SB)
 obtain ⟨b1,b2,b3,b4⟩:=JH cb (Ob SA)
 obtain ⟨c1,c2⟩:=ZL ca cb
 have la:=SA.len
 have lb:=SB.len
 have ll:=b11 A B
 have lm:=JE (A:=A) (B:=B) (aV _)
 have Lo:∀x,fO sa x↔look A x≠none:=λx=>(SA.tW x).trans (OS ca)
 have E6:∀x,fO sb x↔look B x≠none:=λx=>(SB.tW x).trans (OS cb)
 have oQ:∀r∈gn A B++(cT A sb++cT B sa),r.1<=r.2.1:=λr hr=>by
  rcases bK.mp hr with h | h
  .exact c1.1 r h
  .exact (bK.mp h).elim (a1.1 r) (b1.1 r)
 have apart:∀{L M:List Row},(∀r∈L,r.1<=r.2.1)->(∀r∈M,r.1<=r.2.1)->(∀x c d,Val L x c->Val M x d->False)->∀a∈L,∀b∈M,jI a b:=λ{L M} hL hM hx a yU b rg=>by
  have h1:=hL a yU
  have h2:=hM b rg
  by_cases h:a.2.1<b.1\/b.2.1<a.1
  .exact h
  .exact (hx (max a.1 b.1) _ _ ⟨a,yU,by ext,by ext h1 h,rfl⟩ ⟨b,rg,by ext,by ext h2 h,rfl⟩).elim
 have own:∀{L:List Row},dU L->L.Pairwise jI:=λ{L} h=>h.2.imp λ{a b} z=>.inl z
 have FP:(gn A B++(cT A sb++cT B sa)).Pairwise jI:=by
  refine fI.mpr ⟨own c1,fI.mpr ⟨own a1,own b1,apart a1.1 b1.1 λx c d h1 h2=>?_⟩,λa yU b rg=>?_⟩
  .obtain ⟨k1,k2⟩:=(a3 x c).mp h1
   obtain ⟨k3,k4⟩:=(b3 x d).mp h2
   rw [E6,Jr cb] at *
   exact k2 (by rw [k3];exact λz=>nomatch z)
  .rcases bK.mp rg with rg | rg
   .refine apart c1.1 a1.1 (λx c d h1 h2=>?_) a yU b rg
    obtain ⟨p,q,k1,k2,_⟩:=(c2 x c).mp h1
    obtain ⟨_,k4⟩:=(a3 x d).mp h2
    exact k4 ((E6 x).mpr (by rw [k2];exact λz=>nomatch z))
   .refine apart c1.1 b1.1 (λx c d h1 h2=>?_) a yU b rg
    obtain ⟨p,q,k1,k2,_⟩:=(c2 x c).mp h1
    obtain ⟨_,k4⟩:=(b3 x d).mp h2
    exact k4 ((Lo x).mpr (by rw [k1];exact λz=>nomatch z))
 have fA:(gn A B++(cT A sb++cT B sa)).length<lE:=by
  rw [bQ,bQ]
  ext hl hN a4 b4 la lb ll lm
 obtain ⟨ts,es,V5,QC,EL⟩:=a9C oQ FP fA
 have mx:∀x c,Val (gn A B++(cT A sb++cT B sa)) x c↔bU (look A x) (look B x)=some c:=λx c=>by
  rw [Val.app,Val.app,c2,a3,b3,Lo,E6,Jr ca,Jr cb]
  cases look A x with
  | none=>cases look B x<;>simp [bU]
  | some a=>cases look B x<;>simp [bU,eq_comm]
 have FW:∀r∈ts,aw (10^140) r:=λr hr=>by
  have tu:=EL.subset hr
  have hle:=oQ r tu
  rcases bK.mp tu with h | h
  .obtain ⟨m,_,_,k1,k2,k3,k4,k5,k6,k7,k8,k9⟩:=Jt h
   have q1:=ha _ k1
   have q2:=hb _ k2
   have v1:=va _ _ (jR ca k1 (x:=r.1) (by ext k3 k5) (by ext hle k4 k7))
   have v2:=vb _ _ (jR cb k2 (x:=r.1) (by ext k3 k5) (by ext hle k4 k7))
   have e1:r.at r.1=r.2.2.1:=by unfold Row.at;simp
   have e2:=k9 r.1 (gx _) hle
   rw [e1] at e2
   unfold aw at *
   ext hV hC hle k4 k7 k8 q1 q2 v1 v2 e2
  .have key:∀{L:List Row} {q:Row},dU L->(∀r∈L,aw (10^140) r)->(∀x c,look L x=some c->(-V<=x/\x<=V)/\(-C<=c/\c<=C))->(∃r∈L,r.1<=q.1/\q.2.1<=r.2.1/\q.2.2.1=r.at q.1/\q.2.2.2=r.2.2.2)->q.1<=q.2.1->aw (10^140) q:=λ{L q} hA hL hv ⟨z,hz,k1,k2,k3,k4⟩ hq=>by
    have q1:=hL z hz
    have v1:=hv _ _ (jR hA hz (x:=q.1) (by ext k1) (by ext hq k2))
    unfold aw at *
    rw [k3,k4]
    ext hC hq k1 k2 q1 v1
   rcases bK.mp h with h | h
   .exact key ca ha va (a2 r h) hle
   .exact key cb hb vb (b2 r h) hle
 obtain ⟨fs,ef,L⟩:=Ik V5 FW (by rw [EL.length_eq];ext hN fA) (ro:=false)
 have lk:∀x,look fs x=bU (look A x) (look B x):=λx=>YQ L.canon.dq λc=>by rw [L.val,QC,mx]
 refine ⟨fs,?_,L.canon,lk,?_⟩
 .refine Wo.eq (qF.mpr ?_)
  unfold IG
  walk_at "vc"
  rw [eb,ea]
  walk_at "vc"
  rw [oa,ob]
  walk_at "vc"
  rw [Zi (λr hr=>(ha r hr).mono (by decide)) (λr hr=>(hb r hr).mono (by decide)) (by ext hl hN) (by ext hl hN)]
  walk_at "vc"
  rw [<-e8,<-e8,es]
  walk_at "vc"
  rw [ef]
  walk_at "vc"
  simp only [bB,bQ]
  ext hl hN a4 b4 la lb ll lm
 .have:=L.len
  have:=EL.length_eq
  rw [bQ,bQ] at this
  lia
theorem O4{fs:List Row}(h:Canon fs){B C:Int}(hC:0<=C)(hb:∀x c,look fs x=some c->(-B<=x/\x<=B)/\(-C<=c/\c<=C)):∀r∈fs,(-B<=r.1/\r.1<=B)/\(-B<=r.2.1/\r.2.1<=B)/\(-C<=r.2.2.1/\r.2.2.1<=C)/\(-(2*C)<=r.2.2.2/\r.2.2.2<=2*C):=λr hr=>by
 have ok:=h.1 r hr
 unfold oE at ok
 have l1:=jR h.dq hr (x:=r.1) (gx _) ok.1
 have l2:=jR h.dq hr (x:=r.2.1) ok.1 (gx _)
 have b1:=hb _ _ l1
 have b2:=hb _ _ l2
 have e1:r.at r.1=r.2.2.1:=by unfold Row.at;simp
 rw [e1] at b1
 refine ⟨b1.1,b2.1,b1.2,?_⟩
 by_cases hs:r.1=r.2.1
 .rw [ok.2 hs];ext hC
 .have l3:=jR h.dq hr (x:=r.1+1) (by ext) (by ext ok hs)
  have b3:=hb _ _ l3
  have e3:r.at (r.1+1)=r.2.2.1+r.2.2.2:=by unfold Row.at;rw [show r.1+1-r.1=1 by ext,rD]
  rw [e3] at b3
  ext b1 b3
noncomputable def Gl(φ:List D->Option Sl):SF:=
 (aj (cc (bR (aa gu (bX (bV 0)) (eC (.int 2))))
 (aD (l5 (dz (eV 0)) (av (bV 0) (eC (.int 0))) (bA ae))) cK)
 (aj (bD 1 (aa cN (bX (bV 0)) (eC (.int 2))))
 (aD (aU 2 pD (af (aU 1 φ (af (lh (bV 0) kP (kf (eV 1))) ae)) (af (aU 1 φ (af (lh (bV 0) (kf (eV 1)) kP) ae)) ae))))))
theorem XU{α:Type}(xs:List α){k:Nat}(h:k<=xs.length):iZ xs none (some (k:Int))=xs.take k:=by
 unfold iZ
 have e1:HT.aX xs.length 0 none=0:=rfl
 have e2:HT.aX xs.length xs.length (some (k:Int))=min k xs.length:=HT.iK _ _ k
 rw [e1,e2,Cm,GH,Ct h]
theorem Xb{α:Type}(xs:List α){k:Nat}(h:k<=xs.length):iZ xs (some (k:Int)) none=xs.drop k:=by
 unfold iZ
 have e1:HT.aX xs.length 0 (some (k:Int))=min k xs.length:=HT.iK _ _ k
 have e2:HT.aX xs.length xs.length none=xs.length:=rfl
 rw [e1,e2,Ct h,z6]
 rw [l8]
 ext
structure FV(V C:Int)(f:List Row):Prop where
 canon:Canon f
 bd:∀x c,look f x=some c->(-V<=x/\x<=V)/\(-C<=c/\c<=C)
theorem FV.row{V C:Int}{f:List Row}(h:FV V C f)(hV:V<=10^140)(hC:0<=C/\2*C<=10^140):∀r∈f,aw (10^140) r:=λr hr=>by
 have:=O4 h.canon hC.1 h.bd r hr
 unfold aw
 ext hV hC this
def j7(Fs:List (List Row))(f:List Row):Prop:=∀x v,look f x=some v↔(∃g∈Fs,look g x=some v)/\∀g∈Fs,∀w,look g x=some w->v<=w
theorem j7.fv{V C:Int}{Fs:List (List Row)}{f:List Row}(h:j7 Fs f)(cf:Canon f)(hF:∀g∈Fs,FV V C g):FV V C f:=⟨cf,λx c e=>by
 obtain ⟨⟨g,hg,k⟩,_⟩:=(h x c).mp e
 exact (hF g hg).bd x c k⟩
theorem j7.merge{Fs Gs:List (List Row)}{a b f:List Row}(ha:j7 Fs a)(hb:j7 Gs b)(lk:∀x,look f x=bU (look a x) (look b x)):j7 (Fs++Gs) f:=λx v=>by
 rw [lk]
 have no:∀{Hs:List (List Row)} {h:List Row},j7 Hs h->look h x=none->∀g∈Hs,look g x=none:=λ{Hs h} hh e=>by
  have key:∀Ks:List (List Row),(∀g∈Ks,g∈Hs)->(∃g∈Ks,look g x≠none)->∃v,(∃g∈Ks,look g x=some v)/\∀g∈Ks,∀w,look g x=some w->v<=w:=λKs=>by
   induction Ks with
   | nil=>rintro _ ⟨g,hg,_⟩;cases hg
   | cons k Ks ih =>
    intro hs hex
    by_cases hK:∃g∈Ks,look g x≠none
    .obtain ⟨v,⟨g,hg,e1⟩,m⟩:=ih (λg hg=>hs g (cG _ hg)) hK
     cases ek:look k x with
     | none=>exact ⟨v,⟨g,cG _ hg,e1⟩,λq hq w hw=>by
       rcases bx.mp hq with rfl | hq
       .rw [ek] at hw;cases hw
       .exact m q hq w hw⟩
     | some u =>
      by_cases Lr:u<=v
      .exact ⟨u,⟨k,cm ..,ek⟩,λq hq w hw=>by
        rcases bx.mp hq with rfl | hq
        .rw [ek] at hw;cases hw;exact gx _
        .exact GB Lr (m q hq w hw)⟩
      .exact ⟨v,⟨g,cG _ hg,e1⟩,λq hq w hw=>by
        rcases bx.mp hq with rfl | hq
        .rw [ek] at hw;cases hw;ext Lr
        .exact m q hq w hw⟩
    .obtain ⟨g,hg,e1⟩:=hex
     rcases bx.mp hg with rfl | hg
     .cases ek:look g x with
      | none=>exact absurd ek e1
      | some u=>exact ⟨u,⟨g,cm ..,ek⟩,λq hq w hw=>by
        rcases bx.mp hq with rfl | hq
        .rw [ek] at hw;cases hw;exact gx _
        .exact absurd ⟨q,hq,by rw [hw];exact λz=>nomatch z⟩ hK⟩
     .exact absurd ⟨g,hg,e1⟩ hK
  intro g hg
  refine MV λz=>?_
  obtain ⟨v,hv⟩:=key Hs (λ_ h=>h) ⟨g,hg,z⟩
  rw [(hh x v).mpr hv] at e
  cases e
 cases ea:look a x with
 | none =>
  have n1:=no ha ea
  show look b x=some v↔_
  rw [hb x v]
  constructor
  .rintro ⟨⟨g,hg,e⟩,m⟩
   exact ⟨⟨g,fF _ hg,e⟩,λq hq w hw=>(bK.mp hq).elim (λz=>by rw [n1 q z] at hw;cases hw) λz=>m q z w hw⟩
  .rintro ⟨⟨g,hg,e⟩,m⟩
   exact ⟨(bK.mp hg).elim (λz=>by rw [n1 g z] at e;cases e) λz=>⟨g,z,e⟩,λq hq=>m q (fF _ hq)⟩
 | some u =>
  obtain ⟨⟨g1,BM,e1⟩,m1⟩:=(ha x u).mp ea
  cases eb:look b x with
  | none =>
   have n2:=no hb eb
   show some u=some v↔_
   constructor
   .intro z
    cases z
    exact ⟨⟨g1,fU _ BM,e1⟩,λq hq w hw=>(bK.mp hq).elim (λz=>m1 q z w hw) λz=>by rw [n2 q z] at hw;cases hw⟩
   .rintro ⟨⟨g,hg,e⟩,m⟩
    rcases bK.mp hg with z | z
    .have k1:=m g1 (fU _ BM) u e1
     have k2:=m1 g z v e
     rw [show u=v by ext k1 k2]
    .rw [n2 g z] at e;cases e
  | some t =>
   obtain ⟨⟨g2,tJ,e2⟩,m2⟩:=(hb x t).mp eb
   show some (min u t)=some v↔_
   constructor
   .intro z
    cases z
    refine ⟨?_,λq hq w hw=>?_⟩
    .by_cases c:u<=t
     .exact ⟨g1,fU _ BM,by rw [e1,show min u t=u by ext c]⟩
     .exact ⟨g2,fF _ tJ,by rw [e2,show min u t=t by ext c]⟩
    .rcases bK.mp hq with z | z
     .have:=m1 q z w hw;ext this
     .have:=m2 q z w hw;ext this
   .rintro ⟨⟨g,hg,e⟩,m⟩
    have k1:=m g1 (fU _ BM) u e1
    have k2:=m g2 (fF _ tJ) t e2
    congr 1
    rcases bK.mp hg with z | z
    .have:=m1 g z v e;ext k1 k2 this
    .have:=m2 g z v e;ext k1 k2 this
def wJ(φ:List D->Option Sl)(n m:Nat):Prop:=∀{V C:Int} {Fs:List (List Row)} {r:Bool},V<=10^140->0<=C/\2*C<=10^140->(∀f∈Fs,FV V C f/\f.length<=3)->Fs≠[]->Fs.length<=n->∃fs:List Row,φ [.lst r (Fs.map λf=>.tup (f.map Row.d))]=some (.sh (.tup (fs.map Row.d)))/\Canon fs/\j7 Fs fs/\fs.length<=m
theorem OB{φ ψ:List D->Option Sl}(W:∀{a0:D} {Q:Sl->Prop},Wo (ψ [a0]) Q↔Wo (Gl φ [.sh a0,.no]) (aN Q)):wJ ψ 1 3:=λ{V C Fs r} hV hC hF bo hl=>by
 match Fs,bo,hl with
 | [f],_,_ =>
  refine ⟨f,Wo.eq (W.mpr ?_),(hF f (cm ..)).1.canon,λx v=>?_,(hF f (cm ..)).2⟩
  .unfold Gl
   dsimp only [oq]
   walk_at "vc"
   exact λz=>nomatch z
  .exact ⟨λe=>⟨⟨f,cm ..,e⟩,λg hg w hw=>by rw [cJ.mp hg] at hw;rw [e] at hw;cases hw;exact gx _⟩,λ⟨⟨g,hg,e⟩,_⟩=>by rw [cJ.mp hg] at e;exact e⟩
theorem DE{φ ψ:List D->Option Sl}{n m:Nat}(hn:n<=1000)(hm:8*m<=lE)(U3:3<=8*m)(h:wJ φ n m)(W:∀{a0:D} {Q:Sl->Prop},Wo (ψ [a0]) Q↔Wo (Gl φ [.sh a0,.no]) (aN Q)):wJ ψ (2*n) (8*m):=λ{V C Fs r} hV hC hF bo hl=>by
 by_cases hlen:Fs.length<2
 .have Fq:=pf.mpr bo
  obtain ⟨fs,e,c,k,l⟩:=OB W hV hC hF bo (by ext hlen) (r:=r)
  exact ⟨fs,e,c,k,by ext U3 l⟩
 .obtain ⟨k,hk⟩:∃k:Nat,(Fs.length:Int)/2=k:=⟨((Fs.length:Int)/2).toNat,by lia⟩
  have oV:1<=k:=by lia
  have tF:k<Fs.length:=by lia
  have nA:Fs.take k≠[]:=HB (by rw [iE];ext oV tF)
  have nB:Fs.drop k≠[]:=HB (by rw [l8];ext tF)
  have LQ:∀f∈Fs.take k,FV V C f/\f.length<=3:=λf hf=>hF f (ug hf)
  have BP:∀f∈Fs.drop k,FV V C f/\f.length<=3:=λf hf=>hF f (rM hf)
  obtain ⟨A,ea,cA,mA,lA⟩:=h (r:=false) hV hC LQ nA (by rw [iE];lia)
  obtain ⟨B,eb,cB,mB,lB⟩:=h (r:=false) hV hC BP nB (by rw [l8];lia)
  have vA:=mA.fv cA λf hf=>(LQ f hf).1
  have vB:=mB.fv cB λf hf=>(BP f hf).1
  obtain ⟨fs,ef,cf,lk,lf⟩:=YA (V:=V) (C:=C) cA.dq cB.dq (vA.row hV hC) (vB.row hV hC) hV (by ext hC) vA.bd vB.bd (by ext hm lA lB)
  have mf:=mA.merge mB lk
  rw [mJ] at mf
  refine ⟨fs,Wo.eq (W.mpr ?_),cf,mf,by ext lA lB lf⟩
  unfold Gl
  walk_at "v1"
  refine px ?_ ?_
  .walk_at "vc"
   rw [bB]
   ext hlen
  walk_at "v1"
  rw [bB,hk,Jc,Jc,XU _ (by ext tF),Xb _ (by ext tF)]
  walk_at "v1"
  refine ⟨AE (by decide) (by decide),?_⟩
  rw [ea]
  walk_at "v1"
  rw [eb]
  walk_at "v1"
  rw [ef]
  walk_at "vc"
def su(r:Row)(y:Int):Prop:=r.1<=y/\y<=r.2.1
def Conv(r s:Row)(x c:Int):Prop:=(∃y z,su r y/\su s z/\y+z=x/\c=r.at y+s.at z)/\∀y z,su r y->su s z->y+z=x->c<=r.at y+s.at z
theorem Conv.sym{r s:Row}{x c:Int}(h:Conv r s x c):Conv s r x c:=by
 obtain ⟨⟨y,z,hy,hz,e,k⟩,m⟩:=h
 exact ⟨⟨z,y,hz,hy,by ext e,by ext k⟩,λy z hy hz e=>by have:=m z y hz hy (by ext e);ext this⟩
theorem Conv.uniq{r s:Row}{x c c':Int}(h:Conv r s x c)(h':Conv r s x c'):c=c':=by
 obtain ⟨⟨y,z,hy,hz,e,k⟩,m⟩:=h
 obtain ⟨⟨y',z',sZ,Ff,e',k'⟩,m'⟩:=h'
 have:=m y' z' sZ Ff e'
 have:=m' y z hy hz e
 lia
theorem Conv.nh{r s:Row}{x c:Int}(h:Conv r s x c):r.1+s.1<=x/\x<=r.2.1+s.2.1:=by
 obtain ⟨⟨y,z,hy,hz,e,k⟩,m⟩:=h
 unfold su at hy hz
 ext hy hz e
theorem uI{u v:Row}(h:u.2.2.2<=v.2.2.2){x i j:Int}(hi:0<=i/\i<=u.2.1-u.1)(hj:0<=j/\j<=v.2.1-v.1)(e:x=u.1+v.1+i+j)(hl:i=u.2.1-u.1\/j=0):Conv u v x (u.2.2.1+v.2.2.1+u.2.2.2*i+v.2.2.2*j):=by
 refine ⟨⟨u.1+i,v.1+j,by unfold su;ext hi,by unfold su;ext hj,by ext e,by unfold Row.at;rw [show u.1+i-u.1=i by ext,show v.1+j-v.1=j by ext];ext⟩,λy z hy hz k=>?_⟩
 unfold su at hy hz
 unfold Row.at
 have:=vK (show 0<=v.2.2.2-u.2.2.2 by ext h) (show 0<=i-(y-u.1) by ext e hl hy hz k)
 have e2:z-v.1=j+(i-(y-u.1)):=by ext e k
 rw [e2]
 generalize y-u.1=q at *
 grind
theorem Conv.ex{u v:Row}(hu:u.1<=u.2.1)(hv:v.1<=v.2.1){x:Int}(h1:u.1+v.1<=x)(h2:x<=u.2.1+v.2.1):∃c,Conv u v x c:=by
 have key:∀{u v:Row},u.1<=u.2.1->v.1<=v.2.1->u.2.2.2<=v.2.2.2->u.1+v.1<=x->x<=u.2.1+v.2.1->∃c,Conv u v x c:=λ{u v} hu hv hs h1 h2=>by
  by_cases c:x-(u.1+v.1)<=u.2.1-u.1
  .exact ⟨_,uI hs (i:=x-(u.1+v.1)) (j:=0) (by ext h1 c) (by ext hv) (by ext) (.inr rfl)⟩
  .exact ⟨_,uI hs (i:=u.2.1-u.1) (j:=x-(u.1+v.1)-(u.2.1-u.1)) (by ext hu) (by ext h2 c) (by ext) (.inl rfl)⟩
 by_cases hs:u.2.2.2<=v.2.2.2
 .exact key hu hv hs h1 h2
 .obtain ⟨c,h⟩:=key hv hu (by ext hs) (by ext h1) (by ext h2)
  exact ⟨c,h.sym⟩
noncomputable def mP(u v:Row):List Row:=
 [(u.1+v.1,u.1+v.1,u.2.2.1+v.2.2.1,0)]
 ++ (if u.2.1-u.1>0 then [(u.1+v.1+1,u.1+v.1+(u.2.1-u.1),u.2.2.1+v.2.2.1+u.2.2.2,u.2.2.2)] else [])
 ++ (if v.2.1-v.1>0 then [(u.1+v.1+(u.2.1-u.1)+1,u.1+v.1+(u.2.1-u.1)+(v.2.1-v.1),u.2.2.1+v.2.2.1+u.2.2.2*(u.2.1-u.1)+v.2.2.2,v.2.2.2)] else [])
theorem Jm(u v:Row):(mP u v).length<=3:=by
 unfold mP
 rw [bQ,bQ]
 split<;>split<;>simp
theorem Jn{u v r:Row}(h:r∈mP u v):r=(u.1+v.1,u.1+v.1,u.2.2.1+v.2.2.1,0)\/(u.2.1-u.1>0/\r=(u.1+v.1+1,u.1+v.1+(u.2.1-u.1),u.2.2.1+v.2.2.1+u.2.2.2,u.2.2.2))\/(v.2.1-v.1>0/\r=(u.1+v.1+(u.2.1-u.1)+1,u.1+v.1+(u.2.1-u.1)+(v.2.1-v.1),u.2.2.1+v.2.2.1+u.2.2.2*(u.2.1-u.1)+v.2.2.2,v.2.2.2)):=by
 unfold mP at h
 rcases bK.mp h with h | h
 .rcases bK.mp h with h | h
  .exact .inl (cJ.mp h)
  .split at h
   .exact .inr (.inl ⟨‹_›,cJ.mp h⟩)
   .cases h
 .split at h
  .exact .inr (.inr ⟨‹_›,cJ.mp h⟩)
  .cases h
theorem ZX{u v:Row}(hu:u.1<=u.2.1)(hv:v.1<=v.2.1):dU (mP u v):=by
 refine ⟨λr hr=>?_,?_⟩
 .rcases Jn hr with rfl | ⟨_,rfl⟩ | ⟨_,rfl⟩<;>dsimp only<;>lia
 .unfold mP
  refine fI.mpr ⟨fI.mpr ⟨nq _ _,?_,λa ha b hb=>?_⟩,?_,λa ha b hb=>?_⟩
  .split
   .exact nq _ _
   .exact .nil
  .rw [cJ] at ha
   split at hb
   .rw [cJ] at hb
    subst ha hb
    dsimp only
    ext
   .cases hb
  .split
   .exact nq _ _
   .exact .nil
  .split at hb
   .rw [cJ] at hb
    subst hb
    rcases bK.mp ha with ha | ha
    .rw [cJ] at ha
     subst ha
     dsimp only
     ext hu
    .split at ha
     .rw [cJ] at ha
      subst ha
      dsimp only
      ext
     .cases ha
   .cases hb
theorem ON{u v:Row}(hu:u.1<=u.2.1)(hv:v.1<=v.2.1)(hs:u.2.2.2<=v.2.2.2)(x c:Int):Val (mP u v) x c↔Conv u v x c:=by
 have fwd:∀c,Val (mP u v) x c->Conv u v x c:=λc h=>by
  obtain ⟨r,hr,h1,h2,rfl⟩:=h
  rcases Jn hr with rfl | ⟨_,rfl⟩ | ⟨_,rfl⟩
  .dsimp only at h1 h2
   have:=uI hs (x:=x) (i:=0) (j:=0) (by ext hu) (by ext hv) (by ext h1 h2) (.inr rfl)
   unfold Row.at
   simpa using this
  .dsimp only at h1 h2
   have:=uI hs (x:=x) (i:=x-(u.1+v.1)) (j:=0) (by ext h1 h2) (by ext hv) (by ext) (.inr rfl)
   have e:Row.at (u.1+v.1+1,u.1+v.1+(u.2.1-u.1),u.2.2.1+v.2.2.1+u.2.2.2,u.2.2.2) x=u.2.2.1+v.2.2.1+u.2.2.2*(x-(u.1+v.1))+v.2.2.2*0:=by unfold Row.at;dsimp only;grind
   rw [e]
   exact this
  .dsimp only at h1 h2
   have:=uI hs (x:=x) (i:=u.2.1-u.1) (j:=x-(u.1+v.1)-(u.2.1-u.1)) (by ext hu) (by ext h1 h2) (by ext) (.inl rfl)
   have e:Row.at (u.1+v.1+(u.2.1-u.1)+1,u.1+v.1+(u.2.1-u.1)+(v.2.1-v.1),u.2.2.1+v.2.2.1+u.2.2.2*(u.2.1-u.1)+v.2.2.2,v.2.2.2) x=u.2.2.1+v.2.2.1+u.2.2.2*(u.2.1-u.1)+v.2.2.2*(x-(u.1+v.1)-(u.2.1-u.1)):=by unfold Row.at;dsimp only;grind
   rw [e]
   exact this
 refine ⟨fwd c,λh=>?_⟩
 have d:=h.nh
 have hex:∃c',Val (mP u v) x c':=by
  unfold Val mP
  by_cases c1:x=u.1+v.1
  .exact ⟨_,(u.1+v.1,u.1+v.1,u.2.2.1+v.2.2.1,0),by simp,by dsimp only;ext c1,by dsimp only;ext c1,rfl⟩
  .by_cases c2:x<=u.1+v.1+(u.2.1-u.1)
   .refine ⟨_,(u.1+v.1+1,u.1+v.1+(u.2.1-u.1),u.2.2.1+v.2.2.1+u.2.2.2,u.2.2.2),?_,by dsimp only;ext d c1,by dsimp only;ext c2,rfl⟩
    rw [if_pos (by ext d c1 c2)]
    simp
   .refine ⟨_,(u.1+v.1+(u.2.1-u.1)+1,u.1+v.1+(u.2.1-u.1)+(v.2.1-v.1),u.2.2.1+v.2.2.1+u.2.2.2*(u.2.1-u.1)+v.2.2.2,v.2.2.2),?_,by dsimp only;ext c2,by dsimp only;ext d,rfl⟩
    rw [if_pos (show v.2.1-v.1>0 by ext d c2)]
    simp
 obtain ⟨c',hc⟩:=hex
 rw [h.uniq (fwd c' hc)]
 exact hc
def nJ(A B:List Row)(x c:Int):Prop:=(∃y z cy cz,Val A y cy/\Val B z cz/\y+z=x/\c=cy+cz)/\∀y z cy cz,Val A y cy->Val B z cz->y+z=x->c<=cy+cz
theorem nJ.sym{A B:List Row}{x c:Int}(h:nJ A B x c):nJ B A x c:=by
 obtain ⟨⟨y,z,cy,cz,hy,hz,e,k⟩,m⟩:=h
 exact ⟨⟨z,y,cz,cy,hz,hy,by ext e,by ext k⟩,λy z cy cz hy hz e=>by have:=m z y cz cy hz hy (by ext e);ext this⟩
def Pk(A B:List Row)(x c:Int):Prop:=(∃r∈A,∃s∈B,Conv r s x c)/\∀r∈A,∀s∈B,∀c',Conv r s x c'->c<=c'
theorem Nw{A B:List Row}(ha:∀r∈A,r.1<=r.2.1)(hb:∀r∈B,r.1<=r.2.1){x c:Int}:Pk A B x c↔nJ A B x c:=by
 constructor
 .rintro ⟨⟨r,hr,s,hs,⟨y,z,hy,hz,e,k⟩,_⟩,m⟩
  refine ⟨⟨y,z,_,_,⟨r,hr,hy.1,hy.2,rfl⟩,⟨s,hs,hz.1,hz.2,rfl⟩,e,k⟩,λy z cy cz hy hz e=>?_⟩
  obtain ⟨r,hr,y1,y2,rfl⟩:=hy
  obtain ⟨s,hs,z1,z2,rfl⟩:=hz
  obtain ⟨c',h'⟩:=Conv.ex (ha r hr) (hb s hs) (x:=x) (by ext e y1 z1) (by ext e y2 z2)
  have:=m r hr s hs c' h'
  have:=h'.2 y z ⟨y1,y2⟩ ⟨z1,z2⟩ e
  lia
 .rintro ⟨⟨y,z,cy,cz,⟨r,hr,y1,y2,rfl⟩,⟨s,hs,z1,z2,rfl⟩,e,k⟩,m⟩
  refine ⟨⟨r,hr,s,hs,⟨y,z,⟨y1,y2⟩,⟨z1,z2⟩,e,k⟩,λy z hy hz e=>m y z _ _ ⟨r,hr,hy.1,hy.2,rfl⟩ ⟨s,hs,hz.1,hz.2,rfl⟩ e⟩,λr hr s hs c' h'=>?_⟩
  obtain ⟨⟨y,z,hy,hz,e,rfl⟩,_⟩:=h'
  exact m y z _ _ ⟨r,hr,hy.1,hy.2,rfl⟩ ⟨s,hs,hz.1,hz.2,rfl⟩ e
theorem O7(r:Row):uL [r.d]=some (.sh (.int r.2.2.2)):=by
 refine Wo.eq (mU.mpr ?_)
 unfold Ji
 rw [cq]
 walk_at "vc"
theorem Zc(a b:Row){ro:Bool}:pP uL (.lst ro [a.d,b.d])=some (.ow (if b.2.2.2<a.2.2.2 then [b.d,a.d] else [a.d,b.d])):=by
 show pR uL a.d b.d=_
 unfold pR
 rw [O7,O7]
noncomputable def bq(r:Row):Int:=r.2.1-r.1
def PB(r:Row):Prop:=r.1<=r.2.1/\(-(10^60)<=r.1/\r.2.1<=10^60)/\(-(10^130)<=r.2.2.1/\r.2.2.1<=10^130)/\(-(10^130)<=r.at r.2.1/\r.at r.2.1<=10^130)/\(-(2*10^130)<=r.2.2.2/\r.2.2.2<=2*10^130)
theorem Yu{u v:Row}(hu:PB u)(hv:PB v):∀r∈mP u v,aw (10^140) r:=λr hr=>by
 unfold PB at hu hv
 have e:u.at u.2.1=u.2.2.1+u.2.2.2*(u.2.1-u.1):=rfl
 rw [e] at hu
 unfold aw
 rcases Jn hr with rfl | ⟨_,rfl⟩ | ⟨_,rfl⟩<;>dsimp only<;>omega
theorem N9{a b f g:Row}(ha:PB a)(hb:PB b)(hf:(if b.2.2.2<a.2.2.2 then [b.d,a.d] else [a.d,b.d])=[f.d,g.d])(hF:PB f)(hG:PB g)(e1:f.1+g.1=a.1+b.1)(e2:f.2.2.1+g.2.2.1=a.2.2.1+b.2.2.1){ro:Bool}:∃fs:List Row,uP [.lst ro [a.d,b.d]]=some (.sh (.tup (fs.map Row.d)))/\Laid (mP f g) fs:=by
 have hB:=Yu hF hG
 have hl:=Jm f g
 obtain ⟨fs,ef,LD⟩:=Ik (ZX hF.1 hG.1) hB (by ext hl) (ro:=false)
 refine ⟨fs,?_,LD⟩
 clear LD hB hl
 unfold PB at ha hb hF hG
 have hm:MulC f.2.2.2 (bq f):=Ay (by ext hF) (by ext hF) (by unfold bq;ext hF) (by unfold bq;ext hF)
 have vk:MulC g.2.2.2 (bq g):=Ay (by ext hG) (by ext hG) (by unfold bq;ext hG) (by unfold bq;ext hG)
 refine Wo.eq (oN.mpr ?_)
 unfold Ja
 have Lv:=Zc a b (ro:=ro)
 rw [hf,cq a,cq b] at Lv
 rw [cq a,cq b]
 walk_at "v1"
 rw [Lv]
 walk_at "v1"
 rw [cq f,cq g]
 walk_at "v1"
 rw [show [a.1,b.1].sum=a.1+b.1 by simp,show [a.2.2.1,b.2.2.1].sum=a.2.2.1+b.2.2.1 by simp]
 rw [show f.2.1-f.1=bq f from rfl]
 unfold mP at ef
 rw [show f.2.1-f.1=bq f from rfl,show g.2.1-g.1=bq g from rfl,e1,e2] at ef
 generalize a.1+b.1=L at *
 generalize a.2.2.1+b.2.2.1=P at *
 generalize hd:D.tup [D.int f.1,D.int f.2.1,D.int f.2.2.1,D.int f.2.2.2]=fd at *
 generalize hs:Sl.sh (D.lst ro [D.tup [D.int a.1,D.int a.2.1,D.int a.2.2.1,D.int a.2.2.2],D.tup [D.int b.1,D.int b.2.1,D.int b.2.2.1,D.int b.2.2.2]])=s0 at *
 refine Wo.mono (P:=λq=>q=(.nx,[s0,.sh (.int L),.sh (.int P),.ow (([(L,L,P,0)]++(if bq f>0 then [(L+1,L+bq f,P+f.2.2.2,f.2.2.2)] else []):List Row).map Row.d),.sh fd,.sh (.int (bq f))])) ?_ λq hq=>?_
 .rw [a2b,<-hd]
  walk_at "vc"
  refine ⟨λh=>?_,λh=>?_⟩
  .rw [if_pos h];rfl
  .rw [if_neg h];rfl
 subst hq
 walk_at "v1"
 rw [<-hd]
 walk_at "v1"
 refine ⟨hm,?_⟩
 rw [show g.2.1-g.1=bq g from rfl]
 refine Wo.mono (P:=λq=>∃x4 x5,q=(.nx,[s0,.sh (.int (L+bq f)),.sh (.int (P+f.2.2.2*bq f)),.ow ((([(L,L,P,0)]++(if bq f>0 then [(L+1,L+bq f,P+f.2.2.2,f.2.2.2)] else []))++(if bq g>0 then [(L+bq f+1,L+bq f+bq g,P+f.2.2.2*bq f+g.2.2.2,g.2.2.2)] else []):List Row).map Row.d),x4,x5])/\x4=.sh (.tup [.int g.1,.int g.2.1,.int g.2.2.1,.int g.2.2.2])/\x5=.sh (.int (bq g))) ?_ λq hq=>?_
 .rw [a2b]
  walk_at "vc"
  refine ⟨λh=>?_,λh=>?_⟩
  .rw [if_pos h]
   refine ⟨by by_cases h1:bq f>0<;>simp [h1],_,_,?_,rfl,rfl⟩
   rw [e8 (l₂:=[(L+bq f+1,L+bq f+bq g,P+f.2.2.2*bq f+g.2.2.2,g.2.2.2)])]
   rfl
  .rw [if_neg h,mM]
   exact ⟨_,_,rfl,rfl,rfl⟩
 obtain ⟨x4,x5,rfl,rfl,rfl⟩:=hq
 walk_at "v1"
 refine ⟨vk,?_⟩
 rw [Aq,Ad (by rfl)]
 walk_at "v1"
 rw [ef]
 walk_at "vc"
theorem XY{a b:Row}(ha:PB a)(hb:PB b){ro:Bool}:∃fs:List Row,uP [.lst ro [a.d,b.d]]=some (.sh (.tup (fs.map Row.d)))/\Canon fs/\fs.length<=3/\∀x c,Val fs x c↔Conv a b x c:=by
 by_cases h:b.2.2.2<a.2.2.2
 .obtain ⟨fs,e,L⟩:=N9 ha hb (f:=b) (g:=a) (by rw [if_pos h]) hb ha (by ext) (by ext) (ro:=ro)
  exact ⟨fs,e,L.canon,dE L.len (Jm _ _),λx c=>by rw [L.val,ON hb.1 ha.1 (by ext h)];exact ⟨Conv.sym,Conv.sym⟩⟩
 .obtain ⟨fs,e,L⟩:=N9 ha hb (f:=a) (g:=b) (by rw [if_neg h]) ha hb rfl rfl (ro:=ro)
  exact ⟨fs,e,L.canon,dE L.len (Jm _ _),λx c=>by rw [L.val,ON ha.1 hb.1 (by ext h)]⟩
theorem FV.pb{f:List Row}(h:FV (10^60) (10^130) f):∀r∈f,PB r:=λr hr=>by
 have k:=O4 h.canon (by decide) h.bd r hr
 have o:=h.canon.dq.1 r hr
 have v:=(h.bd r.2.1 _ (jR h.canon.dq hr o (gx _))).2
 unfold PB
 ext k o v
theorem MY{i:Nat}{m n:Int}{f:En->Option Sl}{env:En}{Q:Fl×En->Prop}(e1:env[i]?=some (.sh (.int m)))(e2:f env=some (.sh (.int n)))(hc:j9 m n)(h:Q (.nx,env.set i (.sh (.int (m*n))))):Wo (C6 i f env) Q:=
 ⟨_,by unfold C6 C5;rw [e1];dsimp only;rw [e2];dsimp only;rw [if_pos hc],h⟩
theorem Io(A B:List Row)(l1:A.length<=900000)(l2:B.length<=900000){ro:Bool}:wy [.lst ro [.tup (A.map Row.d),.tup (B.map Row.d)]]=some (.sh (.int (A.length*B.length))):=by
 refine Wo.eq (fG.mpr ?_)
 unfold KD
 walk_at "vc"
 refine MY (m:=1) (n:=A.length) rfl (by show some (Sl.sh (.int ((A.map Row.d).length:Int)))=_;rw [bB]) (.inl ⟨by ext,by ext⟩) ?_
 refine ⟨by simp,?_⟩
 refine MY (m:=1*A.length) (n:=B.length) rfl (by show some (Sl.sh (.int ((B.map Row.d).length:Int)))=_;rw [bB]) (.inl ⟨by ext,by ext l1⟩) ?_
 rw [Int.one_mul]
 exact rfl
noncomputable def pairD(A B:List Row):List D:=A.flatMap λr=>B.map λs=>.lst false [r.d,s.d]
theorem Pt(A B:List Row):(pairD A B).length=A.length*B.length:=by
 unfold pairD
 induction A with
 | nil=>simp
 | cons a A ih=>rw [vH,bQ,ih,bB,iD,zt,GS];ext
theorem YB{A B:List Row}(ha:A≠[])(hb:B≠[])(hp:A.length*B.length<=100){ro:Bool}:we [.lst ro [.tup (A.map Row.d),.tup (B.map Row.d)]]=some (.sh (.lst false (pairD A B))):=by
 have h1:=pf.mpr ha
 have h2:=pf.mpr hb
 have h3:0<A.length*B.length:=Nat.mul_pos h1 h2
 have l1:A.length<=A.length*B.length:=Nat.le_mul_of_pos_right _ h2
 have l2:B.length<=A.length*B.length:=Nat.le_mul_of_pos_left _ h1
 have em:=Io A B (by ext hp l1) (by ext hp l2) (ro:=ro)
 have ez:(A.length:Int)*B.length=((A.length*B.length:Nat):Int):=by rw [Int.natCast_mul]
 rw [ez] at em
 refine Wo.eq (mi.mpr ?_)
 unfold Dj
 walk_at "v1"
 generalize hN:A.length*B.length=N at *
 refine px ?_ ?_
 .walk_at "vc"
  rw [em]
  walk_at "vc"
  simp
  ext hp
 walk_at "v1"
 refine px ?_ ?_
 .walk_at "vc"
  rw [em]
  walk_at "vc"
  simp
  ext h3
 walk_at "v1"
 rw [uJ Row.d (λr=>.lst false [r.d]) (λe=>∃x0,e=[x0,.sh (.lst false [])]) A (λr hr e he=>?_) ⟨_,rfl⟩]
 .rw [bB,a0g]
  refine ⟨by ext hp l1,by rw [bB];ext hp l1,?_⟩
  walk_at "v1"
  rw [Cr]
  rw [Aq,Ad (by rfl)]
  walk_at "v1"
  refine nI (λr:Row=>D.lst false [r.d]) (λpre env=>∃x4,env=[.sh (.lst ro [.tup (A.map Row.d),.tup (B.map Row.d)]),.sh (.lst false (A.map λr=>.lst false [r.d])),.sh (.tup (B.map Row.d)),.ow (pairD pre B),x4]) A (λpre r post env e h=>?_) (λenv h=>?_) ⟨_,rfl⟩
  .obtain ⟨x4,rfl⟩:=h
   have dO:=Pt pre B
   have BJ:pre.length*B.length+B.length<=N:=by
    rw [<-hN,e,bQ,iD,zt,zt,GS]
    ext
   walk_at "v1"
   rw [uJ Row.d (λs=>.lst false [r.d,s.d]) (λe=>∃x0,e=[x0,.sh (.lst false [r.d])]) B (λs hs e he=>?_) ⟨_,rfl⟩]
   .rw [bB,a0g]
    walk_at "v1"
    rw [bB]
    refine ⟨by ext hp l2,by ext hp dO BJ,.sh (.lst false [r.d]),?_⟩
    unfold pairD
    rw [MB]
    simp
   .obtain ⟨x0,rfl⟩:=he
    walk_at "vc"
    exact ⟨⟨_,rfl⟩,rfl⟩
  .obtain ⟨x4,rfl⟩:=h
   walk_at "v1"
   rw [Aq,Ad (by rfl)]
   walk_at "vc"
 .obtain ⟨x0,rfl⟩:=he
  walk_at "vc"
  exact ⟨⟨_,rfl⟩,rfl⟩
noncomputable def fX(A B:List Row):List (Row×Row):=A.flatMap λr=>B.map λs=>(r,s)
theorem Ot(A B:List Row):pairD A B=(fX A B).map λp=>.lst false [p.1.d,p.2.d]:=by
 unfold pairD fX
 rw [List.map_flatMap]
 simp only [jh]
 rfl
theorem az{A B:List Row}{p:Row×Row}:p∈fX A B↔p.1∈A/\p.2∈B:=by
 unfold fX
 simp only [zH,e7]
 constructor
 .rintro ⟨r,hr,s,hs,rfl⟩;exact ⟨hr,hs⟩
 .rintro ⟨h1,h2⟩;exact ⟨p.1,h1,p.2,h2,rfl⟩
theorem pairs_len(A B:List Row):(fX A B).length=A.length*B.length:=by
 rw [<-Pt,Ot,bB]
theorem YC{A B:List Row}(hA:FV (10^60) (10^130) A)(hB:FV (10^60) (10^130) B)(ha:A≠[])(hb:B≠[]){n m:Nat}(hp:A.length*B.length<=n)(hn:n<=100)(LO:wJ r9 n m):∃fs:List Row,rZ [.tup (A.map Row.d),.tup (B.map Row.d)]=some (.sh (.tup (fs.map Row.d)))/\Canon fs/\(∀x c,look fs x=some c↔nJ A B x c)/\fs.length<=m:=by
 have one:∀p:Row×Row,∃f:List Row,PB p.1/\PB p.2->uP [.lst false [p.1.d,p.2.d]]=some (.sh (.tup (f.map Row.d)))/\Canon f/\f.length<=3/\∀x c,Val f x c↔Conv p.1 p.2 x c:=λp=>by
  by_cases h:PB p.1/\PB p.2
  .obtain ⟨f,e⟩:=XY h.1 h.2 (ro:=false)
   exact ⟨f,λ_=>e⟩
  .exact ⟨[],λz=>absurd z h⟩
 obtain ⟨ff,FL⟩:=Classical.axiomOfChoice one
 have Fu:∀p∈fX A B,PB p.1/\PB p.2:=λp hp=>⟨hA.pb _ (az.mp hp).1,hB.pb _ (az.mp hp).2⟩
 have bo:(fX A B).map ff≠[]:=HB (by rw [bB,pairs_len];exact Nat.mul_pos (pf.mpr ha) (pf.mpr hb))
 have hF:∀f∈(fX A B).map ff,FV (2*10^60) (2*10^130) f/\f.length<=3:=λf hf=>by
  obtain ⟨p,hp,rfl⟩:=e7.mp hf
  obtain ⟨e1,e2,e3,e4⟩:=FL p (Fu p hp)
  refine ⟨⟨e2,λx c h=>?_⟩,e3⟩
  obtain ⟨⟨y,z,hy,hz,k,rfl⟩,_⟩:=(e4 x c).mp ((r6 e2.dq).mp h)
  have b1:=hA.bd y _ (jR hA.canon.dq (az.mp hp).1 hy.1 hy.2)
  have b2:=hB.bd z _ (jR hB.canon.dq (az.mp hp).2 hz.1 hz.2)
  ext k b1 b2
 obtain ⟨fs,e,c,mf,lf⟩:=LO (V:=2*10^60) (C:=2*10^130) (r:=false) (by decide) (by decide) hF bo (by rw [bB,pairs_len];exact hp)
 refine ⟨fs,?_,c,λx v=>?_,lf⟩
 .refine Wo.eq (mh.mpr ?_)
  unfold Dk
  walk_at "v1"
  have el:wG [.lst false [.tup (A.map Row.d),.tup (B.map Row.d)]]=some (.sh (.tup (fs.map Row.d))):=by
   refine Wo.eq (dF.mpr ?_)
   unfold D0
   walk_at "v1"
   rw [YB ha hb (by ext hp hn)]
   walk_at "v1"
   rw [Ot,uJ (λp:Row×Row=>D.lst false [p.1.d,p.2.d]) (λp=>.tup ((ff p).map Row.d)) (λe=>∃x0,e=[x0]) (fX A B) (λp hp e he=>?_) ⟨_,rfl⟩]
   .walk_at "v1"
    rw [jh] at e
    rw [bB,pairs_len]
    refine ⟨by ext hp hn,?_⟩
    rw [show (λp=>D.tup ((ff p).map Row.d))=(λf:List Row=>D.tup (f.map Row.d))∘ff from rfl,e]
    walk_at "vc"
   .obtain ⟨x0,rfl⟩:=he
    walk_at "vc"
    rw [(FL p (Fu p hp)).1]
    walk_at "vc"
    exact ⟨_,rfl⟩
  rw [el]
  walk_at "vc"
 .rw [<-Nw hA.canon.dq.1 hB.canon.dq.1,mf x v]
  unfold Pk
  have cv:∀p∈fX A B,∀w,look (ff p) x=some w↔Conv p.1 p.2 x w:=λp hp w=>by
   obtain ⟨_,e2,_,e4⟩:=FL p (Fu p hp)
   rw [r6 e2.dq,e4]
  constructor
  .rintro ⟨⟨f,hf,k⟩,m⟩
   obtain ⟨p,hp,rfl⟩:=e7.mp hf
   refine ⟨⟨p.1,(az.mp hp).1,p.2,(az.mp hp).2,(cv p hp v).mp k⟩,λr hr s hs c' h'=>m _ (e7.mpr ⟨(r,s),az.mpr ⟨hr,hs⟩,rfl⟩) c' ((cv (r,s) (az.mpr ⟨hr,hs⟩) c').mpr h')⟩
  .rintro ⟨⟨r,hr,s,hs,k⟩,m⟩
   refine ⟨⟨ff (r,s),e7.mpr ⟨(r,s),az.mpr ⟨hr,hs⟩,rfl⟩,(cv (r,s) (az.mpr ⟨hr,hs⟩) v).mpr k⟩,λf hf w hw=>?_⟩
   obtain ⟨p,hp,rfl⟩:=e7.mp hf
   exact m p.1 (az.mp hp).1 p.2 (az.mp hp).2 w ((cv p hp w).mp hw)
theorem Zk{A B:List Row}(h:A=[]\/B=[])(l1:A.length<=900000)(l2:B.length<=900000):rZ [.tup (A.map Row.d),.tup (B.map Row.d)]=some (.sh (.tup [])):=by
 refine Wo.eq (mh.mpr ?_)
 unfold Dk
 walk_at "v1"
 have ez:(A.length:Int)*B.length=0:=by rcases h with rfl | rfl<;>simp
 have ep:we [.lst false [.tup (A.map Row.d),.tup (B.map Row.d)]]=some (.ow []):=by
  refine Wo.eq (mi.mpr ?_)
  unfold Dj
  walk_at "v1"
  refine px ?_ ?_
  .walk_at "vc"
   rw [Io A B l1 l2,ez]
   walk_at "vc"
  walk_at "vc"
  rw [Io A B l1 l2,ez]
  walk_at "vc"
 have el:wG [.lst false [.tup (A.map Row.d),.tup (B.map Row.d)]]=some (.sh (.tup [])):=by
  refine Wo.eq (dF.mpr ?_)
  unfold D0
  walk_at "v1"
  rw [ep]
  walk_at "v1"
  rw [show r9 [.lst false []]=some (.sh (.tup [])) from Wo.eq (dX.mpr (by
   unfold Ky
   walk_at "vc"
   exact λz=>nomatch z))]
  walk_at "vc"
 rw [el]
 walk_at "vc"
theorem zd{A B:List Row}(hA:FV (10^60) (10^130) A)(hB:FV (10^60) (10^130) B)(l1:A.length<=900000)(l2:B.length<=900000){n m:Nat}(hp:A.length*B.length<=n)(hn:n<=100)(LO:wJ r9 n m):∃fs:List Row,rZ [.tup (A.map Row.d),.tup (B.map Row.d)]=some (.sh (.tup (fs.map Row.d)))/\Canon fs/\(∀x c,look fs x=some c↔nJ A B x c)/\fs.length<=m:=by
 by_cases h:A=[]\/B=[]
 .refine ⟨[],Zk h l1 l2,⟨λr hr=>(nomatch hr),trivial⟩,λx c=>⟨λz=>(nomatch z),λz=>?_⟩,jM _⟩
  obtain ⟨⟨y,w,cy,cw,⟨r,hr,_⟩,⟨s,hs,_⟩,_⟩,_⟩:=z
  rcases h with rfl | rfl
  .cases hr
  .cases hs
 .exact YC hA hB (λz=>h (.inl z)) (λz=>h (.inr z)) hp hn LO
theorem X4{A B fs:List Row}{V C:Int}(hA:FV V C A)(hB:FV V C B)(c:Canon fs)(h:∀x v,look fs x=some v↔nJ A B x v):FV (2*V) (2*C) fs:=⟨c,λx v e=>by
 obtain ⟨⟨y,z,cy,cz,hy,hz,k,rfl⟩,_⟩:=(h x v).mp e
 have b1:=hA.bd y cy ((r6 hA.canon.dq).mpr hy)
 have b2:=hB.bd z cz ((r6 hB.canon.dq).mpr hz)
 ext k b1 b2⟩
theorem CT(i:Int):A4 [.int i]=some (.sh (.bl true)):=by
 refine Wo.eq (lQ.mpr ?_)
 unfold J5
 walk_at "go"
theorem zf{r:Row}(ok:oE r):A8 [r.d]=some (.sh (.bl true)):=by
 refine Wo.eq (eE.mpr ?_)
 unfold KG
 unfold oE at ok
 rw [cq]
 walk_at "v1"
 refine px ?_ ?_
 .walk_at "vc"
 walk_at "v1"
 refine px ?_ ?_
 .walk_at "vc"
  rw [CT,CT,CT,CT]
  walk_at "vc"
  simp
 walk_at "vc"
 by_cases h:r.1<r.2.1
 .simp [h]
 .have h2:r.1=r.2.1:=by ext ok h
  simp [h,h2,ok.2 h2]
theorem Gk{a r:Row}(ok:oE a)(y6:v5 a r)(h1:aw (10^140) a)(h2:aw (10^140) r):A3 [a.d,r.d]=some (.sh (.bl true)):=by
 refine Wo.eq (jn.mpr ?_)
 unfold Ko
 unfold oE at ok
 unfold aw at h1 h2
 unfold v5 at y6
 rw [cq r]
 walk_at "v1"
 rw [a2b,cq a]
 walk_at "v1"
 rw [<-cq a,CU,I9 (by ext h1) (by ext h1) (by ext ok y6) (by ext h1 h2)]
 walk_at "vc"
 refine ⟨λh=>?_,λh=>⟨λh2=>?_,λh2=>?_⟩⟩
 .simp;ext y6
 .have:=(y6.2 h).2
  simp [this]
 .have:=(y6.2 h).1
  exact absurd h2 (by ext this)
theorem zip_rows{α β:Type}{f:α->D}{g:β->D}(xs:List α)(ys:List β):gW (xs.map f) (ys.map g)=(xs.zip ys).map λp=>.tup [f p.1,g p.2]:=by
 unfold gW
 rw [List.zipWith_map,List.zip,List.map_zipWith]
theorem a97{R:Row->Row->Prop}:∀{rs:List Row},a9 R rs->∀p∈rs.zip (rs.drop 1),R p.1 p.2:=λ{rs} h p hp=>by
 obtain ⟨k,hk,rfl⟩:=mI.mp hp
 simp at hk ⊢
 have:=h.get k (by ext hk:1)
 simpa [Nat.add_comm] using this
theorem zg{rs:List Row}(hc:Canon rs)(hb:∀r∈rs,aw (10^140) r)(hl:rs.length<=900000):A7 [.tup (rs.map Row.d)]=some (.sh (.bl true)):=by
 refine Wo.eq (mX.mpr ?_)
 unfold Jf
 walk_at "v1"
 refine px ?_ ?_
 .walk_at "vc"
 walk_at "v1"
 refine px ?_ ?_
 .walk_at "vc"
  rw [bB]
  refine ⟨by ext hl,?_⟩
  rw [uJ Row.d (λ_=>.bl true) (λe=>∃x,e=[x]) rs (λr hr e ⟨x,hx⟩=>by
   subst hx
   walk_at "vc"
   rw [zf (hc.1 r hr)]
   walk_at "vc"
   exact ⟨_,rfl⟩) ⟨_,rfl⟩]
  rw [a0g,show rs.map (λ_=>D.bl true)=(rs.map λ_=>true).map D.bl by rw [jh];rfl,b1b]
  simp
 walk_at "v1"
 rw [Jc,show iZ rs (some 1) none=rs.drop 1 from b0N rs (n:=1),zip_rows]
 refine ⟨by simp;lia,?_⟩
 rw [uJ (λ(p:Row×Row)=>D.tup [p.1.d,p.2.d]) (λ_=>.bl true) (λe=>∃x y,e=[x,y]) (rs.zip (rs.drop 1)) (λp hp e ⟨x,y,hx⟩=>by
  subst hx
  have m1:=(uv hp).1
  have m2:=rM (uv hp).2
  walk_at "vc"
  rw [Gk (hc.1 _ m1) (a97 hc.2 p hp) (hb _ m1) (hb _ m2)]
  walk_at "vc"
  exact ⟨_,_,rfl⟩) ⟨_,_,rfl⟩]
 rw [a0g,show (rs.zip (rs.drop 1)).map (λ_=>D.bl true)=((rs.zip (rs.drop 1)).map λ_=>true).map D.bl by rw [jh];rfl,b1b]
 simp
theorem Im(n f:Int)(h:0<=f/\f<2^62):∃m:Int,uQ [.int n,.int f]=some (.sh (.int m))/\0<=m/\m<2147483629:=by
 refine ⟨n%2147483629*f%2147483629,?_,nD _ (by decide),ny _ (by decide)⟩
 refine Wo.eq (jU.mpr ?_)
 unfold JN
 walk_at "vc"
 exact .inr (.inl (by ext h))
theorem YT{rs:List Row}{q:Row}(h:rs.getLast?=some q):dQ (rs.map Row.d) (-1)=some q.d:=by
 obtain ⟨pre,rfl⟩:=MU.mp h
 rw [e8]
 exact fg
def dS(i:Nat)(r:Row):Prop:=r.1<=r.2.1/\r.2.1-r.1<=10^41/\(-(10^50+i*10^42)<=r.1/\r.1<=10^50+i*10^42)/\(-(10^41+i*10^84)<=r.2.2.1/\r.2.2.1<=10^41+i*10^84)/\(-(10^42)<=r.2.2.2/\r.2.2.2<=10^42)
theorem b0C{n:Int}(hn:0<=n/\n<10^18){ro:Bool}{rs:List Row}{i:Nat}(hi:i<=10)(hl:rs.length<=10)(hb:∀r,rs.getLast?=some r->dS i r):∃r:Row,wA [.int n,.lst ro (rs.map Row.d)]=some (.sh r.d)/\dS (i+1) r/\∀q,rs.getLast?=some q->q.2.1<r.1:=by
 have key:Wo (wA [.int n,.lst ro (rs.map Row.d)]) λs=>∃r:Row,s=.sh r.d/\dS (i+1) r/\∀q,rs.getLast?=some q->q.2.1<r.1:=by
  refine ir.mpr ?_
  unfold Kx
  obtain ⟨one,e1,b1⟩:=Im n 1583458089 (by decide)
  obtain ⟨two,e2,b2⟩:=Im n 784588716 (by decide)
  obtain ⟨three,e3,b3⟩:=Im n 950706376 (by decide)
  walk_at "v1"
  have f1:=nD (n*48271^12) (show (10^50:Int)≠0 by decide)
  have f2:=ny (n*48271^12) (show (0:Int)<10^50 by decide)
  have w1:=nD (n*69621^12) (show (10^40:Int)≠0 by decide)
  have w2:=ny (n*69621^12) (show (0:Int)<10^40 by decide)
  generalize n*48271^12%10^50=far at *
  generalize n*69621^12%10^40=wide at *
  rw [e1]
  walk_at "v1"
  rw [e2]
  walk_at "v1"
  rw [e3]
  walk_at "v1"
  refine ⟨by decide,.inl (by ext hn),by decide,by decide,by decide,.inl (by ext hn),by decide,by decide,?_⟩
  walk_at "st"
  refine AB [0,one/7%41-20,far-5*10^49] (nD _ (by decide)) (ny _ (by decide)) λlow yD=>?_
  have yD:-(10^50)<=low/\low<=10^50:=by simp at yD;lia
  walk_at "v1"
  walk_at "st"
  refine AB [two/5%61-30,wide-5*10^39] (nD _ (by decide)) (ny _ (by decide)) λprice n6=>?_
  have n6:-(10^41)<=price/\price<=10^41:=by simp at n6;lia
  walk_at "v1"
  walk_at "st"
  refine AB [0,three/9%7-3,three/9%7-3,far/10^9-5*10^40] (nD _ (by decide)) (ny _ (by decide)) λstep qV=>?_
  have qV:-(10^42)<=step/\step<=10^42:=by simp at qV;lia
  walk_at "v1"
  walk_at "st"
  refine AB [1,2,1+one/300%9,1+wide] (nD _ (by decide)) (ny _ (by decide)) λsize qX=>?_
  have qX:1<=size/\size<=10^41:=by simp at qX;lia
  walk_at "v1"
  rw [a2b]
  walk_at "v1"
  rw [bB]
  cases hq:rs.getLast? with
  | none =>
   have:rs=[]:=List.getLast?_eq_none_iff.mp hq
   subst this
   refine ⟨λz=>absurd z (by simp),λ_=>?_⟩
   walk_at "vc"
   exact ⟨(low,low+size-1,price,step),rfl,(by unfold dS;dsimp only;lia:dS (i+1) (low,low+size-1,price,step))⟩
  | some q =>
   have qc:=hb q hq
   refine ⟨λ_=>?_,λz=>absurd z (by
    have:rs≠[]:=λw=>by rw [w] at hq;cases hq
    have:=pf.mpr this
    ext this)⟩
   rw [YT hq,a0g,cq q]
   walk_at "v1"
   unfold dS at qc
   refine ⟨AE (by decide) (by decide),by decide,by decide,AE (by decide) (by decide),?_⟩
   refine AB [0,0,1+two/3000%5,far%10^40] (nD _ (by decide)) (ny _ (by decide)) λgap tI=>?_
   have tI:0<=gap/\gap<=10^40:=by simp at tI;lia
   walk_at "v1"
   have hmul:=M9 (a:=q.2.2.2) (b:=q.2.1-q.1+1) (A:=10^42) (B:=10^41+1) (by ext qc) (by ext qc) (by ext qc) (by ext qc)
   refine X2 (λd=>∃p:Int,d=.int p /\ -(10^41+((i+1:Nat):Int)*10^84)<=p/\p<=10^41+((i+1:Nat):Int)*10^84) (by simp) ?_ λd hd=>?_
   .walk_at "vc"
    refine ⟨AE (by decide) (by decide),λ_=>⟨Ay (by ext qc) (by ext qc) (by ext qc) (by ext qc),AE (by decide) (by decide),_,rfl,by lia,by lia⟩,λ_=>⟨_,rfl,_,rfl,by lia,by lia⟩⟩
   obtain ⟨p,rfl,hp⟩:=hd
   walk_at "vc"
   exact ⟨(q.2.1+1+gap,q.2.1+1+gap+size-1,p,step),rfl,(by unfold dS;dsimp only;lia:dS (i+1) (q.2.1+1+gap,q.2.1+1+gap+size-1,p,step)),λq' z=>by cases z;dsimp only;ext tI⟩
 obtain ⟨s,e,r,rfl,h⟩:=key
 exact ⟨r,e,h⟩
theorem Zs{rs:List Row}{r:Row}(h:dU rs)(hr:r.1<=r.2.1)(hl:∀q,rs.getLast?=some q->q.2.1<r.1):dU (rs++[r]):=by
 have n9:∀q∈rs,q.2.1<r.1:=λq hq=>by
  obtain ⟨z,hz⟩:∃z,rs.getLast?=some z:=⟨_,MH (List.ne_nil_of_mem hq)⟩
  obtain ⟨pre,e⟩:=MU.mp hz
  subst e
  have h1:=hl z hz
  rcases bK.mp hq with hm | hm
  .have:=(fI.mp h.2).2.2 q hm z (by simp)
   have:=h.1 z (by simp)
   lia
  .rw [cJ.mp hm];exact h1
 refine ⟨λq hq=>?_,fI.mpr ⟨h.2,nq _ _,λa ha b hb=>?_⟩⟩
 .rcases bK.mp hq with h' | h'
  .exact h.1 q h'
  .rw [cJ.mp h'];exact hr
 .rw [cJ.mp hb];exact n9 a ha
theorem dS.mono{i j:Nat}{r:Row}(h:dS i r)(eG:i<=j):dS j r:=by
 unfold dS at *
 omega
theorem XZ{ls:List Int}(hb:∀n∈ls,0<=n/\n<10^18)(hl:ls.length<=4){ro:Bool}:∃rs:List Row,sd [.lst ro (ls.map D.int)]=some (.ow (rs.map Row.d))/\rs.length=ls.length/\dU rs/\∀r∈rs,dS 4 r:=by
 have key:Wo (sd [.lst ro (ls.map D.int)]) λs=>∃rs:List Row,s=.ow (rs.map Row.d)/\rs.length=ls.length/\dU rs/\∀r∈rs,dS 4 r:=by
  refine lM.mpr ?_
  unfold J'
  walk_at "v1"
  refine nI D.int (λpre env=>∃x2,∃rs:List Row,env=[.sh (.lst ro (ls.map D.int)),.ow (rs.map Row.d),x2]/\rs.length=pre.length/\dU rs/\∀r∈rs,dS pre.length r) ls (λpre n post env e h=>?_) (λenv h=>?_) ⟨_,[],rfl,rfl,⟨λ_ z=>(nomatch z),.nil⟩,λ_ z=>(nomatch z)⟩
  .obtain ⟨x2,rs,rfl,h1,h2,h3⟩:=h
   have dO:pre.length<4:=by have:=congrArg nk e;simp at this;ext hl this
   obtain ⟨r,er,hr,hq⟩:=b0C (hb n (by rw [e];simp)) (rs:=rs) (i:=pre.length) (ro:=false) (by ext dO) (by ext h1 dO) (λr hr=>h3 r (Hb hr))
   walk_at "v1"
   refine Zx (ds:=rs.map Row.d) rfl ?_
   walk_at "v1"
   rw [er]
   walk_at "v1"
   rw [bB]
   refine ⟨r.d,rfl,rfl,by ext h1 dO,_,rs++[r],by rw [e8];rfl,by simp;ext h1,Zs h2 hr.1 hq,λq dt=>?_⟩
   rw [bQ]
   rcases bK.mp dt with h | h
   .exact (h3 q h).mono (by simp)
   .rw [cJ.mp h];exact hr
  .obtain ⟨x2,rs,rfl,h1,h2,h3⟩:=h
   walk_at "vc"
   exact ⟨rs,rfl,h1,h2,λr hr=>(h3 r hr).mono hl⟩
 obtain ⟨s,e,rs,rfl,h⟩:=key
 exact ⟨rs,e,h⟩
theorem dS.bd{r:Row}(h:dS 4 r):aw (10^140) r:=by
 unfold dS at h
 unfold aw
 omega
noncomputable def tV(ls:List Int)(a c:Int):List Int:=(jt (dA a ls.length c)).map λ(j:Nat)=>ls.getD (a+(j:Int)*c).toNat 0
theorem YK{ls:List Int}(h:∀v∈ls,0<=v/\v<10^18)(k:Nat):0<=ls.getD k 0/\ls.getD k 0<10^18:=by
 by_cases hk:k<ls.length
 .rw [show ls.getD k 0=ls[k] by simp [hk]]
  exact h _ (nr hk)
 .rw [show ls.getD k 0=0 by simp [G0 hk]]
  decide
theorem N7{ls:List Int}{a c:Int}(ha:0<=a)(hc:0<c):lG (gN 0) mR (av (bV 1) (eV 0)) (iN a c (dA a ls.length c)) [.no,.sh (.lst false (ls.map D.int))]=some ((tV ls a c).map D.int):=by
 unfold iN
 rw [uJ (λ(j:Nat)=>D.int (a+(j:Int)*c)) (λj=>D.int (ls.getD (a+(j:Int)*c).toNat 0)) (λe=>∃x,e=[x,.sh (.lst false (ls.map D.int))]) (jt (dA a ls.length c)) (λj hj e he=>?_) ⟨_,rfl⟩]
 .unfold tV
  rw [jh]
  rfl
 .obtain ⟨x,rfl⟩:=he
  have qb:=zA.mp hj
  have U':a+j*c<ls.length:=by
   unfold dA at qb
   split at qb
   .have h0:0<=((ls.length:Int)-a-1)/c:=G6 (by lia) (by ext hc)
    have h1:(j:Int)<=((ls.length:Int)-a-1)/c:=by ext qb
    have h2:=(Md hc).mp h1
    ext h2
   .ext qb
  have UZ:(0:Int)<=j*c:=vK (by ext) (by ext hc)
  walk_at "vc"
  rw [DB 0 (by ext ha UZ) U']
  walk_at "vc"
  exact ⟨_,rfl⟩
theorem IM{ls:List Int}{a:Int}(ha:0<=a){c:Int}(hc:2<=c)(hl:ls.length<=6):(tV ls a c).length<=3:=by
 unfold tV dA
 rw [bB,vR]
 split
 .have:((ls.length:Int)-a-1)/c<3:=Int.ediv_lt_of_lt_mul (by ext hc) (by ext ha hc hl)
  ext this
 .ext
theorem NO{ls:List Int}(h:∀v∈ls,0<=v/\v<10^18)(a c:Int):∀v∈tV ls a c,0<=v/\v<10^18:=λv hv=>by
 unfold tV at hv
 obtain ⟨j,_,rfl⟩:=e7.mp hv
 exact YK h _
theorem NL{ls:List Int}(hb:∀v∈ls,0<=v/\v<10^18)(hl:ls.length<=4):∃rs fs:List Row,sd [.lst false (ls.map D.int)]=some (.ow (rs.map Row.d))/\pG [.lst false (rs.map Row.d)]=some (.sh (.tup (fs.map Row.d)))/\Laid rs fs/\FV (10^52) (10^86) fs/\fs.length<=ls.length/\dU rs/\(∀r∈rs,dS 4 r)/\rs.length=ls.length:=by
 obtain ⟨rs,er,h1,h2,h3⟩:=XZ hb hl (ro:=false)
 obtain ⟨fs,ef,L⟩:=Ik h2 (λr hr=>(h3 r hr).bd) (by ext hl h1) (ro:=false)
 refine ⟨rs,fs,er,ef,L,⟨L.canon,λx c h=>?_⟩,by have:=L.len;ext h1 this,h2,h3,h1⟩
 obtain ⟨r,hr,k1,k2,rfl⟩:=(L.val x c).mp ((r6 L.canon.dq).mp h)
 have b:=h3 r hr
 unfold dS at b
 have m:=M9 (a:=r.2.2.2) (b:=x-r.1) (A:=10^42) (B:=10^41) (by ext b) (by ext b) (by ext k1) (by ext k2 b)
 unfold Row.at
 omega
theorem NX{V C V' C':Int}{f:List Row}(h:FV V C f)(h1:V<=V')(h2:C<=C'):FV V' C' f:=⟨h.canon,λx c e=>by have:=h.bd x c e;ext h1 h2 this⟩
theorem Nc{ls:List Int}(hl:ls.length<=6){a c:Int}(ha:0<=a/\a<=10)(hc:2<=c/\c<=10):jZ a ls.length c/\(iN a c (dA a ls.length c)).length<=16777216:=by
 have:=IM (ls:=ls) ha.1 hc.1 hl
 unfold tV at this
 rw [bB,vR] at this
 refine ⟨⟨⟨by ext hc,by ext hc⟩,⟨by ext ha,by ext ha⟩,by ext,by ext hl⟩,?_⟩
 unfold iN
 rw [bB,vR]
 ext this
theorem T1:wJ r9 16 12288:=
 DE (n:=8) (m:=1536) (by decide) (by decide) (by decide) (DE (n:=4) (m:=192) (by decide) (by decide) (by decide) (DE (n:=2) (m:=24) (by decide) (by decide) (by decide) (DE (n:=1) (m:=3) (by decide) (by decide) (by decide) (OB (φ:=Bb) a6o) (φ:=wB) a6n) (φ:=wC) a6m) (φ:=wD) a6l) (φ:=wF) dX
theorem X0{A B:List Row}(hA:FV (10^52) (10^86) A)(hB:FV (10^52) (10^86) B)(l1:A.length<=3)(l2:B.length<=3):∃fs:List Row,rZ [.tup (A.map Row.d),.tup (B.map Row.d)]=some (.sh (.tup (fs.map Row.d)))/\Canon fs/\(∀x c,look fs x=some c↔nJ A B x c)/\fs.length<=12288:=
 zd (NX hA (by decide) (by decide)) (NX hB (by decide) (by decide)) (by ext l1) (by ext l2) (n:=16) (dE (zx l1 l2) (by decide)) (by decide) T1
noncomputable def gk(l:Int×Int)(x:Int):Int:=l.1+l.2*x
def sk(Ls:List (Int×Int))(h:Int->Option Int)(x:Int):Prop:=(h x=none/\h (x+1)=none)\/∃l∈Ls,h x=some (gk l x)/\h (x+1)=some (gk l (x+1))
def mm(l m:Int×Int)(x:Int):Prop:=(gk l x<=gk m x/\gk m (x+1)<=gk l (x+1))\/(gk m x<=gk l x/\gk l (x+1)<=gk m (x+1))
structure Str(Ls:List (Int×Int))(B:List Int)(h:Int->Option Int):Prop where
 sm:∀x,x∉B->sk Ls h x
 cl:∀l∈Ls,∀m∈Ls,l≠m->∀x,mm l m x->x∈B
theorem DD(l:Int×Int)(x:Int):gk l (x+1)=gk l x+l.2:=by unfold gk;rw [zr,rD];ext
theorem Xa{l m:Int×Int}{x:Int}(h:gk l x=gk m x):mm l m x:=by
 unfold mm
 rw [DD,DD]
 rcases Int.le_total l.2 m.2 with k | k
 .right;ext h k
 .left;ext h k
noncomputable def vt(l m:Int×Int):Int:=if l.2<m.2 then (l.1-m.1)/(m.2-l.2) else (m.1-l.1)/(l.2-m.2)
noncomputable def vv(l m:Int×Int):List Int:=[vt l m-1,vt l m,vt l m+1]
theorem I0{l m:Int×Int}(bo:l≠m){x:Int}(h:mm l m x):x∈vv l m:=by
 have hs:l.2≠m.2:=λe=>by
  unfold mm gk at h
  rw [e] at h
  exact bo (Prod.ext (by ext h) e)
 have key:∀{a d x:Int},0<d->d*x<=a->a<=d*(x+1)->x=a/d-1\/x=a/d\/x=a/d+1:=λ{a d x} hd h1 h2=>by
  have i1:x<=a/d:=(Md hd).mpr (by rw [Int.mul_comm];exact h1)
  have i2:a/d<=x+1:=by
   have:=Int.ediv_le_ediv hd h2
   rwa [Int.mul_ediv_cancel_left _ (by ext hd)] at this
  ext i1 i2
 have goal:∀{y:Int},(x=y-1\/x=y\/x=y+1)->y=vt l m->x∈vv l m:=λ{y} k e=>by
  unfold vv
  rw [<-e]
  simp only [bx,iC,or_false]
  ext k
 have e1:(l.2-m.2)*x=l.2*x-m.2*x:=Cd ..
 have e2:(l.2-m.2)*(x+1)=l.2*(x+1)-m.2*(x+1):=Cd ..
 have e3:(m.2-l.2)*x=m.2*x-l.2*x:=Cd ..
 have e4:(m.2-l.2)*(x+1)=m.2*(x+1)-l.2*(x+1):=Cd ..
 have e5:(m.2-l.2)*(x+1)=(m.2-l.2)*x+(m.2-l.2):=by rw [zr,rD]
 have e6:(l.2-m.2)*(x+1)=(l.2-m.2)*x+(l.2-m.2):=by rw [zr,rD]
 unfold mm gk at h
 rcases Int.lt_or_lt_of_ne hs with k | k
 .have hd:0<m.2-l.2:=by ext k
  refine goal (key hd (a:=l.1-m.1) (x:=x) ?_ ?_) ?_
  .ext h e3 e4 e5 k
  .ext h e3 e4 e5 k
  .unfold vt;rw [if_pos k]
 .have hd:0<l.2-m.2:=by ext k
  refine goal (key hd (a:=m.1-l.1) (x:=x) ?_ ?_) ?_
  .ext h e1 e3 e4 e5 k
  .ext h e2 e3 e4 e5 k
  .unfold vt;rw [if_neg (by ext k)]
theorem P8(r:Row)(x:Int):r.at (x+1)=r.at x+r.2.2.2:=by
 unfold Row.at
 rw [show x+1-r.1=(x-r.1)+1 by ext,zr,rD];ext
theorem Qg:∀{f:List Row},Canon f->∀{r q:Row},r∈f->q∈f->q.1<=r.2.1+1->r.2.1+1<=q.2.1->q.1=r.2.1+1/\v5 r q
 | [],_,r,q,hr,_,_,_=>by cases hr
 | [a],_,r,q,hr,hq,h1,h2=>by
  rw [cJ.mp hr,cJ.mp hq] at h2
  ext _ h2
 | a::b::f,c,r,q,hr,hq,h1,h2=>by
  have ct:Canon (b::f):=⟨λx hx=>c.1 x (cG _ hx),c.2.2⟩
  have as:=c.dq
  have pa:=(fE.mp as.2).1
  rcases bx.mp hr with rfl | tu
  .rcases bx.mp hq with rfl | dt
   .ext _ h2
   .have p1:=pa q dt
    have hb:q=b:=by
     rcases bx.mp dt with rfl | Fp
     .rfl
     .have p2:=(fE.mp ct.dq.2).1 q Fp
      have p3:=pa b (cm ..)
      have p4:=(c.1 b (by simp)).1
      ext _ h1 p2 p3 p4
    subst hb
    exact ⟨by ext h1 p1,c.2.1⟩
  .rcases bx.mp hq with rfl | dt
   .have:=pa r tu
    have:=(c.1 r hr).1
    omega
   .exact Qg ct tu dt h1 h2
theorem Str.ends{Ls:List (Int×Int)}{B:List Int}{f:List Row}(c:Canon f)(S:Str Ls B (look f)){r:Row}(hr:r∈f):r.2.1∈B\/r.2.1-1∈B:=by
 by_cases b1:r.2.1∈B
 .exact .inl b1
 by_cases b2:r.2.1-1∈B
 .exact .inr b2
 exfalso
 have ok:=(c.1 r hr).1
 have e0:=jR c.dq hr ok (gx _)
 rcases S.sm _ b1 with ⟨z,_⟩ | ⟨l,hl,l1,l2⟩
 .rw [e0] at z;cases z
 obtain ⟨q,hq,q1,q2,q3⟩:=wg l2
 obtain ⟨n1,n2⟩:=Qg c hr hq q1 q2
 obtain ⟨f1,f2⟩:=n2.2 n1
 have e1:=jR c.dq hr (x:=r.2.1-1) (by ext f1) (by ext)
 rcases S.sm _ b2 with ⟨z,_⟩ | ⟨m,hm,m1,m2⟩
 .rw [e1] at z;cases z
 rw [show r.2.1-1+1=r.2.1 by ext] at m2
 have LA:l=m:=by
  by_cases k:l=m
  .exact k
  .refine absurd (S.cl l hl m hm k _ (Xa ?_)) b1
   rw [l1] at m2
   exact cF m2
 subst LA
 rw [e1] at m1
 rw [e0] at l1
 have i1:=cF m1
 have i2:=cF l1
 have i3:=P8 r (r.2.1-1)
 have i4:=DD l (r.2.1-1)
 have i5:=P8 r r.2.1
 have i6:=DD l r.2.1
 rw [show r.2.1-1+1=r.2.1 by ext] at i3 i4
 have i7:q.at q.1=q.2.2.1:=by unfold Row.at;simp
 rw [n1] at f2 i7
 ext q3 f2 i1 i2 i3 i4 i5 i6 i7
theorem JF:∀{l m:List Int},l.Nodup->(∀x∈l,x∈m)->l.length<=m.length
 | [],_,_,_=>jM _
 | a::l,m,h,s=>by
  have ha:=s a (cm ..)
  have hn:=uw.mp h
  have:=JF (m:=m.erase a) hn.2 λx hx=>(List.mem_erase_of_ne (λe:x=a=>hn.1 (by rw [<-e];exact hx))).mpr (s x (cG _ hx))
  rw [List.length_erase_of_mem ha] at this
  have:=List.length_pos_of_mem ha
  rw [iD]
  omega
theorem Str.len{Ls:List (Int×Int)}{B:List Int}{f:List Row}(c:Canon f)(S:Str Ls B (look f)):f.length<=2*B.length:=by
 have nd:(f.map λr=>r.2.1).Nodup:=by
  refine rE.mpr ((c.dq.2.imp_of_mem (S:=λa b=>a.2.1≠b.2.1)) ?_)
  intro a b ha hb h
  have:=(c.1 b hb).1
  ext h this
 have:=JF (m:=B++B.map (·+1)) nd λx hx=>by
  obtain ⟨r,hr,rfl⟩:=e7.mp hx
  rcases S.ends c hr with h | h
  .exact fU _ h
  .exact fF _ (e7.mpr ⟨_,h,by ext⟩)
 rw [bB,bQ,bB] at this
 ext this
theorem mm.symm{l m:Int×Int}{x:Int}(h:mm l m x):mm m l x:=Or.symm h
noncomputable def vw(Ls Lg:List (Int×Int)):List Int:=Ls.flatMap λl=>Lg.flatMap λm=>vv l m
theorem YU(Ls Lg:List (Int×Int)):(vw Ls Lg).length=3*(Ls.length*Lg.length):=by
 have inner:∀(l:Int×Int) (M:List (Int×Int)),(M.flatMap λm=>vv l m).length=3*M.length:=λl M=>by
  induction M with
  | nil=>rfl
  | cons m M ih=>rw [vH,bQ,ih,iD];show 3+_=_;ext
 induction Ls with
 | nil=>simp [vw]
 | cons l Ls ih =>
  unfold vw at *
  rw [vH,bQ,ih,inner,iD,zt,GS]
  ext
theorem IZ{Ls Lg:List (Int×Int)}{l m:Int×Int}(hl:l∈Ls)(hm:m∈Lg)(bo:l≠m){x:Int}(h:mm l m x):x∈vw Ls Lg:=zH.mpr ⟨l,hl,zH.mpr ⟨m,hm,I0 bo h⟩⟩
theorem Str.two{Ls Lg:List (Int×Int)}{B Bg:List Int}{f g h:Int->Option Int}(Sf:Str Ls B f)(Sg:Str Lg Bg g)(op:∀x,sk Ls f x->sk Lg g x->(∀l∈Ls,∀m∈Lg,l≠m->¬mm l m x)->sk (Ls++Lg) h x):Str (Ls++Lg) (B++Bg++vw Ls Lg) h:=by
 refine ⟨λx hx=>?_,λl hl m hm bo x hc=>?_⟩
 .simp only [bK,not_or] at hx
  exact op x (Sf.sm x hx.1.1) (Sg.sm x hx.1.2) λl hl m hm bo hc=>hx.2 (IZ hl hm bo hc)
 .simp only [bK] at hl hm ⊢
  rcases hl with hl | hl<;>rcases hm with hm | hm
  .exact .inl (.inl (Sf.cl l hl m hm bo x hc))
  .exact .inr (IZ hl hm bo hc)
  .exact .inr (IZ hm hl (λe=>bo e.symm) hc.symm)
  .exact .inl (.inr (Sg.cl l hl m hm bo x hc))
theorem Str.min{Ls Lg:List (Int×Int)}{B Bg:List Int}{f g h:Int->Option Int}(Sf:Str Ls B f)(Sg:Str Lg Bg g)(hh:∀x,h x=bU (f x) (g x)):Str (Ls++Lg) (B++Bg++vw Ls Lg) h:=by
 refine Sf.two Sg λx sf sg nc=>?_
 unfold sk
 rw [hh,hh]
 rcases sf with ⟨a1,a2⟩ | ⟨l,hl,a1,a2⟩<;>rcases sg with ⟨b1,b2⟩ | ⟨m,hm,b1,b2⟩<;>rw [a1,a2,b1,b2]
 .exact .inl ⟨rfl,rfl⟩
 .exact .inr ⟨m,fF _ hm,rfl,rfl⟩
 .exact .inr ⟨l,fU _ hl,rfl,rfl⟩
 .right
  by_cases e:l=m
  .subst e
   exact ⟨l,fU _ hl,by simp [bU],by simp [bU]⟩
  .have:=nc l hl m hm e
   unfold mm at this
   rcases Int.lt_or_lt_of_ne (a:=gk l x) (b:=gk m x) (by ext this) with k | k
   .exact ⟨l,fU _ hl,by simp only [bU];congr 1;ext k,by simp only [bU];congr 1;ext this k⟩
   .exact ⟨m,fF _ hm,by simp only [bU];congr 1;ext k,by simp only [bU];congr 1;ext this k⟩
theorem Str.map{Ls:List (Int×Int)}{B B':List Int}{f h:Int->Option Int}(S:Str Ls B f)(φ:Int×Int->Int×Int)(t:Int)(hB:∀x,x∈B->x+t∈B')(Vd:∀l m x,mm (φ l) (φ m) x->mm l m (x-t))(UT:∀x,x∉B'->sk Ls f (x-t)->sk (Ls.map φ) h x):Str (Ls.map φ) B' h:=by
 refine ⟨λx hx=>UT x hx (S.sm _ λz=>hx (by have:=hB _ z;rwa [Int.sub_add_cancel] at this)),λl hl m hm bo x hc=>?_⟩
 obtain ⟨l',U6,rfl⟩:=e7.mp hl
 obtain ⟨m',U4,rfl⟩:=e7.mp hm
 have:=hB _ (S.cl l' U6 m' U4 (λe=>bo (e▸rfl)) _ (Vd l' m' x hc))
 rwa [Int.sub_add_cancel] at this
theorem N8{rs:List Row}{x:Int}(hb:∀r∈rs,aw (10^140) r)(hx:-(10^140)<=x/\x<=10^140){d:D}(hd:d=.tup (rs.map Row.d)\/∃r,d=.lst r (rs.map Row.d)):uS [d,.int x]=some (.sh (jH (look rs x))):=by
 refine Wo.eq (lO.mpr ?_)
 unfold J6
 have main:Wo (forL (gT 4 (kF (gN 2) (kF (gN 3) (kF (gN 4) (kF (gN 5) vU))))) (cc (mQ (bR (aa oZ (eV 2) (eV 1))) (bR (aa oZ (eV 1) (eV 3)))) (aD (aa aQ (eV 4) (aa eh (eV 5) (aa bI (eV 1) (eV 2))))) cK)
   (rs.map Row.d) [.sh d,.sh (.int x),.no,.no,.no,.no]) (mq (aD (eC .aS)) (aN λs=>s=.sh (jH (look rs x)))):=by
  refine nI Row.d (λpre env=>∃x2 x3 x4 x5 rest,env=[.sh d,.sh (.int x),x2,x3,x4,x5]/\rs=pre++rest/\look rs x=look rest x) rs (λpre r post env e h=>?_) (λenv h=>?_) ⟨_,_,_,_,rs,rfl,rfl,rfl⟩
  .obtain ⟨x2,x3,x4,x5,rest,rfl,e2,oS⟩:=h
   obtain rfl:rest=r::post:=Mh (e2.symm.trans e)
   have hr:=hb r (by rw [e];simp)
   unfold aw at hr
   have hm:MulC r.2.2.2 (x-r.1):=Ay (by ext hr) (by ext hr) (by ext hx hr) (by ext hx hr)
   rw [look] at oS
   rw [cq r]
   walk_at "vc"
   refine ⟨λh1=>⟨λh2=>⟨hm,?_⟩,λh2=>?_⟩,λh1=>?_⟩
   .rw [oS,if_pos ⟨h1,h2⟩];rfl
   .rw [if_neg (by ext h2)] at oS
    exact ⟨_,_,_,_,post,rfl,by rw [e];simp,oS⟩
   .rw [if_neg (by ext h1)] at oS
    exact ⟨_,_,_,_,post,rfl,by rw [e];simp,oS⟩
  .obtain ⟨x2,x3,x4,x5,rest,rfl,e2,oS⟩:=h
   have:rest=[]:=by simpa using e2
   subst this
   walk_at "vc"
   rw [oS];rfl
 rcases hd with rfl | ⟨r,rfl⟩
 .rw [Wo_seq,b07,b2Z]
  exact ⟨_,rfl,main⟩
 .rw [Wo_seq,b07,b2Z]
  exact ⟨_,rfl,main⟩
noncomputable def bE(a b:Row):Row:=if b.2.2.2<a.2.2.2 then b else a
noncomputable def gw(a b:Row):Row:=if b.2.2.2<a.2.2.2 then a else b
noncomputable def fT(a b:Row):List Row:=(a.1+b.1,a.1+b.1+bq (bE a b),a.2.2.1+b.2.2.1,(bE a b).2.2.2) ::
 (if (gw a b).1<(gw a b).2.1 then [(a.1+b.1+bq (bE a b)+1,a.2.1+b.2.1,a.2.2.1+b.2.2.1+(bE a b).2.2.2*bq (bE a b)+(gw a b).2.2.2,(gw a b).2.2.2)] else [])
theorem rV(a b:Row):(b.2.2.2<a.2.2.2/\bE a b=b/\gw a b=a)\/(¬b.2.2.2<a.2.2.2/\bE a b=a/\gw a b=b):=by
 unfold bE gw
 by_cases h:b.2.2.2<a.2.2.2
 .exact .inl ⟨h,if_pos h,if_pos h⟩
 .exact .inr ⟨h,if_neg h,if_neg h⟩
theorem b0K{a b f g:Row}(ha:dS 4 a)(hb:dS 4 b)(hF:dS 4 f)(Vb:(b.2.2.2<a.2.2.2/\f=b/\g=a)\/(¬b.2.2.2<a.2.2.2/\f=a/\g=b)):wo [a.d,b.d]=some (.ow (((a.1+b.1,a.1+b.1+bq f,a.2.2.1+b.2.2.1,f.2.2.2)::(if g.1<g.2.1 then [(a.1+b.1+bq f+1,a.2.1+b.2.1,a.2.2.1+b.2.2.1+f.2.2.2*bq f+g.2.2.2,g.2.2.2)] else [])).map Row.d)):=by
 have hm:MulC f.2.2.2 (bq f):=by
  unfold dS at hF
  unfold bq
  exact Ay (by ext hF) (by ext hF) (by ext hF) (by ext hF)
 refine Wo.eq (jW.mpr ?_)
 unfold JL
 walk_at "v1"
 refine Wo.mono (P:=λq=>q=(.nx,[.sh a.d,.sh b.d,.sh f.d,.sh g.d,.no,.no,.no,.no,.no])) ?_ λq hq=>?_
 .rw [a2b,cq a,cq b]
  walk_at "vc"
  rcases Vb with ⟨h,rfl,rfl⟩ | ⟨h,rfl,rfl⟩
  .exact ⟨λ_=>by rw [cq f,cq g],λz=>absurd h z⟩
  .exact ⟨λz=>absurd z h,λ_=>by rw [cq f,cq g]⟩
 subst hq
 rw [cq a,cq b,cq f,cq g]
 walk_at "v1"
 rw [show f.2.1-f.1=bq f from rfl]
 rw [a2b]
 walk_at "vc"
 refine ⟨λh=>⟨hm,?_⟩,λh=>?_⟩
 .rw [if_pos h]
  rfl
 .rw [if_neg h]
  rfl
theorem Zh{a b:Row}(ha:dS 4 a)(hb:dS 4 b):wo [a.d,b.d]=some (.ow ((fT a b).map Row.d)):=by
 have hf:dS 4 (bE a b):=by rcases rV a b with ⟨_,e,_⟩ | ⟨_,e,_⟩<;>rw [e]<;>assumption
 exact b0K ha hb hf (rV a b)
theorem qo{a b:Row}(ha:a.1<=a.2.1)(hb:b.1<=b.2.1):a.2.1+b.2.1=a.1+b.1+bq (bE a b)+bq (gw a b)/\0<=bq (bE a b)/\0<=bq (gw a b)/\(bE a b).2.2.2<=(gw a b).2.2.2:=by
 unfold bq
 rcases rV a b with ⟨h,e1,e2⟩ | ⟨h,e1,e2⟩<;>rw [e1,e2]<;>ext ha hb h
theorem Dq{a b:Row}(ha:a.1<=a.2.1)(hb:b.1<=b.2.1)(x:Int):look (fT a b) x=if a.1+b.1<=x/\x<=a.1+b.1+bq (bE a b) then some (a.2.2.1+b.2.2.1+(bE a b).2.2.2*(x-(a.1+b.1))) else if a.1+b.1+bq (bE a b)<x/\x<=a.2.1+b.2.1 then some (a.2.2.1+b.2.2.1+(bE a b).2.2.2*bq (bE a b)+(gw a b).2.2.2*(x-(a.1+b.1)-bq (bE a b))) else none:=by
 obtain ⟨w1,w2,w3,_⟩:=qo ha hb
 unfold fT
 rw [look]
 by_cases h:a.1+b.1<=x/\x<=a.1+b.1+bq (bE a b)
 .rw [if_pos h,if_pos h];rfl
 .rw [if_neg h,if_neg h]
  by_cases g:(gw a b).1<(gw a b).2.1
  .rw [if_pos g,look]
   by_cases k:a.1+b.1+bq (bE a b)<x/\x<=a.2.1+b.2.1
   .rw [if_pos k,if_pos (by dsimp only;ext k)]
    unfold Row.at
    dsimp only
    congr 1
    rw [show x-(a.1+b.1)-bq (bE a b)=x-(a.1+b.1+bq (bE a b)+1)+1 by ext,zr,rD]
    ext
   .rw [if_neg k,if_neg (by dsimp only;ext k)];rfl
  .have:bq (gw a b)=0:=by unfold bq at *;ext w3 g
   rw [if_neg g,if_neg (by ext w1 this)];rfl
theorem Dp{a b:Row}(ha:a.1<=a.2.1)(hb:b.1<=b.2.1)(x c:Int):look (fT a b) x=some c↔Conv a b x c:=by
 obtain ⟨w1,w2,w3,w4⟩:=qo ha hb
 have sym:∀{c},Conv (bE a b) (gw a b) x c->Conv a b x c:=λ{c} h=>by
  rcases rV a b with ⟨_,e1,e2⟩ | ⟨_,e1,e2⟩<;>rw [e1,e2] at h
  .exact h.sym
  .exact h
 have lo:a.1+b.1=(bE a b).1+(gw a b).1:=by rcases rV a b with ⟨_,e1,e2⟩ | ⟨_,e1,e2⟩<;>rw [e1,e2]<;>ext
 have pr:a.2.2.1+b.2.2.1=(bE a b).2.2.1+(gw a b).2.2.1:=by rcases rV a b with ⟨_,e1,e2⟩ | ⟨_,e1,e2⟩<;>rw [e1,e2]<;>ext
 have fwd:∀c,look (fT a b) x=some c->Conv a b x c:=λc h=>by
  rw [Dq ha hb] at h
  unfold bq at h w1 w2 w3
  split at h
  .have:=uI w4 (x:=x) (i:=x-(a.1+b.1)) (j:=0) (by omega) (by ext w3) (by ext lo) (.inr rfl)
   rw [B8,B7,<-pr] at this
   rw [<-cF h]
   exact sym this
  .split at h
   .have:=uI w4 (x:=x) (i:=(bE a b).2.1-(bE a b).1) (j:=x-(a.1+b.1)-((bE a b).2.1-(bE a b).1)) (by ext w2) (by omega) (by ext lo) (.inl rfl)
    rw [<-pr] at this
    rw [<-cF h]
    exact sym this
   .cases h
 refine ⟨fwd c,λh=>?_⟩
 have d:=h.nh
 cases hl:look (fT a b) x with
 | none =>
  rw [Dq ha hb] at hl
  split at hl
  .cases hl
  .split at hl
   .cases hl
   .omega
 | some c'=>rw [h.uniq (fwd c' hl)]
noncomputable def mL(Cs:List (List Row))(x:Int):Option Int:=Cs.foldl (λo rs=>bU o (look rs x)) none
theorem dM{a b:Option Int}{v:Int}:bU a b=some v↔(a=some v\/b=some v)/\(∀w,a=some w->v<=w)/\∀w,b=some w->v<=w:=by
 cases a<;>cases b<;>simp [bU]<;>ext
theorem fold_min:∀(Cs:List (List Row)) (x:Int) (o:Option Int) (v:Int),Cs.foldl (λo rs=>bU o (look rs x)) o=some v↔(o=some v\/∃rs∈Cs,look rs x=some v)/\(∀w,o=some w->v<=w)/\∀rs∈Cs,∀w,look rs x=some w->v<=w
 | [],x,o,v=>by
  simp only [List.foldl_nil,iC,false_and,exists_false,or_false,false_implies,implies_true,and_true]
  exact ⟨λh=>⟨h,λw e=>by rw [h] at e;cases e;exact gx _⟩,λh=>h.1⟩
 | rs::Cs,x,o,v=>by
  rw [List.foldl_cons,fold_min Cs x _ v,dM]
  constructor
  .rintro ⟨h1,h2,h3⟩
   refine ⟨?_,?_,?_⟩
   .rcases h1 with ⟨h | h,_⟩ | ⟨q,hq,h⟩
    .exact .inl h
    .exact .inr ⟨rs,cm,h⟩
    .exact .inr ⟨q,cG _ hq,h⟩
   .intro w hw
    cases hm:bU o (look rs x) with
    | none=>rw [hw] at hm;cases hl:look rs x<;>rw [hl] at hm<;>simp [bU] at hm
    | some m=>exact GB (h2 m hm) ((dM.mp hm).2.1 w hw)
   .intro q hq w hw
    rcases bx.mp hq with rfl | hq
    .cases hm:bU o (look q x) with
     | none=>rw [hw] at hm;cases o<;>simp [bU] at hm
     | some m=>exact GB (h2 m hm) ((dM.mp hm).2.2 w hw)
    .exact h3 q hq w hw
  .rintro ⟨h1,h2,h3⟩
   refine ⟨?_,?_,λq hq=>h3 q (cG _ hq)⟩
   .rcases h1 with h | ⟨q,hq,h⟩
    .exact .inl ⟨.inl h,h2,h3 rs cm⟩
    .rcases bx.mp hq with rfl | hq
     .exact .inl ⟨.inr h,h2,h3 q cm⟩
     .exact .inr ⟨q,hq,h⟩
   .intro w hw
    obtain ⟨k,_⟩:=dM.mp hw
    rcases k with k | k
    .exact h2 w k
    .exact h3 rs cm w k
theorem W'{a b:Row}(ha:a.1<=a.2.1)(hb:b.1<=b.2.1):∃Ls B,Str Ls B (look (fT a b))/\Ls.length=2/\B.length=5:=by
 obtain ⟨w1,w2,w3,_⟩:=qo ha hb
 have e1:∀x,gk (a.2.2.1+b.2.2.1-(bE a b).2.2.2*(a.1+b.1),(bE a b).2.2.2) x=a.2.2.1+b.2.2.1+(bE a b).2.2.2*(x-(a.1+b.1)):=λx=>by unfold gk;dsimp only;rw [Int.mul_sub];ext
 have e2:∀x,gk (a.2.2.1+b.2.2.1+(bE a b).2.2.2*bq (bE a b)-(gw a b).2.2.2*(a.1+b.1+bq (bE a b)),(gw a b).2.2.2) x=a.2.2.1+b.2.2.1+(bE a b).2.2.2*bq (bE a b)+(gw a b).2.2.2*(x-(a.1+b.1)-bq (bE a b)):=λx=>by
  unfold gk;dsimp only
  rw [show x-(a.1+b.1)-bq (bE a b)=x-(a.1+b.1+bq (bE a b)) by ext,Int.mul_sub]
  ext
 generalize (a.2.2.1+b.2.2.1-(bE a b).2.2.2*(a.1+b.1),(bE a b).2.2.2)=l1 at e1
 generalize (a.2.2.1+b.2.2.1+(bE a b).2.2.2*bq (bE a b)-(gw a b).2.2.2*(a.1+b.1+bq (bE a b)),(gw a b).2.2.2)=l2 at e2
 refine ⟨[l1,l2],[a.1+b.1-1,a.2.1+b.2.1]++vv l1 l2,⟨λx hx=>?_,λl hl m hm bo x hc=>?_⟩,rfl,rfl⟩
 .simp only [bK,bx,iC,or_false,not_or] at hx
  unfold sk
  have t0:(bE a b).2.2.2*(x-(a.1+b.1))=(bE a b).2.2.2*(x-(a.1+b.1)):=rfl
  rw [Dq ha hb,Dq ha hb]
  by_cases c1:x<a.1+b.1
  .left
   exact ⟨by rw [if_neg (by ext c1),if_neg (by ext w2 c1)],by rw [if_neg (by omega),if_neg (by ext w2 c1)]⟩
  by_cases c2:a.2.1+b.2.1<x
  .left
   exact ⟨by rw [if_neg (by ext w1 w3 c2),if_neg (by ext c2)],by rw [if_neg (by ext w1 w3 c2),if_neg (by ext c2)]⟩
  right
  by_cases c3:x<a.1+b.1+bq (bE a b)
  .exact ⟨l1,by simp,by rw [if_pos (by ext c1 c3),e1],by rw [if_pos (by ext c1 c3),e1]⟩
  .refine ⟨l2,by simp,?_,?_⟩
   .by_cases c4:x=a.1+b.1+bq (bE a b)
    .rw [if_pos (by ext c1 c4),e2,c4,show a.1+b.1+bq (bE a b)-(a.1+b.1)=bq (bE a b) by ext,GC,B8,B7]
    .rw [if_neg (by ext c3 c4),if_pos (by ext c2 c3 c4),e2]
   .rw [if_neg (by ext c3),if_pos (by omega),e2]
 .refine fF _ ?_
  simp only [bx,iC,or_false] at hl hm
  rcases hl with rfl | rfl<;>rcases hm with rfl | rfl
  .exact absurd rfl bo
  .exact I0 bo hc
  .exact I0 (λe=>bo e.symm) hc.symm
  .exact absurd rfl bo
theorem OG:∀(ps:List (Row×Row)),(∀p∈ps,p.1.1<=p.1.2.1/\p.2.1<=p.2.2.1)->∀(Ls:List (Int×Int)) (B:List Int) (o:Int->Option Int),Str Ls B o ->
  ∃KP B',Str KP B' (λx=>(ps.map λp=>fT p.1 p.2).foldl (λo rs=>bU o (look rs x)) (o x))/\B'.length<=B.length+5*ps.length+6*(ps.length*(Ls.length+ps.length))
 | [],_,Ls,B,o,S=>⟨Ls,B,S,by simp⟩
 | p::ps,h,Ls,B,o,S=>by
  obtain ⟨k1,k2⟩:=h p cm
  obtain ⟨L2,B2,S2,z1,z2⟩:=W' k1 k2
  obtain ⟨KP,B',S',hl⟩:=OG ps (λq hq=>h q (cG _ hq)) _ _ _ (S.min S2 λx=>rfl)
  refine ⟨KP,B',S',dE hl ?_⟩
  rw [bQ,bQ,bQ,YU,z1,z2,iD]
  generalize ps.length=n
  generalize Ls.length=l
  generalize B.length=b
  have i1:n*(l+2+n)=n*l+2*n+n*n:=by rw [Cc,Cc];ext
  have i2:(n+1)*(l+(n+1))=n*l+n*n+n+l+n+1:=by rw [zt,Cc,Cc];ext
  rw [i1,i2]
  ext
theorem Zb{r1 r2 fs:List Row}(c:Canon fs)(a1:∀r∈r1,r.1<=r.2.1)(a2:∀r∈r2,r.1<=r.2.1)(l1:r1.length<=3)(l2:r2.length<=3)(h:∀x,look fs x=mL ((fX r1 r2).map λp=>fT p.1 p.2) x):fs.length<=1200:=by
 obtain ⟨Ls,B,S,hl⟩:=OG (fX r1 r2) (λp hp=>⟨a1 _ (az.mp hp).1,a2 _ (az.mp hp).2⟩) [] [] (λ_=>none) ⟨λx _=>.inl ⟨rfl,rfl⟩,λl hl=>nomatch hl⟩
 have e:(λx=>((fX r1 r2).map λp=>fT p.1 p.2).foldl (λo rs=>bU o (look rs x)) none)=look fs:=funext λx=>(h x).symm
 rw [e] at S
 have n:=S.len c
 have q:(fX r1 r2).length<=9:=by rw [pairs_len];exact dE (zx l1 l2) (by decide)
 have q2:(fX r1 r2).length*(fX r1 r2).length<=81:=dE (zx q q) (by decide)
 simp only [List.length_nil,rp] at hl
 omega
theorem XS{r1 r2 f1 f2 fs:List Row}(a1:∀r∈r1,r.1<=r.2.1)(a2:∀r∈r2,r.1<=r.2.1)(L1:Laid r1 f1)(L2:Laid r2 f2)(hs:∀x c,look fs x=some c↔nJ f1 f2 x c)(x:Int):look fs x=mL ((fX r1 r2).map λp=>fT p.1 p.2) x:=by
 have e:∀c,nJ f1 f2 x c↔nJ r1 r2 x c:=λc=>by
  unfold nJ
  simp only [L1.val,L2.val]
 have key:∀v,look fs x=some v↔mL ((fX r1 r2).map λp=>fT p.1 p.2) x=some v:=λv=>by
  rw [hs,e,<-Nw a1 a2]
  unfold mL
  rw [fold_min]
  unfold Pk
  constructor
  .rintro ⟨⟨r,hr,s,kj,hc⟩,hm⟩
   refine ⟨.inr ⟨fT r s,e7.mpr ⟨(r,s),az.mpr ⟨hr,kj⟩,rfl⟩,(Dp (a1 r hr) (a2 s kj) x v).mpr hc⟩,λw z=>(nomatch z),λrs oR w hw=>?_⟩
   obtain ⟨p,hp,rfl⟩:=e7.mp oR
   obtain ⟨p1,p2⟩:=az.mp hp
   exact hm _ p1 _ p2 w ((Dp (a1 _ p1) (a2 _ p2) x w).mp hw)
  .rintro ⟨h1,_,h3⟩
   rcases h1 with z | ⟨rs,oR,h⟩
   .cases z
   .obtain ⟨p,hp,rfl⟩:=e7.mp oR
    obtain ⟨p1,p2⟩:=az.mp hp
    refine ⟨⟨p.1,p1,p.2,p2,(Dp (a1 _ p1) (a2 _ p2) x v).mp h⟩,λr hr s kj c' hc=>?_⟩
    exact h3 (fT r s) (e7.mpr ⟨(r,s),az.mpr ⟨hr,kj⟩,rfl⟩) c' ((Dp (a1 r hr) (a2 s kj) x c').mpr hc)
 cases ha:look fs x with
 | some v=>exact ((key v).mp ha).symm
 | none =>
  cases hb:mL ((fX r1 r2).map λp=>fT p.1 p.2) x with
  | none=>rfl
  | some v=>rw [(key v).mpr hb] at ha;cases ha
theorem Zj{Cs:List (List Row)}{x:Int}(hb:∀rs∈Cs,∀r∈rs,aw (10^140) r)(hx:-(10^140)<=x/\x<=10^140){ro:Bool}:wq [.lst ro (Cs.map λrs=>.lst false (rs.map Row.d)),.int x]=some (.sh (jH (mL Cs x))):=by
 refine Wo.eq (jV.mpr ?_)
 unfold JM
 walk_at "v1"
 refine nI (λrs:List Row=>D.lst false (rs.map Row.d)) (λpre env=>∃x3 x4,env=[.sh (.lst ro (Cs.map λrs=>.lst false (rs.map Row.d))),.sh (.int x),.sh (jH (mL pre x)),x3,x4]) Cs (λpre rs post env e h=>?_) (λenv h=>?_) ⟨_,_,rfl⟩
 .obtain ⟨x3,x4,rfl⟩:=h
  have em:mL (pre++[rs]) x=bU (mL pre x) (look rs x):=by unfold mL;rw [List.foldl_append];rfl
  walk_at "v1"
  rw [N8 (hb rs (by rw [e];simp)) hx (.inr ⟨false,rfl⟩)]
  rw [em]
  generalize mL pre x=o
  generalize look rs x=q
  rw [a0g,a2b]
  cases o<;>cases q<;>simp only [jH,bU]<;>walk_at "v1"
  .exact ⟨_,_,rfl⟩
  .exact ⟨_,_,rfl⟩
  .exact ⟨_,_,rfl⟩
  .rename_i u v
   refine ⟨λh=>⟨_,_,by rw [show min u v=v by ext h]⟩,λh=>⟨_,_,by rw [show min u v=u by ext h]⟩⟩
 .obtain ⟨x3,x4,rfl⟩:=h
  walk_at "vc"
theorem Yz{Cs:List (List Row)}{fs:List Row}(hb:∀rs∈Cs++[fs],∀r∈rs,(-(10^60)<=r.1/\r.1<=10^60)/\(-(10^60)<=r.2.1/\r.2.1<=10^60))(hl:2*((Cs++[fs]).map nk).sum+1<4096)(hc:Cs.length<=100):
  ∃ms:List Int,wm [.lst false (Cs.map λrs=>.lst false (rs.map Row.d)),.tup (fs.map Row.d)]=some (.ow (ms.map D.int))/\ms.length<=4096/\∀m∈ms,-(10^61)<=m/\m<=10^61:=by
 have key:Wo (wm [.lst false (Cs.map λrs=>.lst false (rs.map Row.d)),.tup (fs.map Row.d)]) λs=>∃ms:List Int,s=.ow (ms.map D.int)/\ms.length<=4096/\∀m∈ms,-(10^61)<=m/\m<=10^61:=by
  refine lN.mpr ?_
  unfold J7
  walk_at "v1"
  have sD:∀(l:List (List Row)) (rs:List Row),rs∈l->rs.length<=(l.map nk).sum:=λl rs h=>by
   induction l with
   | nil=>cases h
   | cons a l ih =>
    rw [jL,GK]
    rcases bx.mp h with rfl | h
    .ext
    .have:=ih h;ext this
  have hf:=sD (Cs++[fs]) fs (by simp)
  refine ⟨by rw [bB];omega,?_⟩
  rw [show (Cs.map λrs:List Row=>D.lst false (rs.map Row.d))++[D.lst false (fs.map Row.d)]=(Cs++[fs]).map λrs:List Row=>D.lst false (rs.map Row.d) by rw [e8];rfl]
  generalize hD:(Cs++[fs])=Ds at hb hl ⊢
  refine nI (λrs:List Row=>D.lst false (rs.map Row.d)) (λpre env=>∃us x3 x4,env=[.sh (.lst false (Cs.map λrs=>.lst false (rs.map Row.d))),.sh (.tup (fs.map Row.d)),.ow (us.map D.int),x3,x4]/\us.length=2*(pre.map nk).sum/\∀m∈us,-(10^61)<=m/\m<=(10^61:Int)) Ds (λpre rs post env e h=>?_) (λenv h=>?_) ⟨[],_,_,rfl,rfl,λm hm=>nomatch hm⟩
  .obtain ⟨us,x3,x4,rfl,lu,bu⟩:=h
   have oR:=hb rs (by rw [e];simp)
   have UN:(Ds.map nk).sum=(pre.map nk).sum+rs.length+(post.map nk).sum:=by rw [e,e8,jL,t9,GK];ext
   walk_at "v1"
   refine nI Row.d (λq env=>∃vs x4,env=[.sh (.lst false (Cs.map λrs=>.lst false (rs.map Row.d))),.sh (.tup (fs.map Row.d)),.ow (vs.map D.int),.sh (.lst false (rs.map Row.d)),x4]/\vs.length=us.length+2*q.length/\∀m∈vs,-(10^61)<=m/\m<=(10^61:Int)) rs (λq r p env e2 h=>?_) (λenv h=>?_) ⟨us,_,rfl,rfl,bu⟩
   .obtain ⟨vs,x4,rfl,lv,bv⟩:=h
    have hr:=oR r (by rw [e2];simp)
    have hq:q.length+1<=rs.length:=by rw [e2,bQ,iD];ext
    rw [cq r]
    walk_at "vc"
    refine ⟨by rw [bB];omega,by rw [bQ,bB];simp;omega,vs++[r.1,r.2.1+1],_,by rw [e8];simp;rfl,by rw [bQ,bQ];simp;ext lv,λm hm=>?_⟩
    simp only [bK,bx,iC,or_false] at hm
    rcases hm with hm | hm | hm
    .exact bv m hm
    .ext hr hm
    .ext hr hm
   .obtain ⟨vs,x4,rfl,lv,bv⟩:=h
    walk_at "vc"
    refine ⟨vs,_,_,rfl,?_,bv⟩
    rw [lv,lu,e8,t9]
    simp
    ext
  .obtain ⟨us,x3,x4,rfl,lu,bu⟩:=h
   rw [a7v,Aq,Ad (by rfl),b3M,Zy,b2Z]
   obtain ⟨ms,e1,dq,mem⟩:=a9y us (by rw [lu];exact hl)
   refine ⟨_,e1,ms,rfl,?_,λm hm=>bu m ((mem m).mp hm)⟩
   have:=JF (dq.imp λ{a b} h=>Int.ne_of_lt h) λx hx=>(mem x).mp hx
   ext hl lu this
 obtain ⟨s,e,ms,rfl,h⟩:=key
 exact ⟨ms,e,h⟩
theorem Yb(o:Option Int):ec (jH o) (jH o)=some (.sh (.bl false)):=by
 cases o<;>simp [jH,ec,bp]
theorem zo{a b:Row}(ha:dS 4 a)(hb:dS 4 b):(fT a b).length<=2/\∀r∈fT a b,((-(10^60)<=r.1/\r.1<=10^60)/\(-(10^60)<=r.2.1/\r.2.1<=10^60))/\aw (10^140) r:=by
 have hf:dS 4 (bE a b):=by rcases rV a b with ⟨_,e,_⟩ | ⟨_,e,_⟩<;>rw [e]<;>assumption
 have hg:dS 4 (gw a b):=by rcases rV a b with ⟨_,_,e⟩ | ⟨_,_,e⟩<;>rw [e]<;>assumption
 have hw:=qo ha.1 hb.1
 have hm:-(10^42*10^41)<=(bE a b).2.2.2*bq (bE a b)/\(bE a b).2.2.2*bq (bE a b)<=(10^42*10^41:Int):=by
  have h0:=hw.2.1
  have h1:bq (bE a b)<=10^41:=by unfold dS at hf;unfold bq;ext hf
  have h2:-(10^42)<=(bE a b).2.2.2/\(bE a b).2.2.2<=10^42:=by unfold dS at hf;ext hf
  generalize (bE a b).2.2.2=t at *
  generalize bq (bE a b)=u at *
  have i1:=MJ h2.1 h0
  have i2:=MJ h2.2 h0
  omega
 unfold fT
 unfold dS at ha hb hf hg
 refine ⟨by split<;>simp,λr hr=>?_⟩
 unfold bq at *
 rcases bx.mp hr with rfl | hr
 .unfold aw;dsimp only;omega
 .split at hr
  .rw [cJ.mp hr]
   unfold aw;dsimp only;omega
  .cases hr
theorem fin(ns:List Int)(vj:ns.length<=63):Du [.lst true (ns.map D.int)]=some (.sh (.bl true)):=by
 refine Wo.eq (Be.mpr ?_)
 unfold HM
 walk_at "v1"
 obtain ⟨ls,el,BK,_,LC⟩:=b0F ns vj 0 6 (by decide) (by decide) (by decide) (by decide) (r:=true)
 rw [el]
 walk_at "v1"
 have k1:=IM (ls:=ls) (a:=0) (by decide) (c:=2) (by decide) (by ext BK)
 have k2:=IM (ls:=ls) (a:=1) (by decide) (c:=2) (by decide) (by ext BK)
 obtain ⟨r1,f1,e1,l1,L1,F1,g1,A1,B1,n1⟩:=NL (NO LC 0 2) (by ext k1)
 obtain ⟨r2,f2,e2,l2,L2,F2,g2,A2,B2,n2⟩:=NL (NO LC 1 2) (by ext k2)
 obtain ⟨fs,es,cs,hs,ss⟩:=X0 F1 F2 (by ext k1 g1) (by ext k2 g2)
 have Fs:=X4 F1 F2 cs hs
 have same:=XS A1.1 A2.1 L1 L2 hs
 have fl:=Zb cs A1.1 A2.1 (by ext k1 n1) (by ext k2 n2) same
 generalize F4:((fX r1 r2).map λp=>fT p.1 p.2)=Cs at same
 have F5:Cs.length<=9:=by rw [<-F4,bB,pairs_len];exact dE (zx (show r1.length<=3 by ext k1 n1) (show r2.length<=3 by ext k2 n2)) (by decide)
 have F6:∀rs∈Cs,rs.length<=2/\∀r∈rs,((-(10^60)<=r.1/\r.1<=10^60)/\(-(10^60)<=r.2.1/\r.2.1<=10^60))/\aw (10^140) r:=λrs h=>by
  rw [<-F4] at h
  obtain ⟨p,hp,rfl⟩:=e7.mp h
  obtain ⟨p1,p2⟩:=az.mp hp
  exact zo (B1 _ p1) (B2 _ p2)
 have BP:∀r∈fs,((-(10^60)<=r.1/\r.1<=10^60)/\(-(10^60)<=r.2.1/\r.2.1<=10^60)):=λr hr=>by
  have ok:=(cs.1 r hr).1
  have b1:=Fs.bd r.1 _ (jR cs.dq hr (gx _) ok)
  have b2:=Fs.bd r.2.1 _ (jR cs.dq hr ok (gx _))
  ext b1 b2
 have oQ:∀Ds:List (List Row),(∀rs∈Ds,rs.length<=2)->(Ds.map nk).sum<=2*Ds.length:=λDs h=>by
  induction Ds with
  | nil=>simp
  | cons a Ds ih =>
   rw [jL,GK,iD]
   have:=h a cm
   have:=ih λrs hr=>h rs (cG _ hr)
   lia
 obtain ⟨ms,em,ml,mb⟩:=Yz (Cs:=Cs) (fs:=fs) (λrs hr r tq=>by
  rcases bK.mp hr with h | h
  .exact ((F6 rs h).2 r tq).1
  .rw [cJ.mp h] at tq;exact BP r tq) (by
  rw [e8,t9]
  have:=oQ Cs λrs hr=>(F6 rs hr).1
  simp
  lia) (by ext F5)
 rw [bB,OZ,N7 (by decide) (by decide)]
 walk_at "v1"
 obtain ⟨o1,o2⟩:=Nc (ls:=ls) (by ext BK) (a:=0) (c:=2) (by decide) (by decide)
 obtain ⟨o3,o4⟩:=Nc (ls:=ls) (by ext BK) (a:=1) (c:=2) (by decide) (by decide)
 refine ⟨o1,o2,?_⟩
 rw [e1]
 walk_at "v1"
 rw [OZ,N7 (by decide) (by decide)]
 walk_at "v1"
 refine ⟨o3,o4,?_⟩
 rw [e2]
 walk_at "v1"
 rw [l1]
 walk_at "v1"
 rw [l2]
 walk_at "v1"
 rw [es]
 walk_at "v1"
 refine px ?_ ?_
 .walk_at "vc"
  rw [zg cs (Fs.row (by decide) (by decide)) (by lia)]
  walk_at "vc"
 walk_at "v1"
 refine nI Row.d (λpre env=>∃x6,env=[.sh (.lst true (ns.map D.int)),.sh (.lst false (ls.map D.int)),.sh (.lst false (r1.map Row.d)),.sh (.lst false (r2.map Row.d)),.sh (.tup (fs.map Row.d)),.ow (((fX pre r2).map λp=>fT p.1 p.2).map λrs=>.lst false (rs.map Row.d)),x6,.no,.no,.no]) r1 (λpre a post env e h=>?_) (λenv h=>?_) ⟨_,rfl⟩
 .obtain ⟨x6,rfl⟩:=h
  have ha:=B1 a (by rw [e];simp)
  have dO:pre.length<=3:=by have:r1.length=pre.length+(post.length+1):=by { rw [e,bQ,iD] };ext k1 n1 this
  walk_at "v1"
  rw [uJ Row.d (λb=>D.lst false ((fT a b).map Row.d)) (λe=>∃x,e=[x,.sh a.d]) r2 (λb hb e he=>?_) ⟨_,rfl⟩]
  .walk_at "v1"
   have hq:pre.length*r2.length<=3*3:=zx dO (by ext k2 n2)
   have he:((fX (pre++[a]) r2).map λp=>fT p.1 p.2).map (λrs:List Row=>D.lst false (rs.map Row.d))=((fX pre r2).map λp=>fT p.1 p.2).map (λrs:List Row=>D.lst false (rs.map Row.d))++r2.map λb=>D.lst false ((fT a b).map Row.d):=by
    unfold fX
    simp
   rw [he]
   refine ⟨?_,?_,_,rfl⟩
   .rw [bB];ext k2 n2
   .simp only [bB,pairs_len]
    ext k2 n2 hq
  .obtain ⟨x,rfl⟩:=he
   walk_at "vc"
   rw [Zh ha (B2 b hb)]
   walk_at "vc"
   exact ⟨_,rfl⟩
 .obtain ⟨x6,rfl⟩:=h
  rw [F4,a7v,Wo_seq,Aq,Ad (by rfl)]
  walk_at "v1"
  rw [em]
  walk_at "v1"
  rw [bB]
  refine ⟨by unfold R62;lia,?_⟩
  refine Ow _ _ (λk env=>∃x8 x9,env=[.sh (.lst true (ns.map D.int)),.sh (.lst false (ls.map D.int)),.sh (.lst false (r1.map Row.d)),.sh (.lst false (r2.map Row.d)),.sh (.tup (fs.map Row.d)),.sh (.lst false (Cs.map λrs=>.lst false (rs.map Row.d))),x6,.sh (.lst false (ms.map D.int)),x8,x9]) (λk env hk h=>?_) (λenv h=>?_) ⟨_,_,rfl⟩
  .obtain ⟨x8,x9,rfl⟩:=h
   have oV:k<ms.length:=by ext hk
   have tF:k+1<ms.length:=by ext hk
   have at1:dQ (ms.map D.int) (0+(k:Int))=some (.int ms[k]):=by
    rw [Int.zero_add,DL.cn,l9,gO oV];rfl
   have at2:dQ (ms.map D.int) (0+(k:Int)+1)=some (.int ms[k+1]):=by
    rw [Int.zero_add,show (k:Int)+1=((k+1:Nat):Int) by ext,DL.cn,l9,gO tF];rfl
   have m1:=mb _ (nr oV)
   have m2:=mb _ (nr tF)
   generalize ms[k]=u at *
   generalize ms[k+1]=v at *
   have pass:∀(y:Int),-(10^62)<=y/\y<=10^62->∀{Q:Fl×En->Prop},Q (.nx,[.sh (.lst true (ns.map D.int)),.sh (.lst false (ls.map D.int)),.sh (.lst false (r1.map Row.d)),.sh (.lst false (r2.map Row.d)),.sh (.tup (fs.map Row.d)),.sh (.lst false (Cs.map λrs=>.lst false (rs.map Row.d))),x6,.sh (.lst false (ms.map D.int)),.sh (.int (0+(k:Int))),.sh (.int y)]) ->
     Wo (cc (mQ (bR (aa gu (eV 9) (av (bV 7) (aa aQ (eV 8) (eC (D.int 1)))))) (bR (aa ec (aU 2 uS (af (eV 4) (af (eV 9) ae))) (aU 2 wq (af (eV 5) (af (eV 9) ae)))))) (aD (eC (D.bl false))) cK [.sh (.lst true (ns.map D.int)),.sh (.lst false (ls.map D.int)),.sh (.lst false (r1.map Row.d)),.sh (.lst false (r2.map Row.d)),.sh (.tup (fs.map Row.d)),.sh (.lst false (Cs.map λrs=>.lst false (rs.map Row.d))),x6,.sh (.lst false (ms.map D.int)),.sh (.int (0+(k:Int))),.sh (.int y)]) Q:=λy hy {Q} hQ=>by
    refine px ?_ hQ
    walk_at "v1"
    simp only [at2,a0g]
    walk_at "v1"
    intro _
    rw [N8 (Fs.row (by decide) (by decide)) (by ext hy) (.inl rfl)]
    walk_at "v1"
    rw [Zj (λrs hr r tq=>((F6 rs hr).2 r tq).2) (by ext hy)]
    walk_at "v1"
    rw [same,Yb]
    walk_at "v1"
   walk_at "v1"
   simp only [at1,at2,a0g]
   walk_at "v1"
   refine pass u (by ext m1) ?_
   walk_at "v1"
   refine pass (u+1) (by ext m1) ?_
   walk_at "v1"
   refine pass (v-1) (by ext m2) ?_
   walk_at "v1"
   exact ⟨_,_,rfl⟩
  .obtain ⟨x8,x9,rfl⟩:=h
   walk_at "vc"
end My
namespace PySem.W.Fast
theorem tw4383736855776248034:True:=trivial
theorem tw2470101180245031744:True:=trivial
theorem tw8438606429054797873:True:=trivial
theorem tw14227442967151503301:True:=trivial
theorem tw9929964120180656121:True:=trivial
theorem tw3655078368848386783:True:=trivial
theorem tw12991030193979503344:True:=trivial
theorem tw16526303796459203159:True:=trivial
theorem tw13120132332376516618:True:=trivial
theorem tw10852608866424353667:True:=trivial
theorem tw9112690949060236039:True:=trivial
theorem tw15049956186968927878:True:=trivial
theorem tw12088684159100222195:True:=trivial
theorem tw16224730888957122404:True:=trivial
theorem tw2147657692911211711:True:=trivial
theorem tw3177053787202725131:True:=trivial
theorem tw18143558193087669616:True:=trivial
theorem tw17758672322994462421:True:=trivial
theorem tw11618639282053117828:True:=trivial
theorem tw11124546864578063527:True:=trivial
theorem tw8156053066543305429:True:=trivial
theorem tw13297614949914834185:True:=trivial
theorem tw18035288619025960842:True:=trivial
theorem tw13668862233732098435:True:=trivial
theorem tw7267802728747470964:True:=trivial
theorem tw4018344255643220410:True:=trivial
theorem tw4855015610240249065:True:=trivial
theorem tw2590621849487854509:True:=trivial
theorem tw2404585523900714076:True:=trivial
theorem tw65670882344157200:True:=trivial
theorem tw7526681299850290716:True:=trivial
theorem tw5410130985662291836:True:=trivial
theorem tw11103117962654252546:True:=trivial
theorem tw15388248953839794470:True:=trivial
theorem tw6717336125803970813:True:=trivial
theorem tw8185456557955638985:True:=trivial
theorem tw9230356291663745834:True:=trivial
theorem tw3327743258866632592:True:=trivial
theorem tw9853603863340060559:True:=trivial
theorem tw14994941647210116715:True:=trivial
theorem tw105891776021866610:True:=trivial
theorem tw1167066347119087388:True:=trivial
theorem tw17970907530694126441:True:=trivial
theorem tw4244723185142741606:True:=trivial
theorem tw14656456792681085411:True:=trivial
theorem tw18274379208536793982:True:=trivial
theorem tw17452942507910923119:True:=trivial
theorem tw16907365942921586788:True:=trivial
theorem tw2819948092484851380:True:=trivial
theorem tw14715867778750167356:True:=trivial
theorem tw11502262660317177787:True:=trivial
theorem tw197733322436770224:True:=trivial
theorem tw2595029901879322436:True:=trivial
theorem tw13421167352261100837:True:=trivial
theorem tw14222082915174259253:True:=trivial
theorem tw15211385669950813629:True:=trivial
theorem tw10330233749486595252:True:=trivial
theorem tw4755589046103398656:True:=trivial
theorem tw3298959504484005923:True:=trivial
theorem tw8176980467728152164:True:=trivial
theorem tw1251011070570914302:True:=trivial
theorem tw14884732729639142188:True:=trivial
theorem tw1337413536297088633:True:=trivial
theorem tw609455963697006650:True:=trivial
theorem tw12410919888329567173:True:=trivial
theorem tw6709712467861569285:True:=trivial
theorem tw7516851881331668285:True:=trivial
theorem tw5517115063313243784:True:=trivial
theorem tw6115534513390821028:True:=trivial
theorem tw17575170495811362944:True:=trivial
theorem tw4286652279489470269:True:=trivial
theorem tw3930323101932876385:True:=trivial
theorem tw7888274229844324539:True:=trivial
theorem tw14569203873958276848:True:=trivial
theorem tw7751316197688248800:True:=trivial
theorem tw13522665929929133482:True:=trivial
theorem tw269169994603748060:True:=trivial
theorem tw2652127157737823551:True:=trivial
theorem tw2591491127819463678:True:=trivial
theorem tw18121587253861386583:True:=trivial
theorem tw8010674985459703657:True:=trivial
theorem tw16924024992565616718:True:=trivial
theorem tw2867683121032799322:True:=trivial
theorem tw1862699873556872084:True:=trivial
theorem tw7706603618172362761:True:=trivial
theorem tw16570300123735306806:True:=trivial
theorem tw628066527165024032:True:=trivial
theorem tw543877248451398500:True:=trivial
theorem tw8206425394108779405:True:=trivial
theorem tw4040415845895530666:True:=trivial
theorem tw11620823445329847741:True:=trivial
theorem tw2669665744553441452:True:=trivial
theorem tw12582435054562721401:True:=trivial
theorem tw7790402632624663316:True:=trivial
theorem tw13762866329710724726:True:=trivial
theorem tw12070459891739711390:True:=trivial
theorem tw5298110130504267528:True:=trivial
theorem tw2141030401973863267:True:=trivial
theorem tw13766928376978612023:True:=trivial
theorem tw15303563765823555049:True:=trivial
theorem tw13086371259368665054:True:=trivial
theorem tw12858842844187137877:True:=trivial
theorem tw9163412337250201125:True:=trivial
theorem tw8294337283068529529:True:=trivial
theorem tw9231487289254400019:True:=trivial
theorem tw2119668252561107804:True:=trivial
theorem tw14008577523900915112:True:=trivial
theorem tw495709575979176035:True:=trivial
theorem tw3056340333713656885:True:=trivial
theorem tw16327665963921554394:True:=trivial
theorem tw9967668479926616302:True:=trivial
theorem tw11035508742311912489:True:=trivial
theorem tw11627449547684305596:True:=trivial
theorem tw13074615497620073422:True:=trivial
theorem tw11394142282667760263:True:=trivial
theorem tw2242190919287304867:True:=trivial
theorem tw3819559913028995855:True:=trivial
theorem tw3172272777763162482:True:=trivial
theorem tw10328004033827697467:True:=trivial
theorem tw6473729581202838860:True:=trivial
theorem tw3028121252726495810:True:=trivial
theorem tw16031169404810249102:True:=trivial
theorem tw4054024803258297717:True:=trivial
theorem tw13174761056527551405:True:=trivial
theorem tw15401615393232929922:True:=trivial
theorem tw3057240740404355805:True:=trivial
theorem tw4105906818095175234:True:=trivial
theorem tw668048263860085027:True:=trivial
theorem tw3433918902730957446:True:=trivial
theorem tw3114088702468341253:True:=trivial
theorem tw10693911333281522270:True:=trivial
theorem tw5629903591199854000:True:=trivial
theorem tw12671822729680449984:True:=trivial
theorem tw4387654292106015143:True:=trivial
theorem tw14119145264465527244:True:=trivial
theorem tw17559579293381755733:True:=trivial
theorem tw6906910161013616864:True:=trivial
theorem tw1027105270720578591:True:=trivial
theorem tw657173480824153210:True:=trivial
theorem tw11180684769144364408:True:=trivial
theorem tw16686763487951927716:True:=trivial
theorem tw6663764534427457396:True:=trivial
theorem tw16373500337556898172:True:=trivial
theorem tw5033049070417730094:True:=trivial
theorem tw14653522221722886246:True:=trivial
theorem tw6654806463700383220:True:=trivial
theorem tw18445775444719204126:True:=trivial
theorem tw1546563749314623689:True:=trivial
theorem tw11802203971315991222:True:=trivial
theorem tw10317327880230758633:True:=trivial
theorem tw16295047989068733207:True:=trivial
theorem tw7764015348783134846:True:=trivial
theorem tw7477110653579331659:True:=trivial
theorem tw3737142435442740831:True:=trivial
theorem tw17374994315936956983:True:=trivial
theorem tw14142785538191227432:True:=trivial
theorem tw14151119638934789911:True:=trivial
theorem tw7748305202869534640:True:=trivial
theorem tw17952710524999119704:True:=trivial
theorem tw6192273433371912443:True:=trivial
theorem tw4519796667579809507:True:=trivial
theorem tw16199550650897326338:True:=trivial
theorem tw10338493918829735559:True:=trivial
theorem tw1182617471995672714:True:=trivial
end PySem.W.Fast
open PySem PySem.W PyProof.Rows
set_option maxRecDepth 100000 in
set_option maxHeartbeats 0 in
theorem PySem.Challenge.cw_offerhouse_k50_whole_at_every_amount_holds : PySem.Challenge.rw_offerhouse_k50_whole_at_every_amount.Holds := by
  w_on; o_law; k_head; (case hw => w_witness2)
  k_fill
  refine DL.nM (l := PySem.Challenge.rw_offerhouse_k50_whole_at_every_amount) (k := 14) ⟨rfl, by decide, by decide⟩ rfl rfl (ts := []) (fun w h Y => ⟨PySem.W.kIn_of Y, fun _ z => nomatch z⟩) (fun w => by kernel_rfl) ?F
  case F =>
    intro w mg fa h KX G yC
    refine' My.all_mk KX G yC ?i1 ?i2 ?i3 ?i4 ?i5 ?i6 ?i7 ?i8 ?i9 ?i10 ?i11 ?i12 ?i13 ?i14 ?i15 ?i16 ?i17 ?i18 ?i19 ?i20 ?i21 ?i22 ?i23 ?i24 ?i25 ?i26 ?i27 ?i28 ?i29 ?i30 ?i31 ?i32 ?i33 ?i34 ?i35 ?i36 ?i37 ?i38 ?i39 ?zmax ?zmin ?zall ?zzip ?zisinstance ?ztuple ?zlen ?zbool ?zint ?zsorted ?zsum ?zMOST_PICKS ?zrange ?zset ?zlist ?fin
    (case i1 => constructor <;> k_is)
    (case i2 => constructor <;> k_is)
    (case i3 => constructor <;> k_is)
    (case i4 => constructor <;> k_is)
    (case i5 => constructor <;> k_is)
    (case i6 => constructor <;> k_is)
    (case i7 => constructor <;> k_is)
    (case i8 => constructor <;> k_is)
    (case i9 => constructor <;> k_is)
    (case i10 => constructor <;> k_is)
    (case i11 => constructor <;> k_is)
    (case i12 => constructor <;> k_is)
    (case i13 => constructor <;> k_is)
    (case i14 => constructor <;> k_is)
    (case i15 => constructor <;> k_is)
    (case i16 => constructor <;> k_is)
    (case i17 => constructor <;> k_is)
    (case i18 => constructor <;> k_is)
    (case i19 => constructor <;> k_is)
    (case i20 => constructor <;> k_is)
    (case i21 => constructor <;> k_is)
    (case i22 => constructor <;> k_is)
    (case i23 => constructor <;> k_is)
    (case i24 => constructor <;> k_is)
    (case i25 => constructor <;> k_is)
    (case i26 => constructor <;> k_is)
    (case i27 => constructor <;> k_is)
    (case i28 => constructor <;> k_is)
    (case i29 => constructor <;> k_is)
    (case i30 => constructor <;> k_is)
    (case i31 => constructor <;> k_is)
    (case i32 => constructor <;> k_is)
    (case i33 => constructor <;> k_is)
    (case i34 => constructor <;> k_is)
    (case i35 => constructor <;> k_is)
    (case i36 => constructor <;> k_is)
    (case i37 => constructor <;> k_is)
    (case i38 => constructor <;> k_is)
    (case i39 => constructor <;> k_is)
    (case zmax => k_is)
    (case zmin => k_is)
    (case zall => k_is)
    (case zzip => k_is)
    (case zisinstance => k_is)
    (case ztuple => k_is)
    (case zlen => k_is)
    (case zbool => k_is)
    (case zint => k_is)
    (case zsorted => k_is)
    (case zsum => k_is)
    (case zMOST_PICKS => exact ⟨_, by k_is⟩)
    (case zrange => k_is)
    (case zset => k_is)
    (case zlist => k_is)
    (case fin => exact My.fin)
